import PyProof.Rows.All
import Wide.All
import OpenK.KLine
import OpenK.KOwn
import OpenK.KRaise
import OpenK.KDescr
import OpenK.KCall
import OpenK.KCls
import OpenK.KMake
import OpenK.KMore
import OpenK.Peek
import KE.KFromBytes
import KE.KIsAll
import KE.KItem
import KE.KxBytes
import Wide.FinOn
import PyProof.EqAt
import PyProof.EqKinds
import PyProof.NeKinds
import PyProof.TupleCall
import PyProof.ExcBaseAll.ValueError
import PyProof.NsDelKeeps
import Lean
import PySem.Challenge.RW_fencegate_k12_numbers_rise
set_option Elab.async false
set_option linter.all false
set_option maxRecDepth 100000
set_option maxHeartbeats 4000000
section
namespace Fg
open PySem
def ktop (i : Nat) : Stmt := PySem.Challenge.pw_fencegate_k12_numbers_rise.main.body.getD i (.Pass ⟨0, 0, 0, 0⟩)
def zhg (s : Stmt) : Arguments := match s with
 | .FunctionDef _ a _ _ _ _ _ _ _ _ => a
 | _ => { posonlyargs := [], args := [], vararg := none, kwonlyargs := [], kw_defaults := [], kwarg := none, defaults := [] }
def zhh (s : Stmt) : List Stmt := match s with
 | .FunctionDef _ _ b _ _ _ _ _ _ _ => b
 | _ => []
def zgn (s : Stmt) : Scope := match s with
 | .FunctionDef _ _ _ _ _ _ sc _ _ _ => sc
 | _ => { kind := .function, names := [], isGenerator := false, isCoroutine := false }
def kcls (s : Stmt) (j : Nat) : Stmt := match s with
 | .ClassDef _ _ _ body _ _ _ _ _ _ _ => body.getD j (.Pass ⟨0, 0, 0, 0⟩)
 | _ => .Pass ⟨0, 0, 0, 0⟩
def kS (x : String) (n : Nat) : Value := .str (Str.ofString x) n
def kE (P : Params) (x : String) (n : Nat) (v : Value) : DictEntry := ⟨PyData.keyHash P (Str.ofString x), kS x n, v⟩
def kC (vs : Array Value) : Obj := { cls := .type "code", data := .fields vs }
def kF (n q : String) (s : Stmt) (m : Value) (c : Addr) : Obj := { cls := .type "function", data := .func { name := Str.ofString n, qualname := Str.ofString q, params := zhg s, body := .stmts (zhh s), scope := zgn s, globals := 3, closure := [], defaults := .none, kwdefaults := .none, pyModule := m, code := .ref c } }
def kk : Params → PySem.W.Frag := fun P => (nat_lit 2, { cls := .none, data := Data.dict #[] }) ::
 (nat_lit 3, { cls := .type "dict", data := Data.dict #[kE P "__name__" 165 (kS "law_fencegate_k12_numbers_rise" 579), kE P "__doc__" 166 (.none), kE P "__package__" 167 (.none), kE P "__loader__" 168 (.builtin "__main__.__loader__#opaque"), kE P "__spec__" 169 (.none), kE P "__annotations__" 170 (.ref 6), kE P "__builtins__" 171 (.ref 4), kE P "__file__" 173 (kS "/claim/cut.py" 172), kE P "__cached__" 174 (.none), kE P "_wall" 193 (.ref 21), kE P "GateError" 220 (.ref 38), kE P "UnknownKeeper" 243 (.ref 58), kE P "Down" 266 (.ref 77), kE P "OldNumber" 289 (.ref 96), kE P "InTheWay" 312 (.ref 115), kE P "NotFree" 335 (.ref 134), kE P "within" 346 (.ref 143), kE P "on_line" 354 (.ref 150), kE P "in_way" 364 (.ref 157), kE P "Keeper" 445 (.ref 215), kE P "Council" 578 (.ref 312), kE P "_law_at" 588 (.ref 323), kE P "_law_same" 594 (.ref 328), kE P "_law_name" 609 (.ref 335), kE P "_law_names" 615 (.ref 340), kE P "_law_locks" 629 (.ref 347), kE P "_law_some" 640 (.ref 354), kE P "_law_setup" 652 (.ref 361), kE P "_law_asked" 664 (.ref 368), kE P "_law_line" 675 (.ref 375), kE P "_law_way" 685 (.ref 382), kE P "_law_given" 695 (.ref 389), kE P "_law_clear" 706 (.ref 396), kE P "_law_right" 712 (.ref 401), kE P "law" 718 (.ref 406)] 35 }) ::
 (nat_lit 37, { cls := .type "dict", data := Data.dict #[kE P "__module__" 203 (kS "fencegate.errors" 194), kE P "__firstlineno__" 207 (.int 5 206), kE P "word" 214 (.ref 35), kE P "__static_attributes__" 215 (.ref 36), kE P "__weakref__" 217 (.ref 39), kE P "__doc__" 218 (.none)] 3 }) ::
 (nat_lit 38, { cls := .type "type", data := Data.cls { name := Str.ofString "GateError", bases := [.type "ValueError"], mro := [.ref 38, .type "ValueError", .type "Exception", .type "BaseException", .type "object"], ns := 37, qualname := Str.ofString "GateError", subclasses := [.ref 58, .ref 77, .ref 96, .ref 115, .ref 134] }, slots := #[some (.ref 22), none, some (kS "GateError" 196), some (kS "GateError" 204), some (.builtin "ValueError.__new__"), some (.bool true)] }) ::
 (nat_lit 39, { cls := .type "getset_descriptor", data := Data.fields #[kS "__weakref__" 216, .ref 38, .builtin "ExceptionGroup.__weakref__", .none] }) ::
 (nat_lit 57, { cls := .type "dict", data := Data.dict #[kE P "__module__" 228 (kS "fencegate.errors" 194), kE P "__firstlineno__" 232 (.int 9 231), kE P "word" 239 (.ref 55), kE P "__static_attributes__" 240 (.ref 56), kE P "__doc__" 241 (.none)] 2 }) ::
 (nat_lit 58, { cls := .type "type", data := Data.cls { name := Str.ofString "UnknownKeeper", bases := [.ref 38], mro := [.ref 58, .ref 38, .type "ValueError", .type "Exception", .type "BaseException", .type "object"], ns := 57, qualname := Str.ofString "UnknownKeeper" }, slots := #[some (.ref 42), none, some (kS "UnknownKeeper" 221), some (kS "UnknownKeeper" 229), some (.builtin "ValueError.__new__"), some (.bool true)] }) ::
 (nat_lit 76, { cls := .type "dict", data := Data.dict #[kE P "__module__" 251 (kS "fencegate.errors" 194), kE P "__firstlineno__" 255 (.int 13 254), kE P "word" 262 (.ref 74), kE P "__static_attributes__" 263 (.ref 75), kE P "__doc__" 264 (.none)] 2 }) ::
 (nat_lit 77, { cls := .type "type", data := Data.cls { name := Str.ofString "Down", bases := [.ref 38], mro := [.ref 77, .ref 38, .type "ValueError", .type "Exception", .type "BaseException", .type "object"], ns := 76, qualname := Str.ofString "Down" }, slots := #[some (.ref 61), none, some (kS "Down" 244), some (kS "Down" 252), some (.builtin "ValueError.__new__"), some (.bool true)] }) ::
 (nat_lit 95, { cls := .type "dict", data := Data.dict #[kE P "__module__" 274 (kS "fencegate.errors" 194), kE P "__firstlineno__" 278 (.int 17 277), kE P "word" 285 (.ref 93), kE P "__static_attributes__" 286 (.ref 94), kE P "__doc__" 287 (.none)] 2 }) ::
 (nat_lit 96, { cls := .type "type", data := Data.cls { name := Str.ofString "OldNumber", bases := [.ref 38], mro := [.ref 96, .ref 38, .type "ValueError", .type "Exception", .type "BaseException", .type "object"], ns := 95, qualname := Str.ofString "OldNumber" }, slots := #[some (.ref 80), none, some (kS "OldNumber" 267), some (kS "OldNumber" 275), some (.builtin "ValueError.__new__"), some (.bool true)] }) ::
 (nat_lit 114, { cls := .type "dict", data := Data.dict #[kE P "__module__" 297 (kS "fencegate.errors" 194), kE P "__firstlineno__" 301 (.int 21 300), kE P "word" 308 (.ref 112), kE P "__static_attributes__" 309 (.ref 113), kE P "__doc__" 310 (.none)] 2 }) ::
 (nat_lit 115, { cls := .type "type", data := Data.cls { name := Str.ofString "InTheWay", bases := [.ref 38], mro := [.ref 115, .ref 38, .type "ValueError", .type "Exception", .type "BaseException", .type "object"], ns := 114, qualname := Str.ofString "InTheWay" }, slots := #[some (.ref 99), none, some (kS "InTheWay" 290), some (kS "InTheWay" 298), some (.builtin "ValueError.__new__"), some (.bool true)] }) ::
 (nat_lit 133, { cls := .type "dict", data := Data.dict #[kE P "__module__" 320 (kS "fencegate.errors" 194), kE P "__firstlineno__" 324 (.int 25 323), kE P "word" 331 (.ref 131), kE P "__static_attributes__" 332 (.ref 132), kE P "__doc__" 333 (.none)] 2 }) ::
 (nat_lit 134, { cls := .type "type", data := Data.cls { name := Str.ofString "NotFree", bases := [.ref 38], mro := [.ref 134, .ref 38, .type "ValueError", .type "Exception", .type "BaseException", .type "object"], ns := 133, qualname := Str.ofString "NotFree" }, slots := #[some (.ref 118), none, some (kS "NotFree" 313), some (kS "NotFree" 321), some (.builtin "ValueError.__new__"), some (.bool true)] }) ::
 (nat_lit 142, kC #[kS "within" 338, kS "within" 339, kS "/claim/cut.py" 340, .int 30 0, .int 2 0, .int 0 0, .int 0 0, .int 3 0, .ref 137, .bool true, .int 181 0, .ref 138, .none, .ref 139, .ref 140, .ref 141, .int 344 0, .int 30 0, kS "/claim/cut.py" 345]) ::
 (nat_lit 143, kF "within" "within" (ktop 9) (kS "fencegate.paths" 336) 142) ::
 (nat_lit 149, kC #[kS "on_line" 347, kS "on_line" 348, kS "/claim/cut.py" 349, .int 33 0, .int 2 0, .int 0 0, .int 0 0, .int 3 0, .ref 144, .bool true, .int 181 0, .ref 145, .none, .ref 146, .ref 147, .ref 148, .int 352 0, .int 33 0, kS "/claim/cut.py" 353]) ::
 (nat_lit 150, kF "on_line" "on_line" (ktop 10) (kS "fencegate.paths" 336) 149) ::
 (nat_lit 156, kC #[kS "in_way" 355, kS "in_way" 356, kS "/claim/cut.py" 357, .int 35 0, .int 4 0, .int 0 0, .int 0 0, .int 3 0, .ref 151, .bool true, .int 181 0, .ref 152, .none, .ref 153, .ref 154, .ref 155, .int 362 0, .int 35 0, kS "/claim/cut.py" 363]) ::
 (nat_lit 157, kF "in_way" "in_way" (ktop 11) (kS "fencegate.paths" 336) 156) ::
 (nat_lit 170, kC #[kS "__init__" 379, kS "Keeper.__init__" 380, kS "/claim/cut.py" 381, .int 40 0, .int 1 0, .int 0 0, .int 0 0, .int 3 0, .ref 165, .bool true, .int 181 0, .ref 166, .none, .ref 167, .ref 168, .ref 169, .int 383 0, .int 40 0, kS "/claim/cut.py" 384]) ::
 (nat_lit 171, kF "__init__" "Keeper.__init__" (kcls (ktop 13) 0) (kS "fencegate.keeper" 365) 170) ::
 (nat_lit 177, kC #[kS "fall" 386, kS "Keeper.fall" 387, kS "/claim/cut.py" 388, .int 45 0, .int 1 0, .int 0 0, .int 0 0, .int 3 0, .ref 172, .bool true, .int 181 0, .ref 173, .none, .ref 174, .ref 175, .ref 176, .int 390 0, .int 45 0, kS "/claim/cut.py" 391]) ::
 (nat_lit 178, kF "fall" "Keeper.fall" (kcls (ktop 13) 1) (kS "fencegate.keeper" 365) 177) ::
 (nat_lit 184, kC #[kS "rise" 393, kS "Keeper.rise" 394, kS "/claim/cut.py" 395, .int 48 0, .int 1 0, .int 0 0, .int 0 0, .int 3 0, .ref 179, .bool true, .int 181 0, .ref 180, .none, .ref 181, .ref 182, .ref 183, .int 397 0, .int 48 0, kS "/claim/cut.py" 398]) ::
 (nat_lit 185, kF "rise" "Keeper.rise" (kcls (ktop 13) 2) (kS "fencegate.keeper" 365) 184) ::
 (nat_lit 189, kC #[kS "live" 400, kS "Keeper.live" 401, kS "/claim/cut.py" 402, .int 51 0, .int 2 0, .int 0 0, .int 0 0, .int 3 0, .ref 186, .bool true, .int 181 0, .ref 187, .none, .none, .none, .ref 188, .int 403 0, .int 51 0, kS "/claim/cut.py" 404]) ::
 (nat_lit 190, kF "live" "Keeper.live" (kcls (ktop 13) 3) (kS "fencegate.keeper" 365) 189) ::
 (nat_lit 194, kC #[kS "names_in_way" 406, kS "Keeper.names_in_way" 407, kS "/claim/cut.py" 408, .int 54 0, .int 5 0, .int 0 0, .int 0 0, .int 3 0, .ref 191, .bool true, .int 181 0, .ref 192, .none, .none, .none, .ref 193, .int 409 0, .int 54 0, kS "/claim/cut.py" 410]) ::
 (nat_lit 195, kF "names_in_way" "Keeper.names_in_way" (kcls (ktop 13) 4) (kS "fencegate.keeper" 365) 194) ::
 (nat_lit 201, kC #[kS "says_free" 412, kS "Keeper.says_free" 413, kS "/claim/cut.py" 414, .int 58 0, .int 5 0, .int 0 0, .int 0 0, .int 3 0, .ref 196, .bool true, .int 181 0, .ref 197, .none, .ref 198, .ref 199, .ref 200, .int 420 0, .int 58 0, kS "/claim/cut.py" 421]) ::
 (nat_lit 202, kF "says_free" "Keeper.says_free" (kcls (ktop 13) 5) (kS "fencegate.keeper" 365) 201) ::
 (nat_lit 206, kC #[kS "take" 423, kS "Keeper.take" 424, kS "/claim/cut.py" 425, .int 61 0, .int 7 0, .int 0 0, .int 0 0, .int 3 0, .ref 203, .bool true, .int 181 0, .ref 204, .none, .none, .none, .ref 205, .int 426 0, .int 61 0, kS "/claim/cut.py" 427]) ::
 (nat_lit 207, kF "take" "Keeper.take" (kcls (ktop 13) 6) (kS "fencegate.keeper" 365) 206) ::
 (nat_lit 211, kC #[kS "drop" 429, kS "Keeper.drop" 430, kS "/claim/cut.py" 431, .int 72 0, .int 3 0, .int 0 0, .int 0 0, .int 3 0, .ref 208, .bool true, .int 181 0, .ref 209, .none, .none, .none, .ref 210, .int 432 0, .int 72 0, kS "/claim/cut.py" 433]) ::
 (nat_lit 212, kF "drop" "Keeper.drop" (kcls (ktop 13) 7) (kS "fencegate.keeper" 365) 211) ::
 (nat_lit 214, { cls := .type "dict", data := Data.dict #[kE P "__module__" 374 (kS "fencegate.keeper" 365), kE P "__firstlineno__" 378 (.int 38 377), kE P "__init__" 385 (.ref 171), kE P "fall" 392 (.ref 178), kE P "rise" 399 (.ref 185), kE P "live" 405 (.ref 190), kE P "names_in_way" 411 (.ref 195), kE P "says_free" 422 (.ref 202), kE P "take" 428 (.ref 207), kE P "drop" 434 (.ref 212), kE P "__static_attributes__" 438 (.ref 213), kE P "__dict__" 440 (.ref 216), kE P "__weakref__" 442 (.ref 217), kE P "__doc__" 443 (.none)] 4 }) ::
 (nat_lit 215, { cls := .type "type", data := Data.cls { name := Str.ofString "Keeper", bases := [.type "object"], mro := [.ref 215, .type "object"], ns := 214, qualname := Str.ofString "Keeper" }, slots := #[none, none, some (kS "Keeper" 367), some (kS "Keeper" 375), some (.builtin "object.__new__"), some (.bool true)] }) ::
 (nat_lit 216, { cls := .type "getset_descriptor", data := Data.fields #[kS "__dict__" 439, .ref 215, .builtin "function.__dict__", .builtin "function.__dict__#set"] }) ::
 (nat_lit 217, { cls := .type "getset_descriptor", data := Data.fields #[kS "__weakref__" 441, .ref 215, .builtin "ExceptionGroup.__weakref__", .none] }) ::
 (nat_lit 230, kC #[kS "__init__" 460, kS "Council.__init__" 461, kS "/claim/cut.py" 462, .int 80 0, .int 2 0, .int 0 0, .int 0 0, .int 3 0, .ref 227, .bool true, .int 181 0, .ref 228, .none, .none, .none, .ref 229, .int 463 0, .int 80 0, kS "/claim/cut.py" 464]) ::
 (nat_lit 231, kF "__init__" "Council.__init__" (kcls (ktop 15) 0) (kS "fencegate.council" 446) 230) ::
 (nat_lit 237, kC #[kS "keeper_at" 466, kS "Council.keeper_at" 467, kS "/claim/cut.py" 468, .int 84 0, .int 2 0, .int 0 0, .int 0 0, .int 3 0, .ref 232, .bool true, .int 181 0, .ref 233, .none, .ref 234, .ref 235, .ref 236, .int 471 0, .int 84 0, kS "/claim/cut.py" 472]) ::
 (nat_lit 238, kF "keeper_at" "Council.keeper_at" (kcls (ktop 15) 1) (kS "fencegate.council" 446) 237) ::
 (nat_lit 242, kC #[kS "up_keepers" 474, kS "Council.up_keepers" 475, kS "/claim/cut.py" 476, .int 89 0, .int 1 0, .int 0 0, .int 0 0, .int 3 0, .ref 239, .bool true, .int 181 0, .ref 240, .none, .none, .none, .ref 241, .int 477 0, .int 89 0, kS "/claim/cut.py" 478]) ::
 (nat_lit 243, kF "up_keepers" "Council.up_keepers" (kcls (ktop 15) 2) (kS "fencegate.council" 446) 242) ::
 (nat_lit 249, kC #[kS "fall" 480, kS "Council.fall" 481, kS "/claim/cut.py" 482, .int 92 0, .int 2 0, .int 0 0, .int 0 0, .int 3 0, .ref 244, .bool true, .int 181 0, .ref 245, .none, .ref 246, .ref 247, .ref 248, .int 487 0, .int 92 0, kS "/claim/cut.py" 488]) ::
 (nat_lit 250, kF "fall" "Council.fall" (kcls (ktop 15) 3) (kS "fencegate.council" 446) 249) ::
 (nat_lit 256, kC #[kS "rise" 490, kS "Council.rise" 491, kS "/claim/cut.py" 492, .int 98 0, .int 2 0, .int 0 0, .int 0 0, .int 3 0, .ref 251, .bool true, .int 181 0, .ref 252, .none, .ref 253, .ref 254, .ref 255, .int 497 0, .int 98 0, kS "/claim/cut.py" 498]) ::
 (nat_lit 257, kF "rise" "Council.rise" (kcls (ktop 15) 4) (kS "fencegate.council" 446) 256) ::
 (nat_lit 270, kC #[kS "notes" 507, kS "Council.notes" 508, kS "/claim/cut.py" 509, .int 107 0, .int 3 0, .int 0 0, .int 0 0, .int 3 0, .ref 265, .bool true, .int 181 0, .ref 266, .none, .ref 267, .ref 268, .ref 269, .int 513 0, .int 107 0, kS "/claim/cut.py" 514]) ::
 (nat_lit 271, kF "notes" "Council.notes" (kcls (ktop 15) 6) (kS "fencegate.council" 446) 270) ::
 (nat_lit 275, kC #[kS "sayers" 516, kS "Council.sayers" 517, kS "/claim/cut.py" 518, .int 110 0, .int 5 0, .int 0 0, .int 0 0, .int 3 0, .ref 272, .bool true, .int 181 0, .ref 273, .none, .none, .none, .ref 274, .int 519 0, .int 110 0, kS "/claim/cut.py" 520]) ::
 (nat_lit 276, kF "sayers" "Council.sayers" (kcls (ktop 15) 7) (kS "fencegate.council" 446) 275) ::
 (nat_lit 280, kC #[kS "give" 522, kS "Council.give" 523, kS "/claim/cut.py" 524, .int 113 0, .int 6 0, .int 0 0, .int 0 0, .int 3 0, .ref 277, .bool true, .int 181 0, .ref 278, .none, .none, .none, .ref 279, .int 525 0, .int 113 0, kS "/claim/cut.py" 526]) ::
 (nat_lit 281, kF "give" "Council.give" (kcls (ktop 15) 8) (kS "fencegate.council" 446) 280) ::
 (nat_lit 287, kC #[kS "drop" 528, kS "Council.drop" 529, kS "/claim/cut.py" 530, .int 122 0, .int 3 0, .int 0 0, .int 0 0, .int 3 0, .ref 282, .bool true, .int 181 0, .ref 283, .none, .ref 284, .ref 285, .ref 286, .int 537 0, .int 122 0, kS "/claim/cut.py" 538]) ::
 (nat_lit 288, kF "drop" "Council.drop" (kcls (ktop 15) 9) (kS "fencegate.council" 446) 287) ::
 (nat_lit 311, { cls := .type "dict", data := Data.dict #[kE P "__module__" 455 (kS "fencegate.council" 446), kE P "__firstlineno__" 459 (.int 78 458), kE P "__init__" 465 (.ref 231), kE P "keeper_at" 473 (.ref 238), kE P "up_keepers" 479 (.ref 243), kE P "fall" 489 (.ref 250), kE P "rise" 499 (.ref 257), kE P "ups" 506 (.ref 264), kE P "notes" 515 (.ref 271), kE P "sayers" 521 (.ref 276), kE P "give" 527 (.ref 281), kE P "drop" 539 (.ref 288), kE P "having" 548 (.ref 295), kE P "free_by" 557 (.ref 302), kE P "named" 568 (.ref 309), kE P "__static_attributes__" 571 (.ref 310), kE P "__dict__" 573 (.ref 313), kE P "__weakref__" 575 (.ref 314), kE P "__doc__" 576 (.none)] 4 }) ::
 (nat_lit 312, { cls := .type "type", data := Data.cls { name := Str.ofString "Council", bases := [.type "object"], mro := [.ref 312, .type "object"], ns := 311, qualname := Str.ofString "Council" }, slots := #[none, none, some (kS "Council" 448), some (kS "Council" 456), some (.builtin "object.__new__"), some (.bool true)] }) ::
 (nat_lit 313, { cls := .type "getset_descriptor", data := Data.fields #[kS "__dict__" 572, .ref 312, .builtin "function.__dict__", .builtin "function.__dict__#set"] }) ::
 (nat_lit 314, { cls := .type "getset_descriptor", data := Data.fields #[kS "__weakref__" 574, .ref 312, .builtin "ExceptionGroup.__weakref__", .none] }) ::
 (nat_lit 322, kC #[kS "_law_at" 581, kS "_law_at" 582, kS "/claim/cut.py" 583, .int 138 0, .int 2 0, .int 0 0, .int 0 0, .int 3 0, .ref 317, .bool true, .int 181 0, .ref 318, .none, .ref 319, .ref 320, .ref 321, .int 586 0, .int 138 0, kS "/claim/cut.py" 587]) ::
 (nat_lit 323, kF "_law_at" "_law_at" (ktop 17) (kS "law_fencegate_k12_numbers_rise" 579) 322) ::
 (nat_lit 327, kC #[kS "_law_same" 589, kS "_law_same" 590, kS "/claim/cut.py" 591, .int 142 0, .int 2 0, .int 0 0, .int 0 0, .int 3 0, .ref 324, .bool true, .int 181 0, .ref 325, .none, .none, .none, .ref 326, .int 592 0, .int 142 0, kS "/claim/cut.py" 593]) ::
 (nat_lit 328, kF "_law_same" "_law_same" (ktop 18) (kS "law_fencegate_k12_numbers_rise" 579) 327) ::
 (nat_lit 334, kC #[kS "_law_name" 595, kS "_law_name" 596, kS "/claim/cut.py" 597, .int 152 0, .int 2 0, .int 0 0, .int 0 0, .int 3 0, .ref 329, .bool true, .int 181 0, .ref 330, .none, .ref 331, .ref 332, .ref 333, .int 607 0, .int 152 0, kS "/claim/cut.py" 608]) ::
 (nat_lit 335, kF "_law_name" "_law_name" (ktop 19) (kS "law_fencegate_k12_numbers_rise" 579) 334) ::
 (nat_lit 339, kC #[kS "_law_names" 610, kS "_law_names" 611, kS "/claim/cut.py" 612, .int 170 0, .int 2 0, .int 0 0, .int 0 0, .int 3 0, .ref 336, .bool true, .int 181 0, .ref 337, .none, .none, .none, .ref 338, .int 613 0, .int 170 0, kS "/claim/cut.py" 614]) ::
 (nat_lit 340, kF "_law_names" "_law_names" (ktop 20) (kS "law_fencegate_k12_numbers_rise" 579) 339) ::
 (nat_lit 346, kC #[kS "_law_locks" 616, kS "_law_locks" 617, kS "/claim/cut.py" 618, .int 172 0, .int 3 0, .int 0 0, .int 0 0, .int 3 0, .ref 341, .bool true, .int 181 0, .ref 342, .none, .ref 343, .ref 344, .ref 345, .int 627 0, .int 172 0, kS "/claim/cut.py" 628]) ::
 (nat_lit 347, kF "_law_locks" "_law_locks" (ktop 21) (kS "law_fencegate_k12_numbers_rise" 579) 346) ::
 (nat_lit 353, kC #[kS "_law_some" 630, kS "_law_some" 631, kS "/claim/cut.py" 632, .int 191 0, .int 2 0, .int 0 0, .int 0 0, .int 3 0, .ref 348, .bool true, .int 181 0, .ref 349, .none, .ref 350, .ref 351, .ref 352, .int 638 0, .int 191 0, kS "/claim/cut.py" 639]) ::
 (nat_lit 354, kF "_law_some" "_law_some" (ktop 22) (kS "law_fencegate_k12_numbers_rise" 579) 353) ::
 (nat_lit 360, kC #[kS "_law_setup" 641, kS "_law_setup" 642, kS "/claim/cut.py" 643, .int 199 0, .int 1 0, .int 0 0, .int 0 0, .int 3 0, .ref 355, .bool true, .int 181 0, .ref 356, .none, .ref 357, .ref 358, .ref 359, .int 650 0, .int 199 0, kS "/claim/cut.py" 651]) ::
 (nat_lit 361, kF "_law_setup" "_law_setup" (ktop 23) (kS "law_fencegate_k12_numbers_rise" 579) 360) ::
 (nat_lit 367, kC #[kS "_law_asked" 653, kS "_law_asked" 654, kS "/claim/cut.py" 655, .int 206 0, .int 3 0, .int 0 0, .int 0 0, .int 3 0, .ref 362, .bool true, .int 181 0, .ref 363, .none, .ref 364, .ref 365, .ref 366, .int 662 0, .int 206 0, kS "/claim/cut.py" 663]) ::
 (nat_lit 368, kF "_law_asked" "_law_asked" (ktop 24) (kS "law_fencegate_k12_numbers_rise" 579) 367) ::
 (nat_lit 374, kC #[kS "_law_line" 665, kS "_law_line" 666, kS "/claim/cut.py" 667, .int 214 0, .int 2 0, .int 0 0, .int 0 0, .int 3 0, .ref 369, .bool true, .int 181 0, .ref 370, .none, .ref 371, .ref 372, .ref 373, .int 673 0, .int 214 0, kS "/claim/cut.py" 674]) ::
 (nat_lit 375, kF "_law_line" "_law_line" (ktop 25) (kS "law_fencegate_k12_numbers_rise" 579) 374) ::
 (nat_lit 381, kC #[kS "_law_way" 676, kS "_law_way" 677, kS "/claim/cut.py" 678, .int 219 0, .int 4 0, .int 0 0, .int 0 0, .int 3 0, .ref 376, .bool true, .int 181 0, .ref 377, .none, .ref 378, .ref 379, .ref 380, .int 683 0, .int 219 0, kS "/claim/cut.py" 684]) ::
 (nat_lit 382, kF "_law_way" "_law_way" (ktop 26) (kS "law_fencegate_k12_numbers_rise" 579) 381) ::
 (nat_lit 388, kC #[kS "_law_given" 686, kS "_law_given" 687, kS "/claim/cut.py" 688, .int 221 0, .int 3 0, .int 0 0, .int 0 0, .int 3 0, .ref 383, .bool true, .int 181 0, .ref 384, .none, .ref 385, .ref 386, .ref 387, .int 693 0, .int 221 0, kS "/claim/cut.py" 694]) ::
 (nat_lit 389, kF "_law_given" "_law_given" (ktop 27) (kS "law_fencegate_k12_numbers_rise" 579) 388) ::
 (nat_lit 395, kC #[kS "_law_clear" 696, kS "_law_clear" 697, kS "/claim/cut.py" 698, .int 227 0, .int 4 0, .int 0 0, .int 0 0, .int 3 0, .ref 390, .bool true, .int 181 0, .ref 391, .none, .ref 392, .ref 393, .ref 394, .int 704 0, .int 227 0, kS "/claim/cut.py" 705]) ::
 (nat_lit 396, kF "_law_clear" "_law_clear" (ktop 28) (kS "law_fencegate_k12_numbers_rise" 579) 395) ::
 (nat_lit 400, kC #[kS "_law_right" 707, kS "_law_right" 708, kS "/claim/cut.py" 709, .int 233 0, .int 4 0, .int 0 0, .int 0 0, .int 3 0, .ref 397, .bool true, .int 181 0, .ref 398, .none, .none, .none, .ref 399, .int 710 0, .int 233 0, kS "/claim/cut.py" 711]) ::
 (nat_lit 401, kF "_law_right" "_law_right" (ktop 29) (kS "law_fencegate_k12_numbers_rise" 579) 400) ::
 (nat_lit 405, kC #[kS "law" 713, kS "law" 714, kS "/claim/cut.py" 715, .int 241 0, .int 1 0, .int 0 0, .int 0 0, .int 3 0, .ref 402, .bool true, .int 181 0, .ref 403, .none, .none, .none, .ref 404, .int 716 0, .int 241 0, kS "/claim/cut.py" 717]) ::
 (nat_lit 406, kF "law" "law" (ktop 30) (kS "law_fencegate_k12_numbers_rise" 579) 405) :: []
def ka : List Addr := 2 :: 3 :: 37 :: 38 :: 39 :: 57 :: 58 :: 76 :: 77 :: 95 :: 96 :: 114 :: 115 :: 133 :: 134 :: 142 :: 143 :: 149 :: 150 :: 156 :: 157 :: 170 :: 171 :: 177 :: 178 :: 184 :: 185 :: 189 :: 190 :: 194 :: 195 :: 201 :: 202 :: 206 :: 207 :: 211 :: 212 :: 214 :: 215 :: 216 :: 217 :: 230 :: 231 :: 237 :: 238 :: 242 :: 243 :: 249 :: 250 :: 256 :: 257 :: 270 :: 271 :: 275 :: 276 :: 280 :: 281 :: 287 :: 288 :: 311 :: 312 :: 313 :: 314 :: 322 :: 323 :: 327 :: 328 :: 334 :: 335 :: 339 :: 340 :: 346 :: 347 :: 353 :: 354 :: 360 :: 361 :: 367 :: 368 :: 374 :: 375 :: 381 :: 382 :: 388 :: 389 :: 395 :: 396 :: 400 :: 401 :: 405 :: 406 :: []
def vw : Program := { PySem.Challenge.pw_fencegate_k12_numbers_rise with main := { PySem.Challenge.pw_fencegate_k12_numbers_rise.main with body := ktop 0 :: ktop 2 :: ktop 3 :: ktop 4 :: ktop 5 :: ktop 6 :: ktop 7 :: ktop 9 :: ktop 10 :: ktop 11 :: ktop 13 :: ktop 15 :: ktop 17 :: ktop 18 :: ktop 19 :: ktop 20 :: ktop 21 :: ktop 22 :: ktop 23 :: ktop 24 :: ktop 25 :: ktop 26 :: ktop 27 :: ktop 28 :: ktop 29 :: ktop 30 :: [] } }
theorem ka_eq (P : Params) : ka = (kk P).map (·.1) := by kernel_rfl
def kT (vs : Array Value) : Obj := { cls := .type "tuple", data := .seq vs }
noncomputable def hA (P : Params) : Heap := Heap.mk (Array.mk (
 PySem.W.boot_o_0 P ::
 PySem.W.boot_o_1 P ::
 PySem.W.boot_o_2 P ::
 PySem.W.boot_o_3 P ::
 PySem.W.boot_o_4 P ::
 PySem.W.boot_o_5 P ::
 PySem.W.boot_o_6 P ::
 PySem.W.boot_o_7 P ::
 PySem.W.boot_o_8 P ::
 PySem.W.boot_o_9 P ::
 PySem.W.boot_o_10 P ::
 kT #[] ::
 { cls := .none, data := Data.fields #[] } ::
 kC #[kS "<module>" 182, kS "<module>" 183, kS "/claim/cut.py" 184, .int 1 0, .int 0 0, .int 0 0, .int 0 0, .int 0 0, .ref 11, .bool false, .int 181 0, .ref 12, .none, .none, .none, .none, .int 185 0, .int 1 0, kS "/claim/cut.py" 186] ::
 { cls := .type "frame", slots := #[some (.ref 13), some (.ref 3), some (.ref 3), none, some (kS "__main__" 164), none, some (.ref 0)] } :: [])) {}
noncomputable def hB (P : Params) : Heap := Heap.mk (Array.mk (
 PySem.W.boot_o_0 P ::
 PySem.W.boot_o_1 P ::
 PySem.W.boot_o_2 P ::
 PySem.W.boot_o_3 P ::
 PySem.W.boot_o_4 P ::
 PySem.W.boot_o_5 P ::
 PySem.W.boot_o_6 P ::
 PySem.W.boot_o_7 P ::
 PySem.W.boot_o_8 P ::
 PySem.W.boot_o_9 P ::
 PySem.W.boot_o_10 P ::
 kT #[] ::
 { cls := .none, data := Data.fields #[] } ::
 kC #[kS "<module>" 182, kS "<module>" 183, kS "/claim/cut.py" 184, .int 1 0, .int 0 0, .int 0 0, .int 0 0, .int 0 0, .ref 11, .bool false, .int 181 0, .ref 12, .none, .none, .none, .none, .int 185 0, .int 1 0, kS "/claim/cut.py" 186] ::
 { cls := .type "frame", slots := #[some (.ref 13), some (.ref 3), some (.ref 3), none, some (kS "__main__" 164), none, some (.ref 0)] } :: [])) {}
noncomputable def hM (P : Params) : Heap := Heap.mk (Array.mk (
 PySem.W.boot_o_0 P ::
 PySem.W.boot_o_1 P ::
 PySem.W.boot_o_2 P ::
 { cls := .type "dict", data := Data.dict #[kE P "__name__" 165 (kS "fencegate.errors" 194), kE P "__doc__" 166 (.none), kE P "__package__" 167 (.none), kE P "__loader__" 168 (.builtin "__main__.__loader__#opaque"), kE P "__spec__" 169 (.none), kE P "__annotations__" 170 (.ref 6), kE P "__builtins__" 171 (.ref 4), kE P "__file__" 173 (kS "/claim/cut.py" 172), kE P "__cached__" 174 (.none), kE P "_wall" 193 (.ref 21), kE P "GateError" 220 (.ref 38), kE P "UnknownKeeper" 243 (.ref 58), kE P "Down" 266 (.ref 77), kE P "OldNumber" 289 (.ref 96), kE P "InTheWay" 312 (.ref 115), kE P "NotFree" 335 (.ref 134)] 16 } ::
 PySem.W.boot_o_4 P ::
 PySem.W.boot_o_5 P ::
 PySem.W.boot_o_6 P ::
 PySem.W.boot_o_7 P ::
 PySem.W.boot_o_8 P ::
 PySem.W.boot_o_9 P ::
 PySem.W.boot_o_10 P ::
 kT #[] ::
 { cls := .none, data := Data.fields #[.int 1 0, .int 0 0, .ref 20, .int 5 0, .int 0 0, .ref 27, .int 9 0, .int 0 0, .ref 47, .int 13 0, .int 0 0, .ref 66, .int 17 0, .int 0 0, .ref 85, .int 21 0, .int 0 0, .ref 104, .int 25 0, .int 0 0, .ref 123] } ::
 kC #[kS "<module>" 182, kS "<module>" 183, kS "/claim/cut.py" 184, .int 1 0, .int 0 0, .int 0 0, .int 0 0, .int 0 0, .ref 11, .bool false, .int 181 0, .ref 12, .none, .none, .none, .none, .int 185 0, .int 1 0, kS "/claim/cut.py" 186] ::
 { cls := .type "frame", slots := #[some (.ref 13), some (.ref 3), some (.ref 3), none, some (kS "__main__" 164), none, some (.ref 0)] } ::
 kT #[] ::
 { cls := .none, data := Data.fields #[] } ::
 kT #[kS "k" 190] ::
 kT #[] ::
 { cls := .none, data := Data.func { name := Str.ofString "_wall", qualname := Str.ofString "_wall", params := { posonlyargs := [], args := [{ arg := Str.ofString "k", annotation := none, pos := { line := 1, col := 10, endLine := 1, endCol := 11 } }], vararg := none, kwonlyargs := [], kw_defaults := [], kwarg := none, defaults := [] }, body := FuncBody.stmts [Stmt.While (Expr.Constant (Const.bool true) 0 { line := 2, col := 10, endLine := 2, endCol := 14 }) [Stmt.Pass { line := 3, col := 8, endLine := 3, endCol := 12 }] [] { line := 2, col := 4, endLine := 3, endCol := 12 }], scope := { kind := ScopeKind.function, names := [(Str.ofString "k", NameKind.local)], isGenerator := false, isCoroutine := false }, globals := 0, closure := [], defaults := .none, kwdefaults := .none } } ::
 kC #[kS "_wall" 187, kS "_wall" 188, kS "/claim/cut.py" 189, .int 1 0, .int 1 0, .int 0 0, .int 0 0, .int 3 0, .ref 15, .bool true, .int 181 0, .ref 16, .none, .ref 17, .ref 18, .ref 19, .int 191 0, .int 1 0, kS "/claim/cut.py" 192] ::
 kF "_wall" "_wall" (ktop 0) (kS "__main__" 164) 20 ::
 kT #[.type "ValueError"] ::
 { cls := .type "builtin_function_or_method", data := Data.fields #[.builtin "type.__prepare__", .type "type"] } ::
 { cls := .type "dict", data := Data.dict #[kE P "__module__" 203 (kS "fencegate.errors" 194), kE P "__qualname__" 205 (kS "GateError" 204), kE P "__firstlineno__" 207 (.int 5 206), kE P "word" 214 (.ref 35), kE P "__static_attributes__" 215 (.ref 36)] 5 } ::
 kT #[] ::
 { cls := .none, data := Data.fields #[.int 7 0, .int 4 0, .ref 34] } ::
 kC #[kS "GateError" 198, kS "GateError" 199, kS "/claim/cut.py" 200, .int 5 0, .int 0 0, .int 0 0, .int 0 0, .int 0 0, .ref 25, .bool false, .int 181 0, .ref 26, .none, .none, .none, .none, .int 201 0, .int 5 0, kS "/claim/cut.py" 202] ::
 { cls := .type "frame", slots := #[some (.ref 27), some (.ref 3), some (.ref 24), none, some (kS "fencegate.errors" 194), none, some (.ref 0)] } ::
 kT #[] ::
 { cls := .none, data := Data.fields #[] } ::
 kT #[kS "self" 211] ::
 kT #[] ::
 { cls := .none, data := Data.func { name := Str.ofString "word", qualname := Str.ofString "GateError.word", params := { posonlyargs := [], args := [{ arg := Str.ofString "self", annotation := none, pos := { line := 7, col := 13, endLine := 7, endCol := 17 } }], vararg := none, kwonlyargs := [], kw_defaults := [], kwarg := none, defaults := [] }, body := FuncBody.stmts [Stmt.Expr (Expr.Call (Expr.Name (Str.ofString "_wall") { line := 8, col := 8, endLine := 8, endCol := 13 }) [Expr.Constant (Const.int 0) 0 { line := 8, col := 14, endLine := 8, endCol := 15 }] [] { line := 8, col := 8, endLine := 8, endCol := 16 }) { line := 8, col := 8, endLine := 8, endCol := 16 }], scope := { kind := ScopeKind.function, names := [(Str.ofString "self", NameKind.local), (Str.ofString "_wall", NameKind.globalImplicit)], isGenerator := false, isCoroutine := false }, globals := 0, closure := [], defaults := .none, kwdefaults := .none } } ::
 kC #[kS "word" 208, kS "GateError.word" 209, kS "/claim/cut.py" 210, .int 7 0, .int 1 0, .int 0 0, .int 0 0, .int 3 0, .ref 29, .bool true, .int 181 0, .ref 30, .none, .ref 31, .ref 32, .ref 33, .int 212 0, .int 7 0, kS "/claim/cut.py" 213] ::
 kF "word" "GateError.word" (kcls (ktop 2) 0) (kS "fencegate.errors" 194) 34 ::
 kT #[] ::
 { cls := .type "dict", data := Data.dict #[kE P "__module__" 203 (kS "fencegate.errors" 194), kE P "__firstlineno__" 207 (.int 5 206), kE P "word" 214 (.ref 35), kE P "__static_attributes__" 215 (.ref 36), kE P "__weakref__" 217 (.ref 39), kE P "__doc__" 218 (.none)] 3 } ::
 { cls := .type "type", data := Data.cls { name := Str.ofString "GateError", bases := [.type "ValueError"], mro := [.ref 38, .type "ValueError", .type "Exception", .type "BaseException", .type "object"], ns := 37, qualname := Str.ofString "GateError", subclasses := [.ref 58, .ref 77, .ref 96, .ref 115, .ref 134] }, slots := #[some (.ref 22), none, some (kS "GateError" 196), some (kS "GateError" 204), some (.builtin "ValueError.__new__"), some (.bool true)] } ::
 { cls := .type "getset_descriptor", data := Data.fields #[kS "__weakref__" 216, .ref 38, .builtin "ExceptionGroup.__weakref__", .none] } ::
 { cls := .type "super", data := Data.fields #[.ref 38, .ref 38, .ref 38] } ::
 { cls := .type "builtin_function_or_method", data := Data.fields #[.builtin "object.__init_subclass__", .ref 38] } ::
 kT #[.ref 38] ::
 { cls := .type "builtin_function_or_method", data := Data.fields #[.builtin "type.__prepare__", .type "type"] } ::
 { cls := .type "dict", data := Data.dict #[kE P "__module__" 228 (kS "fencegate.errors" 194), kE P "__qualname__" 230 (kS "UnknownKeeper" 229), kE P "__firstlineno__" 232 (.int 9 231), kE P "word" 239 (.ref 55), kE P "__static_attributes__" 240 (.ref 56)] 5 } ::
 kT #[] ::
 { cls := .none, data := Data.fields #[.int 11 0, .int 4 0, .ref 54] } ::
 kC #[kS "UnknownKeeper" 223, kS "UnknownKeeper" 224, kS "/claim/cut.py" 225, .int 9 0, .int 0 0, .int 0 0, .int 0 0, .int 0 0, .ref 45, .bool false, .int 181 0, .ref 46, .none, .none, .none, .none, .int 226 0, .int 9 0, kS "/claim/cut.py" 227] ::
 { cls := .type "frame", slots := #[some (.ref 47), some (.ref 3), some (.ref 44), none, some (kS "fencegate.errors" 194), none, some (.ref 0)] } ::
 kT #[] ::
 { cls := .none, data := Data.fields #[] } ::
 kT #[kS "self" 236] ::
 kT #[] ::
 { cls := .none, data := Data.func { name := Str.ofString "word", qualname := Str.ofString "UnknownKeeper.word", params := { posonlyargs := [], args := [{ arg := Str.ofString "self", annotation := none, pos := { line := 11, col := 13, endLine := 11, endCol := 17 } }], vararg := none, kwonlyargs := [], kw_defaults := [], kwarg := none, defaults := [] }, body := FuncBody.stmts [Stmt.Expr (Expr.Call (Expr.Name (Str.ofString "_wall") { line := 12, col := 8, endLine := 12, endCol := 13 }) [Expr.Constant (Const.int 1) 0 { line := 12, col := 14, endLine := 12, endCol := 15 }] [] { line := 12, col := 8, endLine := 12, endCol := 16 }) { line := 12, col := 8, endLine := 12, endCol := 16 }], scope := { kind := ScopeKind.function, names := [(Str.ofString "self", NameKind.local), (Str.ofString "_wall", NameKind.globalImplicit)], isGenerator := false, isCoroutine := false }, globals := 0, closure := [], defaults := .none, kwdefaults := .none } } ::
 kC #[kS "word" 233, kS "UnknownKeeper.word" 234, kS "/claim/cut.py" 235, .int 11 0, .int 1 0, .int 0 0, .int 0 0, .int 3 0, .ref 49, .bool true, .int 181 0, .ref 50, .none, .ref 51, .ref 52, .ref 53, .int 237 0, .int 11 0, kS "/claim/cut.py" 238] ::
 kF "word" "UnknownKeeper.word" (kcls (ktop 3) 0) (kS "fencegate.errors" 194) 54 ::
 kT #[] ::
 { cls := .type "dict", data := Data.dict #[kE P "__module__" 228 (kS "fencegate.errors" 194), kE P "__firstlineno__" 232 (.int 9 231), kE P "word" 239 (.ref 55), kE P "__static_attributes__" 240 (.ref 56), kE P "__doc__" 241 (.none)] 2 } ::
 { cls := .type "type", data := Data.cls { name := Str.ofString "UnknownKeeper", bases := [.ref 38], mro := [.ref 58, .ref 38, .type "ValueError", .type "Exception", .type "BaseException", .type "object"], ns := 57, qualname := Str.ofString "UnknownKeeper" }, slots := #[some (.ref 42), none, some (kS "UnknownKeeper" 221), some (kS "UnknownKeeper" 229), some (.builtin "ValueError.__new__"), some (.bool true)] } ::
 { cls := .type "super", data := Data.fields #[.ref 58, .ref 58, .ref 58] } ::
 { cls := .type "builtin_function_or_method", data := Data.fields #[.builtin "object.__init_subclass__", .ref 58] } ::
 kT #[.ref 38] ::
 { cls := .type "builtin_function_or_method", data := Data.fields #[.builtin "type.__prepare__", .type "type"] } ::
 { cls := .type "dict", data := Data.dict #[kE P "__module__" 251 (kS "fencegate.errors" 194), kE P "__qualname__" 253 (kS "Down" 252), kE P "__firstlineno__" 255 (.int 13 254), kE P "word" 262 (.ref 74), kE P "__static_attributes__" 263 (.ref 75)] 5 } ::
 kT #[] ::
 { cls := .none, data := Data.fields #[.int 15 0, .int 4 0, .ref 73] } ::
 kC #[kS "Down" 246, kS "Down" 247, kS "/claim/cut.py" 248, .int 13 0, .int 0 0, .int 0 0, .int 0 0, .int 0 0, .ref 64, .bool false, .int 181 0, .ref 65, .none, .none, .none, .none, .int 249 0, .int 13 0, kS "/claim/cut.py" 250] ::
 { cls := .type "frame", slots := #[some (.ref 66), some (.ref 3), some (.ref 63), none, some (kS "fencegate.errors" 194), none, some (.ref 0)] } ::
 kT #[] ::
 { cls := .none, data := Data.fields #[] } ::
 kT #[kS "self" 259] ::
 kT #[] ::
 { cls := .none, data := Data.func { name := Str.ofString "word", qualname := Str.ofString "Down.word", params := { posonlyargs := [], args := [{ arg := Str.ofString "self", annotation := none, pos := { line := 15, col := 13, endLine := 15, endCol := 17 } }], vararg := none, kwonlyargs := [], kw_defaults := [], kwarg := none, defaults := [] }, body := FuncBody.stmts [Stmt.Expr (Expr.Call (Expr.Name (Str.ofString "_wall") { line := 16, col := 8, endLine := 16, endCol := 13 }) [Expr.Constant (Const.int 2) 0 { line := 16, col := 14, endLine := 16, endCol := 15 }] [] { line := 16, col := 8, endLine := 16, endCol := 16 }) { line := 16, col := 8, endLine := 16, endCol := 16 }], scope := { kind := ScopeKind.function, names := [(Str.ofString "self", NameKind.local), (Str.ofString "_wall", NameKind.globalImplicit)], isGenerator := false, isCoroutine := false }, globals := 0, closure := [], defaults := .none, kwdefaults := .none } } ::
 kC #[kS "word" 256, kS "Down.word" 257, kS "/claim/cut.py" 258, .int 15 0, .int 1 0, .int 0 0, .int 0 0, .int 3 0, .ref 68, .bool true, .int 181 0, .ref 69, .none, .ref 70, .ref 71, .ref 72, .int 260 0, .int 15 0, kS "/claim/cut.py" 261] ::
 kF "word" "Down.word" (kcls (ktop 4) 0) (kS "fencegate.errors" 194) 73 ::
 kT #[] ::
 { cls := .type "dict", data := Data.dict #[kE P "__module__" 251 (kS "fencegate.errors" 194), kE P "__firstlineno__" 255 (.int 13 254), kE P "word" 262 (.ref 74), kE P "__static_attributes__" 263 (.ref 75), kE P "__doc__" 264 (.none)] 2 } ::
 { cls := .type "type", data := Data.cls { name := Str.ofString "Down", bases := [.ref 38], mro := [.ref 77, .ref 38, .type "ValueError", .type "Exception", .type "BaseException", .type "object"], ns := 76, qualname := Str.ofString "Down" }, slots := #[some (.ref 61), none, some (kS "Down" 244), some (kS "Down" 252), some (.builtin "ValueError.__new__"), some (.bool true)] } ::
 { cls := .type "super", data := Data.fields #[.ref 77, .ref 77, .ref 77] } ::
 { cls := .type "builtin_function_or_method", data := Data.fields #[.builtin "object.__init_subclass__", .ref 77] } ::
 kT #[.ref 38] ::
 { cls := .type "builtin_function_or_method", data := Data.fields #[.builtin "type.__prepare__", .type "type"] } ::
 { cls := .type "dict", data := Data.dict #[kE P "__module__" 274 (kS "fencegate.errors" 194), kE P "__qualname__" 276 (kS "OldNumber" 275), kE P "__firstlineno__" 278 (.int 17 277), kE P "word" 285 (.ref 93), kE P "__static_attributes__" 286 (.ref 94)] 5 } ::
 kT #[] ::
 { cls := .none, data := Data.fields #[.int 19 0, .int 4 0, .ref 92] } ::
 kC #[kS "OldNumber" 269, kS "OldNumber" 270, kS "/claim/cut.py" 271, .int 17 0, .int 0 0, .int 0 0, .int 0 0, .int 0 0, .ref 83, .bool false, .int 181 0, .ref 84, .none, .none, .none, .none, .int 272 0, .int 17 0, kS "/claim/cut.py" 273] ::
 { cls := .type "frame", slots := #[some (.ref 85), some (.ref 3), some (.ref 82), none, some (kS "fencegate.errors" 194), none, some (.ref 0)] } ::
 kT #[] ::
 { cls := .none, data := Data.fields #[] } ::
 kT #[kS "self" 282] ::
 kT #[] ::
 { cls := .none, data := Data.func { name := Str.ofString "word", qualname := Str.ofString "OldNumber.word", params := { posonlyargs := [], args := [{ arg := Str.ofString "self", annotation := none, pos := { line := 19, col := 13, endLine := 19, endCol := 17 } }], vararg := none, kwonlyargs := [], kw_defaults := [], kwarg := none, defaults := [] }, body := FuncBody.stmts [Stmt.Expr (Expr.Call (Expr.Name (Str.ofString "_wall") { line := 20, col := 8, endLine := 20, endCol := 13 }) [Expr.Constant (Const.int 3) 0 { line := 20, col := 14, endLine := 20, endCol := 15 }] [] { line := 20, col := 8, endLine := 20, endCol := 16 }) { line := 20, col := 8, endLine := 20, endCol := 16 }], scope := { kind := ScopeKind.function, names := [(Str.ofString "self", NameKind.local), (Str.ofString "_wall", NameKind.globalImplicit)], isGenerator := false, isCoroutine := false }, globals := 0, closure := [], defaults := .none, kwdefaults := .none } } ::
 kC #[kS "word" 279, kS "OldNumber.word" 280, kS "/claim/cut.py" 281, .int 19 0, .int 1 0, .int 0 0, .int 0 0, .int 3 0, .ref 87, .bool true, .int 181 0, .ref 88, .none, .ref 89, .ref 90, .ref 91, .int 283 0, .int 19 0, kS "/claim/cut.py" 284] ::
 kF "word" "OldNumber.word" (kcls (ktop 5) 0) (kS "fencegate.errors" 194) 92 ::
 kT #[] ::
 { cls := .type "dict", data := Data.dict #[kE P "__module__" 274 (kS "fencegate.errors" 194), kE P "__firstlineno__" 278 (.int 17 277), kE P "word" 285 (.ref 93), kE P "__static_attributes__" 286 (.ref 94), kE P "__doc__" 287 (.none)] 2 } ::
 { cls := .type "type", data := Data.cls { name := Str.ofString "OldNumber", bases := [.ref 38], mro := [.ref 96, .ref 38, .type "ValueError", .type "Exception", .type "BaseException", .type "object"], ns := 95, qualname := Str.ofString "OldNumber" }, slots := #[some (.ref 80), none, some (kS "OldNumber" 267), some (kS "OldNumber" 275), some (.builtin "ValueError.__new__"), some (.bool true)] } ::
 { cls := .type "super", data := Data.fields #[.ref 96, .ref 96, .ref 96] } ::
 { cls := .type "builtin_function_or_method", data := Data.fields #[.builtin "object.__init_subclass__", .ref 96] } ::
 kT #[.ref 38] ::
 { cls := .type "builtin_function_or_method", data := Data.fields #[.builtin "type.__prepare__", .type "type"] } ::
 { cls := .type "dict", data := Data.dict #[kE P "__module__" 297 (kS "fencegate.errors" 194), kE P "__qualname__" 299 (kS "InTheWay" 298), kE P "__firstlineno__" 301 (.int 21 300), kE P "word" 308 (.ref 112), kE P "__static_attributes__" 309 (.ref 113)] 5 } ::
 kT #[] ::
 { cls := .none, data := Data.fields #[.int 23 0, .int 4 0, .ref 111] } ::
 kC #[kS "InTheWay" 292, kS "InTheWay" 293, kS "/claim/cut.py" 294, .int 21 0, .int 0 0, .int 0 0, .int 0 0, .int 0 0, .ref 102, .bool false, .int 181 0, .ref 103, .none, .none, .none, .none, .int 295 0, .int 21 0, kS "/claim/cut.py" 296] ::
 { cls := .type "frame", slots := #[some (.ref 104), some (.ref 3), some (.ref 101), none, some (kS "fencegate.errors" 194), none, some (.ref 0)] } ::
 kT #[] ::
 { cls := .none, data := Data.fields #[] } ::
 kT #[kS "self" 305] ::
 kT #[] ::
 { cls := .none, data := Data.func { name := Str.ofString "word", qualname := Str.ofString "InTheWay.word", params := { posonlyargs := [], args := [{ arg := Str.ofString "self", annotation := none, pos := { line := 23, col := 13, endLine := 23, endCol := 17 } }], vararg := none, kwonlyargs := [], kw_defaults := [], kwarg := none, defaults := [] }, body := FuncBody.stmts [Stmt.Expr (Expr.Call (Expr.Name (Str.ofString "_wall") { line := 24, col := 8, endLine := 24, endCol := 13 }) [Expr.Constant (Const.int 4) 0 { line := 24, col := 14, endLine := 24, endCol := 15 }] [] { line := 24, col := 8, endLine := 24, endCol := 16 }) { line := 24, col := 8, endLine := 24, endCol := 16 }], scope := { kind := ScopeKind.function, names := [(Str.ofString "self", NameKind.local), (Str.ofString "_wall", NameKind.globalImplicit)], isGenerator := false, isCoroutine := false }, globals := 0, closure := [], defaults := .none, kwdefaults := .none } } ::
 kC #[kS "word" 302, kS "InTheWay.word" 303, kS "/claim/cut.py" 304, .int 23 0, .int 1 0, .int 0 0, .int 0 0, .int 3 0, .ref 106, .bool true, .int 181 0, .ref 107, .none, .ref 108, .ref 109, .ref 110, .int 306 0, .int 23 0, kS "/claim/cut.py" 307] ::
 kF "word" "InTheWay.word" (kcls (ktop 6) 0) (kS "fencegate.errors" 194) 111 ::
 kT #[] ::
 { cls := .type "dict", data := Data.dict #[kE P "__module__" 297 (kS "fencegate.errors" 194), kE P "__firstlineno__" 301 (.int 21 300), kE P "word" 308 (.ref 112), kE P "__static_attributes__" 309 (.ref 113), kE P "__doc__" 310 (.none)] 2 } ::
 { cls := .type "type", data := Data.cls { name := Str.ofString "InTheWay", bases := [.ref 38], mro := [.ref 115, .ref 38, .type "ValueError", .type "Exception", .type "BaseException", .type "object"], ns := 114, qualname := Str.ofString "InTheWay" }, slots := #[some (.ref 99), none, some (kS "InTheWay" 290), some (kS "InTheWay" 298), some (.builtin "ValueError.__new__"), some (.bool true)] } ::
 { cls := .type "super", data := Data.fields #[.ref 115, .ref 115, .ref 115] } ::
 { cls := .type "builtin_function_or_method", data := Data.fields #[.builtin "object.__init_subclass__", .ref 115] } ::
 kT #[.ref 38] ::
 { cls := .type "builtin_function_or_method", data := Data.fields #[.builtin "type.__prepare__", .type "type"] } ::
 { cls := .type "dict", data := Data.dict #[kE P "__module__" 320 (kS "fencegate.errors" 194), kE P "__qualname__" 322 (kS "NotFree" 321), kE P "__firstlineno__" 324 (.int 25 323), kE P "word" 331 (.ref 131), kE P "__static_attributes__" 332 (.ref 132)] 5 } ::
 kT #[] ::
 { cls := .none, data := Data.fields #[.int 27 0, .int 4 0, .ref 130] } ::
 kC #[kS "NotFree" 315, kS "NotFree" 316, kS "/claim/cut.py" 317, .int 25 0, .int 0 0, .int 0 0, .int 0 0, .int 0 0, .ref 121, .bool false, .int 181 0, .ref 122, .none, .none, .none, .none, .int 318 0, .int 25 0, kS "/claim/cut.py" 319] ::
 { cls := .type "frame", slots := #[some (.ref 123), some (.ref 3), some (.ref 120), none, some (kS "fencegate.errors" 194), none, some (.ref 0)] } ::
 kT #[] ::
 { cls := .none, data := Data.fields #[] } ::
 kT #[kS "self" 328] ::
 kT #[] ::
 { cls := .none, data := Data.func { name := Str.ofString "word", qualname := Str.ofString "NotFree.word", params := { posonlyargs := [], args := [{ arg := Str.ofString "self", annotation := none, pos := { line := 27, col := 13, endLine := 27, endCol := 17 } }], vararg := none, kwonlyargs := [], kw_defaults := [], kwarg := none, defaults := [] }, body := FuncBody.stmts [Stmt.Expr (Expr.Call (Expr.Name (Str.ofString "_wall") { line := 28, col := 8, endLine := 28, endCol := 13 }) [Expr.Constant (Const.int 5) 0 { line := 28, col := 14, endLine := 28, endCol := 15 }] [] { line := 28, col := 8, endLine := 28, endCol := 16 }) { line := 28, col := 8, endLine := 28, endCol := 16 }], scope := { kind := ScopeKind.function, names := [(Str.ofString "self", NameKind.local), (Str.ofString "_wall", NameKind.globalImplicit)], isGenerator := false, isCoroutine := false }, globals := 0, closure := [], defaults := .none, kwdefaults := .none } } ::
 kC #[kS "word" 325, kS "NotFree.word" 326, kS "/claim/cut.py" 327, .int 27 0, .int 1 0, .int 0 0, .int 0 0, .int 3 0, .ref 125, .bool true, .int 181 0, .ref 126, .none, .ref 127, .ref 128, .ref 129, .int 329 0, .int 27 0, kS "/claim/cut.py" 330] ::
 kF "word" "NotFree.word" (kcls (ktop 7) 0) (kS "fencegate.errors" 194) 130 ::
 kT #[] ::
 { cls := .type "dict", data := Data.dict #[kE P "__module__" 320 (kS "fencegate.errors" 194), kE P "__firstlineno__" 324 (.int 25 323), kE P "word" 331 (.ref 131), kE P "__static_attributes__" 332 (.ref 132), kE P "__doc__" 333 (.none)] 2 } ::
 { cls := .type "type", data := Data.cls { name := Str.ofString "NotFree", bases := [.ref 38], mro := [.ref 134, .ref 38, .type "ValueError", .type "Exception", .type "BaseException", .type "object"], ns := 133, qualname := Str.ofString "NotFree" }, slots := #[some (.ref 118), none, some (kS "NotFree" 313), some (kS "NotFree" 321), some (.builtin "ValueError.__new__"), some (.bool true)] } ::
 { cls := .type "super", data := Data.fields #[.ref 134, .ref 134, .ref 134] } ::
 { cls := .type "builtin_function_or_method", data := Data.fields #[.builtin "object.__init_subclass__", .ref 134] } :: [])) {}
def kenv : Env := { scope := PySem.Challenge.pw_fencegate_k12_numbers_rise.main.scope, locals := mainNs, globals := mainNs, cells := [], code := Value.ref 13, frame := some 14 }
def kfst : List Stmt := PySem.Challenge.pw_fencegate_k12_numbers_rise.main.body.take 8
def kend : List Stmt := PySem.Challenge.pw_fencegate_k12_numbers_rise.main.body.drop 8
set_option maxHeartbeats 0 in
theorem zgo (w : World) (os : OsState) : PySem.W.topGo treeTable PySem.Challenge.rw_fencegate_k12_numbers_rise.row.prog w 11 (some (Value.ref 6)) 12 ⟨PySem.W.boot_heap w.params, #[], PySem.W.boot_drawn, PySem.W.boot_toks, os⟩ (PySem.W.topStub PySem.Challenge.rw_fencegate_k12_numbers_rise.row.prog) = some (⟨hA w.params, #[], {}, 187, os⟩, ⟨denote treeTable (.body (kfst ++ kend) kenv), (Code.body (PySem.W.behindTheImports PySem.Challenge.pw_fencegate_k12_numbers_rise) kenv), ⟨0, 0, 0, 0⟩, [PySem.W.topFrame ⟨0, 0, 0, 0⟩]⟩) := by kernel_rfl
theorem zgp (w : World) (os : OsState) : PySem.W.segRun treeTable PySem.Challenge.rw_fencegate_k12_numbers_rise.row.prog w 11 (some (Value.ref 6)) 1 1 ⟨hA w.params, #[], {}, 187, os⟩ (PySem.W.blockOf (kfst ++ kend) kenv (Code.body (PySem.W.behindTheImports PySem.Challenge.pw_fencegate_k12_numbers_rise) kenv) ⟨0, 0, 0, 0⟩ [PySem.W.topFrame ⟨0, 0, 0, 0⟩]) = some (.next, ⟨hB w.params, #[], {}, 187, os⟩, (Code.body (PySem.W.behindTheImports PySem.Challenge.pw_fencegate_k12_numbers_rise) kenv), ⟨0, 0, 0, 0⟩) := by kernel_rfl
set_option maxHeartbeats 0 in
theorem zgq (w : World) (os : OsState) : PySem.W.segRun treeTable PySem.Challenge.rw_fencegate_k12_numbers_rise.row.prog w 11 (some (Value.ref 6)) 1 1470 ⟨hB w.params, #[], {}, 187, os⟩ (PySem.W.piecesOf kfst kenv (Code.body (PySem.W.behindTheImports PySem.Challenge.pw_fencegate_k12_numbers_rise) kenv) ⟨0, 0, 0, 0⟩ [PySem.W.topFrame ⟨0, 0, 0, 0⟩]) = some (.next, ⟨hM w.params, #[], {}, 336, os⟩, (Code.body (PySem.W.behindTheImports PySem.Challenge.pw_fencegate_k12_numbers_rise) kenv), ⟨25, 0, 28, 16⟩) := by kernel_rfl
set_option maxHeartbeats 0 in
theorem zfx (w : World) (os : OsState) : ((PySem.W.topRun treeTable PySem.Challenge.rw_fencegate_k12_numbers_rise.row.prog w 11 (some (Value.ref 6)) 3404 ⟨hM w.params, #[], {}, 336, os⟩ (PySem.W.restOf kend kenv (Code.body (PySem.W.behindTheImports PySem.Challenge.pw_fencegate_k12_numbers_rise) kenv) ⟨25, 0, 28, 16⟩ [PySem.W.topFrame ⟨0, 0, 0, 0⟩])).bind fun s₁ => match PySem.W.staticsOk (importedModules PySem.Challenge.rw_fencegate_k12_numbers_rise.row.prog.main.body) (PySem.W.boot_heap w.params) s₁.heap && PySem.W.namesBound PySem.Challenge.rw_fencegate_k12_numbers_rise.row.prog s₁.heap && PySem.W.gensDone s₁ && PySem.W.laidKept (PySem.W.boot_heap w.params) s₁.heap with
  | true => some s₁
  | false => none).map (fun s => (PySem.W.openSeen vw [] (importedModules PySem.Challenge.rw_fencegate_k12_numbers_rise.row.prog.main.body) (fun s => PySem.W.xlAt vw [] s && PySem.W.recOk (PySem.W.RowW.records (PySem.W.OpenRow.toRowW PySem.Challenge.rw_fencegate_k12_numbers_rise.row)) s) true s, (PySem.W.kHook kk ka ka_eq).obs s)) = some (PySem.W.openGood vw [], (PySem.W.kHook kk ka ka_eq).val w) := by kernel_rfl
theorem zfy (w : World) : (((PySem.W.boot_heap w.params).isNs mainGlobals && (#[] : Array GenState).size == 0), (PySem.W.boot_heap w.params).objs.size, (PySem.W.boot_heap w.params).nsMap mainGlobals "__annotations__") = (true, 11, (some (Value.ref 6))) := by kernel_rfl
theorem left_ok : PySem.W.LeftO PySem.Challenge.rw_fencegate_k12_numbers_rise.row.prog vw [] (fun s => PySem.W.xlAt vw [] s && PySem.W.recOk (PySem.W.RowW.records (PySem.W.OpenRow.toRowW PySem.Challenge.rw_fencegate_k12_numbers_rise.row)) s) (PySem.W.kHook kk ka ka_eq).obs (PySem.W.kHook kk ka ka_eq).val (12 + (1 + (1470 + 3404))) := fun w => by
 obtain ⟨⟨h, g, d, k, os⟩, hs, hv⟩ := Option.map_eq_some_iff.mp (PySem.W.boot_open (p := PySem.Challenge.rw_fencegate_k12_numbers_rise.row.prog) (N := 12 + (1 + (1470 + 3404))) (by kernel_rfl) (by decide) (fun s => by kernel_rfl) w)
 simp only [Prod.mk.injEq] at hv
 obtain ⟨rfl, rfl, rfl, rfl⟩ := hv
 have R := zfx w os
 obtain ⟨z1, z2, z3⟩ : _ ∧ _ ∧ _ := by simpa only [Prod.mk.injEq] using zfy w
 cases e : PySem.W.topRun treeTable PySem.Challenge.rw_fencegate_k12_numbers_rise.row.prog w 11 (some (Value.ref 6)) 3404 ⟨hM w.params, #[], {}, 336, os⟩ (PySem.W.restOf kend kenv (Code.body (PySem.W.behindTheImports PySem.Challenge.pw_fencegate_k12_numbers_rise) kenv) ⟨25, 0, 28, 16⟩ [PySem.W.topFrame ⟨0, 0, 0, 0⟩]) with
 | none => rw [e] at R; cases R
 | some r =>
  rw [e] at R
  have G := PySem.W.go_top (zgo w os) (PySem.W.piece_block (zgp w os) (PySem.W.piece_app (zgq w os) e))
  unfold PySem.W.openEnds
  rw [hs]
  show (PySem.W.topFrom treeTable PySem.Challenge.rw_fencegate_k12_numbers_rise.row.prog w _ _).map _ = _
  unfold PySem.W.topFrom
  dsimp only
  rw [z1, z2, z3, G]
  exact R
end Fg
end
section
namespace L2
open PySem PySem.Spec PyProof.Rows
abbrev Key := Sum Int Str
def zfh : Key → Value → Bool
 | .inl k, v => Value.isInt k v
 | .inr x, v => Value.isStrOf x v
def keyH (w : World) : Key → Int
 | .inl k => hashInt k
 | .inr x => hashStr w x
theorem z1l : ∀ {k : Key} {v : Value}, zfh k v = true → (∃ i t, k = Sum.inl i ∧ v = Value.int i t) ∨ (∃ x t, k = Sum.inr x ∧ v = Value.str x t)
 | .inl i, v, h => by
  obtain ⟨t, e⟩ := Value.isInt_shape (k := i) (v := v) h
  exact .inl ⟨i, t, rfl, e⟩
 | .inr x, v, h => by
  obtain ⟨t, e⟩ := Value.isStrOf_shape (x := x) (v := v) h
  exact .inr ⟨x, t, rfl, e⟩
theorem zgr (a b : Int) : decide ((Sum.inl a : Key) = Sum.inl b) = (a == b) := by
 by_cases e : a = b
 ·subst e; simp
 ·have h : ¬ (Sum.inl a : Key) = Sum.inl b := fun q => e (Sum.inl.inj q)
  rw [decide_eq_false h]
  exact (beq_eq_false_iff_ne.mpr e).symm
theorem zgs (a b : Str) : decide ((Sum.inr a : Key) = Sum.inr b) = decide (a = b) := by
 by_cases e : a = b
 ·subst e; simp
 ·have h : ¬ (Sum.inr a : Key) = Sum.inr b := fun q => e (Sum.inr.inj q)
  rw [decide_eq_false h, decide_eq_false e]
theorem zgt (a : Int) (b : Str) : decide ((Sum.inl a : Key) = Sum.inr b) = false := decide_eq_false (fun q => nomatch q)
theorem zgu (a : Str) (b : Int) : decide ((Sum.inr a : Key) = Sum.inl b) = false := decide_eq_false (fun q => nomatch q)
def zbf (prog : Program) (w : World) : PySem.KeyKind prog w Key where
 is := zfh
 hash := keyH w
 inj := fun v a b ha hb => by
  rcases z1l ha with ⟨i, t, rfl, rfl⟩ | ⟨x, t, rfl, rfl⟩
  ·rcases z1l hb with ⟨j, u, rfl, e⟩ | ⟨y, u, rfl, e⟩
   ·injection e with e1 _; rw [e1]
   ·exact nomatch e
  ·rcases z1l hb with ⟨j, u, rfl, e⟩ | ⟨y, u, rfl, e⟩
   ·exact nomatch e
   ·injection e with e1 _; rw [e1]
 byValue := fun k v h => by
  rcases z1l h with ⟨i, t, rfl, rfl⟩ | ⟨x, t, rfl, rfl⟩ <;> rfl
 pyHash := fun hv h => by
  rcases z1l hv with ⟨i, t, rfl, rfl⟩ | ⟨x, t, rfl, rfl⟩
  ·exact wpAny_pyHash_int h
  ·exact wpAny_pyHash_str h
 eqBool := fun hu hv h => by
  rcases z1l hu with ⟨i, t, rfl, rfl⟩ | ⟨x, t, rfl, rfl⟩
  ·rcases z1l hv with ⟨j, u, rfl, rfl⟩ | ⟨y, u, rfl, rfl⟩
   ·rw [zgr] at h; exact wpAny_eqBool_int h
   ·rw [zgt] at h; exact SeqAt.EqAt.int_str i t y u _ _ _ _ h
  ·rcases z1l hv with ⟨j, u, rfl, rfl⟩ | ⟨y, u, rfl, rfl⟩
   ·rw [zgu] at h; exact SeqAt.EqAt.str_int x t j u _ _ _ _ h
   ·rw [zgs] at h; exact wpAny_eqBool_str h
 «strs» := fun k x t v h => by
  rcases z1l h with ⟨i, u, rfl, e⟩ | ⟨y, u, rfl, e⟩
  ·exact nomatch e
  ·injection e with e1 _
   subst e1
   cases v <;> rfl
end L2
namespace L2
open PySem PySem.Spec PyProof.Rows
inductive V where
 | non | bl (b : Bool) | int (i : Int) | str (x : Str) | byt (b : Array UInt8) | flt (b : UInt64) | ref (a : Addr) | ty (n : String)
 deriving DecidableEq
def RelV : V → Value → Prop
 | .non, u => u = Value.none
 | .bl b, u => u = Value.bool b
 | .int i, u => ∃ t, u = Value.int i t
 | .str x, u => ∃ t, u = Value.str x t
 | .byt b, u => ∃ t, u = Value.bytes b t
 | .flt b, u => ∃ t, u = Value.float b t
 | .ref a, u => u = Value.ref a
 | .ty n, u => u = Value.type n
abbrev Vals : List V → List Value → Prop := Paired RelV
theorem Vals.length {xs : List V} {us : List Value} (r : Vals xs us) : xs.length = us.length := Paired.length r
theorem Vals.get : ∀ {xs : List V} {us : List Value} {i : Nat} {x : V}, Vals xs us → xs[i]? = some x → ∃ u, us[i]? = some u ∧ RelV x u
 | _, _, _, _, .nil, e => by simp at e
 | _, _, 0, _, .cons r _, e => by simp at e; subst e; exact ⟨_, rfl, r⟩
 | _, _, i + 1, x, .cons _ t, e => by
  obtain ⟨u, h1, h2⟩ := Vals.get (i := i) (x := x) t (by simpa using e)
  exact ⟨u, by simpa using h1, h2⟩
theorem Vals.set {x : V} {u : Value} (r : RelV x u) : ∀ {xs : List V} {us : List Value} (i : Nat), Vals xs us → Vals (xs.set i x) (us.set i u)
 | _, _, _, .nil => .nil
 | _, _, 0, .cons _ t => .cons r t
 | _, _, i + 1, .cons q t => .cons q (Vals.set r i t)
theorem Vals.append : ∀ {xs ys : List V} {us ws : List Value}, Vals xs us → Vals ys ws → Vals (xs ++ ys) (us ++ ws)
 | _, _, _, _, .nil, s => s
 | _, _, _, _, .cons r t, s => .cons r (Vals.append t s)
theorem Vals.take : ∀ {xs : List V} {us : List Value} (n : Nat), Vals xs us → Vals (xs.take n) (us.take n)
 | _, _, 0, _ => .nil
 | _, _, _ + 1, .nil => .nil
 | _, _, n + 1, .cons r t => .cons r (Vals.take n t)
theorem Vals.drop : ∀ {xs : List V} {us : List Value} (n : Nat), Vals xs us → Vals (xs.drop n) (us.drop n)
 | _, _, 0, r => r
 | _, _, _ + 1, .nil => .nil
 | _, _, n + 1, .cons _ t => Vals.drop n t
theorem Vals.none_of : ∀ {xs : List V} {us : List Value} {i : Nat}, Vals xs us → xs[i]? = none → us[i]? = none := fun {xs us i} r e => by
 have h1 := r.length
 have h2 : xs.length ≤ i := List.getElem?_eq_none_iff.mp e
 exact List.getElem?_eq_none_iff.mpr (by omega)
def RelO : Option V → Option Value → Prop
 | some v, some u => RelV v u
 | none, none => True
 | _, _ => False
def KV {κ : Type} : List (κ × V) → List (κ × Value) → Prop := Paired fun (p : κ × V) (q : κ × Value) => p.1 = q.1 ∧ RelV p.2 q.2
def kV : Key → V
 | .inl i => .int i
 | .inr x => .str x
inductive HO where
 | lst (xs : List V)
 | tup (xs : List V)
 | dK (kvs : List (Key × V)) | dT (kvs : List (List Key × V))
 | set (S : Int → Bool) (n : Nat)
 | ins (C dx : Addr) (fs : List (Str × V))
 | own (x : Addr)
 | xd (fs : List (Str × V))
 | met (f x : Addr)
 | rng (lo hi : Int)
 | frz (o : Obj) (u : HO)
 | tbl (ps : Array Value)
 | ext (φ : Heap → Prop)
abbrev Hp := Addr → Option HO
def upd (H : Hp) (a : Addr) (o : HO) : Hp := fun b => if b = a then some o else H b
theorem z9 {H : Hp} {a : Addr} {o : HO} : upd H a o a = some o := by unfold upd; rw [if_pos rfl]
theorem zb {H : Hp} {a b : Addr} {o : HO} (h : b ≠ a) : upd H a o b = H b := by unfold upd; rw [if_neg h]
theorem zh {H : Hp} {a b : Addr} {o : HO} (h : H a = some o) (h' : H b = none) : a ≠ b := by
 intro e; subst e; rw [h] at h'; cases h'
section
variable (P : Program) (w : World)
def ObjOk (H : Hp) (h : Heap) (a : Addr) : HO → Prop
 | .lst xs => xs.length ≤ sizeLine ∧ ∃ (its : List Value) (n : Nat), Vals xs its ∧ h.get? a = some { cls := .type "list", data := .seq its.toArray n }
 | .tup xs => xs.length ≤ sizeLine ∧ ∃ its : List Value, Vals xs its ∧ IsTup h a its.toArray
 | .dK kvs => kvs.length ≤ sizeLine ∧ (a == sysModules) = false ∧ ∃ vs, KV kvs vs ∧ h.DictOf (zbf P w) a vs
 | .dT kvs => kvs.length ≤ sizeLine ∧ (a == sysModules) = false ∧ ∃ xs : List (List Key × Addr × Value),
   Paired (fun (p : List Key × V) (q : List Key × Addr × Value) => p.1 = q.1 ∧ H q.2.1 = some (.tup (p.1.map kV)) ∧ RelV p.2 q.2.2) kvs xs ∧
   ∃ o es ep, h.get? a = some o ∧ o.ExactDict ∧ o.data = .dict es ep ∧ es.toList = xs.map (entryOfKey (tupleKind (zbf P w))) ∧ (xs.map (·.1)).Nodup
 | .set S n => h.SetOf (intKind P w) a S n
 | .ins C dx fs => H dx = some (.own a) ∧ fs.length ≤ 1000 ∧ dx ≠ a ∧ h.get? a = some (PySem.W.instObj C dx) ∧
   ∃ mA, h.Ns1 dx mA ∧ (∀ f, RelO (fs.lookup f) (mA f)) ∧ PySem.Within mA (fs.map (·.1))
 | .own _ => ∃ o, h.get? a = some o
 | .xd fs => ∃ mA, h.Ns1 a mA ∧ ∀ f, RelO (fs.lookup f) (mA f)
 | .rng lo hi => ∃ t u v, h.get? a = some { cls := .type "range", data := .fields #[.int lo t, .int hi u, .int 1 v] }
 | .frz o u => h.get? a = some o ∧ ObjOk H h a u
 | .tbl ps => h.get? a = some { cls := .none, data := .fields ps }
 | .met f x => h.get? a = some (PySem.W.methodObj (.ref f) (.ref x))
 | .ext φ => φ h ∧ (∃ o, h.get? a = some o) ∧ ∀ h1 h2 : Heap, φ h1 → (∀ o, h1.get? a = some o → h2.get? a = some o) → φ h2
def HOk (H : Hp) (h : Heap) : Prop := ∀ a o, H a = some o → ObjOk P w H h a o
end
section
variable {P : Program} {w : World} {H H' : Hp} {h h' : Heap} {a : Addr} {o : HO}
theorem ObjOk.lt (x : ObjOk P w H h a o) : a < h.objs.size := by
 cases o with
 | lst xs => obtain ⟨_, _, _, _, e⟩ := x; exact Heap.lt_size e
 | tup xs => obtain ⟨_, _, _, p⟩ := x; exact p.lt
 | dK kvs => obtain ⟨_, _, _, _, o, _, _, e, _⟩ := x; exact Heap.lt_size e
 | dT kvs => obtain ⟨_, _, _, _, o, _, _, e, _⟩ := x; exact Heap.lt_size e
 | set S n => obtain ⟨o, _, _, _, e, _⟩ := x; exact Heap.lt_size e
 | ins C dx fs => obtain ⟨_, _, _, e, _⟩ := x; exact Heap.lt_size e
 | own y => obtain ⟨_, e⟩ := x; exact Heap.lt_size e
 | xd fs => obtain ⟨_, ⟨_, _, _, e, _⟩, _⟩ := x; exact Heap.lt_size e
 | rng lo hi => obtain ⟨_, _, _, e⟩ := x; exact Heap.lt_size e
 | frz ob u => obtain ⟨e, _⟩ := x; exact Heap.lt_size e
 | tbl ps => exact Heap.lt_size (show h.get? a = some _ from x)
 | met f y => exact Heap.lt_size (show h.get? a = some _ from x)
 | ext φ => obtain ⟨_, ⟨_, e⟩, _⟩ := x; exact Heap.lt_size e
theorem Paired.mapP {α β : Type} {F G : α → β → Prop} : ∀ {l₁ : List α} {l₂ : List β}, Paired F l₁ l₂ → (∀ a b, F a b → G a b) → Paired G l₁ l₂
 | _, _, .nil, _ => .nil
 | _, _, .cons r t, f => .cons (f _ _ r) (Paired.mapP t f)
theorem ObjOk.stay (x : ObjOk P w H h a o) (k : ∀ b u, (b = a ∨ H b = some (.own a)) → h.get? b = some u → h'.get? b = some u)
  (ho : ∀ b, H b = some (.own a) → H' b = some (.own a)) (ht : ∀ b xs, H b = some (.tup xs) → H' b = some (.tup xs)) : ObjOk P w H' h' a o := by
 induction o with
 | lst xs => obtain ⟨z, its, n, r, e⟩ := x; exact ⟨z, its, n, r, k _ _ (.inl rfl) e⟩
 | tup xs => obtain ⟨z, its, r, ob, e, c⟩ := x; exact ⟨z, its, r, ob, k _ _ (.inl rfl) e, c⟩
 | dK kvs => obtain ⟨z, y, vs, r, ob, es, ep, e, c⟩ := x; exact ⟨z, y, vs, r, ob, es, ep, k _ _ (.inl rfl) e, c⟩
 | dT kvs =>
  obtain ⟨z, y, xs, r, ob, es, ep, e, c⟩ := x
  exact ⟨z, y, xs, Paired.mapP r fun p q z => ⟨z.1, ht _ _ z.2.1, z.2.2⟩, ob, es, ep, k _ _ (.inl rfl) e, c⟩
 | set S n => obtain ⟨ob, es, ep, t, e, c⟩ := x; exact ⟨ob, es, ep, t, k _ _ (.inl rfl) e, c⟩
 | ins C dx fs =>
  obtain ⟨d, z, ne, e, mA, ⟨od, es, ep, e2, c⟩, r⟩ := x
  exact ⟨ho _ d, z, ne, k _ _ (.inl rfl) e, mA, ⟨od, es, ep, k _ _ (.inr d) e2, c⟩, r⟩
 | own y => obtain ⟨ob, e⟩ := x; exact ⟨ob, k _ _ (.inl rfl) e⟩
 | xd fs => obtain ⟨mA, ⟨od, es, ep, e, c⟩, r⟩ := x; exact ⟨mA, ⟨od, es, ep, k _ _ (.inl rfl) e, c⟩, r⟩
 | rng lo hi => obtain ⟨t, u, v, e⟩ := x; exact ⟨t, u, v, k _ _ (.inl rfl) e⟩
 | frz ob u ih => obtain ⟨e, q⟩ := x; exact ⟨k _ _ (.inl rfl) e, ih q⟩
 | tbl ps =>
  have e : h.get? a = some { cls := .none, data := .fields ps } := x
  show h'.get? a = some { cls := .none, data := .fields ps }
  exact k a _ (.inl rfl) e
 | met f y =>
  have e : h.get? a = some (PySem.W.methodObj (.ref f) (.ref y)) := x
  show h'.get? a = some (PySem.W.methodObj (.ref f) (.ref y))
  exact k a _ (.inl rfl) e
 | ext φ => obtain ⟨p, ⟨o, e⟩, st⟩ := x; exact ⟨st _ _ p fun o q => k _ _ (.inl rfl) q, ⟨o, k _ _ (.inl rfl) e⟩, st⟩
theorem HOk.lt (x : HOk P w H h) (e : H a = some o) : a < h.objs.size := (x a o e).lt
theorem HOk.fresh (x : HOk P w H h) (e : h.objs.size ≤ a) : H a = none := by
 cases q : H a with
 | none => rfl
 | some u => exact absurd (Nat.lt_of_lt_of_le (x.lt q) e) (Nat.lt_irrefl _)
theorem HOk.kept (x : HOk P w H h) (k : ∀ b u, h.get? b = some u → h'.get? b = some u) : HOk P w H h' := fun a o e =>
 (x a o e).stay (fun b u _ q => k b u q) (fun _ q => q) fun _ _ q => q
theorem HOk.laid (x : HOk P w H h) (k : ∀ b u, h.get? b = some u → h'.get? b = some u) (hp : h.objs.size ≤ a) (new : ObjOk P w (upd H a o) h' a o) : HOk P w (upd H a o) h' := fun b u e => by
 have hn := x.fresh hp
 by_cases hb : b = a
 ·subst hb; rw [z9] at e; cases e; exact new
 ·rw [zb hb] at e
  exact (x b u e).stay (fun c v _ q => k c v q) (fun c q => by rw [zb (zh q hn)]; exact q) fun c xs q => by rw [zb (zh q hn)]; exact q
end
def Rd (H : Hp) (a : Addr) (u : HO) : Prop := H a = some u ∨ ∃ o, H a = some (.frz o u)
theorem Rd.of {H : Hp} {a : Addr} {u : HO} (h : H a = some u) : Rd H a u := .inl h
theorem Rd.ok {P : Program} {w : World} {H : Hp} {h : Heap} {a : Addr} {u : HO} (r : Rd H a u) (x : HOk P w H h) : ObjOk P w H h a u := by
 rcases r with r | ⟨o, r⟩
 ·exact x a u r
 ·obtain ⟨_, q⟩ := x a _ r
  exact q
def Mut : Option HO → Prop
 | some (.lst _) => True
 | some (.dK _) => True
 | some (.dT _) => True
 | some (.set _ _) => True
 | some (.ins _ _ _) => True
 | some (.ext _) => True
 | _ => False
section
variable {P : Program} {w : World} {H : Hp} {h h' : Heap} {x e : Addr} {o' : HO}
theorem HOk.write (ok : HOk P w H h) (mu : Mut (H x)) (he : e = x ∨ H e = some (.own x)) (k : ∀ b u, b ≠ e → h.get? b = some u → h'.get? b = some u) (heo : ∃ u, h'.get? e = some u)
  (new : ObjOk P w (upd H x o') h' x o') : HOk P w (upd H x o') h' := fun b u q => by
 have nown : ∀ c y, H c = some (.own y) → c ≠ x := fun c y r z => by subst z; rw [r] at mu; exact mu
 have ntup : ∀ c xs, H c = some (.tup xs) → c ≠ x := fun c xs r z => by subst z; rw [r] at mu; exact mu
 by_cases hb : b = x
 ·subst hb; rw [z9] at q; cases q; exact new
 ·rw [zb hb] at q
  by_cases hbe : b = e
  ·have q' : H b = some (.own x) := by
    rcases he with z | z
    ·exact absurd (hbe.trans z) hb
    ·rw [hbe]; exact z
   rw [q] at q'; cases q'
   obtain ⟨v, hv⟩ := heo
   exact ⟨v, by rw [hbe]; exact hv⟩
  ·refine (ok b u q).stay (fun c v hc r => k c v ?_ r) (fun c r => by rw [zb (nown c b r)]; exact r) fun c xs r => by rw [zb (ntup c xs r)]; exact r
   rcases hc with rfl | hc
   ·exact hbe
   ·rintro rfl
    rcases he with z | z
    ·exact nown c b hc z
    ·rw [hc] at z; cases z; exact hb rfl
end
structure Un (fs ex : List Addr) (H H' : Hp) (h h' : Heap) : Prop where
 keep : ∀ b o, h.get? b = some o → H b = none → b ∉ fs → b ∉ ex → h'.get? b = some o
 slot : ∀ b o, h.get? b = some o → H b = none → b ∈ fs → b ∉ ex → ∃ sl, h'.get? b = some { o with slots := sl }
 free : ∀ b o, h.get? b = some o → H b = none → b ∉ ex → H' b = none
 there : ∀ b o, h.get? b = some o → b ∉ ex → ∃ o', h'.get? b = some o'
 tups : ∀ b xs, H b = some (.tup xs) → H' b = some (.tup xs)
 frzs : ∀ b o u, H b = some (.frz o u) → H' b = some (.frz o u)
 tbls : ∀ b ps, H b = some (.tbl ps) → ∃ more, H' b = some (.tbl (ps ++ more))
section
variable {fs fs' ex ex' : List Addr} {H H1 H2 : Hp} {h h1 h2 h' : Heap} {a x e : Addr} {o : HO}
theorem Un.any (u : Un fs ex H H1 h h1) {b : Addr} {ob : Obj} (q : h.get? b = some ob) (n : H b = none) (hx : b ∉ ex) : ∃ sl, h1.get? b = some { ob with slots := sl } := by
 by_cases hb : b ∈ fs
 ·exact u.slot b ob q n hb hx
 ·exact ⟨ob.slots, u.keep b ob q n hb hx⟩
theorem Un.trans (a : Un fs ex H H1 h h1) (b : Un fs ex H1 H2 h1 h2) : Un fs ex H H2 h h2 where
 keep := fun c ob q n hc hx => b.keep c ob (a.keep c ob q n hc hx) (a.free c ob q n hx) hc hx
 slot := fun c ob q n hc hx => by
  obtain ⟨sl, e1⟩ := a.slot c ob q n hc hx
  obtain ⟨sl', e2⟩ := b.slot c _ e1 (a.free c ob q n hx) hc hx
  exact ⟨sl', e2⟩
 free := fun c ob q n hx => by
  obtain ⟨o', e1⟩ := a.there c ob q hx
  exact b.free c o' e1 (a.free c ob q n hx) hx
 there := fun c ob q hx => by
  obtain ⟨o', e1⟩ := a.there c ob q hx
  exact b.there c o' e1 hx
 tups := fun c xs q => b.tups c xs (a.tups c xs q)
 frzs := fun c ob xs q => b.frzs c ob xs (a.frzs c ob xs q)
 tbls := fun c ps q => by
  obtain ⟨m1, e1⟩ := a.tbls c ps q
  obtain ⟨m2, e2⟩ := b.tbls c _ e1
  exact ⟨m1 ++ m2, by rw [e2, Array.append_assoc]⟩
theorem Un.kept (k : ∀ b u, h.get? b = some u → h'.get? b = some u) : Un fs ex H H h h' :=
 ⟨fun b ob q _ _ _ => k b ob q, fun b ob q _ _ _ => ⟨ob.slots, k b ob q⟩, fun _ _ _ n _ => n, fun b ob q _ => ⟨ob, k b ob q⟩, fun _ _ q => q, fun _ _ _ q => q, fun _ ps q => ⟨#[], by rw [q]; simp⟩⟩
theorem Un.refl : Un fs ex H H h h := Un.kept fun _ _ q => q
theorem Un.laid (k : ∀ b u, h.get? b = some u → h'.get? b = some u) (hp : h.objs.size ≤ a) (hn : H a = none) : Un fs ex H (upd H a o) h h' where
 keep := fun b u q _ _ _ => k b u q
 slot := fun b u q _ _ _ => ⟨u.slots, k b u q⟩
 free := fun b u q n _ => by rw [zb (Nat.ne_of_lt (Nat.lt_of_lt_of_le (Heap.lt_size q) hp))]; exact n
 there := fun b u q _ => ⟨u, k b u q⟩
 tups := fun b xs q => by rw [zb (zh q hn)]; exact q
 frzs := fun b u xs q => by rw [zb (zh q hn)]; exact q
 tbls := fun b ps q => ⟨#[], by rw [zb (zh q hn), q]; simp⟩
theorem Un.write (mu : Mut (H x)) (he : e = x ∨ H e = some (.own x)) (k : ∀ b u, b ≠ e → h.get? b = some u → h'.get? b = some u) (heo : ∃ u, h'.get? e = some u) : Un fs ex H (upd H x o) h h' := by
 have hx : ∀ b, H b = none → b ≠ x := fun b n z => by subst z; rw [n] at mu; exact mu
 have hb : ∀ b, H b = none → b ≠ e := fun b n z => by
  subst z
  rcases he with r | r
  ·exact hx b n r
  ·rw [n] at r; cases r
 have hm : ∀ b u, H b = some u → ¬ Mut (some u) → b ≠ x := fun b u q nm z => by subst z; rw [q] at mu; exact nm mu
 refine ⟨fun b u q n _ _ => k b u (hb b n) q, fun b u q n _ _ => ⟨u.slots, k b u (hb b n) q⟩, fun b u q n _ => by rw [zb (hx b n)]; exact n, fun b u q _ => ?_,
  fun b xs q => by rw [zb (hm b _ q fun z => z)]; exact q, fun b u xs q => by rw [zb (hm b _ q fun z => z)]; exact q, fun b ps q => ⟨#[], by rw [zb (hm b _ q fun z => z), q]; simp⟩⟩
 by_cases hbe : b = e
 ·subst hbe; exact heo
 ·exact ⟨u, k b u hbe q⟩
theorem Un.mono (u : Un fs ex H H1 h h1) (hs : ∀ b ∈ fs, b ∈ fs') (hx : ∀ b ∈ ex, b ∈ ex') : Un fs' ex' H H1 h h1 :=
 ⟨fun b ob q n hb he => u.keep b ob q n (fun z => hb (hs b z)) fun z => he (hx b z), fun _ _ q n _ he => u.any q n fun z => he (hx _ z), fun b ob q n he => u.free b ob q n fun z => he (hx b z), fun b ob q he => u.there b ob q fun z => he (hx b z), u.tups, u.frzs, u.tbls⟩
end
def trk (h : Heap) (H : Hp) : List Addr := (List.range h.objs.size).filter fun a => (H a).isSome
def hidT (h : Heap) (H : Hp) : Heap := PySem.W.hideAll h (trk h H)
theorem zd0 (h : Heap) (H : Hp) : (hidT h H).objs.size = h.objs.size := PySem.W.hideAll_size _ _
theorem zel {h : Heap} {H : Hp} {b : Addr} {o : Obj} (e : h.get? b = some o) (n : H b = none) : (hidT h H).get? b = some o :=
 PySem.W.hideAll_get _ e fun hm => by
  have q : (H b).isSome = true := (List.mem_filter.mp hm).2
  rw [n] at q; simp at q
theorem zfz {h : Heap} {H : Hp} {b : Addr} {o : Obj} (e : (hidT h H).get? b = some o) : h.get? b = some o ∧ H b = none := by
 have e' : h.get? b = some o := PySem.W.of_hideAll (trk h H) e
 refine ⟨e', ?_⟩
 cases q : H b with
 | none => rfl
 | some x =>
  have hm : b ∈ trk h H := List.mem_filter.mpr ⟨List.mem_range.mpr (Heap.lt_size e'), by simp [q]⟩
  have z : (hidT h H).get? b = none := PySem.W.hideAll_none (trk h H) hm
  rw [z] at e; cases e
def zg0 (g h : Heap) (L : Addr) : List (Addr × Obj) := (List.range h.objs.size).filterMap fun a => if a = L ∨ (g.get? a).isSome = true then none else (h.get? a).map fun o => (a, o)
def rest (g h : Heap) (L d : Addr) : List (Addr × Obj) := (zg0 g h L).filter fun p => decide (p.1 ≠ d)
end L2
namespace L2
open PySem PySem.Spec PyProof.Rows
structure Mod (K : PySem.W.Frag) (mg : Str → Option Value) (base : Heap) : Prop where
 kin : K.In base
 glob : base.Ns mainGlobals mg
 blt : ∃ mb, base.Ns builtinsNs mb ∧ ∀ x : Str, x ≠ "__name__" → mb x = bootBuiltins x
 nolimit : base.NoLimit
structure Cx where
 prog : Program
 w : World
 K : PySem.W.Frag
 mg : Str → Option Value
 base : Heap
 A : Around
 N : List Str
 s₀ : Shared
 H₀ : Hp
 env : Env
 outer : List Env
 stack : List Env
 ex : List Addr
 fn : Str → Bool
 calm : Bool
 pn : List (Addr × Obj)
 xe : Value → Shared → Prop
def frs (l : List Env) : List Addr := l.filterMap (·.frame)
abbrev Cx.fs (X : Cx) : List Addr := frs X.outer
def Vis (sc : Scope) (x : Str) : Prop := sc.names.lookup x = some .local ∨ sc.names.lookup x = some .cell ∨ sc.names.lookup x = some .free
def Loc (sc : Scope) (x : Str) : Prop := sc.names.lookup x = some .local ∨ sc.names.lookup x = some .cell
def Look (env : Env) (h : Heap) (m : Str → Option Value) (x : Str) (u : Value) : Prop :=
 (env.kindOf x = some .local ∧ m x = some u) ∨ ((env.kindOf x = some .cell ∨ env.kindOf x = some .free) ∧ ∃ c, env.cells.lookup x = some c ∧ h.IsCell c (some u))
structure Cx.Ok (X : Cx) : Prop where
 mod : Mod X.K X.mg X.base
 kind : X.env.scope.kind = .function
 glob : X.env.globals = mainGlobals
 blt : X.env.builtins = builtinsNs
 above : X.s₀.heap.objs.size ≤ X.env.locals
 inj : ∀ x y c, X.env.cells.lookup x = some c → X.env.cells.lookup y = some c → x = y
 has : ∀ x, (X.env.kindOf x = some .cell ∨ X.env.kindOf x = some .free) → ∃ c, X.env.cells.lookup x = some c
 cab : ∀ x c, X.fn x = true → X.env.cells.lookup x = some c → X.s₀.heap.objs.size ≤ c
 hd : X.calm = true → X.A.handled = none
 frames : X.A.frames = some X.stack
 stk : X.stack = X.outer ∨ (X.stack = X.env :: X.outer ∧ X.env.frame = some X.env.locals)
 exf : ∀ b ∈ X.ex, b ≠ X.env.locals ∧ ∀ x c, X.env.cells.lookup x = some c → c ≠ b
 bs : ∀ b o, X.base.get? b = some o → X.s₀.heap.get? b = some o ∧ X.H₀ b = none
 bsz : X.base.objs.size ≤ X.s₀.heap.objs.size
 noex : ∀ b o, X.base.get? b = some o → b ∉ X.ex
 exfs : ∀ b ∈ X.ex, b ∉ X.fs
 funs : X.s₀.heap.FunFrames X.base X.outer
 frf : ∀ b ∈ X.fs, X.H₀ b = none
structure Inv (X : Cx) (pins : List (Addr × Obj)) (σ : List (Option V)) (H : Hp) (s : Shared) : Prop where
 ok : X.Ok
 os : s.os = X.s₀.os
 bare : AllBare s.gens
 base : Un X.fs X.ex X.H₀ H X.s₀.heap s.heap
 loc : ∃ m, s.heap.Ns X.env.locals m ∧ ∀ (i : Nat) (x : Str) (v : V), X.N[i]? = some x → σ[i]? = some (some v) → Vis X.env.scope x → ∃ u, RelV v u ∧ Look X.env s.heap m x u
 cell : ∀ x c, X.env.cells.lookup x = some c → ∃ v, s.heap.IsCell c v
 free : H X.env.locals = none
 freeC : ∀ x c, X.env.cells.lookup x = some c → H c = none
 pin : ∀ p ∈ X.pn ++ pins, s.heap.get? p.1 = some p.2 ∧ H p.1 = none ∧ p.1 ≠ X.env.locals ∧ p.1 ∉ X.fs ∧ ∀ v, p.2.data ≠ .cell v
 hok : HOk X.prog X.w H s.heap
 len : σ.length = X.N.length
section
variable {X : Cx} {pins : List (Addr × Obj)} {σ : List (Option V)} {H H' : Hp} {s : Shared} {h' : Heap}
theorem Cx.Ok.nofr (ok : X.Ok) {b : Addr} {o : Obj} (e : X.base.get? b = some o) : b ∉ X.fs := fun hb => by
 have := (ok.funs.mem hb).1
 rw [e] at this; cases this
theorem Inv.bs (I : Inv X pins σ H s) : ∀ b o, X.base.get? b = some o → s.heap.get? b = some o ∧ H b = none := fun b o e =>
 ⟨I.base.keep b o (I.ok.bs b o e).1 (I.ok.bs b o e).2 (I.ok.nofr e) (I.ok.noex b o e), I.base.free b o (I.ok.bs b o e).1 (I.ok.bs b o e).2 (I.ok.noex b o e)⟩
theorem Inv.bk (I : Inv X pins σ H s) : ∀ b o, X.base.get? b = some o → s.heap.get? b = some o := fun b o e => (I.bs b o e).1
theorem Inv.mod (I : Inv X pins σ H s) : Mod X.K X.mg X.base := I.ok.mod
theorem Inv.kIn (I : Inv X pins σ H s) : X.K.In s.heap := I.ok.mod.kin.keeps I.bk
theorem Inv.nolimit (I : Inv X pins σ H s) : s.heap.NoLimit := I.ok.mod.nolimit.keeps I.bk
theorem Inv.fr (I : Inv X pins σ H s) : ∃ m, Fr X.base X.env.locals s.heap m :=
 let ⟨m, hn, _⟩ := I.loc
 ⟨m, hn, I.bk, Nat.le_trans I.ok.bsz I.ok.above⟩
theorem Inv.lt (I : Inv X pins σ H s) : X.env.locals < s.heap.objs.size := let ⟨_, hn, _⟩ := I.loc; hn.lt
theorem Inv.sz (I : Inv X pins σ H s) : X.s₀.heap.objs.size ≤ s.heap.objs.size := Nat.le_trans I.ok.above (Nat.le_of_lt I.lt)
theorem Inv.nofs (I : Inv X pins σ H s) {a : Addr} (h : s.heap.objs.size ≤ a) : a ∉ X.fs := fun hb => by
 obtain ⟨_, o, ho, _⟩ := I.ok.funs.mem hb
 exact absurd (Nat.lt_of_lt_of_le (Heap.lt_size ho) (Nat.le_trans I.sz h)) (Nat.lt_irrefl _)
theorem Inv.cne (I : Inv X pins σ H s) : ∀ x c, X.env.cells.lookup x = some c → c ≠ X.env.locals := fun x c e z => by
 obtain ⟨v, o, ho, hd⟩ := I.cell x c e
 obtain ⟨m, ⟨o', es, ep, ho', hd', _⟩, _⟩ := I.loc
 rw [z, ho'] at ho; cases ho; rw [hd'] at hd; cases hd
theorem Inv.funs (I : Inv X pins σ H s) : s.heap.FunFrames X.base X.outer := by
 have all : ∀ (l : List Env), (∀ b ∈ frs l, b ∈ X.fs) → X.s₀.heap.FunFrames X.base l → s.heap.FunFrames X.base l := by
  intro l
  induction l with
  | nil => intro _ _; trivial
  | cons env r ih =>
   intro hs hl
   obtain ⟨hk, ⟨L, o, hf, hn, ho, hd⟩, hr⟩ := hl
   have hL : L ∈ X.fs := hs L (by unfold frs; rw [List.filterMap_cons, hf]; exact List.mem_cons_self)
   obtain ⟨sl, e⟩ := I.base.slot L o ho (I.ok.frf L hL) hL fun z => I.ok.exfs L z hL
   exact ⟨hk, ⟨L, _, hf, hn, e, hd⟩, ih (fun b hb => hs b (by unfold frs; rw [List.filterMap_cons, hf]; exact List.mem_cons_of_mem _ hb)) hr⟩
 exact all X.outer (fun _ hb => hb) I.ok.funs
theorem Inv.stack (I : Inv X pins σ H s) : s.heap.FunFrames X.base X.stack := by
 rcases I.ok.stk with e | ⟨e, hf⟩
 ·rw [e]; exact I.funs
 ·rw [e]
  obtain ⟨m, hn, _⟩ := I.loc
  refine .cons (by rw [I.ok.kind]; decide) hf hn ?_ I.funs
  exact Heap.get?_none_of_le (Nat.le_trans I.ok.bsz I.ok.above)
theorem Inv.stkSub (I : Inv X pins σ H s) : ∀ b ∈ frs X.stack, b ∈ X.env.locals :: X.fs := fun b hb => by
 rcases I.ok.stk with e | ⟨e, hf⟩
 ·rw [e] at hb; exact List.mem_cons_of_mem _ hb
 ·rw [e] at hb
  unfold frs at hb
  rw [List.filterMap_cons, hf] at hb
  exact hb
theorem Inv.stkFree (I : Inv X pins σ H s) : ∀ b ∈ frs X.stack, H b = none := fun b hb => by
 rcases List.mem_cons.mp (I.stkSub b hb) with e | hb
 ·rw [e]; exact I.free
 ·obtain ⟨_, o, ho, _⟩ := I.ok.funs.mem hb
  exact I.base.free b o ho (I.ok.frf b hb) fun z => I.ok.exfs b z hb
theorem Inv.step {g' : Array GenState} {t' : Nat} {d' : Drawn} {ch : List Addr} (I : Inv X pins σ H s)
  (hch : ∀ b ∈ ch, (b ∈ X.ex ∨ X.s₀.heap.objs.size ≤ b) ∧ b ≠ X.env.locals ∧ (∀ x c, X.env.cells.lookup x = some c → c ≠ b) ∧ ∀ p ∈ X.pn ++ pins, p.1 ≠ b)
  (keep : ∀ b o, b ≠ X.env.locals → b ∉ X.fs → b ∉ ch → s.heap.get? b = some o → H b = none → h'.get? b = some o)
  (slot : ∀ b o, b ≠ X.env.locals → b ∈ X.fs → b ∉ ch → s.heap.get? b = some o → H b = none → ∃ sl, h'.get? b = some { o with slots := sl }) (free : ∀ b o, b ∉ ch → s.heap.get? b = some o → H b = none → H' b = none)
  (there : ∀ b o, b ∉ ch → s.heap.get? b = some o → ∃ o', h'.get? b = some o')
  (tups : ∀ b xs, H b = some (.tup xs) → H' b = some (.tup xs)) (frzs : ∀ b o u, H b = some (.frz o u) → H' b = some (.frz o u)) (tbls : ∀ b ps, H b = some (.tbl ps) → ∃ more, H' b = some (.tbl (ps ++ more)))
  (ns : ∀ m, s.heap.Ns X.env.locals m → h'.Ns X.env.locals m) (hok : HOk X.prog X.w H' h') (hg : AllBare g') :
  Inv X pins σ H' { s with heap := h', gens := g', drawn := d', toks := t' } := by
 have neL : ∀ b o, X.s₀.heap.get? b = some o → b ≠ X.env.locals := fun b o e => Nat.ne_of_lt (Nat.lt_of_lt_of_le (Heap.lt_size e) I.ok.above)
 have neC : ∀ b o, X.s₀.heap.get? b = some o → b ∉ X.ex → b ∉ ch := fun b o e hx hb => by
  rcases (hch b hb).1 with z | z
  ·exact hx z
  ·exact absurd (Nat.lt_of_lt_of_le (Heap.lt_size e) z) (Nat.lt_irrefl _)
 have cellK : ∀ x c, X.env.cells.lookup x = some c → ∀ v, s.heap.IsCell c v → h'.IsCell c v := fun x c e v ⟨o, ho, hd⟩ => by
  have nch : c ∉ ch := fun z => (hch c z).2.2.1 x c e rfl
  by_cases hc : c ∈ X.fs
  ·obtain ⟨sl, q⟩ := slot c o (I.cne x c e) hc nch ho (I.freeC x c e)
   exact ⟨_, q, hd⟩
  ·exact ⟨o, keep c o (I.cne x c e) hc nch ho (I.freeC x c e), hd⟩
 refine ⟨I.ok, I.os, hg, ⟨fun b o e n hb hx => ?_, fun b o e n hb hx => ?_, fun b o e n hx => ?_, fun b o e hx => ?_, fun b xs e => tups b xs (I.base.tups b xs e), fun b o xs e => frzs b o xs (I.base.frzs b o xs e), fun b ps e => ?_⟩, ?_, fun x c e => ?_, ?_, fun x c e => ?_, fun p hp => ?_, hok, I.len⟩
 ·exact keep b o (neL b o e) hb (neC b o e hx) (I.base.keep b o e n hb hx) (I.base.free b o e n hx)
 ·obtain ⟨sl, e1⟩ := I.base.slot b o e n hb hx
  obtain ⟨sl', e2⟩ := slot b _ (neL b o e) hb (neC b o e hx) e1 (I.base.free b o e n hx)
  exact ⟨sl', e2⟩
 ·obtain ⟨o', e1⟩ := I.base.there b o e hx
  exact free b o' (neC b o e hx) e1 (I.base.free b o e n hx)
 ·obtain ⟨o', e1⟩ := I.base.there b o e hx
  exact there b o' (neC b o e hx) e1
 ·obtain ⟨m1, e1⟩ := I.base.tbls b ps e
  obtain ⟨m2, e2⟩ := tbls b _ e1
  exact ⟨m1 ++ m2, by rw [e2, Array.append_assoc]⟩
 ·obtain ⟨m, hn, hl⟩ := I.loc
  refine ⟨m, ns m hn, fun i x v e1 e2 e3 => ?_⟩
  obtain ⟨u, r, l⟩ := hl i x v e1 e2 e3
  refine ⟨u, r, ?_⟩
  rcases l with l | ⟨k, c, e, z⟩
  ·exact .inl l
  ·exact .inr ⟨k, c, e, cellK x c e _ z⟩
 ·obtain ⟨v, z⟩ := I.cell x c e
  exact ⟨v, cellK x c e v z⟩
 ·obtain ⟨m, ⟨o, _, _, ho, _⟩, _⟩ := I.loc
  exact free _ o (fun z => (hch _ z).2.1 rfl) ho I.free
 ·obtain ⟨v, o, ho, hd⟩ := I.cell x c e
  exact free c o (fun z => (hch c z).2.2.1 x c e rfl) ho (I.freeC x c e)
 ·obtain ⟨e, n, ne, nf, d⟩ := I.pin p hp
  have nch : p.1 ∉ ch := fun z => (hch p.1 z).2.2.2 p hp rfl
  exact ⟨keep p.1 p.2 ne nf nch e n, free p.1 p.2 nch e n, ne, nf, d⟩
theorem Inv.un {t' : Nat} (I : Inv X pins σ H s) (u : Un X.fs [] H H' s.heap h') (hok : HOk X.prog X.w H' h') : Inv X pins σ H' { s with heap := h', toks := t' } := by
 obtain ⟨m, ⟨o, es, ep, ho, r⟩, _⟩ := id I.loc
 obtain ⟨sl, hL⟩ := u.any ho I.free (by simp)
 exact I.step (g' := s.gens) (d' := s.drawn) (ch := []) (fun _ z => nomatch z) (fun b o _ hb _ e n => u.keep b o e n hb (by simp)) (fun b o _ hb _ e n => u.slot b o e n hb (by simp)) (fun b o _ e n => u.free b o e n (by simp)) (fun b o _ e => u.there b o e (by simp)) u.tups u.frzs u.tbls (fun m' hm => by
  obtain ⟨o', es', ep', ho', r'⟩ := hm
  rw [ho] at ho'; cases ho'
  exact ⟨_, es', ep', hL, r'⟩) hok I.bare
theorem Inv.call {g' : Array GenState} {t' : Nat} {d' : Drawn} {ch : List Addr} (I : Inv X pins σ H s) (u : Un (frs X.stack) ch H H' s.heap h') (hok : HOk X.prog X.w H' h') (hg : AllBare g')
  (hch : ∀ b ∈ ch, (b ∈ X.ex ∨ X.s₀.heap.objs.size ≤ b) ∧ b ≠ X.env.locals ∧ (∀ x c, X.env.cells.lookup x = some c → c ≠ b) ∧ ∀ p ∈ X.pn ++ pins, p.1 ≠ b) :
  Inv X pins σ H' { s with heap := h', gens := g', drawn := d', toks := t' } := by
 obtain ⟨m, ⟨o, es, ep, ho, r⟩, _⟩ := id I.loc
 obtain ⟨sl, hL⟩ := u.any ho I.free fun z => (hch _ z).2.1 rfl
 exact I.step (ch := ch) hch (fun b o hL hb hc e n => u.keep b o e n (fun z => (List.mem_cons.mp (I.stkSub b z)).elim hL hb) hc) (fun b o _ _ hc e n => u.any e n hc) (fun b o hc e n => u.free b o e n hc) (fun b o hc e => u.there b o e hc) u.tups u.frzs u.tbls (fun m' hm => by
  obtain ⟨o', es', ep', ho', r'⟩ := hm
  rw [ho] at ho'; cases ho'
  exact ⟨_, es', ep', hL, r'⟩) hok hg
theorem Inv.turned {t' : Nat} {it : Addr} (I : Inv X pins σ H s) (k : ∀ b o, b ≠ it → s.heap.get? b = some o → h'.get? b = some o) (hn : H it = none) (hL : it ≠ X.env.locals)
  (h1 : it ∈ X.ex ∨ X.s₀.heap.objs.size ≤ it) (h2 : ∀ x c, X.env.cells.lookup x = some c → c ≠ it) (h3 : ∀ p ∈ X.pn ++ pins, p.1 ≠ it) : Inv X pins σ H { s with heap := h', toks := t' } := by
 have nit : ∀ b u, H b = some u → b ≠ it := fun b u e z => by rw [z, hn] at e; cases e
 refine I.step (g' := s.gens) (d' := s.drawn) (ch := [it]) (fun b hb => ?_) (fun b o _ _ hc e _ => k b o (fun z => hc (by simp [z])) e) (fun b o _ _ hc e _ => ⟨o.slots, k b o (fun z => hc (by simp [z])) e⟩) (fun _ _ _ _ n => n)
  (fun b o hc e => ⟨o, k b o (fun z => hc (by simp [z])) e⟩) (fun _ _ e => e) (fun _ _ _ e => e) (fun b ps e => ⟨#[], by rw [e]; simp⟩) (fun m hm => ?_) (fun b u e => ?_) I.bare
 ·have e : b = it := by simpa using hb
  subst e
  exact ⟨h1, hL, h2, h3⟩
 ·obtain ⟨o, es, ep, ho, r⟩ := hm
  exact ⟨o, es, ep, k _ o (Ne.symm hL) ho, r⟩
 ·refine (I.hok b u e).stay (fun c v hc q => k c v ?_ q) (fun _ q => q) fun _ _ q => q
  rcases hc with z | z
  ·rw [z]; exact nit b u e
  ·exact nit c _ z
theorem Inv.tok (I : Inv X pins σ H s) (t : Nat) : Inv X pins σ H { s with toks := t } := I.un (h' := s.heap) (t' := t) Un.refl I.hok
theorem Inv.kept {t' : Nat} (I : Inv X pins σ H s) (k : ∀ b u, s.heap.get? b = some u → h'.get? b = some u) : Inv X pins σ H { s with heap := h', toks := t' } := I.un (Un.kept k) (I.hok.kept k)
theorem Inv.laid {a : Addr} {o : HO} {t' : Nat} (I : Inv X pins σ H s) (k : ∀ b u, s.heap.get? b = some u → h'.get? b = some u) (hp : s.heap.objs.size ≤ a) (new : ObjOk X.prog X.w (upd H a o) h' a o) :
  Inv X pins σ (upd H a o) { s with heap := h', toks := t' } := I.un (Un.laid k hp (I.hok.fresh hp)) (I.hok.laid k hp new)
theorem Inv.write {x e : Addr} {o : HO} {t' : Nat} (I : Inv X pins σ H s) (mu : Mut (H x)) (he : e = x ∨ H e = some (.own x)) (k : ∀ b u, b ≠ e → s.heap.get? b = some u → h'.get? b = some u) (heo : ∃ u, h'.get? e = some u)
  (new : ObjOk X.prog X.w (upd H x o) h' x o) : Inv X pins σ (upd H x o) { s with heap := h', toks := t' } := I.un (Un.write mu he k heo) (I.hok.write mu he k heo new)
theorem Inv.weak {σ' : List (Option V)} (I : Inv X pins σ H s) (hl : σ'.length = σ.length) (w : ∀ (i : Nat) v, σ'[i]? = some (some v) → σ[i]? = some (some v)) : Inv X pins σ' H s :=
 ⟨I.ok, I.os, I.bare, I.base, let ⟨m, hn, hl'⟩ := I.loc; ⟨m, hn, fun i x v e1 e2 e3 => hl' i x v e1 (w i v e2) e3⟩, I.cell, I.free, I.freeC, I.pin, I.hok, hl.trans I.len⟩
theorem Inv.pins_of {pins' : List (Addr × Obj)} (I : Inv X pins σ H s) (h : ∀ p ∈ pins', s.heap.get? p.1 = some p.2 ∧ H p.1 = none ∧ p.1 ≠ X.env.locals ∧ p.1 ∉ X.fs ∧ ∀ v, p.2.data ≠ .cell v) : Inv X pins' σ H s :=
 ⟨I.ok, I.os, I.bare, I.base, I.loc, I.cell, I.free, I.freeC, fun p hp => (List.mem_append.mp hp).elim (fun z => I.pin p (List.mem_append_left _ z)) (h p), I.hok, I.len⟩
theorem za6 {N : List Str} (hN : N.Nodup) {i j : Nat} {x : Str} (a : N[i]? = some x) (b : N[j]? = some x) : i = j := by
 obtain ⟨h1, e1⟩ := List.getElem?_eq_some_iff.mp a
 obtain ⟨h2, e2⟩ := List.getElem?_eq_some_iff.mp b
 exact (List.getElem_inj hN).mp (e1.trans e2.symm)
theorem z8y {M : Model} {A : Around} {E : Value → Shared → Prop} {i : Nat} {x : Str} {v : V} {u : Value} {Q : Unit → Shared → Prop} (I : Inv X pins σ H s) (hN : X.N.Nodup) (hi : X.N[i]? = some x) (hx : Loc X.env.scope x) (r : RelV v u)
  (h : ∀ s', Inv X pins (σ.set i (some v)) H s' → (∃ a, Heap.SameBut a s.heap s'.heap ∧ (a = X.env.locals ∨ X.env.cells.lookup x = some a)) → Q () s') (hf : X.fn x = true ∨ X.env.scope.names.lookup x = some .local := by first | exact .inl rfl | exact .inr rfl | assumption) : wpAny M A (storeName X.env x u) Q E s := by
 obtain ⟨m, hn, hl⟩ := id I.loc
 have hcls : (X.env.scope.kind == .class || (X.env.scope.kind == .module && X.env.locals != X.env.globals)) = false := by rw [I.ok.kind]; rfl
 have hiσ : i < σ.length := by rw [I.len]; exact (List.getElem?_eq_some_iff.mp hi).1
 have cne := I.cne
 have tracked : ∀ {a : Addr} {h' : Heap}, (∃ o, s.heap.get? a = some o ∧ H a = none) → Heap.SameBut a s.heap h' → HOk X.prog X.w H h' := fun {a h'} ha hs b ob e => by
  obtain ⟨_, _, hfree⟩ := ha
  refine (I.hok b ob e).stay (fun c w' hc q => (hs.2 c ?_).trans q) (fun _ q => q) fun _ _ q => q
  rintro rfl
  rcases hc with rfl | hc
  ·rw [hfree] at e; cases e
  ·rw [hfree] at hc; cases hc
 rcases hx with hk | hk
 ·refine wpAny_storeName_local hk hn (fun h' hn' hs => ?_) hcls
  obtain ⟨oL, _, _, hoL, _⟩ := id hn
  refine h _ ⟨I.ok, I.os, I.bare, ⟨fun b o e n hb hx => ?_, fun b o e n hb hx => ?_, I.base.free, fun b o e hx => ?_, I.base.tups, I.base.frzs, I.base.tbls⟩, ⟨_, hn', fun j y v' e1 e2 e3 => ?_⟩, fun y c e => ?_, I.free, I.freeC, fun p hp => ?_, tracked ⟨oL, hoL, I.free⟩ hs, by simpa using I.len⟩ ⟨_, hs, .inl rfl⟩
  ·exact (hs.2 b (Nat.ne_of_lt (Nat.lt_of_lt_of_le (Heap.lt_size e) I.ok.above))).trans (I.base.keep b o e n hb hx)
  ·obtain ⟨sl, e1⟩ := I.base.slot b o e n hb hx
   exact ⟨sl, (hs.2 b (Nat.ne_of_lt (Nat.lt_of_lt_of_le (Heap.lt_size e) I.ok.above))).trans e1⟩
  ·obtain ⟨o', e1⟩ := I.base.there b o e hx
   exact ⟨o', (hs.2 b (Nat.ne_of_lt (Nat.lt_of_lt_of_le (Heap.lt_size e) I.ok.above))).trans e1⟩
  ·by_cases hj : j = i
   ·subst hj
    rw [hi] at e1; cases e1
    rw [List.getElem?_set_self hiσ] at e2
    cases e2
    exact ⟨u, r, .inl ⟨hk, by simp⟩⟩
   ·rw [List.getElem?_set_ne (Ne.symm hj)] at e2
    obtain ⟨u', r', q⟩ := hl j y v' e1 e2 e3
    refine ⟨u', r', ?_⟩
    rcases q with ⟨k, e⟩ | ⟨k, c, e, z⟩
    ·refine .inl ⟨k, ?_⟩
     have : y ≠ x := fun e => hj (za6 hN e1 (e ▸ hi))
     simp [this, e]
    ·exact .inr ⟨k, c, e, z.sameBut hs (cne y c e)⟩
  ·obtain ⟨w', z⟩ := I.cell y c e
   exact ⟨w', z.sameBut hs (cne y c e)⟩
  ·obtain ⟨e, n, ne, nf, d⟩ := I.pin p hp
   exact ⟨(hs.2 p.1 ne).trans e, n, ne, nf, d⟩
 ·have hfn : X.fn x = true := by
   rcases hf with z | z
   ·exact z
   ·rw [z] at hk; cases hk
  obtain ⟨c, hc⟩ := I.ok.has x (.inl hk)
  obtain ⟨w', z⟩ := I.cell x c hc
  refine wpAny_storeName_cell I.ok.kind hk hc z (fun h' hc' hs => ?_)
  obtain ⟨oc, hoc, hocd⟩ := id z
  refine h { s with heap := h' } ⟨I.ok, I.os, I.bare, ⟨fun b o e n hb hx => ?_, fun b o e n hb hx => ?_, I.base.free, fun b o e hx => ?_, I.base.tups, I.base.frzs, I.base.tbls⟩, ⟨m, hn.sameBut hs (Ne.symm (cne x c hc)), fun j y v' e1 e2 e3 => ?_⟩, fun y c' e => ?_, I.free, I.freeC, fun p hp => ?_, tracked ⟨oc, hoc, I.freeC x c hc⟩ hs, by simpa using I.len⟩ ⟨c, hs, .inr hc⟩
  ·exact (hs.2 b (Nat.ne_of_lt (Nat.lt_of_lt_of_le (Heap.lt_size e) (I.ok.cab x c hfn hc)))).trans (I.base.keep b o e n hb hx)
  ·obtain ⟨sl, e1⟩ := I.base.slot b o e n hb hx
   exact ⟨sl, (hs.2 b (Nat.ne_of_lt (Nat.lt_of_lt_of_le (Heap.lt_size e) (I.ok.cab x c hfn hc)))).trans e1⟩
  ·obtain ⟨o', e1⟩ := I.base.there b o e hx
   exact ⟨o', (hs.2 b (Nat.ne_of_lt (Nat.lt_of_lt_of_le (Heap.lt_size e) (I.ok.cab x c hfn hc)))).trans e1⟩
  ·by_cases hj : j = i
   ·subst hj
    rw [hi] at e1; cases e1
    rw [List.getElem?_set_self hiσ] at e2
    cases e2
    exact ⟨u, r, .inr ⟨.inl hk, c, hc, hc'⟩⟩
   ·rw [List.getElem?_set_ne (Ne.symm hj)] at e2
    obtain ⟨u', r', q⟩ := hl j y v' e1 e2 e3
    refine ⟨u', r', ?_⟩
    rcases q with q | ⟨k, c', e, z'⟩
    ·exact .inl q
    ·refine .inr ⟨k, c', e, z'.sameBut hs ?_⟩
     rintro rfl
     exact hj (za6 hN e1 (I.ok.inj _ _ _ e hc ▸ hi))
  ·by_cases hcc : c' = c
   ·subst hcc; exact ⟨_, hc'⟩
   ·obtain ⟨w2, z2⟩ := I.cell y c' e
    exact ⟨w2, z2.sameBut hs hcc⟩
  ·obtain ⟨e, n, ne, nf, d⟩ := I.pin p hp
   refine ⟨(hs.2 p.1 ?_).trans e, n, ne, nf, d⟩
   intro q
   rw [q, hoc] at e
   have q' : oc = p.2 := Option.some.inj e
   exact d w' (by rw [← q']; exact hocd)
theorem z74 {M : Model} {A : Around} {E : Value → Shared → Prop} {i : Nat} {x : Str} {v : V} {u : Value} {Q : Unit → Shared → Prop} (I : Inv X pins σ H s) (hN : X.N.Nodup) (hi : X.N[i]? = some x) (hx : Loc X.env.scope x) (r : RelV v u)
  (h : ∀ s', Inv X pins (σ.set i (some v)) H s' → Q () s') (hf : X.fn x = true ∨ X.env.scope.names.lookup x = some .local := by first | exact .inl rfl | exact .inr rfl | assumption) : wpAny M A (storeName X.env x u) Q E s :=
 z8y I hN hi hx r (fun s' I' _ => h s' I') hf
theorem Inv.call' {s' : Shared} {ch : List Addr} (I : Inv X pins σ H s) (ho : s'.os = s.os) (u : Un (frs X.stack) ch H H' s.heap s'.heap) (hok : HOk X.prog X.w H' s'.heap) (hg : AllBare s'.gens)
  (hch : ∀ b ∈ ch, (b ∈ X.ex ∨ X.s₀.heap.objs.size ≤ b) ∧ b ≠ X.env.locals ∧ (∀ x c, X.env.cells.lookup x = some c → c ≠ b) ∧ ∀ p ∈ X.pn ++ pins, p.1 ≠ b) : Inv X pins σ H' s' := by
 obtain ⟨h', g', d', t', o'⟩ := s'
 have e : o' = s.os := ho
 subst e
 exact I.call (g' := g') (t' := t') (d' := d') u hok hg hch
end
abbrev XK := Value → Option Addr → Hp → Prop
abbrev St := List (Option V)
abbrev VK := V → Hp → Prop
abbrev TE := St → Hp → VK → Prop
abbrev TT := St → Hp → (Bool → Hp → Prop) → Prop
abbrev TA := St → Hp → (List V → Hp → Prop) → Prop
structure Ends where
 nx : St → Hp → Prop
 rt : VK
 bk : St → Hp → Prop := fun _ _ => False
 ct : St → Hp → Prop := fun _ _ => False
abbrev TS := Ends → St → Hp → Prop
def EP (X : Cx) (pins : List (Addr × Obj)) (σ : St) (Q : VK) (u : Value) (s' : Shared) : Prop := ∃ v H', Inv X pins σ H' s' ∧ RelV v u ∧ Q v H'
def TP (X : Cx) (pins : List (Addr × Obj)) (σ : St) (Q : Bool → Hp → Prop) (b : Bool) (s' : Shared) : Prop := ∃ H', Inv X pins σ H' s' ∧ Q b H'
def AP (X : Cx) (pins : List (Addr × Obj)) (σ : St) (Q : List V → Hp → Prop) (us : List Value) (s' : Shared) : Prop := ∃ vs H', Inv X pins σ H' s' ∧ Vals vs us ∧ Q vs H'
def SP (X : Cx) (pins : List (Addr × Obj)) (D : Ends) (f : Flow) (s' : Shared) : Prop :=
 match f with
 | .next => ∃ σ' H', Inv X pins σ' H' s' ∧ D.nx σ' H'
 | .brk => ∃ σ' H', Inv X pins σ' H' s' ∧ D.bk σ' H'
 | .cont => ∃ σ' H', Inv X pins σ' H' s' ∧ D.ct σ' H'
 | .ret u => ∃ v σ' H', Inv X pins σ' H' s' ∧ RelV v u ∧ D.rt v H'
def PE (X : Cx) (e : Expr) (t : TE) : Prop :=
 ∀ (pins : List (Addr × Obj)) (s : Shared) (σ : St) (H : Hp) (Q : VK), Inv X pins σ H s → t σ H Q → wpAny (model X.prog X.w) X.A (eval e X.env) (EP X pins σ Q) X.xe s
def PT (X : Cx) (e : Expr) (t : TT) : Prop :=
 ∀ (pins : List (Addr × Obj)) (s : Shared) (σ : St) (H : Hp) (Q : Bool → Hp → Prop), Inv X pins σ H s → t σ H Q → wpAny (model X.prog X.w) X.A (isTrue e X.env (eval e X.env)) (TP X pins σ Q) X.xe s
def PW (X : Cx) (e : Expr) (t : TT) : Prop :=
 ∀ (whole : Sem Value) (pins : List (Addr × Obj)) (s : Shared) (σ : St) (H : Hp) (Q : Bool → Hp → Prop), Inv X pins σ H s → t σ H Q → wpAny (model X.prog X.w) X.A (isTrue e X.env whole) (TP X pins σ Q) X.xe s
theorem PW.pt {X : Cx} {e : Expr} {t : TT} (h : PW X e t) : PT X e t := h _
def PA (X : Cx) (es : List Expr) (t : TA) : Prop :=
 ∀ (pos : Pos) (pins : List (Addr × Obj)) (s : Shared) (σ : St) (H : Hp) (Q : List V → Hp → Prop), Inv X pins σ H s → t σ H Q → wpAny (model X.prog X.w) X.A (spliced (backTo pos (starEach es X.env))) (AP X pins σ Q) X.xe s
def PS (X : Cx) (st : Stmt) (t : TS) : Prop :=
 ∀ (pins : List (Addr × Obj)) (s : Shared) (σ : St) (H : Hp) (D : Ends), Inv X pins σ H s → t D σ H → wpAny (model X.prog X.w) X.A (exec st X.env) (SP X pins D) X.xe s
def PSs (X : Cx) (st : List Stmt) (t : TS) : Prop :=
 ∀ (pins : List (Addr × Obj)) (s : Shared) (σ : St) (H : Hp) (D : Ends), Inv X pins σ H s → t D σ H → wpAny (model X.prog X.w) X.A (execs st X.env) (SP X pins D) X.xe s
theorem thn {α : Type} {t : Sem α} {Q Q' : α → Shared → Prop} {M : Model} {A : Around} {E : Value → Shared → Prop} {s : Shared} (h : wpAny M A t Q E s) (hQ : ∀ a s, Q a s → Q' a s) : wpAny M A t Q' E s := wpAny_mono h hQ fun _ _ x => x
end L2
namespace L2
open PySem PySem.Spec PyProof.Rows
section
variable {X : Cx}
def tVar (i : Nat) : TE := fun σ H Q => ∃ v, σ[i]? = some (some v) ∧ Q v H
def tC (v : V) : TE := fun _ H Q => Q v H
theorem zgv {i : Nat} {x : Str} {pos : Pos} (hN : X.N[i]? = some x) (hv : Vis X.env.scope x) (hd : (x == ("__debug__" : Str)) = false := by decide) (hcd : (x == ("__classdict__" : Str)) = false := by decide) : PE X (.Name x pos) (tVar i) := by
 intro pins s σ H Q I h
 obtain ⟨v, e, h⟩ := h
 obtain ⟨m, hn, hl⟩ := I.loc
 obtain ⟨u, r, l⟩ := hl i x v hN e hv
 have fin : EP X pins σ Q u s := ⟨v, H, I, r, h⟩
 rcases l with ⟨hk, hm⟩ | ⟨hk, c, hc, hcell⟩
 ·exact wpAny_Name (wpAny_loadName_local I.ok.kind hk hn hm fin) hd
 ·rcases hk with hk | hk
  ·exact wpAny_Name (wpAny_loadName_cell I.ok.kind hk hc hcell fin) hd
  ·exact wpAny_Name (wpAny_loadName_free I.ok.kind hk hc hcell fin hcd) hd
theorem z8 {i j pos} : PE X (.Constant (.int i) j pos) (tC (.int i)) := fun _ _ _ H _ I h => wpAny_Constant_int ⟨.int i, H, I.tok _, ⟨_, rfl⟩, h⟩
theorem z1m {b j pos} : PE X (.Constant (.bool b) j pos) (tC (.bl b)) := fun _ _ _ H _ I h => Constant_bool ⟨.bl b, H, I, rfl, h⟩
theorem z1o {x j pos} : PE X (.Constant (.str x) j pos) (tC (.str x)) := fun _ _ _ H _ I h => Calls.Constant_str ⟨.str x, H, I.tok _, ⟨_, rfl⟩, h⟩
def Gl (X : Cx) (x : Str) : Prop := X.env.kindOf x = some .globalImplicit
theorem z4u {E : Value → Shared → Prop} {pins : List (Addr × Obj)} {s : Shared} {σ : St} {H : Hp} {x : Str} {u : Value} {pos : Pos} {Q : Value → Shared → Prop} (I : Inv X pins σ H s) (hg : Gl X x) (hm : X.mg x = some u) (h : Q u s)
  (hd : (x == ("__debug__" : Str)) = false := by decide) : wpAny (model X.prog X.w) X.A (eval (.Name x pos) X.env) Q E s :=
 Calls.Name_function_global I.ok.kind hg (Calls.loadGlobal_global (by rw [I.ok.glob]; exact I.mod.glob.keeps I.bk) hm h) hd
theorem z4v {E : Value → Shared → Prop} {pins : List (Addr × Obj)} {s : Shared} {σ : St} {H : Hp} {x : Str} {u : Value} {pos : Pos} {Q : Value → Shared → Prop} (I : Inv X pins σ H s) (hg : Gl X x) (hm : X.mg x = none) (hv : bootBuiltins x = some u) (h : Q u s)
  (hn : x ≠ "__name__" := by decide) (hd : (x == ("__debug__" : Str)) = false := by decide) : wpAny (model X.prog X.w) X.A (eval (.Name x pos) X.env) Q E s := by
 obtain ⟨mb, h1, h2⟩ := I.mod.blt
 exact Calls.Name_function_global I.ok.kind hg (Calls.loadGlobal_builtin (by rw [I.ok.glob]; exact I.mod.glob.keeps I.bk) hm (by rw [I.ok.blt]; exact h1.keeps I.bk) ((h2 x hn).trans hv) h) hd
theorem zn {x : Str} {v : V} {u : Value} {pos : Pos} (hg : Gl X x) (hm : X.mg x = none) (hv : bootBuiltins x = some u) (r : RelV v u) (hn : x ≠ "__name__" := by decide) (hd : (x == ("__debug__" : Str)) = false := by decide) : PE X (.Name x pos) (tC v) :=
 fun _ _ _ H _ I h => z4v I hg hm hv ⟨v, H, I, r, h⟩ hn hd
variable {a b : Expr} {ta tb : TE} {pos : Pos}
def tIsN (ta : TE) : TE := fun σ H Q => ta σ H fun x H1 => Q (.bl (decide (x = .non))) H1
def tB (t : TE) : TT := fun σ H Q => t σ H fun x H1 => ∃ c, x = .bl c ∧ Q c H1
theorem z16 {e : Expr} {t : TE} (h : PE X e t) (he : ∀ whole, isTrue e X.env whole = (do let v ← whole; standAt e.pos; holding [v] (truthy v)) := by intro _; rfl) : PT X e (tB t) := by
 intro pins s σ H Q I hw
 refine isTrue_plain (thn (h pins s σ H _ I hw) fun v s1 ⟨x, H1, I1, r1, q1⟩ => ?_) (he _)
 obtain ⟨d, rfl, q⟩ := q1
 cases r1
 exact wpAny_truthy_bool ⟨H1, I1, q⟩
variable {tA tB' : TT} {rest : List Expr}
def tAnd (t u : TT) : TT := fun σ H Q => t σ H fun c H1 => if c = true then u σ H1 Q else Q false H1
def tOr (t u : TT) : TT := fun σ H Q => t σ H fun c H1 => if c = true then Q true H1 else u σ H1 Q
def tNot (t : TT) : TT := fun σ H Q => t σ H fun c H1 => Q (!c) H1
theorem z6c (ha : PT X a tA) : PW X (.BoolOp .And [a] pos) tA := by
 intro wh pins s σ H Q I h
 refine isTrue_and (thn (ha pins s σ H Q I h) fun c s1 e => ?_)
 cases c with
 | true => exact isTrue_and_nil e
 | false => exact e
theorem z3l (ha : PT X a tA) : PW X (.BoolOp .Or [a] pos) tA := by
 intro wh pins s σ H Q I h
 refine isTrue_or (thn (ha pins s σ H Q I h) fun c s1 e => ?_)
 cases c with
 | false => exact isTrue_or_nil e
 | true => exact e
theorem z5q (ha : PT X a tA) (hb : PW X (.BoolOp .And (b :: rest) pos) tB') : PW X (.BoolOp .And (a :: b :: rest) pos) (tAnd tA tB') := by
 intro wh pins s σ H Q I h
 refine isTrue_and (thn (ha pins s σ H _ I h) fun c s1 ⟨H1, I1, q1⟩ => ?_)
 cases c with
 | true => exact hb wh pins s1 σ H1 Q I1 q1
 | false => exact ⟨H1, I1, q1⟩
theorem z3f (ha : PT X a tA) (hb : PW X (.BoolOp .Or (b :: rest) pos) tB') : PW X (.BoolOp .Or (a :: b :: rest) pos) (tOr tA tB') := by
 intro wh pins s σ H Q I h
 refine isTrue_or (thn (ha pins s σ H _ I h) fun c s1 ⟨H1, I1, q1⟩ => ?_)
 cases c with
 | true => exact ⟨H1, I1, q1⟩
 | false => exact hb wh pins s1 σ H1 Q I1 q1
theorem z34 (ha : PT X a tA) : PT X (.UnaryOp .Not a pos) (tNot tA) := by
 intro pins s σ H Q I h
 exact isTrue_not (ha pins s σ H (fun c H1 => Q (!c) H1) I h)
def zfi (ta tb : TE) : TE := fun σ H Q => ta σ H fun x H1 => ∃ c, x = .bl c ∧ if c = true then tb σ H1 Q else Q (.bl false) H1
def tOrV (ta tb : TE) : TE := fun σ H Q => ta σ H fun x H1 => ∃ c, x = .bl c ∧ if c = true then Q (.bl true) H1 else tb σ H1 Q
def zfj (ta : TE) : TE := fun σ H Q => ta σ H fun x H1 => ∃ c, x = .bl c ∧ Q (.bl (!c)) H1
theorem z1i {op} {t : TE} (h : PE X a t) : PE X (.BoolOp op [a] pos) t := fun pins s σ H Q I hw => BoolOp_one (h pins s σ H Q I hw)
theorem z1p (ha : PE X a ta) (hb : PE X (.BoolOp .And (b :: rest) pos) tb) : PE X (.BoolOp .And (a :: b :: rest) pos) (zfi ta tb) := by
 intro pins s σ H Q I h
 refine BoolOp_and (thn (ha pins s σ H _ I h) fun v s1 ⟨x, H1, I1, r1, q1⟩ => ?_)
 obtain ⟨c, rfl, q1⟩ := q1
 cases r1
 refine wpAny_truthy_bool ?_
 cases c with
 | true => exact hb pins s1 σ H1 Q I1 q1
 | false => exact ⟨.bl false, H1, I1, rfl, q1⟩
theorem zhi (ha : PE X a ta) (hb : PE X (.BoolOp .Or (b :: rest) pos) tb) : PE X (.BoolOp .Or (a :: b :: rest) pos) (tOrV ta tb) := by
 intro pins s σ H Q I h
 refine BoolOp_or (thn (ha pins s σ H _ I h) fun v s1 ⟨x, H1, I1, r1, q1⟩ => ?_)
 obtain ⟨c, rfl, q1⟩ := q1
 cases r1
 refine wpAny_truthy_bool ?_
 cases c with
 | false => exact hb pins s1 σ H1 Q I1 q1
 | true => exact ⟨.bl true, H1, I1, rfl, q1⟩
theorem za7 (ha : PE X a ta) : PE X (.UnaryOp .Not a pos) (zfj ta) := by
 intro pins s σ H Q I h
 refine UnaryOp_ (thn (ha pins s σ H _ I h) fun v s1 ⟨x, H1, I1, r1, q1⟩ => ?_)
 obtain ⟨c, rfl, q1⟩ := q1
 cases r1
 exact not_of (wpAny_truthy_bool ⟨.bl (!c), H1, I1, rfl, q1⟩)
def tIf (t : TT) (ta tb : TE) : TE := fun σ H Q => t σ H fun c H1 => if c = true then ta σ H1 Q else tb σ H1 Q
end
end L2
namespace L2
open PySem PySem.Spec PyProof.Rows
def SqL (K : PySem.W.Frag) (H : Hp) (a : Addr) (xs : List V) : Prop :=
 Rd H a (.lst xs) ∨
  ∃ (o : Obj) (its : Array Value) (n : Nat), K.lookup a = some o ∧ o.cls = .type "list" ∧ o.dict = none ∧ o.data = .seq its n ∧ its.size ≤ sizeLine ∧ Vals xs its.toList
def SqT (K : PySem.W.Frag) (H : Hp) (a : Addr) (xs : List V) : Prop :=
 Rd H a (.tup xs) ∨
  ∃ (o : Obj) (its : Array Value) (n : Nat), K.lookup a = some o ∧ o.cls = .type "tuple" ∧ o.data = .seq its n ∧ its.size ≤ sizeLine ∧ Vals xs its.toList
def absV : Value → Option V
 | .none => some .non
 | .bool b => some (.bl b)
 | .int i _ => some (.int i)
 | .str x _ => some (.str x)
 | .bytes b _ => some (.byt b)
 | .float b _ => some (.flt b)
 | .ref a => some (.ref a)
 | .type n => some (.ty n)
 | _ => none
theorem RelV.abs {x : V} {u : Value} (r : RelV x u) : absV u = some x := by
 cases x with
 | non => cases r; rfl
 | bl _ => cases r; rfl
 | int _ => obtain ⟨t, rfl⟩ := r; rfl
 | str _ => obtain ⟨t, rfl⟩ := r; rfl
 | byt _ => obtain ⟨t, rfl⟩ := r; rfl
 | flt _ => obtain ⟨t, rfl⟩ := r; rfl
 | ref _ => cases r; rfl
 | ty _ => cases r; rfl
theorem RelV.inj {x y : V} {u : Value} (r : RelV x u) (q : RelV y u) : x = y := Option.some.inj (r.abs.symm.trans q.abs)
theorem Vals.inj : ∀ {xs ys : List V} {us : List Value}, Vals xs us → Vals ys us → xs = ys
 | _, _, _, .nil, .nil => rfl
 | _, _, _, .cons r t, .cons r' t' => by rw [r.inj r', Vals.inj t t']
section
variable {X : Cx} {pins : List (Addr × Obj)} {σ : St} {H : Hp} {s : Shared} {a : Addr} {xs ys : List V}
theorem SqL.of {K : PySem.W.Frag} (h : H a = some (.lst xs)) : SqL K H a xs := .inl (.inl h)
theorem SqT.of {K : PySem.W.Frag} (h : H a = some (.tup xs)) : SqT K H a xs := .inl (.inl h)
theorem Inv.list (I : Inv X pins σ H s) (h : SqL X.K H a xs) : ∃ its : List Value, Vals xs its ∧ PlainL s.heap a its.toArray ∧ xs.length ≤ sizeLine := by
 rcases h with h | ⟨o, its, n, hk, hc, hd, hs, hz, r⟩
 ·obtain ⟨z, its, n, r, e⟩ := h.ok I.hok
  exact ⟨its, r, ⟨_, n, e, rfl, rfl, rfl⟩, z⟩
 ·refine ⟨its.toList, r, ⟨o, n, I.kIn a o hk, hc, hd, by simpa using hs⟩, ?_⟩
  have e := r.length
  simp only [Array.length_toList] at e
  omega
theorem Inv.tuple (I : Inv X pins σ H s) (h : SqT X.K H a xs) : ∃ its : List Value, Vals xs its ∧ IsTup s.heap a its.toArray ∧ xs.length ≤ sizeLine := by
 rcases h with h | ⟨o, its, n, hk, hc, hs, hz, r⟩
 ·obtain ⟨z, its, r, p⟩ := h.ok I.hok
  exact ⟨its, r, p, z⟩
 ·refine ⟨its.toList, r, ⟨o, I.kIn a o hk, hc, n, by simpa using hs⟩, ?_⟩
  have e := r.length
  simp only [Array.length_toList] at e
  omega
theorem Inv.list_inj (I : Inv X pins σ H s) (h : SqL X.K H a xs) (h' : SqL X.K H a ys) : xs = ys := by
 obtain ⟨its, r, ⟨o, n, e, _, _, d⟩, _⟩ := I.list h
 obtain ⟨its', r', ⟨o', n', e', _, _, d'⟩, _⟩ := I.list h'
 rw [e] at e'; cases e'
 rw [d] at d'
 injection d' with d1 _
 have : its = its' := by simpa using congrArg Array.toList d1
 subst this
 exact r.inj r'
end
abbrev Cx.wish (X : Cx) (E : Value → Shared → Prop) : Cx := { X with xe := E }
abbrev Cx.nox (X : Cx) : Cx := X.wish fun _ _ => False
theorem Cx.Ok.wish {X : Cx} (ok : X.Ok) (E : Value → Shared → Prop) : (X.wish E).Ok :=
 ⟨ok.mod, ok.kind, ok.glob, ok.blt, ok.above, ok.inj, ok.has, ok.cab, ok.hd, ok.frames, ok.stk, ok.exf, ok.bs, ok.bsz, ok.noex, ok.exfs, ok.funs, ok.frf⟩
theorem Cx.Ok.unwish {X : Cx} {E : Value → Shared → Prop} (ok : (X.wish E).Ok) : X.Ok :=
 ⟨ok.mod, ok.kind, ok.glob, ok.blt, ok.above, ok.inj, ok.has, ok.cab, ok.hd, ok.frames, ok.stk, ok.exf, ok.bs, ok.bsz, ok.noex, ok.exfs, ok.funs, ok.frf⟩
section
variable {X : Cx} {pins : List (Addr × Obj)} {σ : St} {H : Hp} {s : Shared} {E : Value → Shared → Prop}
theorem Inv.wish (I : Inv X pins σ H s) (E : Value → Shared → Prop) : Inv (X.wish E) pins σ H s := ⟨I.ok.wish E, I.os, I.bare, I.base, I.loc, I.cell, I.free, I.freeC, I.pin, I.hok, I.len⟩
theorem Inv.unwish (I : Inv (X.wish E) pins σ H s) : Inv X pins σ H s := ⟨I.ok.unwish, I.os, I.bare, I.base, I.loc, I.cell, I.free, I.freeC, I.pin, I.hok, I.len⟩
theorem SP.unwish {D : Ends} {f : Flow} {s' : Shared} (h : SP (X.wish E) pins D f s') : SP X pins D f s' := by
 cases f with
 | next => obtain ⟨σ', H', I, q⟩ := h; exact ⟨σ', H', I.unwish, q⟩
 | brk => obtain ⟨σ', H', I, q⟩ := h; exact ⟨σ', H', I.unwish, q⟩
 | cont => obtain ⟨σ', H', I, q⟩ := h; exact ⟨σ', H', I.unwish, q⟩
 | ret u => obtain ⟨v, σ', H', I, r, q⟩ := h; exact ⟨v, σ', H', I.unwish, r, q⟩
theorem PE.nox {e : Expr} {t : TE} (h : PE X.nox e t) : PE X e t := fun pins s σ H Q I hw =>
 wpAny_mono (h pins s σ H Q (I.wish _) hw) (fun _ _ ⟨v, H', I', r, q⟩ => ⟨v, H', I'.unwish, r, q⟩) fun _ _ z => False.elim z
theorem PT.nox {e : Expr} {t : TT} (h : PT X.nox e t) : PT X e t := fun pins s σ H Q I hw =>
 wpAny_mono (h pins s σ H Q (I.wish _) hw) (fun _ _ ⟨H', I', q⟩ => ⟨H', I'.unwish, q⟩) fun _ _ z => False.elim z
theorem PSs.nox {st : List Stmt} {t : TS} (h : PSs X.nox st t) : PSs X st t := fun pins s σ H D I hw =>
 wpAny_mono (h pins s σ H D (I.wish _) hw) (fun _ _ q => q.unwish) fun _ _ z => False.elim z
end
section
variable {X : Cx} {st : Stmt} {rest : List Stmt} {t u : TS} {e : Expr} {te : TE} {pos : Pos}
def zfk : TS := fun D σ H => D.nx σ H
def tSeq (t u : TS) : TS := fun D σ H => t { D with nx := u D } σ H
theorem zp : PSs X [] zfk := fun _ _ σ H _ I h => wpAny_execs_nil ⟨σ, H, I, h⟩
theorem za (h1 : PS X st t) (h2 : PSs X rest u) : PSs X (st :: rest) (tSeq t u) := by
 intro pins s σ H D I h
 refine wpAny_execs_cons (thn (h1 pins s σ H { D with nx := u D } I h) fun f s1 q => ?_)
 cases f with
 | next =>
  obtain ⟨σ', H', I', q⟩ := q
  exact h2 pins s1 σ' H' D I' q
 | ret v => exact q
 | brk => exact q
 | cont => exact q
theorem zc (h1 : PS X st t) : PSs X [st] t := by
 intro pins s σ H D I h
 refine wpAny_execs_cons (thn (h1 pins s σ H D I h) fun f s1 q => ?_)
 cases f with
 | next => exact wpAny_execs_nil q
 | ret v => exact q
 | brk => exact q
 | cont => exact q
theorem Inv.quiet {pins : List (Addr × Obj)} {σ : St} {H : Hp} {s : Shared} (I : Inv X pins σ H s) : interactive X.env = false := by simp [interactive, I.ok.kind]
def zfl (te : TE) : TS := fun D σ H => te σ H fun _ H1 => D.nx σ H1
theorem z28 (he : PE X e te) (hs : swapsWith e none pos.line X.env = pure false := by rfl) : PS X (.Expr e pos) (zfl te) := by
 intro pins s σ H D I h
 exact wpAny_Expr_any (thn (he pins s σ H _ I h) fun v s1 ⟨x, H1, I1, r1, q1⟩ => ⟨σ, H1, I1, q1⟩) I.quiet hs
def tRet (te : TE) : TS := fun D σ H => te σ H D.rt
theorem zl (he : PE X e te) : PS X (.Return (some e) pos) (tRet te) := by
 intro pins s σ H D I h
 exact wpAny_Return_some (thn (he pins s σ H _ I h) fun v s1 ⟨x, H1, I1, r1, q1⟩ => ⟨x, σ, H1, I1, r1, q1⟩)
def zhj : TS := fun D _ H => D.rt .non H
def tIfS (c : TT) (t u : TS) : TS := fun D σ H => c σ H fun b H1 => if b = true then t D σ H1 else u D σ H1
theorem zt {c : Expr} {a b : List Stmt} {tc : TT} (hc : PT X c tc) (ha : PSs X a t) (hb : PSs X b u) : PS X (.If c a b pos) (tIfS tc t u) := by
 intro pins s σ H D I h
 refine wpAny_If (thn (hc pins s σ H _ I h) fun d s1 ⟨H1, I1, q1⟩ => ?_)
 cases d with
 | true => exact ha pins s1 σ H1 D I1 q1
 | false => exact hb pins s1 σ H1 D I1 q1
def zgw : TS := fun _ _ _ => False
end
abbrev TG := V → St → Hp → (St → Hp → Prop) → Prop
abbrev TGs := List V → St → Hp → (St → Hp → Prop) → Prop
def PG (X : Cx) (target : Expr) (t : TG) : Prop :=
 ∀ (pins : List (Addr × Obj)) (s : Shared) (σ : St) (H : Hp) (v : V) (u : Value) (Q : St → Hp → Prop), Inv X pins σ H s → RelV v u → t v σ H Q →
  wpAny (model X.prog X.w) X.A (assign target X.env u) (fun _ s' => ∃ σ' H', Inv X pins σ' H' s' ∧ Q σ' H') X.xe s
def PGs (X : Cx) (ts : List Expr) (t : TGs) : Prop :=
 ∀ (pins : List (Addr × Obj)) (s : Shared) (σ : St) (H : Hp) (vs : List V) (us : List Value) (Q : St → Hp → Prop), Inv X pins σ H s → Vals vs us → t vs σ H Q →
  wpAny (model X.prog X.w) X.A (assignInOrder ((assignEach ts X.env).map (·.2)) us) (fun _ s' => ∃ σ' H', Inv X pins σ' H' s' ∧ Q σ' H') X.xe s
abbrev TSet := V → V → V → Hp → (Hp → Prop) → Prop
section
variable {X : Cx} {pos : Pos}
def za0 (i : Nat) : TG := fun v σ H Q => Q (σ.set i (some v)) H
theorem z1s {i : Nat} {x : Str} (hN : X.N.Nodup) (hi : X.N[i]? = some x) (hx : Loc X.env.scope x) (hf : X.fn x = true ∨ X.env.scope.names.lookup x = some .local := by first | exact .inl rfl | exact .inr rfl | assumption) : PG X (.Name x pos) (za0 i) := by
 intro pins s σ H v u Q I r h
 exact wpAny_assign_Name (z74 I hN hi hx r (fun s' I' => ⟨_, H, I', h⟩) hf)
def gNil : TGs := fun vs σ H Q => vs = [] ∧ Q σ H
def zfm (t : TG) (u : TGs) : TGs := fun vs σ H Q => ∃ v r, vs = v :: r ∧ t v σ H fun σ' H' => u r σ' H' Q
theorem z6d : PGs X [] gNil := by
 intro pins s σ H vs us Q I r h
 obtain ⟨e, h⟩ := h
 subst e
 cases r
 exact assignInOrder_nil ⟨σ, H, I, h⟩
theorem z2i {e : Expr} {es : List Expr} {t : TG} {u : TGs} (h1 : PG X e t) (h2 : PGs X es u)
  (hs : (assignEach (e :: es) X.env).map (·.2) = assign e X.env :: (assignEach es X.env).map (·.2) := by rfl) : PGs X (e :: es) (zfm t u) := by
 intro pins s σ H vs us Q I r h
 obtain ⟨v, vr, e1, h⟩ := h
 subst e1
 cases r with
 | cons r rr =>
  rw [hs]
  refine assignInOrder_cons (thn (h1 pins s σ H _ _ _ I r h) fun _ s1 ⟨σ1, H1, I1, q1⟩ => ?_)
  exact h2 pins s1 σ1 H1 _ _ Q I1 rr q1
def gTup (K : PySem.W.Frag) (n : Nat) (t : TGs) : TG := fun v σ H Q => ∃ a xs, v = .ref a ∧ SqT K H a xs ∧ xs.length = n ∧ t xs σ H Q
theorem zd1 {es : List Expr} {k : Nat} {t : TGs} {n : Nat} (hc : X.calm = true) (h : PGs X es t)
  (hn : (assignEach es X.env).length = n := by rfl) (hst : (assignEach es X.env).findIdx? (·.1) = none := by rfl) : PG X (.Tuple es k pos) (gTup X.K n t) := by
 intro pins s σ H v u Q I r hw
 obtain ⟨a, xs, e1, hq, hl, hw⟩ := hw
 subst e1
 cases r
 obtain ⟨its, rv, ht, hz⟩ := I.tuple hq
 refine assign_Tuple_tuple (I.ok.hd hc) ht (by simp [hn, ← hl, rv.length]) hst fun h' hx => ?_
 have I1 : Inv X pins σ H { s with heap := h' } := I.kept (t' := s.toks) fun b o e => hx b o (Nat.ne_of_lt (Heap.lt_size e)) e
 exact h pins _ σ H xs _ Q I1 (by simpa using rv) hw
def gSub (to ti : TE) (t : TSet) : TG := fun v σ H Q => to σ H fun o H1 => ti σ H1 fun i H2 => t o i v H2 fun H3 => Q σ H3
def tAsg (te : TE) (g : TG) : TS := fun D σ H => te σ H fun x H1 => g x σ H1 D.nx
theorem zm {i : Nat} {x : Str} {e : Expr} {te : TE} {pos' : Pos} (hN : X.N.Nodup) (hi : X.N[i]? = some x) (hx : Loc X.env.scope x) (he : PE X e te) (hs : swapsWith e (some (.Name x pos')) pos.line X.env = pure false := by rfl) (hf : X.fn x = true ∨ X.env.scope.names.lookup x = some .local := by first | exact .inl rfl | exact .inr rfl | assumption) :
  PS X (.Assign [.Name x pos'] e pos) (tAsg te (za0 i)) := by
 intro pins s σ H D I h
 refine wpAny_Assign_Name (thn (he pins s σ H _ I h) fun v s1 ⟨y, H1, I1, r1, q1⟩ => ?_) hs
 exact z74 I1 hN hi hx r1 (fun s2 I2 => ⟨_, H1, I2, q1⟩) hf
end
section
variable {X : Cx} {pos : Pos}
end
structure It where
 go : Nat → Hp → Prop
 yld : Nat → Hp → V → Hp → Prop
 stop : Nat → Hp → Prop
def FpOk (X : Cx) (pins : List (Addr × Obj)) (H : Hp) (b : Addr) : Prop :=
 H b = none ∧ b ≠ X.env.locals ∧ b ∉ X.fs ∧ (b ∈ X.ex ∨ X.s₀.heap.objs.size ≤ b) ∧ (∀ x c, X.env.cells.lookup x = some c → c ≠ b) ∧ ∀ p ∈ X.pn ++ pins, p.1 ≠ b
theorem Inv.fpOk {X : Cx} {pins : List (Addr × Obj)} {σ : St} {H H' : Hp} {s : Shared} {b : Addr} (I : Inv X pins σ H s) (hb : s.heap.objs.size ≤ b) (hn : H' b = none) : FpOk X pins H' b := by
 refine ⟨hn, Nat.ne_of_gt (Nat.lt_of_lt_of_le I.lt hb), I.nofs hb, .inr (Nat.le_trans I.sz hb), fun x c e z => ?_, fun p hp z => ?_⟩
 ·obtain ⟨v, q⟩ := I.cell x c e
  exact absurd (Nat.lt_of_lt_of_le q.lt (by rw [z]; exact hb)) (Nat.lt_irrefl _)
 ·exact absurd (Nat.lt_of_lt_of_le (Heap.lt_size (I.pin p hp).1) (by rw [z]; exact hb)) (Nat.lt_irrefl _)
structure Turn (P : Program) (w : World) (K : PySem.W.Frag) (tg : Expr) (J : It) (fp : List Addr) (it : Addr) (tn : Nat → Heap → Prop) : Prop where
 mem : it ∈ fp
 obj : ∀ i h, tn i h → ∀ b ∈ fp, ∃ o, h.get? b = some o ∧ ∀ v, o.data ≠ .cell v
 keep : ∀ i h h', tn i h → (∀ b ∈ fp, ∀ o, h.get? b = some o → h'.get? b = some o) → tn i h'
 item : ∀ (X : Cx), X.prog = P → X.w = w → X.K = K → X.calm = true → ∀ (i : Nat) (pins : List (Addr × Obj)) (s : Shared) (σ : St) (H : Hp) (E : Value → Shared → Prop), Inv X pins σ H s → (∀ b ∈ fp, FpOk X pins H b) → tn i s.heap → J.go i H →
  wpAny (model P w) X.A (pyNext (.ref it)) (fun r s1 => ∃ u, r = some u ∧
   wpAny (model P w) X.A (letOwnedTupleGo tg (.ref it) u) (fun _ s2 => ∃ x H', Inv X pins σ H' s2 ∧ RelV x u ∧ J.yld i H x H' ∧ tn (i + 1) s2.heap ∧ ∀ b ∈ fp, H' b = none) E s1) E s
 done : ∀ (X : Cx), X.prog = P → X.w = w → X.K = K → X.calm = true → ∀ (i : Nat) (pins : List (Addr × Obj)) (s : Shared) (σ : St) (H : Hp) (E : Value → Shared → Prop), Inv X pins σ H s → (∀ b ∈ fp, FpOk X pins H b) → tn i s.heap → J.stop i H →
  wpAny (model P w) X.A (pyNext (.ref it)) (fun r s1 => r = none ∧ Inv X pins σ H s1) E s
 self : ∀ (A : Around) (i : Nat) (s : Shared) (Q : Value → Shared → Prop) (E : Value → Shared → Prop), tn i s.heap → Q (.ref it) s → wpAny (model P w) A (pyIter (.ref it)) Q E s
abbrev TI := St → Hp → (It → Hp → Prop) → Prop
def PIE (X : Cx) (pins : List (Addr × Obj)) (σ : St) (tg : Expr) (R : It → Hp → Prop) (itv : Value) (s2 : Shared) : Prop :=
 ∃ (it : Addr) (fp : List Addr) (tn : Nat → Heap → Prop) (J : It) (H' : Hp), itv = .ref it ∧ Inv X pins σ H' s2 ∧ Turn X.prog X.w X.K tg J fp it tn ∧ tn 0 s2.heap ∧ (∀ b ∈ fp, FpOk X pins H' b) ∧ R J H'
def PI (X : Cx) (tg iter : Expr) (wi : TI) : Prop :=
 ∀ (pins : List (Addr × Obj)) (s : Shared) (σ : St) (H : Hp) (R : It → Hp → Prop), Inv X pins σ H s → wi σ H R →
  wpAny (model X.prog X.w) X.A (eval iter X.env) (fun v s1 => wpAny (model X.prog X.w) X.A (pyIter v) (PIE X pins σ tg R) X.xe s1) X.xe s
theorem zfn {M : Model} {A : Around} {E : Value → Shared → Prop} {s : Shared} {tg : Expr} {it : Addr} {u : Value} {o : Obj} {n : String} {vs : Array Value} {Q : Unit → Shared → Prop} (ho : s.heap.get? it = some o) (hc : o.cls = .type n) (hd : o.data = .fields vs)
    (hn : ["enumerate", "zip", "dict_itemiterator", "dict_reverseitemiterator", "odict_iterator", "itertools.zip_longest", "itertools.pairwise"].contains n = false) (hQ : Q () s) : wpAny M A (letOwnedTupleGo tg (.ref it) u) Q E s := by
  unfold letOwnedTupleGo
  cases tg <;> first
    | exact wpAny_pure hQ
    | (cases u <;> first
        | exact wpAny_pure hQ
        | (refine wpAny_bind (wpAny_load ho ?_)
           rw [hc, hd]
           show wpAny M A (if (["enumerate", "zip", "dict_itemiterator", "dict_reverseitemiterator", "odict_iterator", "itertools.zip_longest", "itertools.pairwise"].contains n && vs[0]? == some (rawInt _)) = true then _ else _) Q E s
           rw [if_neg (by intro h; rw [hn, Bool.false_and] at h; cases h)]
           exact wpAny_pure hQ))
def Itl (K : PySem.W.Frag) (a : Addr) : It :=
 ⟨fun i H => ∃ xs x, SqL K H a xs ∧ xs[i]? = some x, fun i H x H' => H' = H ∧ ∀ xs, SqL K H a xs → xs[i]? = some x, fun i H => ∃ xs, SqL K H a xs ∧ xs.length ≤ i⟩
def Itt (K : PySem.W.Frag) (a : Addr) : It :=
 ⟨fun i H => ∃ xs x, SqT K H a xs ∧ xs[i]? = some x, fun i H x H' => H' = H ∧ ∀ xs, SqT K H a xs → xs[i]? = some x, fun i H => ∃ xs, SqT K H a xs ∧ xs.length ≤ i⟩
def Itr (lo : Int) (n : Nat) : It := ⟨fun i _ => i < n, fun i H x H' => H' = H ∧ x = .int (lo + i), fun i _ => n ≤ i⟩
theorem zd2 {P : Program} {w : World} {K : PySem.W.Frag} {tg : Expr} (a it : Addr) : Turn P w K tg (Itl K a) [it] it (fun i h => h.IsListIter it a i) where
 mem := by simp
 obj := fun i h st b hb => by
  have e : b = it := by simpa using hb
  subst e
  obtain ⟨o, e, c, d⟩ := st
  exact ⟨o, e, fun v z => by rw [d] at z; cases z⟩
 keep := fun i h h' st k => st.at fun o e => k it (by simp) o e
 item := by
  intro X hP hw hK hc i pins s σ H E I hf st hg
  subst hP hw hK
  obtain ⟨xs, x, hq, hx⟩ := hg
  obtain ⟨its, rv, p, hz⟩ := I.list hq
  obtain ⟨u, hu, ru⟩ := rv.get hx
  obtain ⟨f0, f1, f2, f3, f4, f5⟩ := hf it (by simp)
  refine wpAny_pyNext_list_item st p.isList (x := u) (by simpa using hu) fun h' st' sb => ?_
  have I1 : Inv X pins σ H { s with heap := h' } := I.turned (t' := s.toks) (fun b o hb e => (sb.2 b hb).trans e) f0 f1 f3 f4 f5
  obtain ⟨o, e, c, d⟩ := id st'
  exact ⟨u, rfl, zfn (s := { s with heap := h' }) e c d (by decide) ⟨x, H, I1, ru, ⟨rfl, fun ys hy => by rw [I.list_inj hy hq]; exact hx⟩, st', fun b hb => (hf b hb).1⟩⟩
 done := by
  intro X hP hw hK hc i pins s σ H E I hf st hg
  subst hP hw hK
  obtain ⟨xs, hq, hx⟩ := hg
  obtain ⟨its, rv, p, hz⟩ := I.list hq
  obtain ⟨f0, f1, f2, f3, f4, f5⟩ := hf it (by simp)
  have hl := rv.length
  exact wpAny_pyNext_list_end (I.ok.hd hc) st p.isList (by simp; omega) fun h' eb => ⟨rfl, I.turned (t' := s.toks) (fun b o hb e => eb b o hb e) f0 f1 f3 f4 f5⟩
 self := fun _ _ _ _ _ st h => wpAny_pyIter_listiter st h
theorem zc2 {P : Program} {w : World} {K : PySem.W.Frag} {tg : Expr} (it : Addr) (lo : Int) (n : Nat) : Turn P w K tg (Itr lo n) [it] it (fun i h => IsRangeIter h it (lo + (i : Nat) * 1) ((n : Int) - (i : Nat)) 1) where
 mem := by simp
 obj := fun i h st b hb => by
  have e : b = it := by simpa using hb
  subst e
  exact ⟨_, st, fun v z => by
   have z' : Data.fields _ = Data.cell v := z
   cases z'⟩
 keep := fun i h h' st k => k it (by simp) _ st
 item := by
  intro X hP hw hK hc i pins s σ H E I hf st hg
  subst hP hw hK
  obtain ⟨f0, f1, f2, f3, f4, f5⟩ := hf it (by simp)
  have W := Walks.range (prog := X.prog) (w := X.w) (I.ok.hd hc) it lo 1 n
  refine W.item i s _ _ hg st fun v h' tk hv st' kk => ?_
  obtain ⟨t, rfl⟩ := hv
  have I1 : Inv X pins σ H { s with heap := h', toks := tk } := I.turned (fun b o hb e => kk b o (by simpa using hb) e) f0 f1 f3 f4 f5
  refine ⟨_, rfl, zfn (s := { s with heap := h', toks := tk }) (n := "range_iterator") st' rfl rfl (by decide) ⟨.int (lo + i), H, I1, ⟨t, ?_⟩, ⟨rfl, rfl⟩, st', fun b hb => (hf b hb).1⟩⟩
  rw [Int.mul_one]
 done := by
  intro X hP hw hK hc i pins s σ H E I hf st hg
  subst hP hw hK
  obtain ⟨f0, f1, f2, f3, f4, f5⟩ := hf it (by simp)
  exact wpAny_pyNext_range_end (I.ok.hd hc) st (by have : n ≤ i := hg; omega) fun h' eb => ⟨rfl, I.turned (t' := s.toks) (fun b o hb e => eb b o hb e) f0 f1 f3 f4 f5⟩
 self := fun _ _ _ _ _ st h => wpAny_pyIter_rangeiter st h
end L2
namespace L2
open PySem PySem.Spec PyProof.Rows
section
variable {X : Cx} {tg : Expr}
def zfo (K : PySem.W.Frag) (tl : TE) : TI := fun σ H R => tl σ H fun x H1 => ∃ a, x = .ref a ∧ (∃ xs, SqL K H1 a xs) ∧ R (Itl K a) H1
def iTup (K : PySem.W.Frag) (tl : TE) : TI := fun σ H R => tl σ H fun x H1 => ∃ a, x = .ref a ∧ (∃ xs, SqT K H1 a xs) ∧ R (Itt K a) H1
theorem z1k {l : Expr} {tl : TE} (hl : PE X l tl) : PI X tg l (zfo X.K tl) := by
 intro pins s σ H R I h
 refine thn (hl pins s σ H _ I h) fun v s1 ⟨x, H1, I1, r1, q1⟩ => ?_
 obtain ⟨a, e, ⟨xs, hq⟩, q⟩ := q1
 subst e
 cases r1
 obtain ⟨its, rv, p, hz⟩ := I1.list hq
 refine wpAny_pyIter_list p.isList ?_
 refine ⟨s1.heap.objs.size, [s1.heap.objs.size], _, _, H1, rfl, I1.kept (t' := s1.toks) fun b o e => Heap.get?_push_of_some _ e, zd2 a _, ⟨_, Heap.get?_push_size _ rfl, rfl, rfl⟩, fun b hb => ?_, q⟩
 have e : b = s1.heap.objs.size := by simpa using hb
 subst e
 exact I1.fpOk (Nat.le_refl _) (I1.hok.fresh (Nat.le_refl _))
theorem za8 {pins : List (Addr × Obj)} {σ : St} {H : Hp} {s : Shared} {R : It → Hp → Prop} {E : Value → Shared → Prop} {lo hi : Int} {t u v : Tok} {tk : Nat} (I : Inv X pins σ H s) (h1 : -(2 ^ 62) ≤ lo) (h2 : lo < 2 ^ 62) (h3 : -(2 ^ 62) ≤ hi) (h4 : hi < 2 ^ 62)
  (q : R (Itr lo (hi - lo).toNat) H) : wpAny (model X.prog X.w) X.A (pyIter (.ref s.heap.objs.size)) (PIE X pins σ tg R) E { s with heap := s.heap.push { cls := .type "range", data := .fields #[.int lo t, .int hi u, .int 1 v] }, toks := tk } := by
 refine wpAny_pyIter_range (IsRange.new ..) (small_one h1 h2 h3 h4) ?_
 have I1 : Inv X pins σ H { s with heap := s.heap.push { cls := .type "range", data := .fields #[.int lo t, .int hi u, .int 1 v] }, toks := tk } := I.kept fun b o e => Heap.get?_push_of_some _ e
 refine ⟨(s.heap.push { cls := .type "range", data := .fields #[.int lo t, .int hi u, .int 1 v] }).objs.size, [(s.heap.push { cls := .type "range", data := .fields #[.int lo t, .int hi u, .int 1 v] }).objs.size], _, _, H, rfl,
  I1.kept (t' := tk) fun b o e => Heap.get?_push_of_some _ e, zc2 _ lo (hi - lo).toNat, ?_, fun b hb => ?_, q⟩
 ·have e1 : lo + ((0 : Nat) : Int) * 1 = lo := by simp
  have e2 : (((hi - lo).toNat : Nat) : Int) - ((0 : Nat) : Int) = Builtin.Range.rangeSize lo hi 1 := by rw [rangeSize_one]; split <;> omega
  show IsRangeIter _ _ (lo + ((0 : Nat) : Int) * 1) ((((hi - lo).toNat : Nat) : Int) - ((0 : Nat) : Int)) 1
  rw [e1, e2]
  exact Heap.get?_push_size _ rfl
 ·have e : b = (s.heap.push { cls := .type "range", data := .fields #[.int lo t, .int hi u, .int 1 v] }).objs.size := by simpa using hb
  subst e
  exact I1.fpOk (Nat.le_refl _) (I1.hok.fresh (Nat.le_refl _))
def zc3 (ta : TA) : TI := fun σ H R => ta σ H fun vs H1 => ∃ j : Int, vs = [.int j] ∧ -(2 ^ 62) ≤ j ∧ j < 2 ^ 62 ∧ R (Itr 0 j.toNat) H1
def zfp (ta : TA) : TI := fun σ H R => ta σ H fun vs H1 => ∃ i j : Int, vs = [.int i, .int j] ∧ (-(2 ^ 62) ≤ i ∧ i < 2 ^ 62 ∧ -(2 ^ 62) ≤ j ∧ j < 2 ^ 62) ∧ R (Itr i (j - i).toNat) H1
theorem z1z {a : Expr} {ta : TA} {p pos : Pos} (hg : Gl X "range") (hm : X.mg "range" = none) (ha : PA X [a] ta) (hs : starEach [a] X.env = [(false, eval a X.env)] := by rfl) : PI X tg (.Call (.Name "range" p) [a] [] pos) (zc3 ta) := by
 intro pins s σ H R I h
 refine Call_ (z4v I hg hm boot_range (PyProof.Rows.callWith_type1 (thn (ha pos pins s σ H _ I h) fun us s1 ⟨vs, H1, I1, r1, q1⟩ => ?_) hs rfl))
 obtain ⟨j, e, q1, q2, q⟩ := q1
 subst e
 cases r1 with
 | cons r rr =>
  cases rr
  obtain ⟨t, rfl⟩ := r
  exact call_range_1 (za8 I1 (by omega) (by omega) q1 q2 (by simpa using q))
theorem zd3 {a b : Expr} {ta : TA} {p pos : Pos} (hg : Gl X "range") (hm : X.mg "range" = none) (ha : PA X [a, b] ta) (hs : starEach [a, b] X.env = [(false, eval a X.env), (false, eval b X.env)] := by rfl) (hs2 : starEach [b] X.env = [(false, eval b X.env)] := by rfl) :
  PI X tg (.Call (.Name "range" p) [a, b] [] pos) (zfp ta) := by
 intro pins s σ H R I h
 refine Call_ (z4v I hg hm boot_range (PyProof.Rows.callWith_type1 (thn (ha pos pins s σ H _ I h) fun us s1 ⟨vs, H1, I1, r1, q1⟩ => ?_) (by rw [hs, hs2]) (by rw [hs2]; rfl)))
 obtain ⟨i, j, e, ⟨q1, q2, q3, q4⟩, q⟩ := q1
 subst e
 cases r1 with
 | cons r rr =>
  cases rr with
  | cons r' rr =>
   cases rr
   obtain ⟨t, rfl⟩ := r
   obtain ⟨t', rfl⟩ := r'
   exact call_range_2 (za8 I1 q1 q2 q3 q4 q)
def tFor (wi : TI) (g : TG) (tb : TS) : TS := fun D σ H => wi σ H fun J H1 => ∃ W : Nat → Nat → St → Hp → Prop, (∃ m, W 0 m σ H1) ∧ ∀ i m σ H, W i m σ H →
 (J.stop i H ∧ D.nx σ H) ∨ (J.go i H ∧ ∃ N : St → Hp → Prop, (∀ σ' H', N σ' H' → ∃ m', m' < m ∧ W (i + 1) m' σ' H') ∧ ∀ x H', J.yld i H x H' → g x σ H' fun σ2 H2 => tb { D with nx := N, ct := N, bk := D.nx } σ2 H2)
def z43 (fp : List Addr) (h : Heap) : List (Addr × Obj) := fp.filterMap fun b => (h.get? b).map fun o => (b, o)
theorem z2q {fp : List Addr} {h : Heap} {b : Addr} {o : Obj} (hb : b ∈ fp) (e : h.get? b = some o) : (b, o) ∈ z43 fp h := List.mem_filterMap.mpr ⟨b, hb, by rw [e]; rfl⟩
theorem zd4 {fp : List Addr} {h : Heap} {p : Addr × Obj} (hp : p ∈ z43 fp h) : p.1 ∈ fp ∧ h.get? p.1 = some p.2 := by
 obtain ⟨b, hb, e⟩ := List.mem_filterMap.mp hp
 cases q : h.get? b with
 | none => rw [q] at e; cases e
 | some o =>
  rw [q] at e
  have e' : (b, o) = p := Option.some.inj e
  subst e'
  exact ⟨hb, q⟩
theorem Inv.pinned {pins : List (Addr × Obj)} {σ : St} {H : Hp} {s : Shared} {fp : List Addr} (I : Inv X pins σ H s) (hf : ∀ b ∈ fp, FpOk X pins H b) (ho : ∀ b ∈ fp, ∃ o, s.heap.get? b = some o ∧ ∀ v, o.data ≠ .cell v) : Inv X (pins ++ z43 fp s.heap) σ H s :=
 I.pins_of fun p hp => (List.mem_append.mp hp).elim (fun z => I.pin p (List.mem_append_right _ z)) fun z => by
  obtain ⟨hb, e⟩ := zd4 z
  obtain ⟨f0, f1, f2, _⟩ := hf p.1 hb
  obtain ⟨o, e', d⟩ := ho p.1 hb
  rw [e] at e'; cases e'
  exact ⟨e, f0, f1, f2, d⟩
theorem Inv.unpinned {pins pl : List (Addr × Obj)} {σ : St} {H : Hp} {s : Shared} (I : Inv X (pins ++ pl) σ H s) : Inv X pins σ H s := I.pins_of fun p hp => I.pin p (List.mem_append_right _ (List.mem_append_left _ hp))
theorem z44 {iter : Expr} {body : List Stmt} {wi : TI} {g : TG} {tb : TS} {pos : Pos} (hp : PassesOwn (model X.prog X.w) X.A X.env X.xe) (hc : X.calm = true) (hi : PI X tg iter wi) (hg : PG X tg g) (hb : PSs X body tb)
  (hs : ∀ x, foldedSetIterable iter X.env x = pure x := by intro _; rfl) : PS X (.For tg iter body [] pos) (tFor wi g tb) := by
 intro pins s σ H D I h
 refine wpAny_For (thn (hi pins s σ H _ I h) fun v s1 h1 => thn h1 fun itv s2 h2 => ?_) hs
 obtain ⟨it, fp, tn, J, H2, e, I2, T, st2, f2, W, ⟨m0, w0⟩, turn⟩ := h2
 subst e
 have stat : ∀ {H' : Hp}, (∀ b ∈ fp, H' b = none) → ∀ b ∈ fp, FpOk X pins H' b := fun hn b hb => ⟨hn b hb, (f2 b hb).2⟩
 refine codeAny_forLoop_any (fun n s' => ∃ i σ' H', Inv X pins σ' H' s' ∧ tn i s'.heap ∧ (∀ b ∈ fp, H' b = none) ∧ W i n σ' H') ?_ m0 ⟨0, σ, H2, I2, st2, fun b hb => (f2 b hb).1, w0⟩
 rintro n s3 ⟨i, σ3, H3, I3, st3, fr3, w3⟩
 rcases turn i n σ3 H3 w3 with ⟨stop, qn⟩ | ⟨go, N, hN, step⟩
 ·refine wpAny_passesOwn hp (thn (T.done X rfl rfl rfl hc i pins s3 σ3 H3 X.xe I3 (stat fr3) st3 stop) fun r s4 ⟨hr, I4⟩ => ?_)
  subst hr
  exact wpAny_execs_nil ⟨σ3, H3, I4, qn⟩
 ·refine wpAny_passesOwn hp (thn (T.item X rfl rfl rfl hc i pins s3 σ3 H3 X.xe I3 (stat fr3) st3 go) fun r s4 ⟨u, hr, h4⟩ => ?_)
  subst hr
  refine wpAny_passesOwn hp (thn h4 fun _ s5 ⟨x, H5, I5, r5, y5, st5, fr5⟩ => ?_)
  have I5' := I5.pinned (stat fr5) (T.obj _ _ st5)
  refine wpAny_passesOwn hp (thn (hg _ s5 σ3 H5 x u _ I5' r5 (step x H5 y5)) fun _ s6 ⟨σ6, H6, I6, q6⟩ => ?_)
  refine wpAny_passesOwn hp (thn (hb _ s6 σ6 H6 _ I6 q6) fun f s7 q7 => ?_)
  have again : ∀ {σ7 : St} {H7 : Hp}, Inv X (pins ++ z43 fp s5.heap) σ7 H7 s7 → N σ7 H7 → ∃ m, m < n ∧ ∃ i σ' H', Inv X pins σ' H' s7 ∧ tn i s7.heap ∧ (∀ b ∈ fp, H' b = none) ∧ W i m σ' H' := fun {σ7 H7} I7 n7 => by
   obtain ⟨m', hm, w7⟩ := hN σ7 H7 n7
   refine ⟨m', hm, i + 1, σ7, H7, I7.unpinned, T.keep _ _ _ st5 fun b hb o e => (I7.pin (b, o) (List.mem_append_right _ (List.mem_append_right _ (z2q hb e)))).1, fun b hb => ?_, w7⟩
   obtain ⟨o, e, d⟩ := T.obj _ _ st5 b hb
   exact (I7.pin (b, o) (List.mem_append_right _ (List.mem_append_right _ (z2q hb e)))).2.1
  cases f with
  | next => obtain ⟨σ7, H7, I7, n7⟩ := q7; exact again I7 n7
  | cont => obtain ⟨σ7, H7, I7, n7⟩ := q7; exact again I7 n7
  | brk => obtain ⟨σ7, H7, I7, q7⟩ := q7; exact ⟨σ7, H7, I7.unpinned, q7⟩
  | ret v => obtain ⟨x7, σ7, H7, I7, r7, q7⟩ := q7; exact ⟨x7, σ7, H7, I7.unpinned, r7, q7⟩
end
theorem zem {K : PySem.W.Frag} {a : Addr} {xs : List V} {g : TG} {tb : TS} {D : Ends} {σ : St} {H : Hp} (Pv : Nat → St → Hp → Prop) (h0 : Pv 0 σ H) (hl : ∀ i σ H, i ≤ xs.length → Pv i σ H → SqL K H a xs)
  (hs : ∀ i x σ H, xs[i]? = some x → Pv i σ H → g x σ H fun σ2 H2 => tb { D with nx := Pv (i + 1), ct := Pv (i + 1), bk := D.nx } σ2 H2) (hd : ∀ σ H, Pv xs.length σ H → D.nx σ H) :
  ∃ W : Nat → Nat → St → Hp → Prop, (∃ m, W 0 m σ H) ∧ ∀ i m σ H, W i m σ H →
   ((Itl K a).stop i H ∧ D.nx σ H) ∨ ((Itl K a).go i H ∧ ∃ N : St → Hp → Prop, (∀ σ' H', N σ' H' → ∃ m', m' < m ∧ W (i + 1) m' σ' H') ∧ ∀ x H', (Itl K a).yld i H x H' → g x σ H' fun σ2 H2 => tb { D with nx := N, ct := N, bk := D.nx } σ2 H2) := by
 refine ⟨fun i m σ H => m = xs.length - i ∧ i ≤ xs.length ∧ Pv i σ H, ⟨xs.length, by simp, Nat.zero_le _, h0⟩, ?_⟩
 rintro i m σ H ⟨rfl, hi, p⟩
 have q := hl i σ H hi p
 by_cases hlt : i < xs.length
 ·refine .inr ⟨⟨xs, xs[i], q, by simp [hlt]⟩, Pv (i + 1), fun σ' H' p' => ⟨xs.length - (i + 1), by omega, rfl, hlt, p'⟩, fun x H' y => ?_⟩
  obtain ⟨e, y⟩ := y
  subst e
  exact hs i x σ _ (y xs q) p
 ·have e : i = xs.length := by omega
  subst e
  exact .inl ⟨⟨xs, q, Nat.le_refl _⟩, hd σ H p⟩
theorem zd5 {lo : Int} {n : Nat} {g : TG} {tb : TS} {D : Ends} {σ : St} {H : Hp} (Pv : Nat → St → Hp → Prop) (h0 : Pv 0 σ H)
  (hs : ∀ i σ H, i < n → Pv i σ H → g (.int (lo + i)) σ H fun σ2 H2 => tb { D with nx := Pv (i + 1), ct := Pv (i + 1), bk := D.nx } σ2 H2) (hd : ∀ σ H, Pv n σ H → D.nx σ H) :
  ∃ W : Nat → Nat → St → Hp → Prop, (∃ m, W 0 m σ H) ∧ ∀ i m σ H, W i m σ H →
   ((Itr lo n).stop i H ∧ D.nx σ H) ∨ ((Itr lo n).go i H ∧ ∃ N : St → Hp → Prop, (∀ σ' H', N σ' H' → ∃ m', m' < m ∧ W (i + 1) m' σ' H') ∧ ∀ x H', (Itr lo n).yld i H x H' → g x σ H' fun σ2 H2 => tb { D with nx := N, ct := N, bk := D.nx } σ2 H2) := by
 refine ⟨fun i m σ H => m = n - i ∧ i ≤ n ∧ Pv i σ H, ⟨n, by simp, Nat.zero_le _, h0⟩, ?_⟩
 rintro i m σ H ⟨rfl, hi, p⟩
 by_cases hlt : i < n
 ·refine .inr ⟨hlt, Pv (i + 1), fun σ' H' p' => ⟨n - (i + 1), by omega, rfl, hlt, p'⟩, fun x H' y => ?_⟩
  obtain ⟨e, y⟩ := y
  subst e y
  exact hs i σ _ hlt p
 ·have e : i = n := by omega
  subst e
  exact .inl ⟨Nat.le_refl _, hd σ H p⟩
end L2
namespace L2
open PySem PySem.Spec PyProof.Rows
abbrev R2 := V → V → Hp → VK → Prop
def OpR (X : Cx) (f : Value → Value → Sem Value) (r : R2) : Prop :=
 ∀ (pins : List (Addr × Obj)) (s : Shared) (σ : St) (H : Hp) (x y : V) (v u : Value) (Q : VK), Inv X pins σ H s → RelV x v → RelV y u → r x y H Q →
  wpAny (model X.prog X.w) X.A (f v u) (EP X pins σ Q) X.xe s
def UnR (X : Cx) (f : Value → Sem Value) (r : V → Hp → VK → Prop) : Prop :=
 ∀ (pins : List (Addr × Obj)) (s : Shared) (σ : St) (H : Hp) (x : V) (v : Value) (Q : VK), Inv X pins σ H s → RelV x v → r x H Q →
  wpAny (model X.prog X.w) X.A (f v) (EP X pins σ Q) X.xe s
def CallR (X : Cx) (f : Value) (r : List V → Hp → VK → Prop) : Prop :=
 ∀ (pins : List (Addr × Obj)) (s : Shared) (σ : St) (H : Hp) (xs : List V) (us : List Value) (Q : VK), Inv X pins σ H s → Vals xs us → r xs H Q →
  wpAny (model X.prog X.w) X.A (call f us) (EP X pins σ Q) X.xe s
def tOp (r : R2) (ta tb : TE) : TE := fun σ H Q => ta σ H fun x H1 => tb σ H1 fun y H2 => r x y H2 Q
def tUn (r : V → Hp → VK → Prop) (ta : TE) : TE := fun σ H Q => ta σ H fun x H1 => r x H1 Q
def rI (C : Int → Int → Prop) (g : Int → Int → V) : R2 := fun x y H Q => ∃ i j, x = .int i ∧ y = .int j ∧ C i j ∧ Q (g i j) H
def rI0 (g : Int → Int → V) : R2 := fun x y H Q => ∃ i j, x = .int i ∧ y = .int j ∧ Q (g i j) H
def rU (g : Int → V) : V → Hp → VK → Prop := fun x H Q => ∃ i, x = .int i ∧ Q (g i) H
section
variable {X : Cx} {a b c : Expr} {ta tb tc : TE} {pos : Pos}
theorem binT (ha : PE X a ta) (hb : PE X b tb) {pins : List (Addr × Obj)} {s : Shared} {σ : St} {H : Hp} {R : V → V → Hp → Prop} (I : Inv X pins σ H s)
  (h : ta σ H fun x H1 => tb σ H1 fun y H2 => R x y H2) {Q : Value → Shared → Prop} {f : Value → Value → Sem Value}
  (hf : ∀ v u s2 x y H2, Inv X pins σ H2 s2 → RelV x v → RelV y u → R x y H2 → wpAny (model X.prog X.w) X.A (f v u) Q X.xe s2) :
  wpAny (model X.prog X.w) X.A (eval a X.env) (fun v s₁ => wpAny (model X.prog X.w) X.A (eval b X.env) (fun u s₂ => wpAny (model X.prog X.w) X.A (f v u) Q X.xe s₂) X.xe s₁) X.xe s := by
 refine thn (ha pins s σ H _ I h) fun v s1 ⟨x, H1, I1, r1, q1⟩ => ?_
 refine thn (hb pins s1 σ H1 _ I1 q1) fun u s2 ⟨y, H2, I2, r2, q2⟩ => ?_
 exact hf v u s2 x y H2 I2 r1 r2 q2
theorem zg {op : Operator} {r : R2} (ho : OpR X (binaryOp op) r) (ha : PE X a ta) (hb : PE X b tb) : PE X (.BinOp a op b pos) (tOp r ta tb) := by
 intro pins s σ H Q I h
 exact wpAny_BinOp (binT ha hb I h fun v u s2 x y H2 I2 rx ry q => ho pins s2 σ H2 x y v u Q I2 rx ry q)
theorem zfq {op : UnaryOp} {r : V → Hp → VK → Prop} (ho : UnR X (unaryOp op) r) (ha : PE X a ta) : PE X (.UnaryOp op a pos) (tUn r ta) := by
 intro pins s σ H Q I h
 exact UnaryOp_ (thn (ha pins s σ H _ I h) fun v s1 ⟨x, H1, I1, r1, q1⟩ => ho pins s1 σ H1 x v Q I1 r1 q1)
theorem opI {f : Value → Value → Sem Value} {C : Int → Int → Prop} {g : Int → Int → Int}
  (rule : ∀ (i j : Int) (t u : Tok) (s : Shared) (Q : Value → Shared → Prop) (E : Value → Shared → Prop), C i j → Q (.int (g i j) s.toks) { s with toks := s.toks + 1 } → wpAny (model X.prog X.w) X.A (f (.int i t) (.int j u)) Q E s) :
  OpR X f (rI C fun i j => .int (g i j)) := by
 intro pins s σ H x y v u Q I rx ry h
 obtain ⟨i, j, rfl, rfl, hc, q⟩ := h
 obtain ⟨t, rfl⟩ := rx
 obtain ⟨t', rfl⟩ := ry
 exact rule i j t t' s _ _ hc ⟨.int (g i j), H, I.tok _, ⟨_, rfl⟩, q⟩
theorem opI0 {f : Value → Value → Sem Value} {g : Int → Int → Int}
  (rule : ∀ (i j : Int) (t u : Tok) (s : Shared) (Q : Value → Shared → Prop) (E : Value → Shared → Prop), Q (.int (g i j) s.toks) { s with toks := s.toks + 1 } → wpAny (model X.prog X.w) X.A (f (.int i t) (.int j u)) Q E s) :
  OpR X f (rI0 fun i j => .int (g i j)) := by
 intro pins s σ H x y v u Q I rx ry h
 obtain ⟨i, j, rfl, rfl, q⟩ := h
 obtain ⟨t, rfl⟩ := rx
 obtain ⟨t', rfl⟩ := ry
 exact rule i j t t' s _ _ ⟨.int (g i j), H, I.tok _, ⟨_, rfl⟩, q⟩
theorem opB0 {f : Value → Value → Sem Value} {g : Int → Int → Bool}
  (rule : ∀ (i j : Int) (t u : Tok) (s : Shared) (Q : Value → Shared → Prop) (E : Value → Shared → Prop), Q (.bool (g i j)) s → wpAny (model X.prog X.w) X.A (f (.int i t) (.int j u)) Q E s) :
  OpR X f (rI0 fun i j => .bl (g i j)) := by
 intro pins s σ H x y v u Q I rx ry h
 obtain ⟨i, j, rfl, rfl, q⟩ := h
 obtain ⟨t, rfl⟩ := rx
 obtain ⟨t', rfl⟩ := ry
 exact rule i j t t' s _ _ ⟨.bl (g i j), H, I, rfl, q⟩
def CDiv (i j : Int) : Prop := 0 < j ∧ j < 1073741824
def CMul (i j : Int) : Prop := (-(2 ^ 64) < i ∧ i < 2 ^ 64) ∨ (-(2 ^ 64) < j ∧ j < 2 ^ 64)
theorem CMul.ok {i j : Int} (h : CMul i j) : IntMulOk i j := by
 rcases h with ⟨h1, h2⟩ | ⟨h1, h2⟩
 ·exact .of_left (intBits_le_64 h1 h2)
 ·exact .of_right (intBits_le_64 h1 h2)
theorem zz : OpR X (binaryOp .Add) (rI0 fun i j => .int (i + j)) := opI0 fun _ _ _ _ _ _ _ q => add_int q
theorem z45 : OpR X (binaryOp .Sub) (rI0 fun i j => .int (i - j)) := opI0 fun _ _ _ _ _ _ _ q => sub_int q
theorem z4w : OpR X (binaryOp .Mult) (rI CMul fun i j => .int (i * j)) := opI fun _ _ _ _ _ _ _ hc q => mul_int q hc.ok
theorem z17 : OpR X (binaryOp .FloorDiv) (rI CDiv fun i j => .int (i / j)) := opI fun i j _ _ _ _ _ hc q => by
 have h1 : (0 : Int) < j := hc.1
 have h2 : j < 1073741824 := hc.2
 exact floordiv_int (by omega) (by rw [Int.fdiv_eq_ediv_of_nonneg i (by omega)]; exact q) (.inl (PyProof.noPylong_small (by omega)))
theorem z10 : OpR X (binaryOp .Mod) (rI (fun _ j => 0 < j) fun i j => .int (i % j)) := opI fun i j _ _ _ _ _ hc q => by
 have h1 : (0 : Int) < j := hc
 exact mod_int' (by omega) (by rw [Int.fmod_eq_emod_of_nonneg i (by omega)]; exact q)
theorem unI {f : Value → Sem Value} {g : Int → Int}
  (rule : ∀ (i : Int) (t : Tok) (s : Shared) (Q : Value → Shared → Prop) (E : Value → Shared → Prop), Q (.int (g i) s.toks) { s with toks := s.toks + 1 } → wpAny (model X.prog X.w) X.A (f (.int i t)) Q E s) :
  UnR X f (rU fun i => .int (g i)) := by
 intro pins s σ H x v Q I rx h
 obtain ⟨i, rfl, q⟩ := h
 obtain ⟨t, rfl⟩ := rx
 exact rule i t s _ _ ⟨.int (g i), H, I.tok _, ⟨_, rfl⟩, q⟩
theorem zd6 : UnR X (unaryOp .USub) (rU fun i => .int (-i)) := unI fun _ _ _ _ _ q => neg_int q
end
def scal : V → V → Bool
 | .non, .non => true | .non, .int _ => true | .int _, .non => true | .non, .bl _ => true | .bl _, .non => true | .non, .str _ => true | .str _, .non => true
 | .int _, .int _ => true | .bl _, .bl _ => true | .str _, .str _ => true | .byt _, .byt _ => true
 | .int _, .str _ => true | .str _, .int _ => true | .bl _, .str _ => true | .str _, .bl _ => true
 | _, _ => false
def rEq : R2 := fun x y H Q => scal x y = true ∧ Q (.bl (decide (x = y))) H
def rNe : R2 := fun x y H Q => scal x y = true ∧ Q (.bl (!decide (x = y))) H
theorem zbg {i j : Int} : decide (V.int i = V.int j) = (i == j) := by
 rw [Bool.eq_iff_iff]
 simp
theorem zd7 {i j : Bool} : decide (V.bl i = V.bl j) = (i == j) := by
 rw [Bool.eq_iff_iff]
 simp
theorem zbh {i j : Str} : decide (V.str i = V.str j) = (i == j) := by
 rw [Bool.eq_iff_iff]
 simp
theorem zbi {i j : Array UInt8} : decide (V.byt i = V.byt j) = (i.toList == j.toList) := by
 rw [Bool.eq_iff_iff]
 cases i
 cases j
 simp
section
variable {X : Cx} {a b c : Expr} {ta tb tc : TE} {pos : Pos}
theorem zv {pins : List (Addr × Obj)} {σ : St} {H : Hp} {s : Shared} {Q : VK} {k k' : Bool} (I : Inv X pins σ H s) (q : Q (.bl k) H) (e : k = k') : EP X pins σ Q (.bool k') s := by
 subst e
 exact ⟨.bl k, H, I, rfl, q⟩
theorem z1b : OpR X (compareOp .Eq) rEq := by
 intro pins s σ H x y v u Q I rx ry h
 obtain ⟨hs, q⟩ := h
 cases x with
 | non =>
  cases rx
  cases y with
  | non => cases ry; exact PySem.EqNone.eq_none_none (zv I q (by simp))
  | bl j => cases ry; exact PySem.EqNone.eq_none_bool (zv I q (by simp))
  | int j => obtain ⟨t', rfl⟩ := ry; exact PySem.EqNone.eq_none_int (zv I q (by simp))
  | str j => obtain ⟨t', rfl⟩ := ry; exact PySem.EqNone.eq_none_str (zv I q (by simp))
  | _ => exact absurd (show false = true from hs) Bool.false_ne_true
 | bl i =>
  cases rx
  cases y with
  | non => cases ry; exact PySem.EqNone.eq_bool_none (zv I q (by simp))
  | bl j => cases ry; exact eq_bool (zv I q zd7)
  | str j => obtain ⟨t', rfl⟩ := ry; exact PySem.EqMixed.eq_bool_str (zv I q (by simp))
  | _ => exact absurd (show false = true from hs) Bool.false_ne_true
 | int i =>
  obtain ⟨t, rfl⟩ := rx
  cases y with
  | non => cases ry; exact PySem.EqNone.eq_int_none (zv I q (by simp))
  | int j => obtain ⟨t', rfl⟩ := ry; exact eq_int (zv I q zbg)
  | str j => obtain ⟨t', rfl⟩ := ry; exact PySem.EqMixed.eq_int_str (zv I q (by simp))
  | _ => exact absurd (show false = true from hs) Bool.false_ne_true
 | str i =>
  obtain ⟨t, rfl⟩ := rx
  cases y with
  | non => cases ry; exact PySem.EqNone.eq_str_none (zv I q (by simp))
  | bl j => cases ry; exact PySem.EqMixed.eq_str_bool (zv I q (by simp))
  | int j => obtain ⟨t', rfl⟩ := ry; exact PySem.EqMixed.eq_str_int (zv I q (by simp))
  | str j => obtain ⟨t', rfl⟩ := ry; exact eq_str (zv I q zbh)
  | _ => exact absurd (show false = true from hs) Bool.false_ne_true
 | byt i =>
  obtain ⟨t, rfl⟩ := rx
  cases y with
  | byt j => obtain ⟨t', rfl⟩ := ry; exact PySem.W.eq_bytes (zv I q zbi)
  | _ => exact absurd (show false = true from hs) Bool.false_ne_true
 | _ => cases y <;> exact absurd (show false = true from hs) Bool.false_ne_true
theorem z20 : OpR X (compareOp .NotEq) rNe := by
 intro pins s σ H x y v u Q I rx ry h
 obtain ⟨hs, q⟩ := h
 cases x with
 | non =>
  cases rx
  cases y with
  | non => cases ry; exact PySem.EqNone.ne_none_none (zv I q (by simp))
  | bl j => cases ry; exact PySem.EqNone.ne_none_bool (zv I q (by simp))
  | int j => obtain ⟨t', rfl⟩ := ry; exact PySem.EqNone.ne_none_int (zv I q (by simp))
  | str j => obtain ⟨t', rfl⟩ := ry; exact PySem.EqNone.ne_none_str (zv I q (by simp))
  | _ => exact absurd (show false = true from hs) Bool.false_ne_true
 | bl i =>
  cases rx
  cases y with
  | non => cases ry; exact PySem.EqNone.ne_bool_none (zv I q (by simp))
  | bl j => cases ry; exact ne_bool (zv I q (congrArg not zd7))
  | str j => obtain ⟨t', rfl⟩ := ry; exact PySem.EqMixed.ne_bool_str (zv I q (by simp))
  | _ => exact absurd (show false = true from hs) Bool.false_ne_true
 | int i =>
  obtain ⟨t, rfl⟩ := rx
  cases y with
  | non => cases ry; exact PySem.EqNone.ne_int_none (zv I q (by simp))
  | int j => obtain ⟨t', rfl⟩ := ry; exact ne_int (zv I q (congrArg not zbg))
  | str j => obtain ⟨t', rfl⟩ := ry; exact PySem.EqMixed.ne_int_str (zv I q (by simp))
  | _ => exact absurd (show false = true from hs) Bool.false_ne_true
 | str i =>
  obtain ⟨t, rfl⟩ := rx
  cases y with
  | non => cases ry; exact PySem.EqNone.ne_str_none (zv I q (by simp))
  | bl j => cases ry; exact PySem.EqMixed.ne_str_bool (zv I q (by simp))
  | int j => obtain ⟨t', rfl⟩ := ry; exact PySem.EqMixed.ne_str_int (zv I q (by simp))
  | str j => obtain ⟨t', rfl⟩ := ry; exact ne_str (zv I q (congrArg not zbh))
  | _ => exact absurd (show false = true from hs) Bool.false_ne_true
 | byt i =>
  obtain ⟨t, rfl⟩ := rx
  cases y with
  | byt j => obtain ⟨t', rfl⟩ := ry; exact PySem.W.ne_bytes (zv I q (congrArg not zbi))
  | _ => exact absurd (show false = true from hs) Bool.false_ne_true
 | _ => cases y <;> exact absurd (show false = true from hs) Bool.false_ne_true
theorem za1 : OpR X (compareOp .Lt) (rI0 fun i j => .bl (decide (i < j))) := opB0 fun _ _ _ _ _ _ _ q => lt_int q
theorem z7i : OpR X (compareOp .LtE) (rI0 fun i j => .bl (decide (i ≤ j))) := opB0 fun _ _ _ _ _ _ _ q => le_int q
theorem zfr : OpR X (compareOp .Gt) (rI0 fun i j => .bl (decide (j < i))) := opB0 fun _ _ _ _ _ _ _ q => gt_int q
theorem zc4 : OpR X (compareOp .GtE) (rI0 fun i j => .bl (decide (j ≤ i))) := opB0 fun _ _ _ _ _ _ _ q => ge_int q
theorem OpR.or {f : Value → Value → Sem Value} {r r' : R2} (h : OpR X f r) (h' : OpR X f r') : OpR X f (fun x y H Q => r x y H Q ∨ r' x y H Q) := by
 intro pins s σ H x y v u Q I rx ry q
 rcases q with q | q
 ·exact h pins s σ H x y v u Q I rx ry q
 ·exact h' pins s σ H x y v u Q I rx ry q
theorem zk (b : Expr) {op : CmpOp} (h : op ≠ .In := by decide) (h2 : op ≠ .NotIn := by decide) : behindInMarks op b = false := by
 have e1 : (op == CmpOp.In) = false := by cases op <;> first | rfl | exact absurd rfl h
 have e2 : (op == CmpOp.NotIn) = false := by cases op <;> first | rfl | exact absurd rfl h2
 cases b <;> simp [behindInMarks, e1, e2]
theorem z1c {op : CmpOp} {r : R2} (ho : OpR X (compareOp op) r) (ha : PE X a ta) (hb : PE X b tb) (hm : behindInMarks op b = false) : PE X (.Compare a [op] [b] pos) (tOp r ta tb) := by
 intro pins s σ H Q I h
 exact wpAny_Compare1 (binT ha hb I h fun v u s2 x y H2 I2 rx ry q => ho pins s2 σ H2 x y v u Q I2 rx ry q) hm
def zc5 (t : TE) : TT := fun σ H Q => t σ H fun x H' => ∃ k, x = .bl k ∧ Q k H'
theorem zo {op : CmpOp} {r : R2} (ho : OpR X (compareOp op) r) (ha : PE X a ta) (hb : PE X b tb) (hm : behindInMarks op b = false) : PT X (.Compare a [op] [b] pos) (zc5 (tOp r ta tb)) := by
 intro pins s σ H Q I h
 refine wpAny_isTrue_Compare1 (thn (ha pins s σ H _ I h) fun v s1 ⟨x, H1, I1, r1, q1⟩ => thn (hb pins s1 σ H1 _ I1 q1) fun u s2 ⟨y, H2, I2, r2, q2⟩ =>
  thn (ho pins s2 σ H2 x y v u _ I2 r1 r2 q2) fun c s3 ⟨z, H3, I3, r3, k, e, q3⟩ => ?_) hm
 subst e
 cases r3
 exact wpAny_truthy_bool ⟨H3, I3, q3⟩
def zd8 (r r' : R2) (ta tb tc : TE) : TE := fun σ H Q => ta σ H fun x H1 => tb σ H1 fun y H2 => r x y H2 fun z H3 => ∃ k, z = .bl k ∧
 (if k = true then tc σ H3 fun w' H4 => r' y w' H4 Q else Q (.bl false) H3)
theorem zen {op op' : CmpOp} {r r' : R2} (ho : OpR X (compareOp op) r) (ho' : OpR X (compareOp op') r') (ha : PE X a ta) (hb : PE X b tb) (hc : PE X c tc)
  (hm : lastMarks [op, op'] [b, c] = false := by with_unfolding_all rfl) : PT X (.Compare a [op, op'] [b, c] pos) (zc5 (zd8 r r' ta tb tc)) := by
 intro pins s σ H Q I h
 refine isTrue_chain (thn (ha pins s σ H _ I h) fun v s1 ⟨x, H1, I1, r1, q1⟩ => test_link (thn (hb pins s1 σ H1 _ I1 q1) fun u s2 ⟨y, H2, I2, r2, q2⟩ =>
  thn (ho pins s2 σ H2 x y v u _ I2 r1 r2 q2) fun d s3 ⟨z, H3, I3, r3, k, e, q3⟩ => ?_)) hm
 subst e
 cases r3
 refine wpAny_truthy_bool ?_
 cases k with
 | false =>
  obtain ⟨k', e', q'⟩ := q3
  cases e'
  exact ite_ff ⟨H3, I3, q'⟩
 | true =>
  refine ite_tt (test_last (thn (hc pins s3 σ H3 _ I3 q3) fun w' s4 ⟨z', H4, I4, r4, q4⟩ => thn (ho' pins s4 σ H4 y z' u w' _ I4 r2 r4 q4) fun d' s5 ⟨z2, H5, I5, r5, k2, e2, q5⟩ => ?_))
  subst e2
  cases r5
  exact wpAny_truthy_bool ⟨H5, I5, q5⟩
theorem z7j : (sizeLine : Nat) < 2 ^ 63 := by rw [sizeLine_eq]; decide
theorem z35 : OpR X (binaryOp .Add) (fun x y H Q => ∃ i j, x = .str i ∧ y = .str j ∧ i.length + j.length ≤ sizeLine ∧ Q (.str (i ++ j)) H) := by
 intro pins s σ H x y v u Q I rx ry h
 obtain ⟨i, j, rfl, rfl, hz, q⟩ := h
 obtain ⟨t, rfl⟩ := rx
 obtain ⟨t', rfl⟩ := ry
 exact add_str (fun t' tk => ⟨.str (i ++ j), H, I.tok _, ⟨_, rfl⟩, q⟩) hz
theorem z56 {x : V} {us : List Value} (r : Vals [x] us) : ∃ u, us = [u] ∧ RelV x u := by
 cases r with
 | cons r1 r2 => cases r2; exact ⟨_, rfl, r1⟩
theorem zc6 {x y : V} {us : List Value} (r : Vals [x, y] us) : ∃ u w', us = [u, w'] ∧ RelV x u ∧ RelV y w' := by
 cases r with
 | cons r1 r2 =>
  cases r2 with
  | cons r3 r4 => cases r4; exact ⟨_, _, rfl, r1, r3⟩
theorem z8z (hc : X.calm = true) : CallR X (.builtin "min") (fun xs H Q => ∃ i j, xs = [.int i, .int j] ∧ Q (.int (if j < i then j else i)) H) := by
 intro pins s σ H xs us Q I r h
 obtain ⟨i, j, rfl, q⟩ := h
 obtain ⟨u, w', rfl, ⟨t, rfl⟩, ⟨t', rfl⟩⟩ := zc6 r
 refine min_two_ints (I.ok.hd hc) fun h' tk k => ⟨_, H, I.kept k, ?_, q⟩
 by_cases hj : j < i
 ·rw [if_pos hj, if_pos hj]; exact ⟨_, rfl⟩
 ·rw [if_neg hj, if_neg hj]; exact ⟨_, rfl⟩
end
end L2
namespace L2
open PySem PySem.Spec PyProof.Rows
structure ObjM (h : Heap) (x dx C : Addr) (mA : Str → Option Value) : Prop where
 obj : h.get? x = some (PySem.W.instObj C dx)
 ns : h.Ns1 dx mA
 ne : dx ≠ x
theorem zd9 {h : Heap} {dx : Addr} {mA : Str → Option Value} (n : h.Ns1 dx mA) : ∃ od, h.get? dx = some od ∧ ∀ name, PySem.W.lookIn name od = some (mA name) := by
 obtain ⟨o, es, ep, ho, hd, hk, _, hm⟩ := n
 refine ⟨o, ho, fun name => ?_⟩
 have e := hm name
 unfold nsFind findBy at e
 rw [← Array.find?_toList] at e
 unfold PySem.W.lookIn
 rw [hd]
 dsimp only
 split
 ·rename_i y q
  rw [q] at e
  exact congrArg some e
 ·rename_i q
  rw [q] at e
  have a : es.toList.any (·.refKey) = false := by
   rw [List.any_eq_false]
   intro y hy
   obtain ⟨z, t, hkey⟩ := hk y (Array.mem_toList_iff.mp hy)
   simp [DictEntry.refKey, hkey]
  have a' : ¬ es.toList.any (·.refKey) = true := by rw [a]; exact Bool.false_ne_true
  rw [if_neg a']
  exact congrArg some e
theorem ObjM.look {h : Heap} {x dx C : Addr} {mA : Str → Option Value} (I : ObjM h x dx C mA) : ∃ od, PySem.W.InstAt h x (PySem.W.instObj C dx) C (some od) ∧ ∀ name, PySem.W.lookIn name od = some (mA name) :=
 let ⟨od, ho, hl⟩ := zd9 I.ns
 ⟨od, ⟨I.obj, rfl, rfl, ho⟩, hl⟩
section
variable {prog : Program} {w : World} {A : Around} {E : Value → Shared → Prop} {s : Shared} {K : PySem.W.Frag} {x dx C f : Addr} {mA : Str → Option Value} {name : Str} {v : Value}
theorem zg1 {expr : Bool} {Q : Value → Shared → Prop} (X : K.In s.heap) (I : ObjM s.heap x dx C mA) (hg : PySem.W.plainGet K C name = true) (hh : PySem.W.hasDictIn K C = true)
  (ha : PySem.W.findIn K (.ref C) name = some none) (hv : mA name = some v) (hv' : PySem.W.handedIn v = true) (h : Q v { s with toks := s.toks + 1 }) :
  wpAny (model prog w) A (getAttr (.ref x) name expr) Q E s := by
 obtain ⟨od, J, hl⟩ := I.look
 exact PySem.W.get_value X J (PySem.W.plainGet_of hg).1 (PySem.W.findObj_own hh ha rfl (by rw [hl, hv])) hv' h
theorem zeo {pl : Sem Bool} {Q : Value × List Value → Shared → Prop} (X : K.In s.heap) (I : ObjM s.heap x dx C mA) (hg : PySem.W.plainGet K C name = true)
  (hf : PySem.W.findIn K (.ref C) name = some (some (.ref f))) (ht : PySem.W.isFn K (.ref f) = true) (hv : mA name = none) (h : Q (.ref f, [.ref x]) s) :
  wpAny (model prog w) A (getMethod (.ref x) name pl) Q E s := by
 obtain ⟨od, J, hl⟩ := I.look
 exact PySem.W.method_fn X J (PySem.W.plainGet_of hg).1 (PySem.W.plainGet_of hg).2 hf (beq_iff_eq.mp ht) (by show (PySem.W.lookIn name od).map (·.isSome) = some false; rw [hl, hv]; rfl) h
theorem zg2 {ns : List Str} {Q : Unit → Shared → Prop} (X : K.In s.heap) (I : ObjM s.heap x dx C mA)
  (hs : PySem.W.findIn K (.ref C) "__setattr__" = some (some (.builtin "object.__setattr__"))) (hp : PySem.W.plainOver K C = true) (ht : PySem.W.takerIn K C name = some none) (hh : PySem.W.hasDictIn K C = true)
  (hw : PySem.Within mA ns) (hsz : ns.length ≤ sizeLine)
  (h : ∀ h', ObjM h' x dx C (fun y => if y = name then some v else mA y) → Heap.SameBut dx s.heap h' → Q () { s with heap := h', toks := s.toks + 2 }) :
  wpAny (model prog w) A (setAttr (.ref x) name v) Q E s := by
 obtain ⟨od, J, hl⟩ := I.look
 refine PySem.W.set_plain X J hs (PySem.W.osa_open (s := { s with toks := s.toks + 1 }) (r := none) X J hp ht fun b => ?_)
 obtain ⟨cd, hc, hd'⟩ := PySem.W.any_some hh
 have hx : s.heap.get? x = some ⟨.ref C, some dx, .plain, #[]⟩ := I.obj
 refine wpAny_bind (wpAny_pure (wpAny_bind (wpAny_bind (wpAny_loadPart hx (wpAny_bind (PySem.W.Looks.here (s := { s with toks := s.toks + 1 }) (PySem.W.looks_clsIn X hc) ?_))))))
 rw [hd']
 refine wpAny_pure (a := some dx) (wpAny_bind (wpAny_pure (wpAny_bind ?_)))
 refine wpAny_nsSet1 (s := { s with toks := s.toks + 1 }) I.ns fun h' hn2 hs2 => ?_
 obtain ⟨oD, esD, epD, hoD, hdD, hcD⟩ := hn2.count (PySem.Within.cons name v hw)
 refine wpAny_bind (wpAny_lookBehind hoD (by rw [hdD]; exact pastItsLine_dict (Nat.le_trans hcD (by rw [List.length_cons]; omega))) ?_)
 exact wpAny_pure (h _ ⟨(hs2.2 _ (Ne.symm I.ne)).trans I.obj, hn2, I.ne⟩ hs2)
theorem zep {R : Result → Shared → Prop} {vs : List Value} {kw : List (Str × Value)} (X : K.In s.heap) (hm : PySem.W.makesIn K C = true)
  (hi : PySem.W.findIn K (.ref C) "__init__" = some (some (.ref f))) (hf : PySem.W.typeIn K (.ref f) = some (.type "function"))
  (h : codeAny (model prog w) (A.under (.builtin "type.__call__" ⟨.ref C :: vs, kw⟩)) (.call (.ref f) ⟨.ref (s.heap.objs.size + 1) :: vs, kw⟩) (PySem.W.InitBack (s.heap.objs.size + 1) R)
   { s with heap := (s.heap.push PySem.W.emptyDict).push (PySem.W.instObj C s.heap.objs.size) }) :
  codeAny (model prog w) A (.call (.ref C) ⟨vs, kw⟩) R s := by
 obtain ⟨hh, g, d, t, os⟩ := s
 exact PySem.W.make_core (PySem.W.makes_of X hm) (PySem.W.looks_findIn X hi) (fun self => PySem.W.bind_fn X self hf) (.inl rfl) h
end
def putF (f : Str) (v : V) : List (Str × V) → List (Str × V)
 | [] => [(f, v)]
 | (g, x) :: r => if g = f then (g, v) :: r else (g, x) :: putF f v r
theorem z6p (f g : Str) (v : V) : ∀ fs : List (Str × V), (putF f v fs).lookup g = if g = f then some v else fs.lookup g
 | [] => by
  show List.lookup g [(f, v)] = _
  by_cases h : g = f
  ·have hb : (g == f) = true := beq_iff_eq.mpr h
   simp only [List.lookup, hb, if_pos h]
  ·have hb : (g == f) = false := beq_eq_false_iff_ne.mpr h
   simp only [List.lookup, hb, if_neg h]
 | (k, x) :: r => by
  have ih := z6p f g v r
  rw [show putF f v ((k, x) :: r) = (if k = f then (k, v) :: r else (k, x) :: putF f v r) from rfl]
  by_cases hk : k = f
  ·rw [if_pos hk]
   by_cases h : g = k
   ·have hb : (g == k) = true := beq_iff_eq.mpr h
    simp only [List.lookup, hb, if_pos (h.trans hk)]
   ·have hb : (g == k) = false := beq_eq_false_iff_ne.mpr h
    simp only [List.lookup, hb, if_neg (fun e : g = f => h (e.trans hk.symm))]
  ·rw [if_neg hk]
   by_cases h : g = k
   ·have hb : (g == k) = true := beq_iff_eq.mpr h
    simp only [List.lookup, hb, if_neg (fun e : g = f => hk (h.symm.trans e))]
   ·have hb : (g == k) = false := beq_eq_false_iff_ne.mpr h
    simp only [List.lookup, hb]
    exact ih
theorem z5r (f : Str) (v : V) : ∀ fs : List (Str × V), f ∈ (putF f v fs).map (·.1) ∧ ∀ g, g ∈ fs.map (·.1) → g ∈ (putF f v fs).map (·.1)
 | [] => ⟨by simp [putF], fun g h => by simp at h⟩
 | (k, x) :: r => by
  obtain ⟨i1, i2⟩ := z5r f v r
  rw [show putF f v ((k, x) :: r) = (if k = f then (k, v) :: r else (k, x) :: putF f v r) from rfl]
  by_cases hk : k = f
  ·rw [if_pos hk]
   subst hk
   exact ⟨by simp, fun g h => by simpa using h⟩
  ·rw [if_neg hk]
   refine ⟨?_, fun g h => ?_⟩
   ·rw [List.map_cons]
    exact List.mem_cons_of_mem _ i1
   ·rw [List.map_cons] at h ⊢
    rcases List.mem_cons.mp h with e | e
    ·exact List.mem_cons.mpr (.inl e)
    ·exact List.mem_cons_of_mem _ (i2 g e)
theorem z6q (f : Str) (v : V) : ∀ fs : List (Str × V), (putF f v fs).length ≤ fs.length + 1
 | [] => by simp [putF]
 | (k, x) :: r => by
  have ih := z6q f v r
  rw [show putF f v ((k, x) :: r) = (if k = f then (k, v) :: r else (k, x) :: putF f v r) from rfl]
  by_cases hk : k = f
  ·rw [if_pos hk, List.length_cons, List.length_cons]; omega
  ·rw [if_neg hk, List.length_cons, List.length_cons]; omega
theorem RelO.some_of {v : V} {o : Option Value} (r : RelO (some v) o) : ∃ u, o = some u ∧ RelV v u := by
 cases o with
 | none => exact (show False from r).elim
 | some u => exact ⟨u, rfl, r⟩
theorem RelO.none_of {o : Option Value} (r : RelO none o) : o = none := by
 cases o with
 | none => rfl
 | some u => exact (show False from r).elim
theorem zda {v : V} {u : Value} (r : RelV v u) : PySem.W.handedIn u = true := by
 cases v with
 | non => cases (show u = Value.none from r); rfl
 | bl b => cases (show u = Value.bool b from r); rfl
 | int i => obtain ⟨t, e⟩ := (show ∃ t, u = Value.int i t from r); cases e; rfl
 | str x => obtain ⟨t, e⟩ := (show ∃ t, u = Value.str x t from r); cases e; rfl
 | byt b => obtain ⟨t, e⟩ := (show ∃ t, u = Value.bytes b t from r); cases e; rfl
 | flt b => obtain ⟨t, e⟩ := (show ∃ t, u = Value.float b t from r); cases e; rfl
 | ref a => cases (show u = Value.ref a from r); rfl
 | ty n => cases (show u = Value.type n from r); rfl
section
variable {P : Program} {w : World} {H H' : Hp} {h h' : Heap} {a C dx : Addr} {fs fs' : List (Str × V)}
theorem z4x (hok : HOk P w H h) (e : H a = some (.ins C dx fs)) : ∃ mA, ObjM h a dx C mA ∧ (∀ f, RelO (fs.lookup f) (mA f)) ∧ PySem.Within mA (fs.map (·.1)) ∧ fs.length ≤ 1000 ∧ H dx = some (.own a) := by
 obtain ⟨d, z, ne, ob, mA, n, r, q⟩ := (show ObjOk P w H h a (.ins C dx fs) from hok a _ e)
 exact ⟨mA, ⟨ob, n, ne⟩, r, q, z, d⟩
end
structure Cls (K : PySem.W.Frag) (C : Addr) : Prop where
 pg : PySem.W.plainGet K C Str.empty = true
 hd : PySem.W.hasDictIn K C = true
 po : PySem.W.plainOver K C = true
 sa : PySem.W.findIn K (.ref C) "__setattr__" = some (some (.builtin "object.__setattr__"))
theorem Cls.get {K : PySem.W.Frag} {C : Addr} (c : Cls K C) (f : Str) : PySem.W.plainGet K C f = true := c.pg
def NoAttr (K : PySem.W.Frag) (C : Addr) (f : Str) : Prop := PySem.W.findIn K (.ref C) f = some none
theorem NoAttr.taker {K : PySem.W.Frag} {C : Addr} {f : Str} (n : NoAttr K C f) : PySem.W.takerIn K C f = some none := by
 unfold PySem.W.takerIn
 rw [show PySem.W.findIn K (.ref C) f = some none from n]
 rfl
structure Con (K : PySem.W.Frag) (C : Addr) (f : Str) (v : V) (u : Value) : Prop where
 at_ : PySem.W.findIn K (.ref C) f = some (some u)
 rel : RelV v u
 get : PySem.W.specialIn K u "__get__" = some none
 cp : PySem.W.copiedNames.contains f = false
structure Meth (K : PySem.W.Frag) (C : Addr) (m : Str) (f : Addr) : Prop where
 at_ : PySem.W.findIn K (.ref C) m = some (some (.ref f))
 fn : PySem.W.isFn K (.ref f) = true
 kp : PySem.W.keepIn K (.ref f) = true
section
variable {X : Cx} {pins : List (Addr × Obj)} {σ : St} {H : Hp} {s : Shared} {a C dx : Addr} {fs : List (Str × V)} {f : Str} {v : V} {A : Around} {E : Value → Shared → Prop}
theorem zc7 {b : Bool} {Q : Value → Shared → Prop} (I : Inv X pins σ H s) (e : H a = some (.ins C dx fs)) (c : Cls X.K C) (n : NoAttr X.K C f) (l : fs.lookup f = some v)
  (h : ∀ u s', Inv X pins σ H s' → RelV v u → Q u s') : wpAny (model X.prog X.w) A (getAttr (.ref a) f b) Q E s := by
 obtain ⟨mA, O, r, _, _, _⟩ := z4x I.hok e
 obtain ⟨u, hu, ru⟩ := RelO.some_of (v := v) (o := mA f) (by rw [← l]; exact r f)
 exact zg1 I.kIn O (c.get f) c.hd n hu (zda ru) (h u _ (I.tok _) ru)
theorem z57 {m : Str} {g : Addr} {pl : Sem Bool} {Q : Value × List Value → Shared → Prop} (I : Inv X pins σ H s) (e : H a = some (.ins C dx fs)) (c : Cls X.K C) (k : Meth X.K C m g) (l : fs.lookup m = none)
  (h : Q (.ref g, [.ref a]) s) : wpAny (model X.prog X.w) A (getMethod (.ref a) m pl) Q E s := by
 obtain ⟨mA, O, r, _, _, _⟩ := z4x I.hok e
 have hn : mA m = none := RelO.none_of (by rw [← l]; exact r m)
 exact zeo I.kIn O (c.get m) k.at_ k.fn hn h
theorem zc8 {y : V} {u : Value} {Q : Unit → Shared → Prop} (I : Inv X pins σ H s) (e : H a = some (.ins C dx fs)) (c : Cls X.K C) (n : NoAttr X.K C f) (hl : fs.length < 1000) (ry : RelV y u)
  (h : ∀ s', Inv X pins σ (upd H a (.ins C dx (putF f y fs))) s' → Q () s') : wpAny (model X.prog X.w) A (setAttr (.ref a) f u) Q E s := by
 obtain ⟨mA, O, r, wi, _, ho⟩ := z4x I.hok e
 have hz : (fs.map (·.1)).length ≤ sizeLine := by rw [List.length_map, sizeLine_eq]; omega
 refine zg2 I.kIn O c.sa c.po n.taker c.hd wi hz fun h' O' sb => h _ ?_
 have hd : ∃ o, h'.get? dx = some o := let ⟨o, _, _, e', _⟩ := O'.ns; ⟨o, e'⟩
 refine I.write (x := a) (e := dx) (by rw [e]; exact True.intro) (.inr ho) (fun b q hb z => (sb.2 b hb).trans z) hd ?_
 refine ⟨by rw [zb O.ne]; exact ho, ?_, O.ne, O'.obj, _, O'.ns, fun g => ?_, fun g hg => ?_⟩
 ·have := z6q f y fs; omega
 ·show RelO ((putF f y fs).lookup g) (if g = f then some u else mA g)
  rw [z6p]
  by_cases q : g = f
  ·rw [if_pos q, if_pos q]; exact ry
  ·rw [if_neg q, if_neg q]; exact r g
 ·by_cases q : g = f
  ·rw [q]; exact (z5r f y fs).1
  ·refine (z5r f y fs).2 g (wi g fun z => hg ?_)
   show (if g = f then some u else mA g) = none
   rw [if_neg q]; exact z
theorem Inv.made (I : Inv X pins σ H s) : Inv X pins σ (upd (upd H s.heap.objs.size (.own (s.heap.objs.size + 1))) (s.heap.objs.size + 1) (.ins C s.heap.objs.size []))
  { s with heap := (s.heap.push PySem.W.emptyDict).push (PySem.W.instObj C s.heap.objs.size) } := by
 have e1 : (s.heap.push PySem.W.emptyDict).get? s.heap.objs.size = some PySem.W.emptyDict := Heap.get?_push_size s.heap rfl
 have e2 : ((s.heap.push PySem.W.emptyDict).push (PySem.W.instObj C s.heap.objs.size)).get? (s.heap.objs.size + 1) = some (PySem.W.instObj C s.heap.objs.size) := by
  have := Heap.get?_push_size (s.heap.push PySem.W.emptyDict) (o := PySem.W.instObj C s.heap.objs.size) rfl
  rwa [Heap.size_push] at this
 have e3 : (s.heap.push PySem.W.emptyDict).Ns s.heap.objs.size (fun _ => none) := ⟨PySem.W.emptyDict, #[], _, e1, rfl, (fun e he => absurd he (by simp)), fun _ => rfl⟩
 have I1 := I.laid (a := s.heap.objs.size) (o := .own (s.heap.objs.size + 1)) (h' := s.heap.push PySem.W.emptyDict) (t' := s.toks) (fun b u q => Heap.get?_push_of_some _ q) (Nat.le_refl _) ⟨_, e1⟩
 refine I1.laid (a := s.heap.objs.size + 1) (o := .ins C s.heap.objs.size []) (t' := s.toks) (fun b u q => Heap.get?_push_of_some _ q) (Nat.le_of_eq (Heap.size_push _ _)) ?_
 have ne : s.heap.objs.size ≠ s.heap.objs.size + 1 := Nat.ne_of_lt (Nat.lt_succ_self _)
 refine ⟨by rw [zb ne, z9], Nat.zero_le _, ne, e2, fun _ => none, (Heap.Ns1.of_empty e3).at fun o q => Heap.get?_push_of_some _ q, fun _ => True.intro, fun y hy => absurd rfl hy⟩
theorem zg3 {prog : Program} {w : World} {env : Env} {e : Expr} {f : Str} {pos : Pos} {s : Shared} {Q : Value → Shared → Prop} (hb : attributeBase e f env (eval e env) = eval e env)
  (h : wpAny (model prog w) A (eval e env) (fun o s₁ => wpAny (model prog w) A (getAttr o f true) Q E s₁) E s) : wpAny (model prog w) A (eval (.Attribute e f pos) env) Q E s :=
 Attribute_any_ h (by rw [arm_eval_Attribute, hb])
end
def tFld (K : PySem.W.Frag) (ta : TE) (f : Str) : TE := fun σ H Q => ta σ H fun x H1 => ∃ a C dx fs v, x = .ref a ∧ H1 a = some (.ins C dx fs) ∧ Cls K C ∧ NoAttr K C f ∧ fs.lookup f = some v ∧ Q v H1
def sFld (K : PySem.W.Frag) (ta tv : TE) (f : Str) : TS := fun D σ H => tv σ H fun y H1 => ta σ H1 fun x H2 => ∃ a C dx fs, x = .ref a ∧ H2 a = some (.ins C dx fs) ∧ Cls K C ∧ NoAttr K C f ∧ fs.length < 1000 ∧
 D.nx σ (upd H2 a (.ins C dx (putF f y fs)))
section
variable {X : Cx} {o e value : Expr} {f : Str} {pos pos' tpos : Pos} {ta tv : TE}
theorem z21 (he : PE X e ta) (hb : attributeBase e f X.env (eval e X.env) = eval e X.env) : PE X (.Attribute e f pos) (tFld X.K ta f) := by
 intro pins s σ H Q I h
 refine zg3 hb (thn (he pins s σ H _ I h) fun u s1 ⟨x, H1, I1, rx, a, C, dx, fs, v, ex, ea, c, n, l, q⟩ => ?_)
 subst ex
 obtain rfl : u = Value.ref a := rx
 exact zc7 I1 ea c n l fun u' s2 I2 ru => ⟨v, H1, I2, ru, q⟩
theorem z2x (ha : PE X o ta) (hv : PE X value tv) (hs : swapsWith value (some (.Attribute o f pos')) pos.line X.env = pure false) : PS X (.Assign [.Attribute o f pos'] value pos) (sFld X.K ta tv f) := by
 intro pins s σ H D I h
 refine plainObj_wpAny_Assign_Attribute (thn (hv pins s σ H _ I h) fun u s1 ⟨y, H1, I1, ry, q⟩ => thn (ha pins s1 σ H1 _ I1 q) fun ov s2 ⟨x, H2, I2, rx, a, C, dx, fs, ex, ea, c, n, l, q2⟩ => ?_) hs
 subst ex
 obtain rfl : ov = Value.ref a := rx
 exact zc8 I2 ea c n l ry fun s3 I3 => ⟨σ, _, I3, q2⟩
end
section
variable {X : Cx} {pins : List (Addr × Obj)} {σ : St} {H : Hp} {s : Shared} {A : Around} {E : Value → Shared → Prop} {Q : Value → Shared → Prop} {c : Value} {b : Bool}
inductive TyOf (K : PySem.W.Frag) (H : Hp) : V → Value → Prop where
 | non : TyOf K H .non (.type "NoneType")
 | bl (x : Bool) : TyOf K H (.bl x) (.type "bool")
 | int (i : Int) : TyOf K H (.int i) (.type "int")
 | str (x : Str) : TyOf K H (.str x) (.type "str")
 | flt (x : UInt64) : TyOf K H (.flt x) (.type "float")
 | lst {a : Addr} {xs : List V} (e : H a = some (.lst xs)) : TyOf K H (.ref a) (.type "list")
 | frz {a : Addr} {o : Obj} {xs : List V} (e : H a = some (.frz o (.lst xs))) : TyOf K H (.ref a) (.type "list")
 | tup {a : Addr} {xs : List V} (e : H a = some (.tup xs)) : TyOf K H (.ref a) (.type "tuple")
 | dK {a : Addr} {kvs : List (Key × V)} (e : H a = some (.dK kvs)) : TyOf K H (.ref a) (.type "dict")
 | dT {a : Addr} {kvs : List (List Key × V)} (e : H a = some (.dT kvs)) : TyOf K H (.ref a) (.type "dict")
 | ins {a C dx : Addr} {fs : List (Str × V)} (e : H a = some (.ins C dx fs)) (cl : Cls K C) (ha : PySem.W.findIn K (.ref C) "__class__" = some (some (.builtin "object.__class__")))
   (hn : PySem.W.specialIn K (.builtin "object.__class__") "__get__" = some (some (.builtin "getset_descriptor.__get__"))) (htk : PySem.W.takesIn K (.builtin "object.__class__") = some true)
   (hm : PySem.W.mroIn K C (.type "object") = some true) : TyOf K H (.ref a) (.ref C)
theorem zdb {x : V} {u t : Value} (I : Inv X pins σ H s) (rx : RelV x u) (ty : TyOf X.K H x t) (e : PySem.W.kitOne X.K t c = some b) (h : ∀ tk, Q (.bool b) { s with toks := tk }) :
  wpAny (model X.prog X.w) A (call (.builtin "isinstance") [u, c]) Q E s := by
 cases ty with
 | non => cases (show u = Value.none from rx); exact PySem.W.kia_one PySem.W.kitx_none I.kIn True.intro e (fun z => nomatch z) h
 | bl y => cases (show u = Value.bool y from rx); exact PySem.W.kia_one PySem.W.kitx_bool I.kIn True.intro e (fun z => nomatch z) h
 | int i => obtain ⟨t, q⟩ := (show ∃ t, u = Value.int i t from rx); cases q; exact PySem.W.kia_one PySem.W.kitx_int I.kIn True.intro e (fun z => nomatch z) h
 | str y => obtain ⟨t, q⟩ := (show ∃ t, u = Value.str y t from rx); cases q; exact PySem.W.kia_one PySem.W.kitx_str I.kIn True.intro e (fun z => nomatch z) h
 | flt y => obtain ⟨t, q⟩ := (show ∃ t, u = Value.float y t from rx); cases q; exact PySem.W.kia_one PySem.W.kitx_float I.kIn True.intro e (fun z => nomatch z) h
 | @lst a xs ea =>
  cases (show u = Value.ref a from rx)
  obtain ⟨_, _, n, _, h1⟩ := (show ObjOk X.prog X.w H s.heap a (.lst xs) from I.hok a _ ea)
  exact PySem.W.kia_one PySem.W.kitx_list I.kIn ⟨_, h1, rfl⟩ e (fun z => nomatch z) h
 | @frz a ob xs ea =>
  cases (show u = Value.ref a from rx)
  obtain ⟨_, _, _, n, _, h1⟩ := (show ObjOk X.prog X.w H s.heap a (.frz ob (.lst xs)) from I.hok a _ ea)
  exact PySem.W.kia_one PySem.W.kitx_list I.kIn ⟨_, h1, rfl⟩ e (fun z => nomatch z) h
 | @tup a xs ea =>
  cases (show u = Value.ref a from rx)
  obtain ⟨_, _, _, p⟩ := (show ObjOk X.prog X.w H s.heap a (.tup xs) from I.hok a _ ea)
  obtain ⟨o, h1, h2, _⟩ := p
  exact PySem.W.kia_one PySem.W.kitx_tuple I.kIn ⟨o, h1, h2⟩ e (fun z => nomatch z) h
 | @dK a kvs ea =>
  cases (show u = Value.ref a from rx)
  obtain ⟨_, _, vs, _, p⟩ := (show ObjOk X.prog X.w H s.heap a (.dK kvs) from I.hok a _ ea)
  obtain ⟨o, es, ep, h1, h2, _⟩ := p
  exact PySem.W.kia_one PySem.W.kitx_dict I.kIn ⟨o, h1, h2.1⟩ e (fun z => nomatch z) h
 | @dT a kvs ea =>
  cases (show u = Value.ref a from rx)
  obtain ⟨_, _, xs, _, o, es, ep, h1, h2, _⟩ := (show ObjOk X.prog X.w H s.heap a (.dT kvs) from I.hok a _ ea)
  exact PySem.W.kia_one PySem.W.kitx_dict I.kIn ⟨o, h1, h2.1⟩ e (fun z => nomatch z) h
 | @ins a C dx fs ea cl ha hn htk hm =>
  cases (show u = Value.ref a from rx)
  obtain ⟨mA, O, _⟩ := z4x I.hok ea
  obtain ⟨od, J, _⟩ := O.look
  exact PySem.W.kia_one (PySem.W.kitx_own (cl.get _) cl.hd ha hn htk hm) I.kIn J e (fun z => nomatch z) h
end
end L2
namespace L2
open PySem PySem.Spec PyProof.Rows
structure Room (k : Nat) (A : Around) : Prop where
 hd : A.handled = none
 dp : A.depth + 3 * k + 5 < recursionLimit
 un : A.units + 16 * k + 200 < cLine
theorem Room.mono {j k : Nat} {A : Around} (r : Room k A) (h : j ≤ k) : Room j A := ⟨r.hd, by have := r.dp; omega, by have := r.un; omega⟩
theorem Room.deeper {k : Nat} {A : Around} (r : Room (k + 1) A) (env : Env) : Room k (A.deeper env) :=
 ⟨r.hd, by have := r.dp; show A.depth + 1 + 3 * k + 5 < _; omega, by have := r.un; show A.units + 3 + 16 * k + 200 < _; omega⟩
theorem Room.in1 {k : Nat} {A : Around} (r : Room (k + 1) A) : Room k A.in1 :=
 ⟨r.hd, by have := r.dp; show A.depth + 3 * k + 5 < _; omega, by have := r.un; show A.units + 1 + 16 * k + 200 < _; omega⟩
theorem zc9 {A : Around} {C : Addr} {us : List Value} {kw : List (Str × Value)} : (A.under (.builtin "type.__call__" ⟨.ref C :: us, kw⟩)).depth = A.depth + 1 := by
 first | rfl | simp [Around.under, Code.weight, Code.isCreation, Code.isGuard, Code.isCaller, Code.frames, Code.isFrame, guardIds]
theorem zca {A : Around} {C : Addr} {us : List Value} {kw : List (Str × Value)} : (A.under (.builtin "type.__call__" ⟨.ref C :: us, kw⟩)).units = A.units + 1 := by
 first | rfl | simp [Around.under, Code.cUnits, Code.frames, Code.isFrame]
theorem Room.make {k : Nat} {A : Around} (r : Room (k + 1) A) (C : Addr) (us : List Value) (kw : List (Str × Value)) : Room k (A.under (.builtin "type.__call__" ⟨.ref C :: us, kw⟩)) :=
 ⟨r.hd, by have := r.dp; rw [zc9]; omega, by have := r.un; rw [zca]; omega⟩
theorem Room.depth {k : Nat} {A : Around} (r : Room k A) : A.depth < recursionLimit := by have := r.dp; omega
theorem Room.units {k : Nat} {A : Around} (r : Room k A) : A.units + 64 < cLine := by have := r.un; omega
theorem Room.units0 {k : Nat} {A : Around} (r : Room k A) : A.units < cLine := by have := r.un; omega
def tNil : TA := fun _ H Q => Q [] H
def zcb (ta : TE) (tr : TA) : TA := fun σ H Q => ta σ H fun x H1 => tr σ H1 fun xs H2 => Q (x :: xs) H2
section
variable {X : Cx} {e : Expr} {es : List Expr} {te : TE} {t : TA} {pos : Pos}
theorem z7 : PA X [] tNil := fun _ _ _ _ H Q I h => Calls.spliced_nil ⟨[], H, I, .nil, h⟩
theorem z0 (ha : PE X e te) (hr : PA X es t) (hs : starEach (e :: es) X.env = (false, eval e X.env) :: starEach es X.env := by rfl) : PA X (e :: es) (zcb te t) := by
 intro pos pins s σ H Q I h
 rw [hs]
 show wpAny _ _ (spliced ((false, eval e X.env) :: backTo pos (starEach es X.env))) _ _ s
 refine Calls.spliced_cons (thn (ha pins s σ H _ I h) fun u s1 ⟨x, H1, I1, r1, q1⟩ => ?_)
 exact thn (hr pos pins s1 σ H1 _ I1 q1) fun us s2 ⟨xs, H2, I2, r2, q2⟩ => ⟨x :: xs, H2, I2, .cons r1 r2, q2⟩
def tTup (t : TA) : TE := fun σ H Q => t σ H fun xs H1 => xs.length ≤ sizeLine ∧ ∀ p, H1 p = none → Q (.ref p) (upd H1 p (.tup xs))
def tLst (t : TA) : TE := fun σ H Q => t σ H fun xs H1 => xs.length ≤ sizeLine ∧ ∀ p, H1 p = none → Q (.ref p) (upd H1 p (.lst xs))
theorem z1q {x1} (h : PA X es t) : PE X (.Tuple es x1 pos) (tTup t) := by
 intro pins s σ H Q I hq
 refine wpAny_Tuple_spliced (thn (h pos pins s σ H _ I hq) fun us s1 ⟨xs, H1, I1, r, z, q⟩ => ⟨by rw [← r.length]; exact z, ?_⟩)
 have hf : H1 s1.heap.objs.size = none := I1.hok.fresh (Nat.le_refl _)
 refine ⟨.ref s1.heap.objs.size, upd H1 s1.heap.objs.size (.tup xs), I1.laid (t' := s1.toks) (fun b u e => Heap.get?_push_of_some _ e) (Nat.le_refl _) ?_, rfl, q _ hf⟩
 exact ⟨z, us, r, ⟨_, Heap.get?_push_size _ rfl, rfl, _, rfl⟩⟩
theorem z22 (h : PA X es t) : PE X (.List es pos) (tLst t) := by
 intro pins s σ H Q I hq
 refine wpAny_List_spliced (thn (h pos pins s σ H _ I hq) fun us s1 ⟨xs, H1, I1, r, z, q⟩ => ⟨by rw [← r.length]; exact z, ?_⟩)
 have hf : H1 s1.heap.objs.size = none := I1.hok.fresh (Nat.le_refl _)
 refine ⟨.ref s1.heap.objs.size, upd H1 s1.heap.objs.size (.lst xs), I1.laid (t' := s1.toks) (fun b u e => Heap.get?_push_of_some _ e) (Nat.le_refl _) ?_, rfl, q _ hf⟩
 exact ⟨z, us, 0, r, Heap.get?_push_size _ rfl⟩
end
abbrev Sp := List V → Hp → VK → XK → Prop
abbrev CXT := List Env → Hp → Shared → XK → Value → Shared → Prop
structure Env0 (P : Program) (w : World) (K : PySem.W.Frag) (mg : Str → Option Value) (base : Heap) (A : Around) (outer : List Env) (s : Shared) (H : Hp) : Prop where
 frames : A.frames = some outer
 mod : Mod K mg base
 bs : ∀ b o, base.get? b = some o → s.heap.get? b = some o ∧ H b = none
 bsz : base.objs.size ≤ s.heap.objs.size
 funs : s.heap.FunFrames base outer
 frf : ∀ b ∈ frs outer, H b = none
 hok : HOk P w H s.heap
 bare : AllBare s.gens
def CE (outer : List Env) (P : Program) (w : World) (H : Hp) (s : Shared) (Q : VK) (u : Value) (s' : Shared) : Prop :=
 ∃ v H', s'.os = s.os ∧ AllBare s'.gens ∧ Un (frs outer) [] H H' s.heap s'.heap ∧ HOk P w H' s'.heap ∧ RelV v u ∧ Q v H'
def CR (CX : CXT) (outer : List Env) (P : Program) (w : World) (H : Hp) (s : Shared) (Q : VK) (E : XK) (r : Result) (s' : Shared) : Prop :=
 match r with
 | .ok (.ret u) => CE outer P w H s Q u s'
 | .ok _ => False
 | .error e => CX outer H s E e s'
structure FnOk (P : Program) (w : World) (K : PySem.W.Frag) (mg : Str → Option Value) (base : Heap) (CX : CXT) (k : Nat) (f : Addr) (fd : FuncData) (ps : List Str) (sp : Sp) : Prop where
 len : ∀ vs H Q E, sp vs H Q E → vs.length = ps.length
 run : ∀ (A : Around) (outer : List Env) (s : Shared) (H : Hp) (args : Args) (us : List Value) (vs : List V) (Q : VK) (E : XK), Room k A → Env0 P w K mg base A outer s H → BindsTo s fd args (ps.zip us) → Vals vs us → sp vs H Q E →
  codeAny (model P w) A (.call (.ref f) args) (CR CX outer P w H s Q E) s
theorem FnOk.mono {P : Program} {w : World} {K : PySem.W.Frag} {mg : Str → Option Value} {base : Heap} {CX : CXT} {j k : Nat} {f : Addr} {fd : FuncData} {ps : List Str} {sp : Sp} (F : FnOk P w K mg base CX j f fd ps sp) (h : j ≤ k) :
  FnOk P w K mg base CX k f fd ps sp := ⟨F.len, fun A outer s H args us vs Q E hr => F.run A outer s H args us vs Q E (hr.mono h)⟩
theorem FnOk.imp {P : Program} {w : World} {K : PySem.W.Frag} {mg : Str → Option Value} {base : Heap} {CX : CXT} {k : Nat} {f : Addr} {fd : FuncData} {ps : List Str} {sp sp' : Sp} (F : FnOk P w K mg base CX k f fd ps sp)
  (h : ∀ vs H Q E, sp' vs H Q E → sp vs H Q E) : FnOk P w K mg base CX k f fd ps sp' :=
 ⟨fun vs H Q E q => F.len vs H Q E (h _ _ _ _ q), fun A outer s H args us vs Q E hr he hb hv hs => F.run A outer s H args us vs Q E hr he hb hv (h _ _ _ _ hs)⟩
theorem Env0.make {P : Program} {w : World} {K : PySem.W.Frag} {mg : Str → Option Value} {base : Heap} {A : Around} {outer : List Env} {s : Shared} {H : Hp} (e : Env0 P w K mg base A outer s H) (C : Addr) (us : List Value) (kw : List (Str × Value)) :
  Env0 P w K mg base (A.under (.builtin "type.__call__" ⟨.ref C :: us, kw⟩)) outer s H := ⟨by first | exact e.frames | (simpa [Around.under, Code.envs, Code.isFrame, pushEnvs] using e.frames), e.mod, e.bs, e.bsz, e.funs, e.frf, e.hok, e.bare⟩
theorem Env0.in1 {P : Program} {w : World} {K : PySem.W.Frag} {mg : Str → Option Value} {base : Heap} {A : Around} {outer : List Env} {s : Shared} {H : Hp} (e : Env0 P w K mg base A outer s H) :
  Env0 P w K mg base A.in1 outer s H := ⟨e.frames, e.mod, e.bs, e.bsz, e.funs, e.frf, e.hok, e.bare⟩
section
variable {X : Cx} {pins : List (Addr × Obj)} {σ : St} {H : Hp} {s s' : Shared}
theorem Inv.env0 (I : Inv X pins σ H s) : Env0 X.prog X.w X.K X.mg X.base X.A X.stack s H :=
 ⟨I.ok.frames, I.ok.mod, I.bs, Nat.le_trans I.ok.bsz I.sz, I.stack, I.stkFree, I.hok, I.bare⟩
theorem Inv.after {Q : VK} {u : Value} (I : Inv X pins σ H s) (h : CE X.stack X.prog X.w H s Q u s') : EP X pins σ Q u s' := by
 obtain ⟨v, H', os, bare, un, hok, r, q⟩ := h
 obtain ⟨hh, g, d, t, os'⟩ := s'
 obtain rfl : os' = s.os := os
 exact ⟨v, H', I.call (h' := hh) (g' := g) (d' := d) (t' := t) (ch := []) un hok bare (fun b z => absurd z (by simp)), r, q⟩
end
def zcc (sp : Sp) (dvs : List V) (E : XK) (t : TA) : TE := fun σ H Q => t σ H fun vs H1 => sp (vs ++ dvs) H1 Q E
def z6e (C : Addr) (m : Str) (sp : Sp) (dvs : List V) (E : XK) (ta : TE) (t : TA) : TE := fun σ H Q => ta σ H fun x H1 => ∃ a dx fs, x = .ref a ∧ H1 a = some (.ins C dx fs) ∧ fs.lookup m = none ∧
 t σ H1 fun vs H2 => sp (x :: (vs ++ dvs)) H2 Q E
def z7k (C : Addr) (sp : Sp) (dvs : List V) (E : XK) (t : TA) : TE := fun σ H Q => t σ H fun vs H1 => ∀ x dx, H1 x = none → H1 dx = none → dx ≠ x →
 sp (.ref x :: (vs ++ dvs)) (upd (upd H1 dx (.own x)) x (.ins C dx [])) (fun v H2 => v = .non ∧ Q (.ref x) H2) E
def Binds (K : PySem.W.Frag) (fd : FuncData) (ps : List Str) (ds : List Value) : Prop :=
 ∀ (s : Shared) (us : List Value), K.In s.heap → (us ++ ds).length = ps.length → BindsTo s fd ⟨us, []⟩ (ps.zip (us ++ ds))
theorem Binds.all {K : PySem.W.Frag} {fd : FuncData} {ps : List Str} (h : ∀ us : List Value, us.length = ps.length → bindArgs fd ⟨us, []⟩ = pure (ps.zip us)) : Binds K fd ps [] := fun s us _ hl => by
 rw [List.append_nil] at hl ⊢
 exact .of_eq (h us hl)
def z2y (CX : CXT) (X : Cx) (E : XK) : Prop := ∀ (pins : List (Addr × Obj)) (σ : St) (H : Hp) (s : Shared) (e : Value) (s' : Shared), Inv X pins σ H s → CX X.stack H s E e s' → X.xe e s'
section
variable {X : Cx} {CX : CXT} {k : Nat} {f C : Addr} {fd : FuncData} {ps : List Str} {sp : Sp} {dvs : List V} {ds : List Value} {E : XK} {x m : Str} {p pos apos : Pos} {e o : Expr} {es : List Expr} {ta : TE} {t : TA}
theorem za9 {pins : List (Addr × Obj)} {σ : St} {H : Hp} {s : Shared} {Q : VK} {us : List Value} {vs : List V} (F : FnOk X.prog X.w X.K X.mg X.base CX k f fd ps sp) (hr : Room k X.A) (hb : Binds X.K fd ps ds) (hd : Vals dvs ds) (hx : z2y CX X E)
  (I : Inv X pins σ H s) (r : Vals vs us) (h : sp (vs ++ dvs) H Q E) : wpAny (model X.prog X.w) X.A (call (.ref f) us) (EP X pins σ Q) X.xe s := by
 have r2 : Vals (vs ++ dvs) (us ++ ds) := r.append hd
 have hl : (us ++ ds).length = ps.length := by rw [← r2.length]; exact F.len _ _ _ _ h
 refine wpAny_call (codeAny_mono (F.run X.A X.stack s H ⟨us, []⟩ (us ++ ds) (vs ++ dvs) Q E hr I.env0 (hb s us I.kIn hl) r2 h) fun r s' hq => ?_)
 cases r with
 | error e => exact hx pins σ H s e s' I hq
 | ok fl =>
  cases fl with
  | ret u => exact I.after hq
  | next => exact False.elim hq
  | brk => exact False.elim hq
  | cont => exact False.elim hq
theorem zg4 (F : FnOk X.prog X.w X.K X.mg X.base CX k f fd ps sp) (hr : Room k X.A) (hg : Gl X x) (hm : X.mg x = some (.ref f)) (hk : PySem.W.keepIn X.K (.ref f) = true) (hb : Binds X.K fd ps ds) (hd : Vals dvs ds) (hx : z2y CX X E)
  (ha : PA X (e :: es) t) (hdb : (x == ("__debug__" : Str)) = false := by decide) (he : starEach (e :: es) X.env = (false, eval e X.env) :: starEach es X.env := by rfl) (hpl : (backTo pos (starEach es X.env)).any (·.1) = false := by rfl) :
  PE X (.Call (.Name x p) (e :: es) [] pos) (zcc sp dvs E t) := by
 intro pins s σ H Q I h
 refine wpAny_Call_Name_kw (z4u I hg hm ?_ hdb)
 refine PySem.W.callWith_K (h₀ := X.base) I.ok.mod.kin hk (thn (ha pos pins s σ H _ I h) fun us s1 ⟨vs, H1, I1, r, q⟩ => ⟨I1.kIn, ?_⟩) he hpl
 exact za9 F hr hb hd hx I1 r q
theorem zbj {pl : Sem Bool} (he : PE X o ta) (c : Cls X.K C) (hm : Meth X.K C m f) (F : FnOk X.prog X.w X.K X.mg X.base CX k f fd ps sp) (hr : Room k X.A) (hb : Binds X.K fd ps ds) (hd : Vals dvs ds) (hx : z2y CX X E) (ha : PA X (e :: es) t)
  (hst : starEach (e :: es) X.env = (false, eval e X.env) :: starEach es X.env := by rfl) (hpl : (backTo pos (starEach es X.env)).any (·.1) = false := by rfl)
  (ht : eval (.Call (.Attribute o m apos) (e :: es) [] pos) X.env = (do
   let ov ← eval o X.env
   standAt apos.atName
   let (f, first) ← holding [ov] (getMethod ov m pl)
   callWith pos f first (backTo pos (starEach (e :: es) X.env)) (backToKw pos (keywordEach [] X.env))) := by rfl) :
  PE X (.Call (.Attribute o m apos) (e :: es) [] pos) (z6e C m sp dvs E ta t) := by
 intro pins s σ H Q I h
 refine PySem.W.methodCall_KW (pl := pl) (thn (he pins s σ H _ I h) fun u s1 ⟨x, H1, I1, rx, a, dx, fs, ex, ea, l, q⟩ => ?_) ht
 subst ex
 obtain rfl : u = Value.ref a := rx
 refine z57 I1 ea c hm l ?_
 refine PySem.W.callWith_K (first := [.ref a]) (h₀ := X.base) I.ok.mod.kin hm.kp (thn (ha pos pins s1 σ H1 _ I1 q) fun us s2 ⟨vs, H2, I2, r, q2⟩ => ⟨I2.kIn, ?_⟩) hst hpl
 exact za9 (us := .ref a :: us) (vs := .ref a :: vs) F hr hb hd hx I2 (.cons rfl r) q2
theorem zeq {pl : Sem Bool} (he : PE X o ta) (c : Cls X.K C) (hm : Meth X.K C m f) (F : FnOk X.prog X.w X.K X.mg X.base CX k f fd ps sp) (hr : Room k X.A) (hb : Binds X.K fd ps ds) (hd : Vals dvs ds) (hx : z2y CX X E)
  (ht : eval (.Call (.Attribute o m apos) [] [] pos) X.env = (do
   let ov ← eval o X.env
   standAt apos.atName
   let (f, first) ← holding [ov] (getMethod ov m pl)
   callWith pos f first (backTo pos (starEach [] X.env)) (backToKw pos (keywordEach [] X.env))) := by rfl) :
  PE X (.Call (.Attribute o m apos) [] [] pos) (z6e C m sp dvs E ta tNil) := by
 intro pins s σ H Q I h
 refine PySem.W.methodCall_KW (pl := pl) (thn (he pins s σ H _ I h) fun u s1 ⟨x, H1, I1, rx, a, dx, fs, ex, ea, l, q⟩ => ?_) ht
 subst ex
 obtain rfl : u = Value.ref a := rx
 refine z57 I1 ea c hm l ?_
 exact PySem.W.callWith_K0 (first := [.ref a]) I1.kIn hm.kp (za9 (us := [.ref a]) (vs := [.ref a]) F hr hb hd hx I1 (.cons rfl .nil) q)
structure Mk (K : PySem.W.Frag) (C f : Addr) : Prop where
 makes : PySem.W.makesIn K C = true
 init : PySem.W.findIn K (.ref C) "__init__" = some (some (.ref f))
 fn : PySem.W.isFn K (.ref f) = true
 kp : PySem.W.keepIn K (.ref C) = true
theorem zaa {pins : List (Addr × Obj)} {σ : St} {H : Hp} {s : Shared} {Q : VK} {us : List Value} {vs : List V} (M : Mk X.K C f) (F : FnOk X.prog X.w X.K X.mg X.base CX k f fd ps sp) (hr : Room (k + 1) X.A) (hb : Binds X.K fd ps ds) (hd : Vals dvs ds)
  (hx : z2y CX X E) (I : Inv X pins σ H s) (r : Vals vs us)
  (h : ∀ x dx, H x = none → H dx = none → dx ≠ x → sp (.ref x :: (vs ++ dvs)) (upd (upd H dx (.own x)) x (.ins C dx [])) (fun v H2 => v = .non ∧ Q (.ref x) H2) E) :
  wpAny (model X.prog X.w) X.A (call (.ref C) us) (EP X pins σ Q) X.xe s := by
 have hq := h (s.heap.objs.size + 1) s.heap.objs.size (I.hok.fresh (Nat.le_succ _)) (I.hok.fresh (Nat.le_refl _)) (Nat.ne_of_lt (Nat.lt_succ_self _))
 have I2 := Inv.made (C := C) I
 have r2 : Vals (V.ref (s.heap.objs.size + 1) :: (vs ++ dvs)) (Value.ref (s.heap.objs.size + 1) :: (us ++ ds)) := .cons rfl (r.append hd)
 have hl : (Value.ref (s.heap.objs.size + 1) :: us ++ ds).length = ps.length := by
  have e := r2.length
  rw [F.len _ _ _ _ hq] at e
  exact e.symm
 refine wpAny_call (zep (f := f) I.kIn M.makes M.init (beq_iff_eq.mp M.fn) (codeAny_mono (F.run _ X.stack _ _ ⟨Value.ref (s.heap.objs.size + 1) :: us, []⟩ (Value.ref (s.heap.objs.size + 1) :: (us ++ ds)) _ _ E (hr.make C us [])
  (I2.env0.make C us []) (hb _ (Value.ref (s.heap.objs.size + 1) :: us) I2.kIn hl) r2 hq) fun r s' hq' => ?_))
 cases r with
 | error e => exact hx pins σ _ _ e s' I2 hq'
 | ok fl =>
  cases fl with
  | ret u =>
   obtain ⟨v, H', I3, rv, ev, q3⟩ := I2.after hq'
   subst ev
   exact ⟨rv, ⟨V.ref (s.heap.objs.size + 1), H', I3, rfl, q3⟩⟩
  | next => exact False.elim hq'
  | brk => exact False.elim hq'
  | cont => exact False.elim hq'
theorem zg5 (M : Mk X.K C f) (F : FnOk X.prog X.w X.K X.mg X.base CX k f fd ps sp) (hr : Room (k + 1) X.A) (hg : Gl X x) (hm : X.mg x = some (.ref C)) (hb : Binds X.K fd ps ds) (hd : Vals dvs ds) (hx : z2y CX X E)
  (ha : PA X (e :: es) t) (hdb : (x == ("__debug__" : Str)) = false := by decide) (he : starEach (e :: es) X.env = (false, eval e X.env) :: starEach es X.env := by rfl) (hpl : (backTo pos (starEach es X.env)).any (·.1) = false := by rfl) :
  PE X (.Call (.Name x p) (e :: es) [] pos) (z7k C sp dvs E t) := by
 intro pins s σ H Q I h
 refine wpAny_Call_Name_kw (z4u I hg hm ?_ hdb)
 refine PySem.W.callWith_K (h₀ := X.base) I.ok.mod.kin M.kp (thn (ha pos pins s σ H _ I h) fun us s1 ⟨vs, H1, I1, r, q⟩ => ⟨I1.kIn, ?_⟩) he hpl
 exact zaa M F hr hb hd hx I1 r q
theorem zer (M : Mk X.K C f) (F : FnOk X.prog X.w X.K X.mg X.base CX k f fd ps sp) (hr : Room (k + 1) X.A) (hg : Gl X x) (hm : X.mg x = some (.ref C)) (hb : Binds X.K fd ps ds) (hd : Vals dvs ds) (hx : z2y CX X E)
  (hdb : (x == ("__debug__" : Str)) = false := by decide) : PE X (.Call (.Name x p) [] [] pos) (z7k C sp dvs E tNil) := by
 intro pins s σ H Q I h
 refine wpAny_Call_Name_kw (z4u I hg hm ?_ hdb)
 exact PySem.W.callWith_K0 I.kIn M.kp (zaa (us := []) M F hr hb hd hx I .nil h)
end
def PK (X : Cx) (kws : List Keyword) (t : TA) : Prop :=
 ∀ (pos : Pos) (pins : List (Addr × Obj)) (s : Shared) (σ : St) (H : Hp) (Q : List V → Hp → Prop), Inv X pins σ H s → t σ H Q → wpAny (model X.prog X.w) X.A (evalAll ((backToKw pos (keywordEach kws X.env)).map (·.2))) (AP X pins σ Q) X.xe s
section
variable {X : Cx} {CX : CXT} {k : Nat} {f C : Addr} {fd : FuncData} {ps ks : List Str} {sp : Sp} {E : XK} {x m : Str} {p pos apos kpos : Pos} {e o : Expr} {es : List Expr} {kws : List Keyword} {te ta : TE} {t tk : TA} {nm : Option Str}
theorem zgx : PK X [] tNil := fun _ _ _ _ H Q I h => wpAny_evalAll_nil ⟨[], H, I, .nil, h⟩
theorem zg6 (ha : PE X e te) (hr : PK X kws t) : PK X (⟨nm, e, kpos⟩ :: kws) (zcb te t) := by
 intro pos pins s σ H Q I h
 show wpAny _ _ (evalAll ((do let v ← eval e X.env; standAt pos; pure v) :: (backToKw pos (keywordEach kws X.env)).map (·.2))) _ _ s
 refine wpAny_evalAll_cons (wpAny_bind (thn (ha pins s σ H _ I h) fun u s1 ⟨x, H1, I1, r1, q1⟩ => wpAny_bind (wpAny_standAt (wpAny_pure ?_))))
 exact thn (hr pos pins s1 σ H1 _ I1 q1) fun us s2 ⟨xs, H2, I2, r2, q2⟩ => ⟨x :: xs, H2, I2, .cons r1 r2, q2⟩
structure KBinds (K : PySem.W.Frag) (fd : FuncData) (ps ks : List Str) (g : List Value → List Value → List Value) (gV : List V → List V → List V) : Prop where
 to : ∀ (s : Shared) (us ws : List Value), K.In s.heap → (g us ws).length = ps.length → BindsTo s fd ⟨us, ks.zip ws⟩ (ps.zip (g us ws))
 rel : ∀ {vs : List V} {us : List Value} {zs : List V} {ws : List Value}, Vals vs us → Vals zs ws → Vals (gV vs zs) (g us ws)
variable {g : List Value → List Value → List Value} {gV : List V → List V → List V}
end
structure FnScope (N P : List Str) (sc : Scope) : Prop where
 kind : sc.kind = .function
 co : sc.isCoroutine = false
 gen : sc.isGenerator = false
 nd : N.Nodup
 pre : N.take P.length = P
 par : ∀ x ∈ P, sc.names.lookup x = some .local ∨ sc.names.lookup x = some .cell
 nofree : ∀ y ∈ sc.names, y.2 ≠ .free
theorem z90 {kindOf : Str → Option NameKind} {x : Str} : ∀ {binds : List (Str × Value)} {m : Str → Option Value}, (∀ v, (x, v) ∉ binds) → bindL kindOf binds m x = m x
 | [], _, _ => rfl
 | (n, v) :: r, m, h => by
  unfold bindL
  rw [z90 fun w hw => h w (List.mem_cons_of_mem _ hw)]
  split
  ·have : x ≠ n := by rintro rfl; exact h v List.mem_cons_self
   simp [this]
  ·rfl
theorem z91 {kindOf : Str → Option NameKind} {x : Str} : ∀ {binds : List (Str × Value)} {m : Str → Option Value}, (∀ v, (x, v) ∉ binds) → bindC kindOf binds m x = m x
 | [], _, _ => rfl
 | (n, v) :: r, m, h => by
  unfold bindC
  rw [z91 fun w hw => h w (List.mem_cons_of_mem _ hw)]
  split
  ·rfl
  ·have : x ≠ n := by rintro rfl; exact h v List.mem_cons_self
   simp [this]
theorem z92 {kindOf : Str → Option NameKind} {x : Str} {v : Value} : ∀ {P : List Str} {vs : List Value} {i : Nat} {m : Str → Option Value}, P.Nodup → P[i]? = some x → vs[i]? = some v → kindOf x = some .local →
  bindL kindOf (P.zip vs) m x = some v
 | [], _, _, _, _, h, _, _ => by simp at h
 | _ :: _, [], _, _, _, _, h, _ => by simp at h
 | p :: P, w :: vs, 0, m, nd, h1, h2, hk => by
  simp at h1 h2; subst h1; subst h2
  show bindL kindOf ((p, w) :: P.zip vs) m p = _
  unfold bindL
  rw [z90 fun v hv => (List.nodup_cons.mp nd).1 (List.of_mem_zip hv).1, if_pos hk]
  simp
 | p :: P, w :: vs, i + 1, m, nd, h1, h2, hk => by
  show bindL kindOf ((p, w) :: P.zip vs) m x = _
  unfold bindL
  exact z92 (i := i) (List.nodup_cons.mp nd).2 (by simpa using h1) (by simpa using h2) hk
theorem z93 {kindOf : Str → Option NameKind} {x : Str} {v : Value} : ∀ {P : List Str} {vs : List Value} {i : Nat} {m : Str → Option Value}, P.Nodup → P[i]? = some x → vs[i]? = some v → kindOf x ≠ some .local →
  bindC kindOf (P.zip vs) m x = some v
 | [], _, _, _, _, h, _, _ => by simp at h
 | _ :: _, [], _, _, _, _, h, _ => by simp at h
 | p :: P, w :: vs, 0, m, nd, h1, h2, hk => by
  simp at h1 h2; subst h1; subst h2
  show bindC kindOf ((p, w) :: P.zip vs) m p = _
  unfold bindC
  rw [z91 fun v hv => (List.nodup_cons.mp nd).1 (List.of_mem_zip hv).1, if_neg hk]
  simp
 | p :: P, w :: vs, i + 1, m, nd, h1, h2, hk => by
  show bindC kindOf ((p, w) :: P.zip vs) m x = _
  unfold bindC
  exact z93 (i := i) (List.nodup_cons.mp nd).2 (by simpa using h1) (by simpa using h2) hk
def start (N : List Str) (vs : List V) : St := vs.map some ++ List.replicate (N.length - vs.length) none
def cxOf (CX : CXT) (P : Program) (w : World) (K : PySem.W.Frag) (mg : Str → Option Value) (base : Heap) (N : List Str) (qual : Str) (scope : Scope) (f : Addr) (cd : Value) (A : Around) (outer : List Env) (s : Shared) (H : Hp) (E : XK) : Cx where
 prog := P
 w := w
 K := K
 mg := mg
 base := base
 A := A.deeper (envOfC qual scope s.heap.objs.size f cd)
 N := N
 s₀ := s
 H₀ := H
 env := envOfC qual scope s.heap.objs.size f cd
 outer := outer
 stack := envOfC qual scope s.heap.objs.size f cd :: outer
 ex := []
 calm := true
 fn := fun _ => true
 pn := []
 xe := fun e s' => wpAny (model P w) (A.deeper (envOfC qual scope s.heap.objs.size f cd)) (leaving (envOfC qual scope s.heap.objs.size f cd) e) (fun _ s'' => CX outer H s E e s'') (fun e' s'' => CX outer H s E e' s'') s'
theorem zab {sc : Scope} {n : Nat} {x : Str} (h : sc.names.lookup x = some .cell) : ∃ c, (cellsFrom n sc.names []).lookup x = some c := by
 have q := PySem.W.cellsFrom_some sc.names n [] (.inl h)
 exact Option.isSome_iff_exists.mp q
theorem zdc {CX : CXT} {P : Program} {w : World} {K : PySem.W.Frag} {mg : Str → Option Value} {base : Heap} {N ps : List Str} {qual : Str} {scope : Scope} {f : Addr} {cd : Value} {A : Around} {outer : List Env} {s s1 : Shared} {H : Hp} {E : XK} {us : List Value} {vs : List V}
  (S : FnScope N ps scope) (hd : A.handled = none) (e0 : Env0 P w K mg base A outer s H) (hl : vs.length = ps.length) (r : Vals vs us)
  (x : InCallC s s.heap.objs.size (bindL (envOfC qual scope s.heap.objs.size f cd).kindOf (ps.zip us) fun _ => none) (cellsFrom (s.heap.objs.size + 1) scope.names []) (bindC (envOfC qual scope s.heap.objs.size f cd).kindOf (ps.zip us) fun _ => none) s1) :
  Inv (cxOf CX P w K mg base N qual scope f cd A outer s H E) [] (start N vs) H s1 := by
 have hpl : ps.length ≤ N.length := by have := congrArg List.length S.pre; rw [List.length_take] at this; omega
 obtain ⟨h1, tk, rfl, hk⟩ := x.done
 have noA : ∀ b : Addr, b ∉ (cxOf CX P w K mg base N qual scope f cd A outer s H E).ex := fun b z => absurd (show b ∈ ([] : List Addr) from z) (by simp)
 refine ⟨⟨e0.mod, S.kind, rfl, rfl, Nat.le_refl _, fun y z c h1 h2 => ?_, fun y hy => ?_, fun y c _ h => ?_, fun _ => hd, Around.frames_deeper e0.frames, .inr ⟨rfl, rfl⟩, fun b z => absurd z (noA b), e0.bs, e0.bsz, fun b _ _ => noA b, fun b z => absurd z (noA b), e0.funs, e0.frf⟩,
  rfl, e0.bare, Un.kept hk, ⟨_, x.toInCall.ns, fun i y v h1 h2 h3 => ?_⟩, fun y c h => ⟨_, x.cell y c h⟩, e0.hok.fresh (Nat.le_refl _), fun y c h => ?_, fun p hp => absurd (show p ∈ ([] : List (Addr × Obj)) from hp) (by simp), e0.hok.kept hk, ?_⟩
 ·exact name_of_addr x.apart (PySem.mem_of_lookup h1) (PySem.mem_of_lookup h2)
 ·have hy : scope.names.lookup y = some .cell ∨ scope.names.lookup y = some .free := hy
  rcases hy with hy | hy
  ·exact zab hy
  ·exact absurd rfl (S.nofree _ (PySem.mem_of_lookup hy))
 ·exact Nat.le_of_lt (x.above y c (PySem.mem_of_lookup h))
 ·have hi : i < vs.length := by
   unfold start at h2
   by_cases hi : i < vs.length
   ·exact hi
   ·rw [List.getElem?_append_right (by simpa using hi)] at h2
    rw [List.getElem?_replicate] at h2
    split at h2 <;> cases h2
  have ha : vs[i]? = some v := by
   unfold start at h2
   rw [List.getElem?_append_left (by simpa using hi), List.getElem?_map] at h2
   cases e : vs[i]? with
   | none => rw [e] at h2; cases h2
   | some a => rw [e] at h2; cases h2; rfl
  obtain ⟨u, hu, rv⟩ := r.get ha
  have hp : ps[i]? = some y := by
   rw [← S.pre, List.getElem?_take_of_lt (by omega)]; exact h1
  have ndP : ps.Nodup := by rw [← S.pre]; exact S.nd.sublist (List.take_sublist _ _)
  refine ⟨u, rv, ?_⟩
  rcases S.par y (List.mem_of_getElem? hp) with k | k
  ·exact .inl ⟨k, z92 ndP hp hu k⟩
  ·obtain ⟨c, e⟩ := zab (n := s.heap.objs.size + 1) k
   refine .inr ⟨.inl k, c, e, ?_⟩
   have q := x.cell y c e
   rw [z93 ndP hp hu (by show scope.names.lookup y ≠ _; rw [k]; decide)] at q
   exact q
 ·exact e0.hok.fresh (Nat.le_of_lt (x.above y c (PySem.mem_of_lookup h)))
 ·unfold start
  show _ = N.length
  rw [List.length_append, List.length_map, List.length_replicate]
  omega
theorem zfs {CX : CXT} {P : Program} {w : World} {K : PySem.W.Frag} {mg : Str → Option Value} {base : Heap} {k : Nat} {f : Addr} {name qual : Str} {params : Arguments} {body : List Stmt} {scope : Scope} {dV kV doc pm cdv ct oc : Value} {an od : Option Addr}
  {osl : Array (Option Value)} {N ps : List Str} {sp : Sp} (lk : K.lookup f = some ⟨oc, od, .func (PySem.W.fnOf name qual params body scope dV kV doc pm an cdv ct), osl⟩) (hcd : PySem.W.codeIn K cdv qual = true) (S : FnScope N ps scope)
  (len : ∀ vs H Q E, sp vs H Q E → vs.length = ps.length)
  (hbody : ∀ (A : Around) (outer : List Env) (s : Shared) (H : Hp) (vs : List V) (Q : VK) (E : XK), Room k (A.deeper (envOfC qual scope s.heap.objs.size f cdv)) → sp vs H Q E →
   ∃ t, PSs (cxOf CX P w K mg base N qual scope f cdv A outer s H E) body t ∧ t { nx := fun _ H' => Q .non H', rt := Q } (start N vs) H) :
  FnOk P w K mg base CX (k + 1) f (PySem.W.fnOf name qual params body scope dV kV doc pm an cdv ct) ps sp := by
 refine ⟨len, fun A outer s H args us vs Q E hr e0 hb r hsp => ?_⟩
 have hl := len _ _ _ _ hsp
 have KX : K.In s.heap := e0.mod.kin.keeps fun b o e => (e0.bs b o e).1
 have lim : s.heap.NoLimit := e0.mod.nolimit.keeps fun b o e => (e0.bs b o e).1
 have hkind : ∀ y ∈ ps.zip us, scope.names.lookup y.1 = some .local ∨ (scope.names.lookup y.1 = some .cell ∧ ((cellsFrom (s.heap.objs.size + 1) scope.names []).lookup y.1).isSome = true) := fun ⟨n, v⟩ hy => by
  rcases S.par n (List.of_mem_zip hy).1 with q | q
  ·exact .inl q
  ·exact .inr ⟨q, PySem.W.cellsFrom_some _ _ _ (.inl q)⟩
 refine codeAny_call_function hr.depth (KX _ _ lk) rfl S.co S.gen rfl (PySem.W.codeRec_of KX hcd) (hb _ _ _ _ ?_)
 refine wpAny_newFunctionEnv_cells S.kind hkind fun env he s1 x => ?_
 subst he
 refine ⟨lim.keeps x.toInCall.keep, codeAny_func ?_⟩
 obtain ⟨t, ht, hq⟩ := hbody A outer s H vs Q E (hr.deeper _) hsp
 have I : Inv (cxOf CX P w K mg base N qual scope f cdv A outer s H E) [] (start N vs) H s1 := zdc S hr.hd e0 hl r x
 refine wpAny_mono (ht [] s1 (start N vs) H _ I hq) (fun fl s' hs => ?_) fun e s' hs => hs
 have fin : ∀ {σ' : St} {H' : Hp} {v : V} {u : Value}, Inv (cxOf CX P w K mg base N qual scope f cdv A outer s H E) [] σ' H' s' → RelV v u → Q v H' → CE outer P w H s Q u s' :=
  fun {σ' H' v u} J rv q => ⟨v, H', J.os, J.bare, J.base, J.hok, rv, q⟩
 cases fl with
 | ret u =>
  obtain ⟨v, σ', H', J, rv, q⟩ := hs
  exact fin J rv q
 | next =>
  obtain ⟨σ', H', J, q⟩ := hs
  exact fin (v := V.non) (u := Value.none) J rfl q
 | brk =>
  obtain ⟨_, _, _, q⟩ := hs
  exact False.elim q
 | cont =>
  obtain ⟨_, _, _, q⟩ := hs
  exact False.elim q
end L2
namespace L2
open PySem PySem.Spec PyProof.Rows
section
variable {X : Cx} {x : Str} {p pos : Pos} {e : Expr} {es : List Expr} {t : TA} {id T : String} {r : List V → Hp → VK → Prop}
def tCB (r : List V → Hp → VK → Prop) (t : TA) : TE := fun σ H Q => t σ H fun vs H1 => r vs H1 Q
theorem zd (hc : CallR X (.builtin id) r) (hg : Gl X x) (hm : X.mg x = none) (hv : bootBuiltins x = some (.builtin id)) (ha : PA X (e :: es) t) (hn : x ≠ "__name__" := by decide) (hdb : (x == ("__debug__" : Str)) = false := by decide)
  (he : starEach (e :: es) X.env = (false, eval e X.env) :: starEach es X.env := by rfl) (hpl : (backTo pos (starEach es X.env)).any (·.1) = false := by rfl) : PE X (.Call (.Name x p) (e :: es) [] pos) (tCB r t) := by
 intro pins s σ H Q I h
 refine wpAny_Call_Name_kw (z4v I hg hm hv ?_ hn hdb)
 exact PyProof.Rows.callWith_builtin1 (thn (ha pos pins s σ H _ I h) fun us s1 ⟨vs, H1, I1, r1, q1⟩ => hc pins s1 σ H1 vs us Q I1 r1 q1) he hpl
theorem z94 (hc : CallR X (.type T) r) (hg : Gl X x) (hm : X.mg x = none) (hv : bootBuiltins x = some (.type T)) (ha : PA X (e :: es) t) (hn : x ≠ "__name__" := by decide) (hdb : (x == ("__debug__" : Str)) = false := by decide)
  (he : starEach (e :: es) X.env = (false, eval e X.env) :: starEach es X.env := by rfl) (hpl : (backTo pos (starEach es X.env)).any (·.1) = false := by rfl) : PE X (.Call (.Name x p) (e :: es) [] pos) (tCB r t) := by
 intro pins s σ H Q I h
 refine wpAny_Call_Name_kw (z4v I hg hm hv ?_ hn hdb)
 exact PyProof.Rows.callWith_type1 (thn (ha pos pins s σ H _ I h) fun us s1 ⟨vs, H1, I1, r1, q1⟩ => hc pins s1 σ H1 vs us Q I1 r1 q1) he hpl
end
end L2
namespace HT
open PySem PyProof.Rows
section
open PySem.SeqAt
open PySem.AutoSeq1 (wpAny_loadPart')
open PySem.MeetsSeq PySem.MeetsSeq2 PySem.MeetsSeq3
end
section
variable {prog : Program} {w : World} {A : Around} {E : Value → Shared → Prop} {s : Shared}
def sIx (n d : Nat) : Option Int → Nat
 | none => d
 | some v => if v < 0 then (v + (n : Int)).toNat else min v.toNat n
end
end HT
namespace L2
open PySem PySem.Spec PyProof.Rows
abbrev TO := St → Hp → (Option Int → Hp → Prop) → Prop
def PO (X : Cx) (e : Option Expr) (t : TO) : Prop :=
 ∀ (pins : List (Addr × Obj)) (s : Shared) (σ : St) (H : Hp) (Q : Option Int → Hp → Prop), Inv X pins σ H s → t σ H Q →
  wpAny (model X.prog X.w) X.A (evalPart e X.env) (fun u s' => ∃ o H', Inv X pins σ H' s' ∧ IsPart u o ∧ Q o H') X.xe s
def zbk : TO := fun _ H Q => Q none H
def zft (t : TE) : TO := fun σ H Q => t σ H fun x H1 => ∃ i, x = .int i ∧ Q (some i) H1
section
variable {X : Cx} {e : Expr} {te : TE} {lo hi : Option Expr} {tl th : TO} {pos p2 : Pos}
theorem z6f : PO X none zbk := by
 intro pins s σ H Q I h
 rw [evalPart_none]
 exact wpAny_pure ⟨none, H, I, .none, h⟩
theorem z6g (h : PE X e te) : PO X (some e) (zft te) := by
 intro pins s σ H Q I hw
 rw [evalPart_some]
 refine thn (h pins s σ H _ I hw) fun u s1 ⟨x, H1, I1, r1, q1⟩ => ?_
 obtain ⟨i, rfl, q⟩ := q1
 obtain ⟨t, rfl⟩ := r1
 exact ⟨some i, H1, I1, .int i t, q⟩
def SlR (X : Cx) (r : V → Option Int → Option Int → Hp → VK → Prop) : Prop :=
 ∀ (pins : List (Addr × Obj)) (s : Shared) (σ : St) (H : Hp) (x : V) (v vl vu : Value) (lo hi : Option Int) (sl : Addr) (Q : VK), Inv X pins σ H s → RelV x v → s.heap.IsSliceOf sl vl vu .none → IsPart vl lo → IsPart vu hi → r x lo hi H Q →
  ∃ T id, typeLookup (.type T) "__getitem__" = pure (some (.builtin id)) ∧ s.TypeIs v T ∧ wpAny (model X.prog X.w) X.A (getItem v (.ref sl)) (EP X pins σ Q) X.xe s
theorem SlR.or {r r' : V → Option Int → Option Int → Hp → VK → Prop} (h : SlR X r) (h' : SlR X r') : SlR X (fun x lo hi H Q => r x lo hi H Q ∨ r' x lo hi H Q) := by
 intro pins s σ H x v vl vu lo hi sl Q I rx hs pl pu q
 rcases q with q | q
 ·exact h pins s σ H x v vl vu lo hi sl Q I rx hs pl pu q
 ·exact h' pins s σ H x v vl vu lo hi sl Q I rx hs pl pu q
def tSl (r : V → Option Int → Option Int → Hp → VK → Prop) (te : TE) (tl th : TO) : TE := fun σ H Q => te σ H fun x H1 => tl σ H1 fun l H2 => th σ H2 fun u H3 => r x l u H3 Q
theorem z58 {r : V → Option Int → Option Int → Hp → VK → Prop} (hr : SlR X r) (he : PE X e te) (hl : PO X lo tl) (hu : PO X hi th) : PE X (.Subscript e (.Slice lo hi none p2) pos) (tSl r te tl th) := by
 intro pins s σ H Q I h
 refine Subscript_ (thn (he pins s σ H _ I h) fun v s1 ⟨x, H1, I1, r1, q1⟩ => ?_)
 refine wpAny_Slice (thn (hl pins s1 σ H1 _ I1 q1) fun vl s2 ⟨l, H2, I2, pl, q2⟩ => thn (hu pins s2 σ H2 _ I2 q2) fun vu s3 ⟨u, H3, I3, pu, q3⟩ => ?_)
 rw [evalPart_none]
 refine wpAny_pure ?_
 have I4 : Inv X pins σ H3 { s3 with heap := s3.heap.push { cls := .type "slice", data := .fields #[vl, vu, .none] } } := I3.kept (t' := s3.toks) fun b ob q => Heap.get?_push_of_some _ q
 obtain ⟨T, id, hT, ht, hg⟩ := hr pins { s3 with heap := s3.heap.push { cls := .type "slice", data := .fields #[vl, vu, .none] } } σ H3 x v vl vu l u s3.heap.objs.size Q I4 r1 (Heap.IsSliceOf.new ..) pl pu q3
 show wpAny (model X.prog X.w) X.A (subscriptTail e (.Slice lo hi none p2) v (.ref s3.heap.objs.size)) (EP X pins σ Q) X.xe { s3 with heap := s3.heap.push { cls := .type "slice", data := .fields #[vl, vu, .none] } }
 exact tail_any (ops := [.ref s3.heap.objs.size, v]) ht hT hg (by with_unfolding_all rfl)
def cutV (xs : List V) (lo hi : Option Int) : List V := (xs.drop (HT.sIx xs.length 0 lo)).take (HT.sIx xs.length xs.length hi - HT.sIx xs.length 0 lo)
theorem zb4 (xs : List V) (lo hi : Option Int) : (cutV xs lo hi).length ≤ xs.length := by
 unfold cutV
 rw [List.length_take, List.length_drop]
 omega
end
end L2
namespace L2
open PySem PySem.Spec PyProof.Rows
def ixN (n : Nat) (i : Int) : Option Nat := if 0 ≤ i then (if i < n then some i.toNat else none) else if -(n : Int) ≤ i then some (i + n).toNat else none
def atI {α : Type} (xs : List α) (i : Int) : Option α := (ixN xs.length i).bind fun j => xs[j]?
theorem zg7 {n : Nat} {i : Int} {j : Nat} (h : ixN n i = some j) : seqIndex? i n = some j ∧ j < n ∧ -(n : Int) ≤ i ∧ i < n := by
 unfold ixN at h
 by_cases h0 : 0 ≤ i
 ·rw [if_pos h0] at h
  by_cases h1 : i < n
  ·rw [if_pos h1] at h
   have e : i.toNat = j := Option.some.inj h
   exact ⟨by rw [seqIndex_of h0 h1, e], by omega, by omega, h1⟩
  ·rw [if_neg h1] at h; cases h
 ·rw [if_neg h0] at h
  by_cases h1 : -(n : Int) ≤ i
  ·rw [if_pos h1] at h
   have e : (i + n).toNat = j := Option.some.inj h
   exact ⟨by rw [seqIndex_neg (by omega) h1, e], by omega, h1, by omega⟩
  ·rw [if_neg h1] at h; cases h
theorem z88 {α : Type} {xs : List α} {i : Int} {v : α} (h : atI xs i = some v) : ∃ j, seqIndex? i xs.length = some j ∧ xs[j]? = some v ∧ j < xs.length ∧ -(xs.length : Int) ≤ i ∧ i < xs.length := by
 unfold atI at h
 cases e : ixN xs.length i with
 | none => rw [e] at h; cases h
 | some j =>
  rw [e] at h
  obtain ⟨h1, h2, h3, h4⟩ := zg7 e
  exact ⟨j, h1, h, h2, h3, h4⟩
theorem zf {α : Type} {xs : List α} {j : Nat} {v : α} (h : xs[j]? = some v) : atI xs (j : Int) = some v := by
 have hj : j < xs.length := (List.getElem?_eq_some_iff.mp h).1
 have e : ixN xs.length (j : Int) = some j := by
  unfold ixN
  rw [if_pos (by omega), if_pos (by omega)]; simp
 unfold atI; rw [e]; exact h
theorem atI_last {α : Type} (xs : List α) (v : α) : atI (xs ++ [v]) (-1) = some v := by
 have hl : (xs ++ [v]).length = xs.length + 1 := by simp
 have e : ixN (xs ++ [v]).length (-1) = some xs.length := by
  unfold ixN
  rw [hl, if_neg (by decide), if_pos (by omega)]
  congr 1
  omega
 unfold atI
 rw [e]
 show (xs ++ [v])[xs.length]? = some v
 simp
def zg8 (b : Expr) : Prop := ∀ o i, subscripted b false o i = operate [o, i] (getItem o i)
def IxR (X : Cx) (r : R2) : Prop :=
 ∀ (value slice : Expr) (pins : List (Addr × Obj)) (s : Shared) (σ : St) (H : Hp) (x y : V) (v u : Value) (Q : VK), Inv X pins σ H s → RelV x v → RelV y u → r x y H Q →
  subscripted slice false v u = operate [v, u] (getItem v u) → wpAny (model X.prog X.w) X.A (subscriptTail value slice v u) (EP X pins σ Q) X.xe s
def MtR (X : Cx) (id : String) (r : V → List V → Hp → VK → Prop) : Prop :=
 ∀ (pins : List (Addr × Obj)) (s : Shared) (σ : St) (H : Hp) (x : V) (xs : List V) (v : Value) (us : List Value) (Q : VK), Inv X pins σ H s → RelV x v → Vals xs us → r x xs H Q →
  wpAny (model X.prog X.w) X.A (call (.builtin id) (v :: us)) (EP X pins σ Q) X.xe s
section
variable {X : Cx} {a b : Expr} {ta tb : TE} {pos : Pos}
theorem IxR.or {r r' : R2} (h : IxR X r) (h' : IxR X r') : IxR X (fun x y H Q => r x y H Q ∨ r' x y H Q) := by
 intro value slice pins s σ H x y v u Q I rx ry q hs
 rcases q with q | q
 ·exact h value slice pins s σ H x y v u Q I rx ry q hs
 ·exact h' value slice pins s σ H x y v u Q I rx ry q hs
theorem MtR.or {id : String} {r r' : V → List V → Hp → VK → Prop} (h : MtR X id r) (h' : MtR X id r') : MtR X id (fun x xs H Q => r x xs H Q ∨ r' x xs H Q) := by
 intro pins s σ H x xs v us Q I rx rs q
 rcases q with q | q
 ·exact h pins s σ H x xs v us Q I rx rs q
 ·exact h' pins s σ H x xs v us Q I rx rs q
theorem zj {r : R2} (hr : IxR X r) (ha : PE X a ta) (hb : PE X b tb) (hs : zg8 b) : PE X (.Subscript a b pos) (tOp r ta tb) := by
 intro pins s σ H Q I h
 exact Subscript_ (binT ha hb I h fun v u s2 x y H2 I2 rx ry q => hr a b pins s2 σ H2 x y v u Q I2 rx ry q (hs _ _))
def rIxL (K : PySem.W.Frag) : R2 := fun x y H Q => ∃ p xs i v, x = .ref p ∧ y = .int i ∧ SqL K H p xs ∧ atI xs i = some v ∧ Q v H
def rIxT (K : PySem.W.Frag) : R2 := fun x y H Q => ∃ p xs i v, x = .ref p ∧ y = .int i ∧ SqT K H p xs ∧ atI xs i = some v ∧ Q v H
def rIxS : R2 := fun x y H Q => ∃ z i c, x = .str z ∧ y = .int i ∧ z.length ≤ sizeLine ∧ atI z.cps.toList i = some c ∧ Q (.str ⟨#[c]⟩) H
theorem ix_list : IxR X (rIxL X.K) := by
 intro value slice pins s σ H x y v u Q I rx ry h hs
 obtain ⟨p, xs, i, z, rfl, rfl, hq, he, q⟩ := h
 cases rx
 obtain ⟨t, rfl⟩ := ry
 obtain ⟨its, r, pl, hz⟩ := I.list hq
 obtain ⟨j, h1, h2, h3, h4, h5⟩ := z88 he
 obtain ⟨w, ew, rw'⟩ := r.get h2
 have hl := r.length
 have hn := z7j
 have fin : EP X pins σ Q w s := ⟨z, H, I, rw', q⟩
 by_cases h0 : 0 ≤ i
 ·have hj : i.toNat = j := by
   rw [seqIndex_of h0 h5] at h1
   exact Option.some.inj h1
  exact item_listR pl.isList h0 (by omega) (by rw [hj]; simpa using ew) fin hs
 ·have hj : (i + (its.toArray.size : Int)).toNat = j := by
   rw [seqIndex_neg (by omega) h4] at h1
   rw [List.size_toArray, ← hl]
   exact Option.some.inj h1
  exact subscriptTail_builtinR (x := w) pl.isList.typeIs slot_list_getitem.lookup
   (wpAny_getItem_list_neg (Q := fun r s' => r = w ∧ EP X pins σ Q r s') pl.isList (by omega) (by rw [List.size_toArray] <;> omega) (by omega) (by rw [hj]; simpa using ew) ⟨rfl, fin⟩) hs
theorem ix_tup : IxR X (rIxT X.K) := by
 intro value slice pins s σ H x y v u Q I rx ry h hs
 obtain ⟨p, xs, i, z, rfl, rfl, hq, he, q⟩ := h
 cases rx
 obtain ⟨t, rfl⟩ := ry
 obtain ⟨its, r, pl, hz⟩ := I.tuple hq
 obtain ⟨j, h1, h2, h3, h4, h5⟩ := z88 he
 obtain ⟨w, ew, rw'⟩ := r.get h2
 have hl := r.length
 have hn := z7j
 have fin : EP X pins σ Q w s := ⟨z, H, I, rw', q⟩
 exact subscriptTail_builtinR (x := w) pl.typeIs slot_tuple_getitem.lookup
  (getItem_tuple (j := j) (Q := fun r s' => r = w ∧ EP X pins σ Q r s') pl (by omega) (by omega) (by rw [List.size_toArray, ← hl]; exact h1) (by simpa using ew) ⟨rfl, fin⟩) hs
theorem z4y : IxR X rIxS := by
 intro value slice pins s σ H x y v u Q I rx ry h hs
 obtain ⟨z, i, c, rfl, rfl, hz, he, q⟩ := h
 obtain ⟨t, rfl⟩ := rx
 obtain ⟨t', rfl⟩ := ry
 obtain ⟨j, h1, h2, h3, h4, h5⟩ := z88 he
 have hl : z.cps.toList.length = z.length := by simp [Str.length]
 rw [hl] at h1 h4 h5
 have hn := z7j
 exact tail_any (typeIs_str s z t) slot_str_getitem.lookup (getItem_str (c := c) (by
  have e1 : decide (i < -(2 ^ 63 : Int)) = false := decide_eq_false (by omega)
  have e2 : decide (i ≥ 2 ^ 63) = false := decide_eq_false (by omega)
  rw [e1, e2, Bool.or_false]) (by rw [h1]; simpa using h2) ⟨.str ⟨#[c]⟩, H, I.tok _, ⟨_, rfl⟩, q⟩) hs
def rIx (K : PySem.W.Frag) : R2 := fun x y H Q => rIxL K x y H Q ∨ rIxT K x y H Q ∨ rIxS x y H Q
theorem zgy : IxR X (rIx X.K) := ix_list.or (ix_tup.or z4y)
theorem Inv.lst {pins : List (Addr × Obj)} {σ : St} {H : Hp} {s : Shared} {p : Addr} {xs : List V} (I : Inv X pins σ H s) (h : H p = some (.lst xs)) :
  ∃ (its : List Value) (n : Nat), Vals xs its ∧ s.heap.get? p = some { cls := .type "list", data := .seq its.toArray n } ∧ xs.length ≤ sizeLine := by
 obtain ⟨z, its, n, r, e⟩ := I.hok p _ h
 exact ⟨its, n, r, e, z⟩
theorem zac (lo hi : Option Int) (n : Nat) : (sliceBounds lo hi none n).1 = ((HT.sIx n 0 lo : Nat) : Int) ∧ (sliceBounds lo hi none n).2.1 = ((HT.sIx n n hi : Nat) : Int) ∧ (sliceBounds lo hi none n).2.2 = 1 := by
 refine ⟨?_, ?_, rfl⟩
 ·cases lo with
  | none => simp [sliceBounds, HT.sIx]
  | some i =>
   simp only [sliceBounds, HT.sIx, Option.getD_none, show (1 : Int) > 0 by decide, if_true]
   by_cases h : i < 0
   ·simp only [h, if_true] <;> omega
   ·simp only [h, if_false] <;> omega
 ·cases hi with
  | none => simp [sliceBounds, HT.sIx]
  | some i =>
   simp only [sliceBounds, HT.sIx, Option.getD_none, show (1 : Int) > 0 by decide, if_true]
   by_cases h : i < 0
   ·simp only [h, if_true] <;> omega
   ·simp only [h, if_false] <;> omega
theorem z9f (its : List Value) (lo hi : Option Int) : slicePick its.toArray lo hi none = ((its.drop (HT.sIx its.length 0 lo)).take (HT.sIx its.length its.length hi - HT.sIx its.length 0 lo)).toArray := by
 obtain ⟨h1, h2, h3⟩ := zac lo hi its.toArray.size
 unfold slicePick
 rw [h1, h2, h3]
 simp only [sliceRange_one, pick_run, List.size_toArray] <;> rfl
def rSlL (K : PySem.W.Frag) : V → Option Int → Option Int → Hp → VK → Prop := fun x lo hi H Q => ∃ a xs, x = .ref a ∧ SqL K H a xs ∧ ∀ p, H p = none → Q (.ref p) (upd H p (.lst (cutV xs lo hi)))
theorem z89 : SlR X (rSlL X.K) := by
 intro pins s σ H x v vl vu lo hi sl Q I rx hs pl pu h
 obtain ⟨a, xs, rfl, hx, q⟩ := h
 cases rx
 obtain ⟨its, r, ht, hz⟩ := I.list hx
 have hlen := r.length
 refine ⟨"list", _, slot_list_getitem.lookup, ht.isList.typeIs, ?_⟩
 refine wpAny_getItem_list_slice ht.isList hs pl pu .none (by simp) ?_ (by rw [List.size_toArray] <;> omega)
 rw [z9f, ← hlen]
 refine ⟨.ref s.heap.objs.size, _, I.laid (t' := s.toks) (o := .lst (cutV xs lo hi)) (fun b ob q => Heap.get?_push_of_some _ q) (Nat.le_refl _) ?_, rfl, q _ (I.hok.fresh (Nat.le_refl _))⟩
 exact ⟨Nat.le_trans (zb4 xs lo hi) hz, _, 0, (r.drop (HT.sIx xs.length 0 lo)).take (HT.sIx xs.length xs.length hi - HT.sIx xs.length 0 lo), Heap.get?_push_size _ rfl⟩
def z23 : V → Bool
 | .non => true
 | .bl _ => true
 | .int _ => true
 | .str _ => true
 | _ => false
def eqV : V → V → Bool
 | .non, .non => true
 | .bl a, .bl b => a == b
 | .bl a, .int b => (if a then 1 else 0) == b
 | .int a, .bl b => a == (if b then 1 else 0)
 | .int a, .int b => a == b
 | .str a, .str b => a == b
 | _, _ => false
theorem zdd {A : Around} {s : Shared} {y x : V} {u v : Value} (ry : RelV y u) (rx : RelV x v) (fy : z23 y = true) (fx : z23 x = true) : SeqAt.EqAt A s u v (eqV y x) := by
 cases y with
 | non =>
  cases ry
  cases x with
  | non => cases rx; exact SeqAt.EqAt.same _
  | bl b => cases rx; exact SeqAt.EqAt.none_bool b
  | int b => obtain ⟨t, rfl⟩ := rx; exact SeqAt.EqAt.none_int b t
  | str b => obtain ⟨t, rfl⟩ := rx; exact SeqAt.EqAt.none_str b t
  | _ => exact absurd (show false = true from fx) Bool.false_ne_true
 | bl a =>
  cases ry
  cases x with
  | non => cases rx; exact SeqAt.EqAt.bool_none a
  | bl b => cases rx; exact SeqAt.EqAt.bool_bool a b
  | int b => obtain ⟨t, rfl⟩ := rx; exact SeqAt.EqAt.bool_int a b t
  | str b => obtain ⟨t, rfl⟩ := rx; exact SeqAt.EqAt.bool_str a b t
  | _ => exact absurd (show false = true from fx) Bool.false_ne_true
 | int a =>
  obtain ⟨t', rfl⟩ := ry
  cases x with
  | non => cases rx; exact SeqAt.EqAt.int_none a t'
  | bl b => cases rx; exact SeqAt.EqAt.int_bool a t' b
  | int b => obtain ⟨t, rfl⟩ := rx; exact SeqAt.EqAt.int_int a t' b t
  | str b => obtain ⟨t, rfl⟩ := rx; exact SeqAt.EqAt.int_str a t' b t
  | _ => exact absurd (show false = true from fx) Bool.false_ne_true
 | str a =>
  obtain ⟨t', rfl⟩ := ry
  cases x with
  | non => cases rx; exact SeqAt.EqAt.str_none a t'
  | bl b => cases rx; exact SeqAt.EqAt.str_bool a t' b
  | int b => obtain ⟨t, rfl⟩ := rx; exact SeqAt.EqAt.str_int a t' b t
  | str b => obtain ⟨t, rfl⟩ := rx; exact SeqAt.EqAt.str_str a t' b t
  | _ => exact absurd (show false = true from fx) Bool.false_ne_true
 | _ => exact absurd (show false = true from fy) Bool.false_ne_true
def eqU (x : V) (u : Value) : Bool := match u with
 | .none => eqV .non x
 | .bool b => eqV (.bl b) x
 | .int i _ => eqV (.int i) x
 | .str z _ => eqV (.str z) x
 | _ => false
theorem zde {x y : V} {u : Value} (r : RelV y u) (f : z23 y = true) : eqU x u = eqV y x := by
 cases y with
 | non => cases r; rfl
 | bl b => cases r; rfl
 | int i => obtain ⟨t, rfl⟩ := r; rfl
 | str z => obtain ⟨t, rfl⟩ := r; rfl
 | _ => exact absurd (show false = true from f) Bool.false_ne_true
theorem z4z {x : V} : ∀ {xs : List V} {us : List Value}, Vals xs us → xs.all z23 = true → us.any (eqU x) = xs.any fun y => eqV y x
 | _, _, .nil, _ => rfl
 | y :: xs, u :: us, .cons r t, f => by
  rw [List.all_cons, Bool.and_eq_true] at f
  rw [List.any_cons, List.any_cons, zde r f.1, z4z t f.2]
theorem z46 {A : Around} {s : Shared} {x : V} {v : Value} (rx : RelV x v) (fx : z23 x = true) : ∀ {xs : List V} {us : List Value}, Vals xs us → xs.all z23 = true → ∀ u ∈ us, SeqAt.EqAt A s u v (eqU x u)
 | _, _, .nil, _ => fun u hu => by cases hu
 | y :: xs, u :: us, .cons r t, f => fun u' hu => by
  rw [List.all_cons, Bool.and_eq_true] at f
  rcases List.mem_cons.mp hu with rfl | hu
  ·rw [zde r f.1]; exact zdd r rx f.1 fx
  ·exact z46 rx fx t f.2 u' hu
def inV (x : V) (xs : List V) : Bool := xs.any fun y => eqV y x
def rIn (K : PySem.W.Frag) (neg : Bool) : R2 := fun x y H Q => ∃ p xs, y = .ref p ∧ (SqL K H p xs ∨ SqT K H p xs) ∧ z23 x = true ∧ xs.all z23 = true ∧ Q (.bl (if neg then !inV x xs else inV x xs)) H
theorem z95 : OpR X (compareOp .In) (rIn X.K false) := by
 intro pins s σ H x y v u Q I rx ry h
 obtain ⟨p, xs, rfl, hq, fx, fs, q⟩ := h
 cases ry
 rcases hq with hq | hq
 ·obtain ⟨its, r, pl, hz⟩ := I.list hq
  refine SeqAt.in_listAt (eqU x) pl.isList (fun w hw => z46 rx fx r fs w (by simpa using hw)) ⟨.bl _, H, I, rfl, ?_⟩
  rw [show its.toArray.any (eqU x) = its.any (eqU x) by simp, z4z r fs]
  exact q
 ·obtain ⟨its, r, pl, hz⟩ := I.tuple hq
  refine SeqAt.in_tupleAt (eqU x) pl (fun w hw => z46 rx fx r fs w (by simpa using hw)) ⟨.bl _, H, I, rfl, ?_⟩
  rw [show its.toArray.any (eqU x) = its.any (eqU x) by simp, z4z r fs]
  exact q
theorem z5s : OpR X (compareOp .NotIn) (rIn X.K true) := by
 intro pins s σ H x y v u Q I rx ry h
 obtain ⟨p, xs, rfl, hq, fx, fs, q⟩ := h
 cases ry
 rcases hq with hq | hq
 ·obtain ⟨its, r, pl, hz⟩ := I.list hq
  refine SeqAt.notIn_listAt (eqU x) pl.isList (fun w hw => z46 rx fx r fs w (by simpa using hw)) ⟨.bl _, H, I, rfl, ?_⟩
  rw [show its.toArray.any (eqU x) = its.any (eqU x) by simp, z4z r fs]
  exact q
 ·obtain ⟨its, r, pl, hz⟩ := I.tuple hq
  refine SeqAt.notIn_tupleAt (eqU x) pl (fun w hw => z46 rx fx r fs w (by simpa using hw)) ⟨.bl _, H, I, rfl, ?_⟩
  rw [show its.toArray.any (eqU x) = its.any (eqU x) by simp, z4z r fs]
  exact q
theorem zr : CallR X (.builtin "len") (fun xs H Q => ∃ p ys, xs = [.ref p] ∧ (SqL X.K H p ys ∨ SqT X.K H p ys) ∧ Q (.int ys.length) H) := by
 intro pins s σ H xs us Q I r h
 obtain ⟨p, ys, rfl, hq, q⟩ := h
 obtain ⟨u, rfl, rx⟩ := z56 r
 cases rx
 have hn := z7j
 rcases hq with hq | hq
 ·obtain ⟨its, r', pl, hz⟩ := I.list hq
  have hlen := r'.length
  exact Calls.call_len_list pl.isList (by simp only [List.size_toArray] <;> omega) ⟨.int ys.length, H, I.tok _, ⟨s.toks + 1, by rw [List.size_toArray, hlen]⟩, q⟩
 ·obtain ⟨its, r', pl, hz⟩ := I.tuple hq
  have hlen := r'.length
  exact len_tuple pl (by simp only [List.size_toArray] <;> omega) ⟨.int ys.length, H, I.tok _, ⟨s.toks + 1, by rw [List.size_toArray, hlen]⟩, q⟩
theorem CallR.or {f : Value} {r r' : List V → Hp → VK → Prop} (h : CallR X f r) (h' : CallR X f r') : CallR X f (fun xs H Q => r xs H Q ∨ r' xs H Q) := by
 intro pins s σ H xs us Q I rs q
 rcases q with q | q
 ·exact h pins s σ H xs us Q I rs q
 ·exact h' pins s σ H xs us Q I rs q
def tyV (K : PySem.W.Frag) (T : String) (x : V) (H : Hp) : Prop := match x with
 | .str _ => T = "str"
 | .int _ => T = "int"
 | .ref p => (T = "list" ∧ ∃ xs, SqL K H p xs) ∨ (T = "tuple" ∧ ∃ o, K.lookup p = some o ∧ o.cls = .type "tuple" ∧ o.dict = none) ∨
   (T = "dict" ∧ ((∃ kvs, H p = some (.dK kvs)) ∨ ∃ kvs, H p = some (.dT kvs))) ∨ (T = "set" ∧ ∃ S n, H p = some (.set S n))
 | _ => False
theorem zgz {pins : List (Addr × Obj)} {σ : St} {H : Hp} {s : Shared} {T : String} {x : V} {v : Value} (I : Inv X pins σ H s) (r : RelV x v) (ty : tyV X.K T x H) :
  s.TypeIs v T ∧ ∀ a, v = .ref a → ∃ ob, s.heap.get? a = some ob ∧ ob.dict = none := by
 cases x with
 | str z =>
  obtain ⟨t, rfl⟩ := r
  cases (show T = "str" from ty)
  exact ⟨typeIs_str s z t, fun _ e => nomatch e⟩
 | int i =>
  obtain ⟨t, rfl⟩ := r
  cases (show T = "int" from ty)
  exact ⟨typeIs_int s i t, fun _ e => nomatch e⟩
 | ref p =>
  cases r
  rcases ty with ⟨rfl, xs, hq⟩ | ⟨rfl, o, hk, hc, hd⟩ | ⟨rfl, hk⟩ | ⟨rfl, S, n, hk⟩
  ·obtain ⟨its, _, pl, _⟩ := I.list hq
   refine ⟨pl.isList.typeIs, fun a e => ?_⟩
   cases e
   obtain ⟨o, n, e, c, hd, _⟩ := pl
   exact ⟨o, e, hd⟩
  ·refine ⟨⟨o, I.kIn p o hk, hc⟩, fun a e => ?_⟩
   cases e
   exact ⟨o, I.kIn _ o hk, hd⟩
  ·have z : ∃ o, s.heap.get? p = some o ∧ o.ExactDict := by
    rcases hk with ⟨kvs, hk⟩ | ⟨kvs, hk⟩
    ·obtain ⟨_, _, _, _, o, _, _, e, ex, _⟩ := I.hok p _ hk
     exact ⟨o, e, ex⟩
    ·obtain ⟨_, _, _, _, o, _, _, e, ex, _⟩ := I.hok p _ hk
     exact ⟨o, e, ex⟩
   obtain ⟨o, e, ex⟩ := z
   refine ⟨⟨o, e, ex.1⟩, fun a e2 => ?_⟩
   cases e2
   exact ⟨o, e, ex.2.1⟩
  ·obtain ⟨o, _, _, _, e, ex, _⟩ := I.hok p _ hk
   refine ⟨⟨o, e, ex.1⟩, fun a e2 => ?_⟩
   cases e2
   exact ⟨o, e, ex.2.1⟩
 | _ => exact False.elim ty
def tBM0 (K : PySem.W.Frag) (T : String) (r : V → List V → Hp → VK → Prop) (to : TE) : TE := fun σ H Q => to σ H fun x H1 => tyV K T x H1 ∧ r x [] H1 Q
def tBM (K : PySem.W.Frag) (T : String) (r : V → List V → Hp → VK → Prop) (to : TE) (t : TA) : TE := fun σ H Q => to σ H fun x H1 => tyV K T x H1 ∧ t σ H1 fun xs H2 => r x xs H2 Q
variable {o e : Expr} {es : List Expr} {to : TE} {t : TA} {name : Str} {apos cpos : Pos} {T id : String} {r : V → List V → Hp → VK → Prop}
theorem z3g (pa : PlainAttrs T) (slot : Slot T name id) (hty : typeOf (.builtin id) = pure (.type "method_descriptor")) (hm : MtR X id r) (ho : PE X o to) (ha : PA X (e :: es) t)
  (hbase : attributeBase o name X.env (eval o X.env) = eval o X.env := by rfl)
  (hfew : ((backTo cpos (starEach (e :: es) X.env)).all (fun x => !x.1) && (backToKw cpos (keywordEach [] X.env)).all (fun x => x.1.isSome)
   && decide ((e :: es).length + ([] : List Keyword).length + (if ([] : List Keyword).isEmpty then 0 else 1) < 30)) = true := by rfl)
  (hline : (apos.endLine == cpos.line) = true := by rfl) (hs : starEach (e :: es) X.env = (false, eval e X.env) :: starEach es X.env := by rfl) (hplain : (backTo cpos (starEach es X.env)).any (·.1) = false := by rfl) :
  PE X (.Call (.Attribute o name apos) (e :: es) [] cpos) (tBM X.K T r to t) := by
 intro pins s σ H Q I h
 refine wpAny_Call_method_late hbase hfew hline rfl (thn (ho pins s σ H _ I h) fun v s1 ⟨x, H1, I1, r1, ty, q1⟩ => ?_)
 obtain ⟨h1, h2⟩ := zgz I1 r1 ty
 refine ⟨T, id, pa, slot, hty, h1, h2, ?_⟩
 have hA := ha cpos pins s1 σ H1 _ I1 q1
 rw [hs] at hA ⊢
 refine Calls.callWith_builtin (by show (false || (backTo cpos (starEach es X.env)).any (·.1)) = false; rw [hplain] <;> rfl) (Calls.evalArgs_plain ?_)
 exact thn hA fun us s2 ⟨vs, H2, I2, r2, q2⟩ => hm pins s2 σ H2 x vs v us Q I2 r1 r2 q2
end
end L2
namespace L2
open PySem PySem.Spec PyProof.Rows
def MtM (X : Cx) (id : String) (r : V → List V → Hp → VK → Prop) : Prop :=
 ∀ (pins : List (Addr × Obj)) (s : Shared) (σ : St) (H : Hp) (x : V) (xs : List V) (v : Value) (us : List Value) (Q : VK), Inv X pins σ H s → RelV x v → Vals xs us → r x xs H Q →
  wpAny (model X.prog X.w) X.A (call (.builtin id) (v :: us)) (EP X pins σ Q) X.xe s
theorem Vals.one : ∀ {x : V} {us : List Value}, Vals [x] us → ∃ u, us = [u] ∧ RelV x u
 | _, _, .cons r .nil => ⟨_, rfl, r⟩
theorem Vals.two : ∀ {x y : V} {us : List Value}, Vals [x, y] us → ∃ u v, us = [u, v] ∧ RelV x u ∧ RelV y v
 | _, _, _, .cons r (.cons q .nil) => ⟨_, _, rfl, r, q⟩
theorem Vals.zero : ∀ {us : List Value}, Vals [] us → us = []
 | _, .nil => rfl
theorem Vals.eraseIdx : ∀ {xs : List V} {us : List Value} (i : Nat), Vals xs us → Vals (xs.eraseIdx i) (us.eraseIdx i)
 | _, _, _, .nil => .nil
 | _, _, 0, .cons _ t => t
 | _, _, i + 1, .cons r t => .cons r (Vals.eraseIdx i t)
section
variable {X : Cx} {pins : List (Addr × Obj)} {σ : St} {H : Hp} {s : Shared} {l b : Addr} {xs ys zs : List V}
theorem Inv.lset {its its' : List Value} {n : Nat} {f : Array Value → Array Value} {t' : Nat} (I : Inv X pins σ H s) (hH : H l = some (.lst xs))
  (e : s.heap.get? l = some { cls := .type "list", data := .seq its.toArray n }) (hf : f its.toArray = its'.toArray) (hv : Vals ys its') (hz : ys.length ≤ sizeLine) :
  Inv X pins σ (upd H l (.lst ys)) { s with heap := s.heap.update l (Obj.mapSeq f), toks := t' } := by
 have q := PySem.IsL.update e f
 rw [hf] at q
 refine I.write (x := l) (e := l) (by rw [hH]; exact trivial) (.inl rfl) (fun b' u hb hu => (Heap.get?_update_other s.heap (Obj.mapSeq f) (Ne.symm hb)).trans hu) ⟨_, q⟩ ?_
 exact ⟨hz, its', _, hv, q⟩
theorem Inv.lnew {its : List Value} {t' : Nat} (I : Inv X pins σ H s) (hv : Vals ys its) (hz : ys.length ≤ sizeLine) :
  Inv X pins σ (upd H s.heap.objs.size (.lst ys)) { s with heap := s.heap.push { cls := .type "list", data := .seq its.toArray }, toks := t' } :=
 I.laid (fun _ _ q => Heap.get?_push_of_some _ q) (Nat.le_refl _) ⟨hz, its, 0, hv, Heap.get?_push_size _ rfl⟩
theorem Inv.fresh (I : Inv X pins σ H s) : H s.heap.objs.size = none := I.hok.fresh (Nat.le_refl _)
theorem Inv.lstM (I : Inv X pins σ H s) (hH : H l = some (.lst xs)) : xs.length ≤ sizeLine ∧ ∃ (its : List Value) (n : Nat), Vals xs its ∧ xs.length = its.length ∧ s.heap.get? l = some { cls := .type "list", data := .seq its.toArray n } := by
 obtain ⟨z, its, n, r, e⟩ := I.hok l _ hH
 exact ⟨z, its, n, r, r.length, e⟩
end
section
variable {X : Cx}
def zg9 : V → List V → Hp → VK → Prop := fun x vs H Q => ∃ l xs y, x = .ref l ∧ vs = [y] ∧ H l = some (.lst xs) ∧ xs.length < sizeLine ∧ Q .non (upd H l (.lst (xs ++ [y])))
theorem z3m : MtM X "list.append" zg9 := by
 intro pins s σ H x vs v us Q I rx rv h
 obtain ⟨l, xs, y, rfl, rfl, hH, hz, q⟩ := h
 cases rx
 obtain ⟨u, rfl, ru⟩ := rv.one
 obtain ⟨z, its, n, r, hl, e⟩ := I.lstM hH
 refine call_meets F.slot_list_append ⟨_, e, rfl⟩ F.entry_list_append (F.args_list_append_2 _ _) (PySem.list_append l its.toArray n u (by rw [List.size_toArray]; omega)) ⟨e, ?_⟩
 refine ⟨.non, _, I.lset (its' := its ++ [u]) hH e (by simp) (r.append (.cons ru .nil)) ?_, rfl, q⟩
 rw [List.length_append, List.length_singleton]
 omega
def rCat : R2 := fun x y H Q => ∃ l b xs zs, x = .ref l ∧ y = .ref b ∧ H l = some (.lst xs) ∧ H b = some (.lst zs) ∧ xs.length + zs.length ≤ sizeLine ∧ ∀ p, H p = none → Q (.ref p) (upd H p (.lst (xs ++ zs)))
theorem zad : OpR X (binaryOp .Add) rCat := by
 intro pins s σ H x y v u Q I rx ry h
 obtain ⟨l, b, xs, zs, rfl, rfl, hH, hB, hz, q⟩ := h
 cases rx
 cases ry
 obtain ⟨z, its, n, r, hl, e⟩ := I.lstM hH
 obtain ⟨z2, its2, n2, r2, hl2, e2⟩ := I.lstM hB
 refine PySem.P.add_list e e2 ?_ (by rw [List.size_toArray, List.size_toArray]; omega)
 have ea : its.toArray ++ its2.toArray = (its ++ its2).toArray := by simp
 rw [ea]
 exact ⟨.ref _, _, I.lnew (t' := s.toks) (r.append r2) (by rw [List.length_append]; omega), rfl, q _ I.fresh⟩
end
section
variable {prog : Program} {w : World} {A : Around} {E : Value → Shared → Prop} {s : Shared}
end
section
variable {X : Cx}
end
end L2
namespace Att
open PySem PySem.W PySem.Calls PyProof.Rows
theorem z7l {P : Params} {h : Heap} : ∀ (ns : List Int) (vs : List Value), WellAll P h vs (ns.map WData.int) → IntsAre vs ns := by
 intro ns
 induction ns with
 | nil =>
  intro vs w
  rw [List.map_nil] at w
  cases w
  exact .nil
 | cons n ns ih =>
  intro vs w
  rw [List.map_cons] at w
  cases w with
  | cons a b =>
   cases a
   exact .cons _ _ (ih _ b)
theorem zdf {l : OpenLaw} {n : Nat} (hn : l.most = some n) {P : Params} {h : Heap} {args : List WData} {vals : List Value}
  (hpre : l.row.toRowW.claim.pre args = true) (hwl : WellAll P h vals args) :
  ∃ a vs ns, vals = [Value.ref a] ∧ args = [WData.list (ns.map WData.int)] ∧ h.get? a = some { cls := .type "list", data := .seq vs.toArray } ∧ IntsAre vs ns ∧ ns.length ≤ n := by
 have hsh : WShape.hasAll [] args [.list .int] = true := (pre_splitW hpre).1
 have hc : l.pre.holds [] { args := args } = true := (pre_splitW hpre).2
 obtain ⟨d, r, rfl, h1, h2⟩ := hasAllW_cons hsh
 obtain rfl := hasAllW_nil h2
 obtain ⟨xs, rfl, h3⟩ := hasW_list h1
 obtain ⟨ns, rfl⟩ := items_int h3
 have hlen : ns.length ≤ n := by
  unfold OpenLaw.pre at hc
  have h4 : (WTm.not (.lt (.lit (.int (n : Int))) (.len (.arg 0)))).holds [] { args := [.list (ns.map .int)] } = true := by
   have h4 := (holds_andW hc).1
   rw [hn] at h4
   exact h4
  have h5 := condW_of h4 (w_not (w_lt w_lit (w_len_list (w_arg rfl))))
  rw [List.length_map] at h5
  refine Nat.le_of_not_lt fun q => ?_
  have q' : (n : Int) < ((ns.length : Nat) : Int) := by omega
  first
   | (rw [decide_eq_true q'] at h5; exact absurd h5 (by decide))
   | (simp at h5; omega)
 cases hwl with
 | cons w1 w2 =>
  cases w2
  cases w1 with
  | list ho hall => exact ⟨_, _, ns, rfl, rfl, ho, z7l ns _ hall, hlen⟩
theorem zdg (l : OpenLaw) (args : List WData) : l.row.toRowW.claim.post args (.bool true) args = true :=
 postW_of (r := l.row.toRowW) (X := (true == true))
  (show WShape.has [] (.bool true) .bool = true by first | rfl | decide | simp [WShape.has, WShape.arms, WShape.armsAll])
  (show (WTm.eq .res (.lit (.bool true))).value [] { args := args, res := some (.bool true), after := args } = some (.bool (true == true)) from w_eq_bool (w_res rfl) w_lit) rfl
theorem attach_call {l : OpenLaw} {n : Nat} {q : Program} {loose : List Str} {XP : (Str → Option Value) → Heap → Prop} {YP : World → Heap → Prop} {d : DefRec}
  (hn : l.most = some n) (hdf : d.params.defaults = [])
  (call : ∀ (w : World) (s₀ s₁ : Shared) (mg mb : Str → Option Value) (fa : Addr) (o : Obj) (pm cd doc : Value) (a : Addr) (vs : List Value) (ns : List Int),
   Ground q loose [] XP w s₀ mg mb s₁.heap → YP w s₁.heap →
   s₁.heap.get? fa = some o → o.data = .func (docDef d.name d.params d.body d.scope pm cd doc) → s₁.heap.CodeRec cd d.name → mg d.name = some (.ref fa) →
   s₁.heap.get? a = some { cls := .type "list", data := .seq vs.toArray } → IntsAre vs ns → ns.length ≤ n → s₁.gens = #[] →
   codeAny (model l.prog w) callerA (.call (.ref fa) ⟨[.ref a], []⟩) (fun r s' => r = .ok (.ret (.bool true)) ∧ OldK s₁.heap s'.heap ∧ s'.os = s₁.os ∧ AllBare s'.gens) s₁) :
  WalkO q loose XP YP l.row.toRowW d [] (fun f vs => PySem.call f vs) := by
 intro w s₀ s₁ mg mb G Y fa o pm cd doc dV kV ho hd hcd hD hmg hg args vals as hpre hlay hrd hwl hlo
 obtain rfl : dV = .none := Dflts.none hD hdf
 obtain rfl : kV = .none := Dflts.noKw hD
 obtain ⟨a, vs, ns, rfl, rfl, hobj, hints, hlen⟩ := zdf hn hpre hwl
 refine enter_call (codeAny_mono (call w s₀ s₁ mg mb fa o pm cd doc a vs ns G Y ho (fd_plain hd) hcd hmg hobj hints hlen hg) fun r s' hq => ?_)
 obtain ⟨rfl, h2, h3, h4⟩ := hq
 exact ⟨.inl ⟨.bool true, .bool true, [], rfl, fun _ => rfl, .bool true, zdg l _, fun _ => ⟨List.Pairwise.nil, fun _ hm => (nomatch hm)⟩⟩, h2, h3, h4⟩
section
variable {prog : Program} {w : World} {A : Around} {E : Value → Shared → Prop} {s : Shared} {K : Frag}
def zhm (h : Heap) (L d : Addr) : List (Addr × Obj) := (List.range h.objs.size).filterMap fun a => if a = L ∨ a = d then none else (h.get? a).map fun o => (a, o)
end
end Att
namespace L2
open PySem PySem.Spec PyProof.Rows
theorem z96 : ∀ {vs : List Value} {ns : List Int}, IntsAre vs ns → Vals (ns.map V.int) vs
 | _, _, .nil => .nil
 | _, _, .cons n t h => .cons ⟨t, rfl⟩ (z96 h)
def Only (H : Hp) : Prop := ∀ b, H b = none ∨ ∃ o xs, H b = some (.frz o (.lst xs))
theorem zes {P : Program} {w : World} {K : PySem.W.Frag} {mg mb : Str → Option Value} {CX : CXT} {k : Nat} {fa a : Addr} {fd : FuncData} {x : Str} {sp : Sp} {s₁ : Shared} {vs : List Value} {ns : List Int}
  (KX : K.In s₁.heap) (hns : s₁.heap.Ns mainGlobals mg) (hb : s₁.heap.Ns builtinsNs mb) (hbb : ∀ x : Str, x ≠ "__name__" → mb x = bootBuiltins x) (hlim : s₁.heap.NoLimit) (hg : s₁.gens = #[])
  (ha : s₁.heap.get? a = some { cls := .type "list", data := .seq vs.toArray }) (hi : IntsAre vs ns) (hl : ns.length ≤ sizeLine) (hr : Room k callerA)
  (F : ∀ base : Heap, K.In base → base.Ns mainGlobals mg → FnOk P w K mg base CX k fa fd [x] sp) (hbind : ∀ (s : Shared) (u : Value), BindsTo s fd ⟨[u], []⟩ [(x, u)])
  (hsp : ∀ H : Hp, Only H → SqL K H a (ns.map V.int) → sp [.ref a] H (fun v _ => v = .bl true) fun _ _ _ => False)
  (hCX : ∀ H e s', CX [] H s₁ (fun _ _ _ => False) e s' → False) :
  codeAny (model P w) callerA (.call (.ref fa) ⟨[.ref a], []⟩) (fun r s' => r = .ok (.ret (.bool true)) ∧ OldK s₁.heap s'.heap ∧ s'.os = s₁.os ∧ AllBare s'.gens) s₁ := by
 have rv := z96 hi
 have lenV := hi.length
 have core : ∀ H : Hp, Only H → SqL K H a (ns.map V.int) → HOk P w H s₁.heap → (∀ b, H b ≠ none → b = a) → (H a ≠ none → K.lookup a = none) →
   codeAny (model P w) callerA (.call (.ref fa) ⟨[.ref a], []⟩) (fun r s' => r = .ok (.ret (.bool true)) ∧ OldK s₁.heap s'.heap ∧ s'.os = s₁.os ∧ AllBare s'.gens) s₁ := by
  intro H hO hS hok hA hK
  have base_of : ∀ {b : Addr} {o : Obj}, s₁.heap.get? b = some o → H b = none → (hidT s₁.heap H).get? b = some o := fun e n => zel e n
  have noA : ∀ {b : Addr} {o : Obj} {es : Array DictEntry} {ep : Nat}, s₁.heap.get? b = some o → o.data = .dict es ep → H b = none := fun {b o es ep} e d => by
   cases q : H b with
   | none => rfl
   | some u =>
    have e' : b = a := hA b (by rw [q]; simp)
    subst e'
    rw [ha] at e; cases e
    have d' : Data.seq vs.toArray _ = Data.dict es ep := d
    cases d'
  have nsK : ∀ {b : Addr} {m : Str → Option Value}, s₁.heap.Ns b m → (hidT s₁.heap H).Ns b m := fun {b m} ⟨o, es, ep, e, d, r⟩ => ⟨o, es, ep, base_of e (noA e d), d, r⟩
  have hKb : K.In (hidT s₁.heap H) := fun b o e => base_of (KX b o e) (by
   cases q : H b with
   | none => rfl
   | some u =>
    have e' : b = a := hA b (by rw [q]; simp)
    subst e'
    rw [hK (by rw [q]; simp)] at e; cases e)
  have hM : Mod K mg (hidT s₁.heap H) := ⟨hKb, nsK hns, ⟨mb, nsK hb, hbb⟩, let ⟨mc, h1, h2⟩ := hlim; ⟨mc, nsK h1, h2⟩⟩
  have e0 : Env0 P w K mg (hidT s₁.heap H) callerA [] s₁ H := ⟨rfl, hM, fun b o e => zfz e, Nat.le_of_eq (zd0 _ _), trivial, fun b hb => absurd (show b ∈ ([] : List Addr) from hb) (by simp), hok, .of_eq hg⟩
  refine codeAny_mono ((F _ hKb (nsK hns)).run callerA [] s₁ H ⟨[.ref a], []⟩ [.ref a] [.ref a] _ _ hr e0 (hbind s₁ (.ref a)) (.cons rfl .nil) (hsp H hO hS)) fun r s' h => ?_
  cases r with
  | error e => exact (hCX H e s' h).elim
  | ok fl =>
   cases fl with
   | next => exact False.elim h
   | brk => exact False.elim h
   | cont => exact False.elim h
   | ret u =>
    obtain ⟨v, H', os, bare, un, hok', r', q⟩ := h
    have q' : v = .bl true := q
    subst q'
    obtain rfl : u = Value.bool true := r'
    refine ⟨rfl, OldK.of_keep fun b o e => ?_, os, bare⟩
    cases q : H b with
    | none => exact un.keep b o e q (by intro z; exact absurd (show b ∈ ([] : List Addr) from z) (by simp)) (by simp)
    | some u =>
     rcases hO b with z | ⟨ob, xs, z⟩
     ·rw [q] at z; cases z
     ·have z2 := un.frzs b ob _ z
      obtain ⟨e1, _⟩ := hok b _ z
      obtain ⟨e2, _⟩ := hok' b _ z2
      rw [e] at e1; cases e1
      exact e2
 cases hk : K.lookup a with
 | some o =>
  have e := KX a o hk
  rw [ha] at e
  cases e
  refine core (fun _ => none) (fun _ => .inl rfl) (.inr ⟨_, vs.toArray, _, hk, rfl, rfl, rfl, by rw [List.size_toArray, lenV]; exact hl, by simpa using rv⟩) (fun b u z => by have z' : (none : Option HO) = some u := z; cases z') (fun b z => absurd rfl z) fun z => absurd rfl z
 | none =>
  refine core (fun b => if b = a then some (.frz { cls := .type "list", data := .seq vs.toArray } (.lst (ns.map V.int))) else none) (fun b => ?_) (.inl (.inr ⟨{ cls := .type "list", data := .seq vs.toArray }, if_pos rfl⟩)) (fun b u z => ?_) (fun b z => ?_) fun _ => hk
  ·by_cases hb : b = a
   ·exact .inr ⟨_, _, if_pos hb⟩
   ·exact .inl (if_neg hb)
  ·by_cases hb : b = a
   ·have z' := (if_pos hb).symm.trans z
    cases z'
    subst hb
    exact ⟨ha, by rw [List.length_map]; exact hl, vs, _, rv, ha⟩
   ·have z' := (if_neg hb).symm.trans z
    cases z'
  ·by_cases hb : b = a
   ·exact hb
   ·exact absurd (if_neg hb) z
end L2
namespace L2
open PySem PySem.Spec PyProof.Rows
theorem zga {l : PySem.W.OpenLaw} {n k : Nat} {q : Program} {loose : List Str} {XP : (Str → Option Value) → Heap → Prop} {YP : World → Heap → Prop} {d : DefRec} {K : Params → PySem.W.Frag} {CX : World → CXT} {sp : World → Sp} {x : Str}
  (hn : l.most = some n) (hn2 : n ≤ sizeLine) (hdf : d.params.defaults = []) (hr : Room k callerA)
  (hY : ∀ (w : World) (h : Heap), YP w h → (K w.params).In h)
  (F : ∀ (w : World) (mg : Str → Option Value) (fa : Addr) (h : Heap), (K w.params).In h → h.Ns mainGlobals mg → mg d.name = some (.ref fa) →
   ∃ fd : FuncData, (∀ (s : Shared) (u : Value), BindsTo s fd ⟨[u], []⟩ [(x, u)]) ∧
    ∀ base : Heap, (K w.params).In base → base.Ns mainGlobals mg → FnOk l.prog w (K w.params) mg base (CX w) k fa fd [x] (sp w))
  (hsp : ∀ (w : World) (H : Hp) (a : Addr) (ns : List Int), ns.length ≤ n → Only H → SqL (K w.params) H a (ns.map V.int) → sp w [.ref a] H (fun v _ => v = .bl true) fun _ _ _ => False)
  (hCX : ∀ (w : World) (H : Hp) (s : Shared) (e : Value) (s' : Shared), CX w [] H s (fun _ _ _ => False) e s' → False) :
  PySem.W.WalkO q loose XP YP l.row.toRowW d [] (fun f vs => PySem.call f vs) := by
 refine Att.attach_call hn hdf fun w s₀ s₁ mg mb fa o pm cd doc a vs ns G Y ho hd hcd hmg hobj hints hlen hg => ?_
 have KX := hY w _ Y
 obtain ⟨fd, hb, hF⟩ := F w mg fa _ KX G.T.g hmg
 exact zes KX G.T.g G.T.b G.T.builtins G.T.nolimit hg hobj hints (Nat.le_trans hlen hn2) hr hF hb (fun H hO hS => hsp w H a ns hlen hO hS) fun H e s' => hCX w H s₁ e s'
theorem walk_ofK {l : PySem.W.OpenLaw} {n k : Nat} {q : Program} {loose : List Str} {XP : (Str → Option Value) → Heap → Prop} {YP : World → Heap → Prop} {d : DefRec} {K : Params → PySem.W.Frag} {CX : CXT} {sp : PySem.W.Frag → Sp} {x : Str}
  (hn : l.most = some n) (hn2 : n ≤ sizeLine) (hdf : d.params.defaults = []) (hr : Room k callerA)
  (hY : ∀ (w : World) (h : Heap), YP w h → (K w.params).In h)
  (F : ∀ (w : World) (mg : Str → Option Value) (fa : Addr) (h : Heap), (K w.params).In h → h.Ns mainGlobals mg → mg d.name = some (.ref fa) →
   ∃ fd : FuncData, (∀ (s : Shared) (u : Value), BindsTo s fd ⟨[u], []⟩ [(x, u)]) ∧
    ∀ base : Heap, (K w.params).In base → base.Ns mainGlobals mg → FnOk l.prog w (K w.params) mg base CX k fa fd [x] (sp (K w.params)))
  (hsp : ∀ (K : PySem.W.Frag) (H : Hp) (a : Addr) (ns : List Int), ns.length ≤ n → Only H → SqL K H a (ns.map V.int) → sp K [.ref a] H (fun v _ => v = .bl true) fun _ _ _ => False)
  (hCX : ∀ (H : Hp) (s : Shared) (e : Value) (s' : Shared), CX [] H s (fun _ _ _ => False) e s' → False) :
  PySem.W.WalkO q loose XP YP l.row.toRowW d [] (fun f vs => PySem.call f vs) :=
 zga (K := K) (CX := fun _ => CX) (sp := fun w => sp (K w.params)) hn hn2 hdf hr hY F (fun w H a ns h1 h2 h3 => hsp (K w.params) H a ns h1 h2 h3) fun _ H s e s' => hCX H s e s'
end L2
namespace L2
open PySem PySem.Spec PyProof.Rows
def z1d (s : Stmt) (j : Nat) : Stmt := match s with
 | .ClassDef _ _ _ body _ _ _ _ _ _ _ => body.getD j (.Pass ⟨0, 0, 0, 0⟩)
 | _ => .Pass ⟨0, 0, 0, 0⟩
def z50 (s : Stmt) : Arguments := match s with
 | .FunctionDef _ a _ _ _ _ _ _ _ _ => a
 | _ => { posonlyargs := [], args := [], vararg := none, kwonlyargs := [], kw_defaults := [], kwarg := none, defaults := [] }
def z29 (s : Stmt) : List Stmt := match s with
 | .FunctionDef _ _ b _ _ _ _ _ _ _ => b
 | _ => []
def zi (s : Stmt) : Scope := match s with
 | .FunctionDef _ _ _ _ _ _ sc _ _ _ => sc
 | _ => { kind := .function, names := [], isGenerator := false, isCoroutine := false }
abbrev CX0 : CXT := fun _ _ _ _ _ _ => False
abbrev E0 : XK := fun _ _ _ => False
theorem z7m {X : Cx} : z2y CX0 X E0 := fun _ _ _ _ _ _ _ h => h.elim
structure Fun (K : PySem.W.Frag) (x qual : Str) (st : Stmt) (f : Addr) (fd : FuncData) : Prop where
 ex : ∃ (oc : Value) (od : Option Addr) (kV doc pm : Value) (an : Option Addr) (cdv ct : Value) (osl : Array (Option Value)),
  fd = PySem.W.fnOf x qual (z50 st) (z29 st) (zi st) .none kV doc pm an cdv ct ∧ K.lookup f = some ⟨oc, od, .func fd, osl⟩ ∧ PySem.W.codeIn K cdv qual = true
 kp : PySem.W.keepIn K (.ref f) = true
section
variable {P : Program} {w : World} {K : PySem.W.Frag} {mg : Str → Option Value} {base : Heap}
theorem Fun.ok {x qual : Str} {st : Stmt} {f : Addr} {fd : FuncData} {N ps : List Str} {k : Nat} {sp : Sp} (F : Fun K x qual st f fd) (S : FnScope N ps (zi st)) (len : ∀ vs H Q E, sp vs H Q E → vs.length = ps.length)
  (hbody : ∀ (cdv : Value) (A : Around) (outer : List Env) (s : Shared) (H : Hp) (vs : List V) (Q : VK) (E : XK), Room k (A.deeper (envOfC qual (zi st) s.heap.objs.size f cdv)) → sp vs H Q E →
   ∃ t, PSs (cxOf CX0 P w K mg base N qual (zi st) f cdv A outer s H E).nox (z29 st) t ∧ t { nx := fun _ H' => Q .non H', rt := Q } (start N vs) H) : FnOk P w K mg base CX0 (k + 1) f fd ps sp := by
 obtain ⟨oc, od, kV, doc, pm, an, cdv, ct, osl, rfl, lk, hcd⟩ := F.ex
 refine zfs lk hcd S len fun A outer s H vs Q E hr hsp => ?_
 obtain ⟨t, h, q⟩ := hbody cdv A outer s H vs Q E hr hsp
 exact ⟨t, h.nox, q⟩
theorem Fun.binds {x qual : Str} {st : Stmt} {f : Addr} {fd : FuncData} {ps : List Str} (F : Fun K x qual st f fd)
  (h : ∀ (kV doc pm : Value) (an : Option Addr) (cdv ct : Value) (us : List Value), us.length = ps.length → bindArgs (PySem.W.fnOf x qual (z50 st) (z29 st) (zi st) .none kV doc pm an cdv ct) ⟨us, []⟩ = pure (ps.zip us)) : Binds K fd ps [] := by
 obtain ⟨oc, od, kV, doc, pm, an, cdv, ct, osl, rfl, lk, hcd⟩ := F.ex
 exact .all (h kV doc pm an cdv ct)
theorem fun_mk {x qual : Str} {st : Stmt} {f : Addr} {oc : Value} {od an : Option Addr} {osl : Array (Option Value)} {kV doc pm cdv ct : Value} (l : K.lookup f = some ⟨oc, od, .func (PySem.W.fnOf x qual (z50 st) (z29 st) (zi st) .none kV doc pm an cdv ct), osl⟩)
  (c : PySem.W.codeIn K cdv qual = true) (k : PySem.W.keepIn K (.ref f) = true) : Fun K x qual st f (PySem.W.fnOf x qual (z50 st) (z29 st) (zi st) .none kV doc pm an cdv ct) := ⟨⟨oc, od, kV, doc, pm, an, cdv, ct, osl, rfl, l, c⟩, k⟩
end
theorem zcd {A : Around} {k : Nat} (hr : Room k A) : A.units + 1 < cLine := Nat.lt_of_le_of_lt (Nat.add_le_add_left (by decide : 1 ≤ 64) _) hr.units
theorem z4k {n : Nat} (h : n ≤ 1000) : n < sizeLine := Nat.lt_of_le_of_lt h (by decide)
section
variable {X : Cx}
theorem pv (i : Nat) {x : Str} {pos : Pos} (hN : X.N[i]? = some x := by rfl) (hv : Vis X.env.scope x := by first | exact Or.inl rfl | exact Or.inr (Or.inl rfl) | exact Or.inr (Or.inr rfl)) (hd : (x == ("__debug__" : Str)) = false := by decide)
  (hcd : (x == ("__classdict__" : Str)) = false := by decide) : PE X (.Name x pos) (tVar i) := zgv hN hv hd hcd
end
theorem ite2 {c A B : Prop} [Decidable c] (h1 : c → A) (h2 : ¬ c → B) : if c then A else B := by
 by_cases h : c
 ·rw [if_pos h]
  exact h1 h
 ·rw [if_neg h]
  exact h2 h
def Same (H H' : Hp) : Prop := ∀ b o, H b = some o → H' b = some o
theorem Same.refl (H : Hp) : Same H H := fun _ _ h => h
theorem Same.trans {H H1 H2 : Hp} (a : Same H H1) (b : Same H1 H2) : Same H H2 := fun c o h => b c o (a c o h)
theorem Same.free {H H' : Hp} (e : Same H H') {l : Addr} (h : H' l = Option.none) : H l = Option.none := by
 cases q : H l with
 | none => rfl
 | some o =>
  rw [e l o q] at h
  cases h
theorem Same.seq {K : PySem.W.Frag} {H H' : Hp} {a : Addr} {xs : List V} (e : Same H H') (h : SqL K H a xs) : SqL K H' a xs := by
 rcases h with (h | ⟨o, h⟩) | h
 ·exact .inl (.inl (e _ _ h))
 ·exact .inl (.inr ⟨o, e _ _ h⟩)
 ·exact .inr h
end L2
end
section
namespace L2
open PySem PySem.Spec PyProof.Rows
def Its (z : Str) : It := ⟨fun i _ => i < z.cps.size, fun i H x H' => H' = H ∧ ∃ c, z.cps[i]? = some c ∧ x = .str ⟨#[c]⟩, fun i _ => z.cps.size ≤ i⟩
section
variable {X : Cx} {tg : Expr}
def iStr (tl : TE) : TI := fun σ H R => tl σ H fun x H1 => ∃ z, x = .str z ∧ R (Its z) H1
end
def z1r (env : Env) : List (Str × NameKind) → List (Str × Addr) → List (Str × Addr)
 | [], cs => cs
 | (n, k) :: r, cs => z1r env r (if k == .free then (n, (env.cells.lookup n).getD 0) :: cs else cs)
theorem z59 {sc : Scope} {env : Env} (h : ∀ y ∈ sc.names, y.2 = .free → ∃ c, env.cells.lookup y.1 = some c) : closureFor sc env = pure (z1r env sc.names []) := by
 have go : ∀ (names : List (Str × NameKind)) (cs : List (Str × Addr)), (∀ y ∈ names, y.2 = .free → ∃ c, env.cells.lookup y.1 = some c) →
   (forIn names cs fun (x : Str × NameKind) (r : List (Str × Addr)) => (if (x.2 == .free) = true then (do let a ← cellOf env x.1; pure (ForInStep.yield ((x.1, a) :: r))) else pure (ForInStep.yield r) : Sem (ForInStep (List (Str × Addr))))) = (pure (z1r env names cs) : Sem (List (Str × Addr))) := by
  intro names
  induction names with
  | nil => intro cs _; rfl
  | cons y r ih =>
   intro cs hy
   obtain ⟨n, k⟩ := y
   rw [List.forIn_cons]
   have hr : ∀ z ∈ r, z.2 = .free → ∃ c, env.cells.lookup z.1 = some c := fun z hz => hy z (List.mem_cons_of_mem _ hz)
   by_cases hk : k = .free
   ·subst hk
    obtain ⟨c, hc⟩ := hy (n, .free) List.mem_cons_self rfl
    have hc' : env.cells.lookup n = some c := hc
    simp only [beq_self_eq_true, if_true, z1r, hc', Option.getD_some, cellOf]
    exact ih ((n, c) :: cs) hr
   ·have hb : (k == NameKind.free) = false := by simpa using hk
    simp only [hb, Bool.false_eq_true, if_false, z1r]
    exact ih cs hr
 unfold closureFor
 show (forIn sc.names [] (fun (x : Str × NameKind) (r : List (Str × Addr)) => (if (x.2 == .free) = true then (do let a ← cellOf env x.1; pure (ForInStep.yield ((x.1, a) :: r))) else pure (ForInStep.yield r) : Sem (ForInStep (List (Str × Addr))))) >>= fun cs => pure cs) = _
 rw [go sc.names [] h]
 rfl
theorem z5a {env : Env} : ∀ {names : List (Str × NameKind)} {cs : List (Str × Addr)} {x : Str} {c : Addr}, (∀ y ∈ names, y.2 = .free → ∃ c, env.cells.lookup y.1 = some c) → (∀ y d, cs.lookup y = some d → env.cells.lookup y = some d) →
  (z1r env names cs).lookup x = some c → env.cells.lookup x = some c
 | [], cs, x, c, _, hcs, h => hcs x c h
 | (n, k) :: r, cs, x, c, hy, hcs, h => by
  refine z5a (names := r) (fun z hz => hy z (List.mem_cons_of_mem _ hz)) ?_ h
  intro y d e
  by_cases hk : (k == NameKind.free) = true
  ·rw [if_pos hk, List.lookup_cons] at e
   obtain ⟨c', hc'⟩ := hy (n, k) List.mem_cons_self (by simpa using hk)
   have hc' : env.cells.lookup n = some c' := hc'
   cases hyn : y == n with
   | true =>
    rw [hyn] at e
    have : y = n := by simpa using hyn
    subst this
    simp only [hc', Option.getD_some] at e
    rw [hc']; exact e
   | false =>
    rw [hyn] at e
    exact hcs y d e
  ·rw [if_neg hk] at e
   exact hcs y d e
theorem z6r {env : Env} : ∀ {names : List (Str × NameKind)} {cs : List (Str × Addr)} {x : Str}, (∃ c, cs.lookup x = some c) → ∃ c, (z1r env names cs).lookup x = some c
 | [], cs, x, h => h
 | (n, k) :: r, cs, x, h => by
  refine z6r (names := r) ?_
  split
  ·rw [List.lookup_cons]
   cases hxn : x == n with
   | true => exact ⟨_, rfl⟩
   | false => exact h
  ·exact h
theorem z36 {env : Env} : ∀ {names : List (Str × NameKind)} {cs : List (Str × Addr)} {x : Str}, (x, NameKind.free) ∈ names → ∃ c, (z1r env names cs).lookup x = some c
 | [], _, _, h => by simp at h
 | (n, k) :: r, cs, x, h => by
  rcases List.mem_cons.mp h with e | h
  ·cases e
   refine z6r (names := r) ?_
   rw [if_pos (by rfl), List.lookup_cons]
   rw [show (n == n) = true by simp]
   exact ⟨_, rfl⟩
  ·exact z36 (names := r) h
theorem z3h {env : Env} {sc : Scope} {x : Str} {k : NameKind} (h : (relabel sc env).names.lookup x = some k) (hk : k = .cell ∨ k = .free) (hc : ∀ y ∈ sc.names, y.2 ≠ .cell) : (x, NameKind.free) ∈ sc.names := by
 have hm := PySem.mem_of_lookup h
 unfold relabel at hm
 obtain ⟨⟨n, k'⟩, hn, e⟩ := List.mem_map.mp hm
 by_cases hf : (k' == NameKind.free && env.scope.kind == .function && env.kindOf n == some .cell) = true
 ·have e' : (n, NameKind.cell) = (x, k) := by
   have := e
   simp only [hf, if_true] at this
   exact this
  injection e' with e1 e2
  subst e1
  have hk' : k' = .free := by
   rw [Bool.and_eq_true, Bool.and_eq_true] at hf
   simpa using hf.1.1
  rw [hk'] at hn
  exact hn
 ·have e' : (n, k') = (x, k) := by
   have := e
   simp only [hf, if_false] at this
   exact this
  injection e' with e1 e2
  subst e1 e2
  rcases hk with z | z
  ·exact absurd z (hc _ hn)
  ·rw [z] at hn; exact hn
abbrev zu (X : Cx) (sc : Scope) (N : List Str) (s : Shared) (H : Hp) (C : Addr) (fp : List Addr) : Cx :=
 { X with N := N, s₀ := s, H₀ := H, env := compEnvC sc (z1r X.env sc.names []) C X.env, outer := X.stack, stack := X.stack, ex := fp, fn := fun _ => false, pn := [], xe := fun _ _ => False }
def CapOk (X : Cx) (sc : Scope) : List Str → List Nat → Prop
 | [], [] => True
 | y :: r, j :: js => (X.N[j]? = some y ∧ (X.env.kindOf y = some .cell ∨ X.env.kindOf y = some .free) ∧ sc.names.lookup y = some .free) ∧ CapOk X sc r js
 | _, _ => False
theorem CapOk.len {X : Cx} {sc : Scope} : ∀ {cap : List Str} {js : List Nat}, CapOk X sc cap js → cap.length = js.length
 | [], [], _ => rfl
 | _ :: _, _ :: _, h => congrArg (· + 1) (CapOk.len h.2)
 | [], _ :: _, h => h.elim
 | _ :: _, [], h => h.elim
theorem CapOk.get {X : Cx} {sc : Scope} : ∀ {cap : List Str} {js : List Nat} {i : Nat} {y : Str}, CapOk X sc cap js → cap[i]? = some y → ∃ j, js[i]? = some j ∧ X.N[j]? = some y ∧ (X.env.kindOf y = some .cell ∨ X.env.kindOf y = some .free) ∧ sc.names.lookup y = some .free
 | [], [], _, _, _, e => by simp at e
 | y :: _, j :: _, 0, _, h, e => by
  simp at e; subst e
  exact ⟨j, rfl, h.1⟩
 | _ :: r, _ :: js, i + 1, y, h, e => by
  obtain ⟨j, e1, e2⟩ := CapOk.get (i := i) h.2 (by simpa using e)
  exact ⟨j, by simpa using e1, e2⟩
 | [], _ :: _, _, _, h, _ => h.elim
 | _ :: _, [], _, _, h, _ => h.elim
def capt (σ : St) (js : List Nat) : St := js.map fun j => (σ[j]?).join
structure CompScope (X : Cx) (sc : Scope) (x : Str) (cap : List Str) (js : List Nat) : Prop where
 kind : sc.kind = .function
 nocell : ∀ y ∈ sc.names, y.2 ≠ .cell
 names : ∀ y ∈ sc.names, y.2 = .local → sc.names.lookup y.1 = some .local
 own : sc.names.lookup x = some .local
 free : ∀ y ∈ sc.names, y.2 = .free → X.env.kindOf y.1 = some .cell ∨ X.env.kindOf y.1 = some .free
 nd : (x :: cap).Nodup
 caps : CapOk X sc cap js
section
variable {X : Cx} {sc : Scope} {x : Str} {cap : List Str} {js : List Nat} {pins : List (Addr × Obj)} {σ : St} {H : Hp} {s : Shared}
theorem CompScope.cells (S : CompScope X sc x cap js) (I : Inv X pins σ H s) : ∀ y ∈ sc.names, y.2 = .free → ∃ c, X.env.cells.lookup y.1 = some c := fun y hy hf => I.ok.has y.1 (S.free y hy hf)
theorem CompScope.sub (S : CompScope X sc x cap js) (I : Inv X pins σ H s) {y : Str} {c : Addr} (h : (z1r X.env sc.names []).lookup y = some c) : X.env.cells.lookup y = some c :=
 z5a (S.cells I) (fun _ _ e => by simp at e) h
theorem zce {s4 : Shared} {h4 : Heap} {t4 : Nat} {fp : List Addr} {C : Addr} {v : Option V} {m : Str → Option Value} (S : CompScope X sc x cap js) (I : Inv X pins σ H s) (hfp : ∀ b ∈ fp, FpOk X pins H b) (hlt : ∀ b ∈ fp, b < s.heap.objs.size)
  (hC : s.heap.objs.size ≤ C) (hn : h4.Ns C m) (k : ∀ b o, s.heap.get? b = some o → h4.get? b = some o) :
  Inv (zu X sc (x :: cap) s H C fp) [] (none :: capt σ js) H { s with heap := h4, toks := t4 } := by
 have nf : ∀ b ∈ frs X.stack, b < s.heap.objs.size := fun b hb => by
  obtain ⟨_, o, ho, _⟩ := I.stack.mem hb
  exact Heap.lt_size ho
 refine ⟨⟨I.ok.mod, S.kind, I.ok.glob, I.ok.blt, hC, fun y z c h1 h2 => I.ok.inj y z c (S.sub I h1) (S.sub I h2), fun y hy => ?_, fun y c h => absurd h Bool.false_ne_true, I.ok.hd, I.ok.frames, .inl rfl, fun b hb => ⟨Nat.ne_of_lt (Nat.lt_of_lt_of_le (hlt b hb) hC), fun y c e => (hfp b hb).2.2.2.2.1 y c (S.sub I e)⟩, I.bs,
   Nat.le_trans I.ok.bsz I.sz, fun b o e hb => ?_, fun b hb z => ?_, I.stack, I.stkFree⟩, rfl, I.bare, Un.kept k, ⟨m, hn, fun i y v' h1 h2 h3 => ?_⟩, fun y c e => ?_, I.hok.fresh hC, fun y c e => I.freeC y c (S.sub I e), fun p hp => absurd (show p ∈ ([] : List (Addr × Obj)) from hp) (by simp), I.hok.kept k, ?_⟩
 ·exact z36 (by
   rcases hy with z | z
   ·exact z3h z (.inl rfl) S.nocell
   ·exact z3h z (.inr rfl) S.nocell)
 ·rcases (hfp b hb).2.2.2.1 with z | z
  ·exact I.ok.noex b o e z
  ·exact absurd (Nat.lt_of_lt_of_le (Heap.lt_size e) (Nat.le_trans I.ok.bsz z)) (Nat.lt_irrefl _)
 ·rcases List.mem_cons.mp (I.stkSub b z) with q | q
  ·exact (hfp b hb).2.1 q
  ·exact (hfp b hb).2.2.1 q
 ·cases i with
  | zero => exact absurd (show (none : Option V) = some v' from Option.some.inj h2) (by simp)
  | succ i =>
   have e1 : cap[i]? = some y := by simpa using h1
   obtain ⟨j, q1, q2, q3, q4⟩ := S.caps.get e1
   have e2 : (capt σ js)[i]? = some (some v') := by simpa using h2
   have e3 : σ[j]? = some (some v') := by
    unfold capt at e2
    rw [List.getElem?_map, q1, Option.map_some] at e2
    have e4 : (σ[j]?).join = some v' := Option.some.inj e2
    cases q : σ[j]? with
    | none => rw [q] at e4; cases e4
    | some w => rw [q] at e4; exact congrArg some e4
   have vis : Vis X.env.scope y := by
    rcases q3 with q3 | q3
    ·exact .inr (.inl q3)
    ·exact .inr (.inr q3)
   obtain ⟨mX, hnX, hl⟩ := I.loc
   obtain ⟨u, ru, lk⟩ := hl j y v' q2 e3 vis
   refine ⟨u, ru, .inr ?_⟩
   rcases lk with ⟨hk, _⟩ | ⟨hk, c, hc, hcell⟩
   ·rcases q3 with q3 | q3
    ·rw [q3] at hk; cases hk
    ·rw [q3] at hk; cases hk
   ·obtain ⟨c', hc'⟩ := z36 (env := X.env) (cs := []) (PySem.mem_of_lookup q4)
    have := S.sub I hc'
    rw [hc] at this
    cases this
    obtain ⟨o, ho, hd⟩ := hcell
    refine ⟨?_, c, hc', ⟨o, k c o ho, hd⟩⟩
    rcases h3 with z | z | z
    ·exfalso
     have hz := PySem.mem_of_lookup z
     obtain ⟨⟨n, k'⟩, hn', en⟩ := List.mem_map.mp hz
     by_cases hf : (k' == NameKind.free && X.env.scope.kind == .function && X.env.kindOf n == some .cell) = true
     ·simp only [hf, if_true] at en
      cases en
     ·simp only [hf, if_false] at en
      cases en
      have := S.names _ hn' rfl
      rw [q4] at this
      cases this
    ·exact .inl z
    ·exact .inr z
 ·obtain ⟨v', o, ho, hd⟩ := I.cell y c (S.sub I e)
  exact ⟨v', o, k c o ho, hd⟩
 ·show (none :: capt σ js).length = (x :: cap).length
  unfold capt
  rw [List.length_cons, List.length_cons, List.length_map, S.caps.len]
theorem z75 {sB : Shared} {hB : Heap} {fp : List Addr} {C D : Addr} {HB : Hp} {σB : St} {pinsB : List (Addr × Obj)} {acc : List V} {its : List Value} {n : Nat}
  (I : Inv X pins σ H s) (hfp : ∀ b ∈ fp, FpOk X pins H b) (IB : Inv (zu X sc (x :: cap) s H C fp) pinsB σB HB sB) (hC : s.heap.objs.size ≤ C) (hD : s.heap.objs.size ≤ D) (hDC : D ≠ C) (hHD : HB D = none)
  (hd : sB.heap.get? D = some { cls := .type "list", data := .seq its.toArray n }) (rv : Vals acc its) (hz : acc.length ≤ sizeLine) (sb : ∀ b o, b ≠ C → sB.heap.get? b = some o → hB.get? b = some o) :
  Inv X pins σ (upd HB D (.lst acc)) { sB with heap := hB } := by
 have u := IB.base
 have hdB := sb D _ hDC hd
 have ltD : ∀ b o, s.heap.get? b = some o → b ≠ D := fun b o e => Nat.ne_of_lt (Nat.lt_of_lt_of_le (Heap.lt_size e) hD)
 have ltC : ∀ b o, s.heap.get? b = some o → b ≠ C := fun b o e => Nat.ne_of_lt (Nat.lt_of_lt_of_le (Heap.lt_size e) hC)
 refine I.call' (ch := fp) IB.os ⟨fun b o e n hb hx => sb b o (ltC b o e) (u.keep b o e n hb hx), fun b o e n hb hx => ?_, fun b o e n hx => by rw [zb (ltD b o e)]; exact u.free b o e n hx, fun b o e hx => ?_,
  fun b xs e => by rw [zb (zh (u.tups b xs e) hHD)]; exact u.tups b xs e, fun b o xs e => by rw [zb (zh (u.frzs b o xs e) hHD)]; exact u.frzs b o xs e, fun b ps e => ?_⟩ ?_ IB.bare fun b hb => ?_
 ·obtain ⟨sl, q⟩ := u.slot b o e n hb hx
  exact ⟨sl, sb b _ (ltC b o e) q⟩
 ·obtain ⟨o', q⟩ := u.there b o e hx
  exact ⟨o', sb b _ (ltC b o e) q⟩
 ·obtain ⟨m1, q⟩ := u.tbls b ps e
  exact ⟨m1, by rw [zb (zh q hHD)]; exact q⟩
 ·intro a o e
  by_cases ha : a = D
  ·subst ha
   rw [z9] at e
   cases e
   exact ⟨hz, its, n, rv, hdB⟩
  ·rw [zb ha] at e
   refine (IB.hok a o e).stay (fun b w' hb q => sb b w' (fun z => ?_) q) (fun b q => by rw [zb (zh q hHD)]; exact q) fun b xs q => by rw [zb (zh q hHD)]; exact q
   have fC : HB C = none := IB.free
   rcases hb with hb | hb
   ·rw [z] at hb; rw [← hb, fC] at e; cases e
   ·rw [z, fC] at hb; cases hb
 ·obtain ⟨f0, f1, f2, f3, f4, f5⟩ := hfp b hb
  exact ⟨f3, f1, f4, f5⟩
end
end L2
end
section
namespace L2
open PySem PySem.Spec PyProof.Rows
def PIf (X : Cx) (ifs : List Expr) (t : TT) : Prop :=
 ∀ (pins : List (Addr × Obj)) (s : Shared) (σ : St) (H : Hp) (Q : Bool → Hp → Prop), Inv X pins σ H s → t σ H Q →
  wpAny (model X.prog X.w) X.A (forIn ifs true fun c r => if r = true then do let ok ← isTrue c X.env (eval c X.env); pure (ForInStep.yield ok) else pure (ForInStep.yield r)) (TP X pins σ Q) X.xe s
def tYes : TT := fun _ H Q => Q true H
theorem z2r {X : Cx} : PIf X [] tYes := fun _ _ _ H _ I h => wpAny_pure ⟨H, I, h⟩
theorem z2f {X : Cx} {c : Expr} {tc : TT} (h : PT X c tc) : PIf X [c] tc := by
 intro pins s σ H Q I hw
 simp only [List.forIn_cons, List.forIn_nil, if_true]
 refine wpAny_bind (wpAny_bind (thn (h pins s σ H Q I hw) fun b s1 q => ?_))
 exact wpAny_pure (wpAny_pure q)
def z3n (J : It) (tc : TT) (te : TE) (js : List Nat) (σ : St) (H1 : Hp) (Q : VK) : Prop :=
 ∃ W : Nat → Nat → List V → Hp → Prop, (∃ m, W 0 m [] H1) ∧ ∀ i m acc H, W i m acc H →
  (J.stop i H ∧ ∀ p, H p = none → Q (.ref p) (upd H p (.lst acc))) ∨
  (J.go i H ∧ acc.length < sizeLine ∧ ∀ x H', J.yld i H x H' → tc (some x :: capt σ js) H' fun b H2 =>
   if b = true then te (some x :: capt σ js) H2 fun v H3 => ∃ m', m' < m ∧ W (i + 1) m' (acc ++ [v]) H3 else ∃ m', m' < m ∧ W (i + 1) m' acc H2)
def zcf (wi : TI) (tc : TT) (te : TE) (js : List Nat) : TE := fun σ H Q => wi σ H fun J H1 => z3n J tc te js σ H1 Q
theorem z6s {prog : Program} {w : World} {A : Around} {R : Result → Shared → Prop} {s : Shared} {elt target iter : Expr} {ifs : List Expr} {scope : Scope} {pos : Pos} {it acc : Value} {env : Env} (I : Nat → Shared → Prop)
  (turn : ∀ n s, I n s → wpAny (model prog w) A (pyNext it) (fun r s₁ => match r with
   | none => R (.ok .next) s₁
   | some v => wpAny (model prog w) A (letOwnedTupleGo target it v) (fun _ s₀ => wpAny (model prog w) A (assign target env v) (fun _ s₂ =>
     wpAny (model prog w) A (forIn ifs true fun c r => if r = true then do let ok ← isTrue c env (eval c env); pure (ForInStep.yield ok) else pure (ForInStep.yield r)) (fun ok s₃ =>
      if ok = true then wpAny (model prog w) A (eval elt env) (fun x s₄ =>
       wpAny (model prog w) A (call (.builtin "list.append") [acc, x]) (fun _ s₅ => ∃ m, m < n ∧ I m s₅) (fun _ _ => False) s₄) (fun _ _ => False) s₃
      else ∃ m, m < n ∧ I m s₃) (fun _ _ => False) s₂) (fun _ _ => False) s₀) (fun _ _ => False) s₁) (fun _ _ => False) s)
  (n : Nat) (h : I n s) :
  codeAny (model prog w) A (.compLoop (.ListComp elt [⟨target, iter, ifs, 0⟩] scope pos) 0 it acc env) R s := by
 refine codeAny_loop rfl I (fun n s hI => ?_) n h
 show wpAny _ A ((compTurn (.ListComp elt [⟨target, iter, ifs, 0⟩] scope pos) 0 it acc env).onRaise (fun x => do noteFrame x env; theTreesLotGoes x)) _ _ s
 refine wpAny_noted (wpAny_mono (E := fun _ _ => False) ?_ (fun _ _ q => q) fun _ _ z => z.elim)
 rw [compTurn_list]
 refine wpAny_bind (wpAny_standAt (wpAny_bind (wpAny_mono (turn n s hI) (fun r s₁ h₁ => ?_) fun _ _ h' => h')))
 cases r with
 | none => exact wpAny_pure h₁
 | some v =>
  refine wpAny_bind (wpAny_mono h₁ (fun _ s₀ h₀ => ?_) fun _ _ h' => h')
  refine wpAny_bind (wpAny_mono h₀ (fun _ s₂ h₂ => wpAny_bind (wpAny_mono h₂ (fun ok s₃ h₃ => ?_) fun _ _ h' => h')) fun _ _ h' => h')
  cases ok with
  | false => exact wpAny_pure ⟨rfl, h₃⟩
  | true =>
   exact wpAny_bind (wpAny_bind (wpAny_mono h₃ (fun x s₄ h₄ => wpAny_bind (wpAny_mono h₄ (fun _ s₅ h₅ => wpAny_pure (wpAny_pure ⟨rfl, h₅⟩)) fun _ _ h' => h')) fun _ _ h' => h'))
section
variable {X : Cx} {sc : Scope} {x : Str} {cap : List Str} {js : List Nat} {pins : List (Addr × Obj)} {σ : St} {H : Hp} {s : Shared} {elt iter : Expr} {ifs : List Expr} {px pos : Pos} {tc : TT} {te : TE}
theorem z7n {J : It} {it : Addr} {fp : List Addr} {tn : Nat → Heap → Prop} {Q : VK} {E : Value → Shared → Prop} {RR : Value → Addr → Result → Shared → Prop} (S : CompScope X sc x cap js) (hcalm : X.calm = true)
  (hc : ∀ s H C fp, PIf (zu X sc (x :: cap) s H C fp) ifs tc) (he : ∀ s H C fp, PE (zu X sc (x :: cap) s H C fp) elt te)
  (I : Inv X pins σ H s) (T : Turn X.prog X.w X.K (.Name x px) J fp it tn) (st : tn 0 s.heap) (hfp : ∀ b ∈ fp, FpOk X pins H b) (go : z3n J tc te js σ H Q)
  (hRR : ∀ D C HB sB σB acc its n, s.heap.objs.size ≤ D → s.heap.objs.size ≤ C → D ≠ C → Inv (zu X sc (x :: cap) s H C fp) [] σB HB sB → HB D = none → sB.heap.get? D = some { cls := .type "list", data := .seq (its : List Value).toArray n } → Vals acc its → acc.length ≤ sizeLine →
   (∀ p, HB p = none → Q (.ref p) (upd HB p (.lst acc))) → RR (.ref D) C (.ok .next) sB) :
  wpAny (model X.prog X.w) X.A (newList []) (fun acc s₃ => wpAny (model X.prog X.w) X.A (newFunctionEnv sc X.env.globals (z1r X.env sc.names []) [] X.env.qual none .none (some X.env)) (fun cenv s₄ =>
   codeAny (model X.prog X.w) X.A (.compStart (.ListComp elt [⟨.Name x px, iter, ifs, 0⟩] sc pos) 0 (.ref it) acc { cenv with scope := relabel sc X.env }) (RR acc cenv.locals) s₄) E s₃) E s := by
 refine wpAny_newObj_type (wpAny_newFunctionEnv S.nocell (by intro y hy; simp at hy) (fun h₁ hns₁ hsb₁ => ?_) S.kind)
 dsimp only at hns₁ hsb₁ ⊢
 generalize hH2 : s.heap.push { cls := .type "list", dict := none, data := .seq ([] : List Value).toArray } = H2 at hns₁ hsb₁ ⊢
 have hCs : H2.objs.size = s.heap.objs.size + 1 := by rw [← hH2, Heap.size_push]
 have hDC : s.heap.objs.size ≠ H2.objs.size := by rw [hCs]; exact Nat.ne_of_lt (Nat.lt_succ_self _)
 have hCle : s.heap.objs.size ≤ H2.objs.size := by rw [hCs]; exact Nat.le_succ _
 have below : ∀ b, b < s.heap.objs.size → b ≠ H2.objs.size := fun b hb => by rw [hCs]; exact Nat.ne_of_lt (Nat.lt_succ_of_lt hb)
 have old : ∀ b o, s.heap.get? b = some o → h₁.get? b = some o := fun b o e => hsb₁.extBut b o (below b (Heap.lt_size e)) (Heap.get?_push_of_some _ (hH2 ▸ Heap.get?_push_of_some _ e))
 have hacc : h₁.get? s.heap.objs.size = some { cls := .type "list", data := .seq ([] : List Value).toArray 0 } := hsb₁.extBut _ _ hDC (Heap.get?_push_of_some _ (hH2 ▸ Heap.get?_push_size _ rfl))
 have hlt : ∀ b ∈ fp, b < s.heap.objs.size := fun b hb => by
  obtain ⟨o, e, _⟩ := T.obj _ _ st b hb
  exact Heap.lt_size e
 have hlocal : (relabel sc X.env).names.lookup x = some .local := lookup_relabel_local S.own
 obtain ⟨W, ⟨m0, w0⟩, turn⟩ := go
 have nD : ∀ b ∈ fp, b ≠ s.heap.objs.size := fun b hb => Nat.ne_of_lt (hlt b hb)
 have nfs : s.heap.objs.size ∉ frs X.stack := fun z => by
  obtain ⟨_, o, ho, _⟩ := I.stack.mem z
  exact absurd (Heap.lt_size ho) (Nat.lt_irrefl _)
 have ncl : ∀ y c, (z1r X.env sc.names []).lookup y = some c → c ≠ s.heap.objs.size := fun y c e => by
  obtain ⟨v, o, ho, _⟩ := I.cell y c (S.sub I e)
  exact Nat.ne_of_lt (Heap.lt_size ho)
 have loop : ∀ s₃ : Shared, s₃ = { s with heap := h₁, toks := s.toks + ([] : List (Str × Value)).length } →
   codeAny (model X.prog X.w) X.A (.compLoop (.ListComp elt [⟨.Name x px, iter, ifs, 0⟩] sc pos) 0 (.ref it) (.ref s.heap.objs.size) (compEnvC sc (z1r X.env sc.names []) H2.objs.size X.env))
    (RR (.ref s.heap.objs.size) H2.objs.size) s₃ := by
  rintro s₃ rfl
  have I0 : Inv (zu X sc (x :: cap) s H H2.objs.size fp) [] (none :: capt σ js) H { s with heap := h₁, toks := s.toks + ([] : List (Str × Value)).length } := zce (v := none) S I hfp hlt hCle hns₁ old (s4 := s)
  refine z6s (fun n s' => ∃ i H' acc its k, Inv (zu X sc (x :: cap) s H H2.objs.size fp) [] (none :: capt σ js) H' s' ∧ tn i s'.heap ∧ (∀ b ∈ fp, H' b = none) ∧ H' s.heap.objs.size = none ∧
    s'.heap.get? s.heap.objs.size = some { cls := .type "list", data := .seq (its : List Value).toArray k } ∧ Vals acc its ∧ acc.length ≤ sizeLine ∧ W i n acc H') ?_ m0
   ⟨0, H, [], [], 0, I0, T.keep _ _ _ st fun b _ o e => old b o e, fun b hb => (hfp b hb).1, I.hok.fresh (Nat.le_refl _), hacc, .nil, Nat.zero_le _, w0⟩
  rintro n s3 ⟨i, H3, acc, its, kk, I3, st3, fr3, fD3, d3, r3, z3, w3⟩
  have fpY : ∀ {H' : Hp} {pl : List (Addr × Obj)}, (∀ b ∈ fp, H' b = none) → (∀ p ∈ pl, p.1 = s.heap.objs.size) → ∀ b ∈ fp, FpOk (zu X sc (x :: cap) s H H2.objs.size fp) pl H' b := fun {H' pl} hn hp b hb =>
   ⟨hn b hb, below b (hlt b hb), fun z => by
    rcases List.mem_cons.mp (I.stkSub b z) with q | q
    ·exact (hfp b hb).2.1 q
    ·exact (hfp b hb).2.2.1 q, .inl hb, fun y c e => (hfp b hb).2.2.2.2.1 y c (S.sub I e), fun p hp' => by
    rw [hp p hp']
    exact Ne.symm (nD b hb)⟩
  have pin3 : Inv (zu X sc (x :: cap) s H H2.objs.size fp) [(s.heap.objs.size, { cls := .type "list", data := .seq its.toArray kk })] (none :: capt σ js) H3 s3 := I3.pins_of fun p hp => by
   have e : p = (s.heap.objs.size, { cls := .type "list", data := .seq its.toArray kk }) := by simpa using hp
   subst e
   exact ⟨d3, fD3, hDC, nfs, fun v z => by cases z⟩
  have onlyD : ∀ p ∈ [(s.heap.objs.size, ({ cls := .type "list", data := .seq its.toArray kk } : Obj))], p.1 = s.heap.objs.size := fun p hp => by
   have e : p = (s.heap.objs.size, { cls := .type "list", data := .seq its.toArray kk }) := by simpa using hp
   rw [e]
  rcases turn i n acc H3 w3 with ⟨stop, qn⟩ | ⟨gon, hlen, step⟩
  ·refine wpAny_mono (T.done (zu X sc (x :: cap) s H H2.objs.size fp) rfl rfl rfl hcalm i _ s3 _ H3 (fun _ _ => False) pin3 (fpY fr3 onlyD) st3 stop) (fun r s4 hr => ?_) fun _ _ z => z.elim
   obtain ⟨hr, I4⟩ := hr
   subst hr
   have d4 := (I4.pin _ (List.mem_append_right _ List.mem_cons_self)).1
   exact hRR _ _ H3 s4 _ acc its kk (Nat.le_refl _) hCle hDC (I4.pins_of fun p hp => by simp at hp) fD3 d4 r3 z3 qn
  ·refine wpAny_mono (T.item (zu X sc (x :: cap) s H H2.objs.size fp) rfl rfl rfl hcalm i _ s3 _ H3 (fun _ _ => False) pin3 (fpY fr3 onlyD) st3 gon) (fun r s4 hr => ?_) fun _ _ z => z.elim
   obtain ⟨u, hr, h4⟩ := hr
   subst hr
   dsimp only
   refine wpAny_mono h4 (fun _ s5 h5 => ?_) fun _ _ z => z.elim
   obtain ⟨xv, H5, I5, r5, y5, st5, fr5⟩ := h5
   have I5' := I5.pinned (fpY fr5 onlyD) (T.obj _ _ st5)
   refine wpAny_assign_Name (z74 (X := zu X sc (x :: cap) s H H2.objs.size fp) I5' S.nd (i := 0) rfl (.inl hlocal) r5 (fun s6 I6 => ?_) (.inr hlocal))
   have I6' : Inv (zu X sc (x :: cap) s H H2.objs.size fp) ([(s.heap.objs.size, { cls := .type "list", data := .seq its.toArray kk })] ++ z43 fp s5.heap) (some xv :: capt σ js) H5 s6 := I6
   refine wpAny_mono (hc s H H2.objs.size fp _ s6 _ H5 _ I6' (step xv H5 y5)) (fun b s7 q7 => ?_) fun _ _ z => z.elim
   obtain ⟨H7, I7, q7⟩ := q7
   have weak : ∀ {pl : List (Addr × Obj)} {HH : Hp} {ss : Shared}, Inv (zu X sc (x :: cap) s H H2.objs.size fp) pl (some xv :: capt σ js) HH ss → Inv (zu X sc (x :: cap) s H H2.objs.size fp) pl (none :: capt σ js) HH ss := fun J => J.weak rfl fun k v e => by
    cases k with
    | zero => exact absurd (Option.some.inj e) (by simp)
    | succ k => simpa using e
   have back : ∀ {HH : Hp} {ss : Shared}, Inv (zu X sc (x :: cap) s H H2.objs.size fp) ([(s.heap.objs.size, { cls := .type "list", data := .seq its.toArray kk })] ++ z43 fp s5.heap) (some xv :: capt σ js) HH ss →
     tn (i + 1) ss.heap ∧ (∀ b ∈ fp, HH b = none) ∧ HH s.heap.objs.size = none ∧ ss.heap.get? s.heap.objs.size = some { cls := .type "list", data := .seq its.toArray kk } := fun {HH ss} K => by
    refine ⟨T.keep _ _ _ st5 fun b hb o e => (K.pin (b, o) (List.mem_append_right _ (List.mem_append_right _ (z2q hb e)))).1, fun b hb => ?_, ?_, ?_⟩
    ·obtain ⟨o, e, d⟩ := T.obj _ _ st5 b hb
     exact (K.pin (b, o) (List.mem_append_right _ (List.mem_append_right _ (z2q hb e)))).2.1
    ·exact (K.pin _ (List.mem_append_right _ (List.mem_append_left _ List.mem_cons_self))).2.1
    ·exact (K.pin _ (List.mem_append_right _ (List.mem_append_left _ List.mem_cons_self))).1
   cases b with
   | false =>
    rw [if_neg Bool.false_ne_true] at q7 ⊢
    obtain ⟨m', hm, w7⟩ := q7
    obtain ⟨b1, b2, b3, b4⟩ := back I7
    exact ⟨m', hm, i + 1, H7, acc, its, kk, (weak I7).pins_of fun p hp => by simp at hp, b1, b2, b3, b4, r3, z3, w7⟩
   | true =>
    rw [if_pos rfl] at q7 ⊢
    refine wpAny_mono (he s H H2.objs.size fp _ s7 _ H7 _ I7 q7) (fun u8 s8 q8 => ?_) fun _ _ z => z.elim
    obtain ⟨v8, H8, I8, r8, m', hm, w8⟩ := q8
    obtain ⟨b1, b2, b3, b4⟩ := back I8
    have hl3 := r3.length
    refine call_meets F.slot_list_append ⟨_, b4, rfl⟩ F.entry_list_append (F.args_list_append_2 _ _) (PySem.list_append s.heap.objs.size its.toArray kk u8 (by rw [List.size_toArray]; omega)) ⟨b4, ?_⟩
    have q := PySem.IsL.update b4 (·.push u8)
    obtain ⟨n', q'⟩ : ∃ n', (s8.heap.update s.heap.objs.size (Obj.mapSeq (·.push u8))).get? s.heap.objs.size = some { cls := .type "list", data := .seq (its ++ [u8]).toArray n' } := by
     rw [show (its ++ [u8]).toArray = its.toArray.push u8 by simp]
     exact ⟨_, q⟩
    refine ⟨m', hm, i + 1, H8, acc ++ [v8], its ++ [u8], _, ?_, T.keep _ _ _ b1 fun b hb o e => (Heap.get?_update_other s8.heap _ (Ne.symm (nD b hb))).trans e, b2, b3, q', r3.append (.cons r8 .nil), by rw [List.length_append, List.length_singleton]; omega, w8⟩
    exact Inv.turned (X := zu X sc (x :: cap) s H H2.objs.size fp) (it := s.heap.objs.size) ((weak I8).pins_of (pins' := []) fun p hp => by simp at hp) (fun b o hb e => (Heap.get?_update_other s8.heap _ (Ne.symm hb)).trans e) b3 hDC (.inr (Nat.le_refl _)) ncl (fun p hp => absurd (show p ∈ ([] : List (Addr × Obj)) from hp) (by simp))
 exact codeAny_compStart_list (loop _ rfl) (T.self _ 0 _ _ _ (T.keep _ _ _ st fun b _ o e => old b o e) (loop _ rfl))
theorem z1y {wi : TI} (hcalm : X.calm = true) (S : CompScope X sc x cap js) (hi : PI X (.Name x px) iter wi) (hc : ∀ s H C fp, PIf (zu X sc (x :: cap) s H C fp) ifs tc) (he : ∀ s H C fp, PE (zu X sc (x :: cap) s H C fp) elt te)
  (hs : ∀ x, foldedSetIterable iter X.env x = pure x := by intro _; rfl) : PE X (.ListComp elt [⟨.Name x px, iter, ifs, 0⟩] sc pos) (zcf wi tc te js) := by
 intro pins s σ H Q I h
 rw [eval_ListComp]
 refine wpAny_comprehension_free (use := none) rfl hs (z59 (S.cells I)) S.kind S.names (thn (hi pins s σ H _ I h) fun v s1 h1 => thn h1 fun itv s2 h2 => ?_)
 obtain ⟨it, fp, tn, J, H2, e, I2, T, st2, f2, go⟩ := h2
 subst e
 refine z7n S hcalm hc he I2 T st2 f2 go fun D C HB sB σB acc its n hD hC hDC IB hHD hd rv hz q => ?_
 obtain ⟨m, hn, _⟩ := IB.loc
 exact ⟨m, hn, fun h' sb => ⟨.ref D, upd HB D (.lst acc), z75 (sc := sc) (x := x) (cap := cap) I2 f2 IB hC hD hDC hHD hd rv hz fun b o hb e => sb.extBut b o hb e, rfl, q D hHD⟩⟩
theorem z3w {wi : TI} {i : Nat} {y : Str} {py spos : Pos} (hcalm : X.calm = true) (S : CompScope X sc x cap js) (hN : X.N.Nodup) (hi' : X.N[i]? = some y) (hx : Loc X.env.scope y) (hi : PI X (.Name x px) iter wi) (hc : ∀ s H C fp, PIf (zu X sc (x :: cap) s H C fp) ifs tc) (he : ∀ s H C fp, PE (zu X sc (x :: cap) s H C fp) elt te)
  (hsw : swapsWith (.ListComp elt [⟨.Name x px, iter, ifs, 0⟩] sc pos) (some (.Name y py)) spos.line X.env = pure true := by rfl) (hs : ∀ x, foldedSetIterable iter X.env x = pure x := by intro _; rfl)
  (hf : X.fn y = true ∨ X.env.scope.names.lookup y = some .local := by first | exact .inl rfl | exact .inr rfl | assumption) : PS X (.Assign [.Name y py] (.ListComp elt [⟨.Name x px, iter, ifs, 0⟩] sc pos) spos) (tAsg (zcf wi tc te js) (za0 i)) := by
 intro pins s σ H D I h
 rw [exec_Assign_Name_used _ _ _ _ hsw]
 refine wpAny_bind (wpAny_standAt (wpAny_bind ?_))
 show wpAny _ X.A (do let _ ← comprehension (.ListComp elt [⟨.Name x px, iter, ifs, 0⟩] sc pos) sc X.env _ (newList []) false (eval iter X.env) (some (assign (.Name y py) X.env))) _ _ s
 refine wpAny_bind (wpAny_mono (wpAny_comprehension_free (use := some (assign (.Name y py) X.env)) (Q := fun _ s' => SP X pins D .next s') rfl hs (z59 (S.cells I)) S.kind S.names (thn (hi pins s σ H _ I h) fun v s1 h1 => thn h1 fun itv s2 h2 => ?_)) (fun _ s' hq => wpAny_pure (wpAny_pure hq)) fun _ _ e => e)
 obtain ⟨it, fp, tn, J, H2, e, I2, T, st2, f2, go⟩ := h2
 subst e
 refine z7n S hcalm hc he I2 T st2 f2 go fun D' C HB sB σB acc its n hD hC hDC IB hHD hd rv hz q => ?_
 obtain ⟨m, hn, _⟩ := IB.loc
 have IE : Inv X pins σ (upd HB D' (.lst acc)) sB := z75 (hB := sB.heap) (sc := sc) (x := x) (cap := cap) I2 f2 IB hC hD hDC hHD hd rv hz fun b o hb e => e
 refine wpAny_assign_Name (z8y IE hN hi' hx (v := .ref D') rfl (fun s3 I3 hsb => ?_) hf)
 obtain ⟨a, sba, ha⟩ := hsb
 have aC : C ≠ a := by
  rcases ha with z | z
  ·rw [z]; exact Nat.ne_of_gt (Nat.lt_of_lt_of_le I2.lt hC)
  ·obtain ⟨v, o, ho, _⟩ := I2.cell y a z
   exact Nat.ne_of_gt (Nat.lt_of_lt_of_le (Heap.lt_size ho) hC)
 refine ⟨m, hn.sameBut sba aC, fun h' sb => ?_⟩
 refine ⟨σ.set i (some (.ref D')), upd HB D' (.lst acc), I3.turned (it := C) (t' := s3.toks) (fun b o hb e => sb.extBut b o hb e) (by rw [zb (Ne.symm hDC)]; exact IB.free) (Nat.ne_of_gt (Nat.lt_of_lt_of_le I2.lt hC)) (.inr (Nat.le_trans I2.sz hC)) (fun y' c e => ?_) (fun p hp => ?_), q D' hHD⟩
 ·obtain ⟨v, o, ho, _⟩ := I2.cell y' c e
  exact Nat.ne_of_lt (Nat.lt_of_lt_of_le (Heap.lt_size ho) hC)
 ·exact Nat.ne_of_lt (Nat.lt_of_lt_of_le (Heap.lt_size (I2.pin p hp).1) hC)
end
end L2
end
section
namespace L2
open PySem PySem.Spec PyProof.Rows
def eqVs : List V → List V → Bool
 | [], [] => true
 | x :: xs, y :: ys => eqV x y && eqVs xs ys
 | _, _ => false
theorem z76 : ∀ {xs ys : List V}, xs.length ≠ ys.length → eqVs xs ys = false
 | [], [], h => absurd rfl h
 | [], _ :: _, _ => rfl
 | _ :: _, [], _ => rfl
 | x :: xs, y :: ys, h => by
  show (eqV x y && eqVs xs ys) = false
  rw [z76 (xs := xs) (ys := ys) (fun e => h (by simp [e])), Bool.and_false]
theorem z5b : ∀ {xs ys : List V}, xs.length = ys.length → (List.range xs.length).all (fun j => eqV (xs.getD j .non) (ys.getD j .non)) = eqVs xs ys
 | [], [], _ => rfl
 | [], _ :: _, h => by simp at h
 | _ :: _, [], h => by simp at h
 | x :: xs, y :: ys, h => by
  have ih := z5b (xs := xs) (ys := ys) (by simpa using h)
  show (List.range (xs.length + 1)).all _ = (eqV x y && eqVs xs ys)
  rw [List.range_succ_eq_map, List.all_cons, List.all_map, ← ih]
  rfl
theorem z47 : ∀ (as bs : List Str), eqVs (as.map V.str) (bs.map V.str) = decide (as = bs)
 | [], [] => rfl
 | [], _ :: _ => rfl
 | _ :: _, [] => rfl
 | a :: as, b :: bs => by
  show (eqV (.str a) (.str b) && eqVs (as.map V.str) (bs.map V.str)) = _
  rw [z47 as bs]
  show ((a == b) && decide (as = bs)) = _
  rw [Bool.eq_iff_iff]
  simp
theorem z5t {A : Around} {s : Shared} {xs ys : List V} {us ws : List Value} (rx : Vals xs us) (ry : Vals ys ws) (fx : xs.all z23 = true) (fy : ys.all z23 = true) (j : Nat) (h1 : j < us.toArray.size) (h2 : j < ws.toArray.size) :
  SeqAt.EqAt A s us.toArray[j] ws.toArray[j] (eqV (xs.getD j .non) (ys.getD j .non)) := by
 have l1 := rx.length
 have l2 := ry.length
 rw [List.size_toArray] at h1 h2
 have e1 : xs[j]? = some (xs.getD j .non) := by rw [List.getD_eq_getElem?_getD, List.getElem?_eq_getElem (by omega)]; rfl
 have e2 : ys[j]? = some (ys.getD j .non) := by rw [List.getD_eq_getElem?_getD, List.getElem?_eq_getElem (by omega)]; rfl
 obtain ⟨u, q1, r1⟩ := rx.get e1
 obtain ⟨w, q2, r2⟩ := ry.get e2
 have t1 : us.toArray[j] = u := by
  rw [List.getElem_toArray]
  rw [List.getElem?_eq_getElem h1] at q1
  exact Option.some.inj q1
 have t2 : ws.toArray[j] = w := by
  rw [List.getElem_toArray]
  rw [List.getElem?_eq_getElem h2] at q2
  exact Option.some.inj q2
 rw [t1, t2]
 exact zdd r1 r2 (List.all_eq_true.mp fx _ (List.mem_of_getElem? e1)) (List.all_eq_true.mp fy _ (List.mem_of_getElem? e2))
def rEqL (K : PySem.W.Frag) (neg : Bool) : R2 := fun x y H Q => ∃ p q xs ys, x = .ref p ∧ y = .ref q ∧ SqL K H p xs ∧ SqL K H q ys ∧ xs.all z23 = true ∧ ys.all z23 = true ∧ Q (.bl (if neg then !eqVs xs ys else eqVs xs ys)) H
def rEqT (K : PySem.W.Frag) (neg : Bool) : R2 := fun x y H Q => ∃ p q xs ys, x = .ref p ∧ y = .ref q ∧ SqT K H p xs ∧ SqT K H q ys ∧ xs.all z23 = true ∧ ys.all z23 = true ∧ Q (.bl (if neg then !eqVs xs ys else eqVs xs ys)) H
section
variable {X : Cx}
theorem zdh (hu : X.A.units < cLine) : OpR X (compareOp .Eq) (rEqL X.K false) := by
 intro pins s σ H x y v u Q I rx ry h
 obtain ⟨p, q, xs, ys, rfl, rfl, hp, hq, fx, fy, hQ⟩ := h
 cases rx
 cases ry
 obtain ⟨us, r1, p1, _⟩ := I.list hp
 obtain ⟨ws, r2, p2, _⟩ := I.list hq
 have l1 := r1.length
 have l2 := r2.length
 by_cases hl : xs.length = ys.length
 ·refine SeqAt.eq_listAt (e := fun j => eqV (xs.getD j .non) (ys.getD j .non)) p1.isList p2.isList (by rw [List.size_toArray, List.size_toArray]; omega) hu (fun j h1 h2 => z5t r1 r2 fx fy j h1 h2) (zv I hQ ?_)
  rw [List.size_toArray, ← l1, z5b hl]
  rfl
 ·refine SeqAt.eq_list_lengthsAt p1.isList p2.isList (by simp only [List.size_toArray, bne_iff_ne]; omega) hu (zv I hQ ?_)
  rw [z76 hl]
  rfl
theorem zbl {xs ys : List V} : ((List.range (min xs.length ys.length)).all (fun j => eqV (xs.getD j .non) (ys.getD j .non)) && xs.length == ys.length) = eqVs xs ys := by
 by_cases hl : xs.length = ys.length
 ·rw [← hl, Nat.min_self, z5b hl]
  simp
 ·rw [z76 hl]
  simp [hl]
theorem zh0 (hu : X.A.units < cLine) : OpR X (compareOp .Eq) (rEqT X.K false) := by
 intro pins s σ H x y v u Q I rx ry h
 obtain ⟨p, q, xs, ys, rfl, rfl, hp, hq, fx, fy, hQ⟩ := h
 cases rx
 cases ry
 obtain ⟨us, r1, p1, _⟩ := I.tuple hp
 obtain ⟨ws, r2, p2, _⟩ := I.tuple hq
 have l1 := r1.length
 have l2 := r2.length
 refine SeqAt.eq_tupleAt (e := fun j => eqV (xs.getD j .non) (ys.getD j .non)) p1 p2 hu (fun j h1 h2 => z5t r1 r2 fx fy j h1 h2) (zv I hQ ?_)
 rw [List.size_toArray, List.size_toArray, ← l1, ← l2, zbl]
 rfl
theorem zh1 (hu : X.A.units < cLine) : OpR X (compareOp .NotEq) (rEqT X.K true) := by
 intro pins s σ H x y v u Q I rx ry h
 obtain ⟨p, q, xs, ys, rfl, rfl, hp, hq, fx, fy, hQ⟩ := h
 cases rx
 cases ry
 obtain ⟨us, r1, p1, _⟩ := I.tuple hp
 obtain ⟨ws, r2, p2, _⟩ := I.tuple hq
 have l1 := r1.length
 have l2 := r2.length
 refine SeqAt.RcNeAt.tuples (e := fun j => eqV (xs.getD j .non) (ys.getD j .non)) p1 p2 hu (fun j h1 h2 => z5t r1 r2 fx fy j h1 h2) _ _ _ _ (zv I hQ ?_)
 rw [List.size_toArray, List.size_toArray, ← l1, ← l2, zbl]
 rfl
theorem zh2 : SlR X (fun x lo hi H Q => ∃ z, x = .str z ∧ z.length ≤ sizeLine ∧ Q (.str (Txt.slice z lo hi)) H) := by
 intro pins s σ H x v vl vu lo hi sl Q I rx hs pl pu h
 obtain ⟨z, rfl, hz, q⟩ := h
 obtain ⟨t, rfl⟩ := rx
 refine ⟨"str", _, F.slot_str_getitem.lookup, typeIs_str _ _ _, ?_⟩
 have fin : ∀ t' k, EP X pins σ Q (.str (Txt.slice z lo hi) t') { s with toks := k } := fun t' k => ⟨.str _, H, I.tok _, ⟨_, rfl⟩, q⟩
 obtain ⟨o, h1, h2, h3⟩ := hs
 cases pl with
 | none =>
  cases pu with
  | none => exact wpAny_getItem_str_slice (l := none) (u := none) (st := none) ⟨o, h1, h2, h3⟩ rfl (post_val_or_str ⟨Nat.le_trans (Txt.slice_le z none none) hz, fin⟩)
  | int j u => exact wpAny_getItem_str_slice (l := none) (u := some (j, u)) (st := none) ⟨o, h1, h2, h3⟩ rfl (post_val_or_str ⟨Nat.le_trans (Txt.slice_le z none (some j)) hz, fin⟩)
 | int i u' =>
  cases pu with
  | none => exact wpAny_getItem_str_slice (l := some (i, u')) (u := none) (st := none) ⟨o, h1, h2, h3⟩ rfl (post_val_or_str ⟨Nat.le_trans (Txt.slice_le z (some i) none) hz, fin⟩)
  | int j u => exact wpAny_getItem_str_slice (l := some (i, u')) (u := some (j, u)) (st := none) ⟨o, h1, h2, h3⟩ rfl (post_val_or_str ⟨Nat.le_trans (Txt.slice_le z (some i) (some j)) hz, fin⟩)
theorem z97 : ∀ (l : List (Str × Tok)), Vals ((l.map (·.1)).map V.str) (strValues l)
 | [] => .nil
 | (x, t) :: r => .cons ⟨t, rfl⟩ (z97 r)
def zdi : V → List V → Hp → VK → Prop := fun x vs H Q => ∃ z y, x = .str z ∧ vs = [.str y] ∧ y.length = 1 ∧ z.length + 2 ≤ sizeLine ∧ ∀ p, H p = none → Q (.ref p) (upd H p (.lst ((Txt.split z y).map V.str)))
theorem z5c : MtR X "str.split" zdi := by
 intro pins s σ H x vs v us Q I rx rv h
 obtain ⟨z, y, rfl, rfl, hy, hz, q⟩ := h
 obtain ⟨t, rfl⟩ := rx
 obtain ⟨u, rfl, t', rfl⟩ := rv.one
 have hn : (Builtin.Str.partsBetween z (Builtin.Str.occurrences z y 0 z.length (z.length + 1)) y.length).length ≤ sizeLine := by
  have e1 := StrLaws.occ_length_le z y 0 z.length (z.length + 1)
  rw [length_partsBetween]; omega
 have hy0 : (y.length == 0) = false := by rw [hy]; rfl
 have fin : ∀ (l : List (Str × Tok)) (tk : Nat), l.map (·.1) = Txt.split z y → (Txt.split z y).length ≤ sizeLine → EP X pins σ Q (.ref s.heap.objs.size) { s with toks := tk, heap := s.heap.push { cls := .type "list", data := .seq (strValues l).toArray } } := fun l tk e hl => by
  refine ⟨.ref s.heap.objs.size, _, I.lnew (t' := tk) (ys := (Txt.split z y).map V.str) ?_ (by rw [List.length_map]; exact hl), rfl, q _ I.fresh⟩
  rw [← e]
  exact z97 l
 cases h1 : (decide (z.length < y.length) || decide (Builtin.Str.strKind z < Builtin.Str.strKind y))
 ·cases hf : (Builtin.Str.occurrences z y 0 z.length (z.length + 1)).isEmpty
  ·have e : Txt.split z y = Builtin.Str.partsBetween z (Builtin.Str.occurrences z y 0 z.length (z.length + 1)) y.length := (if_neg (ne_true_of_eq_false h1)).trans (if_neg (ne_true_of_eq_false hf))
   refine call_meets F.slot_str_split (typeIs_str _ _ _) F.entry_str_split (F.args_str_split_2 _ _) (meets_str_split_sep z y t t' h1 hy0 hf (by omega) hn) ?_
   show wants _ _ _ { s with toks := _, heap := s.heap.push { cls := .type "list", data := .seq (strsFrom s.toks (Builtin.Str.partsBetween z (Builtin.Str.occurrences z y 0 z.length (z.length + 1)) y.length)).toArray } }
   rw [strsFrom_eq]
   exact fin (numbered s.toks _) _ ((numbered_texts _ _).trans e.symm) (by rw [e]; exact hn)
  ·have e : Txt.split z y = [z] := (if_neg (ne_true_of_eq_false h1)).trans (if_pos hf)
   exact call_meets F.slot_str_split (typeIs_str _ _ _) F.entry_str_split (F.args_str_split_2 _ _) (meets_str_split_not_found z y t t' h1 hy0 hf) (fin [(z, t)] s.toks e.symm (by rw [e]; show 1 ≤ sizeLine; decide))
 ·have e : Txt.split z y = [z] := if_pos h1
  exact call_meets F.slot_str_split (typeIs_str _ _ _) F.entry_str_split (F.args_str_split_2 _ _) (meets_str_split_cannot_occur z y t t' h1) (fin [(z, t)] s.toks e.symm (by rw [e]; show 1 ≤ sizeLine; decide))
theorem z98 : ∀ bs : List Bool, (List.range bs.length).all (fun j => bs.getD j true) = bs.all id
 | [] => rfl
 | b :: bs => by
  show (List.range (bs.length + 1)).all _ = _
  rw [List.range_succ_eq_map, List.all_cons, List.all_map, List.all_cons]
  show (b && (List.range bs.length).all fun j => bs.getD j true) = _
  rw [z98 bs]
  rfl
theorem z3i (hc : X.calm = true) : CallR X (.builtin "all") (fun xs H Q => ∃ p bs, xs = [.ref p] ∧ SqL X.K H p ((bs : List Bool).map V.bl) ∧ Q (.bl (bs.all id)) H) := by
  intro pins s σ H xs us Q I r h
  obtain ⟨p, bs, rfl, hp, q⟩ := h
  obtain ⟨u, rfl, ru⟩ := z56 r
  cases ru
  obtain ⟨its, r1, p1, _⟩ := I.list hp
  have hl := r1.length
  rw [List.length_map] at hl
  refine call_all_walk (wpAny_pyIter_list p1.isList ?_)
  obtain ⟨ol, n, hol, hcl, hdl, hsl⟩ := id p1
  have hne : p ≠ s.heap.objs.size := Nat.ne_of_lt (Heap.lt_size hol)
  refine ⟨s.heap.objs.size, [s.heap.objs.size, p], [s.heap.objs.size], its.toArray.size, _, _, fun j => bs.getD j true, rfl, Walks.list (by exact I.ok.hd hc) s.heap.objs.size p hne its.toArray,
    ⟨⟨_, Heap.get?_push_size _ rfl, rfl, rfl⟩, ⟨ol, Heap.get?_push_of_some _ hol, hcl, n, hsl⟩⟩, ?_, fun h' tk k => ?_⟩
  · intro j v s' Q' E' hv hq
    have hv : its.toArray[j]? = some v := hv
    have e0 : its[j]? = some v := by simpa using hv
    have hj : j < its.length := (List.getElem?_eq_some_iff.mp e0).1
    have e1 : (bs.map V.bl)[j]? = some (V.bl (bs.getD j true)) := by
      rw [List.getElem?_map, List.getD_eq_getElem?_getD, List.getElem?_eq_getElem (by omega)]
      rfl
    obtain ⟨w, q1, rw'⟩ := r1.get e1
    rw [e0] at q1
    cases q1
    cases rw'
    exact wpAny_truthy_bool hq
  · have e : (List.range its.toArray.size).all (fun j => bs.getD j true) = bs.all id := by
      rw [List.size_toArray, ← hl]
      exact z98 bs
    rw [e]
    have I2 : Inv X pins σ H { s with heap := h', toks := tk } := by
     refine I.kept (t' := tk) (h' := h') fun b o e => k b o ?_ (Heap.get?_push_of_some _ e)
     intro z
     have : b = s.heap.objs.size := by simpa using z
     exact absurd (Heap.lt_size e) (by rw [this]; exact Nat.lt_irrefl _)
    exact ⟨.bl _, H, I2, rfl, q⟩
theorem zq : CallR X (.builtin "isinstance") (fun xs H Q => ∃ x c t b, xs = [x, .ty c] ∧ TyOf X.K H x t ∧ PySem.W.kitOne X.K t (.type c) = some b ∧ Q (.bl b) H) := by
 intro pins s σ H xs us Q I r h
 obtain ⟨x, c, t, b, rfl, ty, e, q⟩ := h
 obtain ⟨u, w', rfl, r1, r2⟩ := zc6 r
 cases r2
 exact zdb I r1 ty e fun tk => ⟨.bl b, H, I.tok _, rfl, q⟩
end
theorem z2z (K : PySem.W.Frag) : PySem.W.kitOne K (.type "bool") (.type "bool") = some true := by with_unfolding_all rfl
theorem z2j (K : PySem.W.Frag) : PySem.W.kitOne K (.type "int") (.type "bool") = some false := by with_unfolding_all rfl
end L2
end
section
namespace L2
open PySem PySem.Spec PyProof.Rows
def Def (K : PySem.W.Frag) (mg : Str → Option Value) (x : Str) (st : Stmt) (ps : List Str) : Prop := ∃ f fd, Fun K x x st f fd ∧ mg x = some (.ref f) ∧ Binds K fd ps []
def Has (P : Program) (w : World) (K : PySem.W.Frag) (mg : Str → Option Value) (base : Heap) (k : Nat) (x : Str) (ps : List Str) (sp : Sp) : Prop :=
 ∃ f fd, FnOk P w K mg base CX0 k f fd ps sp ∧ mg x = some (.ref f) ∧ PySem.W.keepIn K (.ref f) = true ∧ Binds K fd ps [] ∧ ∃ oc od osl, K.lookup f = some ⟨oc, od, .func fd, osl⟩
theorem Def.ok {P : Program} {w : World} {K : PySem.W.Frag} {mg : Str → Option Value} {base : Heap} {x : Str} {st : Stmt} {N ps : List Str} {k : Nat} {sp : Sp} (D : Def K mg x st ps) (S : FnScope N ps (zi st)) (len : ∀ vs H Q E, sp vs H Q E → vs.length = ps.length)
  (hbody : ∀ (f : Addr) (cdv : Value) (A : Around) (outer : List Env) (s : Shared) (H : Hp) (vs : List V) (Q : VK) (E : XK), Room k (A.deeper (envOfC x (zi st) s.heap.objs.size f cdv)) → sp vs H Q E →
   ∃ t, PSs (cxOf CX0 P w K mg base N x (zi st) f cdv A outer s H E).nox (z29 st) t ∧ t { nx := fun _ H' => Q .non H', rt := Q } (start N vs) H) : Has P w K mg base (k + 1) x ps sp := by
 obtain ⟨f, fd, F, hm, hb⟩ := D
 exact ⟨f, fd, F.ok S len (fun cdv A outer s H vs Q E hr h => hbody f cdv A outer s H vs Q E hr h), hm, F.kp, hb, by
  obtain ⟨oc, od, kV, doc, pm, an, cdv, ct, osl, rfl, lk, hcd⟩ := F.ex
  exact ⟨oc, od, osl, lk⟩⟩
section
variable {X : Cx} {k : Nat} {x : Str} {ps : List Str} {sp : Sp} {e : Expr} {es : List Expr} {t : TA} {p pos : Pos}
theorem z15 (G : Has X.prog X.w X.K X.mg X.base k x ps sp) (hr : Room k X.A) (hg : Gl X x) (ha : PA X (e :: es) t) (hdb : (x == ("__debug__" : Str)) = false := by decide) (he : starEach (e :: es) X.env = (false, eval e X.env) :: starEach es X.env := by rfl) (hpl : (backTo pos (starEach es X.env)).any (·.1) = false := by rfl) :
  PE X (.Call (.Name x p) (e :: es) [] pos) (zcc sp [] E0 t) := by
 obtain ⟨f, fd, F, hm, hk, hb, _⟩ := G
 exact zg4 F hr hg hm hk hb .nil z7m ha hdb he hpl
end
def z3x (H : Hp) (Q : VK) (v : V) : Prop := ∀ H', Same H H' → Q v H'
end L2
namespace L2
open PySem PySem.Spec PyProof.Rows
theorem Has.at {P : Program} {w : World} {K : PySem.W.Frag} {mg : Str → Option Value} {base : Heap} {k : Nat} {x : Str} {ps : List Str} {sp : Sp} {st : Stmt} {f : Addr} {fd : FuncData} (G : Has P w K mg base k x ps sp) (hm : mg x = some (.ref f)) (F : Fun K x x st f fd) : FnOk P w K mg base CX0 k f fd ps sp := by
 obtain ⟨f', fd', FO, hm', hk, hb, oc', od', osl', lk'⟩ := G
 have e := hm'.symm.trans hm
 cases e
 obtain ⟨oc, od, kV, doc, pm, an, cdv, ct, osl, rfl, lk, hcd⟩ := F.ex
 rw [lk] at lk'
 have e2 := Option.some.inj lk'
 injection e2 with _ _ e3 _
 injection e3 with e4
 rw [e4]
 exact FO
end L2
namespace L2
open PySem PySem.Spec PyProof.Rows
theorem zcg {n : Nat} (h : n ≤ 1000000) : n + 2 ≤ sizeLine := by rw [sizeLine_eq]; omega
theorem ze {n : Nat} (h : n ≤ 1000000) : n ≤ sizeLine := by rw [sizeLine_eq]; omega
theorem z6h {z y : Str} {H : Hp} {Q : VK} (hy : y.length = 1) (hz : z.length ≤ 1000000) (h : ∀ p, H p = none → Q (.ref p) (upd H p (.lst ((Txt.split z y).map V.str)))) : zdi (.str z) [.str y] H Q :=
 ⟨z, y, rfl, rfl, hy, zcg hz, h⟩
theorem z2k (l : List Str) : (l.map V.str).all z23 = true := by
 rw [List.all_eq_true]
 intro x hx
 obtain ⟨a, _, rfl⟩ := List.mem_map.mp hx
 rfl
theorem z7o (xs : List V) (n : Nat) : cutV xs none (some (n : Int)) = xs.take n := by
 have e : HT.sIx xs.length xs.length (some (n : Int)) = min n xs.length := by
  unfold HT.sIx
  simp
  try omega
 have e0 : HT.sIx xs.length 0 none = 0 := rfl
 unfold cutV
 rw [e, e0]
 simp
theorem Same.upd {H : Hp} {p : Addr} {o : HO} (h : H p = none) : Same H (upd H p o) := fun b u e => by
 rw [zb (zh e h)]
 exact e
end L2
namespace L2
open PySem PySem.Spec PyProof.Rows
def zch (J : It) (g : TG) (tb : TS) (D : Ends) (σ : St) (H : Hp) : Prop := ∃ W : Nat → Nat → St → Hp → Prop, (∃ m, W 0 m σ H) ∧ ∀ i m σ H, W i m σ H →
 (J.stop i H ∧ D.nx σ H) ∨ (J.go i H ∧ ∃ N : St → Hp → Prop, (∀ σ' H', N σ' H' → ∃ m', m' < m ∧ W (i + 1) m' σ' H') ∧ ∀ x H', J.yld i H x H' → g x σ H' fun σ2 H2 => tb { D with nx := N, ct := N, bk := D.nx } σ2 H2)
theorem zet (wi : TI) (g : TG) (tb : TS) (D : Ends) (σ : St) (H : Hp) : tFor wi g tb D σ H = wi σ H fun J H1 => zch J g tb D σ H1 := rfl
theorem zdj (ta : TA) (σ : St) (H : Hp) (R : It → Hp → Prop) : zc3 ta σ H R = ta σ H fun vs H1 => ∃ j : Int, vs = [.int j] ∧ (-(2 ^ 62) ≤ j ∧ j < 2 ^ 62) ∧ R (Itr 0 j.toNat) H1 := by
 unfold zc3
 simp only [and_assoc]
theorem zdk (ta : TA) (σ : St) (H : Hp) (R : It → Hp → Prop) : zfp ta σ H R = ta σ H fun vs H1 => ∃ i j : Int, vs = [.int i, .int j] ∧ (-(2 ^ 62) ≤ i ∧ i < 2 ^ 62 ∧ -(2 ^ 62) ≤ j ∧ j < 2 ^ 62) ∧ R (Itr i (j - i).toNat) H1 := rfl
theorem z4n {lo : Int} {n : Nat} {g : TG} {tb : TS} {D : Ends} {σ : St} {H : Hp} (sp : Nat → St → Hp → Prop) (h0 : sp 0 σ H)
  (hs : ∀ (Pv : Nat → St → Hp → Prop), (∀ i σ H, sp i σ H → Pv i σ H) → ∀ i σ H, i < n → sp i σ H → g (.int (lo + i)) σ H fun σ2 H2 => tb { D with nx := Pv (i + 1), ct := Pv (i + 1), bk := D.nx } σ2 H2) (hd : ∀ σ H, sp n σ H → D.nx σ H) : zch (Itr lo n) g tb D σ H :=
 zd5 sp h0 (hs sp fun _ _ _ h => h) hd
theorem z3y {K : PySem.W.Frag} {a : Addr} {xs : List V} {g : TG} {tb : TS} {D : Ends} {σ : St} {H : Hp} (sp : Nat → St → Hp → Prop) (h0 : sp 0 σ H) (hl : ∀ i σ H, i ≤ xs.length → sp i σ H → SqL K H a xs)
  (hs : ∀ (Pv : Nat → St → Hp → Prop), (∀ i σ H, sp i σ H → Pv i σ H) → ∀ i x σ H, xs[i]? = some x → sp i σ H → g x σ H fun σ2 H2 => tb { D with nx := Pv (i + 1), ct := Pv (i + 1), bk := D.nx } σ2 H2) (hd : ∀ σ H, sp xs.length σ H → D.nx σ H) : zch (Itl K a) g tb D σ H :=
 zem sp h0 hl (hs sp fun _ _ _ h => h) hd
theorem zdl (wi : TI) (tc : TT) (te : TE) (js : List Nat) (σ : St) (H : Hp) (Q : VK) : zcf wi tc te js σ H Q = wi σ H fun J H1 => z3n J tc te js σ H1 Q := rfl
def Nx (n : Nat) (Pv : Nat → List V → Hp → Prop) (i : Nat) (acc : List V) (H : Hp) : Prop := ∃ m', m' < n - i ∧ m' = n - (i + 1) ∧ i + 1 ≤ n ∧ Pv (i + 1) acc H
theorem nx {n : Nat} {Pv : Nat → List V → Hp → Prop} {i : Nat} {acc : List V} {H : Hp} (hi : i < n) (h : Pv (i + 1) acc H) : Nx n Pv i acc H := ⟨n - (i + 1), by omega, rfl, hi, h⟩
theorem z7p {J : It} {tc : TT} {te : TE} {js : List Nat} {σ : St} {H1 : Hp} {Q : VK} (n : Nat) (hn : n ≤ sizeLine) (Pv : Nat → List V → Hp → Prop) (h0 : Pv 0 [] H1) (hlen : ∀ i acc H, Pv i acc H → acc.length ≤ i)
  (hgo : ∀ i acc H, i < n → Pv i acc H → J.go i H) (hstop : ∀ acc H, Pv n acc H → J.stop n H)
  (hs : ∀ i acc H x H', i < n → Pv i acc H → J.yld i H x H' → tc (some x :: capt σ js) H' fun b H2 => if b = true then te (some x :: capt σ js) H2 fun v H3 => Nx n Pv i (acc ++ [v]) H3 else Nx n Pv i acc H2)
  (hd : ∀ acc H, Pv n acc H → ∀ p, H p = none → Q (.ref p) (upd H p (.lst acc))) : z3n J tc te js σ H1 Q := by
 refine ⟨fun i m acc H => m = n - i ∧ i ≤ n ∧ Pv i acc H, ⟨n, by simp, Nat.zero_le _, h0⟩, ?_⟩
 rintro i m acc H ⟨rfl, hi, p⟩
 by_cases hlt : i < n
 ·exact .inr ⟨hgo i acc H hlt p, by have := hlen i acc H p; omega, fun x H' y => hs i acc H x H' hlt p y⟩
 ·have e : i = n := by omega
  subst e
  exact .inl ⟨hstop acc H p, hd acc H p⟩
theorem z9g {lo : Int} {n : Nat} {tc : TT} {te : TE} {js : List Nat} {σ : St} {H1 : Hp} {Q : VK} (hn : n ≤ sizeLine) (Pv : Nat → List V → Hp → Prop) (h0 : Pv 0 [] H1) (hlen : ∀ i acc H, Pv i acc H → acc.length ≤ i)
  (hs : ∀ i acc H, i < n → Pv i acc H → tc (some (.int (lo + i)) :: capt σ js) H fun b H2 => if b = true then te (some (.int (lo + i)) :: capt σ js) H2 fun v H3 => Nx n Pv i (acc ++ [v]) H3 else Nx n Pv i acc H2)
  (hd : ∀ acc H, Pv n acc H → ∀ p, H p = none → Q (.ref p) (upd H p (.lst acc))) : z3n (Itr lo n) tc te js σ H1 Q := by
 refine z7p n hn Pv h0 hlen (fun i acc H hi p => hi) (fun acc H p => Nat.le_refl _) (fun i acc H x H' hi p y => ?_) hd
 obtain ⟨e, y⟩ := y
 subst e y
 exact hs i acc H' hi p
theorem zae {K : PySem.W.Frag} {a : Addr} {xs : List V} {tc : TT} {te : TE} {js : List Nat} {σ : St} {H1 : Hp} {Q : VK} (hn : xs.length ≤ sizeLine) (Pv : Nat → List V → Hp → Prop) (h0 : Pv 0 [] H1) (hlen : ∀ i acc H, Pv i acc H → acc.length ≤ i) (hl : ∀ i acc H, Pv i acc H → SqL K H a xs)
  (hs : ∀ i acc H x, xs[i]? = some x → i < xs.length → Pv i acc H → tc (some x :: capt σ js) H fun b H2 => if b = true then te (some x :: capt σ js) H2 fun v H3 => Nx xs.length Pv i (acc ++ [v]) H3 else Nx xs.length Pv i acc H2)
  (hd : ∀ acc H, Pv xs.length acc H → ∀ p, H p = none → Q (.ref p) (upd H p (.lst acc))) : z3n (Itl K a) tc te js σ H1 Q := by
 refine z7p xs.length hn Pv h0 hlen (fun i acc H hi p => ⟨xs, xs[i], hl i acc H p, by simp [hi]⟩) (fun acc H p => ⟨xs, hl _ acc H p, Nat.le_refl _⟩) (fun i acc H x H' hi p y => ?_) hd
 obtain ⟨e, y⟩ := y
 subst e
 exact hs i acc H' x (y xs (hl i acc H' p)) hi p
theorem z2l {lo : Int} {n : Nat} {tc : TT} {te : TE} {js : List Nat} {σ : St} {H1 : Hp} {Q : VK} (hn : n ≤ sizeLine) (sp : Nat → List V → Hp → Prop) (h0 : sp 0 [] H1) (hlen : ∀ i acc H, sp i acc H → acc.length ≤ i)
  (hs : ∀ (Nt : List V → Hp → Prop) i acc H, (∀ acc H, sp (i + 1) acc H → Nt acc H) → i < n → sp i acc H → tc (some (.int (lo + i)) :: capt σ js) H fun b H2 => if b = true then te (some (.int (lo + i)) :: capt σ js) H2 fun v H3 => Nt (acc ++ [v]) H3 else Nt acc H2)
  (hd : ∀ acc H, sp n acc H → ∀ p, H p = none → Q (.ref p) (upd H p (.lst acc))) : z3n (Itr lo n) tc te js σ H1 Q :=
 z9g hn sp h0 hlen (fun i acc H hi p => hs (Nx n sp i) i acc H (fun _ _ h => nx hi h) hi p) hd
theorem z1n {K : PySem.W.Frag} {a : Addr} {xs : List V} {tc : TT} {te : TE} {js : List Nat} {σ : St} {H1 : Hp} {Q : VK} (hn : xs.length ≤ sizeLine) (sp : Nat → List V → Hp → Prop) (h0 : sp 0 [] H1) (hlen : ∀ i acc H, sp i acc H → acc.length ≤ i) (hl : ∀ i acc H, sp i acc H → SqL K H a xs)
  (hs : ∀ (Nt : List V → Hp → Prop) i acc H x, (∀ acc H, sp (i + 1) acc H → Nt acc H) → xs[i]? = some x → i < xs.length → sp i acc H → tc (some x :: capt σ js) H fun b H2 => if b = true then te (some x :: capt σ js) H2 fun v H3 => Nt (acc ++ [v]) H3 else Nt acc H2)
  (hd : ∀ acc H, sp xs.length acc H → ∀ p, H p = none → Q (.ref p) (upd H p (.lst acc))) : z3n (Itl K a) tc te js σ H1 Q :=
 zae hn sp h0 hlen hl (fun i acc H x hx hi p => hs (Nx xs.length sp i) i acc H x (fun _ _ h => nx hi h) hx hi p) hd
end L2
namespace L2
open PySem PySem.Spec PyProof.Rows
def tCut (t u : TS) : TS := fun D σ H => ∃ Mid : St → Hp → Prop, t { D with nx := Mid } σ H ∧ ∀ σ H, Mid σ H → u D σ H
theorem z2a {X : Cx} {st : Stmt} {rest : List Stmt} {t u : TS} (h1 : PS X st t) (h2 : PSs X rest u) : PSs X (st :: rest) (tCut t u) := by
 intro pins s σ H D I ⟨Mid, h, hm⟩
 refine wpAny_execs_cons (thn (h1 pins s σ H { D with nx := Mid } I h) fun f s1 q => ?_)
 cases f with
 | next =>
  obtain ⟨σ', H', I', q⟩ := q
  exact h2 pins s1 σ' H' D I' (hm σ' H' q)
 | ret v => exact q
 | brk => exact q
 | cont => exact q
theorem z5d {t u : TS} {D : Ends} {σ : St} {H : Hp} (sp : St → Hp → Prop) (h1 : ∀ Mid : St → Hp → Prop, (∀ σ H, sp σ H → Mid σ H) → t { D with nx := Mid } σ H) (h2 : ∀ σ H, sp σ H → u D σ H) : tCut t u D σ H := ⟨sp, h1 sp fun _ _ h => h, h2⟩
theorem cdiv {i j : Int} (h1 : 0 < j) (h2 : j < 1073741824) : CDiv i j := ⟨h1, h2⟩
end L2
namespace L2
open PySem PySem.Spec PyProof.Rows
def zh3 (dn cn : List (Str × NameKind)) : Bool := cn.all fun y => (y.2 != .free) || (dn.lookup y.1 == some .cell) || (dn.lookup y.1 == some .free)
theorem zy {X : Cx} {sc : Scope} (h : zh3 X.env.scope.names sc.names = true) : ∀ y ∈ sc.names, y.2 = .free → X.env.kindOf y.1 = some .cell ∨ X.env.kindOf y.1 = some .free := by
 intro y hy hf
 have := List.all_eq_true.mp h y hy
 rw [hf] at this
 simp at this
 exact this
end L2
end
section
namespace L2
open PySem PySem.Spec PyProof.Rows
theorem ObjOk.here {P : Program} {w : World} {H : Hp} {h : Heap} {a : Addr} {o : HO} (x : ObjOk P w H h a o) : ∃ ob, h.get? a = some ob := by
 cases o with
 | lst xs => obtain ⟨_, _, _, _, e⟩ := x; exact ⟨_, e⟩
 | tup xs => obtain ⟨_, _, _, ob, e, _⟩ := x; exact ⟨_, e⟩
 | dK kvs => obtain ⟨_, _, _, _, ob, _, _, e, _⟩ := x; exact ⟨_, e⟩
 | dT kvs => obtain ⟨_, _, _, _, ob, _, _, e, _⟩ := x; exact ⟨_, e⟩
 | set S n => obtain ⟨ob, _, _, _, e, _⟩ := x; exact ⟨_, e⟩
 | ins C dx fs => obtain ⟨_, _, _, e, _⟩ := x; exact ⟨_, e⟩
 | own y => obtain ⟨ob, e⟩ := x; exact ⟨_, e⟩
 | xd fs => obtain ⟨_, ⟨ob, _, _, e, _⟩, _⟩ := x; exact ⟨_, e⟩
 | rng lo hi => obtain ⟨_, _, _, e⟩ := x; exact ⟨_, e⟩
 | frz ob u => obtain ⟨e, _⟩ := x; exact ⟨_, e⟩
 | tbl ps => exact ⟨_, (show h.get? a = some _ from x)⟩
 | met f y => exact ⟨_, (show h.get? a = some _ from x)⟩
 | ext φ => obtain ⟨_, ⟨ob, e⟩, _⟩ := x; exact ⟨_, e⟩
theorem z8a {P : Program} {w : World} {H : Hp} {B h h' : Heap} (k : B.StaysIn h) (k' : B.StaysIn h') (tr : ∀ b u, H b = some u → ∃ o, B.get? b = some o) (ok : HOk P w H h) : HOk P w H h' := fun a o e =>
 (ok a o e).stay (fun b u hb q => by
  have hbt : ∃ v, H b = some v := by
   rcases hb with z | z
   ·exact ⟨o, by rw [z]; exact e⟩
   ·exact ⟨_, z⟩
  obtain ⟨v, hv⟩ := hbt
  obtain ⟨ob, hob⟩ := tr b v hv
  have := k b ob hob
  rw [q] at this
  cases this
  exact k' b u hob) (fun _ q => q) fun _ _ q => q
theorem zdm {fs : List Addr} {H H' : Hp} {g B h h' : Heap} (k : B.StaysIn h) (k' : B.StaysIn h') (hfr : ∀ b ∈ fs, ∃ o, h.get? b = some o ∧ ∀ vs, o.data ≠ .fields vs) (up : h.UpToSlots h')
  (old : ∀ b o, g.get? b = some o → b ∉ fs → ∃ o', B.get? b = some o') (u : Un fs [] H H' g h) : Un fs [] H H' g h' where
 keep := fun b o q n hb hx => by
  obtain ⟨ob, hob⟩ := old b o q hb
  have e1 := u.keep b o q n hb hx
  have e2 := k b ob hob
  rw [e1] at e2
  cases e2
  exact k' b o hob
 slot := fun b o q n hb hx => by
  obtain ⟨sl, e1⟩ := u.slot b o q n hb hx
  obtain ⟨o2, e2, d2⟩ := hfr b hb
  rw [e1] at e2
  cases e2
  obtain ⟨sl', e3⟩ := up b _ e1 d2
  exact ⟨sl', e3⟩
 free := u.free
 there := fun b o q hx => by
  by_cases hb : b ∈ fs
  ·obtain ⟨o2, e2, d2⟩ := hfr b hb
   obtain ⟨sl', e3⟩ := up b _ e2 d2
   exact ⟨_, e3⟩
  ·obtain ⟨ob, hob⟩ := old b o q hb
   exact ⟨ob, k' b ob hob⟩
 tups := u.tups
 frzs := u.frzs
 tbls := u.tbls
def CX1 (P : Program) (w : World) : CXT := fun outer H s E e s' => ∃ (x C t : Addr) (B : Heap) (H' : Hp), e = .ref x ∧ s'.os = s.os ∧ AllBare s'.gens ∧ Un (frs outer) [] H H' s.heap s'.heap ∧ HOk P w H' s'.heap ∧
 Heap.FlyingW B outer x (.ref C) (.ref t) s'.heap ∧ (∀ b u, H' b = some u → ∃ o, B.get? b = some o) ∧ (∀ b o, s.heap.get? b = some o → b ∉ frs outer → ∃ o', B.get? b = some o') ∧ E (.ref C) none H'
def zdn (X : Cx) (E : XK) : Prop := ∀ (pins : List (Addr × Obj)) (σ : St) (H : Hp) (s : Shared) (x C : Addr) (args : List Value) (h' : Heap), Inv X pins σ H s → Heap.MadeExcOf s.heap h' x (.ref C) args → E (.ref C) none H → X.xe (.ref x) { s with heap := h' }
section
variable {P : Program} {w : World} {K : PySem.W.Frag} {mg : Str → Option Value} {base : Heap} {N : List Str} {qual : Str} {sc : Scope} {f : Addr} {cd : Value} {A : Around} {outer : List Env} {s : Shared} {H : Hp} {E : XK}
theorem z3o : zdn (cxOf (CX1 P w) P w K mg base N qual sc f cd A outer s H E) E := by
 intro pins σ H2 s2 x C args h' I hx hE
 have hfrm := I.ok.frames
 have hin : ∀ env ∈ (cxOf (CX1 P w) P w K mg base N qual sc f cd A outer s H E).stack, ∀ a, env.frame = some a → a ∈ frs (cxOf (CX1 P w) P w K mg base N qual sc f cd A outer s H E).stack := fun env he a ha => List.mem_filterMap.mpr ⟨env, he, ha⟩
 have hL : (cxOf (CX1 P w) P w K mg base N qual sc f cd A outer s H E).env.locals = s.heap.objs.size := rfl
 have nfr : ∀ b o, s.heap.get? b = some o → b ∉ frs outer → b ∉ frs (cxOf (CX1 P w) P w K mg base N qual sc f cd A outer s H E).stack := fun b o q hb z => by
  rcases List.mem_cons.mp (I.stkSub b z) with e | e
  ·rw [hL] at e
   exact absurd (Heap.lt_size q) (by rw [e]; exact Nat.lt_irrefl _)
  ·exact hb e
 have sub : ∀ b ∈ frs outer, b ∈ frs (cxOf (CX1 P w) P w K mg base N qual sc f cd A outer s H E).stack := fun b hb => by
  obtain ⟨env, he, hf⟩ := List.mem_filterMap.mp hb
  exact List.mem_filterMap.mpr ⟨env, List.mem_cons_of_mem _ he, hf⟩
 have stB : (PySem.W.hideAll s2.heap (frs (cxOf (CX1 P w) P w K mg base N qual sc f cd A outer s H E).stack)).StaysIn s2.heap := fun b o q => PySem.W.of_hideAll _ q
 have tr : ∀ b u, H2 b = some u → ∃ o, (PySem.W.hideAll s2.heap (frs (cxOf (CX1 P w) P w K mg base N qual sc f cd A outer s H E).stack)).get? b = some o := fun b u q => by
  obtain ⟨ob, hob⟩ := (I.hok b u q).here
  exact ⟨ob, PySem.W.hideAll_get _ hob fun z => by rw [I.stkFree b z] at q; cases q⟩
 have old : ∀ b o, s.heap.get? b = some o → b ∉ frs outer → ∃ o', (PySem.W.hideAll s2.heap (frs (cxOf (CX1 P w) P w K mg base N qual sc f cd A outer s H E).stack)).get? b = some o' := fun b o q hb => by
  obtain ⟨o', e⟩ := I.base.there b o q (by simp [cxOf])
  exact ⟨o', PySem.W.hideAll_get _ e (nfr b o q hb)⟩
 refine wpAny_leaves_madeW (h := s2.heap) hfrm rfl stB (PySem.W.funFrames_hide I.stack hin) hx fun h2 t fl tp nt up => ?_
 have up2 : s2.heap.UpToSlots h2 := fun b o q d => up b o (hx.keeps b o q) d
 exact ⟨x, C, t, _, H2, rfl, I.os, I.bare, zdm stB fl.1 (fun b hb => (I.stack.mem (sub b hb)).2) up2 old I.base, z8a stB fl.1 tr I.hok, fl, tr, old, hE⟩
theorem z5u : z2y (CX1 P w) (cxOf (CX1 P w) P w K mg base N qual sc f cd A outer s H E) E := by
 intro pins σ H1 s1 e s' I hq
 obtain ⟨x, C, t, B, H', rfl, os, bare, un, hok, fl, tr, old, hE⟩ := hq
 have J : Inv (cxOf (CX1 P w) P w K mg base N qual sc f cd A outer s H E) pins σ H' s' := I.call' (ch := []) os un hok bare (fun b z => absurd z (by simp))
 have hL : (cxOf (CX1 P w) P w K mg base N qual sc f cd A outer s H E).env.locals = s.heap.objs.size := rfl
 have nfr : ∀ b o, s.heap.get? b = some o → b ∉ frs outer → b ∉ frs (cxOf (CX1 P w) P w K mg base N qual sc f cd A outer s H E).stack := fun b o q hb z => by
  rcases List.mem_cons.mp (I.stkSub b z) with e | e
  ·rw [hL] at e
   exact absurd (Heap.lt_size q) (by rw [e]; exact Nat.lt_irrefl _)
  ·exact hb e
 have old2 : ∀ b o, s.heap.get? b = some o → b ∉ frs outer → ∃ o', B.get? b = some o' := fun b o q hb => by
  obtain ⟨o', e⟩ := I.base.there b o q (by simp [cxOf])
  exact old b o' e (nfr b o q hb)
 have sub : ∀ b ∈ frs outer, b ∈ frs (cxOf (CX1 P w) P w K mg base N qual sc f cd A outer s H E).stack := fun b hb => by
  obtain ⟨env, he, hf⟩ := List.mem_filterMap.mp hb
  exact List.mem_filterMap.mpr ⟨env, List.mem_cons_of_mem _ he, hf⟩
 refine wpAny_leaves_onW I.ok.frames rfl fl fun h2 fl2 up => ?_
 exact ⟨x, C, t, B, H', rfl, J.os, J.bare, zdm fl.1 fl2.1 (fun b hb => (J.stack.mem (sub b hb)).2) up old2 J.base, z8a fl.1 fl2.1 tr J.hok, fl2, tr, old2, hE⟩
end
theorem zbm {K : PySem.W.Frag} {h : Heap} {C : Addr} {bmB : List Value} {nid : String} (X : K.In h) (q : PySem.W.excIn K C bmB nid = true) :
  ∃ bm N nm qn bs hd sn sub ab col dd k0 k1 k2 k3 k5 mN, h.get? C = some (excClassObj nm qn C N bs bm hd sn sub ab col dd k0 k1 k2 k3 k5 nid) ∧ h.Ns N mN ∧ mN "__init__" = none ∧ OwnTail h bmB bm := by
 unfold PySem.W.excIn at q
 split at q
 case h_2 => cases q
 case h_1 dd cd sl look =>
  split at q
  case h_2 => cases q
  case h_1 C2 bm a0 a1 a2 a3 nm2 a5 hmro hslots =>
   rw [Bool.and_eq_true, Bool.and_eq_true, Bool.and_eq_true, Bool.and_eq_true, Bool.and_eq_true] at q
   obtain ⟨⟨⟨⟨⟨q1, q2⟩, q3⟩, q4⟩, q5⟩, q6⟩ := q
   have e1 : C2 = C := by simpa using q1
   have e2 : nm2 = nid := by simpa using q2
   subst e1 e2
   obtain ⟨c1, c2, c3, c4, c5, c6, c7, c8, c9, c10, c11⟩ := cd
   have e3 : c11 = false := by simpa using q3
   have e4 : c3 = .ref C2 :: bm := hmro
   have e6 : sl = #[a0, a1, a2, a3, some (.builtin nm2), a5] := Array.toList_inj.mp hslots
   rw [e3, e4, e6] at look
   exact ⟨bm, _, _, _, _, _, _, _, _, _, _, _, _, _, _, _, _, X _ _ look, .of_isNs (PySem.W.isNs_of_in X q5), PySem.W.nsMap_none_of_in X q5 (by simpa using q6), PySem.W.tail_of_in X q4⟩
section
variable {X : Cx} {E : XK} {x : Str} {C : Addr} {np cpos pos : Pos} {e : Expr} {es : List Expr} {t : TA} {bmB : List Value} {B nid iid : String}
def zdo (E : XK) (C : Addr) (t : TA) : TS := fun _ σ H => t σ H fun xs H1 => xs.length ≤ sizeLine ∧ E (.ref C) none H1
theorem z48 (th : zdn X E) (hc : X.calm = true) (FB : ExcBaseFacts B nid iid bmB) (ex : PySem.W.excIn X.K C bmB nid = true) (hg : Gl X x) (hm : X.mg x = some (.ref C)) (ha : PA X (e :: es) t)
  (he : starEach (e :: es) X.env = (false, eval e X.env) :: starEach es X.env := by rfl) (hpl : (backTo cpos (starEach es X.env)).any (·.1) = false := by rfl) (hdb : (x == ("__debug__" : Str)) = false := by decide) :
  PS X (.Raise (some (.Call (.Name x np) (e :: es) [] cpos)) none pos) (zdo E C t) := by
 intro pins s σ H D I h
 obtain ⟨bm, N, nm, qn, bs, hd, sn, sub, ab, col, dd, k0, k1, k2, k3, k5, mN, hC, hN, hni, T⟩ := zbm I.mod.kin ex
 refine wpAny_Raise_call_subT (C := C) (bm := bm) (nm := nm) (q := qn) (N := N) (bs := bs) (hdct := hd) (sn := sn) (sub := sub) (ab := ab) (col := col) (dd := dd) (k0 := k0) (k1 := k1) (k2 := k2) (k3 := k3) (k5 := k5) FB (mN := mN) (T.hasType FB.hasBase) (I.ok.hd hc) ?_ hni (z4u I hg hm ⟨rfl, ?_⟩ hdb)
 ·rw [he]
  show (false || (backTo cpos (starEach es X.env)).any (·.1)) = false
  rw [hpl]
  rfl
 have hA := ha cpos pins s σ H _ I h
 rw [he] at hA ⊢
 refine Calls.evalArgs_plain (thn hA fun us s2 hq => ?_)
 obtain ⟨vs, H2, I2, r2, hz, hE⟩ := hq
 exact ⟨rfl, by rw [← r2.length]; exact hz, I2.bk _ _ hC, hN.keeps I2.bk, T.keeps I2.bk, fun h' ev hm' => th pins σ H2 s2 ev C us h' I2 hm' hE⟩
end
def MDef (K : PySem.W.Frag) (C : Addr) (m qual : Str) (st : Stmt) (ps : List Str) : Prop := ∃ f fd, Fun K m qual st f fd ∧ Meth K C m f ∧ Binds K fd ps []
def MHas (P : Program) (w : World) (K : PySem.W.Frag) (mg : Str → Option Value) (base : Heap) (CX : CXT) (k : Nat) (C : Addr) (m : Str) (ps : List Str) (sp : Sp) : Prop :=
 ∃ f fd, FnOk P w K mg base CX k f fd ps sp ∧ Meth K C m f ∧ Binds K fd ps []
section
variable {P : Program} {w : World} {K : PySem.W.Frag} {mg : Str → Option Value} {base : Heap}
theorem Fun.okx {x qual : Str} {st : Stmt} {f : Addr} {fd : FuncData} {N ps : List Str} {k : Nat} {sp : Sp} (F : Fun K x qual st f fd) (S : FnScope N ps (zi st)) (len : ∀ vs H Q E, sp vs H Q E → vs.length = ps.length)
  (hbody : ∀ (cdv : Value) (A : Around) (outer : List Env) (s : Shared) (H : Hp) (vs : List V) (Q : VK) (E : XK), Room k (A.deeper (envOfC qual (zi st) s.heap.objs.size f cdv)) → sp vs H Q E →
   ∃ t, PSs (cxOf (CX1 P w) P w K mg base N qual (zi st) f cdv A outer s H E) (z29 st) t ∧ t { nx := fun _ H' => Q .non H', rt := Q } (start N vs) H) : FnOk P w K mg base (CX1 P w) (k + 1) f fd ps sp := by
 obtain ⟨oc, od, kV, doc, pm, an, cdv, ct, osl, rfl, lk, hcd⟩ := F.ex
 exact zfs lk hcd S len fun A outer s H vs Q E hr hsp => hbody cdv A outer s H vs Q E hr hsp
theorem MDef.ok {C : Addr} {m qual : Str} {st : Stmt} {N ps : List Str} {k : Nat} {sp : Sp} (D : MDef K C m qual st ps) (S : FnScope N ps (zi st)) (len : ∀ vs H Q E, sp vs H Q E → vs.length = ps.length)
  (hbody : ∀ (f : Addr) (cdv : Value) (A : Around) (outer : List Env) (s : Shared) (H : Hp) (vs : List V) (Q : VK) (E : XK), Room k (A.deeper (envOfC qual (zi st) s.heap.objs.size f cdv)) → sp vs H Q E →
   ∃ t, PSs (cxOf CX0 P w K mg base N qual (zi st) f cdv A outer s H E).nox (z29 st) t ∧ t { nx := fun _ H' => Q .non H', rt := Q } (start N vs) H) : MHas P w K mg base CX0 (k + 1) C m ps sp := by
 obtain ⟨f, fd, F, hm, hb⟩ := D
 exact ⟨f, fd, F.ok S len (fun cdv A outer s H vs Q E hr h => hbody f cdv A outer s H vs Q E hr h), hm, hb⟩
theorem MDef.okx {C : Addr} {m qual : Str} {st : Stmt} {N ps : List Str} {k : Nat} {sp : Sp} (D : MDef K C m qual st ps) (S : FnScope N ps (zi st)) (len : ∀ vs H Q E, sp vs H Q E → vs.length = ps.length)
  (hbody : ∀ (f : Addr) (cdv : Value) (A : Around) (outer : List Env) (s : Shared) (H : Hp) (vs : List V) (Q : VK) (E : XK), Room k (A.deeper (envOfC qual (zi st) s.heap.objs.size f cdv)) → sp vs H Q E →
   ∃ t, PSs (cxOf (CX1 P w) P w K mg base N qual (zi st) f cdv A outer s H E) (z29 st) t ∧ t { nx := fun _ H' => Q .non H', rt := Q } (start N vs) H) : MHas P w K mg base (CX1 P w) (k + 1) C m ps sp := by
 obtain ⟨f, fd, F, hm, hb⟩ := D
 exact ⟨f, fd, F.okx S len (fun cdv A outer s H vs Q E hr h => hbody f cdv A outer s H vs Q E hr h), hm, hb⟩
end
section
variable {X : Cx} {k : Nat} {C : Addr} {m : Str} {ps : List Str} {sp : Sp} {o e : Expr} {es : List Expr} {ta : TE} {t : TA} {apos pos : Pos}
theorem z2b {pl : Sem Bool} (G : MHas X.prog X.w X.K X.mg X.base CX0 k C m ps sp) (c : Cls X.K C) (hr : Room k X.A) (he : PE X o ta) (ha : PA X (e :: es) t)
  (hst : starEach (e :: es) X.env = (false, eval e X.env) :: starEach es X.env := by rfl) (hpl : (backTo pos (starEach es X.env)).any (·.1) = false := by rfl)
  (ht : eval (.Call (.Attribute o m apos) (e :: es) [] pos) X.env = (do
   let ov ← eval o X.env
   standAt apos.atName
   let (f, first) ← holding [ov] (getMethod ov m pl)
   callWith pos f first (backTo pos (starEach (e :: es) X.env)) (backToKw pos (keywordEach [] X.env))) := by rfl) :
  PE X (.Call (.Attribute o m apos) (e :: es) [] pos) (z6e C m sp [] E0 ta t) := by
 obtain ⟨f, fd, F, hm, hb⟩ := G
 exact zbj he c hm F hr hb .nil z7m ha hst hpl ht
theorem z51 {pl : Sem Bool} (G : MHas X.prog X.w X.K X.mg X.base CX0 k C m ps sp) (c : Cls X.K C) (hr : Room k X.A) (he : PE X o ta)
  (ht : eval (.Call (.Attribute o m apos) [] [] pos) X.env = (do
   let ov ← eval o X.env
   standAt apos.atName
   let (f, first) ← holding [ov] (getMethod ov m pl)
   callWith pos f first (backTo pos (starEach [] X.env)) (backToKw pos (keywordEach [] X.env))) := by rfl) :
  PE X (.Call (.Attribute o m apos) [] [] pos) (z6e C m sp [] E0 ta tNil) := by
 obtain ⟨f, fd, F, hm, hb⟩ := G
 exact zeq he c hm F hr hb .nil z7m ht
end
def Mine (X : Cx) (pins : List (Addr × Obj)) (b : Addr) : Prop := (∃ o, X.s₀.heap.get? b = some o) ∨ b = X.env.locals ∨ (∃ y, X.env.cells.lookup y = some b) ∨ ∃ p ∈ X.pn ++ pins, p.1 = b
structure Fly (X : Cx) (pins : List (Addr × Obj)) (σ : St) (H : Hp) (s : Shared) (x C t : Addr) (B : Heap) : Prop where
 inv : Inv X pins σ H s
 fly : Heap.FlyingW B X.stack x (.ref C) (.ref t) s.heap
 tr : ∀ b u, H b = some u → ∃ o, B.get? b = some o
 mine : ∀ b, Mine X pins b → b ∈ frs X.stack ∨ ∃ o, B.get? b = some o
def XP (X : Cx) (pins : List (Addr × Obj)) (σ : St) (Ex : XK) (ev : Value) (s' : Shared) : Prop := ∃ x C t B H', ev = .ref x ∧ Fly X pins σ H' s' x C t B ∧ Ex (.ref C) none H'
theorem Inv.mine {X : Cx} {pins : List (Addr × Obj)} {σ : St} {H : Hp} {s : Shared} (I : Inv X pins σ H s) (hx : X.ex = []) {b : Addr} (h : Mine X pins b) : ∃ o, s.heap.get? b = some o := by
 rcases h with ⟨o, h⟩ | h | ⟨y, h⟩ | ⟨p, hp, h⟩
 ·exact I.base.there b o h (by rw [hx]; simp)
 ·obtain ⟨m, ⟨o, _, _, e, _⟩, _⟩ := I.loc
  exact ⟨o, by rw [h]; exact e⟩
 ·obtain ⟨v, o, e, _⟩ := I.cell y b h
  exact ⟨o, e⟩
 ·exact ⟨_, by rw [← h]; exact (I.pin p hp).1⟩
theorem zh4 {X : Cx} {pins : List (Addr × Obj)} {σ : St} {H : Hp} {s s' : Shared} {E : XK} {ev : Value} (hx : X.ex = []) (I : Inv X pins σ H s) (q : CX1 X.prog X.w X.stack H s E ev s') : XP X pins σ E ev s' := by
 obtain ⟨x, C, t, B, H', rfl, os, bare, un, hok, fl, tr, old, hE⟩ := q
 refine ⟨x, C, t, B, H', rfl, ⟨I.call' (ch := []) os un hok bare (fun b z => absurd z (by simp)), fl, tr, fun b hb => ?_⟩, hE⟩
 obtain ⟨o, e⟩ := I.mine hx hb
 by_cases hf : b ∈ frs X.stack
 ·exact .inl hf
 ·exact .inr (old b o e hf)
theorem Fly.on {X : Cx} {pins : List (Addr × Obj)} {σ : St} {H : Hp} {s : Shared} {x C t : Addr} {B : Heap} {h' : Heap} (F : Fly X pins σ H s x C t B) (fl : Heap.FlyingW B X.stack x (.ref C) (.ref t) h') (up : s.heap.UpToSlots h') : Fly X pins σ H { s with heap := h' } x C t B := by
 have I := F.inv
 refine ⟨?_, fl, F.tr, F.mine⟩
 have slotF : ∀ b o, b ∈ frs X.stack → s.heap.get? b = some o → ∃ sl, h'.get? b = some { o with slots := sl } := fun b o hb q => by
  obtain ⟨_, o2, e2, d2⟩ := I.stack.mem hb
  rw [q] at e2
  cases e2
  exact up b _ q d2
 have at' : ∀ b o, Mine X pins b → b ∉ frs X.stack → s.heap.get? b = some o → h'.get? b = some o := fun b o hm hb q => by
  rcases F.mine b hm with z | ⟨ob, z⟩
  ·exact absurd z hb
  ·have := F.fly.1 b ob z
   rw [q] at this
   cases this
   exact fl.1 b o z
 have any' : ∀ b o, Mine X pins b → s.heap.get? b = some o → ∃ sl, h'.get? b = some { o with slots := sl } := fun b o hm q => by
  by_cases hb : b ∈ frs X.stack
  ·exact slotF b o hb q
  ·exact ⟨o.slots, at' b o hm hb q⟩
 have cellK : ∀ y c, X.env.cells.lookup y = some c → ∀ v, s.heap.IsCell c v → h'.IsCell c v := fun y c e v ⟨o, ho, hd⟩ => by
  obtain ⟨sl, q⟩ := any' c o (.inr (.inr (.inl ⟨y, e⟩))) ho
  exact ⟨_, q, hd⟩
 refine ⟨I.ok, I.os, I.bare, ⟨fun b o e n hb hx => ?_, fun b o e n hb hx => ?_, I.base.free, fun b o e hx => ?_, I.base.tups, I.base.frzs, I.base.tbls⟩, ?_, fun y c e => ?_, I.free, I.freeC, fun p hp => ?_, z8a F.fly.1 fl.1 F.tr I.hok, I.len⟩
 ·have q := I.base.keep b o e n hb hx
  by_cases hf : b ∈ frs X.stack
  ·rcases List.mem_cons.mp (I.stkSub b hf) with z | z
   ·exact absurd (Nat.lt_of_lt_of_le (Heap.lt_size e) I.ok.above) (by rw [z]; exact Nat.lt_irrefl _)
   ·exact absurd z hb
  ·exact at' b o (.inl ⟨o, e⟩) hf q
 ·obtain ⟨sl, q⟩ := I.base.slot b o e n hb hx
  obtain ⟨sl', q'⟩ := any' b _ (.inl ⟨o, e⟩) q
  exact ⟨sl', q'⟩
 ·obtain ⟨o', q⟩ := I.base.there b o e hx
  obtain ⟨sl', q'⟩ := any' b _ (.inl ⟨o, e⟩) q
  exact ⟨_, q'⟩
 ·obtain ⟨m, ⟨o, es, ep, ho, r⟩, hl⟩ := I.loc
  obtain ⟨sl, q⟩ := any' _ o (.inr (.inl rfl)) ho
  refine ⟨m, ⟨_, es, ep, q, r⟩, fun i y v e1 e2 e3 => ?_⟩
  obtain ⟨u, ru, l⟩ := hl i y v e1 e2 e3
  refine ⟨u, ru, ?_⟩
  rcases l with l | ⟨k, c, e, z⟩
  ·exact .inl l
  ·exact .inr ⟨k, c, e, cellK y c e _ z⟩
 ·obtain ⟨v, z⟩ := I.cell y c e
  exact ⟨v, cellK y c e v z⟩
 ·obtain ⟨e, n, ne, nf, d⟩ := I.pin p hp
  refine ⟨?_, n, ne, nf, d⟩
  by_cases hf : p.1 ∈ frs X.stack
  ·rcases List.mem_cons.mp (I.stkSub p.1 hf) with z | z
   ·exact absurd z ne
   ·exact absurd z nf
  ·exact at' p.1 p.2 (.inr (.inr (.inr ⟨p, hp, rfl⟩))) hf e
end L2
end
section
namespace L2
open PySem PySem.Spec PyProof.Rows
abbrev TEX := St → Hp → VK → XK → Prop
def PEX (X : Cx) (e : Expr) (t : TEX) : Prop :=
 ∀ (pins : List (Addr × Obj)) (s : Shared) (σ : St) (H : Hp) (Q : VK) (Ex : XK), Inv X pins σ H s → t σ H Q Ex → wpAny (model X.prog X.w) X.A (eval e X.env) (EP X pins σ Q) (XP X pins σ Ex) s
abbrev TSX := Ends → XK → St → Hp → Prop
def PSX (X : Cx) (st : Stmt) (t : TSX) : Prop :=
 ∀ (pins : List (Addr × Obj)) (s : Shared) (σ : St) (H : Hp) (D : Ends) (Ex : XK), Inv X pins σ H s → t D Ex σ H → wpAny (model X.prog X.w) X.A (exec st X.env) (SP X pins D) (XP X pins σ Ex) s
section
variable {X : Cx} {k : Nat} {C : Addr} {m : Str} {ps : List Str} {sp : Sp} {o e : Expr} {es : List Expr} {ta : TE} {t : TA} {tx : TEX} {apos pos : Pos}
theorem zh5 {pins : List (Addr × Obj)} {σ : St} {H : Hp} {s : Shared} {Q : VK} {Ex : XK} {us : List Value} {vs : List V} {f : Addr} {fd : FuncData} (hx : X.ex = []) (F : FnOk X.prog X.w X.K X.mg X.base (CX1 X.prog X.w) k f fd ps sp) (hr : Room k X.A) (hb : Binds X.K fd ps [])
  (I : Inv X pins σ H s) (r : Vals vs us) (h : sp vs H Q Ex) : wpAny (model X.prog X.w) X.A (call (.ref f) us) (EP X pins σ Q) (XP X pins σ Ex) s := by
 have hl : (us ++ []).length = ps.length := by rw [List.append_nil, ← r.length]; exact F.len _ _ _ _ h
 have hB := hb s us I.kIn hl
 rw [List.append_nil] at hB
 refine wpAny_call (codeAny_mono (F.run X.A X.stack s H ⟨us, []⟩ us vs Q Ex hr I.env0 hB r h) fun res s' hq => ?_)
 cases res with
 | error e => exact zh4 hx I hq
 | ok fl =>
  cases fl with
  | ret u => exact I.after hq
  | next => exact hq.elim
  | brk => exact hq.elim
  | cont => exact hq.elim
def zdp (C : Addr) (m : Str) (sp : Sp) (ta : TE) (t : TA) : TEX := fun σ H Q Ex => ta σ H fun x H1 => ∃ a dx fs, x = .ref a ∧ H1 a = some (.ins C dx fs) ∧ fs.lookup m = none ∧ t σ H1 fun vs H2 => sp (x :: vs) H2 Q Ex
theorem zh6 {pl : Sem Bool} (G : MHas X.prog X.w X.K X.mg X.base (CX1 X.prog X.w) k C m ps sp) (c : Cls X.K C) (hr : Room k X.A) (he : PE X.nox o ta) (ha : PA X.nox (e :: es) t) (hx : X.ex = [] := by rfl)
  (hst : starEach (e :: es) X.env = (false, eval e X.env) :: starEach es X.env := by rfl) (hpl : (backTo pos (starEach es X.env)).any (·.1) = false := by rfl)
  (ht : eval (.Call (.Attribute o m apos) (e :: es) [] pos) X.env = (do
   let ov ← eval o X.env
   standAt apos.atName
   let (f, first) ← holding [ov] (getMethod ov m pl)
   callWith pos f first (backTo pos (starEach (e :: es) X.env)) (backToKw pos (keywordEach [] X.env))) := by rfl) :
  PEX X (.Call (.Attribute o m apos) (e :: es) [] pos) (zdp C m sp ta t) := by
 obtain ⟨f, fd, F, hm, hb⟩ := G
 intro pins s σ H Q Ex I h
 refine PySem.W.methodCall_KW (pl := pl) (wpAny_mono (he pins s σ H _ (I.wish _) h) (fun u s1 hq => ?_) fun _ _ z => z.elim) ht
 obtain ⟨x, H1, I1, rx, a, dx, fs, ex, ea, l, q⟩ := hq
 have I1 := I1.unwish
 subst ex
 obtain rfl : u = Value.ref a := rx
 refine z57 I1 ea c hm l ?_
 refine PySem.W.callWith_K (first := [.ref a]) (h₀ := X.base) I.ok.mod.kin hm.kp (wpAny_mono (ha pos pins s1 σ H1 _ (I1.wish _) q) (fun us s2 hq2 => ?_) fun _ _ z => z.elim) hst hpl
 obtain ⟨vs, H2, I2, r, q2⟩ := hq2
 have I2 := I2.unwish
 exact ⟨I2.kIn, zh5 (us := .ref a :: us) (vs := .ref a :: vs) hx F hr hb I2 (.cons rfl r) q2⟩
theorem zgb (h : PEX X e tx) : PSX X (.Return (some e) pos) (fun D Ex σ H => tx σ H D.rt Ex) := by
 intro pins s σ H D Ex I hw
 refine wpAny_Return_some (wpAny_mono (h pins s σ H _ Ex I hw) (fun v s1 hq => ?_) fun _ _ z => z)
 obtain ⟨x, H1, I1, r1, q1⟩ := hq
 exact ⟨x, σ, H1, I1, r1, q1⟩
end
abbrev z5v (X : Cx) (ev : Value) : Cx := { X with A := X.A.mark (some ev), calm := false, xe := fun _ _ => False }
theorem Inv.mark {X : Cx} {pins : List (Addr × Obj)} {σ : St} {H : Hp} {s : Shared} (I : Inv X pins σ H s) (ev : Value) : Inv (z5v X ev) pins σ H s :=
 ⟨⟨I.ok.mod, I.ok.kind, I.ok.glob, I.ok.blt, I.ok.above, I.ok.inj, I.ok.has, I.ok.cab, fun z => absurd z Bool.false_ne_true, I.ok.frames, I.ok.stk, I.ok.exf, I.ok.bs, I.ok.bsz, I.ok.noex, I.ok.exfs, I.ok.funs, I.ok.frf⟩, I.os, I.bare, I.base, I.loc, I.cell, I.free, I.freeC, I.pin, I.hok, I.len⟩
theorem Inv.unmark {X : Cx} {ev : Value} {pins : List (Addr × Obj)} {σ : St} {H : Hp} {s : Shared} (ok : X.Ok) (I : Inv (z5v X ev) pins σ H s) : Inv X pins σ H s :=
 ⟨ok, I.os, I.bare, I.base, I.loc, I.cell, I.free, I.freeC, I.pin, I.hok, I.len⟩
theorem SP.unmark {X : Cx} {ev : Value} {pins : List (Addr × Obj)} {D : Ends} {f : Flow} {s' : Shared} (ok : X.Ok) (h : SP (z5v X ev) pins D f s') : SP X pins D f s' := by
 cases f with
 | next => obtain ⟨σ', H', I, q⟩ := h; exact ⟨σ', H', I.unmark ok, q⟩
 | brk => obtain ⟨σ', H', I, q⟩ := h; exact ⟨σ', H', I.unmark ok, q⟩
 | cont => obtain ⟨σ', H', I, q⟩ := h; exact ⟨σ', H', I.unmark ok, q⟩
 | ret u => obtain ⟨v, σ', H', I, r, q⟩ := h; exact ⟨v, σ', H', I.unmark ok, r, q⟩
theorem zdq {K : PySem.W.Frag} {prog : Program} {w : World} {A : Around} {E : Value → Shared → Prop} {s : Shared} {x C D : Addr} {oe : Obj} {b : Bool} {bmB : List Value} {nid : String} {Q : Bool → Shared → Prop} (kx : K.In s.heap) (he : s.heap.get? x = some oe) (hc : oe.cls = .ref C)
  (exD : PySem.W.excIn K D bmB nid = true) (hb : bmB.contains (.type "BaseException") = true) (sb : PySem.W.subIn K (.ref C) (.ref D) = some b) (hq : Q b s) : wpAny (model prog w) A (excMatches (.ref x) (.ref D)) Q E s := by
 obtain ⟨bm, N, nm, qn, bs, hd, sn, sub, ab, col, dd, k0, k1, k2, k3, k5, mN, hD, hN, hni, T⟩ := zbm kx exD
 have lk := PySem.W.looks_subIn (M := model prog w) kx sb
 obtain ⟨hp, g, d, tk, os⟩ := s
 have inB : (Value.ref D :: bm).contains (.type "BaseException") = true := by rw [List.contains_cons, T.hasType hb, Bool.or_true]
 have nt := tc_notTuple
 have fin : wpAny (model prog w) A (isSubtype (.ref C) (.ref D)) (fun r s' => Q r s') E ⟨hp, g, d, tk, os⟩ := lk A _ _ _ (fun _ _ z => z) hq
 unfold excMatches
 repeat (first
  | (with_reducible refine wpAny_loadPart_at he ?_; rw [hc])
  | with_reducible refine wpAny_loadPart_at hD ?_
  | (with_reducible refine wpAny_isSubtype_exc hD ?_; rw [inB])
  | wp_step)
 refine lk _ _ _ _ (fun _ _ z => z) ?_
 cases b <;> (wp_walk; exact hq)
abbrev TH := Value → Ends → St → Hp → Prop
def PH (X : Cx) (hs : List ExceptHandler) (th : TH) : Prop :=
 ∀ (pins : List (Addr × Obj)) (s : Shared) (σ : St) (H : Hp) (D : Ends) (x C t : Addr) (B : Heap), Fly X pins σ H s x C t B → th (.ref C) D σ H → wpAny (model X.prog X.w) X.A (handleBy (.ref x) X.env hs) (SP X pins D) X.xe s
def zdr : TH := fun _ _ _ _ => False
theorem zh7 {X : Cx} : PH X [] zdr := fun _ _ _ _ _ _ _ _ _ _ h => h.elim
def zfu (K : PySem.W.Frag) (D : Addr) (tb : TS) (th : TH) : TH := fun cls En σ H => ∃ b, PySem.W.subIn K cls (.ref D) = some b ∧ if b = true then tb En σ H else th cls En σ H
theorem zgc {X : Cx} {cn : Str} {D : Addr} {b0 : Stmt} {suite : List Stmt} {rest : List ExceptHandler} {np hpos : Pos} {tb : TS} {th : TH} {bmB : List Value} {nid : String} (hg : Gl X cn) (hm : X.mg cn = some (.ref D)) (ex : PySem.W.excIn X.K D bmB nid = true) (hb : bmB.contains (.type "BaseException") = true)
  (hs : ∀ ev, PSs (z5v X ev) (b0 :: suite) tb) (hr : PH X rest th) (hdb : (cn == ("__debug__" : Str)) = false := by decide) : PH X (.ExceptHandler (some (.Name cn np)) none (b0 :: suite) hpos :: rest) (zfu X.K D tb th) := by
 intro pins s σ H En x C t B F h
 obtain ⟨b, sb, h⟩ := h
 have I := F.inv
 obtain ⟨oe, hoe, hcl⟩ := F.fly.there
 refine wpAny_handleBy_cons (codeAny_handlers_test (z4u (X := z5v X (.ref x)) (I.mark _) hg hm ?_ hdb)) (by intro q; cases q)
 refine zdq I.kIn hoe hcl ex hb sb ?_
 cases b with
 | false => exact hr pins s σ H En x C t B F h
 | true =>
  refine codeAny_handlers_suite (lands_againW F.fly fun h2 fl2 up2 => ?_)
  have F2 := F.on fl2 up2
  refine wpAny_mono (hs (.ref x) pins _ σ H En (F2.inv.mark _) h) (fun f s3 q => ?_) fun _ _ z => z.elim
  exact q.unmark I.ok
def tTry (t : TSX) (th : TH) : TS := fun D σ H => t D (fun cls _ H' => th cls D σ H') σ H
theorem zh8 {X : Cx} {st : Stmt} {h0 : ExceptHandler} {hs : List ExceptHandler} {pos : Pos} {t : TSX} {th : TH} (hb : PSX X st t) (hh : PH X (h0 :: hs) th) (s1 : X.stack = X.env :: X.outer := by rfl) (s2 : X.env.frame = some X.env.locals := by rfl) :
  PS X (.Try [st] (h0 :: hs) [] [] pos) (tTry t th) := by
 intro pins s σ H D I h
 refine wpAny_Try_except (wpAny_execs_cons (wpAny_mono (hb pins s σ H D _ I h) (fun f s3 q => ?_) fun ev s3 q => ?_))
 ·cases f with
  | next => exact wpAny_execs_nil (wpAny_execs_nil q)
  | ret v => exact q
  | brk => exact q
  | cont => exact q
 ·obtain ⟨x, C, t', B, H', rfl, F, hx⟩ := q
  have fl := F.fly
  rw [s1] at fl
  refine wpAny_looks_onW (by rw [← s1]; exact I.ok.frames) s2 fl fun h4 held up4 => ?_
  refine wpAny_landsW held fun h5 fl5 up5 => ?_
  rw [← s1] at fl5
  exact hh pins _ σ H' D x C t' B (F.on fl5 (up4.trans up5)) hx
end L2
end
section
namespace L2
open PySem PySem.Spec PyProof.Rows
section
variable {X : Cx}
theorem z7q : OpR X (binaryOp .Mult) (fun x y H Q => ∃ z n, x = .str z ∧ y = .int n ∧ MulOk z n ∧ Q (.str (Txt.mul z n)) H) := by
 intro pins s σ H x y v u Q I rx ry h
 obtain ⟨z, n, rfl, rfl, hok, q⟩ := h
 obtain ⟨t, rfl⟩ := rx
 obtain ⟨t', rfl⟩ := ry
 exact SB.mul hok fun t2 k => ⟨.str _, H, I.tok _, ⟨_, rfl⟩, q⟩
theorem zeu : MtR X "str.count" (fun x vs H Q => ∃ z y, x = .str z ∧ vs = [.str y] ∧ Q (.int (Txt.count z y)) H) := by
 intro pins s σ H x vs v us Q I rx rv h
 obtain ⟨z, y, rfl, rfl, q⟩ := h
 obtain ⟨t, rfl⟩ := rx
 obtain ⟨u, rfl, t', rfl⟩ := rv.one
 exact SC.count ⟨.int _, H, I.tok _, ⟨_, rfl⟩, q⟩
theorem zev (hu : X.A.units < cLine) : OpR X (compareOp .Eq) (fun x y H Q => ∃ p q xs, x = .ref p ∧ y = .ref q ∧ SqL X.K H p xs ∧ SqL X.K H q [] ∧ Q (.bl xs.isEmpty) H) := by
 intro pins s σ H x y v u Q I rx ry h
 obtain ⟨p, q, xs, rfl, rfl, hp, hq, hQ⟩ := h
 cases rx
 cases ry
 obtain ⟨us, r1, p1, _⟩ := I.list hp
 obtain ⟨ws, r2, p2, _⟩ := I.list hq
 have l1 := r1.length
 cases r2
 cases xs with
 | nil =>
  cases r1
  exact SeqAt.eq_listAt (e := fun _ => true) p1.isList p2.isList rfl hu (fun j h1 h2 => absurd h1 (Nat.not_lt_zero _)) (zv I hQ rfl)
 | cons a xs => exact SeqAt.eq_list_lengthsAt p1.isList p2.isList (by simp only [List.size_toArray, bne_iff_ne]; rw [← l1]; simp) hu (zv I hQ rfl)
theorem zew (hu : X.A.units < cLine) : OpR X (compareOp .NotEq) (fun x y H Q => ∃ p q xs, x = .ref p ∧ y = .ref q ∧ SqL X.K H p xs ∧ SqL X.K H q [] ∧ Q (.bl (!xs.isEmpty)) H) := by
 intro pins s σ H x y v u Q I rx ry h
 obtain ⟨p, q, xs, rfl, rfl, hp, hq, hQ⟩ := h
 cases rx
 cases ry
 obtain ⟨us, r1, p1, _⟩ := I.list hp
 obtain ⟨ws, r2, p2, _⟩ := I.list hq
 have l1 := r1.length
 cases r2
 cases xs with
 | nil =>
  cases r1
  exact SeqAt.RcNeAt.lists (e := fun _ => true) p1.isList p2.isList rfl hu (fun j h1 h2 => absurd h1 (Nat.not_lt_zero _)) _ _ _ _ (zv I hQ rfl)
 | cons a xs => exact SeqAt.RcNeAt.lists_lengths p1.isList p2.isList (by simp only [List.size_toArray, bne_iff_ne]; rw [← l1]; simp) hu _ _ _ _ (zv I hQ rfl)
theorem zci {A : Around} {E : Value → Shared → Prop} {Q : Value → Shared → Prop} {pins : List (Addr × Obj)} {σ : St} {H : Hp} {s : Shared} {x : V} {u t : Value} {tp : Addr} {its : List Value} {b : Bool} (I : Inv X pins σ H s) (rx : RelV x u) (ty : TyOf X.K H x t) (ht : IsTup s.heap tp its.toArray)
  (e : PySem.W.kitAny X.K t its = some b) (h : ∀ tk, Q (.bool b) { s with toks := tk }) : wpAny (model X.prog X.w) A (call (.builtin "isinstance") [u, .ref tp]) Q E s := by
 obtain ⟨⟨c0, dd, dt, sl⟩, e0, hc0, n0, hd0⟩ := ht
 simp only at hc0 hd0
 subst hc0 hd0
 cases ty with
 | non => cases (show u = Value.none from rx); exact PySem.W.kia_tup PySem.W.kitx_none I.kIn True.intro e0 e (fun z => nomatch z) h
 | bl y => cases (show u = Value.bool y from rx); exact PySem.W.kia_tup PySem.W.kitx_bool I.kIn True.intro e0 e (fun z => nomatch z) h
 | int i => obtain ⟨t, q⟩ := (show ∃ t, u = Value.int i t from rx); cases q; exact PySem.W.kia_tup PySem.W.kitx_int I.kIn True.intro e0 e (fun z => nomatch z) h
 | str y => obtain ⟨t, q⟩ := (show ∃ t, u = Value.str y t from rx); cases q; exact PySem.W.kia_tup PySem.W.kitx_str I.kIn True.intro e0 e (fun z => nomatch z) h
 | flt y => obtain ⟨t, q⟩ := (show ∃ t, u = Value.float y t from rx); cases q; exact PySem.W.kia_tup PySem.W.kitx_float I.kIn True.intro e0 e (fun z => nomatch z) h
 | @lst a xs ea =>
  cases (show u = Value.ref a from rx)
  obtain ⟨_, _, n, _, h1⟩ := (show ObjOk X.prog X.w H s.heap a (.lst xs) from I.hok a _ ea)
  exact PySem.W.kia_tup PySem.W.kitx_list I.kIn ⟨_, h1, rfl⟩ e0 e (fun z => nomatch z) h
 | @tup a xs ea =>
  cases (show u = Value.ref a from rx)
  obtain ⟨_, _, _, p⟩ := (show ObjOk X.prog X.w H s.heap a (.tup xs) from I.hok a _ ea)
  obtain ⟨o, h1, h2, _⟩ := p
  exact PySem.W.kia_tup PySem.W.kitx_tuple I.kIn ⟨o, h1, h2⟩ e0 e (fun z => nomatch z) h
 | @frz a ob xs ea =>
  cases (show u = Value.ref a from rx)
  obtain ⟨_, _, _, n, _, h1⟩ := (show ObjOk X.prog X.w H s.heap a (.frz ob (.lst xs)) from I.hok a _ ea)
  exact PySem.W.kia_tup PySem.W.kitx_list I.kIn ⟨_, h1, rfl⟩ e0 e (fun z => nomatch z) h
 | @dK a kvs ea =>
  cases (show u = Value.ref a from rx)
  obtain ⟨_, _, vs, _, p⟩ := (show ObjOk X.prog X.w H s.heap a (.dK kvs) from I.hok a _ ea)
  obtain ⟨o, es, ep, h1, h2, _⟩ := p
  exact PySem.W.kia_tup PySem.W.kitx_dict I.kIn ⟨o, h1, h2.1⟩ e0 e (fun z => nomatch z) h
 | @dT a kvs ea =>
  cases (show u = Value.ref a from rx)
  obtain ⟨_, _, xs, _, o, es, ep, h1, h2, _⟩ := (show ObjOk X.prog X.w H s.heap a (.dT kvs) from I.hok a _ ea)
  exact PySem.W.kia_tup PySem.W.kitx_dict I.kIn ⟨o, h1, h2.1⟩ e0 e (fun z => nomatch z) h
 | @ins a C dx fs ea cl ha hn htk hm =>
  cases (show u = Value.ref a from rx)
  obtain ⟨mA, O, _⟩ := z4x I.hok ea
  obtain ⟨od, J, _⟩ := O.look
  exact PySem.W.kia_tup (PySem.W.kitx_own (cl.get _) cl.hd ha hn htk hm) I.kIn J e0 e (fun z => nomatch z) h
theorem z4l : CallR X (.builtin "isinstance") (fun xs H Q => ∃ x p c d t b, xs = [x, .ref p] ∧ SqT X.K H p [.ty c, .ty d] ∧ TyOf X.K H x t ∧ PySem.W.kitAny X.K t [.type c, .type d] = some b ∧ Q (.bl b) H) := by
 intro pins s σ H xs us Q I r h
 obtain ⟨x, p, c, d, t, b, rfl, hp, ty, e, q⟩ := h
 obtain ⟨u, w', rfl, r1, r2⟩ := zc6 r
 cases r2
 obtain ⟨its, rv, pl, _⟩ := I.tuple hp
 obtain ⟨u1, u2, rfl, q1, q2⟩ := rv.two
 cases q1
 cases q2
 exact zci I r1 ty pl e fun tk => ⟨.bl b, H, I.tok _, rfl, q⟩
def KHas (P : Program) (w : World) (K : PySem.W.Frag) (mg : Str → Option Value) (base : Heap) (k : Nat) (C : Addr) (ps : List Str) (sp : Sp) : Prop :=
 ∃ f fd, FnOk P w K mg base CX0 k f fd ps sp ∧ Mk K C f ∧ Binds K fd ps []
theorem zgd {k : Nat} {C : Addr} {x : Str} {ps : List Str} {sp : Sp} {p pos : Pos} (G : KHas X.prog X.w X.K X.mg X.base k C ps sp) (hr : Room (k + 1) X.A) (hg : Gl X x) (hm : X.mg x = some (.ref C)) (hdb : (x == ("__debug__" : Str)) = false := by decide) : PE X (.Call (.Name x p) [] [] pos) (z7k C sp [] E0 tNil) := by
 obtain ⟨f, fd, F, M, hb⟩ := G
 exact zer M F hr hg hm hb .nil z7m hdb
end
def KDef (K : PySem.W.Frag) (C : Addr) (qual : Str) (st : Stmt) (ps : List Str) : Prop := ∃ f fd, Fun K "__init__" qual st f fd ∧ Mk K C f ∧ Binds K fd ps []
theorem KDef.ok {P : Program} {w : World} {K : PySem.W.Frag} {mg : Str → Option Value} {base : Heap} {C : Addr} {qual : Str} {st : Stmt} {N ps : List Str} {k : Nat} {sp : Sp} (D : KDef K C qual st ps) (S : FnScope N ps (zi st)) (len : ∀ vs H Q E, sp vs H Q E → vs.length = ps.length)
  (hbody : ∀ (f : Addr) (cdv : Value) (A : Around) (outer : List Env) (s : Shared) (H : Hp) (vs : List V) (Q : VK) (E : XK), Room k (A.deeper (envOfC qual (zi st) s.heap.objs.size f cdv)) → sp vs H Q E →
   ∃ t, PSs (cxOf CX0 P w K mg base N qual (zi st) f cdv A outer s H E).nox (z29 st) t ∧ t { nx := fun _ H' => Q .non H', rt := Q } (start N vs) H) : KHas P w K mg base (k + 1) C ps sp := by
 obtain ⟨f, fd, F, hm, hb⟩ := D
 exact ⟨f, fd, F.ok S len (fun cdv A outer s H vs Q E hr h => hbody f cdv A outer s H vs Q E hr h), hm, hb⟩
def z8b : Sp := fun _ _ _ _ => False
theorem z99 {P : Program} {w : World} {K : PySem.W.Frag} {mg : Str → Option Value} {base : Heap} {x : Str} {st : Stmt} {ps : List Str} {k : Nat} (D : Def K mg x st ps) : Has P w K mg base k x ps z8b := by
 obtain ⟨f, fd, F, hm, hb⟩ := D
 refine ⟨f, fd, ⟨fun _ _ _ _ h => h.elim, fun _ _ _ _ _ _ _ _ _ _ _ _ _ h => h.elim⟩, hm, F.kp, hb, ?_⟩
 obtain ⟨oc, od, kV, doc, pm, an, cdv, ct, osl, rfl, lk, hcd⟩ := F.ex
 exact ⟨oc, od, osl, lk⟩
theorem z3p (K : PySem.W.Frag) : PySem.W.kitOne K (.type "list") (.type "list") = some true := by with_unfolding_all rfl
theorem z14 (K : PySem.W.Frag) : PySem.W.kitOne K (.type "int") (.type "int") = some true ∧ PySem.W.kitOne K (.type "bool") (.type "int") = some true ∧ PySem.W.kitOne K (.type "str") (.type "int") = some false ∧ PySem.W.kitOne K (.type "str") (.type "str") = some true ∧ PySem.W.kitOne K (.type "int") (.type "str") = some false ∧
  PySem.W.kitOne K (.type "str") (.type "bool") = some false ∧ PySem.W.kitOne K (.type "tuple") (.type "tuple") = some true ∧ PySem.W.kitOne K (.type "tuple") (.type "list") = some false ∧ PySem.W.kitOne K (.type "list") (.type "tuple") = some false := by
 refine ⟨?_, ?_, ?_, ?_, ?_, ?_, ?_, ?_, ?_⟩ <;> with_unfolding_all rfl
theorem z2s (K : PySem.W.Frag) : PySem.W.kitAny K (.type "int") [.type "list", .type "tuple"] = some false ∧ PySem.W.kitAny K (.type "bool") [.type "list", .type "tuple"] = some false ∧ PySem.W.kitAny K (.type "str") [.type "list", .type "tuple"] = some false ∧
  PySem.W.kitAny K (.type "list") [.type "list", .type "tuple"] = some true ∧ PySem.W.kitAny K (.type "tuple") [.type "list", .type "tuple"] = some true := by
 refine ⟨?_, ?_, ?_, ?_, ?_⟩ <;> with_unfolding_all rfl
theorem Has.or {P : Program} {w : World} {K : PySem.W.Frag} {mg : Str → Option Value} {base : Heap} {k k' n : Nat} {x : Str} {ps : List Str} {sp sp' : Sp} (G : Has P w K mg base k x ps sp) (G' : Has P w K mg base k' x ps sp') (h1 : k ≤ n) (h2 : k' ≤ n) : Has P w K mg base n x ps (fun vs H Q E => sp vs H Q E ∨ sp' vs H Q E) := by
 obtain ⟨f, fd, F, hm, hk, hb, oc, od, osl, lk⟩ := G
 obtain ⟨f', fd', F', hm', hk', hb', oc', od', osl', lk'⟩ := G'
 have e := hm.symm.trans hm'
 cases e
 rw [lk] at lk'
 have e2 := Option.some.inj lk'
 injection e2 with _ _ e3 _
 injection e3 with e4
 subst e4
 refine ⟨f, fd, ⟨fun vs H Q E h => h.elim (F.len vs H Q E) (F'.len vs H Q E), fun A outer s H args us vs Q E hr he hB hv hs => ?_⟩, hm, hk, hb, oc, od, osl, lk⟩
 rcases hs with hs | hs
 ·exact (F.mono h1).run A outer s H args us vs Q E hr he hB hv hs
 ·exact (F'.mono h2).run A outer s H args us vs Q E hr he hB hv hs
section
variable {X : Cx} {K : PySem.W.Frag}
theorem z1a (h : X.K = K := by rfl) : IxR X (rIxT K) := h ▸ ix_tup
theorem z2m (h : X.K = K := by rfl) : IxR X (rIx K) := h ▸ zgy
theorem zex (hu : X.A.units < cLine) (h : X.K = K := by rfl) : OpR X (compareOp .Eq) (rEqT K false) := h ▸ zh0 hu
theorem zey (hu : X.A.units < cLine) (h : X.K = K := by rfl) : OpR X (compareOp .NotEq) (rEqT K true) := h ▸ zh1 hu
theorem zb5 (h : X.K = K := by rfl) : OpR X (compareOp .In) (rIn K false) := h ▸ z95
theorem zaf {e : Expr} {ta : TE} {f : Str} {pos : Pos} (he : PE X e ta) (hb : attributeBase e f X.env (eval e X.env) = eval e X.env) (h : X.K = K := by rfl) : PE X (.Attribute e f pos) (tFld K ta f) := h ▸ z21 he hb
end
end L2
end
section
namespace L2
open PySem PySem.Spec PyProof.Rows
section
variable {X : Cx}
theorem zds (hc : X.calm = true) : CallR X (.builtin "max") (fun xs H Q => ∃ p ns, xs = [.ref p] ∧ SqL X.K H p ((ns : List Int).map V.int) ∧ ns ≠ [] ∧ ∀ m ∈ ns, (∀ x ∈ ns, x ≤ m) → Q (.int m) H) := by
  intro pins s σ H xs us Q I r h
  obtain ⟨p, ns, rfl, hp, hne0, q⟩ := h
  obtain ⟨u, rfl, ru⟩ := z56 r
  cases ru
  obtain ⟨its, r1, p1, _⟩ := I.list hp
  have hl := r1.length
  rw [List.length_map] at hl
  refine call_max_walk (wpAny_pyIter_list p1.isList ?_)
  obtain ⟨ol, n, hol, hcl, hdl, hsl⟩ := id p1
  have hne : p ≠ s.heap.objs.size := Nat.ne_of_lt (Heap.lt_size hol)
  have hlt : p < s.heap.objs.size := Heap.lt_size hol
  have hpos : 0 < ns.length := by cases ns with | nil => exact absurd rfl hne0 | cons a b => simp
  refine ⟨s.heap.objs.size, [s.heap.objs.size, p], [s.heap.objs.size], its.toArray.size, _, _, fun i j => decide (ns.getD i 0 > ns.getD j 0), rfl, Walks.list (by exact I.ok.hd hc) s.heap.objs.size p hne its.toArray,
    ⟨⟨_, Heap.get?_push_size _ rfl, rfl, rfl⟩, ⟨ol, Heap.get?_push_of_some _ hol, hcl, n, hsl⟩⟩, fun b hb => ?_, by rw [List.size_toArray]; omega, CmpOf.ints_gt (fun i => ns.getD i 0) ?_, fun v h' tk hP k => ?_⟩
  · show b < (s.heap.push _).objs.size
    rw [Heap.size_push]
    rcases List.mem_cons.mp hb with rfl | hb
    · exact Nat.lt_succ_self _
    · rcases List.mem_cons.mp hb with rfl | hb
      · exact Nat.lt_succ_of_lt hlt
      · cases hb
  · intro j v hv
    have hv : its.toArray[j]? = some v := hv
    have e0 : its[j]? = some v := by simpa using hv
    have hj : j < its.length := (List.getElem?_eq_some_iff.mp e0).1
    have e1 : (ns.map V.int)[j]? = some (V.int (ns.getD j 0)) := by
      rw [List.getElem?_map, List.getD_eq_getElem?_getD, List.getElem?_eq_getElem (by omega)]
      rfl
    obtain ⟨w, q1, rw'⟩ := r1.get e1
    rw [e0] at q1
    cases q1
    exact rw'
  · have hP : its.toArray[argBest (fun i j => decide (ns.getD i 0 > ns.getD j 0)) (its.toArray.size - 1)]? = some v := hP
    obtain ⟨b1, b2⟩ := argBest_gt (fun i => ns.getD i 0) (its.toArray.size - 1)
    rw [List.size_toArray, ← hl] at b1 b2 hP
    generalize argBest (fun i j => decide (ns.getD i 0 > ns.getD j 0)) (ns.length - 1) = a at b1 b2 hP
    have e0 : its[a]? = some v := by simpa using hP
    have ha : a < ns.length := by omega
    have e1 : (ns.map V.int)[a]? = some (V.int (ns.getD a 0)) := by
      rw [List.getElem?_map, List.getD_eq_getElem?_getD, List.getElem?_eq_getElem ha]
      rfl
    obtain ⟨w, q1, rw'⟩ := r1.get e1
    rw [e0] at q1
    cases q1
    have I2 : Inv X pins σ H { s with heap := h', toks := tk } := by
     refine I.kept (t' := tk) (h' := h') fun b o e => k b o ?_ (Heap.get?_push_of_some _ e)
     intro z
     have : b = s.heap.objs.size := by simpa using z
     exact absurd (Heap.lt_size e) (by rw [this]; exact Nat.lt_irrefl _)
    refine ⟨.int _, H, I2, rw', q _ ?_ ?_⟩
    · rw [List.getD_eq_getElem?_getD, List.getElem?_eq_getElem ha]
      exact List.getElem_mem ha
    · intro x hx
      obtain ⟨j, hj, rfl⟩ := List.getElem_of_mem hx
      have := b2 j (by omega)
      have e : ns.getD j 0 = ns[j] := by rw [List.getD_eq_getElem?_getD, List.getElem?_eq_getElem hj]; rfl
      rw [e] at this
      exact this
end
end L2
end
section
namespace PySem.W
open PySem PySem.Spec PySem.Calls PyProof.Rows
open Builtin Builtin.Getset_descriptor
section
variable {prog : Program} {w : World} {A : Around} {E : Value → Shared → Prop} {s : Shared} {K : Frag} {x C : Addr} {R : Result → Shared → Prop}
structure ErrCls (K : Frag) (C : Addr) : Prop where
 ga : findIn K (.ref C) "__getattribute__" = some (some (.builtin "BaseException.__getattribute__"))
 no : findIn K (.ref C) "__getattr__" = some none
 cl : findIn K (.ref C) "__class__" = some (some (.builtin "object.__class__"))
 sp : specialIn K (.builtin "object.__class__") "__get__" = some (some (.builtin "getset_descriptor.__get__"))
 tk : takesIn K (.builtin "object.__class__") = some true
 mo : mroIn K C (.type "object") = some true
 mb : mroIn K C (.type "BaseException") = some true
end
end PySem.W
namespace L2
open PySem PySem.Spec PyProof.Rows
section
variable {X : Cx}
def clsV : V → Option Value
 | .ty n => some (.type n)
 | .ref a => some (.ref a)
 | _ => none
theorem Inv.also {pins : List (Addr × Obj)} {σ : St} {H : Hp} {s : Shared} {x : Addr} {o : HO} (I : Inv X pins σ H s) (hx : H x = none) (hm : ¬ Mine X pins x) (ok : ObjOk X.prog X.w (upd H x o) s.heap x o) : Inv X pins σ (upd H x o) s := by
 have nb : ∀ b u, H b = some u → b ≠ x := fun b u e z => by rw [z, hx] at e; cases e
 refine ⟨I.ok, I.os, I.bare, ⟨I.base.keep, I.base.slot, fun b ob e n hb => ?_, I.base.there, fun b ys e => ?_, fun b ob u e => ?_, fun b ps e => ?_⟩, I.loc, I.cell, ?_, fun y c e => ?_, fun p hp => ?_, fun b ob e => ?_, I.len⟩
 ·have : b ≠ x := fun z => hm (.inl ⟨ob, z ▸ e⟩)
  rw [zb this]
  exact I.base.free b ob e n hb
 ·have q := I.base.tups b ys e
  rw [zb (nb _ _ q)]
  exact q
 ·have q := I.base.frzs b ob u e
  rw [zb (nb _ _ q)]
  exact q
 ·obtain ⟨more, q⟩ := I.base.tbls b ps e
  exact ⟨more, by rw [zb (nb _ _ q)]; exact q⟩
 ·have : X.env.locals ≠ x := fun z => hm (.inr (.inl z.symm))
  rw [zb this]
  exact I.free
 ·have : c ≠ x := fun z => hm (.inr (.inr (.inl ⟨y, z ▸ e⟩)))
  rw [zb this]
  exact I.freeC y c e
 ·obtain ⟨a1, a2, a3⟩ := I.pin p hp
  have : p.1 ≠ x := fun z => hm (.inr (.inr (.inr ⟨p, hp, z⟩)))
  exact ⟨a1, by rw [zb this]; exact a2, a3⟩
 ·by_cases hb : b = x
  ·subst hb
   rw [z9] at e
   cases e
   exact ok
  ·rw [zb hb] at e
   refine (I.hok b ob e).stay (fun _ _ _ q => q) (fun c q => ?_) fun c ys q => ?_
   ·rw [zb (nb _ _ q)]; exact q
   ·rw [zb (nb _ _ q)]; exact q
end
end L2
end
section
namespace PySem
open Sem (wp)
open AutoSeq1 (wpAny_loadPart')
theorem zb6 (a : Value) (t : Tok) : checkTypeCall "enumerate" ⟨[a], [(Str.ofString "start", .int 1 t)]⟩ = pure () := by kernel_rfl
theorem zdt (a : Value) (t : Tok) : checkBuiltinCall "enumerate.__new__" ⟨[.type "enumerate", a], [(Str.ofString "start", .int 1 t)]⟩ = pure () := by kernel_rfl
theorem zcj (obj a : Value) (t : Tok) : argsOk "object.__init__" ⟨[obj, a], [(Str.ofString "start", .int 1 t)]⟩ := by unfold argsOk; kernel_rfl
theorem zck (l : Addr) (o : Obj) (items : Array Value) (t : Tok) :
  Meets (Builtin.«enumerate.__new__» ⟨[.type "enumerate", .ref l], [(Str.ofString "start", .int 1 t)]⟩) (fun _ R s => s.heap.get? l = some o ∧ s.heap.IsList l items ∧
   R (.ok (.ret (.ref (s.heap.push { cls := .type "list_iterator", data := .fields #[.ref l, .int 0 0] }).objs.size)))
    { s with heap := (s.heap.push { cls := .type "list_iterator", data := .fields #[.ref l, .int 0 0] }).push { cls := .type "enumerate", data := .fields #[.none, .bool false, .ref s.heap.objs.size, rawInt 1, .none, .none] } }) :=
 .of_wp fun prog w A R s h => by
  obtain ⟨h0, g0, d0, t0, o0⟩ := s
  obtain ⟨ho, hL, h⟩ := h
  have hsub := sub_enumerate
  wp_walk using wpAny_loadPart' ho
  refine wpAny_stack_any fun stk => ?_
  refine wpAny_pure ?_
  split
  ·rename_i c _ _ _ _ _
   generalize (c == Value.type "enumerate") = b
   cases b <;> (wp_walk using wpAny_loadPart' ho, wpAny_pyIter_list hL; exact ⟨_, rfl, h⟩)
  ·wp_walk using wpAny_loadPart' ho, wpAny_pyIter_list hL
   exact ⟨_, rfl, h⟩
end PySem
end
section
namespace PySem
open Sem (wp)
theorem zcl {prog : Program} {w : World} {A : Around} {E : Value → Shared → Prop} {s : Shared} {l : Addr} {items : Array Value} {t : Tok} {Q : Value → Shared → Prop} (hL : s.heap.IsList l items)
  (h : ∀ h', IsEnum h' (s.heap.objs.size + 1) s.heap.objs.size 1 .none → h'.IsListIter s.heap.objs.size l 0 → h'.objs.size = s.heap.objs.size + 2 →
   (∀ b o, s.heap.get? b = some o → h'.get? b = some o) → Q (.ref (s.heap.objs.size + 1)) { s with heap := h' }) :
  wpAny (model prog w) A (call (.type "enumerate") [.ref l] [(Str.ofString "start", .int 1 t)]) Q E s := by
 have ft := F.called_enumerate
 obtain ⟨c, tl, hmro⟩ := ft.mro
 have f1 := ft.made
 have f2 := ft.sub
 have f3 := ft.notType
 have f4 := ft.canCreate
 have f5 := zb6 (.ref l) t
 obtain ⟨o, ho, _⟩ := id hL
 refine wpAny_call (codeAny_of_tree ?_)
 show wpAny _ _ (callAny (.type "enumerate") _) _ _ _
 refine wpAny_pure ⟨Code.quiet_builtin _ (by decide +kernel), ?_⟩
 refine codeAny_builtin F.entry_type_call ?_
 rw [Around.under_plain (weight_type_call_type "enumerate" _ _) (units_type_call_type "enumerate" _ _)]
 repeat (any_goals (first | assumption | wp_step))
 have hz : (s.heap.push { cls := .type "list_iterator", data := .fields #[.ref l, .int 0 0] }).objs.size = s.heap.objs.size + 1 := Heap.size_push ..
 have he : IsEnum ((s.heap.push { cls := .type "list_iterator", data := .fields #[.ref l, .int 0 0] }).push { cls := .type "enumerate", data := .fields #[.none, .bool false, .ref s.heap.objs.size, rawInt 1, .none, .none] }) (s.heap.objs.size + 1) s.heap.objs.size 1 .none := by
  rw [← hz]
  exact Heap.get?_push_size _ rfl
 have hi : ((s.heap.push { cls := .type "list_iterator", data := .fields #[.ref l, .int 0 0] }).push { cls := .type "enumerate", data := .fields #[.none, .bool false, .ref s.heap.objs.size, rawInt 1, .none, .none] }).IsListIter s.heap.objs.size l 0 :=
  ⟨_, Heap.get?_push_of_some _ (Heap.get?_push_size _ rfl), rfl, rfl⟩
 have hsz : ((s.heap.push { cls := .type "list_iterator", data := .fields #[.ref l, .int 0 0] }).push { cls := .type "enumerate", data := .fields #[.none, .bool false, .ref s.heap.objs.size, rawInt 1, .none, .none] }).objs.size = s.heap.objs.size + 2 := by
  rw [Heap.size_push, hz]
 have hq := h _ he hi hsz fun b o x => Heap.get?_push_of_some _ (Heap.get?_push_of_some _ x)
 have hN : wants (fun v s1 => v = Value.ref (s.heap.objs.size + 1) ∧ s1 = { s with heap := (s.heap.push { cls := .type "list_iterator", data := .fields #[.ref l, .int 0 0] }).push { cls := .type "enumerate", data := .fields #[.none, .bool false, .ref s.heap.objs.size, rawInt 1, .none, .none] } }) E (.ok (.ret (.ref (s.heap.push { cls := .type "list_iterator", data := .fields #[.ref l, .int 0 0] }).objs.size)))
   { s with heap := (s.heap.push { cls := .type "list_iterator", data := .fields #[.ref l, .int 0 0] }).push { cls := .type "enumerate", data := .fields #[.none, .bool false, .ref s.heap.objs.size, rawInt 1, .none, .none] } } := by
  rw [hz]
  exact ⟨rfl, rfl⟩
 have hM := zck l o items t prog w A.in1 _ s ⟨ho, hL, hN⟩
 generalize (s.heap.push { cls := .type "list_iterator", data := .fields #[.ref l, .int 0 0] }).push { cls := .type "enumerate", data := .fields #[.none, .bool false, .ref s.heap.objs.size, rawInt 1, .none, .none] } = h9 at he hi hsz hq hM
 have hT : ({ s with heap := h9 } : Shared).TypeIs (.ref (s.heap.objs.size + 1)) "enumerate" := ⟨_, he, rfl⟩
 have hli := ft.init.lookup
 have hbi := ft.init.bind (.ref (s.heap.objs.size + 1))
 refine codeAny_mono (codeAny_call_builtin (R := wants (fun v s1 => v = .ref (s.heap.objs.size + 1) ∧ s1 = { s with heap := h9 }) E) ft.plain F.entry_enumerate_new
  (wpAny_of_eq (zdt _ t) hM)) fun r s1 hr => ?_
 cases r with
 | error e => exact hr
 | ok fl =>
  cases fl with
  | ret v =>
   obtain ⟨rfl, rfl⟩ := hr
   dsimp only
   have hx : (some "enumerate.__new__" != some "object.__new__") = true := by decide
   repeat (any_goals (first | assumption | wp_step))
   refine codeAny_call_builtin ft.init.plain F.entry_object_init (ft.init.check _ _ _ _ _ _ _ _ hT (zcj _ _ t) ?_)
   unfold Builtin.«object.__init__»
   repeat (any_goals (first | assumption | wp_step))
  | _ => exact hr.elim
end PySem
end
section
namespace PySem
theorem Draws.late {prog : Program} {w : World} {A : Around} {it : Addr} {fp : List Addr} {n : Nat} {P : Nat → Value → Prop} {St : Nat → Heap → Prop} (D : Draws prog w A it fp n P St) :
  Draws prog w A it fp (n + 1) (fun i x => P (i - 1) x) (fun i h => 1 ≤ i ∧ St (i - 1) h) where
 live := fun i h st => D.live _ _ st.2
 frame := fun i h h' st k => ⟨st.1, D.frame _ _ _ st.2 k⟩
 item := fun i s Q E hi st hQ => D.item (i - 1) s Q E (by have := st.1; omega) st.2 fun x h' tk hP hs hb => hQ x h' tk hP ⟨by omega, by
  have e : i - 1 + 1 = i + 1 - 1 := by have := st.1; omega
  rw [← e]; exact hs⟩ hb
 done := fun s Q E st hE => D.done s Q E st.2 hE
end PySem
namespace L2
open PySem PySem.Spec PyProof.Rows
theorem Inv.turned2 {X : Cx} {pins : List (Addr × Obj)} {σ : St} {H : Hp} {s : Shared} {h' : Heap} {t' : Nat} {e it : Addr} (I : Inv X pins σ H s) (k : ∀ b o, b ≠ e → b ≠ it → s.heap.get? b = some o → h'.get? b = some o) (fe : FpOk X pins H e) (fi : FpOk X pins H it) : Inv X pins σ H { s with heap := h', toks := t' } := by
 obtain ⟨e0, e1, _, e3, e4, e5⟩ := fe
 obtain ⟨i0, i1, _, i3, i4, i5⟩ := fi
 have ne : ∀ b u, H b = some u → b ≠ e := fun b u q z => by rw [z, e0] at q; cases q
 have ni : ∀ b u, H b = some u → b ≠ it := fun b u q z => by rw [z, i0] at q; cases q
 have kc : ∀ b o, b ∉ [e, it] → s.heap.get? b = some o → h'.get? b = some o := fun b o hc q => k b o (fun z => hc (by simp [z])) (fun z => hc (by simp [z])) q
 refine I.step (g' := s.gens) (d' := s.drawn) (ch := [e, it]) (fun b hb => ?_) (fun b o _ _ hc q _ => kc b o hc q) (fun b o _ _ hc q _ => ⟨o.slots, kc b o hc q⟩) (fun _ _ _ _ n => n)
  (fun b o hc q => ⟨o, kc b o hc q⟩) (fun _ _ q => q) (fun _ _ _ q => q) (fun b ps q => ⟨#[], by rw [q]; simp⟩) (fun m hm => ?_) (fun b u q => ?_) I.bare
 ·rcases List.mem_cons.mp hb with z | z
  ·subst z; exact ⟨e3, e1, e4, e5⟩
  ·have z : b = it := by simpa using z
   subst z; exact ⟨i3, i1, i4, i5⟩
 ·obtain ⟨o, es, ep, ho, r⟩ := hm
  exact ⟨o, es, ep, k _ o (Ne.symm e1) (Ne.symm i1) ho, r⟩
 ·refine (I.hok b u q).stay (fun c v hc z => k c v ?_ ?_ z) (fun _ z => z) fun _ _ z => z
  ·rcases hc with y | y
   ·rw [y]; exact ne b u q
   ·exact ne c _ y
  ·rcases hc with y | y
   ·rw [y]; exact ni b u q
   ·exact ni c _ y
def Ite (K : PySem.W.Frag) (a : Addr) : It :=
 ⟨fun i H => ∃ xs x, SqL K H a xs ∧ xs[i]? = some x, fun i H x H' => ∃ T v, x = .ref T ∧ H T = none ∧ H' = upd H T (.tup [.int ((i : Int) + 1), v]) ∧ ∀ xs, SqL K H a xs → xs[i]? = some v, fun i H => ∃ xs, SqL K H a xs ∧ xs.length ≤ i⟩
theorem zez {X : Cx} {pins : List (Addr × Obj)} {σ : St} {H : Hp} {s : Shared} (I : Inv X pins σ H s) {T : Addr} (hT : s.heap.objs.size ≤ T) : ¬ Mine X pins T := by
 intro hm
 rcases hm with ⟨o, e⟩ | e | ⟨y, e⟩ | ⟨p, hp, e⟩
 ·exact absurd (Nat.lt_of_lt_of_le (Heap.lt_size e) (Nat.le_trans I.sz hT)) (Nat.lt_irrefl _)
 ·rw [e] at hT
  exact absurd (Nat.lt_of_lt_of_le I.lt hT) (Nat.lt_irrefl _)
 ·obtain ⟨v, q⟩ := I.cell y T e
  exact absurd (Nat.lt_of_lt_of_le q.lt hT) (Nat.lt_irrefl _)
 ·have := Heap.lt_size (I.pin p hp).1
  rw [e] at this
  exact absurd (Nat.lt_of_lt_of_le this hT) (Nat.lt_irrefl _)
theorem zdu {P : Program} {w : World} {K : PySem.W.Frag} {els : List Expr} {x1} {tp : Pos} (a e it : Addr) (hne : e ≠ it) : Turn P w K (.Tuple els x1 tp) (Ite K a) [e, it] e (fun i h => (∃ old, IsEnum h e it (((i + 1 : Nat)) : Int) old) ∧ h.IsListIter it a i) where
 mem := by simp
 obj := fun i h st b hb => by
  obtain ⟨⟨old, he⟩, o, ho, hc, hd⟩ := st
  rcases List.mem_cons.mp hb with z | z
  ·subst z
   exact ⟨_, he, fun v z => by cases z⟩
  ·have z : b = it := by simpa using z
   subst z
   exact ⟨o, ho, fun v z => by rw [hd] at z; cases z⟩
 keep := fun i h h' st k => by
  obtain ⟨⟨old, he⟩, hl⟩ := st
  exact ⟨⟨old, k e (by simp) _ he⟩, hl.at fun o q => k it (by simp) o q⟩
 item := by
  intro X hP hw hK hc i pins s σ H E I hf st hg
  subst hP hw hK
  obtain ⟨xs, x, hq, hx⟩ := hg
  obtain ⟨its, rv, p, hz⟩ := I.list hq
  obtain ⟨⟨old, he⟩, hl⟩ := st
  obtain ⟨u, hu, ru⟩ := rv.get hx
  have hlen := rv.length
  have hi : i < its.length := (List.getElem?_eq_some_iff.mp hu).1
  have fe := hf e (by simp)
  have fi := hf it (by simp)
  have nai : a ≠ it := fun z => by
   obtain ⟨o, ho, hcc, _⟩ := hl
   obtain ⟨o2, n2, ho2, hc2, _⟩ := p
   rw [← z, ho2] at ho
   cases ho
   rw [hc2] at hcc
   injection hcc with y
   exact absurd y (by decide)
  have nae : e ≠ a := fun z => by
   obtain ⟨o2, n2, ho2, hc2, _⟩ := p
   rw [← z, he] at ho2
   cases ho2
   have y : Value.type "enumerate" = Value.type "list" := hc2
   injection y with y
   exact absurd y (by decide)
  have D := (Draws.list (prog := X.prog) (w := X.w) (A := X.A.in1) (by exact I.ok.hd hc) it a nai its.toArray).late
  refine wpAny_pyNext_enum_itemD D he (i := i + 1) ⟨by omega, hl, p.isList⟩ (by rw [List.size_toArray]; omega) hne (by simp [hne, nae]) fun v h' tk hP ho hs hT hsz hk => ?_
  have hv : v = u := by
   have : its.toArray[i + 1 - 1]? = some v := hP
   have e0 : its[i]? = some v := by simpa using this
   rw [hu] at e0
   exact (Option.some.inj e0).symm
  subst hv
  refine ⟨_, rfl, ?_⟩
  have I1 : Inv X pins σ H { s with heap := h', toks := tk + 1 } := I.turned2 (fun b o n1 n2 q => hk b o n1 n2 q) fe fi
  refine wpAny_letOwnedTupleGo_enum (s := { s with heap := h', toks := tk + 1 }) ho fun h2 he2 hs2 => ?_
  obtain ⟨f0, f1, f2, f3, f4, f5⟩ := fe
  have I2 : Inv X pins σ H { s with heap := h2, toks := tk + 1 } := I1.turned (t' := tk + 1) (fun b o hb q => (hs2.2 b hb).trans q) f0 f1 f3 f4 f5
  have hTe : s.heap.objs.size ≠ e := Nat.ne_of_gt (Heap.lt_size he)
  have hT2 : h2.get? s.heap.objs.size = some { cls := .type "tuple", data := .seq #[.int (((i + 1 : Nat)) : Int) tk, v] } := (hs2.2 _ hTe).trans hT
  have hn0 : H s.heap.objs.size = none := I.fresh
  have hm : ¬ Mine X pins s.heap.objs.size := zez I (Nat.le_refl _)
  have e1 : (((i + 1 : Nat)) : Int) = (i : Int) + 1 := by omega
  have ok : ObjOk X.prog X.w (upd H s.heap.objs.size (.tup [.int ((i : Int) + 1), x])) h2 s.heap.objs.size (.tup [.int ((i : Int) + 1), x]) := by
   refine ⟨ze (by show 2 ≤ 1000000; decide), [.int (((i + 1 : Nat)) : Int) tk, v], .cons ⟨tk, by rw [e1]⟩ (.cons ru .nil), _, hT2, rfl, _, rfl⟩
  refine ⟨.ref s.heap.objs.size, _, I2.also hn0 hm ok, rfl, ⟨_, x, rfl, hn0, rfl, fun ys hy => by rw [I.list_inj hy hq]; exact hx⟩, ⟨⟨v, ?_⟩, ?_⟩, fun b hb => ?_⟩
  ·exact he2
  ·exact hs.2.1.at fun o q => (hs2.2 it (Ne.symm hne)).trans q
  ·have nb : b ≠ s.heap.objs.size := by
    obtain ⟨o, q⟩ : ∃ o, s.heap.get? b = some o := by
     rcases List.mem_cons.mp hb with z | z
     ·exact ⟨_, z ▸ he⟩
     ·have z : b = it := by simpa using z
      obtain ⟨o, q, _⟩ := hl
      exact ⟨o, z ▸ q⟩
    exact Nat.ne_of_lt (Heap.lt_size q)
   rw [zb nb]
   exact (hf b hb).1
 done := by
  intro X hP hw hK hc i pins s σ H E I hf st hg
  subst hP hw hK
  obtain ⟨xs, hq, hx⟩ := hg
  obtain ⟨its, rv, p, hz⟩ := I.list hq
  obtain ⟨⟨old, he⟩, hl⟩ := st
  have hlen := rv.length
  have fi := hf it (by simp)
  have D : Draws X.prog X.w X.A.in1 it [it, a] (i + 1) (fun _ _ => False) (fun j h => j = i + 1 ∧ h.IsListIter it a i ∧ h.IsList a its.toArray) := {
   live := fun j h st => (let ⟨o, ho, _⟩ := st.2.1; ⟨o, ho⟩)
   frame := fun j h h' st k => ⟨st.1, st.2.1.at fun o q => k it (by simp) o q, st.2.2.at fun o q => k a (by simp) o q⟩
   item := fun j s Q E hj st _ => absurd st.1 (by omega)
   done := fun s Q E st hE => wpAny_nextOf_list_end (by exact I.ok.hd hc) st.2.1 st.2.2 (by simp; omega) hE }
  obtain ⟨f0, f1, f2, f3, f4, f5⟩ := fi
  exact wpAny_pyNext_enum_endD D he ⟨rfl, hl, p.isList⟩ fun h' hx => ⟨rfl, I.turned (t' := s.toks) (fun b o hb q => hx b o hb q) f0 f1 f3 f4 f5⟩
 self := fun _ _ _ _ _ st h => by
  obtain ⟨⟨old, he⟩, _⟩ := st
  exact wpAny_pyIter_enum he h
section
variable {X : Cx}
theorem z77 {M : Model} {A : Around} {E : Value → Shared → Prop} {s : Shared} {pos : Pos} {T : String} {args : List (Bool × Sem Value)} {keywords : List (Option Str × Sem Value)} {Q : Value → Shared → Prop}
  (hp : args.any (·.1) = false) (hk : keywords.any (·.1.isNone) = false)
  (h : wpAny M A (evalArgs (.type T) true args keywords) (fun b s1 => wpAny M A (call (.type T) ([] ++ b.pos) b.kw) Q E s1) E s) : wpAny M A (callWith pos (.type T) [] args keywords) Q E s := by
 unfold callWith
 refine wpAny_bind (wpAny_holding ?_)
 refine wpAny_mono h (fun b s1 h1 => ?_) fun _ _ z => z
 refine wpAny_bind (wpAny_standAt ?_)
 simp only [hp, hk, Bool.or_false]
 refine wpAny_bind (wpAny_pure ?_)
 refine wpAny_bind (wpAny_mono h1 (fun r s2 hr => ?_) fun _ _ z => z)
 exact wpAny_bind (wpAny_holding (wpAny_point (wpAny_pure hr)))
def zfv (K : PySem.W.Frag) (ta tk : TA) : TI := fun σ H R => ta σ H fun vs H1 => tk σ H1 fun ws H2 => ∃ a xs, vs = [.ref a] ∧ ws = [.int 1] ∧ SqL K H2 a xs ∧ R (Ite K a) H2
theorem z8c : bootBuiltins "enumerate" = some (.type "enumerate") := by decide +kernel
theorem zf0 {els : List Expr} {x1} {tp : Pos} {a c : Expr} {ta tk : TA} {p pos kp : Pos} (hg : Gl X "enumerate") (hm : X.mg "enumerate" = none) (ha : PA X [a] ta) (hk : PK X [⟨some (Str.ofString "start"), c, kp⟩] tk)
  (he : backTo pos (starEach [a] X.env) = (false, eval a X.env) :: backTo pos (starEach [] X.env) := by rfl) (hpl : (backTo pos (starEach [a] X.env)).any (·.1) = false := by rfl) : PI X (.Tuple els x1 tp) (.Call (.Name "enumerate" p) [a] [⟨some (Str.ofString "start"), c, kp⟩] pos) (zfv X.K ta tk) := by
 intro pins s σ H R I h
 refine wpAny_Call_Name_kw (z4v I hg hm z8c ?_)
 refine z77 hpl (by rfl) ?_
 rw [he]
 refine evalArgs_kwB (by rfl) ?_
 rw [← he]
 refine thn (ha pos pins s σ H _ I h) fun us s1 ⟨vs, H1, I1, r1, q1⟩ => ?_
 refine thn (hk pos pins s1 σ H1 _ I1 q1) fun ws s2 ⟨zs, H2, I2, r2, q2⟩ => ?_
 obtain ⟨b, xs, e1, e2, hq, q⟩ := q2
 subst e1 e2
 obtain ⟨u, rfl, ru⟩ := r1.one
 cases ru
 obtain ⟨u2, rfl, ru2⟩ := r2.one
 obtain ⟨t, rfl⟩ := ru2
 obtain ⟨its, rv, pl, hz⟩ := I2.list hq
 refine zcl pl.isList fun h9 he9 hi9 hsz9 hk9 => ?_
 refine wpAny_pyIter_enum (s := { s2 with heap := h9 }) he9 ?_
 have hne : s2.heap.objs.size + 1 ≠ s2.heap.objs.size := Nat.succ_ne_self _
 refine ⟨s2.heap.objs.size + 1, [s2.heap.objs.size + 1, s2.heap.objs.size], _, _, H2, rfl, I2.kept (t' := s2.toks) hk9, zdu b _ _ hne, ⟨⟨_, he9⟩, hi9⟩, fun d hd => ?_, q⟩
 rcases List.mem_cons.mp hd with z | z
 ·subst z
  exact I2.fpOk (Nat.le_succ _) (I2.hok.fresh (Nat.le_succ _))
 ·have z : d = s2.heap.objs.size := by simpa using z
  subst z
  exact I2.fpOk (Nat.le_refl _) (I2.hok.fresh (Nat.le_refl _))
end
end L2
end
section
namespace L2
open PySem PySem.Spec PyProof.Rows
structure CompScope2 (X : Cx) (sc : Scope) (x y2 : Str) (cap : List Str) (js : List Nat) : Prop where
 kind : sc.kind = .function
 nocell : ∀ y ∈ sc.names, y.2 ≠ .cell
 names : ∀ y ∈ sc.names, y.2 = .local → sc.names.lookup y.1 = some .local
 own : sc.names.lookup x = some .local
 own2 : sc.names.lookup y2 = some .local
 free : ∀ y ∈ sc.names, y.2 = .free → X.env.kindOf y.1 = some .cell ∨ X.env.kindOf y.1 = some .free
 nd : (x :: y2 :: cap).Nodup
 caps : CapOk X sc cap js
section
variable {X : Cx} {sc : Scope} {x y2 : Str} {cap : List Str} {js : List Nat} {pins : List (Addr × Obj)} {σ : St} {H : Hp} {s : Shared}
theorem CompScope2.cells (S : CompScope2 X sc x y2 cap js) (I : Inv X pins σ H s) : ∀ y ∈ sc.names, y.2 = .free → ∃ c, X.env.cells.lookup y.1 = some c := fun y hy hf => I.ok.has y.1 (S.free y hy hf)
theorem CompScope2.sub (S : CompScope2 X sc x y2 cap js) (I : Inv X pins σ H s) {y : Str} {c : Addr} (h : (z1r X.env sc.names []).lookup y = some c) : X.env.cells.lookup y = some c :=
 z5a (S.cells I) (fun _ _ e => by simp at e) h
theorem zb7 {s4 : Shared} {h4 : Heap} {t4 : Nat} {fp : List Addr} {C : Addr} {v : Option V} {m : Str → Option Value} (S : CompScope2 X sc x y2 cap js) (I : Inv X pins σ H s) (hfp : ∀ b ∈ fp, FpOk X pins H b) (hlt : ∀ b ∈ fp, b < s.heap.objs.size)
    (hC : s.heap.objs.size ≤ C) (hn : h4.Ns C m) (k : ∀ b o, s.heap.get? b = some o → h4.get? b = some o) :
    Inv (zu X sc (x :: y2 :: cap) s H C fp) [] (none :: none :: capt σ js) H { s with heap := h4, toks := t4 } := by
  have nf : ∀ b ∈ frs X.stack, b < s.heap.objs.size := fun b hb => by
    obtain ⟨_, o, ho, _⟩ := I.stack.mem hb
    exact Heap.lt_size ho
  refine ⟨⟨I.ok.mod, S.kind, I.ok.glob, I.ok.blt, hC, fun y z c h1 h2 => I.ok.inj y z c (S.sub I h1) (S.sub I h2), fun y hy => ?_, fun y c h => absurd h Bool.false_ne_true, I.ok.hd, I.ok.frames, .inl rfl, fun b hb => ⟨Nat.ne_of_lt (Nat.lt_of_lt_of_le (hlt b hb) hC), fun y c e => (hfp b hb).2.2.2.2.1 y c (S.sub I e)⟩, I.bs,
      Nat.le_trans I.ok.bsz I.sz, fun b o e hb => ?_, fun b hb z => ?_, I.stack, I.stkFree⟩, rfl, I.bare, Un.kept k, ⟨m, hn, fun i y v' h1 h2 h3 => ?_⟩, fun y c e => ?_, I.hok.fresh hC, fun y c e => I.freeC y c (S.sub I e), fun p hp => absurd (show p ∈ ([] : List (Addr × Obj)) from hp) (by simp), I.hok.kept k, ?_⟩
  · exact z36 (by
      rcases hy with z | z
      · exact z3h z (.inl rfl) S.nocell
      · exact z3h z (.inr rfl) S.nocell)
  · rcases (hfp b hb).2.2.2.1 with z | z
    · exact I.ok.noex b o e z
    · exact absurd (Nat.lt_of_lt_of_le (Heap.lt_size e) (Nat.le_trans I.ok.bsz z)) (Nat.lt_irrefl _)
  · rcases List.mem_cons.mp (I.stkSub b z) with q | q
    · exact (hfp b hb).2.1 q
    · exact (hfp b hb).2.2.1 q
  · cases i with
    | zero => exact absurd (show (none : Option V) = some v' from Option.some.inj h2) (by simp)
    | succ i =>
     cases i with
     | zero => exact absurd (show (none : Option V) = some v' from Option.some.inj h2) (by simp)
     | succ i =>
      have e1 : cap[i]? = some y := by simpa using h1
      obtain ⟨j, q1, q2, q3, q4⟩ := S.caps.get e1
      have e2 : (capt σ js)[i]? = some (some v') := by simpa using h2
      have e3 : σ[j]? = some (some v') := by
        unfold capt at e2
        rw [List.getElem?_map, q1, Option.map_some] at e2
        have e4 : (σ[j]?).join = some v' := Option.some.inj e2
        cases q : σ[j]? with
        | none => rw [q] at e4; cases e4
        | some w => rw [q] at e4; exact congrArg some e4
      have vis : Vis X.env.scope y := by
        rcases q3 with q3 | q3
        · exact .inr (.inl q3)
        · exact .inr (.inr q3)
      obtain ⟨mX, hnX, hl⟩ := I.loc
      obtain ⟨u, ru, lk⟩ := hl j y v' q2 e3 vis
      refine ⟨u, ru, .inr ?_⟩
      rcases lk with ⟨hk, _⟩ | ⟨hk, c, hc, hcell⟩
      · rcases q3 with q3 | q3
        · rw [q3] at hk; cases hk
        · rw [q3] at hk; cases hk
      · obtain ⟨c', hc'⟩ := z36 (env := X.env) (cs := []) (PySem.mem_of_lookup q4)
        have := S.sub I hc'
        rw [hc] at this
        cases this
        obtain ⟨o, ho, hd⟩ := hcell
        refine ⟨?_, c, hc', ⟨o, k c o ho, hd⟩⟩
        rcases h3 with z | z | z
        · exfalso
          have hz := PySem.mem_of_lookup z
          obtain ⟨⟨n, k'⟩, hn', en⟩ := List.mem_map.mp hz
          by_cases hf : (k' == NameKind.free && X.env.scope.kind == .function && X.env.kindOf n == some .cell) = true
          · simp only [hf, if_true] at en
            cases en
          · simp only [hf, if_false] at en
            cases en
            have := S.names _ hn' rfl
            rw [q4] at this
            cases this
        · exact .inl z
        · exact .inr z
  · obtain ⟨v', o, ho, hd⟩ := I.cell y c (S.sub I e)
    exact ⟨v', o, k c o ho, hd⟩
  · show (none :: none :: capt σ js).length = (x :: y2 :: cap).length
    unfold capt
    rw [List.length_cons, List.length_cons, List.length_cons, List.length_cons, List.length_map, S.caps.len]
end
def z41 (J : It) (g2 : TG) (tc : TT) (te : TE) (js : List Nat) (σ : St) (H1 : Hp) (Q : VK) : Prop :=
 ∃ W : Nat → Nat → List V → Hp → Prop, (∃ m, W 0 m [] H1) ∧ ∀ i m acc H, W i m acc H →
  (J.stop i H ∧ ∀ p, H p = none → Q (.ref p) (upd H p (.lst acc))) ∨
  (J.go i H ∧ acc.length < sizeLine ∧ ∀ x H', J.yld i H x H' → g2 x (none :: none :: capt σ js) H' fun σ2 H4 => (∃ a b, σ2 = a :: b :: capt σ js) ∧ tc σ2 H4 fun b H2 =>
   if b = true then te σ2 H2 fun v H3 => ∃ m', m' < m ∧ W (i + 1) m' (acc ++ [v]) H3 else ∃ m', m' < m ∧ W (i + 1) m' acc H2)
def zdv (wi : TI) (g2 : TG) (tc : TT) (te : TE) (js : List Nat) : TE := fun σ H Q => wi σ H fun J H1 => z41 J g2 tc te js σ H1 Q
section
variable {X : Cx} {sc : Scope} {x y2 : Str} {cap : List Str} {js : List Nat} {pins : List (Addr × Obj)} {σ : St} {H : Hp} {s : Shared} {elt iter tg : Expr} {g2 : TG} {ifs : List Expr} {px pos : Pos} {tc : TT} {te : TE}
theorem zb8 {J : It} {it : Addr} {fp : List Addr} {tn : Nat → Heap → Prop} {Q : VK} {E : Value → Shared → Prop} {RR : Value → Addr → Result → Shared → Prop} (S : CompScope2 X sc x y2 cap js) (hgt : ∀ s H C fp, PG (zu X sc (x :: y2 :: cap) s H C fp) tg g2) (hcalm : X.calm = true)
  (hc : ∀ s H C fp, PIf (zu X sc (x :: y2 :: cap) s H C fp) ifs tc) (he : ∀ s H C fp, PE (zu X sc (x :: y2 :: cap) s H C fp) elt te)
  (I : Inv X pins σ H s) (T : Turn X.prog X.w X.K tg J fp it tn) (st : tn 0 s.heap) (hfp : ∀ b ∈ fp, FpOk X pins H b) (go : z41 J g2 tc te js σ H Q)
  (hRR : ∀ D C HB sB σB acc its n, s.heap.objs.size ≤ D → s.heap.objs.size ≤ C → D ≠ C → Inv (zu X sc (x :: y2 :: cap) s H C fp) [] σB HB sB → HB D = none → sB.heap.get? D = some { cls := .type "list", data := .seq (its : List Value).toArray n } → Vals acc its → acc.length ≤ sizeLine →
   (∀ p, HB p = none → Q (.ref p) (upd HB p (.lst acc))) → RR (.ref D) C (.ok .next) sB) :
  wpAny (model X.prog X.w) X.A (newList []) (fun acc s₃ => wpAny (model X.prog X.w) X.A (newFunctionEnv sc X.env.globals (z1r X.env sc.names []) [] X.env.qual none .none (some X.env)) (fun cenv s₄ =>
   codeAny (model X.prog X.w) X.A (.compStart (.ListComp elt [⟨tg, iter, ifs, 0⟩] sc pos) 0 (.ref it) acc { cenv with scope := relabel sc X.env }) (RR acc cenv.locals) s₄) E s₃) E s := by
 refine wpAny_newObj_type (wpAny_newFunctionEnv S.nocell (by intro y hy; simp at hy) (fun h₁ hns₁ hsb₁ => ?_) S.kind)
 dsimp only at hns₁ hsb₁ ⊢
 generalize hH2 : s.heap.push { cls := .type "list", dict := none, data := .seq ([] : List Value).toArray } = H2 at hns₁ hsb₁ ⊢
 have hCs : H2.objs.size = s.heap.objs.size + 1 := by rw [← hH2, Heap.size_push]
 have hDC : s.heap.objs.size ≠ H2.objs.size := by rw [hCs]; exact Nat.ne_of_lt (Nat.lt_succ_self _)
 have hCle : s.heap.objs.size ≤ H2.objs.size := by rw [hCs]; exact Nat.le_succ _
 have below : ∀ b, b < s.heap.objs.size → b ≠ H2.objs.size := fun b hb => by rw [hCs]; exact Nat.ne_of_lt (Nat.lt_succ_of_lt hb)
 have old : ∀ b o, s.heap.get? b = some o → h₁.get? b = some o := fun b o e => hsb₁.extBut b o (below b (Heap.lt_size e)) (Heap.get?_push_of_some _ (hH2 ▸ Heap.get?_push_of_some _ e))
 have hacc : h₁.get? s.heap.objs.size = some { cls := .type "list", data := .seq ([] : List Value).toArray 0 } := hsb₁.extBut _ _ hDC (Heap.get?_push_of_some _ (hH2 ▸ Heap.get?_push_size _ rfl))
 have hlt : ∀ b ∈ fp, b < s.heap.objs.size := fun b hb => by
  obtain ⟨o, e, _⟩ := T.obj _ _ st b hb
  exact Heap.lt_size e
 obtain ⟨W, ⟨m0, w0⟩, turn⟩ := go
 have nD : ∀ b ∈ fp, b ≠ s.heap.objs.size := fun b hb => Nat.ne_of_lt (hlt b hb)
 have nfs : s.heap.objs.size ∉ frs X.stack := fun z => by
  obtain ⟨_, o, ho, _⟩ := I.stack.mem z
  exact absurd (Heap.lt_size ho) (Nat.lt_irrefl _)
 have ncl : ∀ y c, (z1r X.env sc.names []).lookup y = some c → c ≠ s.heap.objs.size := fun y c e => by
  obtain ⟨v, o, ho, _⟩ := I.cell y c (S.sub I e)
  exact Nat.ne_of_lt (Heap.lt_size ho)
 have loop : ∀ s₃ : Shared, s₃ = { s with heap := h₁, toks := s.toks + ([] : List (Str × Value)).length } →
   codeAny (model X.prog X.w) X.A (.compLoop (.ListComp elt [⟨tg, iter, ifs, 0⟩] sc pos) 0 (.ref it) (.ref s.heap.objs.size) (compEnvC sc (z1r X.env sc.names []) H2.objs.size X.env))
    (RR (.ref s.heap.objs.size) H2.objs.size) s₃ := by
  rintro s₃ rfl
  have I0 : Inv (zu X sc (x :: y2 :: cap) s H H2.objs.size fp) [] (none :: none :: capt σ js) H { s with heap := h₁, toks := s.toks + ([] : List (Str × Value)).length } := zb7 (v := none) S I hfp hlt hCle hns₁ old (s4 := s)
  refine z6s (fun n s' => ∃ i H' acc its k, Inv (zu X sc (x :: y2 :: cap) s H H2.objs.size fp) [] (none :: none :: capt σ js) H' s' ∧ tn i s'.heap ∧ (∀ b ∈ fp, H' b = none) ∧ H' s.heap.objs.size = none ∧
    s'.heap.get? s.heap.objs.size = some { cls := .type "list", data := .seq (its : List Value).toArray k } ∧ Vals acc its ∧ acc.length ≤ sizeLine ∧ W i n acc H') ?_ m0
   ⟨0, H, [], [], 0, I0, T.keep _ _ _ st fun b _ o e => old b o e, fun b hb => (hfp b hb).1, I.hok.fresh (Nat.le_refl _), hacc, .nil, Nat.zero_le _, w0⟩
  rintro n s3 ⟨i, H3, acc, its, kk, I3, st3, fr3, fD3, d3, r3, z3, w3⟩
  have fpY : ∀ {H' : Hp} {pl : List (Addr × Obj)}, (∀ b ∈ fp, H' b = none) → (∀ p ∈ pl, p.1 = s.heap.objs.size) → ∀ b ∈ fp, FpOk (zu X sc (x :: y2 :: cap) s H H2.objs.size fp) pl H' b := fun {H' pl} hn hp b hb =>
   ⟨hn b hb, below b (hlt b hb), fun z => by
    rcases List.mem_cons.mp (I.stkSub b z) with q | q
    ·exact (hfp b hb).2.1 q
    ·exact (hfp b hb).2.2.1 q, .inl hb, fun y c e => (hfp b hb).2.2.2.2.1 y c (S.sub I e), fun p hp' => by
    rw [hp p hp']
    exact Ne.symm (nD b hb)⟩
  have pin3 : Inv (zu X sc (x :: y2 :: cap) s H H2.objs.size fp) [(s.heap.objs.size, { cls := .type "list", data := .seq its.toArray kk })] (none :: none :: capt σ js) H3 s3 := I3.pins_of fun p hp => by
   have e : p = (s.heap.objs.size, { cls := .type "list", data := .seq its.toArray kk }) := by simpa using hp
   subst e
   exact ⟨d3, fD3, hDC, nfs, fun v z => by cases z⟩
  have onlyD : ∀ p ∈ [(s.heap.objs.size, ({ cls := .type "list", data := .seq its.toArray kk } : Obj))], p.1 = s.heap.objs.size := fun p hp => by
   have e : p = (s.heap.objs.size, { cls := .type "list", data := .seq its.toArray kk }) := by simpa using hp
   rw [e]
  rcases turn i n acc H3 w3 with ⟨stop, qn⟩ | ⟨gon, hlen, step⟩
  ·refine wpAny_mono (T.done (zu X sc (x :: y2 :: cap) s H H2.objs.size fp) rfl rfl rfl hcalm i _ s3 _ H3 (fun _ _ => False) pin3 (fpY fr3 onlyD) st3 stop) (fun r s4 hr => ?_) fun _ _ z => z.elim
   obtain ⟨hr, I4⟩ := hr
   subst hr
   have d4 := (I4.pin _ (List.mem_append_right _ List.mem_cons_self)).1
   exact hRR _ _ H3 s4 _ acc its kk (Nat.le_refl _) hCle hDC (I4.pins_of fun p hp => by simp at hp) fD3 d4 r3 z3 qn
  ·refine wpAny_mono (T.item (zu X sc (x :: y2 :: cap) s H H2.objs.size fp) rfl rfl rfl hcalm i _ s3 _ H3 (fun _ _ => False) pin3 (fpY fr3 onlyD) st3 gon) (fun r s4 hr => ?_) fun _ _ z => z.elim
   obtain ⟨u, hr, h4⟩ := hr
   subst hr
   dsimp only
   refine wpAny_mono h4 (fun _ s5 h5 => ?_) fun _ _ z => z.elim
   obtain ⟨xv, H5, I5, r5, y5, st5, fr5⟩ := h5
   have I5' := I5.pinned (fpY fr5 onlyD) (T.obj _ _ st5)
   refine wpAny_mono (hgt s H H2.objs.size fp _ s5 _ H5 _ _ _ I5' r5 (step xv H5 y5)) (fun _ s6 q6 => ?_) fun _ _ z => z.elim
   obtain ⟨σ6, H6, I6', ⟨va, vb, e6⟩, q6⟩ := q6
   subst e6
   refine wpAny_mono (hc s H H2.objs.size fp _ s6 _ H6 _ I6' q6) (fun b s7 q7 => ?_) fun _ _ z => z.elim
   obtain ⟨H7, I7, q7⟩ := q7
   have weak : ∀ {pl : List (Addr × Obj)} {HH : Hp} {ss : Shared}, Inv (zu X sc (x :: y2 :: cap) s H H2.objs.size fp) pl (va :: vb :: capt σ js) HH ss → Inv (zu X sc (x :: y2 :: cap) s H H2.objs.size fp) pl (none :: none :: capt σ js) HH ss := fun J => J.weak rfl fun k v e => by
    cases k with
    | zero => exact absurd (Option.some.inj e) (by simp)
    | succ k =>
     cases k with
     | zero => exact absurd (Option.some.inj e) (by simp)
     | succ k => simpa using e
   have back : ∀ {HH : Hp} {ss : Shared}, Inv (zu X sc (x :: y2 :: cap) s H H2.objs.size fp) ([(s.heap.objs.size, { cls := .type "list", data := .seq its.toArray kk })] ++ z43 fp s5.heap) (va :: vb :: capt σ js) HH ss →
     tn (i + 1) ss.heap ∧ (∀ b ∈ fp, HH b = none) ∧ HH s.heap.objs.size = none ∧ ss.heap.get? s.heap.objs.size = some { cls := .type "list", data := .seq its.toArray kk } := fun {HH ss} K => by
    refine ⟨T.keep _ _ _ st5 fun b hb o e => (K.pin (b, o) (List.mem_append_right _ (List.mem_append_right _ (z2q hb e)))).1, fun b hb => ?_, ?_, ?_⟩
    ·obtain ⟨o, e, d⟩ := T.obj _ _ st5 b hb
     exact (K.pin (b, o) (List.mem_append_right _ (List.mem_append_right _ (z2q hb e)))).2.1
    ·exact (K.pin _ (List.mem_append_right _ (List.mem_append_left _ List.mem_cons_self))).2.1
    ·exact (K.pin _ (List.mem_append_right _ (List.mem_append_left _ List.mem_cons_self))).1
   cases b with
   | false =>
    rw [if_neg Bool.false_ne_true] at q7 ⊢
    obtain ⟨m', hm, w7⟩ := q7
    obtain ⟨b1, b2, b3, b4⟩ := back I7
    exact ⟨m', hm, i + 1, H7, acc, its, kk, (weak I7).pins_of fun p hp => by simp at hp, b1, b2, b3, b4, r3, z3, w7⟩
   | true =>
    rw [if_pos rfl] at q7 ⊢
    refine wpAny_mono (he s H H2.objs.size fp _ s7 _ H7 _ I7 q7) (fun u8 s8 q8 => ?_) fun _ _ z => z.elim
    obtain ⟨v8, H8, I8, r8, m', hm, w8⟩ := q8
    obtain ⟨b1, b2, b3, b4⟩ := back I8
    have hl3 := r3.length
    refine call_meets F.slot_list_append ⟨_, b4, rfl⟩ F.entry_list_append (F.args_list_append_2 _ _) (PySem.list_append s.heap.objs.size its.toArray kk u8 (by rw [List.size_toArray]; omega)) ⟨b4, ?_⟩
    have q := PySem.IsL.update b4 (·.push u8)
    obtain ⟨n', q'⟩ : ∃ n', (s8.heap.update s.heap.objs.size (Obj.mapSeq (·.push u8))).get? s.heap.objs.size = some { cls := .type "list", data := .seq (its ++ [u8]).toArray n' } := by
     rw [show (its ++ [u8]).toArray = its.toArray.push u8 by simp]
     exact ⟨_, q⟩
    refine ⟨m', hm, i + 1, H8, acc ++ [v8], its ++ [u8], _, ?_, T.keep _ _ _ b1 fun b hb o e => (Heap.get?_update_other s8.heap _ (Ne.symm (nD b hb))).trans e, b2, b3, q', r3.append (.cons r8 .nil), by rw [List.length_append, List.length_singleton]; omega, w8⟩
    exact Inv.turned (X := zu X sc (x :: y2 :: cap) s H H2.objs.size fp) (it := s.heap.objs.size) ((weak I8).pins_of (pins' := []) fun p hp => by simp at hp) (fun b o hb e => (Heap.get?_update_other s8.heap _ (Ne.symm hb)).trans e) b3 hDC (.inr (Nat.le_refl _)) ncl (fun p hp => absurd (show p ∈ ([] : List (Addr × Obj)) from hp) (by simp))
 exact codeAny_compStart_list (loop _ rfl) (T.self _ 0 _ _ _ (T.keep _ _ _ st fun b _ o e => old b o e) (loop _ rfl))
theorem z78 {wi : TI} (hcalm : X.calm = true) (S : CompScope2 X sc x y2 cap js) (hgt : ∀ s H C fp, PG (zu X sc (x :: y2 :: cap) s H C fp) tg g2) (hi : PI X tg iter wi) (hc : ∀ s H C fp, PIf (zu X sc (x :: y2 :: cap) s H C fp) ifs tc) (he : ∀ s H C fp, PE (zu X sc (x :: y2 :: cap) s H C fp) elt te)
  (hs : ∀ x, foldedSetIterable iter X.env x = pure x := by intro _; rfl) : PE X (.ListComp elt [⟨tg, iter, ifs, 0⟩] sc pos) (zdv wi g2 tc te js) := by
 intro pins s σ H Q I h
 rw [eval_ListComp]
 refine wpAny_comprehension_free (use := none) rfl hs (z59 (S.cells I)) S.kind S.names (thn (hi pins s σ H _ I h) fun v s1 h1 => thn h1 fun itv s2 h2 => ?_)
 obtain ⟨it, fp, tn, J, H2, e, I2, T, st2, f2, go⟩ := h2
 subst e
 refine zb8 S hgt hcalm hc he I2 T st2 f2 go fun D C HB sB σB acc its n hD hC hDC IB hHD hd rv hz q => ?_
 obtain ⟨m, hn, _⟩ := IB.loc
 exact ⟨m, hn, fun h' sb => ⟨.ref D, upd HB D (.lst acc), z75 (sc := sc) (x := x) (cap := y2 :: cap) I2 f2 IB hC hD hDC hHD hd rv hz fun b o hb e => sb.extBut b o hb e, rfl, q D hHD⟩⟩
end
end L2
end
section
namespace L2
open PySem PySem.Spec PyProof.Rows
theorem zcm (wi : TI) (g2 : TG) (tc : TT) (te : TE) (js : List Nat) (σ : St) (H : Hp) (Q : VK) : zdv wi g2 tc te js σ H Q = wi σ H fun J H1 => z41 J g2 tc te js σ H1 Q := rfl
theorem zdw (K : PySem.W.Frag) (ta tk : TA) (σ : St) (H : Hp) (R : It → Hp → Prop) : zfv K ta tk σ H R = ta σ H fun vs H1 => tk σ H1 fun ws H2 => ∃ a xs, vs = [.ref a] ∧ ws = [.int 1] ∧ SqL K H2 a xs ∧ R (Ite K a) H2 := rfl
section
variable {J : It} {K : PySem.W.Frag} {a : Addr} {xs : List V} {g2 : TG} {tc : TT} {te : TE} {js : List Nat} {σ : St} {H1 : Hp} {Q : VK}
theorem z6t (n : Nat) (hn : n ≤ sizeLine) (Pv : Nat → List V → Hp → Prop) (h0 : Pv 0 [] H1) (hlen : ∀ i acc H, Pv i acc H → acc.length ≤ i)
  (hgo : ∀ i acc H, i < n → Pv i acc H → J.go i H) (hstop : ∀ acc H, Pv n acc H → J.stop n H)
  (hs : ∀ i acc H x H', i < n → Pv i acc H → J.yld i H x H' → g2 x (none :: none :: capt σ js) H' fun σ2 H4 => (∃ a b, σ2 = a :: b :: capt σ js) ∧ tc σ2 H4 fun b H2 => if b = true then te σ2 H2 fun v H3 => Nx n Pv i (acc ++ [v]) H3 else Nx n Pv i acc H2)
  (hd : ∀ acc H, Pv n acc H → ∀ p, H p = none → Q (.ref p) (upd H p (.lst acc))) : z41 J g2 tc te js σ H1 Q := by
 refine ⟨fun i m acc H => m = n - i ∧ i ≤ n ∧ Pv i acc H, ⟨n, by simp, Nat.zero_le _, h0⟩, ?_⟩
 rintro i m acc H ⟨rfl, hi, p⟩
 by_cases hlt : i < n
 ·exact .inr ⟨hgo i acc H hlt p, by have := hlen i acc H p; omega, fun x H' y => hs i acc H x H' hlt p y⟩
 ·have e : i = n := by omega
  subst e
  exact .inl ⟨hstop acc H p, hd acc H p⟩
theorem z5w (hn : xs.length ≤ sizeLine) (sp : Nat → List V → Hp → Prop) (h0 : sp 0 [] H1) (hlen : ∀ i acc H, sp i acc H → acc.length ≤ i) (hl : ∀ i acc H, sp i acc H → SqL K H a xs)
  (hs : ∀ (Nt : List V → Hp → Prop) i acc H x, (∀ acc H, sp (i + 1) acc H → Nt acc H) → xs[i]? = some x → i < xs.length → sp i acc H → g2 x (none :: none :: capt σ js) H fun σ2 H4 => (∃ a b, σ2 = a :: b :: capt σ js) ∧ tc σ2 H4 fun b H2 => if b = true then te σ2 H2 fun v H3 => Nt (acc ++ [v]) H3 else Nt acc H2)
  (hd : ∀ acc H, sp xs.length acc H → ∀ p, H p = none → Q (.ref p) (upd H p (.lst acc))) : z41 (Itl K a) g2 tc te js σ H1 Q := by
 refine z6t xs.length hn sp h0 hlen (fun i acc H hi p => ⟨xs, xs[i], hl i acc H p, by simp [hi]⟩) (fun acc H p => ⟨xs, hl _ acc H p, Nat.le_refl _⟩) (fun i acc H x H' hi p y => ?_) hd
 obtain ⟨e, y⟩ := y
 subst e
 exact hs (Nx xs.length sp i) i acc H' x (fun _ _ h => nx hi h) (y xs (hl i acc H' p)) hi p
theorem zag (hn : xs.length ≤ sizeLine) (sp : Nat → List V → Hp → Prop) (h0 : sp 0 [] H1) (hlen : ∀ i acc H, sp i acc H → acc.length ≤ i) (hl : ∀ i acc H, sp i acc H → SqL K H a xs)
  (hs : ∀ (Nt : List V → Hp → Prop) i acc H x T, (∀ acc H, sp (i + 1) acc H → Nt acc H) → xs[i]? = some x → i < xs.length → sp i acc H → H T = none → g2 (.ref T) (none :: none :: capt σ js) (upd H T (.tup [.int ((i : Int) + 1), x])) fun σ2 H4 => (∃ a b, σ2 = a :: b :: capt σ js) ∧ tc σ2 H4 fun b H2 => if b = true then te σ2 H2 fun v H3 => Nt (acc ++ [v]) H3 else Nt acc H2)
  (hd : ∀ acc H, sp xs.length acc H → ∀ p, H p = none → Q (.ref p) (upd H p (.lst acc))) : z41 (Ite K a) g2 tc te js σ H1 Q := by
 refine z6t xs.length hn sp h0 hlen (fun i acc H hi p => ⟨xs, xs[i], hl i acc H p, by simp [hi]⟩) (fun acc H p => ⟨xs, hl _ acc H p, Nat.le_refl _⟩) (fun i acc H x H' hi p y => ?_) hd
 obtain ⟨T, v, rfl, hT, rfl, y⟩ := y
 exact hs (Nx xs.length sp i) i acc H v T (fun _ _ h => nx hi h) (y xs (hl i acc H p)) hi p hT
end
section
variable {X : Cx} {k : Nat} {C : Addr} {m : Str} {ps : List Str} {sp : Sp} {o e : Expr} {es : List Expr} {ta : TE} {t : TA} {apos pos : Pos} {E : XK}
theorem z8d {pl : Sem Bool} (hx : z2y (CX1 X.prog X.w) X E) (G : MHas X.prog X.w X.K X.mg X.base (CX1 X.prog X.w) k C m ps sp) (c : Cls X.K C) (hr : Room k X.A) (he : PE X o ta) (ha : PA X (e :: es) t)
  (hst : starEach (e :: es) X.env = (false, eval e X.env) :: starEach es X.env := by rfl) (hpl : (backTo pos (starEach es X.env)).any (·.1) = false := by rfl)
  (ht : eval (.Call (.Attribute o m apos) (e :: es) [] pos) X.env = (do
   let ov ← eval o X.env
   standAt apos.atName
   let (f, first) ← holding [ov] (getMethod ov m pl)
   callWith pos f first (backTo pos (starEach (e :: es) X.env)) (backToKw pos (keywordEach [] X.env))) := by rfl) :
  PE X (.Call (.Attribute o m apos) (e :: es) [] pos) (z6e C m sp [] E ta t) := by
 obtain ⟨f, fd, F, hm, hb⟩ := G
 exact zbj he c hm F hr hb .nil hx ha hst hpl ht
end
theorem z5x {X : Cx} {K : PySem.W.Frag} {pos : Pos} {es : List Expr} {k : Nat} {t : TGs} (hc : X.calm = true) (h : PGs X es t) (hn : (assignEach es X.env).length = 2 := by rfl) (hst : (assignEach es X.env).findIdx? (·.1) = none := by rfl) (hK : X.K = K := by rfl) : PG X (.Tuple es k pos) (gTup K 2 t) := hK ▸ zd1 hc h hn hst
theorem zge {X : Cx} {k : Nat} {C : Addr} {x : Str} {ps : List Str} {sp : Sp} {p pos : Pos} {e : Expr} {es : List Expr} {t : TA} (G : KHas X.prog X.w X.K X.mg X.base k C ps sp) (hr : Room (k + 1) X.A) (hg : Gl X x) (hm : X.mg x = some (.ref C)) (ha : PA X (e :: es) t) (hdb : (x == ("__debug__" : Str)) = false := by decide)
  (he : starEach (e :: es) X.env = (false, eval e X.env) :: starEach es X.env := by rfl) (hpl : (backTo pos (starEach es X.env)).any (·.1) = false := by rfl) : PE X (.Call (.Name x p) (e :: es) [] pos) (z7k C sp [] E0 t) := by
 obtain ⟨f, fd, F, M, hb⟩ := G
 exact zg5 M F hr hg hm hb .nil z7m ha hdb he hpl
section
variable {X : Cx}
def tIfX (tc : TT) (tx : TEX) (u : TSX) : TSX := fun D Ex σ H => tc σ H fun b H1 => if b = true then tx σ H1 D.rt Ex else u D Ex σ H1
end
end L2
end
section
namespace PySem
open PyProof.Rows (StrsAre)
theorem zbn (t : SetTable) (j : Nat) : (t.put j).1.led = t.led ∧ (t.put j).1.plain = t.plain := by
 unfold SetTable.put; exact ⟨rfl, rfl⟩
theorem z7r (t : SetTable) (es : Array (Int × Value)) (h : Int) (x : Value) :
  (layNew t es h x).2.1.led = t.led ∧ (t.plain = false → (layNew t es h x).2.1.plain = false) := by
 unfold layNew
 split
 ·dsimp only
  unfold SetTable.orStandIn
  split
  ·exact ⟨(zbn t _).1, fun p => (zbn t _).2.trans p⟩
  ·exact ⟨rfl, fun _ => rfl⟩
 ·exact ⟨rfl, fun _ => rfl⟩
theorem zf1 {mask finger moves : Nat} {led plain : Bool} {hs : Array Int} {r : SetTable × Array Nat}
  (e : SetTable.laid mask finger moves led plain hs = some r) : r.1.led = led ∧ r.1.plain = plain := by
 unfold SetTable.laid at e
 simp only [Option.bind_eq_bind, Option.bind_eq_some_iff, Option.some.injEq, Option.pure_def] at e
 obtain ⟨o, _, rfl⟩ := e
 exact ⟨rfl, rfl⟩
theorem z5y (t : SetTable) (es : Array (Int × Value)) (n : Nat) :
  (relayAll t es n).2.1.led = t.led ∧ (t.plain = false → (relayAll t es n).2.1.plain = false) := by
 unfold relayAll
 split
 ·rename_i e
  dsimp only
  split
  ·unfold SetTable.relaid at e
   have := zf1 e
   exact ⟨this.1, fun p => this.2.trans p⟩
  ·exact ⟨rfl, fun _ => rfl⟩
 ·exact ⟨rfl, fun _ => rfl⟩
def z18 (D : List Str) (v : Str) : List Str := if v ∈ D then D else D ++ [v]
def z1j (ss : List Str) : List Str := ss.foldl z18 []
theorem z6u (D : List Str) (v k : Str) : k ∈ z18 D v ↔ k ∈ D ∨ k = v := by
 unfold z18; split
 ·rename_i h
  exact ⟨.inl, fun o => o.elim id fun e => e ▸ h⟩
 ·simp
theorem z9h {D : List Str} (h : D.Nodup) (v : Str) : (z18 D v).Nodup := by
 unfold z18; split
 ·exact h
 ·rename_i hv
  refine List.nodup_append.mpr ⟨h, by simp, ?_⟩
  intro a ha b hb e
  simp at hb; subst hb; subst e; exact hv ha
theorem z6v : ∀ (ss D : List Str) (k : Str), k ∈ ss.foldl z18 D ↔ k ∈ D ∨ k ∈ ss
 | [], D, k => by simp
 | v :: ss, D, k => by
  rw [List.foldl_cons, z6v ss, z6u]; simp [or_assoc]
theorem z5l : ∀ (ss D : List Str), D.Nodup → (ss.foldl z18 D).Nodup
 | [], D, h => h
 | v :: ss, D, h => z5l ss _ (z9h h v)
theorem z8e (D : List Str) (v : Str) : (z18 D v).length = if decide (v ∈ D) = true then D.length else D.length + 1 := by
 unfold z18; by_cases h : v ∈ D <;> simp [h]
theorem z7s : ∀ (ss D : List Str), (ss.foldl z18 D).length ≤ D.length + ss.length
 | [], D => by simp
 | v :: ss, D => by
  have := z7s ss (z18 D v)
  have h2 := z8e D v
  rw [List.foldl_cons, List.length_cons]
  split at h2 <;> omega
theorem zdx (ss : List Str) : (z1j ss).length ≤ ss.length := by have := z7s ss []; simpa [z1j] using this
theorem zb9 (ss : List Str) (i : Nat) (h : i < ss.length) : z1j (ss.take (i + 1)) = z18 (z1j (ss.take i)) ss[i] := by
 unfold z1j; rw [List.take_succ_eq_append_getElem h, List.foldl_append]; rfl
def TextSet (prog : Program) (w : World) (h : Heap) (a : Addr) (D : List Str) (led : Bool) : Prop :=
 ∃ o es ep t, h.get? a = some o ∧ o.ExactSet ∧ o.data = .set es ep t ∧ ElemsOf (strKind prog w) es.toList ∧
  (∀ k, decide (k ∈ D) = true ↔ ∃ e ∈ es.toList, (strKind prog w).is k e.2 = true) ∧
  es.size < scanBound ∧ t.fits es.size = true ∧ es.size = D.length ∧ t.led = led ∧ (es.size ≠ 0 → t.plain = false)
section
variable {prog : Program} {w : World} {A : Around} {E : Value → Shared → Prop} {s : Shared}
theorem TextSet.keep {h h' : Heap} {a : Addr} {D : List Str} {led : Bool} (T : TextSet prog w h a D led)
  (e : ∀ o, h.get? a = some o → h'.get? a = some o) : TextSet prog w h' a D led := by
 obtain ⟨o, es, ep, t, ho, more⟩ := T
 exact ⟨o, es, ep, t, e o ho, more⟩
theorem z5z {g : Bool → Sem Unit} (hg : ∀ (b : Bool) (s₁ : Shared) (Q' : Unit → Shared → Prop), Q' () s₁ → wpAny (model prog w) A (g b) Q' E s₁)
  {a : Addr} {o : Obj} {es : Array (Int × Value)} {ep : Nat} {t : SetTable} (ho : s.heap.get? a = some o) (hx : o.ExactSet)
  (hd : o.data = .set es ep t) {e1 : Array (Int × Value)} {t1 : SetTable} {D : List Str}
  (he : ElemsOf (strKind prog w) e1.toList) (hm : ∀ k, decide (k ∈ D) = true ↔ ∃ e ∈ e1.toList, (strKind prog w).is k e.2 = true)
  (hb : e1.size < scanBound) (hf : t1.fits e1.size = true) (hn : e1.size = D.length) (hp : t1.plain = false)
  {was : Bool} {R : Option Bool → Shared → Prop}
  (h : ∀ h', Heap.SameBut a s.heap h' → TextSet prog w h' a D t1.led → R (some true) { s with heap := h' }) :
  wpAny (model prog w) A (do
   storeSet a e1 t1
   if (!was && t1.tooFull) = true then do
    g (relayAll t1 e1 (SetTable.grown e1.size)).2.2
    storeSet a (relayAll t1 e1 (SetTable.grown e1.size)).1 (relayAll t1 e1 (SetTable.grown e1.size)).2.1
    pure (some true)
   else pure (some true)) R E s := by
 refine wpAny_bind (wpAny_storeSet_of ho hd ?_ (fits_of_scanBound hb))
 obtain ⟨g1, _⟩ := SetOf_store (knd := strKind prog w) ho hx hd he hm hb hf
 have b1 := Heap.SameBut.update s.heap a (Obj.putSet e1 t1)
 split
 ·have pr := relayAll_perm t1 e1 (SetTable.grown e1.size)
  have fr := relayAll_fits t1 e1 (SetTable.grown e1.size)
  have lr := z5y t1 e1 (SetTable.grown e1.size)
  generalize relayAll t1 e1 (SetTable.grown e1.size) = L at pr fr lr ⊢
  obtain ⟨e2, t2, gave⟩ := L
  dsimp only at pr fr lr ⊢
  have sz : e2.size = e1.size := by rw [← Array.length_toList, pr.length_eq, Array.length_toList]
  have hm2 : ∀ k, decide (k ∈ D) = true ↔ ∃ e ∈ e2.toList, (strKind prog w).is k e.2 = true := fun k =>
   (hm k).trans ⟨fun ⟨e, q, z⟩ => ⟨e, pr.mem_iff.mpr q, z⟩, fun ⟨e, q, z⟩ => ⟨e, pr.mem_iff.mp q, z⟩⟩
  refine wpAny_bind (hg _ _ _ ?_)
  refine wpAny_bind (wpAny_storeSet_of g1 rfl ?_ (fits_of_scanBound (by rw [sz]; exact hb)))
  obtain ⟨g2, _⟩ := SetOf_store (knd := strKind prog w) g1 hx rfl (he.perm pr) hm2 (by rw [sz]; exact hb) fr
  refine wpAny_pure (h _ (b1.trans (Heap.SameBut.update _ a _)) ⟨_, e2, _, t2, g2, hx, rfl, he.perm pr, hm2, by rw [sz]; exact hb, fr, sz.trans hn, lr.1, fun _ => lr.2 hp⟩)
 ·exact wpAny_pure (h _ b1 ⟨_, e1, _, t1, g1, hx, rfl, he, hm, hb, hf, hn, rfl, fun _ => hp⟩)
theorem zba {a : Addr} {D : List Str} {led : Bool} {x : Str} {tk : Tok} {Q : Bool → Shared → Prop} (T : TextSet prog w s.heap a D led)
  (room : D.length + 1 < scanBound)
  (h : ∀ h' b, Heap.SameBut a s.heap h' → TextSet prog w h' a (z18 D x) led → Q b { s with heap := h' }) :
  wpAny (model prog w) A (setAddHashed a (.str x tk) ((strKind prog w).hash x)) Q E s := by
 have is := strKind_is prog w x tk
 obtain ⟨o, es, ep, t, ho, hx, hd, he, hm, hb, hf, hn, hl, hp⟩ := T
 unfold setAddHashed setAddHashedIn
 refine wpAny_holding (wpAny_bind (wpAny_setState_of ho hd hf ?_))
 dsimp only
 rw [byScan_of rfl hb he]
 simp only [↓reduceIte]
 unfold setAddByScan
 refine wpAny_bind ?_
 refine wpAny_bind (wpAny_rule ?_)
 refine wpAny_bind (wpAny_setScan_of is ho hd hf he ?_)
 cases hr : List.findIdx? (fun e => (strKind prog w).is x e.2) es.toList with
 | some j =>
  dsimp only
  obtain ⟨hj, pj, _⟩ := List.findIdx?_eq_some_iff_getElem.mp hr
  have xin : x ∈ D := of_decide_eq_true ((hm x).mpr ⟨es.toList[j], List.getElem_mem hj, pj⟩)
  have same : z18 D x = D := if_pos xin
  refine wpAny_pure (wpAny_pure ?_)
  have := h s.heap false (Heap.SameBut.refl a s.heap) (by rw [same]; exact ⟨o, es, ep, t, ho, hx, hd, he, hm, hb, hf, hn, hl, hp⟩)
  cases s; exact this
 | none =>
  dsimp only
  have xout : x ∉ D := fun q => by
   obtain ⟨e, qe, z⟩ := (hm x).mp (decide_eq_true q)
   have := List.findIdx?_eq_none_iff.mp hr e qe
   rw [z] at this; cases this
  have grow : z18 D x = D ++ [x] := if_neg xout
  have pr := layNew_perm t es ((strKind prog w).hash x) (.str x tk)
  have fr := layNew_fits t es ((strKind prog w).hash x) (.str x tk)
  have lr := z7r t es ((strKind prog w).hash x) (.str x tk)
  generalize layNew t es ((strKind prog w).hash x) (.str x tk) = L at pr fr lr ⊢
  obtain ⟨e1, t1, was, gave⟩ := L
  dsimp only at pr fr lr ⊢
  rw [Array.toList_push] at pr
  have he1 : ElemsOf (strKind prog w) e1.toList := (he.push is rfl).perm pr
  have hm1 : ∀ k, decide (k ∈ z18 D x) = true ↔ ∃ e ∈ e1.toList, (strKind prog w).is k e.2 = true := fun k => by
   rw [← mem_push_iff is hm pr k, ← Bool.decide_or, decide_eq_true_eq, decide_eq_true_eq]
   exact z6u D x k
  have sz : e1.size = es.size + 1 := by rw [← Array.length_toList, pr.length_eq, List.length_append, Array.length_toList]; rfl
  have hn1 : e1.size = (z18 D x).length := by rw [sz, grow, List.length_append, hn]; rfl
  have hb1 : e1.size < scanBound := by rw [sz, hn]; exact room
  have gw : ∀ (b : Bool) (s₁ : Shared) (Q' : Unit → Shared → Prop), Q' () s₁ →
    wpAny (model prog w) A (match b with | true => rule "set.scan.the-table-gave-way" | false => pure ()) Q' E s₁ := fun b s₁ Q' q => by
   cases b
   ·exact wpAny_pure q
   ·exact wpAny_rule q
  refine wpAny_bind (gw _ _ _ ?_)
  split
  ·refine wpAny_bind ?_
   rw [hashByValue_scannable 8 rfl]
   refine wpAny_pure ?_
   refine z5z (t1 := { t1 with plain := false }) gw ho hx hd he1 hm1 hb1 (SetTable.fits_plain_off fr) hn1 rfl fun h' sb T' => ?_
   dsimp only
   refine wpAny_pure (h h' true sb ?_)
   rw [← hl, ← lr.1]; exact T'
  ·rename_i np
   refine wpAny_bind (wpAny_pure ?_)
   simp only [↓reduceIte]
   refine z5z (t1 := t1) gw ho hx hd he1 hm1 hb1 fr hn1 (by simpa using np) fun h' sb T' => ?_
   dsimp only
   refine wpAny_pure (h h' true sb ?_)
   rw [← hl, ← lr.1]; exact T'
end
section
variable {prog : Program} {w : World} {A : Around} {R : Result → Shared → Prop} {I : Addr}
variable {fp wr : List Addr} {G : Array GenState → Array GenState → Prop} {P : Nat → Value → Prop} {St : Nat → Shared → Prop}
theorem z8f {ss : List Str} (W : WalksS prog w A.in1 I fp wr G ss.length P St) (a : Addr) (ha : a ∉ fp)
  {led : Bool} (hv : ∀ i v (h : i < ss.length), P i v → ∃ t, v = .str ss[i] t) (hb : ss.length + 1 < scanBound) :
  ∀ (k i : Nat) (s : Shared), ss.length - i = k → i ≤ ss.length → St i s → TextSet prog w s.heap a (z1j (ss.take i)) led →
   (∀ s', Moved (a :: wr) G s s' → TextSet prog w s'.heap a (z1j ss) led → R (.ok (.ret .none)) s') →
   codeAny (model prog w) A (.builtin "set.update.loop" ⟨[.ref a, .ref I], []⟩) R s := by
 have haw : a ∉ wr := fun h => ha (W.sub _ h)
 intro k
 induction k with
 | zero =>
  intro i s hk hi st T hR
  have ei : i = ss.length := by omega
  subst ei
  rw [List.take_length] at T
  refine codeAny_builtin PyProof.Rows.F.entry_set_update_loop ?_
  rw [Around.under_plainId PyProof.Rows.F.plain_set_update_loop _]
  refine wpAny_bind (m := pyNext (.ref I)) (W.done s _ _ st fun s' mv => ?_)
  refine wpAny_pure (hR s' (mv.mono fun b h => .tail _ h) (T.keep fun o e => mv.heap a o haw e))
 | succ k ih =>
  intro i s hk hi st T hR
  have lt : i < ss.length := by omega
  refine codeAny_builtin PyProof.Rows.F.entry_set_update_loop ?_
  rw [Around.under_plainId PyProof.Rows.F.plain_set_update_loop _]
  refine wpAny_bind (m := pyNext (.ref I)) (W.item i s _ _ lt st fun v s' hP st' mv => ?_)
  obtain ⟨t, rfl⟩ := hv i v lt hP
  have T' := T.keep (h' := s'.heap) fun o e => mv.heap a o haw e
  refine wpAny_bind (m := holding [Value.str ss[i] t] (setAdd a (.str ss[i] t))) (wpAny_holding ?_)
  unfold setAdd
  refine wpAny_holding ?_
  refine wpAny_bind ((strKind prog w).pyHash (k := ss[i]) (strKind_is prog w _ t) ?_)
  have room : (z1j (ss.take i)).length + 1 < scanBound := by
   have := zdx (ss.take i)
   rw [List.length_take] at this
   omega
  refine zba (s := { s' with toks := s'.toks + 1 }) T' room fun h2 _ sb T2 => ?_
  have T3 : TextSet prog w h2 a (z1j (ss.take (i + 1))) led := by
   rw [zb9 ss i lt]; exact T2
  refine wpAny_pure ⟨plainId_quiet PyProof.Rows.F.plain_set_update_loop _, ih (i + 1) _ (by omega) lt ?_ T3 fun s3 mv3 T4 => ?_⟩
  ·refine W.frame _ s' _ _ st' (Nat.le_succ _) fun b hbf o e => ?_
   rw [sb.2 b fun e' : b = a => ha (e' ▸ hbf)]
   exact e
  ·refine hR s3 (Moved.trans W.gtrans ((mv.mono fun b h => .tail _ h).then_heap (Nat.le_succ _) fun b o hbw e => ?_) mv3) T4
   rw [sb.2 b fun e' : b = a => hbw (e' ▸ .head _)]
   exact e
end
abbrev z19 (w : World) : Bool := !(w.params.followText "set-order")
section
variable {prog : Program} {w : World} {A : Around} {E : Value → Shared → Prop} {s : Shared}
abbrev z11 (led : Bool) : Obj := { cls := .type "set", dict := none, data := .set #[] 0 (.fresh 0 0 led) }
theorem z6w (a : Value) {Q₁ : Value → Shared → Prop}
  (h : Q₁ (.ref s.heap.objs.size) { s with heap := s.heap.push (z11 (z19 w)) }) :
  codeAny (model prog w) A (.call (.builtin "set.__new__") ⟨[.type "set", a], []⟩) (wants Q₁ E) s := by
 refine codeAny_of_tree ?_
 have c := F.newCall_set_1 a
 show wpAny _ A.in1 (checkBuiltinCall "set.__new__" ⟨[.type "set", a], []⟩ >>= fun _ => again (.builtin "set.__new__" ⟨[.type "set", a], []⟩)) _ _ s
 refine wpAny_bind (wpAny_of_eq c (wpAny_pure ⟨plainId_quiet F.plain_set_new _, ?_⟩))
 refine codeAny_builtin F.entry_set_new ?_
 rw [Around.under_plainId F.plain_set_new _]
 unfold Builtin.«set.__new__» Builtin.Frozenset.newClass
 have sub := sub_set_self
 obtain ⟨hp, g, d, tk, os⟩ := s
 dsimp only
 wp_walk
 refine wpAny_askSetting (wpAny_pure ?_)
 dsimp only
 simp only [newObj]
 refine wpAny_bind (wpAny_alloc (wpAny_pure ?_))
 exact wpAny_pure h
theorem z9i {h : Heap} {a : Addr} {led : Bool} (g : h.get? a = some (z11 led)) : TextSet prog w h a [] led :=
 ⟨_, #[], 0, .fresh 0 0 led, g, ⟨rfl, rfl, rfl⟩, rfl, fun e q => by simp at q, fun k => by simp, by decide, by cases led <;> decide, rfl, rfl, fun z => absurd rfl z⟩
end
end PySem
end
section
namespace PySem
open PyProof.Rows (StrsAre)
section
variable {prog : Program} {w : World} {A : Around} {E : Value → Shared → Prop} {s : Shared}
theorem z6x : ∀ {vs : List Value} {ss : List Str}, StrsAre vs ss → ∀ (i : Nat) (v : Value) (h : i < ss.length), vs[i]? = some v → ∃ t, v = .str ss[i] t
 | _, _, .nil, i, v, h, e => by simp at e
 | _, _, .cons y t r, 0, v, h, e => by simp at e; exact ⟨t, e.symm⟩
 | _, _, .cons y t r, i + 1, v, h, e => by
  simp only [List.getElem?_cons_succ] at e
  simpa using z6x r i v (by simpa using h) e
theorem z8g {l : Addr} {items : Array Value} {ss : List Str} {Q : Value → Shared → Prop} (hh : A.handled = none)
  (hl : s.heap.IsList l items) (hi : StrsAre items.toList ss) (hb : ss.length + 1 < scanBound)
  (h : ∀ (h' : Heap) (tk : Nat), TextSet prog w h' s.heap.objs.size (z1j ss) (z19 w) → s.toks ≤ tk →
   (∀ b o, s.heap.get? b = some o → h'.get? b = some o) → Q (.ref s.heap.objs.size) { s with heap := h', toks := tk }) :
  wpAny (model prog w) A (call (.type "set") [.ref l]) Q E s := by
 obtain ⟨_, _, mro⟩ := F.called_set.mro
 have made := F.called_set.made
 have self := F.called_set.sub
 refine wpAny_call (codeAny_of_tree ?_)
 show wpAny _ _ (callAny (.type "set") _) _ _ _
 refine wpAny_pure ⟨Code.quiet_builtin _ (by decide +kernel), ?_⟩
 refine codeAny_builtin F.entry_type_call ?_
 rw [Around.under_plain (weight_type_call_type "set" [.ref l] []) rfl]
 have n1 := F.called_set.notType
 have n2 := F.called_set.canCreate
 have n3 := F.typeCall_set_1 (.ref l)
 repeat (any_goals (first | assumption | wp_step))
 refine codeAny_mono (z6w (.ref l) (E := E)
  (Q₁ := fun x s₁ => ∃ led : Bool, led = z19 w ∧ x = .ref s.heap.objs.size ∧ s₁ = { s with heap := s.heap.push (z11 led) }) ⟨_, rfl, rfl, rfl⟩) fun r s₁ hr => ?_
 match r, hr with
 | .error e, hr => exact hr
 | .ok (.ret x), hr =>
  obtain ⟨led, hled, rfl, rfl⟩ := hr
  have gS : (s.heap.push (z11 led)).get? s.heap.objs.size = some (z11 led) := Heap.get?_push_size _ rfl
  have ty : Shared.TypeIs { s with heap := s.heap.push (z11 led) } (.ref s.heap.objs.size) "set" := ⟨_, gS, rfl⟩
  have look := F.called_set.init.lookup
  have bound := F.called_set.init.bind (.ref s.heap.objs.size)
  repeat (any_goals (first | assumption | wp_step))
  refine codeAny_mono (codeAny_call_builtin (R := wants (fun r s₂ => r = .none ∧ ∃ h' tk, s₂ = { s with heap := h', toks := tk } ∧
   TextSet prog w h' s.heap.objs.size (z1j ss) (z19 w) ∧ s.toks ≤ tk ∧ ∀ b o, s.heap.get? b = some o → h'.get? b = some o) E)
   F.called_set.init.plain F.entry_set_init (check_set_init_1 ty ?_)) fun r₂ s₂ hr₂ => ?_
  ·obtain ⟨ol, gl, cl, nl, dl⟩ := hl
   obtain ⟨ocls, odict, odata, oslots⟩ := ol
   simp only at cl dl
   subst cl dl
   have gl' : (s.heap.push (z11 led)).get? l = some { cls := .type "list", dict := odict, data := .seq items nl, slots := oslots } :=
    Heap.get?_push_of_some _ gl
   have m1 := F.sub_list_set
   have m2 := F.sub_list_frozenset
   have m3 : (Value.type "list" == Value.type "dict") = false := by decide
   have isl : (s.heap.push (z11 led)).IsList l items := ⟨_, gl', rfl, nl, rfl⟩
   unfold Builtin.«set.__init__» noKeywords Builtin.Frozenset.updateFrom
   generalize hPI : pyIter = PI
   wp_walk
   subst hPI
   refine wpAny_pyIter_list isl ?_
   refine wpAny_bind (wpAny_runValue ?_)
   have lt : l < s.heap.objs.size := Heap.lt_size gl
   have h3 : A.in1.in1.in1.handled = none := by simp [hh]
   have lI : l ≠ (s.heap.push (z11 led)).objs.size := by
    rw [Heap.size_push]; exact Nat.ne_of_lt (Nat.lt_succ_of_lt lt)
   have aI : s.heap.objs.size ∉ [(s.heap.push (z11 led)).objs.size, l] := by
    rw [Heap.size_push]; intro m
    rcases List.mem_cons.mp m with e | m
    ·exact Nat.ne_of_lt (Nat.lt_succ_self _) e
    ·exact Nat.ne_of_gt lt (List.mem_singleton.mp m)
   have len : items.size = ss.length := by rw [← Array.length_toList]; exact hi.length
   have hv : ∀ (i : Nat) (v : Value) (h : i < ss.length), items[i]? = some v → ∃ t, v = .str ss[i] t :=
    fun i v h e => z6x hi i v h (by rw [Array.getElem?_toList]; exact e)
   have WW := ((Walks.list (prog := prog) (w := w) h3 _ l lI items).toS)
   rw [len] at WW
   refine z8f (led := z19 w) WW s.heap.objs.size aI hv hb (ss.length - 0) 0 _ (by omega) (Nat.zero_le _)
    ⟨⟨_, Heap.get?_push_size _ rfl, rfl, rfl⟩, (isl.push _)⟩ ?s0 ?sR
   case s0 =>
    have g2 : ((s.heap.push (z11 led)).push { cls := .type "list_iterator", data := .fields #[.ref l, .int 0 0] }).get? s.heap.objs.size = some (z11 led) :=
     Heap.get?_push_of_some _ gS
    rw [← hled]; exact z9i g2
   case sR =>
    intro s' mv T
    obtain ⟨h', g', d', tk', os'⟩ := s'
    obtain rfl : g' = s.gens := mv.gens
    obtain rfl : d' = s.drawn := mv.drawn
    obtain rfl : os' = s.os := mv.os
    show wpAny _ _ _ _ _ _
    refine wpAny_pure ?_
    show wpAny _ _ (ret Value.none) _ _ _
    refine wpAny_pure ⟨rfl, h', tk', rfl, T, mv.toks, fun b o e => ?_⟩
    have bl := Heap.lt_size e
    refine mv.heap b o ?_ (Heap.get?_push_of_some _ (Heap.get?_push_of_some _ e))
    rw [Heap.size_push]; intro m
    rcases List.mem_cons.mp m with e | m
    ·exact Nat.ne_of_lt bl e
    ·exact Nat.ne_of_lt (Nat.lt_succ_of_lt bl) (List.mem_singleton.mp m)
  ·match r₂, hr₂ with
   | .error e, hr₂ => exact hr₂
   | .ok (.ret r), hr₂ =>
    obtain ⟨rfl, h', tk, rfl, T, lt, old⟩ := hr₂
    repeat (any_goals (first | assumption | wp_step))
    exact h _ _ T lt old
end
end PySem
end
section
namespace PySem
open PyProof.Rows (StrsAre)
section
variable {prog : Program} {w : World} {A : Around} {E : Value → Shared → Prop}
theorem zah {src : Source} {n : Nat} {Q : Nat → Shared → Prop} {s : Shared} (hn : n ≠ 0)
  (h : ∀ i, i < n → Q i { s with drawn := s.drawn.bump src }) : wpAny (model prog w) A (choose src n) Q E s := by
 intro Γ p hA
 exact ⟨hn, h _ (Nat.mod_lt _ (Nat.pos_of_ne_zero hn))⟩
theorem z3q {α : Type} : ∀ (l : List α) (i : Nat) (h : i < l.length), List.Perm (l[i] :: l.eraseIdx i) l
 | x :: l, 0, h => by simp
 | x :: l, i + 1, h => by
  have := z3q l i (by simpa using h)
  simp only [List.getElem_cons_succ, List.eraseIdx_cons_succ]
  exact (List.Perm.swap ..).trans (this.cons x)
theorem z9j {α : Type} : drawOrder 0 ([] : List α) = pure [] := by rw [drawOrder]
theorem z7t {α : Type} (n : Nat) : ∀ (xs : List α) {Q : List α → Shared → Prop} {s : Shared}, xs.length = n →
  (∀ ys d, List.Perm ys xs → Q ys { s with drawn := d }) → wpAny (model prog w) A (drawOrder n xs) Q E s := by
 induction n with
 | zero =>
  intro xs Q s hl h
  have e := List.length_eq_zero_iff.mp hl
  subst e
  rw [z9j]
  exact wpAny_pure (h [] s.drawn .nil)
 | succ n ih =>
  intro xs Q s hl h
  cases xs with
  | nil => cases hl
  | cons x xs =>
   rw [drawOrder]
   case x_2 => intro z; cases z
   refine wpAny_bind (zah (by simp) fun i hi => ?_)
   rw [List.getElem?_eq_getElem hi]
   dsimp only
   refine wpAny_bind (ih _ (by rw [List.length_eraseIdx_of_lt hi]; omega) fun ys d pr => ?_)
   exact wpAny_pure (h _ d ((pr.cons _).trans (z3q _ _ hi)))
theorem z6y {α : Type} (next : Nat → Nat) : ∀ (fuel k : Nat) (left : List α) (out : Array α), left.length = fuel →
  (pickOrder.go next fuel k left out).toList.Perm (out.toList ++ left)
 | 0, k, left, out, h => by
  rw [List.length_eq_zero_iff.mp h]; unfold pickOrder.go; simp
 | fuel + 1, k, left, out, h => by
  unfold pickOrder.go
  have hi : next k % left.length < left.length := Nat.mod_lt _ (by omega)
  rw [List.getElem?_eq_getElem hi]
  dsimp only
  refine (z6y next fuel _ _ _ (by rw [List.length_eraseIdx_of_lt hi]; omega)).trans ?_
  rw [Array.toList_push, List.append_assoc]
  exact (z3q _ _ hi).append_left _
theorem z2t {α : Type} (next : Nat → Nat) (xs : Array α) : (pickOrder next xs).toList.Perm xs.toList := by
 have := z6y next xs.size 0 xs.toList #[] (by simp)
 simpa [pickOrder] using this
end
end PySem
end
section
namespace PySem
open PyProof.Rows (StrsAre)
theorem z9k : entryFor table "set.__iter__" = some Builtin.«frozenset.__iter__» :=
 entryFor_alias (id' := "frozenset.__iter__") (by kernel_rfl) rfl (by decide +kernel) (by kernel_rfl)
theorem zai (v : Value) : argsOk "set.__iter__" ⟨[v], []⟩ := by unfold argsOk; kernel_rfl
theorem slot_setNext : Slot "set_iterator" "__next__" "set_iterator.__next__" := by
 refine .of (owner := "set_iterator") (n := "__next__") ?_ ?_ ?_ ?_ ?_ ?_
 ·rw [typeLookup_type, builtinLookup_eq_fast]; kernel_rfl
 ·decide +kernel
 ·decide +kernel
 ·decide +kernel
 ·first
   | exact .inl (by decide +kernel)
   | exact .inr (by decide +kernel)
 ·rw [isSubtype_type]; kernel_rfl
theorem z49 : Slot "set_iterator" "__iter__" "set_iterator.__iter__" := by
 refine .of (owner := "set_iterator") (n := "__iter__") ?_ ?_ ?_ ?_ ?_ ?_
 ·rw [typeLookup_type, builtinLookup_eq_fast]; kernel_rfl
 ·decide +kernel
 ·decide +kernel
 ·decide +kernel
 ·first
   | exact .inl (by decide +kernel)
   | exact .inr (by decide +kernel)
 ·rw [isSubtype_type]; kernel_rfl
theorem z30 : entryFor table "set_iterator.__next__" = some Builtin.«set_iterator.__next__» := by
 refine entryFor_of_tree ?_
 kernel_rfl
theorem z37 (v : Value) : argsOk "set_iterator.__next__" ⟨[v], []⟩ := by unfold argsOk; kernel_rfl
section
variable {prog : Program} {w : World} {A : Around} {E : Value → Shared → Prop} {s : Shared}
theorem z1x {Q : Bool → Shared → Prop} (h : Q (w.params.followText "set-order") s) :
  wpAny (model prog w) A setsByText Q E s := by
 unfold setsByText
 exact wpAny_bind (wpAny_askSetting (wpAny_pure h))
abbrev zw (first : Value) (i : Nat) (a : Addr) (n ep : Nat) : Obj :=
 { cls := .type "set_iterator", data := .fields #[first, .int i 0, .ref a, .int n 0, .int ep 0] }
theorem z7u {a : Addr} {o : Obj} {es : Array (Int × Value)} {ep : Nat} {t : SetTable} {Q : Value → Shared → Prop}
  (ho : s.heap.get? a = some o) (hx : o.ExactSet) (hd : o.data = .set es ep t) (hf : t.fits es.size = true) (hb : es.size < scanBound)
  (hdrawn : w.params.followText "set-order" = false → t.plain = false → es.size > 1 → ∀ (ps : List Nat) d, ps.Perm (List.range es.size) →
   Q (.ref (s.heap.objs.size + 1)) { s with
    heap := (s.heap.push { cls := .type "tuple", data := .seq (ps.map fun (i : Nat) => rawInt i).toArray }).push (zw (.ref s.heap.objs.size) 0 a es.size ep), drawn := d })
  (hplace : (w.params.followText "set-order" = true ∨ t.plain = true ∨ es.size ≤ 1) →
   Q (.ref s.heap.objs.size) { s with heap := s.heap.push (zw (.int 0 0) 0 a es.size ep) }) :
  wpAny (model prog w) A (pyIter (.ref a)) Q E s := by
 have ty : s.TypeIs (.ref a) "set" := ⟨o, ho, hx.1⟩
 refine wpAny_pyIter_slot ty F.slot_set_iter (wpAny_call_entry F.slot_set_iter ty z9k ?_ (zai _))
 unfold Builtin.«frozenset.__iter__» Builtin.Frozenset.slot0 slotArgs
 simp only [List.isEmpty_nil, Bool.not_true, Bool.false_eq_true, ↓reduceIte, bind_assoc, List.length_nil, bne_self_eq_false]
 unfold Builtin.Frozenset.addrOf Builtin.Frozenset.sizeOf setDrawn
 refine wpAny_bind (wpAny_pure ?_)
 dsimp only
 refine wpAny_bind (wpAny_pure ?_)
 refine wpAny_bind (wpAny_bind (wpAny_setEntries_of ho hd hf (wpAny_pure ?_)))
 refine wpAny_bind (wpAny_bind (wpAny_setState_of ho hd hf ?_))
 dsimp only
 refine wpAny_bind (z1x (wpAny_pure ?_))
 have look := slot_setNext.lookup
 by_cases c : (!w.params.followText "set-order" && (!t.plain && decide (es.size > 1))) = true
 ·refine (?_ : wpAny _ _ (if (!w.params.followText "set-order" && (!t.plain && decide (es.size > 1))) = true then _ else _) _ _ _)
  rw [if_pos c]
  simp only [Bool.and_eq_true, Bool.not_eq_true', decide_eq_true_eq] at c
  refine wpAny_bind (z7t _ _ (by simp) fun ps d pr => ?_)
  unfold newTuple
  refine wpAny_bind (wpAny_newObj_type ?_ (by
   have l := fits_of_scanBound hb
   have z := pr.length_eq
   simp only [List.length_range] at z
   show _ ≤ sizeLine
   simp only [List.size_toArray, List.length_map]
   omega))
  refine wpAny_bind (wpAny_setEpoch_of (Heap.get?_push_of_some _ ho) hd hf ?_)
  unfold newFields
  refine wpAny_bind (wpAny_newObj_type (wpAny_pure ⟨_, rfl, "set_iterator", _, ⟨_, Heap.get?_push_size _ rfl, rfl⟩, look, ?_⟩))
  have := hdrawn c.1 c.2.1 c.2.2 ps d pr
  rw [Heap.size_push]
  exact this
 ·refine (?_ : wpAny _ _ (if (!w.params.followText "set-order" && (!t.plain && decide (es.size > 1))) = true then _ else _) _ _ _)
  rw [if_neg c]
  refine wpAny_bind (wpAny_pure ?_)
  refine wpAny_bind (wpAny_setEpoch_of ho hd hf ?_)
  unfold newFields
  refine wpAny_bind (wpAny_newObj_type (wpAny_pure ⟨_, rfl, "set_iterator", _, ⟨_, Heap.get?_push_size _ rfl, rfl⟩, look, ?_⟩))
  refine hplace ?_
  cases hb : w.params.followText "set-order" with
  | true => exact .inl rfl
  | false =>
   cases hp : t.plain with
   | true => exact .inr (.inl rfl)
   | false =>
    refine .inr (.inr ?_)
    rw [hb, hp] at c; simp at c; omega
def SetIterAt (h : Heap) (I : Addr) (first : Value) (i : Nat) (a : Addr) (n ep : Nat) : Prop :=
 ∃ o, h.get? I = some o ∧ o.cls = .type "set_iterator" ∧ o.data = .fields #[first, .int i 0, .ref a, .int n 0, .int ep 0]
theorem z9l {I T a : Addr} {i : Nat} {o oT : Obj} {es : Array (Int × Value)} {ep : Nat} {t : SetTable} {ps : List Nat} {nT : Nat} {Q : Option Value → Shared → Prop}
  (ho : s.heap.get? a = some o) (hd : o.data = .set es ep t) (hf : t.fits es.size = true)
  (hi : SetIterAt s.heap I (.ref T) i a es.size ep) (gT : s.heap.get? T = some oT) (dT : oT.data = .seq (ps.map fun (i : Nat) => rawInt i).toArray nT)
  {p : Nat} {e : Int × Value} (hp : ps[i]? = some p) (he : es[p]? = some e)
  (h : ∀ h', SetIterAt h' I (.ref T) (i + 1) a es.size ep → Heap.SameBut I s.heap h' → Q (some e.2) { s with heap := h' }) :
  wpAny (model prog w) A (pyNext (.ref I)) Q E s := by
 obtain ⟨oI, gI, cI, dI⟩ := hi
 have ty : s.TypeIs (.ref I) "set_iterator" := ⟨oI, gI, cI⟩
 unfold pyNext
 refine wpAny_bind (wpAny_attempt (wpAny_callSpecial?_slot (name := Str.ofString "__next__") ty slot_setNext
  (wpAny_call_entry slot_setNext ty z30 ?_ (z37 _))))
 unfold Builtin.«set_iterator.__next__» slotArgs
 simp only [List.isEmpty_nil, Bool.not_true, Bool.false_eq_true, ↓reduceIte, bind_assoc, List.length_nil, bne_self_eq_false]
 refine wpAny_bind (wpAny_pure ?_)
 dsimp only
 refine wpAny_bind (wpAny_fieldsOf gI dI ?_)
 dsimp only
 refine wpAny_bind (wpAny_setEntries_of ho hd hf ?_)
 rw [if_neg (show ¬ ((((es.size : Nat) : Int) != ((es.size : Nat) : Int)) = true) by simp)]
 refine wpAny_bind (wpAny_seqItems gT dT ?_)
 have look : (ps.map fun (i : Nat) => rawInt i).toArray[(↑i : Int).toNat]? = some (.int p 0) := by
  simp [hp, rawInt]
 dsimp only
 rw [look]
 dsimp only
 unfold setNextDrawn
 refine wpAny_bind (wpAny_bind (wpAny_setState_of ho hd hf ?_))
 dsimp only
 rw [if_neg (show ¬ ((ep != (↑ep : Int).toNat) = true) by simp)]
 have look2 : es[(↑p : Int).toNat]? = some e := by simpa using he
 rw [look2]
 dsimp only
 refine wpAny_pure ?_
 refine wpAny_bind (wpAny_setField gI dI (by simp) (wpAny_pure ⟨e.2, rfl, wpAny_pure (h _ ?_ (Heap.SameBut.update ..))⟩))
 refine ⟨_, Heap.get?_update_self _ gI (Obj.isFreed_of_fields (Obj.data_mapFields dI _)), (Obj.cls_mapFields ..).trans cI, ?_⟩
 rw [Obj.data_mapFields dI]
 simp [rawInt]
end
end PySem
end
section
namespace PySem
open PyProof.Rows (StrsAre)
section
variable {prog : Program} {w : World} {A : Around} {E : Value → Shared → Prop} {s : Shared}
theorem z6l {I T a : Addr} {i : Nat} {o oT : Obj} {es : Array (Int × Value)} {ep : Nat} {t : SetTable} {ps : List Nat} {nT : Nat} {Q : Option Value → Shared → Prop}
  (hh : A.handled = none) (ho : s.heap.get? a = some o) (hd : o.data = .set es ep t) (hf : t.fits es.size = true)
  (hi : SetIterAt s.heap I (.ref T) i a es.size ep) (gT : s.heap.get? T = some oT) (dT : oT.data = .seq (ps.map fun (i : Nat) => rawInt i).toArray nT)
  (hp : ps[i]? = none) (h : ∀ h', Heap.ExtBut I s.heap h' → Q none { s with heap := h' }) :
  wpAny (model prog w) A (pyNext (.ref I)) Q E s := by
 obtain ⟨oI, gI, cI, dI⟩ := hi
 have ty : s.TypeIs (.ref I) "set_iterator" := ⟨oI, gI, cI⟩
 unfold pyNext
 refine wpAny_bind (wpAny_attempt (wpAny_callSpecial?_slot (name := Str.ofString "__next__") ty slot_setNext
  (wpAny_call_entry slot_setNext ty z30 ?_ (z37 _))))
 unfold Builtin.«set_iterator.__next__» slotArgs
 simp only [List.isEmpty_nil, Bool.not_true, Bool.false_eq_true, ↓reduceIte, bind_assoc, List.length_nil, bne_self_eq_false]
 refine wpAny_bind (wpAny_pure ?_)
 dsimp only
 refine wpAny_bind (wpAny_fieldsOf gI dI ?_)
 dsimp only
 refine wpAny_bind (wpAny_setEntries_of ho hd hf ?_)
 rw [if_neg (show ¬ ((((es.size : Nat) : Int) != ((es.size : Nat) : Int)) = true) by simp)]
 refine wpAny_bind (wpAny_seqItems gT dT ?_)
 have look : (ps.map fun (i : Nat) => rawInt i).toArray[(↑i : Int).toNat]? = none := by
  simp at hp; simp [hp]
 dsimp only
 rw [look]
 dsimp only
 refine wpAny_bind (wpAny_setField gI dI (by simp) ?_)
 have g2 := Heap.get?_update_self (Obj.mapFields (·.setIfInBounds 0 (rawInt 0))) gI (Obj.isFreed_of_fields (Obj.data_mapFields dI _))
 refine wpAny_bind (wpAny_setField g2 (Obj.data_mapFields dI _) (by simp) ?_)
 refine wpAny_bind ?_
 simp only [newExc, newTuple]
 refine wpAny_bind (wpAny_newObj_type ?_ (by size_fits))
 refine wpAny_bind (m := firstArgMember _ _) (wpAny_of_eq (a := Value.none) (by simp only [firstArgMember]; rfl) ?_)
 refine wpAny_newObj_type ?_ (by size_fits)
 simp only [raiseNew]
 refine wpAny_bind (wpAny_handled ?_)
 rw [show A.in1.handled = none from hh]
 refine wpAny_bind (wpAny_pure (wpAny_throw ?_))
 refine wpAny_bind (wpAny_isInstance (T := "StopIteration") (b := true) ⟨_, Heap.get?_push_size _ rfl, rfl⟩ isSubtype_stop ?_)
 exact wpAny_pure (h _ ((((Heap.SameBut.update ..).trans (Heap.SameBut.update ..)).extBut.push _).push _))
theorem z60 {a : Addr} {o : Obj} {es : Array (Int × Value)} {ep : Nat} {t : SetTable} {slot i : Nat} {Q : Option (Value × Nat) → Shared → Prop}
  (hw : w.params.followText "set-order" = true) (ho : s.heap.get? a = some o) (hd : o.data = .set es ep t) (hf : t.fits es.size = true)
  (h : Q (((pickOrder (w.params.setOrder a ep) es)[i]?).map fun e => (e.2, slot)) s) : wpAny (model prog w) A (setNext a slot i ep) Q E s := by
 unfold setNext
 refine wpAny_bind (wpAny_setState_of ho hd hf ?_)
 dsimp only
 refine wpAny_bind (z1x ?_)
 rw [hw]
 simp only [↓reduceIte, bne_self_eq_false, Bool.false_eq_true]
 unfold setWalk
 refine wpAny_bind (wpAny_bind (wpAny_setState_of ho hd hf ?_))
 dsimp only
 refine wpAny_bind (z1x ?_)
 rw [hw]
 simp only [↓reduceIte]
 refine wpAny_bind (wpAny_askSetting (wpAny_pure ?_))
 exact wpAny_pure h
theorem z6z {a : Addr} {o : Obj} {es : Array (Int × Value)} {ep : Nat} {t : SetTable} {slot i : Nat} {Q : Option (Value × Nat) → Shared → Prop}
  (hw : w.params.followText "set-order" = false) (ho : s.heap.get? a = some o) (hd : o.data = .set es ep t) (hf : t.fits es.size = true)
  (hn : es.size ≤ 1) (hl : t.led = true)
  (h : Q (match es[SetTable.below t.place slot]?, t.place[SetTable.below t.place slot]? with
   | some (_, x), some j => some (x, j + 1)
   | _, _ => none) s) : wpAny (model prog w) A (setNext a slot i ep) Q E s := by
 unfold setNext
 refine wpAny_bind (wpAny_setState_of ho hd hf ?_)
 dsimp only
 refine wpAny_bind (z1x ?_)
 rw [hw]
 simp only [Bool.false_eq_true, ↓reduceIte]
 refine (?_ : wpAny _ _ (if (!t.plain && decide (es.size > 1)) = true then _ else _) _ _ _)
 rw [if_neg (by simp; omega)]
 refine wpAny_bind (m := if (!t.led && !es.isEmpty) = true then unsupported "set:maker-not-led" else pure ()) ?_
 rw [if_neg (by simp [hl])]
 exact wpAny_pure (wpAny_pure h)
end
end PySem
end
section
namespace PySem
open PyProof.Rows (StrsAre)
section
variable {prog : Program} {w : World} {A : Around} {E : Value → Shared → Prop} {s : Shared}
theorem z4a {I a : Addr} {slot i next : Nat} {x : Value} {o : Obj} {es : Array (Int × Value)} {ep : Nat} {t : SetTable} {Q : Option Value → Shared → Prop}
  (ho : s.heap.get? a = some o) (hd : o.data = .set es ep t) (hf : t.fits es.size = true)
  (hi : SetIterAt s.heap I (.int slot 0) i a es.size ep)
  (hs : ∀ (A : Around) (E : Value → Shared → Prop) (Q : Option (Value × Nat) → Shared → Prop), Q (some (x, next)) s → wpAny (model prog w) A (setNext a slot i ep) Q E s)
  (h : ∀ h', SetIterAt h' I (.int next 0) (i + 1) a es.size ep → Heap.SameBut I s.heap h' → Q (some x) { s with heap := h' }) :
  wpAny (model prog w) A (pyNext (.ref I)) Q E s := by
 obtain ⟨oI, gI, cI, dI⟩ := hi
 have ty : s.TypeIs (.ref I) "set_iterator" := ⟨oI, gI, cI⟩
 unfold pyNext
 refine wpAny_bind (wpAny_attempt (wpAny_callSpecial?_slot (name := Str.ofString "__next__") ty slot_setNext
  (wpAny_call_entry slot_setNext ty z30 ?_ (z37 _))))
 unfold Builtin.«set_iterator.__next__» slotArgs
 simp only [List.isEmpty_nil, Bool.not_true, Bool.false_eq_true, ↓reduceIte, bind_assoc, List.length_nil, bne_self_eq_false]
 refine wpAny_bind (wpAny_pure ?_)
 dsimp only
 refine wpAny_bind (wpAny_fieldsOf gI dI ?_)
 dsimp only
 refine wpAny_bind (wpAny_setEntries_of ho hd hf ?_)
 rw [if_neg (show ¬ ((((es.size : Nat) : Int) != ((es.size : Nat) : Int)) = true) by simp)]
 simp only [Int.toNat_natCast]
 refine wpAny_bind (hs _ _ _ ?_)
 dsimp only
 refine wpAny_bind (wpAny_setField gI dI (by simp) ?_)
 have d2 := Obj.data_mapFields dI (·.setIfInBounds 0 (rawInt next))
 have g2 := Heap.get?_update_self (Obj.mapFields (·.setIfInBounds 0 (rawInt next))) gI (Obj.isFreed_of_fields d2)
 refine wpAny_bind (wpAny_setField g2 d2 (by simp) (wpAny_pure ⟨x, rfl, wpAny_pure (h _ ?_ ((Heap.SameBut.update ..).trans (Heap.SameBut.update ..)))⟩))
 refine ⟨_, Heap.get?_update_self _ g2 (Obj.isFreed_of_fields (Obj.data_mapFields d2 _)), ?_, ?_⟩
 ·exact (Obj.cls_mapFields ..).trans ((Obj.cls_mapFields ..).trans cI)
 ·rw [Obj.data_mapFields d2]
  simp [rawInt]
theorem z31 {I a : Addr} {slot i : Nat} {o : Obj} {es : Array (Int × Value)} {ep : Nat} {t : SetTable} {Q : Option Value → Shared → Prop}
  (hh : A.handled = none) (ho : s.heap.get? a = some o) (hd : o.data = .set es ep t) (hf : t.fits es.size = true)
  (hi : SetIterAt s.heap I (.int slot 0) i a es.size ep)
  (hs : ∀ (A : Around) (E : Value → Shared → Prop) (Q : Option (Value × Nat) → Shared → Prop), Q none s → wpAny (model prog w) A (setNext a slot i ep) Q E s)
  (h : ∀ h', Heap.ExtBut I s.heap h' → Q none { s with heap := h' }) :
  wpAny (model prog w) A (pyNext (.ref I)) Q E s := by
 obtain ⟨oI, gI, cI, dI⟩ := hi
 have ty : s.TypeIs (.ref I) "set_iterator" := ⟨oI, gI, cI⟩
 unfold pyNext
 refine wpAny_bind (wpAny_attempt (wpAny_callSpecial?_slot (name := Str.ofString "__next__") ty slot_setNext
  (wpAny_call_entry slot_setNext ty z30 ?_ (z37 _))))
 unfold Builtin.«set_iterator.__next__» slotArgs
 simp only [List.isEmpty_nil, Bool.not_true, Bool.false_eq_true, ↓reduceIte, bind_assoc, List.length_nil, bne_self_eq_false]
 refine wpAny_bind (wpAny_pure ?_)
 dsimp only
 refine wpAny_bind (wpAny_fieldsOf gI dI ?_)
 dsimp only
 refine wpAny_bind (wpAny_setEntries_of ho hd hf ?_)
 rw [if_neg (show ¬ ((((es.size : Nat) : Int) != ((es.size : Nat) : Int)) = true) by simp)]
 simp only [Int.toNat_natCast]
 refine wpAny_bind (hs _ _ _ ?_)
 dsimp only
 refine wpAny_bind (wpAny_setField gI dI (by simp) ?_)
 refine wpAny_bind ?_
 simp only [newExc, newTuple]
 refine wpAny_bind (wpAny_newObj_type ?_ (by size_fits))
 refine wpAny_bind (m := firstArgMember _ _) (wpAny_of_eq (a := Value.none) (by simp only [firstArgMember]; rfl) ?_)
 refine wpAny_newObj_type ?_ (by size_fits)
 simp only [raiseNew]
 refine wpAny_bind (wpAny_handled ?_)
 rw [show A.in1.handled = none from hh]
 refine wpAny_bind (wpAny_pure (wpAny_throw ?_))
 refine wpAny_bind (wpAny_isInstance (T := "StopIteration") (b := true) ⟨_, Heap.get?_push_size _ rfl, rfl⟩ isSubtype_stop ?_)
 exact wpAny_pure (h _ (((Heap.SameBut.update ..).extBut.push _).push _))
theorem z8h (p : Nat) : SetTable.below #[p] 0 = 0 := by
 simp [SetTable.below, SetTable.below.go]
theorem z8i (p : Nat) : SetTable.below #[p] (p + 1) = 1 := by
 simp [SetTable.below, SetTable.below.go]
end
end PySem
end
section
namespace PySem
open PyProof.Rows (StrsAre)
theorem z6m : entryFor table "set_iterator.__iter__" = some Builtin.«dict_keyiterator.__iter__» :=
 entryFor_alias (id' := "dict_keyiterator.__iter__") (by kernel_rfl) rfl (by decide +kernel) (by kernel_rfl)
theorem z79 (v : Value) : argsOk "set_iterator.__iter__" ⟨[v], []⟩ := by unfold argsOk; kernel_rfl
section
variable {prog : Program} {w : World} {A : Around} {E : Value → Shared → Prop} {s : Shared}
theorem z38 {I a : Addr} {first : Value} {i n ep : Nat} {Q : Value → Shared → Prop} (hi : SetIterAt s.heap I first i a n ep)
  (h : Q (.ref I) s) : wpAny (model prog w) A (pyIter (.ref I)) Q E s := by
 obtain ⟨o, g, c, d⟩ := hi
 have ty : s.TypeIs (.ref I) "set_iterator" := ⟨o, g, c⟩
 refine wpAny_pyIter_slot ty z49 (wpAny_call_entry z49 ty z6m ?_ (z79 _))
 show wpAny _ _ (ret (.ref I)) _ _ s
 exact wpAny_pure ⟨_, rfl, "set_iterator", _, ty, slot_setNext.lookup, h⟩
theorem SetIterAt.keep {h h' : Heap} {I a : Addr} {first : Value} {i n ep : Nat} (t : SetIterAt h I first i a n ep)
  (e : ∀ o, h.get? I = some o → h'.get? I = some o) : SetIterAt h' I first i a n ep := by
 obtain ⟨o, g, r⟩ := t
 exact ⟨o, e o g, r⟩
theorem z70 (hh : A.handled = none) {I T a : Addr} {o oT : Obj} {es : Array (Int × Value)} {ep : Nat} {t : SetTable} {ps : List Nat} {nT : Nat}
  (hd : o.data = .set es ep t) (hf : t.fits es.size = true) (dT : oT.data = .seq (ps.map fun (i : Nat) => rawInt i).toArray nT)
  (hI : a ≠ I) (hT : T ≠ I) (pr : ps.Perm (List.range es.size)) :
  WalksS prog w A I [I, a, T] [I] (fun x y => x = y) es.size (fun i v => ∃ p e, ps[i]? = some p ∧ es[p]? = some e ∧ v = e.2)
   (fun i s => SetIterAt s.heap I (.ref T) i a es.size ep ∧ s.heap.get? a = some o ∧ s.heap.get? T = some oT) where
 sub := fun b hb => by simp at hb; simp [hb]
 grefl := fun _ => rfl
 gtrans := fun _ _ _ p q => p.trans q
 frame := fun i s h' tk st _ k => ⟨st.1.keep (k I (by simp)), k a (by simp) _ st.2.1, k T (by simp) _ st.2.2⟩
 item := fun i s Q E lt st hQ => by
  have len : ps.length = es.size := by simpa using pr.length_eq
  have hp : ps[i]? = some ps[i] := List.getElem?_eq_getElem (by omega)
  have mem : ps[i] < es.size := List.mem_range.mp (pr.mem_iff.mp (List.getElem_mem _))
  have he : es[ps[i]]? = some es[ps[i]] := Array.getElem?_eq_getElem mem
  refine z9l st.2.1 hd hf st.1 st.2.2 dT hp he fun h' si sb => ?_
  refine hQ _ _ ⟨_, _, hp, he, rfl⟩ ⟨si, ?_, ?_⟩ ⟨fun b o' hb e => ?_, rfl, rfl, rfl, Nat.le_refl _⟩
  ·exact (sb.2 a hI).trans st.2.1
  ·exact (sb.2 T hT).trans st.2.2
  ·exact (sb.2 b (by simpa using hb)).trans e
 done := fun s Q E st hQ => by
  have len : ps.length = es.size := by simpa using pr.length_eq
  refine z6l hh st.2.1 hd hf st.1 st.2.2 dT (List.getElem?_eq_none (by omega)) fun h' xb => ?_
  exact hQ _ ⟨fun b o' hb e => xb b o' (by simpa using hb) e, rfl, rfl, rfl, Nat.le_refl _⟩
 self := fun i s Q E st h => z38 st.1 h
theorem z7v (hh : A.handled = none) (hw : w.params.followText "set-order" = true) {I a : Addr} {o : Obj} {es : Array (Int × Value)} {ep : Nat} {t : SetTable}
  (hd : o.data = .set es ep t) (hf : t.fits es.size = true) (hI : a ≠ I) :
  WalksS prog w A I [I, a] [I] (fun x y => x = y) es.size (fun i v => ∃ e, (pickOrder (w.params.setOrder a ep) es)[i]? = some e ∧ v = e.2)
   (fun i s => SetIterAt s.heap I (.int (0 : Nat) 0) i a es.size ep ∧ s.heap.get? a = some o) where
 sub := fun b hb => by simp at hb; simp [hb]
 grefl := fun _ => rfl
 gtrans := fun _ _ _ p q => p.trans q
 frame := fun i s h' tk st _ k => ⟨st.1.keep (k I (by simp)), k a (by simp) _ st.2⟩
 item := fun i s Q E lt st hQ => by
  have len : (pickOrder (w.params.setOrder a ep) es).size = es.size := by
   rw [← Array.length_toList, (z2t _ _).length_eq, Array.length_toList]
  have he : (pickOrder (w.params.setOrder a ep) es)[i]? = some (pickOrder (w.params.setOrder a ep) es)[i] := Array.getElem?_eq_getElem (by omega)
  refine z4a (next := 0) (x := (pickOrder (w.params.setOrder a ep) es)[i].2) st.2 hd hf st.1 (fun A' E' Q' q => z60 hw st.2 hd hf (by rw [he]; exact q)) fun h' si sb => ?_
  refine hQ _ _ ⟨_, he, rfl⟩ ⟨si, (sb.2 a hI).trans st.2⟩ ⟨fun b o' hb e => ?_, rfl, rfl, rfl, Nat.le_refl _⟩
  exact (sb.2 b (by simpa using hb)).trans e
 done := fun s Q E st hQ => by
  have len : (pickOrder (w.params.setOrder a ep) es).size = es.size := by
   rw [← Array.length_toList, (z2t _ _).length_eq, Array.length_toList]
  have he : (pickOrder (w.params.setOrder a ep) es)[es.size]? = none := Array.getElem?_eq_none (by omega)
  refine z31 hh st.2 hd hf st.1 (fun A' E' Q' q => z60 hw st.2 hd hf (by rw [he]; exact q)) fun h' xb => ?_
  exact hQ _ ⟨fun b o' hb e => xb b o' (by simpa using hb) e, rfl, rfl, rfl, Nat.le_refl _⟩
 self := fun i s Q E st h => z38 st.1 h
end
end PySem
end
section
namespace PySem
open PyProof.Rows (StrsAre)
section
variable {prog : Program} {w : World} {A : Around} {E : Value → Shared → Prop} {s : Shared}
theorem z3z {t : SetTable} {n : Nat} (h : t.fits n = true) : t.place.size = n := by
 unfold SetTable.fits at h
 simp only [Bool.and_eq_true, beq_iff_eq] at h
 exact h.1
def z26 (t : SetTable) (i : Nat) : Nat := if i = 0 then 0 else t.place.getD 0 0 + 1
theorem z9m {t : SetTable} {es : Array (Int × Value)} (hf : t.fits es.size = true) (hn : es.size ≤ 1) {i : Nat} (lt : i < es.size) :
  (match es[SetTable.below t.place (z26 t i)]?, t.place[SetTable.below t.place (z26 t i)]? with
   | some (_, x), some j => some (x, j + 1)
   | _, _ => none) = some (es[i].2, z26 t (i + 1)) := by
 have sz := z3z hf
 obtain rfl : i = 0 := by omega
 have one : t.place.size = 1 := by omega
 obtain ⟨p, hp⟩ : ∃ p, t.place = #[p] := ⟨t.place[0], by
  apply Array.ext
  ·simpa using one
  ·intro k h1 h2
   simp at h2
   subst h2; rfl⟩
 simp only [z26, hp, if_true, z8h]
 rw [Array.getElem?_eq_getElem lt]
 simp
theorem zaj {t : SetTable} {es : Array (Int × Value)} (hf : t.fits es.size = true) (hn : es.size ≤ 1) :
  (match es[SetTable.below t.place (z26 t es.size)]?, t.place[SetTable.below t.place (z26 t es.size)]? with
   | some (_, x), some j => some (x, j + 1)
   | _, _ => none) = (none : Option (Value × Nat)) := by
 have sz := z3z hf
 by_cases z : es.size = 0
 ·have e : es = #[] := Array.eq_empty_of_size_eq_zero z
  subst e; simp
 ·have one : t.place.size = 1 := by omega
  obtain ⟨p, hp⟩ : ∃ p, t.place = #[p] := ⟨t.place[0], by
   apply Array.ext
   ·simpa using one
   ·intro k h1 h2
    simp at h2
    subst h2; rfl⟩
  have e1 : es.size = 1 := by omega
  have hs : z26 t es.size = p + 1 := by simp [z26, e1, hp]
  rw [hs, hp, z8i]
  have : es[1]? = none := Array.getElem?_eq_none (by omega)
  rw [this]
theorem zdy (hh : A.handled = none) (hw : w.params.followText "set-order" = false) {I a : Addr} {o : Obj} {es : Array (Int × Value)} {ep : Nat} {t : SetTable}
  (hd : o.data = .set es ep t) (hf : t.fits es.size = true) (hn : es.size ≤ 1) (hl : t.led = true) (hI : a ≠ I) :
  WalksS prog w A I [I, a] [I] (fun x y => x = y) es.size (fun i v => ∃ e, es[i]? = some e ∧ v = e.2)
   (fun i s => SetIterAt s.heap I (.int (z26 t i) 0) i a es.size ep ∧ s.heap.get? a = some o) where
 sub := fun b hb => by simp at hb; simp [hb]
 grefl := fun _ => rfl
 gtrans := fun _ _ _ p q => p.trans q
 frame := fun i s h' tk st _ k => ⟨st.1.keep (k I (by simp)), k a (by simp) _ st.2⟩
 item := fun i s Q E lt st hQ => by
  refine z4a (next := z26 t (i + 1)) (x := es[i].2) st.2 hd hf st.1
   (fun A' E' Q' q => z6z hw st.2 hd hf hn hl ((congrArg (fun z => Q' z s) (z9m hf hn lt)).mpr q)) fun h' si sb => ?_
  refine hQ _ _ ⟨_, Array.getElem?_eq_getElem lt, rfl⟩ ⟨si, (sb.2 a hI).trans st.2⟩ ⟨fun b o' hb e => ?_, rfl, rfl, rfl, Nat.le_refl _⟩
  exact (sb.2 b (by simpa using hb)).trans e
 done := fun s Q E st hQ => by
  refine z31 hh st.2 hd hf st.1
   (fun A' E' Q' q => z6z hw st.2 hd hf hn hl ((congrArg (fun z => Q' z s) (zaj hf hn)).mpr q)) fun h' xb => ?_
  exact hQ _ ⟨fun b o' hb e => xb b o' (by simpa using hb) e, rfl, rfl, rfl, Nat.le_refl _⟩
 self := fun i s Q E st h => z38 st.1 h
end
end PySem
end
section
namespace PySem
open PyProof.Rows (StrsAre)
section
variable {prog : Program} {w : World} {A : Around} {E : Value → Shared → Prop} {s : Shared}
theorem zf2 {a : Addr} {Q : Bool → Shared → Prop} (ty : s.TypeIs (.ref a) "set") (h : Q false s) :
  wpAny (model prog w) A (Builtin.List.listLengthHint (.ref a)) Q E s := by
 unfold Builtin.List.listLengthHint
 refine wpAny_bind (wpAny_specialOf ty F.slot_set_len.lookup ?_)
 generalize e : ("set.__len__" : String) = id
 wp_delta
 have sp : splitId id = some ("set", "__len__") := by subst e; decide +kernel
 rw [sp]
 subst e
 refine wpAny_bind (wpAny_isInstance (b := true) ty sub_set_self ?_)
 refine wpAny_ite_split (fun z => absurd z (by decide)) (fun _ => ?_)
 refine wpAny_ite_split (fun _ => ?_) (fun z => absurd (by decide +kernel) z)
 exact wpAny_bind (wpAny_typeOf ty (wpAny_pure h))
theorem z1t {R : Result → Shared → Prop} {a I S : Addr} {fp : List Addr} {n c : Nat} {P : Nat → Value → Prop} {St : Nat → Shared → Prop} {res : Value} {b : Bool}
  (W : WalksS prog w A.in1 I fp [I] (fun x y => x = y) n P St) (hn : n ≤ sizeLine) (hS : S ∉ fp) (st : St 0 s)
  (gS : s.heap.get? S = some { cls := .type "list", data := .seq #[] c }) (ty : s.TypeIs (.ref a) "set")
  (hR : ∀ s' acc c', Moved (S :: [I]) (fun x y => x = y) s s' → s'.heap.get? S = some { cls := .type "list", dict := none, data := .seq acc c', slots := #[] } → ItemsOf P acc n → R (.ok (.ret res)) s') :
  wpAny (model prog w) A.in1 (do
   let room ← holding [.ref I] (Builtin.List.listLengthHint (.ref a))
   if (room || b) = true then do
    rule "list.extend.makes-room"
    Builtin.List.listTouch (.ref S)
    again (.builtin "list.extend.loop" ⟨[.ref S, .ref I, res], []⟩)
   else again (.builtin "list.extend.loop" ⟨[.ref S, .ref I, res], []⟩))
   (fun fin s' => match fin with | .done f => R (.ok f) s' | .again c' => c'.quiet = true ∧ codeAny (model prog w) A c' R s') (fun e s' => R (.error e) s') s := by
 refine wpAny_bind (wpAny_holding (zf2 ty ?_))
 refine wpAny_ite_split (fun _ => ?_) (fun _ => wpAny_pure ⟨plainId_quiet F.plain_extend_loop _, codeAny_extend_loopS W hn S hS res n 0 _ #[] c rfl (Nat.zero_le _) st gS (ItemsOf.nil _) hR⟩)
 refine wpAny_bind (wpAny_rule ?_)
 refine wpAny_bind ?_
 show wpAny _ _ (updateSeq S (·.push .none) >>= fun _ => updateSeq S (·.pop)) _ _ _
 refine wpAny_bind (wpAny_updateSeq gS rfl ?_)
 have g2 := Heap.get?_update_self (Obj.mapSeq (·.push Value.none)) gS rfl
 refine wpAny_updateSeq (hz := by seq_fits) g2 rfl ?_
 have g3 := Heap.get?_update_self (Obj.mapSeq (·.pop)) g2 rfl
 have oth : ∀ q o, q ≠ S → s.heap.get? q = some o → ((s.heap.update S (Obj.mapSeq (·.push Value.none))).update S (Obj.mapSeq (·.pop))).get? q = some o :=
  fun q o hq e => (Heap.get?_update_other _ _ (Ne.symm hq)).trans ((Heap.get?_update_other _ _ (Ne.symm hq)).trans e)
 refine wpAny_pure ⟨plainId_quiet F.plain_extend_loop _, codeAny_extend_loopS W hn S hS res n 0 _ _ _ rfl (Nat.zero_le _) ?_ g3 (ItemsOf.nil _) fun s' acc c' mv g ii => ?_⟩
 ·exact W.frame 0 s _ s.toks st (Nat.le_refl _) fun q hq o e => oth q o (fun z => hS (z ▸ hq)) e
 ·refine hR s' acc c' (Moved.trans W.gtrans ((Moved.refl W.grefl).then_heap (Nat.le_refl _) fun q o hq e => ?_) mv) g ii
  exact oth q o (fun z => hq (z ▸ .head _)) e
end
end PySem
end
section
namespace PySem
open PyProof.Rows (StrsAre)
theorem z4o {α : Type} [BEq α] [LawfulBEq α] : ∀ (D ks : List α), D.Nodup → (∀ x ∈ D, x ∈ ks) → ks.length = D.length → ks.Perm D
 | [], ks, _, _, h => by rw [List.length_eq_zero_iff.mp h]
 | x :: D, ks, nd, sub, h => by
  have xin := sub x (.head _)
  have pe := List.perm_cons_erase xin
  refine pe.trans ((z4o D (ks.erase x) (List.nodup_cons.mp nd).2 (fun y hy => ?_) ?_).cons x)
  ·have ne : y ≠ x := fun e => (List.nodup_cons.mp nd).1 (e ▸ hy)
   exact (List.mem_erase_of_ne ne).mpr (sub y (.tail _ hy))
  ·have := pe.length_eq
   simp only [List.length_cons] at this h
   omega
theorem z9a {P : Nat → Value → Prop} {L : List (Int × Value)} {acc : Array Value} (h : ItemsOf P acc L.length)
  (hP : ∀ i v, P i v → ∃ e, L[i]? = some e ∧ v = e.2) : acc.toList = L.map (·.2) := by
 apply List.ext_getElem?
 intro i
 by_cases lt : i < L.length
 ·have lt' : i < acc.size := by rw [h.1]; exact lt
  obtain ⟨e, he, hv⟩ := hP i acc[i] (h.2 i acc[i] (Array.getElem?_eq_getElem lt'))
  rw [Array.getElem?_toList, Array.getElem?_eq_getElem lt', List.getElem?_map, he, hv]
  rfl
 ·rw [List.getElem?_eq_none (by rw [Array.length_toList, h.1]; omega), List.getElem?_eq_none (by rw [List.length_map]; omega)]
section
variable {prog : Program} {w : World} {A : Around} {E : Value → Shared → Prop} {s : Shared}
theorem zf3 {L : List (Int × Value)} {D : List Str} (he : ElemsOf (strKind prog w) L) (nd : D.Nodup)
  (hm : ∀ k, decide (k ∈ D) = true ↔ ∃ e ∈ L, (strKind prog w).is k e.2 = true) (hn : L.length = D.length) :
  ∃ ks, StrsAre (L.map (·.2)) ks ∧ ks.Perm D := by
 have is : ∀ (k : Str) (v : Value), (strKind prog w).is k v = true → ∃ t, v = .str k t := fun k v z => by
  cases v <;> first
   | (obtain rfl := (by simpa [strKind, Value.isInt, Value.isStrOf] using z : _ = k); exact ⟨_, rfl⟩)
   | cases z
 have ex : ∀ L : List (Int × Value), ElemsOf (strKind prog w) L → ∃ ks, StrsAre (L.map (·.2)) ks ∧ ∀ k e, e ∈ L → (strKind prog w).is k e.2 = true → k ∈ ks := by
  intro L
  induction L with
  | nil => exact fun _ => ⟨[], .nil, fun _ _ z => nomatch z⟩
  | cons e L ih =>
   intro he
   obtain ⟨ks, h1, h2⟩ := ih he.tail
   obtain ⟨k, hk, _⟩ := he.head.1
   obtain ⟨t, ht⟩ := is k e.2 hk
   refine ⟨k :: ks, ?_, fun k' e' m z => ?_⟩
   ·rw [List.map_cons, ht]; exact .cons k t h1
   ·rcases List.mem_cons.mp m with rfl | m
    ·rw [(strKind prog w).inj _ k' k z hk]; exact .head _
    ·exact .tail _ (h2 k' e' m z)
 obtain ⟨ks, h1, h2⟩ := ex L he
 refine ⟨ks, h1, z4o D ks nd (fun k hk => ?_) ?_⟩
 ·obtain ⟨e, m, z⟩ := (hm k).mp (decide_eq_true hk)
  exact h2 k e m z
 ·have := h1.length
  rw [List.length_map] at this
  omega
end
end PySem
end
section
namespace PySem
open PyProof.Rows (StrsAre)
section
variable {prog : Program} {w : World} {A : Around} {E : Value → Shared → Prop} {s : Shared}
theorem z9n {a : Addr} {D : List Str} {Q : List Value → Shared → Prop} (hh : A.handled = none) (nd : D.Nodup)
  (T : TextSet prog w s.heap a D (z19 w))
  (h : ∀ s' vs ks, StrsAre vs ks → ks.Perm D → (∀ b o, s.heap.get? b = some o → s'.heap.get? b = some o) → s'.gens = s.gens → s'.os = s.os →
   s.toks ≤ s'.toks → Q vs s') : wpAny (model prog w) A (collect (.ref a)) Q E s := by
 obtain ⟨o, es, ep, t, ho, hx, hd, he, hm, hb, hf, hn, hl, hp⟩ := T
 have la := Heap.lt_size ho
 unfold collect
 refine wpAny_bind (wpAny_runValue (codeAny_builtin F.entry_proto_collect ?_))
 rw [Around.under_plainId F.plain_proto_collect _]
 refine wpAny_bind (m := newList []) (wpAny_newObj_type ?_)
 refine wpAny_pure ⟨plainId_quiet F.plain_list_iadd _, codeAny_builtin F.entry_list_iadd ?_⟩
 rw [Around.under_plainId F.plain_list_iadd _]
 show wpAny _ A.in1 (Builtin.List.listExtendWith (.ref s.heap.objs.size) (.ref a) (.ref s.heap.objs.size)) _ _ _
 unfold Builtin.List.listExtendWith
 generalize hH : s.heap.push { cls := .type "list", data := .seq ([] : List Value).toArray } = H
 have ho1 : H.get? a = some o := by rw [← hH]; exact Heap.get?_push_of_some _ ho
 have gS : H.get? s.heap.objs.size = some { cls := .type "list", data := .seq #[] } := by rw [← hH]; exact Heap.get?_push_size _ rfl
 have zH : H.objs.size = s.heap.objs.size + 1 := by rw [← hH, Heap.size_push]
 have ty : Shared.TypeIs { s with heap := H } (.ref a) "set" := ⟨o, ho1, hx.1⟩
 refine wpAny_bind (wpAny_typeOf ty ?_)
 have h1 : Builtin.List.listSameRef (.ref s.heap.objs.size) (.ref a) = false := by
  simp only [Builtin.List.listSameRef, beq_eq_false_iff_ne]; exact Nat.ne_of_gt la
 have h2 : (Value.type "set" == Value.type "list") = false := by decide
 have h3 : (Value.type "set" == Value.type "tuple") = false := by decide
 simp only [h1, h2, h3, Bool.or_false, Bool.false_eq_true, if_false]
 have hz := fits_of_scanBound hb
 have fin : ∀ (s1 s' : Shared) (I : Addr) (P : Nat → Value → Prop) (L : List (Int × Value)) (acc : Array Value) (c : Nat),
   (∀ b o, H.get? b = some o → s1.heap.get? b = some o) → s1.gens = s.gens → s1.os = s.os → s1.toks = s.toks → s.heap.objs.size < I →
   L.Perm es.toList → (∀ i v, P i v → ∃ e, L[i]? = some e ∧ v = e.2) →
   Moved (s.heap.objs.size :: [I]) (fun x y => x = y) s1 s' → ItemsOf P acc es.size → Q acc.toList s' := by
  intro s1 s' I P L acc c k0 k1 k2 k3 k4 pr hP mv ii
  have len : L.length = es.size := by rw [pr.length_eq, Array.length_toList]
  rw [← len] at ii
  rw [z9a ii hP]
  have hm2 : ∀ k, decide (k ∈ D) = true ↔ ∃ e ∈ L, (strKind prog w).is k e.2 = true := fun k =>
   (hm k).trans ⟨fun ⟨e, q, z⟩ => ⟨e, pr.mem_iff.mpr q, z⟩, fun ⟨e, q, z⟩ => ⟨e, pr.mem_iff.mp q, z⟩⟩
  obtain ⟨ks, t1, t2⟩ := zf3 (he.perm pr) nd hm2 (len.trans hn)
  refine h s' _ ks t1 t2 (fun b o' e => ?_) (mv.gens.symm.trans k1) (mv.os.trans k2) (k3 ▸ mv.toks)
  have lb := Heap.lt_size e
  refine mv.heap b o' (fun m => ?_) (k0 b o' (by rw [← hH]; exact Heap.get?_push_of_some _ e))
  rcases List.mem_cons.mp m with q | m
  ·exact Nat.ne_of_lt lb q
  ·exact Nat.ne_of_lt (Nat.lt_trans lb k4) (List.mem_singleton.mp m)
 have h4 : A.in1.handled = none := by simp [hh]
 let K : Value → Shared → Prop := fun v s' => wpAny (model prog w) A (match v with
  | .ref a => do
   match (← load a).data with
   | .seq xs _ => pure xs.toList
   | _ => unsupported "internal:collect"
  | _ => unsupported "internal:collect") Q E s'
 have aS : s.heap.objs.size ≠ a := Nat.ne_of_gt la
 have laH : a < H.objs.size := Heap.lt_size ho1
 refine wpAny_bind (z7u ho1 hx hd hf hb ?_ ?_)
 ·intro w1 w2 w3 ps d pr
  have len : ps.length = es.size := by simpa using pr.length_eq
  have gT : ((H.push { cls := .type "tuple", data := .seq (ps.map fun (i : Nat) => rawInt i).toArray }).push (zw (.ref H.objs.size) 0 a es.size ep)).get? H.objs.size
    = some { cls := .type "tuple", data := .seq (ps.map fun (i : Nat) => rawInt i).toArray } := Heap.get?_push_of_some _ (Heap.get?_push_size _ rfl)
  have gI : ((H.push { cls := .type "tuple", data := .seq (ps.map fun (i : Nat) => rawInt i).toArray }).push (zw (.ref H.objs.size) 0 a es.size ep)).get? (H.objs.size + 1)
    = some (zw (.ref H.objs.size) 0 a es.size ep) := by
   have z2 : (H.push { cls := .type "tuple", data := .seq (ps.map fun (i : Nat) => rawInt i).toArray }).objs.size = H.objs.size + 1 := Heap.size_push ..
   rw [← z2]
   exact Heap.get?_push_size _ rfl
  have two : ∀ b o', H.get? b = some o' → ((H.push { cls := .type "tuple", data := .seq (ps.map fun (i : Nat) => rawInt i).toArray }).push (zw (.ref H.objs.size) 0 a es.size ep)).get? b = some o' :=
   fun b o' e => Heap.get?_push_of_some _ (Heap.get?_push_of_some _ e)
  have W := z70 (prog := prog) (w := w) (A := A.in1) h4 (I := H.objs.size + 1) (T := H.objs.size) (a := a) (o := o) (ps := ps) (nT := 0)
   (oT := { cls := .type "tuple", data := .seq (ps.map fun (i : Nat) => rawInt i).toArray }) hd hf rfl
   (Nat.ne_of_lt (Nat.lt_succ_of_lt laH)) (Nat.ne_of_lt (Nat.lt_succ_self _)) pr
  have out : s.heap.objs.size ∉ [H.objs.size + 1, a, H.objs.size] := by
   rw [zH]; intro m
   rcases List.mem_cons.mp m with q | m
   ·exact Nat.ne_of_lt (Nat.lt_succ_of_lt (Nat.lt_succ_self _)) q
   ·rcases List.mem_cons.mp m with q | m
    ·exact aS q
    ·exact Nat.ne_of_lt (Nat.lt_succ_self _) (List.mem_singleton.mp m)
  refine z1t (a := a) (R := wants K E) (b := _) W hz out ?_ (c := 0) ?_ ?_ ?_
  ·exact ⟨⟨_, gI, rfl, rfl⟩, two _ _ ho1, gT⟩
  ·exact two _ _ gS
  ·exact ⟨o, two _ _ ho1, hx.1⟩
  intro s' acc c' mv g ii
  show wpAny _ _ (load _ >>= _) _ _ _
  refine wpAny_bind (wpAny_load g (wpAny_pure ?_))
  refine fin { s with heap := (H.push { cls := .type "tuple", data := .seq (ps.map fun (i : Nat) => rawInt i).toArray }).push (zw (.ref H.objs.size) 0 a es.size ep), drawn := d } s' (H.objs.size + 1) _ (ps.map fun p => es.getD p default) acc c' two rfl rfl rfl (by rw [zH]; exact Nat.lt_succ_of_lt (Nat.lt_succ_self _)) ?_ ?_ mv ii
  ·refine (pr.map _).trans ?_
   have : (List.range es.size).map (fun p => es.getD p default) = es.toList := by
    apply List.ext_getElem?
    intro i
    by_cases lt : i < es.size
    ·simp [lt]
    ·simp [lt]
   rw [this]
  ·rintro i v ⟨p, e, hp', he', rfl⟩
   refine ⟨e, ?_, rfl⟩
   rw [List.getElem?_map, hp']
   obtain ⟨lt, q⟩ := Array.getElem?_eq_some_iff.mp he'
   simp [lt, q]
 ·intro w1
  have gI : (H.push (zw (.int 0 0) 0 a es.size ep)).get? H.objs.size = some (zw (.int 0 0) 0 a es.size ep) := Heap.get?_push_size _ rfl
  have one : ∀ b o', H.get? b = some o' → (H.push (zw (.int 0 0) 0 a es.size ep)).get? b = some o' := fun b o' e => Heap.get?_push_of_some _ e
  have out : s.heap.objs.size ∉ [H.objs.size, a] := by
   rw [zH]; intro m
   rcases List.mem_cons.mp m with q | m
   ·exact Nat.ne_of_lt (Nat.lt_succ_self _) q
   ·exact aS (List.mem_singleton.mp m)
  have lI : s.heap.objs.size < H.objs.size := by rw [zH]; exact Nat.lt_succ_self _
  cases hw : w.params.followText "set-order" with
  | true =>
   have W := z7v (prog := prog) (A := A.in1) h4 hw (I := H.objs.size) (a := a) (o := o) hd hf (Nat.ne_of_lt laH)
   refine z1t (a := a) (R := wants K E) (b := _) W hz out ?_ (c := 0) ?_ ?_ ?_
   ·exact ⟨⟨_, gI, rfl, rfl⟩, one _ _ ho1⟩
   ·exact one _ _ gS
   ·exact ⟨o, one _ _ ho1, hx.1⟩
   intro s' acc c' mv g ii
   show wpAny _ _ (load _ >>= _) _ _ _
   refine wpAny_bind (wpAny_load g (wpAny_pure ?_))
   refine fin { s with heap := H.push (zw (.int 0 0) 0 a es.size ep) } s' H.objs.size _ (pickOrder (w.params.setOrder a ep) es).toList acc c' one rfl rfl rfl lI (z2t _ _) ?_ mv ii
   rintro i v ⟨e, q, rfl⟩
   exact ⟨e, by rw [Array.getElem?_toList]; exact q, rfl⟩
  | false =>
   have small : es.size ≤ 1 := by
    rcases w1 with q | q | q
    ·rw [hw] at q; cases q
    ·by_cases z : es.size = 0
     ·omega
     ·rw [hp z] at q; cases q
    ·exact q
   have W := zdy (prog := prog) (A := A.in1) h4 hw (I := H.objs.size) (a := a) (o := o) hd hf small (hl.trans (by simp [z19, hw])) (Nat.ne_of_lt laH)
   refine z1t (a := a) (R := wants K E) (b := _) W hz out ?_ (c := 0) ?_ ?_ ?_
   ·exact ⟨⟨_, gI, rfl, rfl⟩, one _ _ ho1⟩
   ·exact one _ _ gS
   ·exact ⟨o, one _ _ ho1, hx.1⟩
   intro s' acc c' mv g ii
   show wpAny _ _ (load _ >>= _) _ _ _
   refine wpAny_bind (wpAny_load g (wpAny_pure ?_))
   refine fin { s with heap := H.push (zw (.int 0 0) 0 a es.size ep) } s' H.objs.size _ es.toList acc c' one rfl rfl rfl lI (.refl _) ?_ mv ii
   rintro i v ⟨e, q, rfl⟩
   exact ⟨e, by rw [Array.getElem?_toList]; exact q, rfl⟩
end
end PySem
end
section
namespace PySem
open PyProof.Rows
section
variable {prog : Program} {w : World} {A : Around} {E : Value → Shared → Prop} {s : Shared}
theorem z8j {a : Addr} {D : List Str} {Q : Value → Shared → Prop} (hh : A.handled = none) (nd : D.Nodup) (h64 : D.length < 64)
  (T : TextSet prog w s.heap a D (z19 w))
  (h : ∀ s' l vs ks e, StrsAre vs ks → ks.Perm D → sortedS ks = true → (∀ b o, s.heap.get? b = some o → s'.heap.get? b = some o ∧ b ≠ l) →
   s'.heap.get? l = some (seqObj "list" vs.toArray e) → s.heap.get? l = none → s'.gens = s.gens → s'.os = s.os → s.toks ≤ s'.toks → Q (.ref l) s') :
  wpAny (model prog w) A (call (.builtin "sorted") [.ref a]) Q E s := by
 refine Calls.call_function_entry kind_sorted plain_sorted entry_sorted (args_sorted1 _) ?_
 unfold Builtin.«sorted»
 refine wpAny_bind (m := checkCount "sorted" 1 1 _) (wpAny_pure ?_)
 refine wpAny_bind (z9n (by simpa using hh) nd T fun s1 vs ks t1 t2 k0 k1 k2 k3 => ?_)
 have v64 : vs.length < 64 := by rw [t1.length, t2.length_eq]; exact h64
 have fit : vs.length ≤ sizeLine := Nat.le_trans (Nat.le_of_lt v64) (by decide)
 refine wpAny_bind (wpAny_newList ?_ fit)
 have hS := Heap.get?_push_size (h := s1.heap) (o := seqObj "list" vs.toArray 0) rfl
 refine wpAny_bind (wpAny_holding (wpAny_call_entry slot_list_sort ⟨_, hS, rfl⟩ entry_list_sort
  (list_sort_treeK strKind_oneLt hS t1.keysOf (fun v₁ v₂ rest e => keyKind_strs (by rw [← e]; exact t1)) v64 fun st' a1 a2 => ⟨_, rfl, ?_⟩) (args_list_sort _)))
 obtain ⟨ks', u1, u2, u3⟩ := sorted_out_str t1 a1 a2
 refine wpAny_pure ⟨_, rfl, ?_⟩
 obtain ⟨e, ge⟩ := sortedHeap_at (out := (arrOf st').map (·.2)) hS
 refine h _ s1.heap.objs.size ((arrOf st').map (·.2)).toList ks' e u1 (u2.trans t2) u3 (fun b o q => ?_) ?_ ?_ k1 k2 k3
 ·have lb := Heap.lt_size (k0 b o q)
  refine ⟨?_, Nat.ne_of_lt lb⟩
  refine (sortedHeap_old (Nat.ne_of_lt lb) ?_).trans (Heap.get?_push_of_some _ (k0 b o q))
  rw [Heap.size_push]; exact Nat.lt_succ_of_lt lb
 ·exact ge
 ·cases z : s.heap.get? s1.heap.objs.size with
  | none => rfl
  | some o => exact absurd (Heap.lt_size (k0 _ o z)) (Nat.lt_irrefl _)
end
end PySem
end
section
namespace L2
open PySem PySem.Spec PyProof.Rows
def tso (P : Program) (w : World) (a : Addr) (D : List Str) : HO := .ext fun h => TextSet P w h a D (z19 w)
theorem zh9 {P : Program} {w : World} {H : Hp} {h : Heap} {a : Addr} {D : List Str} (T : TextSet P w h a D (z19 w)) : ObjOk P w H h a (tso P w a D) := by
 refine ⟨T, ?_, fun h1 h2 t k => TextSet.keep t k⟩
 obtain ⟨o, es, ep, t, ho, _⟩ := T
 exact ⟨o, ho⟩
theorem zbo : ∀ {ss : List Str} {us : List Value}, Vals (ss.map V.str) us → StrsAre us ss
 | [], _, h => by cases h; exact .nil
 | s :: ss, _, h => by
  cases h with
  | cons h1 t =>
   obtain ⟨k, rfl⟩ := h1
   exact .cons s k (zbo t)
theorem zbp : ∀ {us : List Value} {ss : List Str}, StrsAre us ss → Vals (ss.map V.str) us
 | _, _, .nil => .nil
 | _, _, .cons y t r => .cons ⟨t, rfl⟩ (zbp r)
theorem z71 {P : Program} {w : World} {H : Hp} {h : Heap} {a : Addr} {o : HO} (x : ObjOk P w H h a o) : ∃ u, h.get? a = some u := by
 cases o with
 | lst xs => obtain ⟨_, _, _, _, e⟩ := x; exact ⟨_, e⟩
 | tup xs => obtain ⟨_, _, _, _, e, _⟩ := x; exact ⟨_, e⟩
 | dK kvs => obtain ⟨_, _, _, _, _, _, _, e, _⟩ := x; exact ⟨_, e⟩
 | dT kvs => obtain ⟨_, _, _, _, _, _, _, e, _⟩ := x; exact ⟨_, e⟩
 | set S n => obtain ⟨_, _, _, _, e, _⟩ := x; exact ⟨_, e⟩
 | ins C dx fs => obtain ⟨_, _, _, e, _⟩ := x; exact ⟨_, e⟩
 | own y => obtain ⟨_, e⟩ := x; exact ⟨_, e⟩
 | xd fs => obtain ⟨_, ⟨_, _, _, e, _⟩, _⟩ := x; exact ⟨_, e⟩
 | rng lo hi => obtain ⟨_, _, _, e⟩ := x; exact ⟨_, e⟩
 | frz ob u => obtain ⟨e, _⟩ := x; exact ⟨_, e⟩
 | tbl ps => exact ⟨_, show h.get? a = some _ from x⟩
 | met f y => exact ⟨_, show h.get? a = some _ from x⟩
 | ext φ => obtain ⟨_, ⟨_, e⟩, _⟩ := x; exact ⟨_, e⟩
section
variable {X : Cx}
theorem zdz (hc : X.calm = true) : CallR X (.type "set") (fun xs H Q => ∃ p ss, xs = [.ref p] ∧ SqL X.K H p ((ss : List Str).map V.str) ∧ ss.length + 1 < scanBound ∧ ∀ d, H d = none → Q (.ref d) (upd H d (tso X.prog X.w d (z1j ss)))) := by
 intro pins s σ H xs us Q I r h
 obtain ⟨p, ss, rfl, hp, hb, q⟩ := h
 obtain ⟨u, rfl, ru⟩ := z56 r
 cases ru
 obtain ⟨its, r1, pl, hz⟩ := I.list hp
 refine z8g (ss := ss) (I.ok.hd hc) pl.isList (by simpa using zbo r1) hb fun h' tk T ht hk => ?_
 exact ⟨.ref _, _, I.laid (t' := tk) hk (Nat.le_refl _) (zh9 T), rfl, q _ I.fresh⟩
theorem zak (hc : X.calm = true) : CallR X (.builtin "sorted") (fun xs H Q => ∃ a D, xs = [.ref a] ∧ H a = some (tso X.prog X.w a D) ∧ D.Nodup ∧ D.length < 64 ∧ ∀ l ks, H l = none → ks.Perm D → sortedS ks = true → Q (.ref l) (upd H l (.lst ((ks : List Str).map V.str)))) := by
 intro pins s σ H xs us Q I r h
 obtain ⟨a, D, rfl, ha, nd, h64, q⟩ := h
 obtain ⟨u, rfl, ru⟩ := z56 r
 cases ru
 obtain ⟨T, -, -⟩ := (show ObjOk X.prog X.w H s.heap a (tso X.prog X.w a D) from I.hok a _ ha)
 refine z8j (I.ok.hd hc) nd h64 T fun s' l vs ks e t1 t2 t3 hk hl hn hg ho ht => ?_
 have hz : (ks.map V.str).length ≤ sizeLine := by
  rw [List.length_map, t2.length_eq]; exact Nat.le_trans (Nat.le_of_lt h64) (by decide)
 have k : ∀ b u, s.heap.get? b = some u → s'.heap.get? b = some u := fun b u e => (hk b u e).1
 have hHl : H l = none := by
  cases z : H l with
  | none => rfl
  | some o =>
   obtain ⟨u, hu⟩ := z71 (I.hok l o z)
   exact absurd rfl (hk l u hu).2
 have un : Un (frs X.stack) [] H (upd H l (.lst (ks.map V.str))) s.heap s'.heap := by
  refine ⟨fun b u z _ _ _ => k b u z, fun b u z _ _ _ => ⟨u.slots, k b u z⟩, fun b u z n _ => ?_, fun b u z _ => ⟨u, k b u z⟩, fun b ys z => ?_, fun b u ys z => ?_, fun b ps z => ⟨#[], ?_⟩⟩
  ·rw [zb (hk b u z).2]; exact n
  ·rw [zb (zh z hHl)]; exact z
  ·rw [zb (zh z hHl)]; exact z
  ·rw [zb (zh z hHl), z]; simp
 have hok : HOk X.prog X.w (upd H l (.lst (ks.map V.str))) s'.heap := fun b u e' => by
  by_cases hb : b = l
  ·subst hb; rw [z9] at e'; cases e'
   exact ⟨hz, vs, e, zbp t1, hl⟩
  ·rw [zb hb] at e'
   exact (I.hok b u e').stay (fun c v _ q => k c v q) (fun c q => by rw [zb (zh q hHl)]; exact q) fun c xs q => by rw [zb (zh q hHl)]; exact q
 exact ⟨.ref l, _, I.call' ho un hok (by rw [hg]; exact I.bare) (fun b z => absurd z (by simp)), rfl, q l ks hHl t2 t3⟩
end
end L2
end
section
namespace L2
open PySem PySem.Spec PyProof.Rows
theorem MHas.never {P : Program} {w : World} {K : PySem.W.Frag} {mg : Str → Option Value} {base : Heap} {k : Nat} {C : Addr} {m : Str} {ps : List Str} {sp : Sp} (G : MHas P w K mg base (CX1 P w) k C m ps sp) : MHas P w K mg base CX0 k C m ps (fun vs H Q _ => sp vs H Q E0) := by
 obtain ⟨f, fd, F, hm, hb⟩ := G
 refine ⟨f, fd, ⟨fun vs H Q E h => F.len vs H Q E0 h, fun A outer s H args us vs Q E hr he hb hv hs => codeAny_mono (F.run A outer s H args us vs Q E0 hr he hb hv hs) fun r s' h => ?_⟩, hm, hb⟩
 cases r with
 | error e =>
  obtain ⟨_, _, _, _, _, _, _, _, _, _, _, _, _, z⟩ := h
  exact z
 | ok fl => cases fl <;> exact h
section
variable {X : Cx}
theorem PS.nox {st : Stmt} {t : TS} (h : PS X.nox st t) : PS X st t := fun pins s σ H D I hw =>
 wpAny_mono (h pins s σ H D (I.wish _) hw) (fun _ _ q => q.unwish) fun _ _ z => False.elim z
end
end L2
end
section
namespace L2
open PySem PySem.Spec PyProof.Rows
theorem zal : ∀ {us : List Value} {ns : List Int}, IntsAre us ns → Vals (ns.map V.int) us
 | _, _, .nil => .nil
 | _, _, .cons y t r => .cons ⟨t, rfl⟩ (zal r)
section
variable {X : Cx}
end
end L2
end
section
namespace PySem
open SetTable
def Rise (t : SetTable) : Prop := t.place.toList.Pairwise (· < ·) ∧ t.dummies = #[]
theorem z7a {xs : Array Nat} {j : Nat} (hr : xs.toList.Pairwise (· < ·)) : ∀ (fuel lo hi : Nat), lo ≤ hi → hi ≤ xs.size → hi - lo ≤ fuel → (∀ k, k < lo → xs.getD k j < j) → (∀ k, hi ≤ k → k < xs.size → j ≤ xs.getD k j) →
  below.go xs j fuel lo hi ≤ xs.size ∧ (∀ k, k < below.go xs j fuel lo hi → xs.getD k j < j) ∧ ∀ k, below.go xs j fuel lo hi ≤ k → k < xs.size → j ≤ xs.getD k j
 | 0, lo, hi, h1, h2, h3, h4, h5 => ⟨by show lo ≤ _; omega, h4, fun k hk hs => h5 k (by have : lo ≤ k := hk; omega) hs⟩
 | fuel + 1, lo, hi, h1, h2, h3, h4, h5 => by
  have up : ∀ a b, a < b → b < xs.size → xs.getD a j < xs.getD b j := fun a b hab hb => by
   have := List.pairwise_iff_getElem.mp hr a b (by simpa using (by omega : a < xs.size)) (by simpa using hb) hab
   simpa [Array.getD, hb, (by omega : a < xs.size)] using this
  unfold below.go
  by_cases c : lo < hi
  ·rw [if_pos c]
   dsimp only
   by_cases d : xs.getD ((lo + hi) / 2) j < j
   ·rw [if_pos d]
    refine z7a hr fuel _ hi (by omega) h2 (by omega) (fun k hk => ?_) h5
    by_cases e : k = (lo + hi) / 2
    ·rw [e]; exact d
    ·have := up k ((lo + hi) / 2) (by omega) (by omega)
     omega
   ·rw [if_neg d]
    refine z7a hr fuel lo _ (by omega) (by omega) (by omega) h4 (fun k hk hs => ?_)
    by_cases e : k = (lo + hi) / 2
    ·rw [e]; omega
    ·have := up ((lo + hi) / 2) k (by omega) hs
     omega
  ·rw [if_neg c]
   exact ⟨by omega, h4, fun k hk hs => h5 k (by omega) hs⟩
theorem z5e {xs : Array Nat} (j : Nat) (hr : xs.toList.Pairwise (· < ·)) : below xs j ≤ xs.size ∧ (∀ k, k < below xs j → xs.getD k j < j) ∧ ∀ k, below xs j ≤ k → k < xs.size → j ≤ xs.getD k j :=
 z7a hr _ 0 _ (Nat.zero_le _) (Nat.le_refl _) (by omega) (fun k hk => by omega) fun k hk hs => by omega
theorem Rise.up {t : SetTable} (h : Rise t) {a b : Nat} (hab : a < b) (hb : b < t.place.size) (d : Nat) : t.place.getD a d < t.place.getD b d := by
 have := List.pairwise_iff_getElem.mp h.1 a b (by simpa using (by omega : a < t.place.size)) (by simpa using hb) hab
 simpa [Array.getD, hb, (by omega : a < t.place.size)] using this
theorem Rise.free {t : SetTable} (h : Rise t) {j : Nat} (e : t.slot j = .empty) : j ∉ t.place.toList := fun hm => by
 obtain ⟨b1, b2, b3⟩ := z5e j h.1
 obtain ⟨k, hk, ek⟩ := List.getElem_of_mem hm
 have hk' : k < t.place.size := by simpa using hk
 have gk : t.place.getD k j = j := by simpa [Array.getD, hk'] using ek
 have k1 : below t.place j ≤ k := Nat.le_of_not_lt fun z => by have := b2 k z; omega
 have e2 : below t.place j = k := by
  by_cases z : below t.place j < k
  ·have := b3 (below t.place j) (Nat.le_refl _) (by omega)
   have := h.up z hk' j
   omega
  ·omega
 unfold SetTable.slot at e
 dsimp only at e
 rw [e2, Array.getElem?_eq_getElem hk'] at e
 have : t.place[k] = j := by simpa using ek
 rw [this] at e
 simp at e
theorem zam (j : Nat) : has #[] j = false := by unfold has; simp
theorem z7w {t : SetTable} (h : Rise t) {f : Nat → Int} {hh : Int} : ∀ (fuel : Nat) (p : Probe), p.dummy = none → ∀ j d, probe.go t f hh fuel p = some (.empty j d) → t.slot j = .empty ∧ d = none
 | 0, p, hp, j, d, e => by unfold probe.go at e; cases e
 | fuel + 1, p, hp, j, d, e => by
  unfold probe.go at e
  have ad : ∀ q : Probe, (t.advance q).dummy = q.dummy := fun q => by unfold SetTable.advance; split <;> rfl
  cases es : t.slot p.j with
  | empty =>
   rw [es] at e
   dsimp only at e
   cases e
   exact ⟨es, hp⟩
  | dummy =>
   exfalso
   unfold SetTable.slot at es
   dsimp only at es
   rw [h.2, zam] at es
   split at es <;> simp at es
  | live i =>
   rw [es] at e
   dsimp only at e
   split at e
   ·cases e
   ·exact z7w h fuel _ (by rw [ad]; exact hp) j d e
theorem Rise.put {t : SetTable} (h : Rise t) {j : Nat} (hj : j ∉ t.place.toList) : Rise (t.put j).1 := by
 obtain ⟨b1, b2, b3⟩ := z5e j h.1
 refine ⟨?_, ?_⟩
 ·show (insertAt t.place (below t.place j) j).toList.Pairwise (· < ·)
  have e : (insertAt t.place (below t.place j) j).toList = t.place.toList.take (below t.place j) ++ ([j] ++ t.place.toList.drop (below t.place j)) := by
   unfold insertAt
   simp
   exact List.take_of_length_le (by simp)
  rw [e]
  have hp := h.1
  rw [← List.take_append_drop (below t.place j) t.place.toList] at hp
  obtain ⟨p1, p2, p3⟩ := List.pairwise_append.mp hp
  have lo : ∀ a ∈ t.place.toList.take (below t.place j), a < j := fun a ha => by
   obtain ⟨k, hk, ek⟩ := List.getElem_of_mem ha
   rw [List.length_take] at hk
   have hk' : k < t.place.size := by have := Nat.min_le_right (below t.place j) t.place.toList.length; simp at this; simp at hk; omega
   have := b2 k (by omega)
   rw [List.getElem_take] at ek
   have e2 : t.place.getD k j = a := by simpa [Array.getD, hk'] using ek
   omega
  have hi : ∀ b ∈ t.place.toList.drop (below t.place j), j < b := fun b hb => by
   have hb' := List.mem_of_mem_drop hb
   obtain ⟨k, hk, ek⟩ := List.getElem_of_mem hb
   rw [List.length_drop] at hk
   rw [List.getElem_drop] at ek
   have hk' : below t.place j + k < t.place.size := by simp at hk; omega
   have := b3 (below t.place j + k) (by omega) hk'
   have e2 : t.place.getD (below t.place j + k) j = b := by simpa [Array.getD, hk'] using ek
   have ne : b ≠ j := fun z => hj (z ▸ hb')
   omega
  refine List.pairwise_append.mpr ⟨p1, List.pairwise_append.mpr ⟨List.pairwise_singleton _ _, p2, fun a ha b hb => ?_⟩, fun a ha b hb => ?_⟩
  ·rw [List.mem_singleton.mp ha]; exact hi b hb
  ·rcases List.mem_append.mp hb with hb | hb
   ·rw [List.mem_singleton.mp hb]; exact lo a ha
   ·exact p3 a ha b hb
 ·show (if has t.dummies j = true then _ else t.dummies) = #[]
  rw [h.2, zam, if_neg Bool.false_ne_true]
theorem Rise.standIn (t : SetTable) (n : Nat) : Rise (t.standIn n) := ⟨by show (Array.range n).toList.Pairwise _; rw [Array.toList_range]; exact List.pairwise_lt_range, rfl⟩
theorem Rise.orStandIn {t : SetTable} (h : Rise t) (n : Nat) : Rise (t.orStandIn n) := by
 unfold SetTable.orStandIn
 split
 ·exact h
 ·exact Rise.standIn t n
theorem Rise.layNew {t : SetTable} (h : Rise t) (es : Array (Int × Value)) (hh : Int) (x : Value) : Rise (layNew t es hh x).2.1 := by
 unfold PySem.layNew
 cases e : t.freeSlot hh with
 | none => exact Rise.standIn t _
 | some r =>
  obtain ⟨sl, wd⟩ := r
  refine Rise.orStandIn (h.put ?_) _
  unfold SetTable.freeSlot at e
  split at e
  ·rename_i j d ep
   obtain ⟨f1, rfl⟩ := z7w h _ _ rfl j d ep
   simp at e
   rw [← e.1]
   exact h.free f1
  ·cases e
theorem Rise.laid {mask finger moves : Nat} {led plain : Bool} {hs : Array Int} {r : SetTable × Array Nat} (e : SetTable.laid mask finger moves led plain hs = some r) : Rise r.1 := by
 unfold SetTable.laid at e
 simp only [Option.bind_eq_bind, Option.bind_eq_some_iff, Option.some.injEq, Option.pure_def] at e
 obtain ⟨o, _, rfl⟩ := e
 refine ⟨?_, rfl⟩
 dsimp only
 rw [List.pairwise_map]
 refine List.Pairwise.filterMap (fun j => (o.getD j none).map (j, ·)) (R := fun a b : Nat => a < b) (fun a a' haa b hb b' hb' => ?_) List.pairwise_lt_range
 simp only [Option.mem_def, Option.map_eq_some_iff] at hb hb'
 obtain ⟨_, _, rfl⟩ := hb
 obtain ⟨_, _, rfl⟩ := hb'
 exact haa
theorem Rise.relayAll (t : SetTable) (es : Array (Int × Value)) (n : Nat) : Rise (relayAll t es n).2.1 := by
 unfold PySem.relayAll
 split
 ·rename_i e
  dsimp only
  split
  ·unfold SetTable.relaid at e
   exact Rise.laid e
  ·exact Rise.standIn _ _
 ·exact Rise.standIn _ _
def z1e (t : SetTable) (i : Nat) : Nat := if i = 0 then 0 else t.place.getD (i - 1) 0 + 1
theorem z61 {t : SetTable} (h : Rise t) {i : Nat} (hi : i ≤ t.place.size) : below t.place (z1e t i) = i := by
 obtain ⟨b1, b2, b3⟩ := z5e (z1e t i) h.1
 have gd : ∀ k d d', k < t.place.size → t.place.getD k d = t.place.getD k d' := fun k d d' hk => by simp [Array.getD, hk]
 have hlt : ∀ k, k < i → t.place.getD k (z1e t i) < z1e t i := fun k hk => by
  unfold z1e
  rw [if_neg (by omega), gd k _ 0 (by omega)]
  by_cases e : k = i - 1
  ·rw [e]; omega
  ·have := h.up (a := k) (b := i - 1) (by omega) (by omega) 0
   omega
 have hge : ∀ k, i ≤ k → k < t.place.size → z1e t i ≤ t.place.getD k (z1e t i) := fun k hk hs => by
  rw [gd k _ 0 hs]
  unfold z1e
  by_cases e : i = 0
  ·rw [if_pos e]; omega
  ·rw [if_neg e]
   have := h.up (a := i - 1) (b := k) (by omega) hs 0
   omega
 apply Nat.le_antisymm
 ·refine Nat.le_of_not_lt fun z => ?_
  have := b2 i z
  have := hge i (Nat.le_refl _) (by omega)
  omega
 ·refine Nat.le_of_not_lt fun z => ?_
  have := b3 (below t.place (z1e t i)) (Nat.le_refl _) (by omega)
  have := hlt (below t.place (z1e t i)) z
  omega
end PySem
end
section
namespace PySem
section
variable {κ : Type} [DecidableEq κ]
def z24 (D : List κ) (v : κ) : List κ := if v ∈ D then D else D ++ [v]
def gAll (ss : List κ) : List κ := ss.foldl z24 []
theorem z9b (D : List κ) (v k : κ) : k ∈ z24 D v ↔ k ∈ D ∨ k = v := by
 unfold z24; split
 ·rename_i h
  exact ⟨.inl, fun o => o.elim id fun e => e ▸ h⟩
 ·simp
theorem zbb {D : List κ} (h : D.Nodup) (v : κ) : (z24 D v).Nodup := by
 unfold z24; split
 ·exact h
 ·rename_i hv
  refine List.nodup_append.mpr ⟨h, by simp, ?_⟩
  intro a ha b hb e
  simp at hb; subst hb; subst e; exact hv ha
theorem z9c : ∀ (ss D : List κ) (k : κ), k ∈ ss.foldl z24 D ↔ k ∈ D ∨ k ∈ ss
 | [], D, k => by simp
 | v :: ss, D, k => by
  rw [List.foldl_cons, z9c ss, z9b]; simp [or_assoc]
theorem z72 : ∀ (ss D : List κ), D.Nodup → (ss.foldl z24 D).Nodup
 | [], D, h => h
 | v :: ss, D, h => z72 ss _ (zbb h v)
theorem zf4 (ss : List κ) (k : κ) : k ∈ gAll ss ↔ k ∈ ss := by
 rw [gAll, z9c]; simp
theorem z7x (ss : List κ) : (gAll ss).Nodup := z72 ss [] .nil
theorem zan (D : List κ) (v : κ) : (z24 D v).length = if decide (v ∈ D) = true then D.length else D.length + 1 := by
 unfold z24; by_cases h : v ∈ D <;> simp [h]
theorem zao : ∀ (ss D : List κ), (ss.foldl z24 D).length ≤ D.length + ss.length
 | [], D => by simp
 | v :: ss, D => by
  have := zao ss (z24 D v)
  have h2 := zan D v
  rw [List.foldl_cons, List.length_cons]
  split at h2 <;> omega
theorem zbq (ss : List κ) : (gAll ss).length ≤ ss.length := by have := zao ss []; simpa [gAll] using this
theorem ze0 (ss : List κ) (i : Nat) (h : i < ss.length) : gAll (ss.take (i + 1)) = z24 (gAll (ss.take i)) ss[i] := by
 unfold gAll; rw [List.take_succ_eq_append_getElem h, List.foldl_append]; rfl
end
def ESet {prog : Program} {w : World} {κ : Type} [DecidableEq κ] (knd : KeyKind prog w κ) (h : Heap) (a : Addr) (D : List κ) (led : Bool) : Prop :=
 ∃ o es ep t, h.get? a = some o ∧ o.ExactSet ∧ o.data = .set es ep t ∧ ElemsOf knd es.toList ∧
  (∀ k, decide (k ∈ D) = true ↔ ∃ e ∈ es.toList, knd.is k e.2 = true) ∧
  es.size < scanBound ∧ t.fits es.size = true ∧ es.size = D.length ∧ t.led = led ∧ Rise t
section
variable {prog : Program} {w : World} {κ : Type} [DecidableEq κ] {knd : KeyKind prog w κ} {A : Around} {E : Value → Shared → Prop} {s : Shared}
theorem ESet.keep {h h' : Heap} {a : Addr} {D : List κ} {led : Bool} (T : ESet knd h a D led)
  (e : ∀ o, h.get? a = some o → h'.get? a = some o) : ESet knd h' a D led := by
 obtain ⟨o, es, ep, t, ho, more⟩ := T
 exact ⟨o, es, ep, t, e o ho, more⟩
theorem z62 {g : Bool → Sem Unit} (hg : ∀ (b : Bool) (s₁ : Shared) (Q' : Unit → Shared → Prop), Q' () s₁ → wpAny (model prog w) A (g b) Q' E s₁)
  {a : Addr} {o : Obj} {es : Array (Int × Value)} {ep : Nat} {t : SetTable} (ho : s.heap.get? a = some o) (hx : o.ExactSet)
  (hd : o.data = .set es ep t) {e1 : Array (Int × Value)} {t1 : SetTable} {D : List κ}
  (he : ElemsOf knd e1.toList) (hm : ∀ k, decide (k ∈ D) = true ↔ ∃ e ∈ e1.toList, knd.is k e.2 = true)
  (hb : e1.size < scanBound) (hf : t1.fits e1.size = true) (hn : e1.size = D.length) (hp : Rise t1)
  {was : Bool} {R : Option Bool → Shared → Prop}
  (h : ∀ h', Heap.SameBut a s.heap h' → ESet knd h' a D t1.led → R (some true) { s with heap := h' }) :
  wpAny (model prog w) A (do
   storeSet a e1 t1
   if (!was && t1.tooFull) = true then do
    g (relayAll t1 e1 (SetTable.grown e1.size)).2.2
    storeSet a (relayAll t1 e1 (SetTable.grown e1.size)).1 (relayAll t1 e1 (SetTable.grown e1.size)).2.1
    pure (some true)
   else pure (some true)) R E s := by
 refine wpAny_bind (wpAny_storeSet_of ho hd ?_ (fits_of_scanBound hb))
 obtain ⟨g1, _⟩ := SetOf_store (knd := knd) ho hx hd he hm hb hf
 have b1 := Heap.SameBut.update s.heap a (Obj.putSet e1 t1)
 split
 ·have pr := relayAll_perm t1 e1 (SetTable.grown e1.size)
  have fr := relayAll_fits t1 e1 (SetTable.grown e1.size)
  have lr := z5y t1 e1 (SetTable.grown e1.size)
  have rr := Rise.relayAll t1 e1 (SetTable.grown e1.size)
  generalize relayAll t1 e1 (SetTable.grown e1.size) = L at pr fr lr rr ⊢
  obtain ⟨e2, t2, gave⟩ := L
  dsimp only at pr fr lr rr ⊢
  have sz : e2.size = e1.size := by rw [← Array.length_toList, pr.length_eq, Array.length_toList]
  have hm2 : ∀ k, decide (k ∈ D) = true ↔ ∃ e ∈ e2.toList, knd.is k e.2 = true := fun k =>
   (hm k).trans ⟨fun ⟨e, q, z⟩ => ⟨e, pr.mem_iff.mpr q, z⟩, fun ⟨e, q, z⟩ => ⟨e, pr.mem_iff.mp q, z⟩⟩
  refine wpAny_bind (hg _ _ _ ?_)
  refine wpAny_bind (wpAny_storeSet_of g1 rfl ?_ (fits_of_scanBound (by rw [sz]; exact hb)))
  obtain ⟨g2, _⟩ := SetOf_store (knd := knd) g1 hx rfl (he.perm pr) hm2 (by rw [sz]; exact hb) fr
  refine wpAny_pure (h _ (b1.trans (Heap.SameBut.update _ a _)) ⟨_, e2, _, t2, g2, hx, rfl, he.perm pr, hm2, by rw [sz]; exact hb, fr, sz.trans hn, lr.1, rr⟩)
 ·exact wpAny_pure (h _ b1 ⟨_, e1, _, t1, g1, hx, rfl, he, hm, hb, hf, hn, rfl, hp⟩)
theorem zf5 {a : Addr} {D : List κ} {led : Bool} {k : κ} {v : Value} {Q : Bool → Shared → Prop} (T : ESet knd s.heap a D led) (is : knd.is k v = true) (hsc : v.scannable = true)
  (room : D.length + 1 < scanBound)
  (h : ∀ h' b, Heap.SameBut a s.heap h' → ESet knd h' a (z24 D k) led → Q b { s with heap := h' }) :
  wpAny (model prog w) A (setAddHashed a v (knd.hash k)) Q E s := by
 obtain ⟨o, es, ep, t, ho, hx, hd, he, hm, hb, hf, hn, hl, hp⟩ := T
 unfold setAddHashed setAddHashedIn
 refine wpAny_holding (wpAny_bind (wpAny_setState_of ho hd hf ?_))
 dsimp only
 rw [byScan_of hsc hb he]
 simp only [↓reduceIte]
 unfold setAddByScan
 refine wpAny_bind ?_
 refine wpAny_bind (wpAny_rule ?_)
 refine wpAny_bind (wpAny_setScan_of is ho hd hf he ?_)
 cases hr : List.findIdx? (fun e => knd.is k e.2) es.toList with
 | some j =>
  dsimp only
  obtain ⟨hj, pj, _⟩ := List.findIdx?_eq_some_iff_getElem.mp hr
  have xin : k ∈ D := of_decide_eq_true ((hm k).mpr ⟨es.toList[j], List.getElem_mem hj, pj⟩)
  have same : z24 D k = D := if_pos xin
  refine wpAny_pure (wpAny_pure ?_)
  have := h s.heap false (Heap.SameBut.refl a s.heap) (by rw [same]; exact ⟨o, es, ep, t, ho, hx, hd, he, hm, hb, hf, hn, hl, hp⟩)
  cases s; exact this
 | none =>
  dsimp only
  have xout : k ∉ D := fun q => by
   obtain ⟨e, qe, z⟩ := (hm k).mp (decide_eq_true q)
   have := List.findIdx?_eq_none_iff.mp hr e qe
   rw [z] at this; cases this
  have grow : z24 D k = D ++ [k] := if_neg xout
  have pr := layNew_perm t es (knd.hash k) v
  have fr := layNew_fits t es (knd.hash k) v
  have lr := z7r t es (knd.hash k) v
  have rr := hp.layNew es (knd.hash k) v
  generalize layNew t es (knd.hash k) v = L at pr fr lr rr ⊢
  obtain ⟨e1, t1, was, gave⟩ := L
  dsimp only at pr fr lr rr ⊢
  rw [Array.toList_push] at pr
  have he1 : ElemsOf knd e1.toList := (he.push is hsc).perm pr
  have hm1 : ∀ k1, decide (k1 ∈ z24 D k) = true ↔ ∃ e ∈ e1.toList, knd.is k1 e.2 = true := fun k1 => by
   rw [← mem_push_iff is hm pr k1, ← Bool.decide_or, decide_eq_true_eq, decide_eq_true_eq]
   exact z9b D k k1
  have sz : e1.size = es.size + 1 := by rw [← Array.length_toList, pr.length_eq, List.length_append, Array.length_toList]; rfl
  have hn1 : e1.size = (z24 D k).length := by rw [sz, grow, List.length_append, hn]; rfl
  have hb1 : e1.size < scanBound := by rw [sz, hn]; exact room
  have gw : ∀ (b : Bool) (s₁ : Shared) (Q' : Unit → Shared → Prop), Q' () s₁ →
    wpAny (model prog w) A (match b with | true => rule "set.scan.the-table-gave-way" | false => pure ()) Q' E s₁ := fun b s₁ Q' q => by
   cases b
   ·exact wpAny_pure q
   ·exact wpAny_rule q
  refine wpAny_bind (gw _ _ _ ?_)
  split
  ·refine wpAny_bind ?_
   rw [hashByValue_scannable 8 hsc]
   refine wpAny_pure ?_
   cases plainKind v with
   | true =>
    simp only [↓reduceIte]
    refine z62 (t1 := t1) gw ho hx hd he1 hm1 hb1 fr hn1 rr fun h' sb T' => ?_
    dsimp only
    refine wpAny_pure (h h' true sb ?_)
    rw [← hl, ← lr.1]; exact T'
   | false =>
    simp only [Bool.false_eq_true, ↓reduceIte]
    refine z62 (t1 := { t1 with plain := false }) gw ho hx hd he1 hm1 hb1 (SetTable.fits_plain_off fr) hn1 rr fun h' sb T' => ?_
    dsimp only
    refine wpAny_pure (h h' true sb ?_)
    rw [← hl, ← lr.1]; exact T'
  ·refine wpAny_bind (wpAny_pure ?_)
   simp only [↓reduceIte]
   refine z62 (t1 := t1) gw ho hx hd he1 hm1 hb1 fr hn1 rr fun h' sb T' => ?_
   dsimp only
   refine wpAny_pure (h h' true sb ?_)
   rw [← hl, ← lr.1]; exact T'
end
section
variable {prog : Program} {w : World} {κ : Type} [DecidableEq κ] {knd : KeyKind prog w κ} {A : Around} {R : Result → Shared → Prop} {I : Addr}
variable {fp wr : List Addr} {G : Array GenState → Array GenState → Prop} {P : Nat → Value → Prop} {St : Nat → Shared → Prop}
theorem z8k {ss : List κ} (W : WalksS prog w A.in1 I fp wr G ss.length P St) (a : Addr) (ha : a ∉ fp)
  {led : Bool} (hv : ∀ i v (h : i < ss.length), P i v → knd.is ss[i] v = true ∧ v.scannable = true) (hb : ss.length + 1 < scanBound) :
  ∀ (k i : Nat) (s : Shared), ss.length - i = k → i ≤ ss.length → St i s → ESet knd s.heap a (gAll (ss.take i)) led →
   (∀ s', Moved (a :: wr) G s s' → ESet knd s'.heap a (gAll ss) led → R (.ok (.ret .none)) s') →
   codeAny (model prog w) A (.builtin "set.update.loop" ⟨[.ref a, .ref I], []⟩) R s := by
 have haw : a ∉ wr := fun h => ha (W.sub _ h)
 intro k
 induction k with
 | zero =>
  intro i s hk hi st T hR
  have ei : i = ss.length := by omega
  subst ei
  rw [List.take_length] at T
  refine codeAny_builtin PyProof.Rows.F.entry_set_update_loop ?_
  rw [Around.under_plainId PyProof.Rows.F.plain_set_update_loop _]
  refine wpAny_bind (m := pyNext (.ref I)) (W.done s _ _ st fun s' mv => ?_)
  refine wpAny_pure (hR s' (mv.mono fun b h => .tail _ h) (T.keep fun o e => mv.heap a o haw e))
 | succ k ih =>
  intro i s hk hi st T hR
  have lt : i < ss.length := by omega
  refine codeAny_builtin PyProof.Rows.F.entry_set_update_loop ?_
  rw [Around.under_plainId PyProof.Rows.F.plain_set_update_loop _]
  refine wpAny_bind (m := pyNext (.ref I)) (W.item i s _ _ lt st fun v s' hP st' mv => ?_)
  obtain ⟨is, hsc⟩ := hv i v lt hP
  have T' := T.keep (h' := s'.heap) fun o e => mv.heap a o haw e
  refine wpAny_bind (m := holding [v] (setAdd a v)) (wpAny_holding ?_)
  unfold setAdd
  refine wpAny_holding ?_
  refine wpAny_bind (knd.pyHash (k := ss[i]) is ?_)
  have room : (gAll (ss.take i)).length + 1 < scanBound := by
   have := zbq (ss.take i)
   rw [List.length_take] at this
   omega
  refine zf5 (s := { s' with toks := s'.toks + 1 }) T' is hsc room fun h2 _ sb T2 => ?_
  have T3 : ESet knd h2 a (gAll (ss.take (i + 1))) led := by
   rw [ze0 ss i lt]; exact T2
  refine wpAny_pure ⟨plainId_quiet PyProof.Rows.F.plain_set_update_loop _, ih (i + 1) _ (by omega) lt ?_ T3 fun s3 mv3 T4 => ?_⟩
  ·refine W.frame _ s' _ _ st' (Nat.le_succ _) fun b hbf o e => ?_
   rw [sb.2 b fun e' : b = a => ha (e' ▸ hbf)]
   exact e
  ·refine hR s3 (Moved.trans W.gtrans ((mv.mono fun b h => .tail _ h).then_heap (Nat.le_succ _) fun b o hbw e => ?_) mv3) T4
   rw [sb.2 b fun e' : b = a => hbw (e' ▸ .head _)]
   exact e
end
section
variable {prog : Program} {w : World} {κ : Type} [DecidableEq κ] {knd : KeyKind prog w κ} {A : Around} {E : Value → Shared → Prop} {s : Shared}
theorem zcn {h : Heap} {a : Addr} {led : Bool} (g : h.get? a = some (z11 led)) : ESet knd h a [] led :=
 ⟨_, #[], 0, .fresh 0 0 led, g, ⟨rfl, rfl, rfl⟩, rfl, fun e q => by simp at q, fun k => by simp, by decide, by cases led <;> decide, rfl, rfl, List.Pairwise.nil, rfl⟩
theorem z8l {l : Addr} {items : Array Value} {ss : List κ} {Q : Value → Shared → Prop} (hh : A.handled = none)
  (hl : s.heap.IsList l items) (len : items.size = ss.length) (hv : ∀ (i : Nat) (v : Value) (h : i < ss.length), items[i]? = some v → knd.is ss[i] v = true ∧ v.scannable = true) (hb : ss.length + 1 < scanBound)
  (h : ∀ (h' : Heap) (tk : Nat), ESet knd h' s.heap.objs.size (gAll ss) (z19 w) → s.toks ≤ tk →
   (∀ b o, s.heap.get? b = some o → h'.get? b = some o) → Q (.ref s.heap.objs.size) { s with heap := h', toks := tk }) :
  wpAny (model prog w) A (call (.type "set") [.ref l]) Q E s := by
 obtain ⟨_, _, mro⟩ := F.called_set.mro
 have made := F.called_set.made
 have self := F.called_set.sub
 refine wpAny_call (codeAny_of_tree ?_)
 show wpAny _ _ (callAny (.type "set") _) _ _ _
 refine wpAny_pure ⟨Code.quiet_builtin _ (by decide +kernel), ?_⟩
 refine codeAny_builtin F.entry_type_call ?_
 rw [Around.under_plain (weight_type_call_type "set" [.ref l] []) rfl]
 have n1 := F.called_set.notType
 have n2 := F.called_set.canCreate
 have n3 := F.typeCall_set_1 (.ref l)
 repeat (any_goals (first | assumption | wp_step))
 refine codeAny_mono (z6w (.ref l) (E := E)
  (Q₁ := fun x s₁ => ∃ led : Bool, led = z19 w ∧ x = .ref s.heap.objs.size ∧ s₁ = { s with heap := s.heap.push (z11 led) }) ⟨_, rfl, rfl, rfl⟩) fun r s₁ hr => ?_
 match r, hr with
 | .error e, hr => exact hr
 | .ok (.ret x), hr =>
  obtain ⟨led, hled, rfl, rfl⟩ := hr
  have gS : (s.heap.push (z11 led)).get? s.heap.objs.size = some (z11 led) := Heap.get?_push_size _ rfl
  have ty : Shared.TypeIs { s with heap := s.heap.push (z11 led) } (.ref s.heap.objs.size) "set" := ⟨_, gS, rfl⟩
  have look := F.called_set.init.lookup
  have bound := F.called_set.init.bind (.ref s.heap.objs.size)
  repeat (any_goals (first | assumption | wp_step))
  refine codeAny_mono (codeAny_call_builtin (R := wants (fun r s₂ => r = .none ∧ ∃ h' tk, s₂ = { s with heap := h', toks := tk } ∧
   ESet knd h' s.heap.objs.size (gAll ss) (z19 w) ∧ s.toks ≤ tk ∧ ∀ b o, s.heap.get? b = some o → h'.get? b = some o) E)
   F.called_set.init.plain F.entry_set_init (check_set_init_1 ty ?_)) fun r₂ s₂ hr₂ => ?_
  ·obtain ⟨ol, gl, cl, nl, dl⟩ := hl
   obtain ⟨ocls, odict, odata, oslots⟩ := ol
   simp only at cl dl
   subst cl dl
   have gl' : (s.heap.push (z11 led)).get? l = some { cls := .type "list", dict := odict, data := .seq items nl, slots := oslots } :=
    Heap.get?_push_of_some _ gl
   have m1 := F.sub_list_set
   have m2 := F.sub_list_frozenset
   have m3 : (Value.type "list" == Value.type "dict") = false := by decide
   have isl : (s.heap.push (z11 led)).IsList l items := ⟨_, gl', rfl, nl, rfl⟩
   unfold Builtin.«set.__init__» noKeywords Builtin.Frozenset.updateFrom
   generalize hPI : pyIter = PI
   wp_walk
   subst hPI
   refine wpAny_pyIter_list isl ?_
   refine wpAny_bind (wpAny_runValue ?_)
   have lt : l < s.heap.objs.size := Heap.lt_size gl
   have h3 : A.in1.in1.in1.handled = none := by simp [hh]
   have lI : l ≠ (s.heap.push (z11 led)).objs.size := by
    rw [Heap.size_push]; exact Nat.ne_of_lt (Nat.lt_succ_of_lt lt)
   have aI : s.heap.objs.size ∉ [(s.heap.push (z11 led)).objs.size, l] := by
    rw [Heap.size_push]; intro m
    rcases List.mem_cons.mp m with e | m
    ·exact Nat.ne_of_lt (Nat.lt_succ_self _) e
    ·exact Nat.ne_of_gt lt (List.mem_singleton.mp m)
   have WW := ((Walks.list (prog := prog) (w := w) h3 _ l lI items).toS)
   rw [len] at WW
   refine z8k (led := z19 w) WW s.heap.objs.size aI hv hb (ss.length - 0) 0 _ (by omega) (Nat.zero_le _)
    ⟨⟨_, Heap.get?_push_size _ rfl, rfl, rfl⟩, (isl.push _)⟩ ?s0 ?sR
   case s0 =>
    have g2 : ((s.heap.push (z11 led)).push { cls := .type "list_iterator", data := .fields #[.ref l, .int 0 0] }).get? s.heap.objs.size = some (z11 led) :=
     Heap.get?_push_of_some _ gS
    rw [← hled]; exact zcn g2
   case sR =>
    intro s' mv T
    obtain ⟨h', g', d', tk', os'⟩ := s'
    obtain rfl : g' = s.gens := mv.gens
    obtain rfl : d' = s.drawn := mv.drawn
    obtain rfl : os' = s.os := mv.os
    show wpAny _ _ _ _ _ _
    refine wpAny_pure ?_
    show wpAny _ _ (ret Value.none) _ _ _
    refine wpAny_pure ⟨rfl, h', tk', rfl, T, mv.toks, fun b o e => ?_⟩
    have bl := Heap.lt_size e
    refine mv.heap b o ?_ (Heap.get?_push_of_some _ (Heap.get?_push_of_some _ e))
    rw [Heap.size_push]; intro m
    rcases List.mem_cons.mp m with e | m
    ·exact Nat.ne_of_lt bl e
    ·exact Nat.ne_of_lt (Nat.lt_succ_of_lt bl) (List.mem_singleton.mp m)
  ·match r₂, hr₂ with
   | .error e, hr₂ => exact hr₂
   | .ok (.ret r), hr₂ =>
    obtain ⟨rfl, h', tk, rfl, T, lt, old⟩ := hr₂
    repeat (any_goals (first | assumption | wp_step))
    exact h _ _ T lt old
end
inductive EAre {prog : Program} {w : World} {κ : Type} [DecidableEq κ] (knd : KeyKind prog w κ) : List Value → List κ → Prop
 | nil : EAre knd [] []
 | cons {v : Value} {k : κ} {vs : List Value} {ks : List κ} : knd.is k v = true → EAre knd vs ks → EAre knd (v :: vs) (k :: ks)
section
variable {prog : Program} {w : World} {κ : Type} [DecidableEq κ] {knd : KeyKind prog w κ} {A : Around} {E : Value → Shared → Prop} {s : Shared}
theorem EAre.length {vs : List Value} {ks : List κ} (h : EAre knd vs ks) : vs.length = ks.length := by
 induction h with
 | nil => rfl
 | cons _ _ ih => simp [ih]
theorem zf6 {L : List (Int × Value)} {D : List κ} (he : ElemsOf knd L) (nd : D.Nodup)
  (hm : ∀ k, decide (k ∈ D) = true ↔ ∃ e ∈ L, knd.is k e.2 = true) (hn : L.length = D.length) :
  ∃ ks, EAre knd (L.map (·.2)) ks ∧ ks.Perm D := by
 have ex : ∀ L : List (Int × Value), ElemsOf knd L → ∃ ks, EAre knd (L.map (·.2)) ks ∧ ∀ k e, e ∈ L → knd.is k e.2 = true → k ∈ ks := by
  intro L
  induction L with
  | nil => exact fun _ => ⟨[], .nil, fun _ _ z => nomatch z⟩
  | cons e L ih =>
   intro he
   obtain ⟨ks, h1, h2⟩ := ih he.tail
   obtain ⟨k, hk, _⟩ := he.head.1
   refine ⟨k :: ks, .cons hk h1, fun k' e' m z => ?_⟩
   rcases List.mem_cons.mp m with rfl | m
   ·rw [knd.inj _ k' k z hk]; exact .head _
   ·exact .tail _ (h2 k' e' m z)
 obtain ⟨ks, h1, h2⟩ := ex L he
 refine ⟨ks, h1, z4o D ks nd (fun k hk => ?_) ?_⟩
 ·obtain ⟨e, m, z⟩ := (hm k).mp (decide_eq_true hk)
  exact h2 k e m z
 ·have := h1.length
  rw [List.length_map] at this
  omega
theorem z63 {a : Addr} {o : Obj} {es : Array (Int × Value)} {ep : Nat} {t : SetTable} {slot i : Nat} {Q : Option (Value × Nat) → Shared → Prop}
  (hw : w.params.followText "set-order" = false) (ho : s.heap.get? a = some o) (hd : o.data = .set es ep t) (hf : t.fits es.size = true)
  (hn : t.plain = true ∨ es.size ≤ 1) (hl : t.led = true)
  (h : Q (match es[SetTable.below t.place slot]?, t.place[SetTable.below t.place slot]? with
   | some (_, x), some j => some (x, j + 1)
   | _, _ => none) s) : wpAny (model prog w) A (setNext a slot i ep) Q E s := by
 unfold setNext
 refine wpAny_bind (wpAny_setState_of ho hd hf ?_)
 dsimp only
 refine wpAny_bind (z1x ?_)
 rw [hw]
 simp only [Bool.false_eq_true, ↓reduceIte]
 refine (?_ : wpAny _ _ (if (!t.plain && decide (es.size > 1)) = true then _ else _) _ _ _)
 rw [if_neg (by rcases hn with hn | hn <;> simp [hn])]
 refine wpAny_bind (m := if (!t.led && !es.isEmpty) = true then unsupported "set:maker-not-led" else pure ()) ?_
 rw [if_neg (by simp [hl])]
 exact wpAny_pure (wpAny_pure h)
theorem zbc {t : SetTable} (hr : Rise t) {es : Array (Int × Value)} (hf : t.fits es.size = true) {i : Nat} (lt : i < es.size) :
  (match es[SetTable.below t.place (z1e t i)]?, t.place[SetTable.below t.place (z1e t i)]? with
   | some (_, x), some j => some (x, j + 1)
   | _, _ => none) = some (es[i].2, z1e t (i + 1)) := by
 have sz := z3z hf
 rw [z61 hr (by omega), Array.getElem?_eq_getElem lt, Array.getElem?_eq_getElem (by omega : i < t.place.size)]
 have : z1e t (i + 1) = t.place[i]'(by omega) + 1 := by
  unfold z1e
  rw [if_neg (by omega)]
  simp [Array.getD, (by omega : i < t.place.size)]
 rw [this]
theorem zco {t : SetTable} (hr : Rise t) {es : Array (Int × Value)} (hf : t.fits es.size = true) :
  (match es[SetTable.below t.place (z1e t es.size)]?, t.place[SetTable.below t.place (z1e t es.size)]? with
   | some (_, x), some j => some (x, j + 1)
   | _, _ => none) = (none : Option (Value × Nat)) := by
 have sz := z3z hf
 rw [z61 hr (by omega), Array.getElem?_eq_none (Nat.le_refl _)]
theorem zcp (hh : A.handled = none) (hw : w.params.followText "set-order" = false) {I a : Addr} {o : Obj} {es : Array (Int × Value)} {ep : Nat} {t : SetTable}
  (hd : o.data = .set es ep t) (hf : t.fits es.size = true) (hr : Rise t) (hn : t.plain = true ∨ es.size ≤ 1) (hl : t.led = true) (hI : a ≠ I) :
  WalksS prog w A I [I, a] [I] (fun x y => x = y) es.size (fun i v => ∃ e, es[i]? = some e ∧ v = e.2)
   (fun i s => SetIterAt s.heap I (.int (z1e t i) 0) i a es.size ep ∧ s.heap.get? a = some o) where
 sub := fun b hb => by simp at hb; simp [hb]
 grefl := fun _ => rfl
 gtrans := fun _ _ _ p q => p.trans q
 frame := fun i s h' tk st _ k => ⟨st.1.keep (k I (by simp)), k a (by simp) _ st.2⟩
 item := fun i s Q E lt st hQ => by
  refine z4a (next := z1e t (i + 1)) (x := es[i].2) st.2 hd hf st.1
   (fun A' E' Q' q => z63 hw st.2 hd hf hn hl ((congrArg (fun z => Q' z s) (zbc hr hf lt)).mpr q)) fun h' si sb => ?_
  refine hQ _ _ ⟨_, Array.getElem?_eq_getElem lt, rfl⟩ ⟨si, (sb.2 a hI).trans st.2⟩ ⟨fun b o' hb e => ?_, rfl, rfl, rfl, Nat.le_refl _⟩
  exact (sb.2 b (by simpa using hb)).trans e
 done := fun s Q E st hQ => by
  refine z31 hh st.2 hd hf st.1
   (fun A' E' Q' q => z63 hw st.2 hd hf hn hl ((congrArg (fun z => Q' z s) (zco hr hf)).mpr q)) fun h' xb => ?_
  exact hQ _ ⟨fun b o' hb e => xb b o' (by simpa using hb) e, rfl, rfl, rfl, Nat.le_refl _⟩
 self := fun i s Q E st h => z38 st.1 h
theorem z9o {a : Addr} {D : List κ} {Q : List Value → Shared → Prop} (hh : A.handled = none) (nd : D.Nodup)
  (T : ESet knd s.heap a D (z19 w))
  (h : ∀ s' vs ks, EAre knd vs ks → ks.Perm D → (∀ b o, s.heap.get? b = some o → s'.heap.get? b = some o) → s'.gens = s.gens → s'.os = s.os →
   s.toks ≤ s'.toks → Q vs s') : wpAny (model prog w) A (collect (.ref a)) Q E s := by
 obtain ⟨o, es, ep, t, ho, hx, hd, he, hm, hb, hf, hn, hl, hp⟩ := T
 have la := Heap.lt_size ho
 unfold collect
 refine wpAny_bind (wpAny_runValue (codeAny_builtin F.entry_proto_collect ?_))
 rw [Around.under_plainId F.plain_proto_collect _]
 refine wpAny_bind (m := newList []) (wpAny_newObj_type ?_)
 refine wpAny_pure ⟨plainId_quiet F.plain_list_iadd _, codeAny_builtin F.entry_list_iadd ?_⟩
 rw [Around.under_plainId F.plain_list_iadd _]
 show wpAny _ A.in1 (Builtin.List.listExtendWith (.ref s.heap.objs.size) (.ref a) (.ref s.heap.objs.size)) _ _ _
 unfold Builtin.List.listExtendWith
 generalize hH : s.heap.push { cls := .type "list", data := .seq ([] : List Value).toArray } = H
 have ho1 : H.get? a = some o := by rw [← hH]; exact Heap.get?_push_of_some _ ho
 have gS : H.get? s.heap.objs.size = some { cls := .type "list", data := .seq #[] } := by rw [← hH]; exact Heap.get?_push_size _ rfl
 have zH : H.objs.size = s.heap.objs.size + 1 := by rw [← hH, Heap.size_push]
 have ty : Shared.TypeIs { s with heap := H } (.ref a) "set" := ⟨o, ho1, hx.1⟩
 refine wpAny_bind (wpAny_typeOf ty ?_)
 have h1 : Builtin.List.listSameRef (.ref s.heap.objs.size) (.ref a) = false := by
  simp only [Builtin.List.listSameRef, beq_eq_false_iff_ne]; exact Nat.ne_of_gt la
 have h2 : (Value.type "set" == Value.type "list") = false := by decide
 have h3 : (Value.type "set" == Value.type "tuple") = false := by decide
 simp only [h1, h2, h3, Bool.or_false, Bool.false_eq_true, if_false]
 have hz := fits_of_scanBound hb
 have fin : ∀ (s1 s' : Shared) (I : Addr) (P : Nat → Value → Prop) (L : List (Int × Value)) (acc : Array Value) (c : Nat),
   (∀ b o, H.get? b = some o → s1.heap.get? b = some o) → s1.gens = s.gens → s1.os = s.os → s1.toks = s.toks → s.heap.objs.size < I →
   L.Perm es.toList → (∀ i v, P i v → ∃ e, L[i]? = some e ∧ v = e.2) →
   Moved (s.heap.objs.size :: [I]) (fun x y => x = y) s1 s' → ItemsOf P acc es.size → Q acc.toList s' := by
  intro s1 s' I P L acc c k0 k1 k2 k3 k4 pr hP mv ii
  have len : L.length = es.size := by rw [pr.length_eq, Array.length_toList]
  rw [← len] at ii
  rw [z9a ii hP]
  have hm2 : ∀ k, decide (k ∈ D) = true ↔ ∃ e ∈ L, knd.is k e.2 = true := fun k =>
   (hm k).trans ⟨fun ⟨e, q, z⟩ => ⟨e, pr.mem_iff.mpr q, z⟩, fun ⟨e, q, z⟩ => ⟨e, pr.mem_iff.mp q, z⟩⟩
  obtain ⟨ks, t1, t2⟩ := zf6 (he.perm pr) nd hm2 (len.trans hn)
  refine h s' _ ks t1 t2 (fun b o' e => ?_) (mv.gens.symm.trans k1) (mv.os.trans k2) (k3 ▸ mv.toks)
  have lb := Heap.lt_size e
  refine mv.heap b o' (fun m => ?_) (k0 b o' (by rw [← hH]; exact Heap.get?_push_of_some _ e))
  rcases List.mem_cons.mp m with q | m
  ·exact Nat.ne_of_lt lb q
  ·exact Nat.ne_of_lt (Nat.lt_trans lb k4) (List.mem_singleton.mp m)
 have h4 : A.in1.handled = none := by simp [hh]
 let K : Value → Shared → Prop := fun v s' => wpAny (model prog w) A (match v with
  | .ref a => do
   match (← load a).data with
   | .seq xs _ => pure xs.toList
   | _ => unsupported "internal:collect"
  | _ => unsupported "internal:collect") Q E s'
 have aS : s.heap.objs.size ≠ a := Nat.ne_of_gt la
 have laH : a < H.objs.size := Heap.lt_size ho1
 refine wpAny_bind (z7u ho1 hx hd hf hb ?_ ?_)
 ·intro w1 w2 w3 ps d pr
  have len : ps.length = es.size := by simpa using pr.length_eq
  have gT : ((H.push { cls := .type "tuple", data := .seq (ps.map fun (i : Nat) => rawInt i).toArray }).push (zw (.ref H.objs.size) 0 a es.size ep)).get? H.objs.size
    = some { cls := .type "tuple", data := .seq (ps.map fun (i : Nat) => rawInt i).toArray } := Heap.get?_push_of_some _ (Heap.get?_push_size _ rfl)
  have gI : ((H.push { cls := .type "tuple", data := .seq (ps.map fun (i : Nat) => rawInt i).toArray }).push (zw (.ref H.objs.size) 0 a es.size ep)).get? (H.objs.size + 1)
    = some (zw (.ref H.objs.size) 0 a es.size ep) := by
   have z2 : (H.push { cls := .type "tuple", data := .seq (ps.map fun (i : Nat) => rawInt i).toArray }).objs.size = H.objs.size + 1 := Heap.size_push ..
   rw [← z2]
   exact Heap.get?_push_size _ rfl
  have two : ∀ b o', H.get? b = some o' → ((H.push { cls := .type "tuple", data := .seq (ps.map fun (i : Nat) => rawInt i).toArray }).push (zw (.ref H.objs.size) 0 a es.size ep)).get? b = some o' :=
   fun b o' e => Heap.get?_push_of_some _ (Heap.get?_push_of_some _ e)
  have W := z70 (prog := prog) (w := w) (A := A.in1) h4 (I := H.objs.size + 1) (T := H.objs.size) (a := a) (o := o) (ps := ps) (nT := 0)
   (oT := { cls := .type "tuple", data := .seq (ps.map fun (i : Nat) => rawInt i).toArray }) hd hf rfl
   (Nat.ne_of_lt (Nat.lt_succ_of_lt laH)) (Nat.ne_of_lt (Nat.lt_succ_self _)) pr
  have out : s.heap.objs.size ∉ [H.objs.size + 1, a, H.objs.size] := by
   rw [zH]; intro m
   rcases List.mem_cons.mp m with q | m
   ·exact Nat.ne_of_lt (Nat.lt_succ_of_lt (Nat.lt_succ_self _)) q
   ·rcases List.mem_cons.mp m with q | m
    ·exact aS q
    ·exact Nat.ne_of_lt (Nat.lt_succ_self _) (List.mem_singleton.mp m)
  refine z1t (a := a) (R := wants K E) (b := _) W hz out ?_ (c := 0) ?_ ?_ ?_
  ·exact ⟨⟨_, gI, rfl, rfl⟩, two _ _ ho1, gT⟩
  ·exact two _ _ gS
  ·exact ⟨o, two _ _ ho1, hx.1⟩
  intro s' acc c' mv g ii
  show wpAny _ _ (load _ >>= _) _ _ _
  refine wpAny_bind (wpAny_load g (wpAny_pure ?_))
  refine fin { s with heap := (H.push { cls := .type "tuple", data := .seq (ps.map fun (i : Nat) => rawInt i).toArray }).push (zw (.ref H.objs.size) 0 a es.size ep), drawn := d } s' (H.objs.size + 1) _ (ps.map fun p => es.getD p default) acc c' two rfl rfl rfl (by rw [zH]; exact Nat.lt_succ_of_lt (Nat.lt_succ_self _)) ?_ ?_ mv ii
  ·refine (pr.map _).trans ?_
   have : (List.range es.size).map (fun p => es.getD p default) = es.toList := by
    apply List.ext_getElem?
    intro i
    by_cases lt : i < es.size
    ·simp [lt]
    ·simp [lt]
   rw [this]
  ·rintro i v ⟨p, e, hp', he', rfl⟩
   refine ⟨e, ?_, rfl⟩
   rw [List.getElem?_map, hp']
   obtain ⟨lt, q⟩ := Array.getElem?_eq_some_iff.mp he'
   simp [lt, q]
 ·intro w1
  have gI : (H.push (zw (.int 0 0) 0 a es.size ep)).get? H.objs.size = some (zw (.int 0 0) 0 a es.size ep) := Heap.get?_push_size _ rfl
  have one : ∀ b o', H.get? b = some o' → (H.push (zw (.int 0 0) 0 a es.size ep)).get? b = some o' := fun b o' e => Heap.get?_push_of_some _ e
  have out : s.heap.objs.size ∉ [H.objs.size, a] := by
   rw [zH]; intro m
   rcases List.mem_cons.mp m with q | m
   ·exact Nat.ne_of_lt (Nat.lt_succ_self _) q
   ·exact aS (List.mem_singleton.mp m)
  have lI : s.heap.objs.size < H.objs.size := by rw [zH]; exact Nat.lt_succ_self _
  cases hw : w.params.followText "set-order" with
  | true =>
   have W := z7v (prog := prog) (A := A.in1) h4 hw (I := H.objs.size) (a := a) (o := o) hd hf (Nat.ne_of_lt laH)
   refine z1t (a := a) (R := wants K E) (b := _) W hz out ?_ (c := 0) ?_ ?_ ?_
   ·exact ⟨⟨_, gI, rfl, rfl⟩, one _ _ ho1⟩
   ·exact one _ _ gS
   ·exact ⟨o, one _ _ ho1, hx.1⟩
   intro s' acc c' mv g ii
   show wpAny _ _ (load _ >>= _) _ _ _
   refine wpAny_bind (wpAny_load g (wpAny_pure ?_))
   refine fin { s with heap := H.push (zw (.int 0 0) 0 a es.size ep) } s' H.objs.size _ (pickOrder (w.params.setOrder a ep) es).toList acc c' one rfl rfl rfl lI (z2t _ _) ?_ mv ii
   rintro i v ⟨e, q, rfl⟩
   exact ⟨e, by rw [Array.getElem?_toList]; exact q, rfl⟩
  | false =>
   have small : t.plain = true ∨ es.size ≤ 1 := by
    rcases w1 with q | q | q
    ·rw [hw] at q; cases q
    ·exact .inl q
    ·exact .inr q
   have W := zcp (prog := prog) (A := A.in1) h4 hw (I := H.objs.size) (a := a) (o := o) hd hf hp small (hl.trans (by simp [z19, hw])) (Nat.ne_of_lt laH)
   refine z1t (a := a) (R := wants K E) (b := _) W hz out ?_ (c := 0) ?_ ?_ ?_
   ·exact ⟨⟨_, gI, rfl, rfl⟩, one _ _ ho1⟩
   ·exact one _ _ gS
   ·exact ⟨o, one _ _ ho1, hx.1⟩
   intro s' acc c' mv g ii
   show wpAny _ _ (load _ >>= _) _ _ _
   refine wpAny_bind (wpAny_load g (wpAny_pure ?_))
   refine fin { s with heap := H.push (zw (.int 0 0) 0 a es.size ep) } s' H.objs.size _ es.toList acc c' one rfl rfl rfl lI (.refl _) ?_ mv ii
   rintro i v ⟨e, q, rfl⟩
   exact ⟨e, by rw [Array.getElem?_toList]; exact q, rfl⟩
end
end PySem
end
section
namespace PySem
open PyProof.Rows
theorem EAre.ints {prog : Program} {w : World} {vs : List Value} {ks : List Int} (h : EAre (intKind prog w) vs ks) : IntsAre vs ks := by
 induction h with
 | nil => exact .nil
 | cons h _ ih =>
  obtain ⟨t, rfl⟩ := Value.isInt_shape h
  exact .cons _ t ih
section
variable {prog : Program} {w : World} {A : Around} {E : Value → Shared → Prop} {s : Shared}
theorem z9p {a : Addr} {D : List Int} {Q : Value → Shared → Prop} (hh : A.handled = none) (nd : D.Nodup) (h64 : D.length < 64)
  (T : ESet (intKind prog w) s.heap a D (z19 w))
  (h : ∀ s' l vs ks e, IntsAre vs ks → ks.Perm D → ks.Pairwise (· ≤ ·) → (∀ b o, s.heap.get? b = some o → s'.heap.get? b = some o ∧ b ≠ l) →
   s'.heap.get? l = some (seqObj "list" vs.toArray e) → s.heap.get? l = none → s'.gens = s.gens → s'.os = s.os → s.toks ≤ s'.toks → Q (.ref l) s') :
  wpAny (model prog w) A (call (.builtin "sorted") [.ref a]) Q E s := by
 refine Calls.call_function_entry kind_sorted plain_sorted entry_sorted (args_sorted1 _) ?_
 unfold Builtin.«sorted»
 refine wpAny_bind (m := checkCount "sorted" 1 1 _) (wpAny_pure ?_)
 refine wpAny_bind (z9o (by simpa using hh) nd T fun s1 vs ks t0 t2 k0 k1 k2 k3 => ?_)
 have t1 := t0.ints
 have v64 : vs.length < 64 := by rw [t1.length, t2.length_eq]; exact h64
 have fit : vs.length ≤ sizeLine := Nat.le_trans (Nat.le_of_lt v64) (by decide)
 refine wpAny_bind (wpAny_newList ?_ fit)
 have hS := Heap.get?_push_size (h := s1.heap) (o := seqObj "list" vs.toArray 0) rfl
 refine wpAny_bind (wpAny_holding (wpAny_call_entry slot_list_sort ⟨_, hS, rfl⟩ entry_list_sort
  (list_sort_tree hS t1 v64 fun out ks' u1 u2 u3 => ⟨_, rfl, ?_⟩) (args_list_sort _)))
 refine wpAny_pure ⟨_, rfl, ?_⟩
 obtain ⟨e, ge⟩ := sortedHeap_at (out := out) hS
 refine h _ s1.heap.objs.size out.toList ks' e u1 (u2.trans t2) u3 (fun b o q => ?_) ?_ ?_ k1 k2 k3
 ·have lb := Heap.lt_size (k0 b o q)
  refine ⟨?_, Nat.ne_of_lt lb⟩
  refine (sortedHeap_old (Nat.ne_of_lt lb) ?_).trans (Heap.get?_push_of_some _ (k0 b o q))
  rw [Heap.size_push]; exact Nat.lt_succ_of_lt lb
 ·exact ge
 ·cases z : s.heap.get? s1.heap.objs.size with
  | none => rfl
  | some o => exact absurd (Heap.lt_size (k0 _ o z)) (Nat.lt_irrefl _)
end
end PySem
namespace L2
open PySem PySem.Spec PyProof.Rows
def iso (P : Program) (w : World) (a : Addr) (D : List Int) : HO := .ext fun h => ESet (intKind P w) h a D (z19 w)
theorem zha {P : Program} {w : World} {H : Hp} {h : Heap} {a : Addr} {D : List Int} (T : ESet (intKind P w) h a D (z19 w)) : ObjOk P w H h a (iso P w a D) := by
 refine ⟨T, ?_, fun h1 h2 t k => ESet.keep t k⟩
 obtain ⟨o, es, ep, t, ho, _⟩ := T
 exact ⟨o, ho⟩
section
variable {X : Cx}
theorem ze1 (hc : X.calm = true) : CallR X (.type "set") (fun xs H Q => ∃ p ss, xs = [.ref p] ∧ SqL X.K H p ((ss : List Int).map V.int) ∧ ss.length + 1 < scanBound ∧ ∀ d, H d = none → Q (.ref d) (upd H d (iso X.prog X.w d (gAll ss)))) := by
 intro pins s σ H xs us Q I r h
 obtain ⟨p, ss, rfl, hp, hb, q⟩ := h
 obtain ⟨u, rfl, ru⟩ := z56 r
 cases ru
 obtain ⟨its, r1, pl, hz⟩ := I.list hp
 have hl := r1.length
 rw [List.length_map] at hl
 refine z8l (knd := intKind X.prog X.w) (ss := ss) (I.ok.hd hc) pl.isList (by simpa using hl.symm) (fun i v hi hv => ?_) hb fun h' tk T ht hk => ?_
 ·have g1 : (ss.map V.int)[i]? = some (V.int ss[i]) := by rw [List.getElem?_map, List.getElem?_eq_getElem hi]; rfl
  obtain ⟨w', q1, t, rfl⟩ := r1.get g1
  have : its[i]? = some v := by simpa using hv
  rw [this] at q1
  cases q1
  exact ⟨intKind_is _ _ _ _, rfl⟩
 ·exact ⟨.ref _, _, I.laid (t' := tk) hk (Nat.le_refl _) (zha T), rfl, q _ I.fresh⟩
theorem z9q (hc : X.calm = true) : CallR X (.builtin "sorted") (fun xs H Q => ∃ a D, xs = [.ref a] ∧ H a = some (iso X.prog X.w a D) ∧ D.Nodup ∧ D.length < 64 ∧ ∀ l ks, H l = none → ks.Perm D → ks.Pairwise (· ≤ ·) → Q (.ref l) (upd H l (.lst ((ks : List Int).map V.int)))) := by
 intro pins s σ H xs us Q I r h
 obtain ⟨a, D, rfl, ha, nd, h64, q⟩ := h
 obtain ⟨u, rfl, ru⟩ := z56 r
 cases ru
 obtain ⟨T, -, -⟩ := (show ObjOk X.prog X.w H s.heap a (iso X.prog X.w a D) from I.hok a _ ha)
 refine z9p (I.ok.hd hc) nd h64 T fun s' l vs ks e t1 t2 t3 hk hl hn hg ho ht => ?_
 have hz : (ks.map V.int).length ≤ sizeLine := by
  rw [List.length_map, t2.length_eq]; exact Nat.le_trans (Nat.le_of_lt h64) (by decide)
 have k : ∀ b u, s.heap.get? b = some u → s'.heap.get? b = some u := fun b u e => (hk b u e).1
 have hHl : H l = none := by
  cases z : H l with
  | none => rfl
  | some o =>
   obtain ⟨u, hu⟩ := z71 (I.hok l o z)
   exact absurd rfl (hk l u hu).2
 have un : Un (frs X.stack) [] H (upd H l (.lst (ks.map V.int))) s.heap s'.heap := by
  refine ⟨fun b u z _ _ _ => k b u z, fun b u z _ _ _ => ⟨u.slots, k b u z⟩, fun b u z n _ => ?_, fun b u z _ => ⟨u, k b u z⟩, fun b ys z => ?_, fun b u ys z => ?_, fun b ps z => ⟨#[], ?_⟩⟩
  ·rw [zb (hk b u z).2]; exact n
  ·rw [zb (zh z hHl)]; exact z
  ·rw [zb (zh z hHl)]; exact z
  ·rw [zb (zh z hHl), z]; simp
 have hok : HOk X.prog X.w (upd H l (.lst (ks.map V.int))) s'.heap := fun b u e' => by
  by_cases hb : b = l
  ·subst hb; rw [z9] at e'; cases e'
   exact ⟨hz, vs, e, zal t1, hl⟩
  ·rw [zb hb] at e'
   exact (I.hok b u e').stay (fun c v _ q => k c v q) (fun c q => by rw [zb (zh q hHl)]; exact q) fun c xs q => by rw [zb (zh q hHl)]; exact q
 exact ⟨.ref l, _, I.call' ho un hok (by rw [hg]; exact I.bare) (fun b z => absurd z (by simp)), rfl, q l ks hHl t2 t3⟩
end
end L2
end
namespace Fg
open PySem L2
local macro_rules | `(tactic| walk_at "rd") => `(tactic| simp only [cxOf, L2.start, tSeq, zfk, tAsg, tBM, tBM0, za0, gSub, gNil, zfm, tRet, zhj, tIfS, zfl, tOp, tUn, tSl, zft, zbk, zgw, tIsN, tCB, zcb, tNil, tTup, tLst, tVar, tC, zc5, tB, tAnd, tOr, tNot, zfi, tOrV, zfj, tIf, zd8, zcc, tFld, sFld, z6e, zdp, z7k, zdo, tTry, zfu, clsV, zdr, gTup, zet, zdj, zdk, zfo, iStr, iTup, zdl, zcm, zdw, tIfX, tYes, capt, rI, rI0, rU, rEq, rNe, tyV, scal,
 Option.join_some, List.map_cons, List.map_nil, List.cons_append, List.nil_append, List.append_nil, List.replicate, List.length_cons, List.length_nil, Nat.reduceAdd, Nat.reduceSub, List.getElem?_cons_zero, List.getElem?_cons_succ, List.set_cons_zero, List.set_cons_succ,
 Option.some.injEq, V.str.injEq, V.int.injEq, V.bl.injEq, V.ref.injEq, V.ty.injEq, List.cons.injEq, exists_eq_left', exists_eq_left, exists_and_left, and_true, true_and, reduceCtorEq, if_true, if_false])
def top (i : Nat) : Stmt := PySem.Challenge.pw_fencegate_k12_numbers_rise.main.body.getD i (.Pass ⟨0, 0, 0, 0⟩)
abbrev z7b : Stmt := top 9
abbrev z64 : Stmt := top 10
abbrev z7c : Stmt := top 11
abbrev z2w : Stmt := z1d (top 13) 0
abbrev z3r : Stmt := z1d (top 13) 1
abbrev z3s : Stmt := z1d (top 13) 2
abbrev z3t : Stmt := z1d (top 13) 3
abbrev z2c : Stmt := z1d (top 13) 4
abbrev z2n : Stmt := z1d (top 13) 5
abbrev z3u : Stmt := z1d (top 13) 6
abbrev z3v : Stmt := z1d (top 13) 7
abbrev z2o : Stmt := z1d (top 15) 0
abbrev z2h : Stmt := z1d (top 15) 1
abbrev z2d : Stmt := z1d (top 15) 2
abbrev z3a : Stmt := z1d (top 15) 3
abbrev z3b : Stmt := z1d (top 15) 4
abbrev z39 : Stmt := z1d (top 15) 6
abbrev z32 : Stmt := z1d (top 15) 7
abbrev z3c : Stmt := z1d (top 15) 8
abbrev z3d : Stmt := z1d (top 15) 9
abbrev z65 : Stmt := top 17
abbrev z2g : Stmt := top 18
abbrev z4p : Stmt := top 19
abbrev z4b : Stmt := top 20
abbrev z4c : Stmt := top 21
abbrev z4q : Stmt := top 22
abbrev z4d : Stmt := top 23
abbrev z4e : Stmt := top 24
abbrev z4r : Stmt := top 25
abbrev z5f : Stmt := top 26
abbrev z4f : Stmt := top 27
abbrev z4g : Stmt := top 28
abbrev z4h : Stmt := top 29
abbrev z6i : Stmt := top 30
structure Txt (K : PySem.W.Frag) (mg : Str → Option Value) (C_Council C_Down C_InTheWay C_Keeper C_NotFree C_OldNumber C_UnknownKeeper : Addr) : Prop where
 z : True
 b_all : mg "all" = none
 b_bool : mg "bool" = none
 b_enumerate : mg "enumerate" = none
 b_int : mg "int" = none
 b_isinstance : mg "isinstance" = none
 b_len : mg "len" = none
 b_list : mg "list" = none
 b_max : mg "max" = none
 b_min : mg "min" = none
 b_range : mg "range" = none
 b_set : mg "set" = none
 b_sorted : mg "sorted" = none
 b_str : mg "str" = none
 b_tuple : mg "tuple" = none
 g_Council : mg "Council" = some (.ref C_Council)
 g_Down : mg "Down" = some (.ref C_Down)
 g_InTheWay : mg "InTheWay" = some (.ref C_InTheWay)
 g_Keeper : mg "Keeper" = some (.ref C_Keeper)
 g_NotFree : mg "NotFree" = some (.ref C_NotFree)
 g_OldNumber : mg "OldNumber" = some (.ref C_OldNumber)
 g_UnknownKeeper : mg "UnknownKeeper" = some (.ref C_UnknownKeeper)
 pg_Council : PySem.W.plainGet K C_Council Str.empty = true
 hd_Council : PySem.W.hasDictIn K C_Council = true
 po_Council : PySem.W.plainOver K C_Council = true
 sa_Council : PySem.W.findIn K (.ref C_Council) "__setattr__" = some (some (.builtin "object.__setattr__"))
 n_Council_keepers : NoAttr K C_Council "keepers"
 n_Council_most : NoAttr K C_Council "most"
 pg_Keeper : PySem.W.plainGet K C_Keeper Str.empty = true
 hd_Keeper : PySem.W.hasDictIn K C_Keeper = true
 po_Keeper : PySem.W.plainOver K C_Keeper = true
 sa_Keeper : PySem.W.findIn K (.ref C_Keeper) "__setattr__" = some (some (.builtin "object.__setattr__"))
 n_Keeper_up : NoAttr K C_Keeper "up"
 n_Keeper_top : NoAttr K C_Keeper "top"
 n_Keeper_kept : NoAttr K C_Keeper "kept"
 x_Down : PySem.W.excIn K C_Down [.type "ValueError", .type "Exception", .type "BaseException", .type "object"] "ValueError.__new__" = true
 x_InTheWay : PySem.W.excIn K C_InTheWay [.type "ValueError", .type "Exception", .type "BaseException", .type "object"] "ValueError.__new__" = true
 x_NotFree : PySem.W.excIn K C_NotFree [.type "ValueError", .type "Exception", .type "BaseException", .type "object"] "ValueError.__new__" = true
 x_OldNumber : PySem.W.excIn K C_OldNumber [.type "ValueError", .type "Exception", .type "BaseException", .type "object"] "ValueError.__new__" = true
 x_UnknownKeeper : PySem.W.excIn K C_UnknownKeeper [.type "ValueError", .type "Exception", .type "BaseException", .type "object"] "ValueError.__new__" = true
 sb_Down_NotFree : PySem.W.subIn K (.ref C_Down) (.ref C_NotFree) = some false
 sb_InTheWay_NotFree : PySem.W.subIn K (.ref C_InTheWay) (.ref C_NotFree) = some false
 sb_NotFree_NotFree : PySem.W.subIn K (.ref C_NotFree) (.ref C_NotFree) = some true
 sb_OldNumber_NotFree : PySem.W.subIn K (.ref C_OldNumber) (.ref C_NotFree) = some false
 sb_UnknownKeeper_NotFree : PySem.W.subIn K (.ref C_UnknownKeeper) (.ref C_NotFree) = some false
theorem Txt.cl_Council {K : PySem.W.Frag} {mg : Str → Option Value} {C_Council C_Down C_InTheWay C_Keeper C_NotFree C_OldNumber C_UnknownKeeper : Addr} (T : Txt K mg C_Council C_Down C_InTheWay C_Keeper C_NotFree C_OldNumber C_UnknownKeeper) : Cls K C_Council := ⟨T.pg_Council, T.hd_Council, T.po_Council, T.sa_Council⟩
theorem Txt.cl_Keeper {K : PySem.W.Frag} {mg : Str → Option Value} {C_Council C_Down C_InTheWay C_Keeper C_NotFree C_OldNumber C_UnknownKeeper : Addr} (T : Txt K mg C_Council C_Down C_InTheWay C_Keeper C_NotFree C_OldNumber C_UnknownKeeper) : Cls K C_Keeper := ⟨T.pg_Keeper, T.hd_Keeper, T.po_Keeper, T.sa_Keeper⟩
theorem sc_within : FnScope ["inner", "outer", "outer_names"] ["inner", "outer"] (zi z7b) := ⟨rfl, rfl, rfl, by decide +kernel, rfl, by decide +kernel, by decide +kernel⟩
theorem zcq : FnScope ["one", "other"] ["one", "other"] (zi z64) := ⟨rfl, rfl, rfl, by decide +kernel, rfl, by decide +kernel, by decide +kernel⟩
theorem ze2 : FnScope ["lock", "shared", "other", "other_shared"] ["lock", "shared", "other", "other_shared"] (zi z7c) := ⟨rfl, rfl, rfl, by decide +kernel, rfl, by decide +kernel, by decide +kernel⟩
theorem z66 : FnScope ["self"] ["self"] (zi z2w) := ⟨rfl, rfl, rfl, by decide +kernel, rfl, by decide +kernel, by decide +kernel⟩
theorem z8m : FnScope ["self"] ["self"] (zi z3r) := ⟨rfl, rfl, rfl, by decide +kernel, rfl, by decide +kernel, by decide +kernel⟩
theorem z8n : FnScope ["self"] ["self"] (zi z3s) := ⟨rfl, rfl, rfl, by decide +kernel, rfl, by decide +kernel, by decide +kernel⟩
theorem z8o : FnScope ["self", "tick"] ["self", "tick"] (zi z3t) := ⟨rfl, rfl, rfl, by decide +kernel, rfl, by decide +kernel, by decide +kernel⟩
theorem sc_Keeper_names_in_way : FnScope ["self", "holder", "lock", "shared", "tick", "others"] ["self", "holder", "lock", "shared", "tick"] (zi z2c) := ⟨rfl, rfl, rfl, by decide +kernel, rfl, by decide +kernel, by decide +kernel⟩
theorem z5m : FnScope ["self", "holder", "lock", "shared", "tick"] ["self", "holder", "lock", "shared", "tick"] (zi z2n) := ⟨rfl, rfl, rfl, by decide +kernel, rfl, by decide +kernel, by decide +kernel⟩
theorem sc_Keeper_take : FnScope ["self", "number", "holder", "lock", "shared", "tick", "time", "others"] ["self", "number", "holder", "lock", "shared", "tick", "time"] (zi z3u) := ⟨rfl, rfl, rfl, by decide +kernel, rfl, by decide +kernel, by decide +kernel⟩
theorem z8p : FnScope ["self", "number", "tick"] ["self", "number", "tick"] (zi z3v) := ⟨rfl, rfl, rfl, by decide +kernel, rfl, by decide +kernel, by decide +kernel⟩
theorem z5n : FnScope ["self", "many"] ["self", "many"] (zi z2o) := ⟨rfl, rfl, rfl, by decide +kernel, rfl, by decide +kernel, by decide +kernel⟩
theorem z5g : FnScope ["self", "place"] ["self", "place"] (zi z2h) := ⟨rfl, rfl, rfl, by decide +kernel, rfl, by decide +kernel, by decide +kernel⟩
theorem z52 : FnScope ["self"] ["self"] (zi z2d) := ⟨rfl, rfl, rfl, by decide +kernel, rfl, by decide +kernel, by decide +kernel⟩
theorem sc_Council_fall : FnScope ["self", "keeper", "chosen", "was_up"] ["self", "keeper"] (zi z3a) := ⟨rfl, rfl, rfl, by decide +kernel, rfl, by decide +kernel, by decide +kernel⟩
theorem sc_Council_rise : FnScope ["self", "keeper", "chosen", "was_up"] ["self", "keeper"] (zi z3b) := ⟨rfl, rfl, rfl, by decide +kernel, rfl, by decide +kernel, by decide +kernel⟩
theorem z7d : FnScope ["self", "keeper", "tick"] ["self", "keeper", "tick"] (zi z39) := ⟨rfl, rfl, rfl, by decide +kernel, rfl, by decide +kernel, by decide +kernel⟩
theorem z6n : FnScope ["self", "holder", "lock", "shared", "tick"] ["self", "holder", "lock", "shared", "tick"] (zi z32) := ⟨rfl, rfl, rfl, by decide +kernel, rfl, by decide +kernel, by decide +kernel⟩
theorem sc_Council_give : FnScope ["self", "holder", "lock", "shared", "tick", "time", "sayers", "number", "place"] ["self", "holder", "lock", "shared", "tick", "time"] (zi z3c) := ⟨rfl, rfl, rfl, by decide +kernel, rfl, by decide +kernel, by decide +kernel⟩
theorem sc_Council_drop : FnScope ["self", "number", "tick", "droppers", "place", "keeper"] ["self", "number", "tick"] (zi z3d) := ⟨rfl, rfl, rfl, by decide +kernel, rfl, by decide +kernel, by decide +kernel⟩
theorem zcr : FnScope ["_law_script", "_law_k"] ["_law_script", "_law_k"] (zi z65) := ⟨rfl, rfl, rfl, by decide +kernel, rfl, by decide +kernel, by decide +kernel⟩
theorem z4i : FnScope ["_law_found", "_law_due"] ["_law_found", "_law_due"] (zi z2g) := ⟨rfl, rfl, rfl, by decide +kernel, rfl, by decide +kernel, by decide +kernel⟩
theorem sc__law_name : FnScope ["_law_cell", "_law_k", "_law_signs", "_law_rest", "_law_many", "_law_spot", "_law_made", "_law_j", "_law_place"] ["_law_cell", "_law_k"] (zi z4p) := ⟨rfl, rfl, rfl, by decide +kernel, rfl, by decide +kernel, by decide +kernel⟩
theorem z9r : FnScope ["_law_cell", "_law_many"] ["_law_cell", "_law_many"] (zi z4b) := ⟨rfl, rfl, rfl, by decide +kernel, rfl, by decide +kernel, by decide +kernel⟩
theorem sc__law_locks : FnScope ["_law_cell", "_law_words", "_law_many", "_law_made", "_law_rest", "_law_k", "_law_parent", "_law_path"] ["_law_cell", "_law_words", "_law_many"] (zi z4c) := ⟨rfl, rfl, rfl, by decide +kernel, rfl, by decide +kernel, by decide +kernel⟩
theorem sc__law_some : FnScope ["_law_cell", "_law_names_here", "_law_found", "_law_rest", "_law_name_here"] ["_law_cell", "_law_names_here"] (zi z4q) := ⟨rfl, rfl, rfl, by decide +kernel, rfl, by decide +kernel, by decide +kernel⟩
theorem sc__law_setup : FnScope ["_law_script", "_law_keepers", "_law_holders", "_law_locks_here", "_law_sharing", "_law_stores"] ["_law_script"] (zi z4d) := ⟨rfl, rfl, rfl, by decide +kernel, rfl, by decide +kernel, by decide +kernel⟩
theorem sc__law_asked : FnScope ["_law_rest", "_law_k", "_law_setup_here", "_law_holder", "_law_lock", "_law_shared"] ["_law_rest", "_law_k", "_law_setup_here"] (zi z4e) := ⟨rfl, rfl, rfl, by decide +kernel, rfl, by decide +kernel, by decide +kernel⟩
theorem sc__law_line : FnScope ["_law_one", "_law_other", "_law_first", "_law_second", "_law_many"] ["_law_one", "_law_other"] (zi z4r) := ⟨rfl, rfl, rfl, by decide +kernel, rfl, by decide +kernel, by decide +kernel⟩
theorem zbd : FnScope ["_law_lock", "_law_shared", "_law_other", "_law_other_shared"] ["_law_lock", "_law_shared", "_law_other", "_law_other_shared"] (zi z5f) := ⟨rfl, rfl, rfl, by decide +kernel, rfl, by decide +kernel, by decide +kernel⟩
theorem sc__law_given : FnScope ["_law_council", "_law_asking", "_law_tick", "_law_refused"] ["_law_council", "_law_asking", "_law_tick"] (zi z4f) := ⟨rfl, rfl, rfl, by decide +kernel, rfl, by decide +kernel, by decide +kernel⟩
theorem sc__law_clear : FnScope ["_law_grants_made", "_law_asking", "_law_tick", "_law_dropped", "_law_one"] ["_law_grants_made", "_law_asking", "_law_tick", "_law_dropped"] (zi z4g) := ⟨rfl, rfl, rfl, by decide +kernel, rfl, by decide +kernel, by decide +kernel⟩
theorem z9s : FnScope ["_law_found", "_law_ups", "_law_keepers", "_law_top"] ["_law_found", "_law_ups", "_law_keepers", "_law_top"] (zi z4h) := ⟨rfl, rfl, rfl, by decide +kernel, rfl, by decide +kernel, by decide +kernel⟩
theorem sc_law : FnScope ["_law_script", "_law_setup_here", "_law_council", "_law_ups", "_law_made", "_law_gone", "_law_tick", "_law_top", "_law_k", "_law_kind", "_law_rest", "_law_event", "_law_asking", "_law_found"] ["_law_script"] (zi z6i) := ⟨rfl, rfl, rfl, by decide +kernel, rfl, by decide +kernel, by decide +kernel⟩
variable {C_Council C_Down C_InTheWay C_Keeper C_NotFree C_OldNumber C_UnknownKeeper : Addr}
section
variable {P : Program} {w : World} {K : PySem.W.Frag} {mg : Str → Option Value} {base : Heap}
def sp (a : Str) : List Str := Txt.split a "/"
def z67 (a b : Str) : Bool := decide ((sp a).take (sp b).length = sp b)
def zap : Sp := fun vs H Q _ => ∃ a b : Str, vs = [.str a, .str b] ∧ a.length ≤ 1000 ∧ b.length ≤ 1000 ∧ z3x H Q (.bl (z67 a b))
theorem ze3 (F : Def K mg "within" z7b ["inner", "outer"]) (T : Txt K mg C_Council C_Down C_InTheWay C_Keeper C_NotFree C_OldNumber C_UnknownKeeper) : Has P w K mg base 1 "within" ["inner", "outer"] (zap) := by
 refine F.ok sc_within (fun vs H Q E h => ?_) (fun f cdv A outer s H vs Q E hr h => ?_)
 ·obtain ⟨a, b, rfl, _⟩ := h
  rfl
 ·obtain ⟨a, b, rfl, ha, hb, k⟩ := h
  have hu := hr.units0
  refine ⟨_, (za (zm (i := 2) sc_within.nd rfl (Or.inl rfl) (z3g PySem.F.plainAttrs_str PySem.F.slot_str_split PySem.F.type_str_split z5c (pv 1) (z0 z1o z7)))
   (zc (zl (z1c (zdh hu) (z58 z89 (z3g PySem.F.plainAttrs_str PySem.F.slot_str_split PySem.F.type_str_split z5c (pv 0) (z0 z1o z7)) z6f (z6g (zd zr rfl T.b_len (by decide +kernel) (z0 (pv 2) z7)))) (pv 2) (zk _))))), ?_⟩
  walk_at "rd"
  refine z6h rfl (by omega) fun p hp => z6h rfl (by omega) fun q hq => ?_
  have npq : p ≠ q := zh z9 hq
  refine ⟨_, rfl, _, .inl (SqL.of (by rw [zb npq, z9])), _, _, rfl, SqL.of z9, fun r hr' => ?_⟩
  have nr : ∀ b, b = p ∨ b = q → b ≠ r := fun b hb z => by
   subst z
   rcases hb with rfl | rfl
   ·rw [zb npq, z9] at hr'; cases hr'
   ·rw [z9] at hr'; cases hr'
  refine ⟨_, _, _, _, rfl, rfl, SqL.of z9, SqL.of (by rw [zb (nr p (.inl rfl)), zb npq, z9]), ?_, z2k _, ?_⟩
  ·rw [List.length_map, z7o, ← List.map_take]
   exact z2k _
  ·rw [List.length_map, z7o, ← List.map_take]
   have e : eqVs (List.map V.str (List.take (sp b).length (sp a))) (List.map V.str (sp b)) = z67 a b := z47 _ _
   show Q (.bl (eqVs (List.map V.str (List.take (sp b).length (sp a))) (List.map V.str (sp b)))) _
   rw [e]
   exact k _ (((Same.upd hp).trans (Same.upd hq)).trans (Same.upd hr'))
def onl (a b : Str) : Bool := z67 a b || z67 b a
def spOn : Sp := fun vs H Q _ => ∃ a b : Str, vs = [.str a, .str b] ∧ a.length ≤ 1000 ∧ b.length ≤ 1000 ∧ z3x H Q (.bl (onl a b))
theorem zcs (F : Def K mg "on_line" z64 ["one", "other"]) (T : Txt K mg C_Council C_Down C_InTheWay C_Keeper C_NotFree C_OldNumber C_UnknownKeeper) (G_within : Has P w K mg base 1 "within" ["inner", "outer"] (zap)) : Has P w K mg base 2 "on_line" ["one", "other"] (spOn) := by
 refine F.ok zcq (fun vs H Q E h => ?_) (fun f cdv A outer s H vs Q E hr h => ?_)
 ·obtain ⟨a, b, rfl, _⟩ := h
  rfl
 ·obtain ⟨a, b, rfl, ha, hb, k⟩ := h
  refine ⟨_, (zc (zl (zhi (z15 G_within (hr.mono (by decide)) rfl (z0 (pv 0) (z0 (pv 1) z7))) (z1i (z15 G_within (hr.mono (by decide)) rfl (z0 (pv 1) (z0 (pv 0) z7))))))), ?_⟩
  walk_at "rd"
  refine ⟨a, b, rfl, ha, hb, fun H1 s1 => ⟨_, rfl, ?_⟩⟩
  cases e : z67 a b with
  | true =>
   rw [if_pos rfl]
   have := k H1 s1
   simpa [onl, e] using this
  | false =>
   rw [if_neg Bool.false_ne_true]
   refine ⟨b, a, rfl, hb, ha, fun H2 s2 => ?_⟩
   have := k H2 (s1.trans s2)
   simpa [onl, e] using this
def zfw : Sp := fun vs H Q _ => ∃ (a b : Str) (x y : Bool), vs = [.str a, .bl x, .str b, .bl y] ∧ a.length ≤ 1000 ∧ b.length ≤ 1000 ∧ z3x H Q (.bl (onl a b && !(x && y)))
theorem ze4 (F : Def K mg "in_way" z7c ["lock", "shared", "other", "other_shared"]) (T : Txt K mg C_Council C_Down C_InTheWay C_Keeper C_NotFree C_OldNumber C_UnknownKeeper) (G_on_line : Has P w K mg base 2 "on_line" ["one", "other"] (spOn)) : Has P w K mg base 3 "in_way" ["lock", "shared", "other", "other_shared"] (zfw) := by
 refine F.ok ze2 (fun vs H Q E h => ?_) (fun f cdv A outer s H vs Q E hr h => ?_)
 ·obtain ⟨a, b, x, y, rfl, _⟩ := h
  rfl
 ·obtain ⟨a, b, x, y, rfl, ha, hb, k⟩ := h
  refine ⟨_, (zc (zl (z1p (z15 G_on_line (hr.mono (by decide)) rfl (z0 (pv 0) (z0 (pv 2) z7))) (z1i (za7 (z1p (pv 1) (z1i (pv 3)))))))), ?_⟩
  walk_at "rd"
  refine ⟨a, b, rfl, ha, hb, fun H1 s1 => ⟨_, rfl, ?_⟩⟩
  have := k H1 s1
  cases e : onl a b <;> cases x <;> simp_all
structure Nt where
 n : Int
 h : Str
 l : Str
 sh : Bool
 e : Int
deriving DecidableEq
def Nt.vals (x : Nt) : List V := [.int x.n, .str x.h, .str x.l, .bl x.sh, .int x.e]
abbrev NL := List (Addr × Nt)
def refs (L : NL) : List V := L.map fun q => V.ref q.1
structure NotesAt (H : Hp) (L : NL) : Prop where
 tu : ∀ q ∈ L, H q.1 = some (.tup q.2.vals)
 sm : ∀ q ∈ L, q.2.h.length ≤ 1000 ∧ q.2.l.length ≤ 1000
theorem NotesAt.mono {H H' : Hp} {L : NL} (h : NotesAt H L) (s : Same H H') : NotesAt H' L := ⟨fun q hq => s _ _ (h.tu q hq), h.sm⟩
theorem NotesAt.sub {H : Hp} {L L' : NL} (h : NotesAt H L) (s : ∀ q ∈ L', q ∈ L) : NotesAt H L' := ⟨fun q hq => h.tu q (s q hq), fun q hq => h.sm q (s q hq)⟩
theorem n1 : ¬ (("up" : Str) = "top") := by decide +kernel
theorem n2 : ¬ (("up" : Str) = "kept") := by decide +kernel
theorem n3 : ¬ (("top" : Str) = "kept") := by decide +kernel
def kf (u : Bool) (t : Int) (l : Addr) : List (Str × V) := [("up", .bl u), ("top", .int t), ("kept", .ref l)]
theorem z6j (u : Bool) (t : Int) (l : Addr) : (kf u t l).lookup ("up" : Str) = some (.bl u) := by simp [kf, List.lookup_cons]
theorem ze5 (u : Bool) (t : Int) (l : Addr) : (kf u t l).lookup ("top" : Str) = some (.int t) := by
 have e : (("top" : Str) == "up") = false := by decide +kernel
 simp [kf, List.lookup_cons, e]
theorem z2u (u : Bool) (t : Int) (l : Addr) : (kf u t l).lookup ("kept" : Str) = some (.ref l) := by
 have e : (("kept" : Str) == "up") = false := by decide +kernel
 have e' : (("kept" : Str) == "top") = false := by decide +kernel
 simp [kf, List.lookup_cons, e, e']
theorem z3j (u : Bool) (t : Int) (l : Addr) {m : Str} (h1 : (m == "up") = false) (h2 : (m == "top") = false) (h3 : (m == "kept") = false) : (kf u t l).lookup m = none := by
 simp [kf, List.lookup_cons, h1, h2, h3]
theorem zhk (u : Bool) (t : Int) (l : Addr) : putF "kept" (.ref l) (putF "top" (.int t) (putF "up" (.bl u) [])) = kf u t l := by
 simp [putF, kf, n1, n2, n3]
theorem z9d (u u' : Bool) (t : Int) (l : Addr) : putF "up" (.bl u') (kf u t l) = kf u' t l := by simp [putF, kf]
theorem zct (u : Bool) (t t' : Int) (l : Addr) : putF "top" (.int t') (kf u t l) = kf u t' l := by simp [putF, kf, n1]
theorem z4s (u : Bool) (t : Int) (l l' : Addr) : putF "kept" (.ref l') (kf u t l) = kf u t l' := by simp [putF, kf, n2, n3]
structure KeeperAt (C : Addr) (H : Hp) (k : Addr) (u : Bool) (t : Int) (L : NL) : Prop where
 ob : ∃ dx l, H k = some (.ins C dx (kf u t l)) ∧ H l = some (.lst (refs L))
 nt : NotesAt H L
 len : L.length ≤ 1000
theorem KeeperAt.mono {C : Addr} {H H' : Hp} {k : Addr} {u : Bool} {t : Int} {L : NL} (h : KeeperAt C H k u t L) (s : Same H H') : KeeperAt C H' k u t L := by
 obtain ⟨⟨dx, l, h1, h2⟩, h3, h4⟩ := h
 exact ⟨⟨dx, l, s _ _ h1, s _ _ h2⟩, h3.mono s, h4⟩
def But (k : Addr) (H H' : Hp) : Prop := ∀ b o, H b = some o → b ≠ k → H' b = some o
theorem But.of {k : Addr} {H H' : Hp} (s : Same H H') : But k H H' := fun b o e _ => s b o e
theorem z2p {L : NL} {i : Nat} {x : V} (h : (refs L)[i]? = some x) : ∃ q, L[i]? = some q ∧ x = .ref q.1 := by
 unfold refs at h
 rw [List.getElem?_map] at h
 cases e : L[i]? with
 | none => rw [e] at h; cases h
 | some q => rw [e] at h; exact ⟨q, rfl, (Option.some.inj h).symm⟩
theorem z12 (L : NL) : (refs L).length = L.length := List.length_map _
theorem z1w {α : Type} (p : α → Bool) {L : List α} {i : Nat} {x : α} (h : L[i]? = some x) : (L.take (i + 1)).filter p = (L.take i).filter p ++ (if p x = true then [x] else []) := by
 rw [List.take_succ, h, List.filter_append]
 simp [List.filter_cons]
theorem z1g {H H' : Hp} {p : Addr} (s : Same H H') (h : H' p = none) : H p = none := by
 cases e : H p with
 | none => rfl
 | some o => rw [s _ _ e] at h; cases h
def ze6 (C : Addr) : Sp := fun vs H Q _ => ∃ (k dx : Addr), vs = [.ref k] ∧ H k = some (.ins C dx []) ∧ ∀ (H' : Hp), KeeperAt C H' k true 0 [] → (∃ dx l, H' k = some (.ins C dx (kf true 0 l)) ∧ H l = none) → But k H H' → Q .non H'
theorem z68 (F : KDef K C_Keeper "Keeper.__init__" z2w ["self"]) (T : Txt K mg C_Council C_Down C_InTheWay C_Keeper C_NotFree C_OldNumber C_UnknownKeeper) : KHas P w K mg base 1 C_Keeper ["self"] (ze6 C_Keeper) := by
 refine F.ok z66 (fun vs H Q E h => ?_) (fun f cdv A outer s H vs Q E hr h => ?_)
 ·obtain ⟨k, dx, rfl, _⟩ := h
  rfl
 ·obtain ⟨k, dx, rfl, hk, q⟩ := h
  refine ⟨_, (za (z2x (pv 0) z1m rfl)
   (za (z2x (pv 0) z8 rfl)
   (zc (z2x (pv 0) (z22 z7) rfl)))), ?_⟩
  walk_at "rd"
  refine ⟨_, _, _, hk, T.cl_Keeper, T.n_Keeper_up, by decide, _, _, _, z9, T.cl_Keeper, T.n_Keeper_top, by show (1 : Nat) < 1000; decide, Nat.zero_le _, fun p hp => ?_⟩
  have nkp : k ≠ p := zh z9 hp
  refine ⟨_, _, _, by rw [zb nkp, z9], T.cl_Keeper, T.n_Keeper_kept, by simp [putF, n1], ?_⟩
  rw [zhk]
  refine q _ ⟨⟨dx, p, z9, by rw [zb nkp.symm, z9]; rfl⟩, ⟨by simp, by simp⟩, by simp⟩ ⟨dx, p, z9, ?_⟩ fun b o e nb => ?_
  ·rw [zb nkp.symm, zb nkp.symm] at hp
   exact hp
  have nbp : b ≠ p := fun z => by
   subst z
   rw [zb nb, zb nb, e] at hp
   cases hp
  rw [zb nb, zb nbp, zb nb, zb nb]
  exact e
def z13 (tick : Int) (L : NL) : NL := L.filter fun q => decide (tick < q.2.e)
def z7y (C : Addr) : Sp := fun vs H Q _ => ∃ (k : Addr) (u : Bool) (t : Int) (L : NL) (tick : Int), vs = [.ref k, .int tick] ∧ KeeperAt C H k u t L ∧ ∀ (r : Addr) (H' : Hp), H r = none → H' r = some (.lst (refs (z13 tick L))) → Same H H' → Q (.ref r) H'
theorem z8q (F : MDef K C_Keeper "live" "Keeper.live" z3t ["self", "tick"]) (T : Txt K mg C_Council C_Down C_InTheWay C_Keeper C_NotFree C_OldNumber C_UnknownKeeper) : MHas P w K mg base CX0 1 C_Keeper "live" ["self", "tick"] (z7y C_Keeper) := by
 refine F.ok z8o (fun vs H Q E h => ?_) (fun f cdv A outer s H vs Q E hr h => ?_)
 ·obtain ⟨k, u, t, L, tick, rfl, _⟩ := h
  rfl
 ·obtain ⟨k, u, t, L, tick, rfl, hk, q⟩ := h
  refine ⟨_, (zc (zl (z1y (x := "note") (cap := ["tick"]) (js := [1]) rfl ⟨rfl, by decide +kernel, by decide +kernel, rfl, zy rfl, by decide +kernel, ⟨⟨rfl, Or.inl rfl, rfl⟩, trivial⟩⟩ (z1k (z21 (pv 0) rfl)) (fun _ _ _ _ => (z2f (zo za1 (pv 1) (zj (z1a (K := K)) (pv 0) z8 (fun _ _ => rfl)) (zk _)))) (fun _ _ _ _ => (pv 0))))), ?_⟩
  walk_at "rd"
  obtain ⟨⟨dx, l, h1, h2⟩, hn, hlen⟩ := hk
  refine ⟨_, _, _, h1, T.cl_Keeper, T.n_Keeper_kept, _, z2u u t l, l, rfl, ⟨_, SqL.of h2⟩, ?_⟩
  refine z1n (xs := refs L) (by rw [z12]; exact ze (by omega)) (fun i acc H' => acc = refs (z13 tick (L.take i)) ∧ H' = H) ⟨by simp [z13, refs], rfl⟩ ?_ ?_ ?_ ?_
  ·rintro i acc H' ⟨rfl, -⟩
   rw [z12]
   exact Nat.le_trans (List.length_filter_le _ _) (by rw [List.length_take]; omega)
  ·rintro i acc H' ⟨-, rfl⟩
   exact SqL.of h2
  ·rintro Nn i acc H' x hN hx hi ⟨rfl, rfl⟩
   obtain ⟨y, hy, rfl⟩ := z2p hx
   walk_at "rd"
   refine ⟨_, _, _, _, rfl, rfl, SqT.of (hn.tu _ (List.mem_of_getElem? hy)), zf (j := 4) rfl, ?_⟩
   have st := z1w (fun q : Addr × Nt => decide (tick < q.2.e)) hy
   by_cases hc : tick < y.2.e
   ·refine ⟨_, rfl, ?_⟩
    simp only [hc, decide_true, if_true]
    refine hN _ _ ⟨?_, rfl⟩
    unfold z13
    rw [st]
    simp [hc, refs]
   ·refine ⟨_, rfl, ?_⟩
    simp only [hc, decide_false, Bool.false_eq_true, if_false]
    refine hN _ _ ⟨?_, rfl⟩
    unfold z13
    rw [st]
    simp [hc, refs]
  ·rintro acc H' ⟨rfl, rfl⟩ p hp
   rw [z12, List.take_length]
   exact q p _ hp z9 (Same.upd hp)
def z69 (hd lk : Str) (sh : Bool) (x : Nt) : Bool := decide (x.h ≠ hd) && (onl lk x.l && !(sh && x.sh))
def z2e (L : NL) (hd lk : Str) (sh : Bool) (tick : Int) : Bool := !((z13 tick L).any fun q => z69 hd lk sh q.2)
def othf (hd : Str) (L : NL) : NL := L.filter fun q => decide (q.2.h ≠ hd)
def wayf (lk : Str) (sh : Bool) (L : NL) : List Str := (L.filter fun q => onl lk q.2.l && !(sh && q.2.sh)).map fun q => q.2.h
def z5h (L : NL) (hd lk : Str) (sh : Bool) (tick : Int) : List Str := wayf lk sh (othf hd (z13 tick L))
theorem z73 : ∀ (ss D : List Str), (ss.foldl z18 D).length ≤ D.length + ss.length
 | [], D => Nat.le_refl _
 | v :: ss, D => by
  rw [List.foldl_cons]
  refine Nat.le_trans (z73 ss _) ?_
  unfold z18
  split
  ·simp only [List.length_cons]; omega
  ·simp only [List.length_append, List.length_cons, List.length_nil]; omega
theorem zgf (ss : List Str) : (z1j ss).length ≤ ss.length := by
 have := z73 ss []
 simpa [z1j] using this
theorem zgg {ss ks : List Str} (h : ks.Perm (z1j ss)) : ks = [] ↔ ss = [] := by
 constructor
 ·rintro rfl
  cases ss with
  | nil => rfl
  | cons v ss =>
   have : v ∈ z1j (v :: ss) := (z6v (v :: ss) [] v).mpr (.inr (by simp))
   rw [← h.mem_iff] at this
   cases this
 ·rintro rfl
  exact List.Perm.eq_nil h
theorem ze7 (L : NL) (hd lk : Str) (sh : Bool) (tick : Int) : decide (z5h L hd lk sh tick = []) = z2e L hd lk sh tick := by
 unfold z5h wayf othf z2e
 rw [Bool.eq_iff_iff]
 simp only [decide_eq_true_eq, List.map_eq_nil_iff, List.filter_eq_nil_iff, List.mem_filter, Bool.not_eq_true', List.any_eq_false, z69, Bool.and_eq_true, and_imp]
 constructor
 ·intro h x hx h1
  exact h x hx h1.1 h1.2
 ·intro h x hx h1 h2
  exact h x hx ⟨h1, h2⟩
def zaq (C : Addr) : Sp := fun vs H Q _ => ∃ (k : Addr) (u : Bool) (t : Int) (L : NL) (hd lk : Str) (sh : Bool) (tick : Int), vs = [.ref k, .str hd, .str lk, .bl sh, .int tick] ∧ KeeperAt C H k u t L ∧ L.length ≤ 63 ∧ lk.length ≤ 1000 ∧
 ∀ (r : Addr) (ks : List Str) (H' : Hp), H r = none → H' r = some (.lst (ks.map V.str)) → ks.Perm (z1j (z5h L hd lk sh tick)) → PyProof.Rows.sortedS ks = true → Same H H' → Q (.ref r) H'
theorem z4t (F : MDef K C_Keeper "names_in_way" "Keeper.names_in_way" z2c ["self", "holder", "lock", "shared", "tick"]) (T : Txt K mg C_Council C_Down C_InTheWay C_Keeper C_NotFree C_OldNumber C_UnknownKeeper) (G_in_way : Has P w K mg base 3 "in_way" ["lock", "shared", "other", "other_shared"] (zfw)) (G_Keeper_live : MHas P w K mg base CX0 1 C_Keeper "live" ["self", "tick"] (z7y C_Keeper)) : MHas P w K mg base CX0 4 C_Keeper "names_in_way" ["self", "holder", "lock", "shared", "tick"] (zaq C_Keeper) := by
 refine F.ok sc_Keeper_names_in_way (fun vs H Q E h => ?_) (fun f cdv A outer s H vs Q E hr h => ?_)
 ·obtain ⟨k, u, t, L, hd, lk, sh, tick, rfl, _⟩ := h
  rfl
 ·obtain ⟨k, u, t, L, hd, lk, sh, tick, rfl, hk, h63, hl, q⟩ := h
  have hu := hr.units0
  refine ⟨_, (za (z3w (x := "note") (cap := ["holder"]) (js := [1]) (i := 5) rfl ⟨rfl, by decide +kernel, by decide +kernel, rfl, zy rfl, by decide +kernel, ⟨⟨rfl, Or.inl rfl, rfl⟩, trivial⟩⟩ sc_Keeper_names_in_way.nd rfl (Or.inl rfl) (z1k (z2b G_Keeper_live T.cl_Keeper (hr.mono (by decide)) (pv 0) (z0 (pv 4) z7))) (fun _ _ _ _ => (z2f (zo z20 (zj (z1a (K := K)) (pv 0) z8 (fun _ _ => rfl)) (pv 1) (zk _)))) (fun _ _ _ _ => (pv 0)))
   (zc (zl (zd (zak rfl) rfl T.b_sorted (by decide +kernel) (z0 (z94 (zdz rfl) rfl T.b_set (by decide +kernel) (z0 (z1y (x := "note") (cap := ["lock", "shared"]) (js := [2, 3]) rfl ⟨rfl, by decide +kernel, by decide +kernel, rfl, zy rfl, by decide +kernel, ⟨⟨rfl, Or.inl rfl, rfl⟩, ⟨⟨rfl, Or.inl rfl, rfl⟩, trivial⟩⟩⟩ (z1k (pv 5)) (fun _ _ _ _ => (z2f (z16 (z15 G_in_way (hr.mono (by decide)) rfl (z0 (pv 1) (z0 (pv 2) (z0 (zj (z1a (K := K)) (pv 0) z8 (fun _ _ => rfl)) (z0 (zj (z1a (K := K)) (pv 0) z8 (fun _ _ => rfl)) z7)))))))) (fun _ _ _ _ => (zj (z1a (K := K)) (pv 0) z8 (fun _ _ => rfl)))) z7)) z7))))), ?_⟩
  walk_at "rd"
  obtain ⟨⟨dx, l, h1, h2⟩, hn, hlen⟩ := id hk
  refine ⟨_, _, h1, z3j u t l (by decide +kernel) (by decide +kernel) (by decide +kernel), k, u, t, L, tick, rfl, hk, fun r H1 hr0 hr1 hs1 => ⟨r, rfl, ⟨_, SqL.of hr1⟩, ?_⟩⟩
  have hn1 : NotesAt H1 (z13 tick L) := (hn.mono hs1).sub fun q h => (List.mem_filter.mp h).1
  have l1 : (z13 tick L).length ≤ 63 := Nat.le_trans (List.length_filter_le _ _) h63
  refine z1n (xs := refs (z13 tick L)) (by rw [z12]; exact ze (by omega)) (fun i acc H' => acc = refs (othf hd ((z13 tick L).take i)) ∧ H' = H1) ⟨by simp [othf, refs], rfl⟩ ?_ ?_ ?_ ?_
  ·rintro i acc H' ⟨rfl, -⟩
   rw [z12]
   exact Nat.le_trans (List.length_filter_le _ _) (by rw [List.length_take]; omega)
  ·rintro i acc H' ⟨-, rfl⟩
   exact SqL.of hr1
  ·rintro Nn i acc H' x hN hx hi ⟨rfl, rfl⟩
   obtain ⟨y, hy, rfl⟩ := z2p hx
   walk_at "rd"
   have st := z1w (fun q : Addr × Nt => decide (q.2.h ≠ hd)) hy
   refine ⟨_, _, _, _, rfl, rfl, SqT.of (hn1.tu _ (List.mem_of_getElem? hy)), zf (j := 1) rfl, ?_⟩
   by_cases hc : y.2.h = hd
   ·refine ⟨rfl, ?_⟩
    simp only [V.str.injEq, hc, decide_true, Bool.not_true, Bool.false_eq_true, if_false]
    refine hN _ _ ⟨?_, rfl⟩
    unfold othf
    rw [st]
    simp [hc]
   ·refine ⟨rfl, ?_⟩
    simp only [V.str.injEq, hc, decide_false, Bool.not_false, if_true]
    refine hN _ _ ⟨?_, rfl⟩
    unfold othf
    rw [st]
    simp [hc, refs]
  rintro acc H' ⟨rfl, rfl⟩ p hp
  rw [z12, List.take_length]
  refine ⟨p, rfl, ⟨_, SqL.of z9⟩, ?_⟩
  have s2 := hs1.trans (Same.upd (o := .lst (refs (othf hd (z13 tick L)))) hp)
  have gp : upd H' p (.lst (refs (othf hd (z13 tick L)))) p = some (.lst (refs (othf hd (z13 tick L)))) := z9
  generalize upd H' p (.lst (refs (othf hd (z13 tick L)))) = H2 at s2 gp ⊢
  have hn2 : NotesAt H2 (othf hd (z13 tick L)) := (hn.mono s2).sub fun q h => (List.mem_filter.mp (List.mem_filter.mp h).1).1
  have l2 : (othf hd (z13 tick L)).length ≤ 63 := Nat.le_trans (List.length_filter_le _ _) l1
  have eW : z5h L hd lk sh tick = wayf lk sh (othf hd (z13 tick L)) := rfl
  generalize othf hd (z13 tick L) = O at gp hn2 l2 eW ⊢
  refine z1n (xs := refs O) (by rw [z12]; exact ze (by omega)) (fun i acc H' => acc = (wayf lk sh (O.take i)).map V.str ∧ Same H2 H') ⟨by simp [wayf], Same.refl _⟩ ?_ ?_ ?_ ?_
  ·rintro i acc H' ⟨rfl, -⟩
   rw [List.length_map]
   unfold wayf
   rw [List.length_map]
   exact Nat.le_trans (List.length_filter_le _ _) (by rw [List.length_take]; omega)
  ·rintro i acc H' ⟨-, s3⟩
   exact SqL.of (s3 _ _ gp)
  ·rintro Nn i acc H' x hN hx hi ⟨rfl, s3⟩
   obtain ⟨y, hy, rfl⟩ := z2p hx
   walk_at "rd"
   have st := z1w (fun q : Addr × Nt => onl lk q.2.l && !(sh && q.2.sh)) hy
   have ty := hn2.tu _ (List.mem_of_getElem? hy)
   have sm := hn2.sm _ (List.mem_of_getElem? hy)
   refine ⟨_, _, _, _, rfl, rfl, SqT.of (s3 _ _ ty), zf (j := 2) rfl, ?_⟩
   refine ⟨_, _, _, _, rfl, rfl, SqT.of (s3 _ _ ty), zf (j := 3) rfl, ?_⟩
   refine ⟨_, _, _, _, rfl, hl, sm.2, fun H4 s4 => ⟨_, rfl, ?_⟩⟩
   cases hw : (onl lk y.2.l && !(sh && y.2.sh)) with
   | true =>
    rw [if_pos rfl]
    refine ⟨_, _, _, _, rfl, rfl, SqT.of (s4 _ _ (s3 _ _ ty)), zf (j := 1) rfl, hN _ _ ⟨?_, s3.trans s4⟩⟩
    unfold wayf
    rw [st, hw]
    simp
   | false =>
    rw [if_neg Bool.false_ne_true]
    refine hN _ _ ⟨?_, s3.trans s4⟩
    unfold wayf
    rw [st, hw]
    simp
  rintro acc H' ⟨rfl, s3⟩ p2 hp2
  rw [z12, List.take_length, ← eW]
  have l3 : (z5h L hd lk sh tick).length ≤ 63 := by
   rw [eW]
   unfold wayf
   rw [List.length_map]
   exact Nat.le_trans (List.length_filter_le _ _) l2
  refine ⟨p2, rfl, _, SqL.of z9, Nat.lt_of_le_of_lt (Nat.succ_le_succ l3) (by decide +kernel), fun d hd' => ⟨_, z9, z5l _ _ List.nodup_nil, Nat.lt_of_le_of_lt (zgf _) (by omega), fun l' ks hl' hperm hsort => ?_⟩⟩
  have s5 := ((s2.trans s3).trans (Same.upd (o := .lst ((z5h L hd lk sh tick).map V.str)) hp2)).trans (Same.upd (o := tso P w d (z1j (z5h L hd lk sh tick))) hd')
  exact q l' ks _ (z1g s5 hl') z9 hperm hsort (s5.trans (Same.upd hl'))
def zar (C : Addr) : Sp := fun vs H Q _ => ∃ (k : Addr) (u : Bool) (t : Int) (L : NL) (hd lk : Str) (sh : Bool) (tick : Int), vs = [.ref k, .str hd, .str lk, .bl sh, .int tick] ∧ KeeperAt C H k u t L ∧ L.length ≤ 63 ∧ lk.length ≤ 1000 ∧ z3x H Q (.bl (z2e L hd lk sh tick))
theorem z5o (F : MDef K C_Keeper "says_free" "Keeper.says_free" z2n ["self", "holder", "lock", "shared", "tick"]) (T : Txt K mg C_Council C_Down C_InTheWay C_Keeper C_NotFree C_OldNumber C_UnknownKeeper) (G_Keeper_names_in_way : MHas P w K mg base CX0 4 C_Keeper "names_in_way" ["self", "holder", "lock", "shared", "tick"] (zaq C_Keeper)) : MHas P w K mg base CX0 5 C_Keeper "says_free" ["self", "holder", "lock", "shared", "tick"] (zar C_Keeper) := by
 refine F.ok z5m (fun vs H Q E h => ?_) (fun f cdv A outer s H vs Q E hr h => ?_)
 ·obtain ⟨k, u, t, L, hd, lk, sh, tick, rfl, _⟩ := h
  rfl
 ·obtain ⟨k, u, t, L, hd, lk, sh, tick, rfl, hk, h63, hl, q⟩ := h
  have hu := hr.units0
  refine ⟨_, (zc (zl (z1c (zev hu) (z2b G_Keeper_names_in_way T.cl_Keeper (hr.mono (by decide)) (pv 0) (z0 (pv 1) (z0 (pv 2) (z0 (pv 3) (z0 (pv 4) z7))))) (z22 z7) (zk _)))), ?_⟩
  walk_at "rd"
  obtain ⟨⟨dx, l, h1, h2⟩, hn, hlen⟩ := id hk
  refine ⟨_, _, h1, z3j u t l (by decide +kernel) (by decide +kernel) (by decide +kernel), k, u, t, L, hd, lk, sh, tick, rfl, hk, h63, hl, fun r ks H1 hr0 hr1 hp hs s1 => ⟨Nat.zero_le _, fun p hp0 => ⟨r, rfl, _, SqL.of (Same.upd hp0 _ _ hr1), SqL.of z9, ?_⟩⟩⟩
  have e : (ks.map V.str).isEmpty = z2e L hd lk sh tick := by
   rw [← ze7, Bool.eq_iff_iff]
   simp only [List.isEmpty_iff, List.map_eq_nil_iff, decide_eq_true_eq]
   exact zgg hp
  rw [e]
  exact q _ (s1.trans (Same.upd hp0))
def z3k (hd lk : Str) (L : NL) : NL := L.filter fun q => !(decide (q.2.h = hd) && decide (q.2.l = lk))
def ze8 (C CD CO CI : Addr) : Sp := fun vs H Q E => ∃ (k : Addr) (u : Bool) (t : Int) (L : NL) (n : Int) (hd lk : Str) (sh : Bool) (tick time : Int), vs = [.ref k, .int n, .str hd, .str lk, .bl sh, .int tick, .int time] ∧ KeeperAt C H k u t L ∧ L.length ≤ 62 ∧ hd.length ≤ 1000 ∧ lk.length ≤ 1000 ∧
 (u = false → E (.ref CD) none H) ∧ (u = true → n ≤ t → E (.ref CO) none H) ∧ (u = true → t < n → z2e L hd lk sh tick = false → ∀ H', Same H H' → E (.ref CI) none H') ∧
 (u = true → t < n → z2e L hd lk sh tick = true → ∀ (p : Addr) (H' : Hp), H p = none → KeeperAt C H' k u n (z3k hd lk L ++ [(p, ⟨n, hd, lk, sh, tick + time⟩)]) → (∃ dx l, H' k = some (.ins C dx (kf u n l)) ∧ H l = none) → But k H H' → Q .non H')
theorem z8r (F : MDef K C_Keeper "take" "Keeper.take" z3u ["self", "number", "holder", "lock", "shared", "tick", "time"]) (T : Txt K mg C_Council C_Down C_InTheWay C_Keeper C_NotFree C_OldNumber C_UnknownKeeper) (G_Keeper_says_free : MHas P w K mg base CX0 5 C_Keeper "says_free" ["self", "holder", "lock", "shared", "tick"] (zar C_Keeper)) : MHas P w K mg base (CX1 P w) 6 C_Keeper "take" ["self", "number", "holder", "lock", "shared", "tick", "time"] (ze8 C_Keeper C_Down C_OldNumber C_InTheWay) := by
 refine F.okx sc_Keeper_take (fun vs H Q E h => ?_) (fun f cdv A outer s H vs Q E hr h => ?_)
 ·obtain ⟨k, u, t, L, n, hd, lk, sh, tick, time, rfl, _⟩ := h
  rfl
 ·obtain ⟨k, u, t, L, n, hd, lk, sh, tick, time, rfl, hk, h900, hh, hl, e1, e2, e3, q⟩ := h
  have hu := hr.units0
  refine ⟨_, (za (zt (z34 (z16 (z21 (pv 0) rfl))) (zc (z48 z3o rfl PySem.F.excBase_ValueError T.x_Down rfl T.g_Down (z0 z1o z7))) zp)
   (za (zt (zo z7i (pv 1) (z21 (pv 0) rfl) (zk _)) (zc (z48 z3o rfl PySem.F.excBase_ValueError T.x_OldNumber rfl T.g_OldNumber (z0 z1o z7))) zp)
   (za (zt (z34 (z16 (z2b G_Keeper_says_free T.cl_Keeper (hr.mono (by decide)) (pv 0) (z0 (pv 2) (z0 (pv 3) (z0 (pv 4) (z0 (pv 5) z7))))))) (zc (z48 z3o rfl PySem.F.excBase_ValueError T.x_InTheWay rfl T.g_InTheWay (z0 z1o z7))) zp)
   (za (z3w (x := "note") (cap := ["holder", "lock"]) (js := [2, 3]) (i := 7) rfl ⟨rfl, by decide +kernel, by decide +kernel, rfl, zy rfl, by decide +kernel, ⟨⟨rfl, Or.inl rfl, rfl⟩, ⟨⟨rfl, Or.inl rfl, rfl⟩, trivial⟩⟩⟩ sc_Keeper_take.nd rfl (Or.inl rfl) (z1k (z21 (pv 0) rfl)) (fun _ _ _ _ => (z2f (zo (zey (K := K) hu) (z1q (z0 (zj (z1a (K := K)) (pv 0) z8 (fun _ _ => rfl)) (z0 (zj (z1a (K := K)) (pv 0) z8 (fun _ _ => rfl)) z7))) (z1q (z0 (pv 1) (z0 (pv 2) z7))) (zk _)))) (fun _ _ _ _ => (pv 0)))
   (za (z2x (pv 0) (zg zad (pv 7) (z22 (z0 (z1q (z0 (pv 1) (z0 (pv 2) (z0 (pv 3) (z0 (pv 4) (z0 (zg zz (pv 5) (pv 6)) z7)))))) z7))) rfl)
   (zc (z2x (pv 0) (pv 1) rfl))))))), ?_⟩
  walk_at "rd"
  obtain ⟨⟨dx, l, h1, h2⟩, hn, hlen⟩ := id hk
  refine ⟨_, _, _, h1, T.cl_Keeper, T.n_Keeper_up, _, z6j u t l, u, rfl, ?_⟩
  cases hup : u with
  | false => exact ⟨ze (by decide), e1 hup⟩
  | true =>
  rw [if_neg (by decide)]
  refine ⟨_, _, _, h1, T.cl_Keeper, T.n_Keeper_top, _, ze5 u t l, t, rfl, ?_⟩
  by_cases hnt : n ≤ t
  ·rw [if_pos (decide_eq_true hnt)]
   exact ⟨ze (by decide), e2 hup hnt⟩
  rw [if_neg (by simpa using hnt)]
  refine ⟨_, _, h1, z3j u t l (by decide +kernel) (by decide +kernel) (by decide +kernel), k, u, t, L, hd, lk, sh, tick, rfl, hk, by omega, hl, fun H1 s1 => ⟨_, rfl, ?_⟩⟩
  cases hf : z2e L hd lk sh tick with
  | false => exact ⟨ze (by decide), e3 hup (by omega) hf H1 s1⟩
  | true =>
  rw [if_neg (by decide)]
  have hn1 := hn.mono s1
  refine ⟨_, _, _, s1 _ _ h1, T.cl_Keeper, T.n_Keeper_kept, _, z2u u t l, l, rfl, ⟨_, SqL.of (s1 _ _ h2)⟩, ?_⟩
  refine z1n (xs := refs L) (by rw [z12]; exact ze (by omega)) (fun i acc H' => acc = refs (z3k hd lk (L.take i)) ∧ Same H1 H') ⟨by simp [z3k, refs], Same.refl _⟩ ?_ ?_ ?_ ?_
  ·rintro i acc H' ⟨rfl, -⟩
   rw [z12]
   exact Nat.le_trans (List.length_filter_le _ _) (by rw [List.length_take]; omega)
  ·rintro i acc H' ⟨-, s2⟩
   exact SqL.of (s2 _ _ (s1 _ _ h2))
  ·rintro Nn i acc H' x hN hx hi ⟨rfl, s2⟩
   obtain ⟨y, hy, rfl⟩ := z2p hx
   walk_at "rd"
   have ty := hn1.tu _ (List.mem_of_getElem? hy)
   refine ⟨_, _, _, _, rfl, rfl, SqT.of (s2 _ _ ty), zf (j := 1) rfl, ?_⟩
   refine ⟨_, _, _, _, rfl, rfl, SqT.of (s2 _ _ ty), zf (j := 2) rfl, ?_⟩
   refine ⟨ze (by decide), fun p hp => ⟨ze (by decide), fun r hr' => ?_⟩⟩
   have npr : p ≠ r := zh z9 hr'
   refine ⟨_, _, _, _, rfl, rfl, SqT.of (by rw [zb npr, z9]), SqT.of z9, rfl, rfl, ?_⟩
   have st := z1w (fun q : Addr × Nt => !(decide (q.2.h = hd) && decide (q.2.l = lk))) hy
   have s3 : Same H1 (upd (upd H' p (.tup [V.str y.2.h, V.str y.2.l])) r (.tup [V.str hd, V.str lk])) := (s2.trans (Same.upd hp)).trans (Same.upd hr')
   have ev : eqVs [V.str y.2.h, V.str y.2.l] [V.str hd, V.str lk] = (decide (y.2.h = hd) && decide (y.2.l = lk)) := by
    have := z47 [y.2.h, y.2.l] [hd, lk]
    simp only [List.map_cons, List.map_nil] at this
    rw [this]
    simp [Bool.decide_and]
   simp only [ev, if_true]
   cases hc : (decide (y.2.h = hd) && decide (y.2.l = lk)) with
   | true =>
    refine ⟨_, rfl, ?_⟩
    rw [if_neg (by decide)]
    refine hN _ _ ⟨?_, s3⟩
    unfold z3k
    rw [st, hc]
    simp
   | false =>
    refine ⟨_, rfl, ?_⟩
    rw [if_pos (by decide)]
    refine hN _ _ ⟨?_, s3⟩
    unfold z3k
    rw [st, hc]
    simp [refs]
  ·rintro acc H2 ⟨rfl, s2⟩ p hp
   rw [z12, List.take_length]
   refine ⟨ze (by decide), fun p1 hp1 => ⟨ze (by decide), fun p2 hp2 => ?_⟩⟩
   have n01 : p ≠ p1 := zh z9 hp1
   have n12 : p1 ≠ p2 := zh z9 hp2
   have n02 : p ≠ p2 := zh (by rw [zb n01]; exact z9) hp2
   have kl : (z3k hd lk L).length ≤ L.length := List.length_filter_le _ _
   refine ⟨_, _, _, _, rfl, rfl, by rw [zb n02, zb n01, z9], z9, ze (by rw [z12]; show _ + 1 ≤ _; omega), fun p3 hp3 => ?_⟩
   have n13 : p1 ≠ p3 := zh (by rw [zb n12]; exact z9) hp3
   have s3 := (((s1.trans s2).trans (Same.upd (o := .lst (refs (z3k hd lk L))) hp)).trans (Same.upd (o := .tup [V.int n, V.str hd, V.str lk, V.bl sh, V.int (tick + time)]) hp1)).trans (Same.upd (o := .lst [V.ref p1]) hp2)
   have s4 := s3.trans (Same.upd (o := .lst (refs (z3k hd lk L) ++ [V.ref p1])) hp3)
   have nk3 : k ≠ p3 := zh (s3 _ _ h1) hp3
   refine ⟨_, _, _, s4 _ _ h1, T.cl_Keeper, T.n_Keeper_kept, by show (3 : Nat) < 1000; decide, _, _, _, z9, T.cl_Keeper, T.n_Keeper_top, by rw [z4s]; show (3 : Nat) < 1000; decide, ?_⟩
   rw [z4s, zct]
   have hp1' : H p1 = none := z1g ((s1.trans s2).trans (Same.upd hp)) hp1
   have nk1 : p1 ≠ k := fun z => by rw [z, h1] at hp1'; cases hp1'
   refine q hup (by omega) hf p1 _ hp1' ⟨⟨dx, p3, z9, ?_⟩, ⟨fun x hx => ?_, fun x hx => ?_⟩, ?_⟩ ⟨dx, p3, z9, z1g s3 hp3⟩ fun b o e nb => ?_
   ·rw [zb nk3.symm, zb nk3.symm, z9]
    simp [refs]
   ·rcases List.mem_append.mp hx with z | z
    ·have tz := hn.tu _ (List.mem_filter.mp z).1
     have nz : x.1 ≠ k := fun e => by rw [e, h1] at tz; cases tz
     rw [zb nz, zb nz]
     exact s4 _ _ tz
    ·have : x = (p1, ⟨n, hd, lk, sh, tick + time⟩) := by simpa using z
     subst this
     show upd _ k _ p1 = _
     rw [zb nk1, zb nk1, zb n13, zb n12, z9]
     rfl
   ·rcases List.mem_append.mp hx with z | z
    ·exact hn.sm _ (List.mem_filter.mp z).1
    ·have : x = (p1, ⟨n, hd, lk, sh, tick + time⟩) := by simpa using z
     subst this
     exact ⟨hh, hl⟩
   ·rw [List.length_append]
    show _ + 1 ≤ _
    omega
   ·rw [zb nb, zb nb]
    exact s4 _ _ e
def z7z (C : Addr) (b : Bool) : Sp := fun vs H Q _ => ∃ (k : Addr) (u : Bool) (t : Int) (L : NL), vs = [.ref k] ∧ KeeperAt C H k u t L ∧ ∀ (H' : Hp), KeeperAt C H' k b t L → (∀ dx l, H k = some (.ins C dx (kf u t l)) → H' k = some (.ins C dx (kf b t l))) → But k H H' → Q .non H'
theorem ze9 {C : Addr} {H : Hp} {k : Addr} {u b : Bool} {t : Int} {L : NL} {dx l : Addr} (hk : KeeperAt C H k u t L) (h1 : H k = some (.ins C dx (kf u t l))) (h2 : H l = some (.lst (refs L))) : KeeperAt C (upd H k (.ins C dx (kf b t l))) k b t L := by
 have nl : l ≠ k := fun z => by rw [z, h1] at h2; cases h2
 refine ⟨⟨dx, l, z9, by rw [zb nl]; exact h2⟩, ⟨fun x hx => ?_, hk.nt.sm⟩, hk.len⟩
 have tz := hk.nt.tu _ hx
 have nz : x.1 ≠ k := fun e => by rw [e, h1] at tz; cases tz
 rw [zb nz]
 exact tz
theorem z8s (F : MDef K C_Keeper "fall" "Keeper.fall" z3r ["self"]) (T : Txt K mg C_Council C_Down C_InTheWay C_Keeper C_NotFree C_OldNumber C_UnknownKeeper) : MHas P w K mg base CX0 1 C_Keeper "fall" ["self"] (z7z C_Keeper false) := by
 refine F.ok z8m (fun vs H Q E h => ?_) (fun f cdv A outer s H vs Q E hr h => ?_)
 ·obtain ⟨k, u, t, L, rfl, _⟩ := h
  rfl
 ·obtain ⟨k, u, t, L, rfl, hk, q⟩ := h
  refine ⟨_, (zc (z2x (pv 0) z1m rfl)), ?_⟩
  walk_at "rd"
  obtain ⟨⟨dx, l, h1, h2⟩, hn, hlen⟩ := id hk
  refine ⟨_, _, _, h1, T.cl_Keeper, T.n_Keeper_up, by show (3 : Nat) < 1000; decide, ?_⟩
  rw [z9d]
  exact q _ (ze9 hk h1 h2) (fun dx' l' e => by rw [h1] at e; injection e with e; injection e with e1 e2 e3; rw [z9, e2]; have := congrArg (List.lookup ("kept" : Str)) e3; rw [z2u, z2u] at this; injection this with this; injection this with this; rw [this]) fun b o e nb => by rw [zb nb]; exact e
theorem z8t (F : MDef K C_Keeper "rise" "Keeper.rise" z3s ["self"]) (T : Txt K mg C_Council C_Down C_InTheWay C_Keeper C_NotFree C_OldNumber C_UnknownKeeper) : MHas P w K mg base CX0 1 C_Keeper "rise" ["self"] (z7z C_Keeper true) := by
 refine F.ok z8n (fun vs H Q E h => ?_) (fun f cdv A outer s H vs Q E hr h => ?_)
 ·obtain ⟨k, u, t, L, rfl, _⟩ := h
  rfl
 ·obtain ⟨k, u, t, L, rfl, hk, q⟩ := h
  refine ⟨_, (zc (z2x (pv 0) z1m rfl)), ?_⟩
  walk_at "rd"
  obtain ⟨⟨dx, l, h1, h2⟩, hn, hlen⟩ := id hk
  refine ⟨_, _, _, h1, T.cl_Keeper, T.n_Keeper_up, by show (3 : Nat) < 1000; decide, ?_⟩
  rw [z9d]
  exact q _ (ze9 hk h1 h2) (fun dx' l' e => by rw [h1] at e; injection e with e; injection e with e1 e2 e3; rw [z9, e2]; have := congrArg (List.lookup ("kept" : Str)) e3; rw [z2u, z2u] at this; injection this with this; injection this with this; rw [this]) fun b o e nb => by rw [zb nb]; exact e
def z80 (tick : Int) (N : List Nt) : List Nt := N.filter fun x => decide (tick < x.e)
def z5i (N : List Nt) (hd lk : Str) (sh : Bool) (tick : Int) : Bool := !((z80 tick N).any fun x => z69 hd lk sh x)
def z4m (hd lk : Str) (N : List Nt) : List Nt := N.filter fun x => !(decide (x.h = hd) && decide (x.l = lk))
theorem z6a (tick : Int) (L : NL) : (z13 tick L).map (·.2) = z80 tick (L.map (·.2)) := by
 unfold z13 z80
 rw [List.filter_map]
 rfl
theorem z81 (L : NL) (hd lk : Str) (sh : Bool) (tick : Int) : z2e L hd lk sh tick = z5i (L.map (·.2)) hd lk sh tick := by
 unfold z2e z5i
 rw [← z6a, List.any_map]
 rfl
theorem zea (hd lk : Str) (L : NL) : (z3k hd lk L).map (·.2) = z4m hd lk (L.map (·.2)) := by
 unfold z3k z4m
 rw [List.filter_map]
 rfl
structure KN where
 u : Bool
 t : Int
 N : List Nt
theorem KeeperAt.but {C k k2 dx : Addr} {fs : List (Str × V)} {H H' : Hp} {u : Bool} {t : Int} {L : NL} (h : KeeperAt C H k2 u t L) (b : But k H H') (hk : H k = some (.ins C dx fs)) (ne : k2 ≠ k) : KeeperAt C H' k2 u t L := by
 obtain ⟨⟨dx2, l, h1, h2⟩, hn, hl⟩ := h
 have nl : l ≠ k := fun z => by rw [z, hk] at h2; cases h2
 refine ⟨⟨dx2, l, b _ _ h1 ne, b _ _ h2 nl⟩, ⟨fun q hq => b _ _ (hn.tu q hq) fun z => ?_, hn.sm⟩, hl⟩
 have := hn.tu q hq
 rw [z, hk] at this
 cases this
theorem n5 : ¬ (("keepers" : Str) = "most") := by decide +kernel
def cf (l : Addr) (m : Int) : List (Str × V) := [("keepers", .ref l), ("most", .int m)]
theorem z5j (l : Addr) (m : Int) : (cf l m).lookup ("keepers" : Str) = some (.ref l) := by simp [cf, List.lookup_cons]
theorem zgh (l : Addr) (m : Int) : (cf l m).lookup ("most" : Str) = some (.int m) := by
 have e : (("most" : Str) == "keepers") = false := by decide +kernel
 simp [cf, List.lookup_cons, e]
theorem z2v (l : Addr) (m : Int) {x : Str} (h1 : (x == "keepers") = false) (h2 : (x == "most") = false) : (cf l m).lookup x = none := by
 simp [cf, List.lookup_cons, h1, h2]
theorem zhl (l : Addr) (m : Int) : putF "most" (.int m) (putF "keepers" (.ref l) []) = cf l m := by simp [putF, cf, n5]
def KAt (C : Addr) (H : Hp) (k l : Addr) (s : KN) : Prop := (∃ dx, H k = some (.ins C dx (kf s.u s.t l))) ∧ ∃ L : NL, L.map (·.2) = s.N ∧ KeeperAt C H k s.u s.t L
theorem KAt.mono {C : Addr} {H H' : Hp} {k l : Addr} {s : KN} (h : KAt C H k l s) (e : Same H H') : KAt C H' k l s := let ⟨⟨dx, z⟩, L, a, b⟩ := h; ⟨⟨dx, e _ _ z⟩, L, a, b.mono e⟩
theorem KAt.ob {C : Addr} {H : Hp} {k l : Addr} {s : KN} (h : KAt C H k l s) : ∃ dx fs, H k = some (.ins C dx fs) := let ⟨⟨dx, z⟩, _⟩ := h; ⟨dx, _, z⟩
theorem zeb {u u' : Bool} {t t' : Int} {l l' : Addr} (h : kf u t l = kf u' t' l') : l = l' := by
 have := congrArg (List.lookup ("kept" : Str)) h
 rw [z2u, z2u] at this
 injection this with this
 injection this
theorem KAt.list {C : Addr} {H : Hp} {k l : Addr} {s : KN} (h : KAt C H k l s) : ∃ xs, H l = some (.lst xs) := by
 obtain ⟨⟨dx, z⟩, L, -, ⟨dx', l', h1, h2⟩, -, -⟩ := h
 rw [z] at h1
 injection h1 with h1
 injection h1 with a b c
 rw [zeb c]
 exact ⟨_, h2⟩
theorem KAt.upd {C : Addr} {H : Hp} {k l p : Addr} {s : KN} {xs : List V} {o : HO} (h : KAt C H k l s) (hp : H p = some (.lst xs)) (hn : l ≠ p) : KAt C (upd H p o) k l s := by
 obtain ⟨⟨dx, z⟩, L, e, ⟨dx', l', h1, h2⟩, hn', hl⟩ := h
 have el : l' = l := by
  rw [z] at h1
  injection h1 with h1
  injection h1 with a b c
  exact (zeb c).symm
 have nk : k ≠ p := fun q => by rw [q, hp] at z; cases z
 refine ⟨⟨dx, by rw [zb nk]; exact z⟩, L, e, ⟨dx', l', by rw [zb nk]; exact h1, by rw [zb (by rw [el]; exact hn)]; exact h2⟩, ⟨fun q hq => ?_, hn'.sm⟩, hl⟩
 have nq : q.1 ≠ p := fun y => by have := hn'.tu q hq; rw [y, hp] at this; cases this
 rw [zb nq]
 exact hn'.tu q hq
structure CAt (CC CK : Addr) (H : Hp) (c l : Addr) (ks ls : List Addr) (ss : List KN) : Prop where
 ob : ∃ dx, H c = some (.ins CC dx (cf l ((ks.length : Int) / 2 + 1)))
 li : H l = some (.lst (ks.map V.ref))
 kp : ∀ (i : Nat) (k : Addr), ks[i]? = some k → ∃ s l', ss[i]? = some s ∧ ls[i]? = some l' ∧ KAt CK H k l' s
 nd : ks.Nodup
 ln : ss.length = ks.length
 l2 : ls.length = ks.length
 sz : ks.length ≤ 100
theorem CAt.mono {CC CK : Addr} {H H' : Hp} {c l : Addr} {ks ls : List Addr} {ss : List KN} (h : CAt CC CK H c l ks ls ss) (s : Same H H') : CAt CC CK H' c l ks ls ss := by
 obtain ⟨⟨dx, h1⟩, h2, h3, h4, h5, h6, h7⟩ := h
 exact ⟨⟨dx, s _ _ h1⟩, s _ _ h2, fun i k e => (let ⟨u, l', e1, e2, e3⟩ := h3 i k e; ⟨u, l', e1, e2, e3.mono s⟩), h4, h5, h6, h7⟩
theorem CAt.upd {CC CK : Addr} {H : Hp} {c l p : Addr} {ks ls : List Addr} {ss : List KN} {xs : List V} {o : HO} (h : CAt CC CK H c l ks ls ss) (hp : H p = some (.lst xs)) (n1 : l ≠ p) (n2 : p ∉ ls) : CAt CC CK (upd H p o) c l ks ls ss := by
 obtain ⟨⟨dx, h1⟩, h2, h3, h4, h5, h6, h7⟩ := h
 refine ⟨⟨dx, by rw [zb (fun q => by rw [q, hp] at h1; cases h1)]; exact h1⟩, by rw [zb n1]; exact h2, fun i k e => ?_, h4, h5, h6, h7⟩
 obtain ⟨u, l', e1, e2, e3⟩ := h3 i k e
 exact ⟨u, l', e1, e2, e3.upd hp fun q => n2 (q ▸ List.mem_of_getElem? e2)⟩
def LsOk (H : Hp) (ls ls' : List Addr) : Prop := ∀ x ∈ ls', x ∈ ls ∨ H x = none
theorem LsOk.refl (H : Hp) (ls : List Addr) : LsOk H ls ls := fun x hx => .inl hx
def ButK (ks : List Addr) (H H' : Hp) : Prop := ∀ b o, H b = some o → b ∉ ks → H' b = some o
theorem ButK.of {ks : List Addr} {H H' : Hp} (s : Same H H') : ButK ks H H' := fun b o e _ => s b o e
theorem ButK.trans {ks : List Addr} {H H1 H2 : Hp} (a : ButK ks H H1) (b : ButK ks H1 H2) : ButK ks H H2 := fun c o e n => b c o (a c o e n) n
theorem ButK.but {ks : List Addr} {H H' : Hp} {k : Addr} (b : But k H H') (h : k ∈ ks) : ButK ks H H' := fun c o e n => b c o e fun z => n (z ▸ h)
theorem CAt.mem {CC CK : Addr} {H : Hp} {c l : Addr} {ks ls : List Addr} {ss : List KN} (h : CAt CC CK H c l ks ls ss) {k : Addr} (hk : k ∈ ks) : ∃ dx fs, H k = some (.ins CK dx fs) := by
 obtain ⟨j, hj, e⟩ := List.getElem_of_mem hk
 obtain ⟨s, l', -, -, hs⟩ := h.kp j k (by rw [List.getElem?_eq_getElem hj, e])
 exact hs.ob
theorem CAt.lsome {CC CK : Addr} {H : Hp} {c l : Addr} {ks ls : List Addr} {ss : List KN} (h : CAt CC CK H c l ks ls ss) {x : Addr} (hx : x ∈ ls) : ∃ xs, H x = some (.lst xs) := by
 obtain ⟨j, hj, e⟩ := List.getElem_of_mem hx
 obtain ⟨s, l', -, e2, hs⟩ := h.kp j _ (List.getElem?_eq_getElem (by rw [← h.l2]; exact hj))
 rw [List.getElem?_eq_getElem hj] at e2
 injection e2 with e2
 rw [← e, e2]
 exact hs.list
theorem z7e {α : Type} {xs : List α} {i : Nat} {x : α} (h : xs[i]? = some x) : xs.set i x = xs := by
 apply List.ext_getElem?
 intro j
 by_cases hj : j = i
 ·subst hj
  rw [List.getElem?_set_self (List.getElem?_eq_some_iff.mp h).1, h]
 ·rw [List.getElem?_set_ne (Ne.symm hj)]
theorem CAt.set {CC CK : Addr} {H H' : Hp} {c l k l1 : Addr} {ks ls : List Addr} {ss : List KN} {j : Nat} {s : KN} (h : CAt CC CK H c l ks ls ss) (hj : ks[j]? = some k) (hk : KAt CK H' k l1 s) (hb : But k H H') : CAt CC CK H' c l ks (ls.set j l1) (ss.set j s) := by
 obtain ⟨s0, l0, hu, hl0, hku⟩ := h.kp j k hj
 obtain ⟨dxk, fk, h1⟩ := hku.ob
 obtain ⟨dx, hob⟩ := h.ob
 have hjl : j < ks.length := (List.getElem?_eq_some_iff.mp hj).1
 refine ⟨⟨dx, hb _ _ hob fun z => ?_⟩, hb _ _ h.li fun z => ?_, fun i k2 e => ?_, h.nd, by rw [List.length_set]; exact h.ln, by rw [List.length_set]; exact h.l2, h.sz⟩
 ·rw [z, h1] at hob
  injection hob with hob
  injection hob with a1 a2 a3
  subst a1
  obtain ⟨⟨dy, g1⟩, -⟩ := hku
  rw [h1] at g1
  injection g1 with g1
  injection g1 with b1 b2 b3
  rw [b3] at a3
  have := congrArg (List.lookup ("up" : Str)) a3
  rw [z6j, z2v _ _ (by decide +kernel) (by decide +kernel)] at this
  cases this
 ·have := h.li
  rw [z, h1] at this
  cases this
 ·by_cases hij : i = j
  ·subst hij
   rw [hj] at e
   cases e
   exact ⟨s, l1, by rw [List.getElem?_set_self (by rw [h.ln]; exact hjl)], by rw [List.getElem?_set_self (by rw [h.l2]; exact hjl)], hk⟩
  ·obtain ⟨u2, l2', e2, e2', ⟨dx2, z2⟩, L2, e3, hk2⟩ := h.kp i k2 e
   have nk2 : k2 ≠ k := fun z => hij ?_
   ·exact ⟨u2, l2', by rw [List.getElem?_set_ne (Ne.symm hij)]; exact e2, by rw [List.getElem?_set_ne (Ne.symm hij)]; exact e2', ⟨dx2, hb _ _ z2 nk2⟩, L2, e3, hk2.but hb h1 nk2⟩
   have hil : i < ks.length := (List.getElem?_eq_some_iff.mp e).1
   have ei : ks[i] = k := by rw [← z]; exact (List.getElem?_eq_some_iff.mp e).2
   have ej : ks[j] = k := (List.getElem?_eq_some_iff.mp hj).2
   rcases Nat.lt_trichotomy i j with y | y | y
   ·exact absurd (ei.trans ej.symm) (List.pairwise_iff_getElem.mp h.nd i j hil hjl y)
   ·exact y
   ·exact absurd (ej.trans ei.symm) (List.pairwise_iff_getElem.mp h.nd j i hjl hil y)
def z25 (n : Nat) : List KN := List.replicate n ⟨true, 0, []⟩
def zbr (CC CK : Addr) : Sp := fun vs H Q _ => ∃ (c dx : Addr) (n : Nat), vs = [.ref c, .int n] ∧ n ≤ 100 ∧ H c = some (.ins CC dx []) ∧ ∀ (l : Addr) (ks ls : List Addr) (H' : Hp), ks.length = n → CAt CC CK H' c l ks ls (z25 n) → (∀ b o, H b = some o → b ≠ c → H' b = some o) → (∀ k ∈ ks, H k = none) → (∀ x ∈ ls, H x = none) → H l = none → Q .non H'
theorem z5p (F : KDef K C_Council "Council.__init__" z2o ["self", "many"]) (T : Txt K mg C_Council C_Down C_InTheWay C_Keeper C_NotFree C_OldNumber C_UnknownKeeper) (G_Keeper___init__ : KHas P w K mg base 1 C_Keeper ["self"] (ze6 C_Keeper)) : KHas P w K mg base 3 C_Council ["self", "many"] (zbr C_Council C_Keeper) := by
 refine F.ok z5n (fun vs H Q E h => ?_) (fun f cdv A outer s H vs Q E hr h => ?_)
 ·obtain ⟨c, dx, n, rfl, _⟩ := h
  rfl
 ·obtain ⟨c, dx, n, rfl, hn, hc, q⟩ := h
  refine ⟨_, (za (z2x (pv 0) (z1y (x := "place") (cap := []) (js := []) rfl ⟨rfl, by decide +kernel, by decide +kernel, rfl, zy rfl, by decide +kernel, trivial⟩ (z1z rfl T.b_range (z0 (pv 1) z7)) (fun _ _ _ _ => z2r) (fun _ _ _ _ => (zgd G_Keeper___init__ (hr.mono (by decide)) rfl T.g_Keeper))) rfl)
   (zc (z2x (pv 0) (zg zz (zg z17 (zd zr rfl T.b_len (by decide +kernel) (z0 (z21 (pv 0) rfl) z7)) z8) z8) rfl))), ?_⟩
  walk_at "rd"
  refine ⟨⟨by omega, by omega⟩, ?_⟩
  rw [Int.toNat_natCast]
  refine z2l (ze (by omega)) (fun i acc H' => ∃ ks : List Addr, acc = ks.map V.ref ∧ ks.length = i ∧ ks.Nodup ∧ (∀ k ∈ ks, H k = none ∧ ∃ l1, H l1 = none ∧ KAt C_Keeper H' k l1 ⟨true, 0, []⟩) ∧ Same H H') ⟨[], rfl, rfl, List.nodup_nil, fun k hk => (by cases hk), Same.refl _⟩ ?_ ?_ ?_
  ·rintro i acc H' ⟨ks, rfl, rfl, -⟩
   rw [List.length_map]
   exact Nat.le_refl _
  ·rintro Nn i acc H' hN hi ⟨ks, rfl, hl, hnd, hks, sH⟩
   walk_at "rd"
   intro x d hx hd hne
   refine ⟨x, d, rfl, z9, fun H3 hk3 hz3 hb3 => ⟨rfl, hN _ _ ⟨ks ++ [x], by simp, by simp [hl], ?_, ?_, ?_⟩⟩⟩
   ·rw [List.nodup_append]
    refine ⟨hnd, by simp, fun a ha b hb => ?_⟩
    have : b = x := by simpa using hb
    rw [this]
    rintro rfl
    obtain ⟨-, l1, -, ⟨_, e⟩, -⟩ := hks a ha
    rw [e] at hx
    cases hx
   ·have s3 : Same H' H3 := fun b o e => by
     have n1 : b ≠ x := zh e hx
     have n2 : b ≠ d := zh e hd
     exact hb3 b o (by rw [zb n1, zb n2]; exact e) n1
    intro k hk
    rcases List.mem_append.mp hk with z | z
    ·obtain ⟨a1, l1, a2, a3⟩ := hks k z
     exact ⟨a1, l1, a2, a3.mono s3⟩
    ·have : k = x := by simpa using z
     subst this
     obtain ⟨dx3, l3, z3, n3⟩ := hz3
     have n3' : H' l3 = none := by
      cases e : H' l3 with
      | none => rfl
      | some o =>
       have na : l3 ≠ k := zh e hx
       have nb : l3 ≠ d := zh e hd
       rw [zb na, zb nb, e] at n3
       cases n3
     exact ⟨z1g sH hx, l3, z1g sH n3', ⟨dx3, z3⟩, [], rfl, hk3⟩
   ·intro b o e
    have e1 := sH _ _ e
    have n1 : b ≠ x := zh e1 hx
    have n2 : b ≠ d := zh e1 hd
    exact hb3 b o (by rw [zb n1, zb n2]; exact e1) n1
  ·rintro acc H' ⟨ks, rfl, hl, hnd, hks, sH⟩ p hp
   have s2 := sH.trans (Same.upd (o := .lst (ks.map V.ref)) hp)
   have gp : (upd H' p (.lst (ks.map V.ref))) p = some (.lst (ks.map V.ref)) := z9
   have hks2 : ∀ k ∈ ks, H k = none ∧ ∃ l1, H l1 = none ∧ KAt C_Keeper (upd H' p (.lst (ks.map V.ref))) k l1 ⟨true, 0, []⟩ := fun k hk => let ⟨a1, l1, a2, a3⟩ := hks k hk; ⟨a1, l1, a2, a3.mono (Same.upd hp)⟩
   have hp0 : H p = none := z1g sH hp
   generalize upd H' p (.lst (ks.map V.ref)) = H2 at s2 gp hks2 ⊢
   have nkc : ∀ k ∈ ks, k ≠ c := fun k hk z => by have := (hks2 k hk).1; rw [z, hc] at this; cases this
   have gc2 := s2 _ _ hc
   have ncp : c ≠ p := fun z => by rw [z, gp] at gc2; cases gc2
   refine ⟨_, _, _, gc2, T.cl_Council, T.n_Council_keepers, by decide, ?_⟩
   have kk : (putF (Str.ofString "keepers") (V.ref p) []).lookup (Str.ofString "keepers") = some (V.ref p) := by simp [putF, List.lookup_cons]
   have gp1 : (upd H2 c (HO.ins C_Council dx (putF (Str.ofString "keepers") (V.ref p) []))) p = some (.lst (ks.map V.ref)) := by rw [zb ncp.symm]; exact gp
   refine ⟨_, _, _, z9, T.cl_Council, T.n_Council_keepers, _, kk, p, rfl, _, .inl (SqL.of gp1), cdiv (by decide) (by decide), _, _, _, z9, T.cl_Council, T.n_Council_most, by simp [putF], ?_⟩
   rw [zhl, List.length_map]
   have but2 : ∀ b o, H2 b = some o → b ≠ c → (upd (upd H2 c (HO.ins C_Council dx (putF (Str.ofString "keepers") (V.ref p) []))) c (HO.ins C_Council dx (cf p ((ks.length : Int) / 2 + 1)))) b = some o := fun b o e nb => by
    rw [zb nb, zb nb]
    exact e
   obtain ⟨lf, hlf⟩ : ∃ lf : Addr → Addr, ∀ k ∈ ks, H (lf k) = none ∧ KAt C_Keeper H2 k (lf k) ⟨true, 0, []⟩ := by
    refine ⟨fun k => if h : k ∈ ks then Classical.choose (hks2 k h).2 else k, fun k hk => ?_⟩
    simp only [hk, dite_true]
    exact Classical.choose_spec (hks2 k hk).2
   refine q p ks (ks.map lf) _ hl ⟨⟨dx, z9⟩, but2 _ _ gp ncp.symm, fun i k e => ⟨⟨true, 0, []⟩, lf k, ?_, by rw [List.getElem?_map, e]; rfl, ?_⟩, hnd, by unfold z25; rw [List.length_replicate, hl], List.length_map _, by omega⟩ (fun b o e nb => but2 b o (s2 _ _ e) nb) (fun k hk => (hks2 k hk).1) (fun x hx => ?_) hp0
   ·have := (List.getElem?_eq_some_iff.mp e).1
    unfold z25
    rw [List.getElem?_replicate, if_pos (by omega)]
   ·obtain ⟨⟨dz, z⟩, L, eL, ⟨dk, lk, a1, a2⟩, a3, a4⟩ := (hlf k (List.mem_of_getElem? e)).2
    have nk := nkc k (List.mem_of_getElem? e)
    have eL0 : L = [] := List.map_eq_nil_iff.mp eL
    subst eL0
    exact ⟨⟨dz, but2 _ _ z nk⟩, [], rfl, ⟨dk, lk, but2 _ _ a1 nk, but2 _ _ a2 fun z => by rw [z, gc2] at a2; cases a2⟩, ⟨fun y hy => (by cases hy), fun y hy => (by cases hy)⟩, a4⟩
   ·obtain ⟨k, hk, rfl⟩ := List.mem_map.mp hx
    exact (hlf k hk).1
def z82 (CC CK CU : Addr) : Sp := fun vs H Q E => ∃ (c l : Addr) (ks ls : List Addr) (ss : List KN) (p : Int), vs = [.ref c, .int p] ∧ CAt CC CK H c l ks ls ss ∧ (¬ (1 ≤ p ∧ p ≤ (ks.length : Int)) → E (.ref CU) none H) ∧ (∀ (j : Nat) (k : Addr), p = (j : Int) + 1 → ks[j]? = some k → Q (.ref k) H)
theorem z5k (F : MDef K C_Council "keeper_at" "Council.keeper_at" z2h ["self", "place"]) (T : Txt K mg C_Council C_Down C_InTheWay C_Keeper C_NotFree C_OldNumber C_UnknownKeeper) : MHas P w K mg base (CX1 P w) 1 C_Council "keeper_at" ["self", "place"] (z82 C_Council C_Keeper C_UnknownKeeper) := by
 refine F.okx z5g (fun vs H Q E h => ?_) (fun f cdv A outer s H vs Q E hr h => ?_)
 ·obtain ⟨c, l, ks, ls, us, p, rfl, _⟩ := h
  rfl
 ·obtain ⟨c, l, ks, ls, us, p, rfl, hc, e1, q⟩ := h
  refine ⟨_, (za (zt (z34 (zen z7i z7i z8 (pv 1) (zd zr rfl T.b_len (by decide +kernel) (z0 (z21 (pv 0) rfl) z7)))) (zc (z48 z3o rfl PySem.F.excBase_ValueError T.x_UnknownKeeper rfl T.g_UnknownKeeper (z0 z1o z7))) zp)
   (zc (zl (zj ix_list (z21 (pv 0) rfl) (zg z45 (pv 1) z8) (fun _ _ => rfl))))), ?_⟩
  walk_at "rd"
  obtain ⟨dx, hob⟩ := hc.ob
  by_cases h1 : 1 ≤ p
  ·rw [if_pos (by simpa using h1)]
   refine ⟨_, _, _, hob, T.cl_Council, T.n_Council_keepers, _, z5j _ _, l, rfl, _, .inl (SqL.of hc.li), ?_⟩
   rw [List.length_map]
   by_cases h2 : p ≤ (ks.length : Int)
   ·rw [if_neg (by simpa using h2)]
    obtain ⟨j, ej⟩ := Int.eq_ofNat_of_zero_le (show 0 ≤ p - 1 by omega)
    have hj : j < ks.length := by omega
    refine ⟨_, _, _, hob, T.cl_Council, T.n_Council_keepers, _, z5j _ _, l, _, _, _, rfl, rfl, SqL.of hc.li, by rw [ej]; exact zf (v := V.ref ks[j]) (by rw [List.getElem?_map, List.getElem?_eq_getElem hj]; rfl), q j _ (by omega) (List.getElem?_eq_getElem hj)⟩
   ·rw [if_pos (by simpa using h2)]
    exact ⟨ze (by decide), e1 fun z => h2 z.2⟩
  ·rw [if_neg (by simpa using h1), if_pos (by decide)]
   exact ⟨ze (by decide), e1 fun z => h1 z.1⟩
def ptup (L : List (Addr × Nat × Addr)) : List V := L.map fun q => V.ref q.1
theorem z4j (L : List (Addr × Nat × Addr)) : (ptup L).length = L.length := List.length_map _
theorem z7f {L : List (Addr × Nat × Addr)} {i : Nat} {x : V} (hx : (ptup L)[i]? = some x) : ∃ y, L[i]? = some y ∧ x = V.ref y.1 := by
 unfold ptup at hx
 rw [List.getElem?_map] at hx
 cases e : L[i]? with
 | none => rw [e] at hx; cases hx
 | some y => rw [e] at hx; exact ⟨y, rfl, (Option.some.inj hx).symm⟩
def upAt (ss : List KN) (j : Nat) : Bool := match ss[j]? with | some s => s.u | none => false
def upl (ss : List KN) (n : Nat) : List Nat := (List.range n).filter (upAt ss)
theorem z42 (ss : List KN) (n : Nat) : (upl ss n).length ≤ n := Nat.le_trans (List.length_filter_le _ _) (by rw [List.length_range]; exact Nat.le_refl _)
theorem z53 {ss : List KN} {n j : Nat} (h : j ∈ upl ss n) : j < n ∧ upAt ss j = true := ⟨List.mem_range.mp (List.mem_filter.mp h).1, (List.mem_filter.mp h).2⟩
theorem z9e (ss : List KN) (n : Nat) : (upl ss n).Nodup := List.Nodup.sublist List.filter_sublist List.nodup_range
structure Pairs (H : Hp) (ks : List Addr) (ss : List KN) (L : List (Addr × Nat × Addr)) : Prop where
 mp : L.map (·.2.1) = upl ss ks.length
 tu : ∀ q ∈ L, H q.1 = some (.tup [.int ((q.2.1 : Int) + 1), .ref q.2.2])
 at_ : ∀ q ∈ L, ks[q.2.1]? = some q.2.2
theorem Pairs.mono {H H' : Hp} {ks : List Addr} {ss : List KN} {L : List (Addr × Nat × Addr)} (h : Pairs H ks ss L) (s : Same H H') : Pairs H' ks ss L := ⟨h.mp, fun q hq => s _ _ (h.tu q hq), h.at_⟩
theorem Pairs.len {H : Hp} {ks : List Addr} {ss : List KN} {L : List (Addr × Nat × Addr)} (h : Pairs H ks ss L) : L.length ≤ ks.length := by
 have := congrArg List.length h.mp
 rw [List.length_map] at this
 rw [this]
 exact z42 _ _
theorem Pairs.take {H : Hp} {ks : List Addr} {ss : List KN} {L : List (Addr × Nat × Addr)} (h : Pairs H ks ss L) (i : Nat) : (L.take i).map (·.2.1) = (upl ss ks.length).take i := by rw [List.map_take, h.mp]
def za2 (CC CK : Addr) : Sp := fun vs H Q _ => ∃ (c l : Addr) (ks ls : List Addr) (ss : List KN), vs = [.ref c] ∧ CAt CC CK H c l ks ls ss ∧ ∀ (r : Addr) (L : List (Addr × Nat × Addr)) (H' : Hp), Pairs H' ks ss L → H r = none → H' r = some (.lst (ptup L)) → Same H H' → Q (.ref r) H'
theorem z54 (F : MDef K C_Council "up_keepers" "Council.up_keepers" z2d ["self"]) (T : Txt K mg C_Council C_Down C_InTheWay C_Keeper C_NotFree C_OldNumber C_UnknownKeeper) : MHas P w K mg base CX0 1 C_Council "up_keepers" ["self"] (za2 C_Council C_Keeper) := by
 refine F.ok z52 (fun vs H Q E h => ?_) (fun f cdv A outer s H vs Q E hr h => ?_)
 ·obtain ⟨c, l, ks, ls, us, rfl, _⟩ := h
  rfl
 ·obtain ⟨c, l, ks, ls, us, rfl, hc, q⟩ := h
  refine ⟨_, (zc (zl (z78 (x := "place") (y2 := "keeper") (cap := []) (js := []) rfl ⟨rfl, by decide +kernel, by decide +kernel, rfl, rfl, zy rfl, by decide +kernel, trivial⟩ (fun _ _ _ _ => z5x (K := K) rfl (z2i (z1s (i := 0) (show List.Nodup [("place" : Str), ("keeper" : Str)] from by decide +kernel) rfl (Or.inl rfl)) (z2i (z1s (i := 1) (show List.Nodup [("place" : Str), ("keeper" : Str)] from by decide +kernel) rfl (Or.inl rfl)) z6d))) (zf0 rfl T.b_enumerate (z0 (z21 (pv 0) rfl) z7) (zg6 z8 zgx)) (fun _ _ _ _ => (z2f (z16 (zaf (K := K) (pv 1) rfl)))) (fun _ _ _ _ => (z1q (z0 (pv 0) (z0 (pv 1) z7))))))), ?_⟩
  walk_at "rd"
  obtain ⟨dx, hob⟩ := hc.ob
  have hsz := hc.sz
  refine ⟨_, _, _, hob, T.cl_Council, T.n_Council_keepers, _, z5j _ _, l, rfl, _, SqL.of hc.li, ?_⟩
  refine zag (xs := ks.map V.ref) (by rw [List.length_map]; exact ze (by omega)) (fun i acc H' => ∃ L : List (Addr × Nat × Addr), acc = ptup L ∧ L.map (·.2.1) = upl us i ∧ (∀ q ∈ L, H' q.1 = some (.tup [.int ((q.2.1 : Int) + 1), .ref q.2.2]) ∧ ks[q.2.1]? = some q.2.2) ∧ L.length ≤ i ∧ Same H H') ⟨[], rfl, rfl, fun q hq => (by cases hq), Nat.le_refl _, Same.refl _⟩ ?_ ?_ ?_ ?_
  ·rintro i acc H' ⟨L, rfl, -, -, hl, -⟩
   unfold ptup
   rw [List.length_map]
   exact hl
  ·rintro i acc H' ⟨L, rfl, -, -, -, sH⟩
   exact SqL.of (sH _ _ hc.li)
  ·rintro Nn i acc H' x Ta hN hx hi ⟨L, rfl, hm, hT, hl, sH⟩ hTa
   obtain ⟨k, hk, rfl⟩ : ∃ k, ks[i]? = some k ∧ x = V.ref k := by
    rw [List.getElem?_map] at hx
    cases e : ks[i]? with
    | none => rw [e] at hx; cases hx
    | some k => rw [e] at hx; exact ⟨k, rfl, (Option.some.inj hx).symm⟩
   obtain ⟨s, l1, hu, hl1, -, Ls, -, hku⟩ := hc.kp i k hk
   have sT := Same.upd (o := .tup [V.int ((i : Int) + 1), V.ref k]) hTa
   obtain ⟨⟨dk, lk, a1, a2⟩, -, -⟩ := id (hku.mono (sH.trans sT))
   have eu : upAt us i = s.u := by unfold upAt; rw [hu]
   have step : upl us (i + 1) = upl us i ++ (if s.u = true then [i] else []) := by
    unfold upl
    rw [List.range_succ, List.filter_append]
    congr 1
    rw [List.filter_cons, eu]
    cases s.u <;> rfl
   have hT2 : ∀ q ∈ L, (upd H' Ta (.tup [V.int ((i : Int) + 1), V.ref k])) q.1 = some (.tup [.int ((q.2.1 : Int) + 1), .ref q.2.2]) ∧ ks[q.2.1]? = some q.2.2 := fun q hq => ⟨sT _ _ (hT q hq).1, (hT q hq).2⟩
   refine ⟨Ta, _, rfl, SqT.of z9, rfl, ?_⟩
   walk_at "rd"
   refine ⟨_, _, ⟨rfl, rfl⟩, _, _, rfl, rfl, ⟨_, rfl⟩, k, rfl, _, _, _, a1, T.cl_Keeper, T.n_Keeper_up, _, z6j s.u s.t lk, s.u, rfl, ?_⟩
   cases hsu : s.u with
   | false =>
    rw [hsu] at step
    rw [if_neg Bool.false_ne_true]
    exact hN _ _ ⟨L, rfl, by rw [step, hm]; simp, hT2, by omega, sH.trans sT⟩
   | true =>
    rw [hsu] at step
    rw [if_pos rfl]
    refine ⟨ze (by decide), fun pt hpt => hN _ _ ⟨L ++ [(pt, i, k)], by simp [ptup], by rw [step, List.map_append, hm]; rfl, fun y hy => ?_, by rw [List.length_append]; show L.length + 1 ≤ _; omega, (sH.trans sT).trans (Same.upd hpt)⟩⟩
    rcases List.mem_append.mp hy with z | z
    ·exact ⟨(Same.upd hpt) _ _ (hT2 y z).1, (hT2 y z).2⟩
    ·have : y = (pt, i, k) := by simpa using z
     subst this
     exact ⟨z9, hk⟩
  ·rintro acc H' ⟨L, rfl, hm, hT, hl, sH⟩ p hp
   rw [List.length_map] at hm
   exact q p L _ ⟨hm, fun y hy => (Same.upd hp) _ _ (hT y hy).1, fun y hy => (hT y hy).2⟩ (z1g sH hp) z9 (sH.trans (Same.upd hp))
def spFR (CC CK CU : Addr) (b : Bool) : Sp := fun vs H Q E => ∃ (c l : Addr) (ks ls : List Addr) (ss : List KN) (p : Int), vs = [.ref c, .int p] ∧ CAt CC CK H c l ks ls ss ∧ (¬ (1 ≤ p ∧ p ≤ (ks.length : Int)) → E (.ref CU) none H) ∧
 (∀ (j : Nat) (k : Addr) (s : KN) (H' : Hp), p = (j : Int) + 1 → ks[j]? = some k → ss[j]? = some s → CAt CC CK H' c l ks ls (ss.set j ⟨b, s.t, s.N⟩) → But k H H' → Q (.bl (if b then !s.u else s.u)) H')
theorem z83 (F : MDef K C_Council "fall" "Council.fall" z3a ["self", "keeper"]) (T : Txt K mg C_Council C_Down C_InTheWay C_Keeper C_NotFree C_OldNumber C_UnknownKeeper) (G_Keeper_fall : MHas P w K mg base CX0 1 C_Keeper "fall" ["self"] (z7z C_Keeper false)) (G_Council_keeper_at : MHas P w K mg base (CX1 P w) 1 C_Council "keeper_at" ["self", "place"] (z82 C_Council C_Keeper C_UnknownKeeper)) : MHas P w K mg base (CX1 P w) 2 C_Council "fall" ["self", "keeper"] (spFR C_Council C_Keeper C_UnknownKeeper false) := by
 refine F.okx sc_Council_fall (fun vs H Q E h => ?_) (fun f cdv A outer s H vs Q E hr h => ?_)
 ·obtain ⟨c, l, ks, ls, us, p, rfl, _⟩ := h
  rfl
 ·obtain ⟨c, l, ks, ls, us, p, rfl, hc, e1, q⟩ := h
  refine ⟨_, (za (zm (i := 2) sc_Council_fall.nd rfl (Or.inl rfl) (z8d z5u G_Council_keeper_at T.cl_Council (hr.mono (by decide)) (pv 0) (z0 (pv 1) z7)))
   (za (zm (i := 3) sc_Council_fall.nd rfl (Or.inl rfl) (z21 (pv 2) rfl))
   (za (z28 (z51 G_Keeper_fall T.cl_Keeper (hr.mono (by decide)) (pv 2)))
   (zc (zl (pv 3)))))), ?_⟩
  walk_at "rd"
  obtain ⟨dx, hob⟩ := hc.ob
  refine ⟨_, _, hob, z2v _ _ (by decide +kernel) (by decide +kernel), c, l, ks, ls, us, p, rfl, hc, e1, fun j k ej hj => ?_⟩
  obtain ⟨s, l1, hu, hl1, ⟨dk1, z1⟩, Ls, eL, hk⟩ := hc.kp j k hj
  obtain ⟨⟨dk, lk, a1, a2⟩, -, -⟩ := id hk
  refine ⟨k, rfl, _, _, _, a1, T.cl_Keeper, T.n_Keeper_up, _, z6j s.u s.t lk, k, rfl, _, _, a1, z3j s.u s.t lk (by decide +kernel) (by decide +kernel) (by decide +kernel), k, s.u, s.t, Ls, rfl, hk, fun H1 hk1 hz1 hb1 => ?_⟩
  have hset := hc.set hj (s := ⟨false, s.t, s.N⟩) ⟨⟨dk1, hz1 _ _ z1⟩, Ls, eL, hk1⟩ hb1
  rw [z7e hl1] at hset
  have := q j k s H1 ej hj hu hset hb1
  simpa using this
theorem z84 (F : MDef K C_Council "rise" "Council.rise" z3b ["self", "keeper"]) (T : Txt K mg C_Council C_Down C_InTheWay C_Keeper C_NotFree C_OldNumber C_UnknownKeeper) (G_Keeper_rise : MHas P w K mg base CX0 1 C_Keeper "rise" ["self"] (z7z C_Keeper true)) (G_Council_keeper_at : MHas P w K mg base (CX1 P w) 1 C_Council "keeper_at" ["self", "place"] (z82 C_Council C_Keeper C_UnknownKeeper)) : MHas P w K mg base (CX1 P w) 2 C_Council "rise" ["self", "keeper"] (spFR C_Council C_Keeper C_UnknownKeeper true) := by
 refine F.okx sc_Council_rise (fun vs H Q E h => ?_) (fun f cdv A outer s H vs Q E hr h => ?_)
 ·obtain ⟨c, l, ks, ls, us, p, rfl, _⟩ := h
  rfl
 ·obtain ⟨c, l, ks, ls, us, p, rfl, hc, e1, q⟩ := h
  refine ⟨_, (za (zm (i := 2) sc_Council_rise.nd rfl (Or.inl rfl) (z8d z5u G_Council_keeper_at T.cl_Council (hr.mono (by decide)) (pv 0) (z0 (pv 1) z7)))
   (za (zm (i := 3) sc_Council_rise.nd rfl (Or.inl rfl) (z21 (pv 2) rfl))
   (za (z28 (z51 G_Keeper_rise T.cl_Keeper (hr.mono (by decide)) (pv 2)))
   (zc (zl (za7 (pv 3))))))), ?_⟩
  walk_at "rd"
  obtain ⟨dx, hob⟩ := hc.ob
  refine ⟨_, _, hob, z2v _ _ (by decide +kernel) (by decide +kernel), c, l, ks, ls, us, p, rfl, hc, e1, fun j k ej hj => ?_⟩
  obtain ⟨s, l1, hu, hl1, ⟨dk1, z1⟩, Ls, eL, hk⟩ := hc.kp j k hj
  obtain ⟨⟨dk, lk, a1, a2⟩, -, -⟩ := id hk
  refine ⟨k, rfl, _, _, _, a1, T.cl_Keeper, T.n_Keeper_up, _, z6j s.u s.t lk, k, rfl, _, _, a1, z3j s.u s.t lk (by decide +kernel) (by decide +kernel) (by decide +kernel), k, s.u, s.t, Ls, rfl, hk, fun H1 hk1 hz1 hb1 => ?_⟩
  have hset := hc.set hj (s := ⟨true, s.t, s.N⟩) ⟨⟨dk1, hz1 _ _ z1⟩, Ls, eL, hk1⟩ hb1
  rw [z7e hl1] at hset
  have := q j k s H1 ej hj hu hset hb1
  simpa using this
def zgi (CC CK CU : Addr) : Sp := fun vs H Q E => ∃ (c l : Addr) (ks ls : List Addr) (ss : List KN) (p tick : Int), vs = [.ref c, .int p, .int tick] ∧ CAt CC CK H c l ks ls ss ∧ (¬ (1 ≤ p ∧ p ≤ (ks.length : Int)) → E (.ref CU) none H) ∧
 (∀ (j : Nat) (s : KN), p = (j : Int) + 1 → ss[j]? = some s → ∀ (r : Addr) (L : NL) (H' : Hp), H r = none → H' r = some (.lst (refs L)) → NotesAt H' L → L.map (·.2) = z80 tick s.N → Same H H' → Q (.ref r) H')
theorem z7g (F : MDef K C_Council "notes" "Council.notes" z39 ["self", "keeper", "tick"]) (T : Txt K mg C_Council C_Down C_InTheWay C_Keeper C_NotFree C_OldNumber C_UnknownKeeper) (G_Keeper_live : MHas P w K mg base CX0 1 C_Keeper "live" ["self", "tick"] (z7y C_Keeper)) (G_Council_keeper_at : MHas P w K mg base (CX1 P w) 1 C_Council "keeper_at" ["self", "place"] (z82 C_Council C_Keeper C_UnknownKeeper)) : MHas P w K mg base (CX1 P w) 2 C_Council "notes" ["self", "keeper", "tick"] (zgi C_Council C_Keeper C_UnknownKeeper) := by
 refine F.okx z7d (fun vs H Q E h => ?_) (fun f cdv A outer s H vs Q E hr h => ?_)
 ·obtain ⟨c, l, ks, ls, us, p, tick, rfl, _⟩ := h
  rfl
 ·obtain ⟨c, l, ks, ls, us, p, tick, rfl, hc, e1, q⟩ := h
  refine ⟨_, (zc (zl (z2b G_Keeper_live T.cl_Keeper (hr.mono (by decide)) (z8d z5u G_Council_keeper_at T.cl_Council (hr.mono (by decide)) (pv 0) (z0 (pv 1) z7)) (z0 (pv 2) z7)))), ?_⟩
  walk_at "rd"
  obtain ⟨dx, hob⟩ := hc.ob
  refine ⟨_, _, hob, z2v _ _ (by decide +kernel) (by decide +kernel), c, l, ks, ls, us, p, rfl, hc, e1, fun j k ej hj => ?_⟩
  obtain ⟨s, l1, hu, hl1, ⟨dk1, z1⟩, Ls, eL, hk⟩ := hc.kp j k hj
  obtain ⟨⟨dk, lk, a1, a2⟩, hn, -⟩ := id hk
  exact ⟨k, rfl, _, _, a1, z3j s.u s.t lk (by decide +kernel) (by decide +kernel) (by decide +kernel), k, s.u, s.t, Ls, tick, rfl, hk, fun r H1 hr0 hr1 s1 => q j s ej hu r (z13 tick Ls) H1 hr0 hr1 ((hn.mono s1).sub fun q h => (List.mem_filter.mp h).1) (by rw [z6a, eL]) s1⟩
def frAt (ss : List KN) (hd lk : Str) (sh : Bool) (tick : Int) (j : Nat) : Bool := match ss[j]? with | some s => z5i s.N hd lk sh tick | none => false
def sayl (ss : List KN) (n : Nat) (hd lk : Str) (sh : Bool) (tick : Int) : List Nat := (upl ss n).filter (frAt ss hd lk sh tick)
def zx (js : List Nat) : List V := js.map fun (j : Nat) => V.int ((j : Int) + 1)
theorem zas (ss : List KN) (n : Nat) (hd lk : Str) (sh : Bool) (tick : Int) : (sayl ss n hd lk sh tick).length ≤ n := Nat.le_trans (List.length_filter_le _ _) (z42 _ _)
def za3 (ss : List KN) : Prop := ∀ s ∈ ss, s.N.length ≤ 62
def zat (CC CK : Addr) : Sp := fun vs H Q _ => ∃ (c l : Addr) (ks ls : List Addr) (ss : List KN) (hd lk : Str) (sh : Bool) (tick : Int), vs = [.ref c, .str hd, .str lk, .bl sh, .int tick] ∧ CAt CC CK H c l ks ls ss ∧ za3 ss ∧ lk.length ≤ 1000 ∧ ∀ (r : Addr) (H' : Hp), H r = none → H' r = some (.lst (zx (sayl ss ks.length hd lk sh tick))) → Same H H' → Q (.ref r) H'
theorem z6o (F : MDef K C_Council "sayers" "Council.sayers" z32 ["self", "holder", "lock", "shared", "tick"]) (T : Txt K mg C_Council C_Down C_InTheWay C_Keeper C_NotFree C_OldNumber C_UnknownKeeper) (G_Keeper_says_free : MHas P w K mg base CX0 5 C_Keeper "says_free" ["self", "holder", "lock", "shared", "tick"] (zar C_Keeper)) (G_Council_up_keepers : MHas P w K mg base CX0 1 C_Council "up_keepers" ["self"] (za2 C_Council C_Keeper)) : MHas P w K mg base CX0 6 C_Council "sayers" ["self", "holder", "lock", "shared", "tick"] (zat C_Council C_Keeper) := by
 refine F.ok z6n (fun vs H Q E h => ?_) (fun f cdv A outer s H vs Q E hr h => ?_)
 ·obtain ⟨c, l, ks, ls, ss, hd, lk, sh, tick, rfl, _⟩ := h
  rfl
 ·obtain ⟨c, l, ks, ls, ss, hd, lk, sh, tick, rfl, hc, hsm, hl, q⟩ := h
  refine ⟨_, (zc (zl (z78 (x := "place") (y2 := "keeper") (cap := ["holder", "lock", "shared", "tick"]) (js := [1, 2, 3, 4]) rfl ⟨rfl, by decide +kernel, by decide +kernel, rfl, rfl, zy rfl, by decide +kernel, ⟨⟨rfl, Or.inl rfl, rfl⟩, ⟨⟨rfl, Or.inl rfl, rfl⟩, ⟨⟨rfl, Or.inl rfl, rfl⟩, ⟨⟨rfl, Or.inl rfl, rfl⟩, trivial⟩⟩⟩⟩⟩ (fun _ _ _ _ => z5x (K := K) rfl (z2i (z1s (i := 0) (show List.Nodup [("place" : Str), ("keeper" : Str), ("holder" : Str), ("lock" : Str), ("shared" : Str), ("tick" : Str)] from by decide +kernel) rfl (Or.inl rfl)) (z2i (z1s (i := 1) (show List.Nodup [("place" : Str), ("keeper" : Str), ("holder" : Str), ("lock" : Str), ("shared" : Str), ("tick" : Str)] from by decide +kernel) rfl (Or.inl rfl)) z6d))) (z1k (z51 G_Council_up_keepers T.cl_Council (hr.mono (by decide)) (pv 0))) (fun _ _ _ _ => (z2f (z16 (z2b G_Keeper_says_free T.cl_Keeper (hr.mono (by decide)) (pv 1) (z0 (pv 2) (z0 (pv 3) (z0 (pv 4) (z0 (pv 5) z7)))))))) (fun _ _ _ _ => (pv 0))))), ?_⟩
  walk_at "rd"
  obtain ⟨dx, hob⟩ := hc.ob
  have hsz := hc.sz
  refine ⟨_, _, hob, z2v _ _ (by decide +kernel) (by decide +kernel), c, l, ks, ls, ss, rfl, hc, fun r L H1 hL hr0 gr s1 => ⟨r, rfl, ⟨_, SqL.of gr⟩, ?_⟩⟩
  have hll := hL.len
  refine z5w (xs := ptup L) (by rw [z4j]; exact ze (by omega)) (fun i acc H' => acc = zx (((upl ss ks.length).take i).filter (frAt ss hd lk sh tick)) ∧ Same H1 H') ⟨rfl, Same.refl _⟩ ?_ ?_ ?_ ?_
  ·rintro i acc H' ⟨rfl, -⟩
   unfold zx
   rw [List.length_map]
   exact Nat.le_trans (List.length_filter_le _ _) (by rw [List.length_take]; omega)
  ·rintro i acc H' ⟨-, s2⟩
   exact SqL.of (s2 _ _ gr)
  ·rintro Nn i acc H' x hN hx hi ⟨rfl, s2⟩
   obtain ⟨y, hy, rfl⟩ := z7f hx
   have my := List.mem_of_getElem? hy
   refine ⟨y.1, _, rfl, SqT.of (s2 _ _ (hL.tu y my)), rfl, ?_⟩
   walk_at "rd"
   obtain ⟨s, l1, hu, hl1, -, Ls, eL, hk⟩ := (hc.mono (s1.trans s2)).kp y.2.1 y.2.2 (hL.at_ y my)
   obtain ⟨⟨dk, lk', a1, a2⟩, hn, -⟩ := id hk
   have l62 : Ls.length ≤ 62 := by
    have := hsm s (List.mem_of_getElem? hu)
    rw [← eL, List.length_map] at this
    exact this
   have gi : (upl ss ks.length)[i]? = some y.2.1 := by rw [← hL.mp, List.getElem?_map, hy]; rfl
   have stp := z1w (frAt ss hd lk sh tick) gi
   have ef : frAt ss hd lk sh tick y.2.1 = z2e Ls hd lk sh tick := by
    unfold frAt
    rw [hu, z81, eL]
   refine ⟨_, _, ⟨rfl, rfl⟩, _, _, rfl, rfl, ⟨_, rfl⟩, _, rfl, _, _, a1, z3j s.u s.t lk' (by decide +kernel) (by decide +kernel) (by decide +kernel), y.2.2, s.u, s.t, Ls, hd, lk, sh, tick, rfl, hk, by omega, hl, fun H3 s3 => ⟨_, rfl, ?_⟩⟩
   cases hf : z2e Ls hd lk sh tick with
   | true =>
    rw [if_pos rfl]
    refine hN _ _ ⟨?_, s2.trans s3⟩
    rw [stp, ef, hf]
    simp [zx]
   | false =>
    rw [if_neg Bool.false_ne_true]
    refine hN _ _ ⟨?_, s2.trans s3⟩
    rw [stp, ef, hf]
    simp
  ·rintro acc H' ⟨rfl, s2⟩ p hp
   have e : (upl ss ks.length).take (ptup L).length = upl ss ks.length := by
    rw [z4j, ← hL.take, List.take_length, hL.mp]
   rw [e]
   exact q p _ (z1g (s1.trans s2) hp) z9 ((s1.trans s2).trans (Same.upd hp))
def z85 (ss : List KN) (m : Int) : Prop := (∃ s ∈ ss, s.u = true ∧ s.t = m) ∧ ∀ s ∈ ss, s.u = true → s.t ≤ m
def z1v (ss : List KN) (sl : List Nat) (x : Nt) : List KN := ss.mapIdx fun j s => if j ∈ sl then ⟨s.u, x.n, z4m x.h x.l s.N ++ [x]⟩ else s
theorem zec (ss : List KN) (x : Nt) : z1v ss [] x = ss := by
 unfold z1v
 apply List.ext_getElem?
 intro i
 rw [List.getElem?_mapIdx]
 simp
theorem zcu {ss : List KN} {sl : List Nat} {x : Nt} {i j : Nat} {s : KN} (hj : sl[i]? = some j) (hs : ss[j]? = some s) (nd : sl.Nodup) : z1v ss (sl.take (i + 1)) x = (z1v ss (sl.take i) x).set j ⟨s.u, x.n, z4m x.h x.l s.N ++ [x]⟩ ∧ (z1v ss (sl.take i) x)[j]? = some s := by
 have nj : j ∉ sl.take i := fun h => by
  obtain ⟨k, hk, e⟩ := List.getElem_of_mem h
  rw [List.length_take] at hk
  have e2 : sl[k]? = some j := by rw [List.getElem_take] at e; rw [List.getElem?_eq_getElem (by omega), e]
  have := (List.getElem?_inj (by omega) nd).mp (e2.trans hj.symm)
  omega
 constructor
 ·unfold z1v
  apply List.ext_getElem?
  intro k
  rw [List.getElem?_mapIdx, List.take_succ, hj]
  by_cases hk : k = j
  ·subst hk
   have hl : k < ss.length := (List.getElem?_eq_some_iff.mp hs).1
   rw [List.getElem?_set_self (by rw [List.length_mapIdx]; exact hl), hs]
   simp
  ·rw [List.getElem?_set_ne (Ne.symm hk), List.getElem?_mapIdx]
   simp [hk]
 ·unfold z1v
  rw [List.getElem?_mapIdx, hs]
  simp [nj]
def zed (CC CK CN : Addr) : Sp := fun vs H Q E => ∃ (c l : Addr) (ks ls : List Addr) (ss : List KN) (hd lk : Str) (sh : Bool) (tick time : Int), vs = [.ref c, .str hd, .str lk, .bl sh, .int tick, .int time] ∧ CAt CC CK H c l ks ls ss ∧ za3 ss ∧ hd.length ≤ 1000 ∧ lk.length ≤ 1000 ∧
 (((sayl ss ks.length hd lk sh tick).length : Int) < (ks.length : Int) / 2 + 1 → ∀ H', Same H H' → E (.ref CN) none H') ∧
 (¬ ((sayl ss ks.length hd lk sh tick).length : Int) < (ks.length : Int) / 2 + 1 → ∀ (m : Int), z85 ss m → ∀ (r p : Addr) (ls' : List Addr) (H' : Hp), LsOk H ls ls' → CAt CC CK H' c l ks ls' (z1v ss (sayl ss ks.length hd lk sh tick) ⟨1 + m, hd, lk, sh, tick + time⟩) →
  H' r = some (.tup [.int (1 + m), .ref p]) → H' p = some (.lst (zx (sayl ss ks.length hd lk sh tick))) → H r = none → H p = none → ButK ks H H' → Q (.ref r) H')
theorem z86 (F : MDef K C_Council "give" "Council.give" z3c ["self", "holder", "lock", "shared", "tick", "time"]) (T : Txt K mg C_Council C_Down C_InTheWay C_Keeper C_NotFree C_OldNumber C_UnknownKeeper) (G_Keeper_take : MHas P w K mg base (CX1 P w) 6 C_Keeper "take" ["self", "number", "holder", "lock", "shared", "tick", "time"] (ze8 C_Keeper C_Down C_OldNumber C_InTheWay)) (G_Council_keeper_at : MHas P w K mg base (CX1 P w) 1 C_Council "keeper_at" ["self", "place"] (z82 C_Council C_Keeper C_UnknownKeeper)) (G_Council_up_keepers : MHas P w K mg base CX0 1 C_Council "up_keepers" ["self"] (za2 C_Council C_Keeper)) (G_Council_sayers : MHas P w K mg base CX0 6 C_Council "sayers" ["self", "holder", "lock", "shared", "tick"] (zat C_Council C_Keeper)) : MHas P w K mg base (CX1 P w) 7 C_Council "give" ["self", "holder", "lock", "shared", "tick", "time"] (zed C_Council C_Keeper C_NotFree) := by
 refine F.okx sc_Council_give (fun vs H Q E h => ?_) (fun f cdv A outer s H vs Q E hr h => ?_)
 ·obtain ⟨c, l, ks, ls, ss, hd, lk, sh, tick, time, rfl, _⟩ := h
  rfl
 ·obtain ⟨c, l, ks, ls, ss, hd, lk, sh, tick, time, rfl, hc, hsm, hh, hl, e1, q⟩ := h
  refine ⟨_, (za (zm (i := 6) sc_Council_give.nd rfl (Or.inl rfl) (z2b G_Council_sayers T.cl_Council (hr.mono (by decide)) (pv 0) (z0 (pv 1) (z0 (pv 2) (z0 (pv 3) (z0 (pv 4) z7))))))
   (za (zt (zo za1 (zd zr rfl T.b_len (by decide +kernel) (z0 (pv 6) z7)) (z21 (pv 0) rfl) (zk _)) (zc (z48 z3o rfl PySem.F.excBase_ValueError T.x_NotFree rfl T.g_NotFree (z0 z1o z7))) zp)
   (za (zm (i := 7) sc_Council_give.nd rfl (Or.inl rfl) (zg zz z8 (zd (zds rfl) rfl T.b_max (by decide +kernel) (z0 (z78 (x := "place") (y2 := "keeper") (cap := []) (js := []) rfl ⟨rfl, by decide +kernel, by decide +kernel, rfl, rfl, zy rfl, by decide +kernel, trivial⟩ (fun _ _ _ _ => z5x (K := K) rfl (z2i (z1s (i := 0) (show List.Nodup [("place" : Str), ("keeper" : Str)] from by decide +kernel) rfl (Or.inl rfl)) (z2i (z1s (i := 1) (show List.Nodup [("place" : Str), ("keeper" : Str)] from by decide +kernel) rfl (Or.inl rfl)) z6d))) (z1k (z51 G_Council_up_keepers T.cl_Council (hr.mono (by decide)) (pv 0))) (fun _ _ _ _ => z2r) (fun _ _ _ _ => (zaf (K := K) (pv 1) rfl))) z7))))
   (za (PS.nox (z44 PassesOwn.never rfl (z1k (pv 6)) (z1s (i := 8) sc_Council_give.nd rfl (Or.inl rfl)) (zc (z28 (z2b (MHas.never G_Keeper_take) T.cl_Keeper (hr.mono (by decide)) (z2b (MHas.never G_Council_keeper_at) T.cl_Council (hr.mono (by decide)) (pv 0) (z0 (pv 8) z7)) (z0 (pv 7) (z0 (pv 1) (z0 (pv 2) (z0 (pv 3) (z0 (pv 4) (z0 (pv 5) z7)))))))))))
   (zc (zl (z1q (z0 (pv 7) (z0 (pv 6) z7))))))))), ?_⟩
  walk_at "rd"
  obtain ⟨dx, hob⟩ := hc.ob
  have hsz := hc.sz
  have hsl := zas ss ks.length hd lk sh tick
  refine ⟨_, _, hob, z2v _ _ (by decide +kernel) (by decide +kernel), c, l, ks, ls, ss, hd, lk, sh, tick, rfl, hc, hsm, hl, fun r H1 hr0 gr s1 => ?_⟩
  have snd : (sayl ss ks.length hd lk sh tick).Nodup := List.Nodup.sublist List.filter_sublist (z9e _ _)
  have smem : ∀ j ∈ sayl ss ks.length hd lk sh tick, j < ks.length ∧ upAt ss j = true ∧ frAt ss hd lk sh tick j = true := fun j hj => by
   obtain ⟨a, b⟩ := List.mem_filter.mp hj
   exact ⟨(z53 a).1, (z53 a).2, b⟩
  generalize sayl ss ks.length hd lk sh tick = sl at e1 q gr hsl snd smem
  refine ⟨r, rfl, _, .inl (SqL.of gr), _, _, _, s1 _ _ hob, T.cl_Council, T.n_Council_most, _, zgh _ _, _, rfl, ?_⟩
  have epl : (zx sl).length = sl.length := List.length_map _
  rw [epl]
  by_cases hlt : (sl.length : Int) < (ks.length : Int) / 2 + 1
  ·rw [if_pos (decide_eq_true hlt)]
   exact ⟨ze (by decide), e1 hlt H1 s1⟩
  rw [if_neg (by simpa using hlt)]
  have q := q hlt
  have hc1 := hc.mono s1
  refine ⟨_, _, s1 _ _ hob, z2v _ _ (by decide +kernel) (by decide +kernel), c, l, ks, ls, ss, rfl, hc1, fun r2 L H2 hL hr2 gr2 s2 => ⟨r2, rfl, ⟨_, SqL.of gr2⟩, ?_⟩⟩
  have hll := hL.len
  have hc2 := hc1.mono s2
  have stAt : ∀ y ∈ L, ∃ s, ss[y.2.1]? = some s ∧ s.u = true ∧ ∃ dx lk', H2 y.2.2 = some (.ins C_Keeper dx (kf s.u s.t lk')) := fun y hy => by
   obtain ⟨s, l1, hu, hl1, -, Ls, eL, ⟨dk, lk', a1, a2⟩, -, -⟩ := hc2.kp y.2.1 y.2.2 (hL.at_ y hy)
   have hm : y.2.1 ∈ upl ss ks.length := by rw [← hL.mp]; exact List.mem_map_of_mem hy
   have := (z53 hm).2
   unfold upAt at this
   rw [hu] at this
   exact ⟨s, hu, this, dk, lk', a1⟩
  refine z5w (xs := ptup L) (by rw [z4j]; exact ze (by omega)) (fun i acc H' => H2 = H' ∧ ∃ ns : List Int, acc = ns.map V.int ∧ ns.length = (L.take i).length ∧ (∀ x ∈ ns, ∃ s ∈ ss, s.u = true ∧ s.t = x) ∧ ∀ y ∈ L.take i, ∀ s, ss[y.2.1]? = some s → s.t ∈ ns) ⟨rfl, [], rfl, rfl, (fun x hx => by cases hx), (fun y hy => by cases hy)⟩ ?_ ?_ ?_ ?_
  ·rintro i acc H' ⟨-, ns, rfl, en, -⟩
   rw [List.length_map, en, List.length_take]
   omega
  ·rintro i acc H' ⟨rfl, -⟩
   exact SqL.of gr2
  ·rintro Nn i acc H' x hN hx hi ⟨rfl, ns, rfl, en, hn1, hn2⟩
   obtain ⟨y, hy, rfl⟩ := z7f hx
   have my := List.mem_of_getElem? hy
   refine ⟨y.1, _, rfl, SqT.of (hL.tu y my), rfl, ?_⟩
   walk_at "rd"
   obtain ⟨s, hu, hup, dk, lk', a1⟩ := stAt y my
   refine ⟨_, _, ⟨rfl, rfl⟩, _, _, rfl, rfl, ⟨_, rfl⟩, y.2.2, rfl, _, _, _, a1, T.cl_Keeper, T.n_Keeper_top, _, ze5 s.u s.t lk', hN _ _ ⟨rfl, ns ++ [s.t], by simp, ?_, fun x hx => ?_, fun z hz s' hs' => ?_⟩⟩
   ·rw [List.length_append, en, List.take_succ, hy]
    simp
   ·rcases List.mem_append.mp hx with hx | hx
    ·exact hn1 x hx
    ·have : x = s.t := by simpa using hx
     exact ⟨s, List.mem_of_getElem? hu, hup, this.symm⟩
   ·rw [List.take_succ, hy] at hz
    rcases List.mem_append.mp hz with hz | hz
    ·exact List.mem_append_left _ (hn2 z hz s' hs')
    ·have : z = y := by simpa using hz
     rw [this, hu] at hs'
     cases hs'
     simp
  rintro acc H' ⟨rfl, ns, rfl, en, hn1, hn2⟩ p hp
  rw [z4j, List.take_length] at en hn2
  have lsl : 0 < sl.length := by
   have : (0 : Int) ≤ (ks.length : Int) / 2 := Int.ediv_nonneg (by omega) (by decide)
   omega
  obtain ⟨j0, hj0⟩ : ∃ j, j ∈ sl := ⟨sl[0], List.getElem_mem lsl⟩
  have memL : ∀ j, j < ks.length → upAt ss j = true → ∃ y ∈ L, y.2.1 = j := fun j hj hu => by
   have : j ∈ upl ss ks.length := List.mem_filter.mpr ⟨List.mem_range.mpr hj, hu⟩
   rw [← hL.mp] at this
   obtain ⟨y, hy, e⟩ := List.mem_map.mp this
   exact ⟨y, hy, e⟩
  have nne : ns ≠ [] := by
   obtain ⟨a, b, -⟩ := smem j0 hj0
   obtain ⟨y, hy, -⟩ := memL j0 a b
   intro z
   rw [z] at en
   have : L = [] := List.length_eq_zero_iff.mp en.symm
   rw [this] at hy
   cases hy
  have s3 := s2.trans (Same.upd (o := .lst (ns.map V.int)) hp)
  refine ⟨p, rfl, ns, SqL.of z9, nne, fun m hm hmax => ⟨r, rfl, ⟨_, SqL.of (s3 _ _ gr)⟩, ?_⟩⟩
  have top : z85 ss m := ⟨hn1 m hm, fun s hs hup => by
   obtain ⟨j, hj, e⟩ := List.getElem_of_mem hs
   have ej : ss[j]? = some s := by rw [List.getElem?_eq_getElem hj, e]
   obtain ⟨y, hy, e2⟩ := memL j (by rw [← hc.ln]; exact hj) (by unfold upAt; rw [ej]; exact hup)
   exact hmax _ (hn2 y hy s (by rw [e2]; exact ej))⟩
  generalize upd H2 p (.lst (ns.map V.int)) = H3 at s3 ⊢
  have hc3 := hc1.mono s3
  have gr3 := s3 _ _ gr
  refine z3y (xs := zx sl) (fun i σ H' => ∃ (v8 : Option V) (ls' : List Addr), σ = [some (V.ref c), some (V.str hd), some (V.str lk), some (V.bl sh), some (V.int tick), some (V.int time), some (V.ref r), some (V.int (1 + m)), v8] ∧ LsOk H ls ls' ∧ CAt C_Council C_Keeper H' c l ks ls' (z1v ss (sl.take i) ⟨1 + m, hd, lk, sh, tick + time⟩) ∧ ButK ks H3 H') ⟨_, ls, rfl, LsOk.refl _ _, by rw [List.take_zero, zec]; exact hc3, fun b o e _ => e⟩ ?_ ?_ ?_
  ·rintro i σ H' - ⟨v8, ls', rfl, -, -, b⟩
   refine SqL.of (b _ _ gr3 fun z => ?_)
   obtain ⟨_, _, e⟩ := hc3.mem z
   rw [gr3] at e
   cases e
  ·rintro Pv hP i x σ H' hx ⟨v8, ls', rfl, hls, hci, b⟩
   unfold zx at hx
   rw [List.getElem?_map] at hx
   cases ej : sl[i]? with
   | none => rw [ej] at hx; cases hx
   | some j =>
   rw [ej] at hx
   cases hx
   walk_at "rd"
   obtain ⟨hjl, hju, hjf⟩ := smem j (List.mem_of_getElem? ej)
   have hjk : ks[j]? = some ks[j] := List.getElem?_eq_getElem hjl
   obtain ⟨s, l1, hs, -, -⟩ := hc3.kp j _ hjk
   obtain ⟨eg, eg2⟩ := zcu (x := ⟨1 + m, hd, lk, sh, tick + time⟩) ej hs snd
   obtain ⟨dxi, hobi⟩ := hci.ob
   refine ⟨_, _, hobi, z2v _ _ (by decide +kernel) (by decide +kernel), c, l, ks, ls', _, _, rfl, hci, fun z => absurd ⟨by omega, by omega⟩ z, fun j' k' ej' hk' => ?_⟩
   have ejj : j' = j := by omega
   subst ejj
   obtain ⟨s', l2, hs', hl2, -, Ls, eL, hk⟩ := hci.kp j' k' hk'
   rw [eg2] at hs'
   cases hs'
   obtain ⟨⟨dk, lk', a1, a2⟩, hn, -⟩ := id hk
   have l62 : Ls.length ≤ 62 := by
    have := hsm s (List.mem_of_getElem? hs)
    rw [← eL, List.length_map] at this
    exact this
   have hup : s.u = true := by unfold upAt at hju; rw [hs] at hju; exact hju
   have hfr : z2e Ls hd lk sh tick = true := by unfold frAt at hjf; rw [hs] at hjf; rw [z81, eL]; exact hjf
   have hlt2 : s.t < 1 + m := by have := top.2 s (List.mem_of_getElem? hs) hup; omega
   refine ⟨k', rfl, _, _, a1, z3j s.u s.t lk' (by decide +kernel) (by decide +kernel) (by decide +kernel), k', s.u, s.t, Ls, 1 + m, hd, lk, sh, tick, time, rfl, hk, l62, hh, hl, fun z => (by rw [hup] at z; cases z), fun _ z => (by omega), fun _ _ z => (by rw [hfr] at z; cases z), fun _ _ _ pn H5 hpn hk5 hz5 hb5 => ?_⟩
   obtain ⟨dx5, l5, z5, n5'⟩ := hz5
   have n50 : H l5 = none := by
    cases e : H l5 with
    | none => rfl
    | some o =>
     by_cases z : l5 ∈ ks
     ·obtain ⟨_, _, e2⟩ := hci.mem z
      rw [n5'] at e2
      cases e2
     ·rw [((ButK.of (s1.trans s3)).trans b) _ _ e z] at n5'
      cases n5'
   refine hP _ _ _ ⟨_, ls'.set j' l5, rfl, fun x hx => ?_, ?_, b.trans (ButK.but hb5 (List.mem_of_getElem? hk'))⟩
   ·rcases List.mem_or_eq_of_mem_set hx with z | z
    ·exact hls x z
    ·exact .inr (z ▸ n50)
   rw [eg]
   refine hci.set hk' ⟨⟨dx5, z5⟩, _, ?_, hk5⟩ hb5
   rw [List.map_append, zea, eL]
   rfl
  ·rintro σ H' ⟨v8, ls', rfl, hls, hci, b⟩
   walk_at "rd"
   have epl' : (zx sl).length = sl.length := List.length_map _
   rw [epl', List.take_length] at hci
   refine ⟨ze (by decide), fun pr hpr => ?_⟩
   have nrk : r ∉ ks := fun z => by
    obtain ⟨_, _, e⟩ := hc3.mem z
    rw [gr3] at e
    cases e
   have b0 : ButK ks H H' := (ButK.of (s1.trans s3)).trans b
   have hpr0 : H pr = none := by
    cases e : H pr with
    | none => rfl
    | some o =>
     by_cases z : pr ∈ ks
     ·obtain ⟨_, _, e2⟩ := hci.mem z
      rw [hpr] at e2
      cases e2
     ·rw [b0 _ _ e z] at hpr
      cases hpr
   exact q m top pr r ls' _ hls (hci.mono (Same.upd hpr)) z9 (Same.upd hpr _ _ (b _ _ gr3 nrk)) hpr0 hr0 (b0.trans (ButK.of (Same.upd hpr)))
def spAt (K : PySem.W.Frag) : Sp := fun vs H Q _ => ∃ (p : Addr) (ns : List Int) (k : Nat), vs = [.ref p, .int k] ∧ SqL K H p (ns.map V.int) ∧ ns.length ≤ 1000 ∧ Q (.int (ns.getD k 0)) H
theorem zcv (F : Def K mg "_law_at" z65 ["_law_script", "_law_k"]) (T : Txt K mg C_Council C_Down C_InTheWay C_Keeper C_NotFree C_OldNumber C_UnknownKeeper) : Has P w K mg base 1 "_law_at" ["_law_script", "_law_k"] (spAt K) := by
 refine F.ok zcr (fun vs H Q E h => ?_) (fun f cdv A outer s H vs Q E hr h => ?_)
 ·obtain ⟨p, ns, k, rfl, _⟩ := h
  rfl
 ·obtain ⟨p, ns, k, rfl, hp, hl, q⟩ := h
  refine ⟨_, (za (zt (zo za1 (pv 1) (zd zr rfl T.b_len (by decide +kernel) (z0 (pv 0) z7)) (zk _)) (zc (zl (zj ix_list (pv 0) (pv 1) (fun _ _ => rfl)))) zp)
   (zc (zl z8))), ?_⟩
  walk_at "rd"
  refine ⟨_, .inl hp, ?_⟩
  rw [List.length_map]
  by_cases hk : k < ns.length
  ·rw [if_pos (by simpa using hk)]
   refine ⟨p, _, _, _, rfl, rfl, hp, zf (v := .int (ns.getD k 0)) ?_, q⟩
   rw [List.getElem?_map, List.getD_eq_getElem?_getD, List.getElem?_eq_getElem hk]
   rfl
  ·rw [if_neg (by simpa using hk)]
   have e : ns.getD k 0 = 0 := by rw [List.getD_eq_getElem?_getD, List.getElem?_eq_none (by omega)]; rfl
   rw [← e]
   exact q
def abc : Str := "abcdefghijklmnopqrstuvwxyz0123456789"
theorem zgj : ∀ n, n < 36 → ∃ c, abc.cps.toList[n]? = some c := by
 intro n hn
 have l : abc.cps.toList.length = 36 := by decide +kernel
 exact ⟨_, List.getElem?_eq_getElem (by omega)⟩
theorem zhb (j : Int) (h0 : 0 ≤ j) (h1 : j < 36) : ∃ c, atI abc.cps.toList j = some c := by
 obtain ⟨n, rfl⟩ := Int.eq_ofNat_of_zero_le h0
 obtain ⟨c, hc⟩ := zgj n (by omega)
 exact ⟨c, zf hc⟩
theorem zee {d : Nat} {n : Nat} (h : n ≤ 100) : MulOk ⟨#[d]⟩ (n : Int) := by
 have f : ∀ m : _root_.Fin 101, (decide ((m.val : Int) < 1) || (decide (¬ ((1 : Int) > (2 ^ 63 - 1) / (m.val : Int))) && (Builtin.Str.tooLong (1 * m.val) == false))) = true := by decide +kernel
 have g := f ⟨n, by omega⟩
 dsimp only at g
 rw [Bool.or_eq_true, Bool.and_eq_true] at g
 have l : (⟨#[d]⟩ : Str).length = 1 := rfl
 refine ⟨?_, fun h1 _ => ?_, fun h1 _ => ?_⟩
 ·rw [Bool.or_eq_false_iff]
  exact ⟨decide_eq_false (by omega), decide_eq_false (by omega)⟩
 ·rcases g with g | g
  ·exact absurd (of_decide_eq_true g) h1
  ·rw [l]
   exact of_decide_eq_true g.1
 ·rcases g with g | g
  ·exact absurd (of_decide_eq_true g) h1
  ·rw [l, Int.toNat_natCast]
   exact eq_of_beq g.2
theorem zau (d : Nat) : ∀ (m : Nat) (acc : Array Nat), ((List.replicate m #[d]).foldl (· ++ ·) acc).size = acc.size + m
 | 0, acc => rfl
 | m + 1, acc => by
  rw [List.replicate_succ, List.foldl_cons, zau d m, Array.size_append]
  show acc.size + 1 + m = _
  omega
theorem z8u (d n : Nat) : (Txt.mul ⟨#[d]⟩ (n : Int)).length = n := by
 unfold Txt.mul
 by_cases h1 : (n : Int) < 1
 ·rw [if_pos h1]
  have : n = 0 := by omega
  subst this
  rfl
 ·rw [if_neg h1]
  by_cases h2 : n = 1
  ·subst h2
   rfl
  ·rw [if_neg (by simp; exact ⟨by omega, by show ¬ (1 = 0); decide⟩)]
   show ((List.replicate (n : Int).toNat #[d]).foldl (· ++ ·) #[]).size = n
   rw [zau, Int.toNat_natCast]
   show 0 + n = n
   omega
def zav : Sp := fun vs H Q _ => ∃ (c : Int) (k : Nat), vs = [.int c, .int k] ∧ k ≤ 10 ∧ ∀ z : Str, z.length ≤ 16 → Q (.str z) H
theorem zaw (F : Def K mg "_law_name" z4p ["_law_cell", "_law_k"]) (T : Txt K mg C_Council C_Down C_InTheWay C_Keeper C_NotFree C_OldNumber C_UnknownKeeper) : Has P w K mg base 1 "_law_name" ["_law_cell", "_law_k"] (zav) := by
 refine F.ok sc__law_name (fun vs H Q E h => ?_) (fun f cdv A outer s H vs Q E hr h => ?_)
 ·obtain ⟨c, k, rfl, _⟩ := h
  rfl
 ·obtain ⟨c, k, rfl, hk, q⟩ := h
  have hu := hr.units0
  refine ⟨_, (za (zm (i := 2) sc__law_name.nd rfl (Or.inl rfl) z1o)
   (za (zm (i := 3) sc__law_name.nd rfl (Or.inl rfl) (zg z17 (pv 0) z8))
   (za (zt (zo z1b (zg z10 (pv 0) z8) z8 (zk _)) (za (zt (zo zc4 (pv 1) z8 (zk _)) (zc (zl (zg z35 (zj z4y (pv 2) (zg z10 (zg zz (pv 3) z8) z8) (fun _ _ => rfl)) (zg z7q (zj z4y (pv 2) (zg z10 (pv 3) z8) (fun _ _ => rfl)) (zg z45 (pv 1) z8))))) zp)
   (zc (zl (zg z7q (zj z4y (pv 2) (zg z10 (pv 3) z8) (fun _ _ => rfl)) (zg zz (pv 1) z8))))) zp)
   (za (zt (zo z1b (zg z10 (pv 0) z8) z8 (zk _)) (zc (zl (zg z35 (zj z4y (pv 2) (zg z10 (zg zz (pv 3) (zg z4w z8 (pv 1))) z8) (fun _ _ => rfl)) (z58 zh2 z1o z6f (z6g (zg z10 (zg zz (zg z17 (pv 3) z8) (zg z4w z8 (pv 1))) z8)))))) zp)
   (za (zm (i := 4) sc__law_name.nd rfl (Or.inl rfl) (zg zz z8 (zg z10 (pv 3) z8)))
   (za (zm (i := 5) sc__law_name.nd rfl (Or.inl rfl) (zg z10 (zg z17 (pv 3) z8) (pv 4)))
   (za (zm (i := 6) sc__law_name.nd rfl (Or.inl rfl) z1o)
   (za (z44 PassesOwn.never rfl (z1z rfl T.b_range (z0 (pv 4) z7)) (z1s (i := 7) sc__law_name.nd rfl (Or.inl rfl)) (za (zm (i := 8) sc__law_name.nd rfl (Or.inl rfl) (zg zz (zg z17 (pv 3) z8) (zg z4w z8 (pv 7))))
   (z2a (zt (zo z1b (pv 7) (pv 5) (zk _)) (zc (zm (i := 8) sc__law_name.nd rfl (Or.inl rfl) (zg zz (zg z17 (pv 3) z8) (zg z4w z8 (pv 1))))) zp)
   (zc (zm (i := 6) sc__law_name.nd rfl (Or.inl rfl) (zg z35 (pv 6) (zj z4y (pv 2) (zg z10 (pv 8) z8) (fun _ _ => rfl))))))))
   (zc (zl (pv 6))))))))))), ?_⟩
  walk_at "rd"
  have sgn : ∀ (j : Int) (R : VK), 0 ≤ j → j < 36 → (∀ d : Nat, R (.str ⟨#[d]⟩) H) → rIxS (V.str "abcdefghijklmnopqrstuvwxyz0123456789") (V.int j) H R := fun j R h0 h1 k => by
   obtain ⟨d, hd⟩ := zhb j h0 h1
   exact ⟨abc, _, d, rfl, rfl, by decide, hd, k d⟩
  refine ⟨cdiv (by decide) (by decide), by decide, ite2 (fun _ => ite2 (fun h8 => ?_) (fun h8 => ?_)) (fun _ => ⟨by decide, ite2 (fun _ => ?_) (fun _ => ?_)⟩)⟩
  ·have h8' : 8 ≤ k := by have := of_decide_eq_true h8; omega
   have e7 : (k : Int) - 7 = ((k - 7 : Nat) : Int) := by omega
   rw [e7]
   refine ⟨by decide, sgn _ _ (by omega) (by omega) fun d => ⟨by decide, sgn _ _ (by omega) (by omega) fun d' => ⟨_, rfl, zee (by omega), _, rfl, ?_, q _ ?_⟩⟩⟩
   ·rw [z8u]
    exact ze (by show 1 + _ ≤ _; omega)
   ·rw [PySem.Str.length_append, z8u]
    show 1 + _ ≤ _
    omega
  ·have e7 : (k : Int) + 1 = ((k + 1 : Nat) : Int) := by omega
   rw [e7]
   refine ⟨by decide, sgn _ _ (by omega) (by omega) fun d => ⟨_, rfl, zee (by omega), q _ ?_⟩⟩
   rw [z8u]
   omega
  ·have l7 : ∀ u, (Txt.slice ("k0stemz" : Str) none u).length ≤ 7 := fun u => Txt.slice_le _ _ _
   refine ⟨.inl ⟨by decide, by decide⟩, by decide, sgn _ _ (by omega) (by omega) fun d => ⟨cdiv (by decide) (by decide), .inl ⟨by decide, by decide⟩, by decide, by decide, _, rfl, ?_, q _ ?_⟩⟩
   ·have := l7 (some ((c / 3 / 36 + 3 * (k : Int)) % 8))
    exact ze (by show 1 + _ ≤ _; omega)
   ·have := l7 (some ((c / 3 / 36 + 3 * (k : Int)) % 8))
    rw [PySem.Str.length_append]
    show 1 + _ ≤ _
    omega
  ·refine ⟨by decide, cdiv (by decide) (by decide), by omega, ⟨by omega, by omega⟩, ?_⟩
   refine z4n (fun i σ H' => H' = H ∧ ∃ (z : Str) (v v' : Option V), σ = [some (V.int c), some (V.int k), some (V.str "abcdefghijklmnopqrstuvwxyz0123456789"), some (V.int (c / 3)), some (V.int (1 + c / 3 % 8)), some (V.int (c / 3 / 8 % (1 + c / 3 % 8))), some (V.str z), v, v'] ∧ z.length = i) ⟨rfl, _, _, _, rfl, rfl⟩ ?_ ?_
   ·rintro Pv hP i σ H' hi ⟨rfl, z, v, v', rfl, hz⟩
    walk_at "rd"
    refine ⟨cdiv (by decide) (by decide), .inl ⟨by decide, by decide⟩, ?_⟩
    refine z5d (fun σ H2 => H2 = H' ∧ ∃ (r : Int), σ = [some (V.int c), some (V.int k), some (V.str "abcdefghijklmnopqrstuvwxyz0123456789"), some (V.int (c / 3)), some (V.int (1 + c / 3 % 8)), some (V.int (c / 3 / 8 % (1 + c / 3 % 8))), some (V.str z), some (V.int (0 + i)), some (V.int r)]) (fun Mid hM => ?_) ?_
    ·walk_at "rd"
     exact ite2 (fun _ => ⟨cdiv (by decide) (by decide), .inl ⟨by decide, by decide⟩, hM _ _ ⟨rfl, _, rfl⟩⟩) (fun _ => hM _ _ ⟨rfl, _, rfl⟩)
    ·rintro σ H2 ⟨rfl, r, rfl⟩
     walk_at "rd"
     refine ⟨by decide, sgn _ _ (by omega) (by omega) fun d => ⟨_, rfl, ze (by show _ + 1 ≤ _; omega), hP _ _ _ ⟨rfl, _, _, _, rfl, ?_⟩⟩⟩
     rw [PySem.Str.length_append]
     show _ + 1 = _
     omega
   ·rintro σ H' ⟨rfl, z, v, v', rfl, hz⟩
    walk_at "rd"
    exact q z (by omega)
def zbs : Sp := fun vs H Q _ => ∃ (c : Int) (m : Nat), vs = [.int c, .int m] ∧ m ≤ 10 ∧ ∀ (r : Addr) (zs : List Str) (H' : Hp), zs.length = m → (∀ z ∈ zs, z.length ≤ 16) → H r = none → H' r = some (.lst (zs.map V.str)) → Same H H' → Q (.ref r) H'
theorem z9t (F : Def K mg "_law_names" z4b ["_law_cell", "_law_many"]) (T : Txt K mg C_Council C_Down C_InTheWay C_Keeper C_NotFree C_OldNumber C_UnknownKeeper) (G__law_name : Has P w K mg base 1 "_law_name" ["_law_cell", "_law_k"] (zav)) : Has P w K mg base 2 "_law_names" ["_law_cell", "_law_many"] (zbs) := by
 refine F.ok z9r (fun vs H Q E h => ?_) (fun f cdv A outer s H vs Q E hr h => ?_)
 ·obtain ⟨c, m, rfl, _⟩ := h
  rfl
 ·obtain ⟨c, m, rfl, hm, q⟩ := h
  have hu := hr.units0
  refine ⟨_, (zc (zl (z1y (x := "_law_k") (cap := ["_law_cell"]) (js := [0]) rfl ⟨rfl, by decide +kernel, by decide +kernel, rfl, zy rfl, by decide +kernel, ⟨⟨rfl, Or.inl rfl, rfl⟩, trivial⟩⟩ (z1z rfl T.b_range (z0 (pv 1) z7)) (fun _ _ _ _ => z2r) (fun _ _ _ _ => (z15 G__law_name (hr.mono (by decide)) rfl (z0 (pv 1) (z0 (pv 0) z7))))))), ?_⟩
  walk_at "rd"
  refine ⟨⟨by omega, by omega⟩, ?_⟩
  rw [Int.toNat_natCast]
  refine z2l (ze (by omega)) (fun i acc H' => H' = H ∧ ∃ zs : List Str, acc = zs.map V.str ∧ zs.length = i ∧ ∀ z ∈ zs, z.length ≤ 16) ⟨rfl, [], rfl, rfl, by simp⟩ ?_ ?_ ?_
  ·rintro i acc H' ⟨-, zs, rfl, rfl, -⟩
   rw [List.length_map]
   exact Nat.le_refl _
  ·rintro Nn i acc H' hN hi ⟨rfl, zs, rfl, hl, hz⟩
   walk_at "rd"
   refine ⟨c, i, by simp, by omega, fun z hz' => hN _ _ ⟨rfl, zs ++ [z], by simp, by simp [hl], ?_⟩⟩
   intro y hy
   rcases List.mem_append.mp hy with h | h
   ·exact hz y h
   ·have : y = z := by simpa using h
    rw [this]
    exact hz'
  ·rintro acc H' ⟨rfl, zs, rfl, hl, hz⟩ p hp
   exact q p zs _ hl hz hp z9 (Same.upd hp)
def zbt : Sp := fun vs H Q _ => ∃ (c w' : Int) (m : Nat), vs = [.int c, .int w', .int m] ∧ m ≤ 10 ∧ ∀ (r : Addr) (zs : List Str) (H' : Hp), zs.length = m → (∀ z ∈ zs, z.length ≤ 200) → H r = none → H' r = some (.lst (zs.map V.str)) → Same H H' → Q (.ref r) H'
theorem z9u (F : Def K mg "_law_locks" z4c ["_law_cell", "_law_words", "_law_many"]) (T : Txt K mg C_Council C_Down C_InTheWay C_Keeper C_NotFree C_OldNumber C_UnknownKeeper) (G__law_name : Has P w K mg base 1 "_law_name" ["_law_cell", "_law_k"] (zav)) : Has P w K mg base 2 "_law_locks" ["_law_cell", "_law_words", "_law_many"] (zbt) := by
 refine F.ok sc__law_locks (fun vs H Q E h => ?_) (fun f cdv A outer s H vs Q E hr h => ?_)
 ·obtain ⟨c, w', m, rfl, _⟩ := h
  rfl
 ·obtain ⟨c, w', m, rfl, hm, q⟩ := h
  have hu := hr.units0
  refine ⟨_, (za (zm (i := 3) sc__law_locks.nd rfl (Or.inl rfl) (z22 z7))
   (za (zm (i := 4) sc__law_locks.nd rfl (Or.inl rfl) (zg z17 (pv 0) z8))
   (za (z44 PassesOwn.never rfl (z1z rfl T.b_range (z0 (pv 2) z7)) (z1s (i := 5) sc__law_locks.nd rfl (Or.inl rfl)) (za (zm (i := 6) sc__law_locks.nd rfl (Or.inl rfl) (zfq zd6 z8))
   (z2a (zt (zo z1b (zg z10 (pv 0) z8) z8 (zk _)) (zc (zm (i := 6) sc__law_locks.nd rfl (Or.inl rfl) (zg z45 (pv 5) z8))) zp)
   (z2a (zt (zo z1b (zg z10 (pv 0) z8) z8 (zk _)) (zc (zm (i := 6) sc__law_locks.nd rfl (Or.inl rfl) (zg z45 (zd (z8z rfl) rfl T.b_min (by decide +kernel) (z0 (pv 5) (z0 z8 z7))) z8))) zp)
   (z2a (zt (zo z1b (zg z10 (pv 0) z8) z8 (zk _)) (zc (zm (i := 6) sc__law_locks.nd rfl (Or.inl rfl) (zg z17 (zg z45 (pv 5) z8) z8))) zp)
   (z2a (zt (zo zc4 (zg z10 (pv 0) z8) z8 (zk _)) (za (zm (i := 6) sc__law_locks.nd rfl (Or.inl rfl) (zg z45 (zg z10 (pv 4) (zg zz (pv 5) z8)) z8))
   (zc (zm (i := 4) sc__law_locks.nd rfl (Or.inl rfl) (zg z17 (pv 4) (zg zz (pv 5) z8))))) zp)
   (za (zm (i := 7) sc__law_locks.nd rfl (Or.inl rfl) (z15 G__law_name (hr.mono (by decide)) rfl (z0 (pv 1) (z0 (pv 5) z7))))
   (z2a (zt (PW.pt (z5q (zo zc4 (pv 6) z8 (zk _)) (z6c (zo za1 (z3g PySem.F.plainAttrs_str PySem.F.slot_str_count PySem.F.type_str_count zeu (zj ix_list (pv 3) (pv 6) (fun _ _ => rfl)) (z0 z1o z7)) z8 (zk _))))) (zc (zm (i := 7) sc__law_locks.nd rfl (Or.inl rfl) (zg z35 (zg z35 (zj ix_list (pv 3) (pv 6) (fun _ _ => rfl)) z1o) (pv 7)))) zp)
   (zc (z28 (z3g PySem.F.plainAttrs_list PySem.F.slot_list_append PySem.F.type_list_append z3m (pv 3) (z0 (pv 7) z7))))))))))))
   (zc (zl (pv 3)))))), ?_⟩
  walk_at "rd"
  refine ⟨by decide, fun p hp => ⟨cdiv (by decide) (by decide), ⟨by omega, by omega⟩, ?_⟩⟩
  rw [Int.toNat_natCast]
  let Inv := fun (i : Nat) (zs : List Str) (H' : Hp) => zs.length = i ∧ (∀ z ∈ zs, z.length ≤ 20 * i) ∧ H' p = some (.lst (zs.map V.str)) ∧ Same H H'
  refine z4n (fun i σ H' => ∃ (zs : List Str) (r : Int) (v5 v6 v7 : Option V), σ = [some (.int c), some (.int w'), some (.int m), some (.ref p), some (.int r), v5, v6, v7] ∧ Inv i zs H') ⟨[], _, _, _, _, rfl, rfl, (fun z hz => by cases hz), z9, Same.upd hp⟩ ?_ ?_
  ·rintro Pv hP i σ H' hi ⟨zs, r, v5, v6, v7, rfl, hI⟩
   walk_at "rd"
   refine z5d (fun σ H2 => H' = H2 ∧ ∃ (pa r : Int), -1 ≤ pa ∧ pa < i ∧ σ = [some (.int c), some (.int w'), some (.int m), some (.ref p), some (.int r), some (.int (0 + i)), some (.int pa), v7]) (fun Mid hM => ?_) ?_
   ·walk_at "rd"
    exact ⟨by decide, ite2 (fun _ => hM _ _ ⟨rfl, _, _, by omega, by omega, rfl⟩) (fun _ => hM _ _ ⟨rfl, _, _, by omega, by omega, rfl⟩)⟩
   rintro σ H2 ⟨rfl, pa, r, p1, p2, rfl⟩
   refine z5d (fun σ H2 => H' = H2 ∧ ∃ (pa r : Int), -1 ≤ pa ∧ pa < i ∧ σ = [some (.int c), some (.int w'), some (.int m), some (.ref p), some (.int r), some (.int (0 + i)), some (.int pa), v7]) (fun Mid hM => ?_) ?_
   ·walk_at "rd"
    refine ⟨by decide, ite2 (fun _ => ⟨_, _, ⟨rfl, rfl⟩, hM _ _ ⟨rfl, _, _, ?_, ?_, rfl⟩⟩) (fun _ => hM _ _ ⟨rfl, _, _, p1, p2, rfl⟩)⟩ <;> (split <;> omega)
   rintro σ H2 ⟨rfl, pa, r, p1, p2, rfl⟩
   refine z5d (fun σ H2 => H' = H2 ∧ ∃ (pa r : Int), -1 ≤ pa ∧ pa < i ∧ σ = [some (.int c), some (.int w'), some (.int m), some (.ref p), some (.int r), some (.int (0 + i)), some (.int pa), v7]) (fun Mid hM => ?_) ?_
   ·walk_at "rd"
    exact ⟨by decide, ite2 (fun _ => ⟨cdiv (by decide) (by decide), hM _ _ ⟨rfl, _, _, by omega, by omega, rfl⟩⟩) (fun _ => hM _ _ ⟨rfl, _, _, p1, p2, rfl⟩)⟩
   rintro σ H2 ⟨rfl, pa, r, p1, p2, rfl⟩
   refine z5d (fun σ H2 => H' = H2 ∧ ∃ (pa r : Int), -1 ≤ pa ∧ pa < i ∧ σ = [some (.int c), some (.int w'), some (.int m), some (.ref p), some (.int r), some (.int (0 + i)), some (.int pa), v7]) (fun Mid hM => ?_) ?_
   ·walk_at "rd"
    have b1 := Int.emod_nonneg r (b := 0 + (i : Int) + 1) (by omega)
    have b2 := Int.emod_lt_of_pos r (b := 0 + (i : Int) + 1) (by omega)
    exact ⟨by decide, ite2 (fun _ => ⟨by omega, cdiv (by omega) (by omega), hM _ _ ⟨rfl, _, _, by omega, by omega, rfl⟩⟩) (fun _ => hM _ _ ⟨rfl, _, _, p1, p2, rfl⟩)⟩
   rintro σ H2 ⟨rfl, pa, r, p1, p2, rfl⟩
   obtain ⟨hl, hz, hg, hs⟩ := hI
   walk_at "rd"
   refine ⟨w', i, by simp, by omega, fun z hz16 => ?_⟩
   refine z5d (fun σ H2 => H' = H2 ∧ ∃ z : Str, z.length ≤ 20 * (i + 1) ∧ σ = [some (.int c), some (.int w'), some (.int m), some (.ref p), some (.int r), some (.int (0 + i)), some (.int pa), some (.str z)]) (fun Mid hM => ?_) ?_
   ·walk_at "rd"
    refine ite2 (fun h0 => ?_) (fun _ => hM _ _ ⟨rfl, z, by omega, rfl⟩)
    obtain ⟨n, rfl⟩ := Int.eq_ofNat_of_zero_le (of_decide_eq_true h0)
    have hn : n < zs.length := by omega
    have gn : (zs.map V.str)[n]? = some (.str zs[n]) := by rw [List.getElem?_map, List.getElem?_eq_getElem hn]; rfl
    have bn := hz _ (List.getElem_mem hn)
    have l1 : ("/" : Str).length = 1 := rfl
    refine ⟨_, _, _, _, rfl, rfl, SqL.of hg, zf gn, trivial, _, rfl, ite2 (fun _ => ?_) (fun _ => hM _ _ ⟨rfl, z, by omega, rfl⟩)⟩
    refine ⟨_, _, _, _, rfl, rfl, SqL.of hg, zf gn, _, rfl, ze (by omega), ze (by rw [PySem.Str.length_append]; omega), hM _ _ ⟨rfl, _, ?_, rfl⟩⟩
    rw [PySem.Str.length_append, PySem.Str.length_append]
    omega
   rintro σ H2 ⟨rfl, y, hy, rfl⟩
   walk_at "rd"
   refine ⟨.inl ⟨_, SqL.of hg⟩, _, _, _, rfl, rfl, hg, by rw [List.length_map]; exact z4k (by omega), hP _ _ _ ⟨zs ++ [y], _, _, _, _, rfl, by simp [hl], fun x hx => ?_, ?_, ?_⟩⟩
   ·rcases List.mem_append.mp hx with h | h
    ·have := hz x h
     omega
    ·have : x = y := by simpa using h
     rw [this]
     exact hy
   ·rw [z9, List.map_append]
    rfl
   ·intro b o e
    rw [zb (zh e hp)]
    exact hs b o e
  ·rintro σ H' ⟨zs, r, v5, v6, v7, rfl, hl, hz, hg, hs⟩
   walk_at "rd"
   exact q p zs H' hl (fun z h => by have := hz z h; omega) hp hg hs
def zcw (a b : Str) : Bool := decide ((sp a).take (min (sp a).length (sp b).length) = (sp b).take (min (sp a).length (sp b).length))
def zef : Sp := fun vs H Q _ => ∃ a b : Str, vs = [.str a, .str b] ∧ a.length ≤ 1000 ∧ b.length ≤ 1000 ∧ z3x H Q (.bl (zcw a b))
theorem zax (F : Def K mg "_law_line" z4r ["_law_one", "_law_other"]) (T : Txt K mg C_Council C_Down C_InTheWay C_Keeper C_NotFree C_OldNumber C_UnknownKeeper) : Has P w K mg base 1 "_law_line" ["_law_one", "_law_other"] (zef) := by
 refine F.ok sc__law_line (fun vs H Q E h => ?_) (fun f cdv A outer s H vs Q E hr h => ?_)
 ·obtain ⟨a, b, rfl, _⟩ := h
  rfl
 ·obtain ⟨a, b, rfl, ha, hb, k⟩ := h
  have hu := hr.units0
  refine ⟨_, (za (zm (i := 2) sc__law_line.nd rfl (Or.inl rfl) (z3g PySem.F.plainAttrs_str PySem.F.slot_str_split PySem.F.type_str_split z5c (pv 0) (z0 z1o z7)))
   (za (zm (i := 3) sc__law_line.nd rfl (Or.inl rfl) (z3g PySem.F.plainAttrs_str PySem.F.slot_str_split PySem.F.type_str_split z5c (pv 1) (z0 z1o z7)))
   (za (zm (i := 4) sc__law_line.nd rfl (Or.inl rfl) (zd (z8z rfl) rfl T.b_min (by decide +kernel) (z0 (zd zr rfl T.b_len (by decide +kernel) (z0 (pv 2) z7)) (z0 (zd zr rfl T.b_len (by decide +kernel) (z0 (pv 3) z7)) z7))))
   (zc (zl (z1c (zdh hu) (z58 z89 (pv 2) z6f (z6g (pv 4))) (z58 z89 (pv 3) z6f (z6g (pv 4))) (zk _))))))), ?_⟩
  walk_at "rd"
  refine z6h rfl (by omega) fun p hp => z6h rfl (by omega) fun q hq => ?_
  have npq : p ≠ q := zh z9 hq
  have gp : (upd (upd H p (.lst ((Txt.split a "/").map V.str))) q (.lst ((Txt.split b "/").map V.str))) p = some (.lst ((Txt.split a "/").map V.str)) := by rw [zb npq, z9]
  refine ⟨_, rfl, _, .inl (SqL.of gp), _, rfl, _, .inl (SqL.of z9), _, _, ⟨rfl, rfl⟩, _, _, rfl, SqL.of gp, fun r hr' => ?_⟩
  have nr : ∀ b, b = p ∨ b = q → b ≠ r := fun b hb z => by
   subst z
   rcases hb with rfl | rfl
   ·rw [gp] at hr'; cases hr'
   ·rw [z9] at hr'; cases hr'
  have em : (if ((List.map V.str (Txt.split b "/")).length : Int) < ((List.map V.str (Txt.split a "/")).length : Int) then ((List.map V.str (Txt.split b "/")).length : Int) else ((List.map V.str (Txt.split a "/")).length : Int)) = ((min (sp a).length (sp b).length : Nat) : Int) := by
   rw [List.length_map, List.length_map]
   show (if ((sp b).length : Int) < ((sp a).length : Int) then ((sp b).length : Int) else ((sp a).length : Int)) = _
   split <;> omega
  rw [em]
  refine ⟨_, _, rfl, SqL.of (by rw [zb (nr q (.inr rfl)), z9]), fun t ht => ?_⟩
  have nrt : r ≠ t := zh z9 ht
  have c1 : cutV (List.map V.str (Txt.split a "/")) none (some ((min (sp a).length (sp b).length : Nat) : Int)) = ((sp a).take (min (sp a).length (sp b).length)).map V.str := by rw [z7o, ← List.map_take]; rfl
  have c2 : cutV (List.map V.str (Txt.split b "/")) none (some ((min (sp a).length (sp b).length : Nat) : Int)) = ((sp b).take (min (sp a).length (sp b).length)).map V.str := by rw [z7o, ← List.map_take]; rfl
  refine ⟨_, _, _, _, rfl, rfl, SqL.of (by rw [zb nrt, z9]), SqL.of z9, by rw [c1]; exact z2k _, by rw [c2]; exact z2k _, ?_⟩
  have e : eqVs (cutV (List.map V.str (Txt.split a "/")) none (some ((min (sp a).length (sp b).length : Nat) : Int))) (cutV (List.map V.str (Txt.split b "/")) none (some ((min (sp a).length (sp b).length : Nat) : Int))) = zcw a b := by
   rw [c1, c2, z47]
   rfl
  show Q (.bl (eqVs _ _)) _
  rw [e]
  exact k _ ((((Same.upd hp).trans (Same.upd hq)).trans (Same.upd hr')).trans (Same.upd ht))
theorem zay (a b : Str) : onl a b = onl b a := by unfold onl; rw [Bool.or_comm]
theorem zf7 {α : Type} [DecidableEq α] (A B : List α) : (decide (A.take B.length = B) || decide (B.take A.length = A)) = decide (A.take (min A.length B.length) = B.take (min A.length B.length)) := by
 rw [Bool.eq_iff_iff]
 simp only [Bool.or_eq_true, decide_eq_true_eq]
 constructor
 ·rintro (h | h)
  ·have hl : B.length ≤ A.length := by have := congrArg List.length h; rw [List.length_take] at this; omega
   rw [Nat.min_eq_right hl, h, List.take_length]
  ·have hl : A.length ≤ B.length := by have := congrArg List.length h; rw [List.length_take] at this; omega
   rw [Nat.min_eq_left hl, h, List.take_length]
 ·intro h
  by_cases hl : B.length ≤ A.length
  ·rw [Nat.min_eq_right hl, List.take_length] at h
   exact .inl h
  ·rw [Nat.min_eq_left (by omega), List.take_length] at h
   exact .inr h.symm
theorem zgk (a b : Str) : onl a b = zcw a b := zf7 (sp a) (sp b)
def zeg : Sp := fun vs H Q _ => ∃ (a b : Str) (x y : Bool), vs = [.str a, .bl x, .str b, .bl y] ∧ a.length ≤ 1000 ∧ b.length ≤ 1000 ∧ z3x H Q (.bl (onl a b && !(x && y)))
theorem zbe (F : Def K mg "_law_way" z5f ["_law_lock", "_law_shared", "_law_other", "_law_other_shared"]) (T : Txt K mg C_Council C_Down C_InTheWay C_Keeper C_NotFree C_OldNumber C_UnknownKeeper) (G__law_line : Has P w K mg base 1 "_law_line" ["_law_one", "_law_other"] (zef)) : Has P w K mg base 2 "_law_way" ["_law_lock", "_law_shared", "_law_other", "_law_other_shared"] (zeg) := by
  refine F.ok zbd (fun vs H Q E h => ?_) (fun f cdv A outer s H vs Q E hr h => ?_)
  · obtain ⟨a, b, x, y, rfl, _⟩ := h
    rfl
  · obtain ⟨a, b, x, y, rfl, ha, hb, q⟩ := h
    have hu := hr.units0
    refine ⟨_, (zc (zl (z1p (za7 (z1p (pv 1) (z1i (pv 3)))) (z1i (z15 G__law_line (hr.mono (by decide)) rfl (z0 (pv 0) (z0 (pv 2) z7))))))), ?_⟩
    walk_at "rd"
    have e := zgk a b
    cases x <;> cases y <;> simp only [Bool.not_true, Bool.not_false, if_true, if_false, Bool.false_eq_true] <;>
    first
    | (refine ⟨a, b, rfl, ha, hb, fun H' s' => ?_⟩
       have := q H' s'
       rw [e] at this
       simpa using this)
    | (have := q H (Same.refl _)
       simpa using this)
def za4 (v : V) : Prop := (∃ i, v = .int i) ∨ (∃ z, v = .str z) ∨ (∃ b, v = .bl b)
def Alike (H : Hp) : Nat → V → V → Prop
 | 0, v, v' => v = v' ∧ za4 v
 | n + 1, v, v' => (v = v' ∧ za4 v) ∨ ∃ (a b : Addr) (xs ys : List V), v = .ref a ∧ v' = .ref b ∧ ((H a = some (.lst xs) ∧ H b = some (.lst ys)) ∨ (H a = some (.tup xs) ∧ H b = some (.tup ys))) ∧ xs.length = ys.length ∧ xs.length ≤ 1000 ∧
   ∀ (i : Nat) (x y : V), xs[i]? = some x → ys[i]? = some y → Alike H n x y
theorem Alike.mono {H H' : Hp} (s : Same H H') : ∀ {n : Nat} {v v' : V}, Alike H n v v' → Alike H' n v v'
 | 0, _, _, h => h
 | n + 1, _, _, .inl h => .inl h
 | n + 1, _, _, .inr ⟨a, b, xs, ys, e1, e2, h, hl, hz, k⟩ => .inr ⟨a, b, xs, ys, e1, e2, h.elim (fun z => .inl ⟨s _ _ z.1, s _ _ z.2⟩) (fun z => .inr ⟨s _ _ z.1, s _ _ z.2⟩), hl, hz, fun i x y hx hy => Alike.mono s (k i x y hx hy)⟩
theorem Alike.up {H : Hp} : ∀ {n : Nat} {v v' : V}, Alike H n v v' → Alike H (n + 1) v v'
 | 0, _, _, h => .inl h
 | n + 1, _, _, .inl h => .inl h
 | n + 1, _, _, .inr ⟨a, b, xs, ys, e1, e2, h, hl, hz, k⟩ => .inr ⟨a, b, xs, ys, e1, e2, h, hl, hz, fun i x y hx hy => (k i x y hx hy).up⟩
def z6k (n : Nat) : Sp := fun vs H Q _ => ∃ v v', vs = [v, v'] ∧ Alike H n v v' ∧ z3x H Q (.bl true)
theorem zf8 (F : Def K mg "_law_same" z2g ["_law_found", "_law_due"]) (T : Txt K mg C_Council C_Down C_InTheWay C_Keeper C_NotFree C_OldNumber C_UnknownKeeper) (G__law_same : Has P w K mg base 0 "_law_same" ["_law_found", "_law_due"] (z8b)) : Has P w K mg base 1 "_law_same" ["_law_found", "_law_due"] (z6k 0) := by
 refine F.ok z4i (fun vs H Q E h => ?_) (fun f cdv A outer s H vs Q E hr h => ?_)
 ·obtain ⟨v, v', rfl, _⟩ := h
  rfl
 ·have hu := hr.units0
  obtain ⟨v, v', rfl, pv', q⟩ := h
  replace pv' : v = v' ∧ za4 v := pv'
  ·obtain ⟨rfl, pv'⟩ := pv'
   refine ⟨_, (za (zt (z16 (zd z4l rfl T.b_isinstance (by decide +kernel) (z0 (pv 1) (z0 (z1q (z0 (zn (v := .ty "list") rfl T.b_list (by decide +kernel) rfl) (z0 (zn (v := .ty "tuple") rfl T.b_tuple (by decide +kernel) rfl) z7))) z7)))) (za (zt (PW.pt (z3f (zo z20 (zd zq rfl T.b_isinstance (by decide +kernel) (z0 (pv 0) (z0 (zn (v := .ty "list") rfl T.b_list (by decide +kernel) rfl) z7))) (zd zq rfl T.b_isinstance (by decide +kernel) (z0 (pv 1) (z0 (zn (v := .ty "list") rfl T.b_list (by decide +kernel) rfl) z7))) (zk _)) (z3l (zo z20 (zd zq rfl T.b_isinstance (by decide +kernel) (z0 (pv 0) (z0 (zn (v := .ty "tuple") rfl T.b_tuple (by decide +kernel) rfl) z7))) (zd zq rfl T.b_isinstance (by decide +kernel) (z0 (pv 1) (z0 (zn (v := .ty "tuple") rfl T.b_tuple (by decide +kernel) rfl) z7))) (zk _))))) (zc (zl z1m)) zp)
   (zc (zl (z1p (z1c z1b (zd zr rfl T.b_len (by decide +kernel) (z0 (pv 0) z7)) (zd zr rfl T.b_len (by decide +kernel) (z0 (pv 1) z7)) (zk _)) (z1i (zd (z3i rfl) rfl T.b_all (by decide +kernel) (z0 (z1y (x := "_law_k") (cap := ["_law_found", "_law_due"]) (js := [0, 1]) rfl ⟨rfl, by decide +kernel, by decide +kernel, rfl, zy rfl, by decide +kernel, ⟨⟨rfl, Or.inl rfl, rfl⟩, ⟨⟨rfl, Or.inl rfl, rfl⟩, trivial⟩⟩⟩ (z1z rfl T.b_range (z0 (zd zr rfl T.b_len (by decide +kernel) (z0 (pv 1) z7)) z7)) (fun _ _ _ _ => z2r) (fun _ _ _ _ => (z15 G__law_same (hr.mono (by decide)) rfl (z0 (zj (z2m (K := K)) (pv 1) (pv 0) (fun _ _ => rfl)) (z0 (zj (z2m (K := K)) (pv 2) (pv 0) (fun _ _ => rfl)) z7))))) z7))))))) zp)
   (za (zt (zo z20 (zd zq rfl T.b_isinstance (by decide +kernel) (z0 (pv 0) (z0 (zn (v := .ty "bool") rfl T.b_bool (by decide +kernel) rfl) z7))) (zd zq rfl T.b_isinstance (by decide +kernel) (z0 (pv 1) (z0 (zn (v := .ty "bool") rfl T.b_bool (by decide +kernel) rfl) z7))) (zk _)) (zc (zl z1m)) zp)
   (za (zt (z16 (zd zq rfl T.b_isinstance (by decide +kernel) (z0 (pv 1) (z0 (zn (v := .ty "int") rfl T.b_int (by decide +kernel) rfl) z7)))) (zc (zl (z1p (zd zq rfl T.b_isinstance (by decide +kernel) (z0 (pv 0) (z0 (zn (v := .ty "int") rfl T.b_int (by decide +kernel) rfl) z7))) (z1i (z1c z1b (pv 0) (pv 1) (zk _)))))) zp)
   (zc (zl (z1p (zd zq rfl T.b_isinstance (by decide +kernel) (z0 (pv 0) (z0 (zn (v := .ty "str") rfl T.b_str (by decide +kernel) rfl) z7))) (z1i (z1c z1b (pv 0) (pv 1) (zk _))))))))), ?_⟩
   walk_at "rd"
   refine ⟨ze (by decide), fun p hp => ?_⟩
   have s1 := q _ (Same.upd (o := .tup [V.ty "list", V.ty "tuple"]) hp)
   rcases pv' with ⟨i, rfl⟩ | ⟨z, rfl⟩ | ⟨b, rfl⟩
   ·refine ⟨_, _, ⟨rfl, rfl⟩, _, _, SqT.of z9, _, .int i, _, (z2s K).1, ?_⟩
    rw [if_neg Bool.false_ne_true]
    refine ⟨_, _, ⟨rfl, rfl⟩, _, .int i, _, z2j K, _, _, ⟨rfl, rfl⟩, _, .int i, _, z2j K, ?_⟩
    rw [if_neg (by decide)]
    refine ⟨_, _, ⟨rfl, rfl⟩, _, .int i, _, (z14 K).1, ?_⟩
    rw [if_pos rfl]
    refine ⟨_, _, ⟨rfl, rfl⟩, _, .int i, _, (z14 K).1, ?_⟩
    rw [if_pos rfl]
    exact ⟨rfl, by simpa using s1⟩
   ·refine ⟨_, _, ⟨rfl, rfl⟩, _, _, SqT.of z9, _, .str z, _, (z2s K).2.2.1, ?_⟩
    rw [if_neg Bool.false_ne_true]
    refine ⟨_, _, ⟨rfl, rfl⟩, _, .str z, _, (z14 K).2.2.2.2.2.1, _, _, ⟨rfl, rfl⟩, _, .str z, _, (z14 K).2.2.2.2.2.1, ?_⟩
    rw [if_neg (by decide)]
    refine ⟨_, _, ⟨rfl, rfl⟩, _, .str z, _, (z14 K).2.2.1, ?_⟩
    rw [if_neg Bool.false_ne_true]
    refine ⟨_, _, ⟨rfl, rfl⟩, _, .str z, _, (z14 K).2.2.2.1, ?_⟩
    rw [if_pos rfl]
    exact ⟨rfl, by simpa using s1⟩
   ·refine ⟨_, _, ⟨rfl, rfl⟩, _, _, SqT.of z9, _, .bl b, _, (z2s K).2.1, ?_⟩
    rw [if_neg Bool.false_ne_true]
    refine ⟨_, _, ⟨rfl, rfl⟩, _, .bl b, _, z2z K, _, _, ⟨rfl, rfl⟩, _, .bl b, _, z2z K, ?_⟩
    rw [if_neg (by decide)]
    refine ⟨_, _, ⟨rfl, rfl⟩, _, .bl b, _, (z14 K).2.1, ?_⟩
    rw [if_pos rfl]
    refine ⟨_, _, ⟨rfl, rfl⟩, _, .bl b, _, (z14 K).2.1, ?_⟩
    rw [if_pos rfl]
    exact ⟨rfl, by simpa using s1⟩
theorem zf9 (F : Def K mg "_law_same" z2g ["_law_found", "_law_due"]) (T : Txt K mg C_Council C_Down C_InTheWay C_Keeper C_NotFree C_OldNumber C_UnknownKeeper) (G__law_same : Has P w K mg base 1 "_law_same" ["_law_found", "_law_due"] (z6k 0)) : Has P w K mg base 2 "_law_same" ["_law_found", "_law_due"] (z6k 1) := by
 refine F.ok z4i (fun vs H Q E h => ?_) (fun f cdv A outer s H vs Q E hr h => ?_)
 ·obtain ⟨v, v', rfl, _⟩ := h
  rfl
 ·have hu := hr.units0
  obtain ⟨v, v', rfl, pv', q⟩ := h
  rcases pv' with pv' | ⟨a, b, xs, ys, rfl, rfl, hab, hlm, hz, kk⟩
  ·obtain ⟨rfl, pv'⟩ := pv'
   refine ⟨_, (za (zt (z16 (zd z4l rfl T.b_isinstance (by decide +kernel) (z0 (pv 1) (z0 (z1q (z0 (zn (v := .ty "list") rfl T.b_list (by decide +kernel) rfl) (z0 (zn (v := .ty "tuple") rfl T.b_tuple (by decide +kernel) rfl) z7))) z7)))) (za (zt (PW.pt (z3f (zo z20 (zd zq rfl T.b_isinstance (by decide +kernel) (z0 (pv 0) (z0 (zn (v := .ty "list") rfl T.b_list (by decide +kernel) rfl) z7))) (zd zq rfl T.b_isinstance (by decide +kernel) (z0 (pv 1) (z0 (zn (v := .ty "list") rfl T.b_list (by decide +kernel) rfl) z7))) (zk _)) (z3l (zo z20 (zd zq rfl T.b_isinstance (by decide +kernel) (z0 (pv 0) (z0 (zn (v := .ty "tuple") rfl T.b_tuple (by decide +kernel) rfl) z7))) (zd zq rfl T.b_isinstance (by decide +kernel) (z0 (pv 1) (z0 (zn (v := .ty "tuple") rfl T.b_tuple (by decide +kernel) rfl) z7))) (zk _))))) (zc (zl z1m)) zp)
   (zc (zl (z1p (z1c z1b (zd zr rfl T.b_len (by decide +kernel) (z0 (pv 0) z7)) (zd zr rfl T.b_len (by decide +kernel) (z0 (pv 1) z7)) (zk _)) (z1i (zd (z3i rfl) rfl T.b_all (by decide +kernel) (z0 (z1y (x := "_law_k") (cap := ["_law_found", "_law_due"]) (js := [0, 1]) rfl ⟨rfl, by decide +kernel, by decide +kernel, rfl, zy rfl, by decide +kernel, ⟨⟨rfl, Or.inl rfl, rfl⟩, ⟨⟨rfl, Or.inl rfl, rfl⟩, trivial⟩⟩⟩ (z1z rfl T.b_range (z0 (zd zr rfl T.b_len (by decide +kernel) (z0 (pv 1) z7)) z7)) (fun _ _ _ _ => z2r) (fun _ _ _ _ => (z15 G__law_same (hr.mono (by decide)) rfl (z0 (zj (z2m (K := K)) (pv 1) (pv 0) (fun _ _ => rfl)) (z0 (zj (z2m (K := K)) (pv 2) (pv 0) (fun _ _ => rfl)) z7))))) z7))))))) zp)
   (za (zt (zo z20 (zd zq rfl T.b_isinstance (by decide +kernel) (z0 (pv 0) (z0 (zn (v := .ty "bool") rfl T.b_bool (by decide +kernel) rfl) z7))) (zd zq rfl T.b_isinstance (by decide +kernel) (z0 (pv 1) (z0 (zn (v := .ty "bool") rfl T.b_bool (by decide +kernel) rfl) z7))) (zk _)) (zc (zl z1m)) zp)
   (za (zt (z16 (zd zq rfl T.b_isinstance (by decide +kernel) (z0 (pv 1) (z0 (zn (v := .ty "int") rfl T.b_int (by decide +kernel) rfl) z7)))) (zc (zl (z1p (zd zq rfl T.b_isinstance (by decide +kernel) (z0 (pv 0) (z0 (zn (v := .ty "int") rfl T.b_int (by decide +kernel) rfl) z7))) (z1i (z1c z1b (pv 0) (pv 1) (zk _)))))) zp)
   (zc (zl (z1p (zd zq rfl T.b_isinstance (by decide +kernel) (z0 (pv 0) (z0 (zn (v := .ty "str") rfl T.b_str (by decide +kernel) rfl) z7))) (z1i (z1c z1b (pv 0) (pv 1) (zk _))))))))), ?_⟩
   walk_at "rd"
   refine ⟨ze (by decide), fun p hp => ?_⟩
   have s1 := q _ (Same.upd (o := .tup [V.ty "list", V.ty "tuple"]) hp)
   rcases pv' with ⟨i, rfl⟩ | ⟨z, rfl⟩ | ⟨b, rfl⟩
   ·refine ⟨_, _, ⟨rfl, rfl⟩, _, _, SqT.of z9, _, .int i, _, (z2s K).1, ?_⟩
    rw [if_neg Bool.false_ne_true]
    refine ⟨_, _, ⟨rfl, rfl⟩, _, .int i, _, z2j K, _, _, ⟨rfl, rfl⟩, _, .int i, _, z2j K, ?_⟩
    rw [if_neg (by decide)]
    refine ⟨_, _, ⟨rfl, rfl⟩, _, .int i, _, (z14 K).1, ?_⟩
    rw [if_pos rfl]
    refine ⟨_, _, ⟨rfl, rfl⟩, _, .int i, _, (z14 K).1, ?_⟩
    rw [if_pos rfl]
    exact ⟨rfl, by simpa using s1⟩
   ·refine ⟨_, _, ⟨rfl, rfl⟩, _, _, SqT.of z9, _, .str z, _, (z2s K).2.2.1, ?_⟩
    rw [if_neg Bool.false_ne_true]
    refine ⟨_, _, ⟨rfl, rfl⟩, _, .str z, _, (z14 K).2.2.2.2.2.1, _, _, ⟨rfl, rfl⟩, _, .str z, _, (z14 K).2.2.2.2.2.1, ?_⟩
    rw [if_neg (by decide)]
    refine ⟨_, _, ⟨rfl, rfl⟩, _, .str z, _, (z14 K).2.2.1, ?_⟩
    rw [if_neg Bool.false_ne_true]
    refine ⟨_, _, ⟨rfl, rfl⟩, _, .str z, _, (z14 K).2.2.2.1, ?_⟩
    rw [if_pos rfl]
    exact ⟨rfl, by simpa using s1⟩
   ·refine ⟨_, _, ⟨rfl, rfl⟩, _, _, SqT.of z9, _, .bl b, _, (z2s K).2.1, ?_⟩
    rw [if_neg Bool.false_ne_true]
    refine ⟨_, _, ⟨rfl, rfl⟩, _, .bl b, _, z2z K, _, _, ⟨rfl, rfl⟩, _, .bl b, _, z2z K, ?_⟩
    rw [if_neg (by decide)]
    refine ⟨_, _, ⟨rfl, rfl⟩, _, .bl b, _, (z14 K).2.1, ?_⟩
    rw [if_pos rfl]
    refine ⟨_, _, ⟨rfl, rfl⟩, _, .bl b, _, (z14 K).2.1, ?_⟩
    rw [if_pos rfl]
    exact ⟨rfl, by simpa using s1⟩
  ·skip
   refine ⟨_, (za (zt (z16 (zd z4l rfl T.b_isinstance (by decide +kernel) (z0 (pv 1) (z0 (z1q (z0 (zn (v := .ty "list") rfl T.b_list (by decide +kernel) rfl) (z0 (zn (v := .ty "tuple") rfl T.b_tuple (by decide +kernel) rfl) z7))) z7)))) (za (zt (PW.pt (z3f (zo z20 (zd zq rfl T.b_isinstance (by decide +kernel) (z0 (pv 0) (z0 (zn (v := .ty "list") rfl T.b_list (by decide +kernel) rfl) z7))) (zd zq rfl T.b_isinstance (by decide +kernel) (z0 (pv 1) (z0 (zn (v := .ty "list") rfl T.b_list (by decide +kernel) rfl) z7))) (zk _)) (z3l (zo z20 (zd zq rfl T.b_isinstance (by decide +kernel) (z0 (pv 0) (z0 (zn (v := .ty "tuple") rfl T.b_tuple (by decide +kernel) rfl) z7))) (zd zq rfl T.b_isinstance (by decide +kernel) (z0 (pv 1) (z0 (zn (v := .ty "tuple") rfl T.b_tuple (by decide +kernel) rfl) z7))) (zk _))))) (zc (zl z1m)) zp)
   (zc (zl (z1p (z1c z1b (zd zr rfl T.b_len (by decide +kernel) (z0 (pv 0) z7)) (zd zr rfl T.b_len (by decide +kernel) (z0 (pv 1) z7)) (zk _)) (z1i (zd (z3i rfl) rfl T.b_all (by decide +kernel) (z0 (z1y (x := "_law_k") (cap := ["_law_found", "_law_due"]) (js := [0, 1]) rfl ⟨rfl, by decide +kernel, by decide +kernel, rfl, zy rfl, by decide +kernel, ⟨⟨rfl, Or.inl rfl, rfl⟩, ⟨⟨rfl, Or.inl rfl, rfl⟩, trivial⟩⟩⟩ (z1z rfl T.b_range (z0 (zd zr rfl T.b_len (by decide +kernel) (z0 (pv 1) z7)) z7)) (fun _ _ _ _ => z2r) (fun _ _ _ _ => (z15 G__law_same (hr.mono (by decide)) rfl (z0 (zj (z2m (K := K)) (pv 1) (pv 0) (fun _ _ => rfl)) (z0 (zj (z2m (K := K)) (pv 2) (pv 0) (fun _ _ => rfl)) z7))))) z7))))))) zp)
   (za (zt (zo z20 (zd zq rfl T.b_isinstance (by decide +kernel) (z0 (pv 0) (z0 (zn (v := .ty "bool") rfl T.b_bool (by decide +kernel) rfl) z7))) (zd zq rfl T.b_isinstance (by decide +kernel) (z0 (pv 1) (z0 (zn (v := .ty "bool") rfl T.b_bool (by decide +kernel) rfl) z7))) (zk _)) (zc (zl z1m)) zp)
   (za (zt (z16 (zd zq rfl T.b_isinstance (by decide +kernel) (z0 (pv 1) (z0 (zn (v := .ty "int") rfl T.b_int (by decide +kernel) rfl) z7)))) (zc (zl (z1p (zd zq rfl T.b_isinstance (by decide +kernel) (z0 (pv 0) (z0 (zn (v := .ty "int") rfl T.b_int (by decide +kernel) rfl) z7))) (z1i (z1c z1b (pv 0) (pv 1) (zk _)))))) zp)
   (zc (zl (z1p (zd zq rfl T.b_isinstance (by decide +kernel) (z0 (pv 0) (z0 (zn (v := .ty "str") rfl T.b_str (by decide +kernel) rfl) z7))) (z1i (z1c z1b (pv 0) (pv 1) (zk _))))))))), ?_⟩
   walk_at "rd"
   refine ⟨ze (by decide), fun p hp => ?_⟩
   have s1 := Same.upd (o := .tup [V.ty "list", V.ty "tuple"]) hp
   rcases hab with ⟨ha, hb⟩ | ⟨ha, hb⟩
   ·have ha1 := s1 _ _ ha
    have hb1 := s1 _ _ hb
    refine ⟨_, _, ⟨rfl, rfl⟩, _, _, SqT.of z9, _, .lst hb1, _, (z2s K).2.2.2.1, ?_⟩
    rw [if_pos rfl]
    refine ⟨_, _, ⟨rfl, rfl⟩, _, .lst ha1, _, z3p K, _, _, ⟨rfl, rfl⟩, _, .lst hb1, _, z3p K, ?_⟩
    rw [if_neg (by decide)]
    refine ⟨_, _, ⟨rfl, rfl⟩, _, .lst ha1, _, (z14 K).2.2.2.2.2.2.2.2, _, _, ⟨rfl, rfl⟩, _, .lst hb1, _, (z14 K).2.2.2.2.2.2.2.2, ?_⟩
    rw [if_neg (by decide)]
    refine ⟨xs, .inl (SqL.of ha1), ys, .inl (SqL.of hb1), ?_⟩
    rw [if_pos (by rw [hlm]; simp)]
    refine ⟨ys, .inl (SqL.of hb1), ⟨by omega, by omega⟩, ?_⟩
    rw [Int.toNat_natCast, ← hlm]
    refine z2l (ze (by omega)) (fun i acc H' => acc = (List.replicate i true).map V.bl ∧ Same (upd H p (.tup [V.ty "list", V.ty "tuple"])) H') ⟨rfl, Same.refl _⟩ ?_ ?_ ?_
    ·rintro i acc H' ⟨rfl, -⟩
     simp
    ·rintro Nn i acc H' hN hi ⟨rfl, s2⟩
     walk_at "rd"
     have ei : ((0 : Int) + (i : Int)) = (i : Int) := by omega
     rw [ei]
     have gx : xs[i]? = some xs[i] := List.getElem?_eq_getElem hi
     have gy : ys[i]? = some (ys[i]'(by omega)) := List.getElem?_eq_getElem (by omega)
     refine (.inl ⟨_, _, _, _, rfl, rfl, SqL.of (s2 _ _ ha1), zf gx, ?_⟩)
     refine (.inl ⟨_, _, _, _, rfl, rfl, SqL.of (s2 _ _ hb1), zf gy, ?_⟩)
     refine ⟨_, _, rfl, (kk i _ _ gx gy).mono (s1.trans s2), fun H3 s3 => hN _ _ ⟨?_, s2.trans s3⟩⟩
     rw [List.replicate_succ', List.map_append]
     rfl
    ·rintro acc H' ⟨rfl, s2⟩ r hr'
     refine ⟨_, rfl, _, SqL.of z9, ?_⟩
     have e : (List.replicate xs.length true).all id = true := by simp
     rw [e]
     exact q _ ((s1.trans s2).trans (Same.upd hr'))
   ·have ha1 := s1 _ _ ha
    have hb1 := s1 _ _ hb
    refine ⟨_, _, ⟨rfl, rfl⟩, _, _, SqT.of z9, _, .tup hb1, _, (z2s K).2.2.2.2, ?_⟩
    rw [if_pos rfl]
    refine ⟨_, _, ⟨rfl, rfl⟩, _, .tup ha1, _, (z14 K).2.2.2.2.2.2.2.1, _, _, ⟨rfl, rfl⟩, _, .tup hb1, _, (z14 K).2.2.2.2.2.2.2.1, ?_⟩
    rw [if_neg (by decide)]
    refine ⟨_, _, ⟨rfl, rfl⟩, _, .tup ha1, _, (z14 K).2.2.2.2.2.2.1, _, _, ⟨rfl, rfl⟩, _, .tup hb1, _, (z14 K).2.2.2.2.2.2.1, ?_⟩
    rw [if_neg (by decide)]
    refine ⟨xs, .inr (SqT.of ha1), ys, .inr (SqT.of hb1), ?_⟩
    rw [if_pos (by rw [hlm]; simp)]
    refine ⟨ys, .inr (SqT.of hb1), ⟨by omega, by omega⟩, ?_⟩
    rw [Int.toNat_natCast, ← hlm]
    refine z2l (ze (by omega)) (fun i acc H' => acc = (List.replicate i true).map V.bl ∧ Same (upd H p (.tup [V.ty "list", V.ty "tuple"])) H') ⟨rfl, Same.refl _⟩ ?_ ?_ ?_
    ·rintro i acc H' ⟨rfl, -⟩
     simp
    ·rintro Nn i acc H' hN hi ⟨rfl, s2⟩
     walk_at "rd"
     have ei : ((0 : Int) + (i : Int)) = (i : Int) := by omega
     rw [ei]
     have gx : xs[i]? = some xs[i] := List.getElem?_eq_getElem hi
     have gy : ys[i]? = some (ys[i]'(by omega)) := List.getElem?_eq_getElem (by omega)
     refine (.inr (.inl ⟨_, _, _, _, rfl, rfl, SqT.of (s2 _ _ ha1), zf gx, ?_⟩))
     refine (.inr (.inl ⟨_, _, _, _, rfl, rfl, SqT.of (s2 _ _ hb1), zf gy, ?_⟩))
     refine ⟨_, _, rfl, (kk i _ _ gx gy).mono (s1.trans s2), fun H3 s3 => hN _ _ ⟨?_, s2.trans s3⟩⟩
     rw [List.replicate_succ', List.map_append]
     rfl
    ·rintro acc H' ⟨rfl, s2⟩ r hr'
     refine ⟨_, rfl, _, SqL.of z9, ?_⟩
     have e : (List.replicate xs.length true).all id = true := by simp
     rw [e]
     exact q _ ((s1.trans s2).trans (Same.upd hr'))
def spUn : Sp := fun vs H Q _ => ∃ (a b : Addr) (xs ys : List V), vs = [.ref a, .ref b] ∧ H a = some (.tup xs) ∧ H b = some (.tup ys) ∧ xs.length ≠ ys.length ∧ z3x H Q (.bl false)
theorem zhc (F : Def K mg "_law_same" z2g ["_law_found", "_law_due"]) (T : Txt K mg C_Council C_Down C_InTheWay C_Keeper C_NotFree C_OldNumber C_UnknownKeeper) (G__law_same : Has P w K mg base 0 "_law_same" ["_law_found", "_law_due"] (z8b)) : Has P w K mg base 1 "_law_same" ["_law_found", "_law_due"] (spUn) := by
 refine F.ok z4i (fun vs H Q E h => ?_) (fun f cdv A outer s H vs Q E hr h => ?_)
 ·obtain ⟨a, b, xs, ys, rfl, _⟩ := h
  rfl
 ·have hu := hr.units0
  obtain ⟨a, b, xs, ys, rfl, ha, hb, hne, q⟩ := h
  refine ⟨_, (za (zt (z16 (zd z4l rfl T.b_isinstance (by decide +kernel) (z0 (pv 1) (z0 (z1q (z0 (zn (v := .ty "list") rfl T.b_list (by decide +kernel) rfl) (z0 (zn (v := .ty "tuple") rfl T.b_tuple (by decide +kernel) rfl) z7))) z7)))) (za (zt (PW.pt (z3f (zo z20 (zd zq rfl T.b_isinstance (by decide +kernel) (z0 (pv 0) (z0 (zn (v := .ty "list") rfl T.b_list (by decide +kernel) rfl) z7))) (zd zq rfl T.b_isinstance (by decide +kernel) (z0 (pv 1) (z0 (zn (v := .ty "list") rfl T.b_list (by decide +kernel) rfl) z7))) (zk _)) (z3l (zo z20 (zd zq rfl T.b_isinstance (by decide +kernel) (z0 (pv 0) (z0 (zn (v := .ty "tuple") rfl T.b_tuple (by decide +kernel) rfl) z7))) (zd zq rfl T.b_isinstance (by decide +kernel) (z0 (pv 1) (z0 (zn (v := .ty "tuple") rfl T.b_tuple (by decide +kernel) rfl) z7))) (zk _))))) (zc (zl z1m)) zp)
   (zc (zl (z1p (z1c z1b (zd zr rfl T.b_len (by decide +kernel) (z0 (pv 0) z7)) (zd zr rfl T.b_len (by decide +kernel) (z0 (pv 1) z7)) (zk _)) (z1i (zd (z3i rfl) rfl T.b_all (by decide +kernel) (z0 (z1y (x := "_law_k") (cap := ["_law_found", "_law_due"]) (js := [0, 1]) rfl ⟨rfl, by decide +kernel, by decide +kernel, rfl, zy rfl, by decide +kernel, ⟨⟨rfl, Or.inl rfl, rfl⟩, ⟨⟨rfl, Or.inl rfl, rfl⟩, trivial⟩⟩⟩ (z1z rfl T.b_range (z0 (zd zr rfl T.b_len (by decide +kernel) (z0 (pv 1) z7)) z7)) (fun _ _ _ _ => z2r) (fun _ _ _ _ => (z15 G__law_same (hr.mono (by decide)) rfl (z0 (zj (z2m (K := K)) (pv 1) (pv 0) (fun _ _ => rfl)) (z0 (zj (z2m (K := K)) (pv 2) (pv 0) (fun _ _ => rfl)) z7))))) z7))))))) zp)
   (za (zt (zo z20 (zd zq rfl T.b_isinstance (by decide +kernel) (z0 (pv 0) (z0 (zn (v := .ty "bool") rfl T.b_bool (by decide +kernel) rfl) z7))) (zd zq rfl T.b_isinstance (by decide +kernel) (z0 (pv 1) (z0 (zn (v := .ty "bool") rfl T.b_bool (by decide +kernel) rfl) z7))) (zk _)) (zc (zl z1m)) zp)
   (za (zt (z16 (zd zq rfl T.b_isinstance (by decide +kernel) (z0 (pv 1) (z0 (zn (v := .ty "int") rfl T.b_int (by decide +kernel) rfl) z7)))) (zc (zl (z1p (zd zq rfl T.b_isinstance (by decide +kernel) (z0 (pv 0) (z0 (zn (v := .ty "int") rfl T.b_int (by decide +kernel) rfl) z7))) (z1i (z1c z1b (pv 0) (pv 1) (zk _)))))) zp)
   (zc (zl (z1p (zd zq rfl T.b_isinstance (by decide +kernel) (z0 (pv 0) (z0 (zn (v := .ty "str") rfl T.b_str (by decide +kernel) rfl) z7))) (z1i (z1c z1b (pv 0) (pv 1) (zk _))))))))), ?_⟩
  walk_at "rd"
  refine ⟨ze (by decide), fun p hp => ?_⟩
  have s1 := Same.upd (o := .tup [V.ty "list", V.ty "tuple"]) hp
  have ha1 := s1 _ _ ha
  have hb1 := s1 _ _ hb
  refine ⟨_, _, ⟨rfl, rfl⟩, _, _, SqT.of z9, _, .tup hb1, _, (z2s K).2.2.2.2, ?_⟩
  rw [if_pos rfl]
  refine ⟨_, _, ⟨rfl, rfl⟩, _, .tup ha1, _, (z14 K).2.2.2.2.2.2.2.1, _, _, ⟨rfl, rfl⟩, _, .tup hb1, _, (z14 K).2.2.2.2.2.2.2.1, ?_⟩
  rw [if_neg (by decide)]
  refine ⟨_, _, ⟨rfl, rfl⟩, _, .tup ha1, _, (z14 K).2.2.2.2.2.2.1, _, _, ⟨rfl, rfl⟩, _, .tup hb1, _, (z14 K).2.2.2.2.2.2.1, ?_⟩
  rw [if_neg (by decide)]
  refine ⟨xs, .inr (SqT.of ha1), ys, .inr (SqT.of hb1), ?_⟩
  rw [if_neg (by simp; omega)]
  exact q _ s1
def z8v : Sp := fun vs H Q E => z6k 1 vs H Q E ∨ spUn vs H Q E
def zeh : Sp := fun vs H Q _ => ∃ (c : Int) (p : Addr) (zs : List Str), vs = [.int c, .ref p] ∧ H p = some (.lst (zs.map V.str)) ∧ zs.length ≤ 10 ∧ ∀ (r : Addr) (ys : List Str) (H' : Hp), ys.length ≤ 10 → (∀ y ∈ ys, y ∈ zs) → H r = none → H' r = some (.lst (ys.map V.str)) → Same H H' → Q (.ref r) H'
theorem zaz (F : Def K mg "_law_some" z4q ["_law_cell", "_law_names_here"]) (T : Txt K mg C_Council C_Down C_InTheWay C_Keeper C_NotFree C_OldNumber C_UnknownKeeper) : Has P w K mg base 1 "_law_some" ["_law_cell", "_law_names_here"] (zeh) := by
 refine F.ok sc__law_some (fun vs H Q E h => ?_) (fun f cdv A outer s H vs Q E hr h => ?_)
 ·obtain ⟨c, p, zs, rfl, _⟩ := h
  rfl
 ·obtain ⟨c, p, zs, rfl, hp, hl, q⟩ := h
  refine ⟨_, (za (zm (i := 2) sc__law_some.nd rfl (Or.inl rfl) (z22 z7))
   (za (zm (i := 3) sc__law_some.nd rfl (Or.inl rfl) (pv 0))
   (za (z44 PassesOwn.never rfl (z1k (pv 1)) (z1s (i := 4) sc__law_some.nd rfl (Or.inl rfl)) (z2a (zt (zo z1b (zg z10 (pv 3) z8) z8 (zk _)) (zc (z28 (z3g PySem.F.plainAttrs_list PySem.F.slot_list_append PySem.F.type_list_append z3m (pv 2) (z0 (pv 4) z7)))) zp)
   (zc (zm (i := 3) sc__law_some.nd rfl (Or.inl rfl) (zg z17 (pv 3) z8)))))
   (zc (zl (pv 2)))))), ?_⟩
  walk_at "rd"
  refine ⟨Nat.zero_le _, fun r hr0 => ⟨⟨_, SqL.of (Same.upd hr0 _ _ hp)⟩, ?_⟩⟩
  have npr : p ≠ r := zh hp hr0
  refine z3y (xs := zs.map V.str) (fun i σ H' => ∃ (c' : Int) (v4 : Option V) (ys : List Str), σ = [some (V.int c), some (V.ref p), some (V.ref r), some (V.int c'), v4] ∧ ys.length ≤ i ∧ (∀ y ∈ ys, y ∈ zs) ∧ H' r = some (.lst (ys.map V.str)) ∧ Same H H') ⟨c, _, [], rfl, Nat.le_refl _, (fun y hy => by cases hy), z9, Same.upd hr0⟩ ?_ ?_ ?_
  ·rintro i σ H' - ⟨c', v4, ys, rfl, -, -, -, s1⟩
   exact SqL.of (s1 _ _ hp)
  ·rintro Pv hP i x σ H' hx ⟨c', v4, ys, rfl, ly, my, gr, s1⟩
   rw [List.getElem?_map] at hx
   cases e : zs[i]? with
   | none => rw [e] at hx; cases hx
   | some z =>
   rw [e] at hx
   cases hx
   walk_at "rd"
   have mz := List.mem_of_getElem? e
   have il : i < zs.length := (List.getElem?_eq_some_iff.mp e).1
   refine z5d (fun σ H2 => ∃ ys : List Str, σ = [some (V.int c), some (V.ref p), some (V.ref r), some (V.int c'), some (V.str z)] ∧ ys.length ≤ i + 1 ∧ (∀ y ∈ ys, y ∈ zs) ∧ H2 r = some (.lst (ys.map V.str)) ∧ Same H H2) (fun Mid hM => ?_) ?_
   ·walk_at "rd"
    refine ⟨by decide, ite2 (fun _ => ?_) (fun _ => hM _ _ ⟨ys, rfl, by omega, my, gr, s1⟩)⟩
    refine ⟨.inl ⟨_, SqL.of gr⟩, _, _, _, rfl, rfl, gr, z4k (by rw [List.length_map]; omega), hM _ _ ⟨ys ++ [z], rfl, by rw [List.length_append]; show _ + 1 ≤ _; omega, fun y hy => ?_, by rw [z9]; simp, fun b o hb => ?_⟩⟩
    ·rcases List.mem_append.mp hy with hy | hy
     ·exact my y hy
     ·rw [List.mem_singleton.mp hy]; exact mz
    ·rw [zb (zh hb hr0)]; exact s1 _ _ hb
   ·rintro σ H2 ⟨ys, rfl, ly, my, gr, s1⟩
    walk_at "rd"
    exact ⟨cdiv (by decide) (by decide), hP _ _ _ ⟨_, _, ys, rfl, ly, my, gr, s1⟩⟩
  ·rintro σ H' ⟨c', v4, ys, rfl, ly, my, gr, s1⟩
   walk_at "rd"
   rw [List.length_map] at ly
   exact q r ys H' (by omega) my hr0 gr s1
structure Su where
 n : Nat
 ph : Addr
 pl : Addr
 pc : Addr
 pt : Addr
 hs : List Str
 lks : List Str
 shs : List Str
 sts : List Str
structure SuAt (H : Hp) (a : Addr) (u : Su) : Prop where
 tu : H a = some (.tup [.int (u.n : Int), .ref u.ph, .ref u.pl, .ref u.pc, .ref u.pt])
 gh : H u.ph = some (.lst (u.hs.map V.str))
 gl : H u.pl = some (.lst (u.lks.map V.str))
 gc : H u.pc = some (.lst (u.shs.map V.str))
 gt : H u.pt = some (.lst (u.sts.map V.str))
structure Su.ok (u : Su) : Prop where
 n1 : 1 ≤ u.n
 n5 : u.n ≤ 5
 h1 : 1 ≤ u.hs.length
 h8 : u.hs.length ≤ 8
 l1 : 1 ≤ u.lks.length
 l10 : u.lks.length ≤ 10
 c10 : u.shs.length ≤ 10
 t4 : u.sts.length ≤ 4
 hl : ∀ z ∈ u.hs, z.length ≤ 16
 ll : ∀ z ∈ u.lks, z.length ≤ 200
theorem SuAt.mono {H H' : Hp} {a : Addr} {u : Su} (h : SuAt H a u) (s : Same H H') : SuAt H' a u := ⟨s _ _ h.tu, s _ _ h.gh, s _ _ h.gl, s _ _ h.gc, s _ _ h.gt⟩
def zbu (K : PySem.W.Frag) : Sp := fun vs H Q _ => ∃ (a : Addr) (ns : List Int), vs = [.ref a] ∧ SqL K H a (ns.map V.int) ∧ ns.length ≤ 63 ∧ ∀ (r : Addr) (u : Su) (H' : Hp), SuAt H' r u → u.ok → Same H H' → Q (.ref r) H'
theorem z9v (F : Def K mg "_law_setup" z4d ["_law_script"]) (T : Txt K mg C_Council C_Down C_InTheWay C_Keeper C_NotFree C_OldNumber C_UnknownKeeper) (G__law_at : Has P w K mg base 1 "_law_at" ["_law_script", "_law_k"] (spAt K)) (G__law_names : Has P w K mg base 2 "_law_names" ["_law_cell", "_law_many"] (zbs)) (G__law_locks : Has P w K mg base 2 "_law_locks" ["_law_cell", "_law_words", "_law_many"] (zbt)) (G__law_some : Has P w K mg base 1 "_law_some" ["_law_cell", "_law_names_here"] (zeh)) : Has P w K mg base 3 "_law_setup" ["_law_script"] (zbu K) := by
 refine F.ok sc__law_setup (fun vs H Q E h => ?_) (fun f cdv A outer s H vs Q E hr h => ?_)
 ·obtain ⟨a, ns, rfl, _⟩ := h
  rfl
 ·obtain ⟨a, ns, rfl, ha, hns, q⟩ := h
  have hu := hr.units0
  refine ⟨_, (za (zm (i := 1) sc__law_setup.nd rfl (Or.inl rfl) (zg zz z8 (zg z10 (z15 G__law_at (hr.mono (by decide)) rfl (z0 (pv 0) (z0 z8 z7))) z8)))
   (za (zm (i := 2) sc__law_setup.nd rfl (Or.inl rfl) (z15 G__law_names (hr.mono (by decide)) rfl (z0 (zg z17 (z15 G__law_at (hr.mono (by decide)) rfl (z0 (pv 0) (z0 z8 z7))) z8) (z0 (zg zz z8 (zg z10 (zg zz (z15 G__law_at (hr.mono (by decide)) rfl (z0 (pv 0) (z0 z8 z7))) z8) z8)) z7))))
   (za (zm (i := 3) sc__law_setup.nd rfl (Or.inl rfl) (z15 G__law_locks (hr.mono (by decide)) rfl (z0 (z15 G__law_at (hr.mono (by decide)) rfl (z0 (pv 0) (z0 z8 z7))) (z0 (zg z17 (z15 G__law_at (hr.mono (by decide)) rfl (z0 (pv 0) (z0 z8 z7))) z8) (z0 (zg zz z8 (zg z10 (zg zz (z15 G__law_at (hr.mono (by decide)) rfl (z0 (pv 0) (z0 z8 z7))) z8) z8)) z7)))))
   (za (zm (i := 4) sc__law_setup.nd rfl (Or.inl rfl) (z15 G__law_some (hr.mono (by decide)) rfl (z0 (zg z45 (zg z17 (z15 G__law_at (hr.mono (by decide)) rfl (z0 (pv 0) (z0 z8 z7))) z8) z8) (z0 (pv 3) z7))))
   (za (zm (i := 5) sc__law_setup.nd rfl (Or.inl rfl) (z15 G__law_names (hr.mono (by decide)) rfl (z0 (zg z17 (z15 G__law_at (hr.mono (by decide)) rfl (z0 (pv 0) (z0 z8 z7))) z8) (z0 (zj ix_list (z22 (z0 z8 (z0 z8 (z0 z8 (z0 z8 (z0 z8 (z0 z8 (z0 z8 (z0 z8 z7))))))))) (zg z10 (z15 G__law_at (hr.mono (by decide)) rfl (z0 (pv 0) (z0 z8 z7))) z8) (fun _ _ => rfl)) z7))))
   (zc (zl (z1q (z0 (pv 1) (z0 (pv 2) (z0 (pv 3) (z0 (pv 4) (z0 (pv 5) z7))))))))))))), ?_⟩
  walk_at "rd"
  refine ⟨a, ns, 0, rfl, ha, by omega, _, rfl, by decide, ?_⟩
  obtain ⟨n, en⟩ := Int.eq_ofNat_of_zero_le (show 0 ≤ 1 + ns.getD 0 0 % 5 by omega)
  rw [en]
  refine ⟨a, ns, 0, rfl, ha, by omega, _, rfl, cdiv (by decide) (by decide), a, ns, 1, rfl, ha, by omega, _, rfl, by decide, ?_⟩
  obtain ⟨m, em⟩ := Int.eq_ofNat_of_zero_le (show 0 ≤ 1 + (ns.getD 1 0 + 2) % 8 by omega)
  rw [em]
  refine ⟨_, m, rfl, by omega, fun ph hz H1 hl1 hN1 hp0 gh s1 => ?_⟩
  refine ⟨a, ns, 2, rfl, s1.seq ha, by omega, a, ns, 1, rfl, s1.seq ha, by omega, _, rfl, cdiv (by decide) (by decide), a, ns, 3, rfl, s1.seq ha, by omega, _, rfl, by decide, ?_⟩
  obtain ⟨m2, em2⟩ := Int.eq_ofNat_of_zero_le (show 0 ≤ 1 + (ns.getD 3 0 + 2) % 10 by omega)
  rw [em2]
  refine ⟨_, _, m2, rfl, by omega, fun pl lz H2 hl2 hN2 lp0 gl s2 => ?_⟩
  have s12 := s1.trans s2
  refine ⟨a, ns, 3, rfl, s12.seq ha, by omega, _, rfl, cdiv (by decide) (by decide), ?_⟩
  refine ⟨_, pl, lz, rfl, gl, by omega, fun pc cz H3 hl3 hN3 cp0 gc s3 => ?_⟩
  have s13 := s12.trans s3
  refine ⟨a, ns, 4, rfl, s13.seq ha, by omega, _, rfl, cdiv (by decide) (by decide), ze (by decide), fun p4 hp4 => ?_⟩
  have u4 := Same.upd (o := .lst [V.int 1, V.int 2, V.int 1, V.int 4, V.int 1, V.int 3, V.int 0, V.int 1]) hp4
  have g4 : upd H3 p4 (.lst [V.int 1, V.int 2, V.int 1, V.int 4, V.int 1, V.int 3, V.int 0, V.int 1]) p4 = some (.lst [V.int 1, V.int 2, V.int 1, V.int 4, V.int 1, V.int 3, V.int 0, V.int 1]) := z9
  generalize upd H3 p4 (.lst [V.int 1, V.int 2, V.int 1, V.int 4, V.int 1, V.int 3, V.int 0, V.int 1]) = H4 at u4 g4 ⊢
  refine ⟨a, ns, 4, rfl, (s13.trans u4).seq ha, by omega, _, rfl, by decide, ?_⟩
  obtain ⟨m3, em3, hm3⟩ : ∃ m3 : Nat, atI [V.int 1, V.int 2, V.int 1, V.int 4, V.int 1, V.int 3, V.int 0, V.int 1] (ns.getD 4 0 % 8) = some (V.int (m3 : Int)) ∧ m3 ≤ 4 := by
   rcases (show ns.getD 4 0 % 8 = 0 ∨ ns.getD 4 0 % 8 = 1 ∨ ns.getD 4 0 % 8 = 2 ∨ ns.getD 4 0 % 8 = 3 ∨ ns.getD 4 0 % 8 = 4 ∨ ns.getD 4 0 % 8 = 5 ∨ ns.getD 4 0 % 8 = 6 ∨ ns.getD 4 0 % 8 = 7 by omega) with e | e | e | e | e | e | e | e
   ·exact ⟨1, by rw [e]; exact zf (j := 0) rfl, by decide⟩
   ·exact ⟨2, by rw [e]; exact zf (j := 1) rfl, by decide⟩
   ·exact ⟨1, by rw [e]; exact zf (j := 2) rfl, by decide⟩
   ·exact ⟨4, by rw [e]; exact zf (j := 3) rfl, by decide⟩
   ·exact ⟨1, by rw [e]; exact zf (j := 4) rfl, by decide⟩
   ·exact ⟨3, by rw [e]; exact zf (j := 5) rfl, by decide⟩
   ·exact ⟨0, by rw [e]; exact zf (j := 6) rfl, by decide⟩
   ·exact ⟨1, by rw [e]; exact zf (j := 7) rfl, by decide⟩
  refine ⟨_, _, _, _, rfl, rfl, SqL.of g4, em3, ?_⟩
  refine ⟨_, m3, rfl, by omega, fun pt tz H5 hl5 hN5 tp0 gt s5 => ⟨ze (by decide), fun r hr0 => ?_⟩⟩
  have u6 := Same.upd (o := .tup [V.int (n : Int), V.ref ph, V.ref pl, V.ref pc, V.ref pt]) hr0
  have s45 := u4.trans s5
  exact q r ⟨n, ph, pl, pc, pt, hz, lz, cz, tz⟩ _ ⟨z9, u6 _ _ (s45 _ _ (s3 _ _ (s2 _ _ gh))), u6 _ _ (s45 _ _ (s3 _ _ gl)), u6 _ _ (s45 _ _ gc), u6 _ _ gt⟩ ⟨by show 1 ≤ n; omega, by show n ≤ 5; omega, by show 1 ≤ hz.length; omega, by show hz.length ≤ 8; omega, by show 1 ≤ lz.length; omega, by show lz.length ≤ 10; omega, hl3, by show tz.length ≤ 4; omega, hN1, hN2⟩ ((s13.trans s45).trans u6)
def zbv : Sp := fun vs H Q _ => ∃ (c k : Int) (a : Addr) (u : Su), vs = [.int c, .int k, .ref a] ∧ SuAt H a u ∧ u.ok ∧ ∀ (r : Addr) (hd lk : Str) (sh : Bool) (tm : Int) (H' : Hp), hd ∈ u.hs → lk ∈ u.lks → 1 ≤ tm → tm ≤ 1000 → H' r = some (.tup [.str "ask", .str hd, .str lk, .bl sh, .int tm]) → Same H H' → Q (.ref r) H'
theorem zb0 {zs : List Str} (h : 1 ≤ zs.length) (i : Int) : ∃ z ∈ zs, atI (zs.map V.str) (i % (zs.length : Int)) = some (V.str z) := by
 have h0 : 0 ≤ i % (zs.length : Int) := Int.emod_nonneg _ (by omega)
 have h1 : i % (zs.length : Int) < (zs.length : Int) := Int.emod_lt_of_pos _ (by omega)
 obtain ⟨j, ej⟩ := Int.eq_ofNat_of_zero_le h0
 have hj : j < zs.length := by omega
 refine ⟨zs[j], List.getElem_mem hj, ?_⟩
 rw [ej]
 exact zf (by rw [List.getElem?_map, List.getElem?_eq_getElem hj]; rfl)
theorem z1h (js : List Nat) : (zx js).length = js.length := List.length_map _
theorem z6b {js : List Nat} {i : Nat} {x : V} (h : (zx js)[i]? = some x) : ∃ j, js[i]? = some j ∧ x = V.int ((j : Int) + 1) := by
 unfold zx at h
 rw [List.getElem?_map] at h
 cases e : js[i]? with
 | none => rw [e] at h; cases h
 | some j => rw [e] at h; exact ⟨j, rfl, (Option.some.inj h).symm⟩
theorem zfa (j : Nat) (js : List Nat) : inV (V.int ((j : Int) + 1)) (zx js) = decide (j ∈ js) := by
 unfold inV zx
 rw [List.any_map, Bool.eq_iff_iff]
 simp only [List.any_eq_true, decide_eq_true_eq, Function.comp]
 constructor
 ·rintro ⟨x, hx, e⟩
  have : j = x := by
   simp [eqV] at e
   omega
  exact this ▸ hx
 ·intro h
  exact ⟨j, h, by simp [eqV]⟩
theorem zcx (js : List Nat) : (zx js).all z23 = true := by
 unfold zx
 rw [List.all_map, List.all_eq_true]
 intro x _
 rfl
def z40 (n : Int) (L : NL) : NL := L.filter fun q => decide (q.2.n ≠ n)
def hasn (n : Int) (L : NL) : Bool := L.any fun q => decide (q.2.n = n)
def zei (C : Addr) : Sp := fun vs H Q _ => ∃ (k : Addr) (u : Bool) (t : Int) (L : NL) (n tick : Int), vs = [.ref k, .int n, .int tick] ∧ KeeperAt C H k u t L ∧
 ((u && hasn n (z13 tick L)) = false → ∀ (H' : Hp), Same H H' → Q (.bl false) H') ∧ ((u && hasn n (z13 tick L)) = true → ∀ (H' : Hp) (dx p3 : Addr), H p3 = none → H' k = some (.ins C dx (kf u t p3)) → KeeperAt C H' k u t (z40 n L) → But k H H' → Q (.bl true) H')
theorem z8w (F : MDef K C_Keeper "drop" "Keeper.drop" z3v ["self", "number", "tick"]) (T : Txt K mg C_Council C_Down C_InTheWay C_Keeper C_NotFree C_OldNumber C_UnknownKeeper) (G_Keeper_live : MHas P w K mg base CX0 1 C_Keeper "live" ["self", "tick"] (z7y C_Keeper)) : MHas P w K mg base CX0 2 C_Keeper "drop" ["self", "number", "tick"] (zei C_Keeper) := by
 refine F.ok z8p (fun vs H Q E h => ?_) (fun f cdv A outer s H vs Q E hr h => ?_)
 ·obtain ⟨k, u, t, L, n, tick, rfl, _⟩ := h
  rfl
 ·obtain ⟨k, u, t, L, n, tick, rfl, hk, q1, q2⟩ := h
  have hu := hr.units0
  refine ⟨_, (za (zt (PW.pt (z3f (z34 (z16 (z21 (pv 0) rfl))) (z3l (zo z5s (pv 1) (z1y (x := "note") (cap := []) (js := []) rfl ⟨rfl, by decide +kernel, by decide +kernel, rfl, zy rfl, by decide +kernel, trivial⟩ (z1k (z2b G_Keeper_live T.cl_Keeper (hr.mono (by decide)) (pv 0) (z0 (pv 2) z7))) (fun _ _ _ _ => z2r) (fun _ _ _ _ => (zj (z1a (K := K)) (pv 0) z8 (fun _ _ => rfl)))) (by with_unfolding_all rfl))))) (zc (zl z1m)) zp)
   (za (z2x (pv 0) (z1y (x := "note") (cap := ["number"]) (js := [1]) rfl ⟨rfl, by decide +kernel, by decide +kernel, rfl, zy rfl, by decide +kernel, ⟨⟨rfl, Or.inl rfl, rfl⟩, trivial⟩⟩ (z1k (z21 (pv 0) rfl)) (fun _ _ _ _ => (z2f (zo z20 (zj (z1a (K := K)) (pv 0) z8 (fun _ _ => rfl)) (pv 1) (zk _)))) (fun _ _ _ _ => (pv 0))) rfl)
   (zc (zl z1m)))), ?_⟩
  walk_at "rd"
  obtain ⟨⟨dx, l, h1, h2⟩, hn, hlen⟩ := id hk
  refine ⟨_, _, _, h1, T.cl_Keeper, T.n_Keeper_up, _, z6j u t l, u, rfl, ?_⟩
  cases hup : u with
  | false => exact q1 (by rw [hup]; rfl) H (Same.refl _)
  | true =>
  rw [if_neg (by decide)]
  refine ⟨_, _, h1, z3j u t l (by decide +kernel) (by decide +kernel) (by decide +kernel), k, u, t, L, tick, rfl, hk, fun r H1 hr0 hr1 hs1 => ⟨r, rfl, ⟨_, SqL.of hr1⟩, ?_⟩⟩
  have hl1 : (z13 tick L).length ≤ L.length := List.length_filter_le _ _
  have hn1 : NotesAt H1 (z13 tick L) := (hn.mono hs1).sub fun q h => (List.mem_filter.mp h).1
  refine z1n (xs := refs (z13 tick L)) (by rw [z12]; exact ze (by omega)) (fun i acc H' => acc = ((z13 tick L).take i).map (fun q => V.int q.2.n) ∧ H1 = H') ⟨by simp, rfl⟩ ?_ ?_ ?_ ?_
  ·rintro i acc H' ⟨rfl, -⟩
   rw [List.length_map, List.length_take]
   omega
  ·rintro i acc H' ⟨-, rfl⟩
   exact SqL.of hr1
  ·rintro Nn i acc H' x hN hx hi ⟨rfl, rfl⟩
   obtain ⟨y, hy, rfl⟩ := z2p hx
   walk_at "rd"
   refine ⟨_, _, _, _, rfl, rfl, SqT.of (hn1.tu _ (List.mem_of_getElem? hy)), zf (j := 0) rfl, hN _ _ ⟨?_, rfl⟩⟩
   rw [List.take_succ, hy, List.map_append]
   rfl
  ·rintro acc H' ⟨rfl, rfl⟩ p hp
   rw [z12, List.take_length]
   have s2 := hs1.trans (Same.upd (o := .lst ((z13 tick L).map fun q => V.int q.2.n)) hp)
   have ein : inV (V.int n) ((z13 tick L).map fun q => V.int q.2.n) = hasn n (z13 tick L) := by
    unfold inV hasn
    rw [List.any_map]
    congr 1
   refine ⟨p, _, rfl, .inl (SqL.of z9), rfl, ?_, ?_⟩
   ·rw [List.all_eq_true]
    intro x hx
    obtain ⟨y, _, rfl⟩ := List.mem_map.mp hx
    rfl
   rw [ein]
   refine ⟨_, rfl, ?_⟩
   cases hh : hasn n (z13 tick L) with
   | false =>
    rw [if_pos (by decide)]
    exact q1 (by rw [hup, hh]; rfl) _ s2
   | true =>
   rw [if_neg (by decide)]
   refine ⟨_, _, _, s2 _ _ h1, T.cl_Keeper, T.n_Keeper_kept, _, z2u u t l, l, rfl, ⟨_, SqL.of (s2 _ _ h2)⟩, ?_⟩
   refine z1n (xs := refs L) (by rw [z12]; exact ze (by omega)) (fun i acc H' => acc = refs (z40 n (L.take i)) ∧ upd H1 p (.lst ((z13 tick L).map fun q => V.int q.2.n)) = H') ⟨by simp [z40, refs], rfl⟩ ?_ ?_ ?_ ?_
   ·rintro i acc H' ⟨rfl, -⟩
    rw [z12]
    exact Nat.le_trans (List.length_filter_le _ _) (by rw [List.length_take]; omega)
   ·rintro i acc H' ⟨-, rfl⟩
    exact SqL.of (s2 _ _ h2)
   ·rintro Nn i acc H' x hN hx hi ⟨rfl, rfl⟩
    obtain ⟨y, hy, rfl⟩ := z2p hx
    walk_at "rd"
    refine ⟨_, _, _, _, rfl, rfl, SqT.of (s2 _ _ (hn.tu _ (List.mem_of_getElem? hy))), zf (j := 0) rfl, rfl, ?_⟩
    have st := z1w (fun q : Addr × Nt => decide (q.2.n ≠ n)) hy
    by_cases hc : y.2.n = n
    ·rw [if_neg (by simp [hc])]
     refine hN _ _ ⟨?_, rfl⟩
     unfold z40
     rw [st]
     simp [hc]
    ·rw [if_pos (by simp [hc])]
     refine hN _ _ ⟨?_, rfl⟩
     unfold z40
     rw [st]
     simp [hc, refs]
   ·rintro acc H' ⟨rfl, rfl⟩ p3 hp3
    rw [z12, List.take_length]
    have s3 := s2.trans (Same.upd (o := .lst (refs (z40 n L))) hp3)
    refine ⟨_, _, _, s3 _ _ h1, T.cl_Keeper, T.n_Keeper_kept, by show (3 : Nat) < 1000; decide, ?_⟩
    rw [z4s]
    have nk3 : k ≠ p3 := zh (s2 _ _ h1) hp3
    refine q2 (by rw [hup, hh]; rfl) _ dx p3 (z1g s2 hp3) z9 ⟨⟨dx, p3, z9, by rw [zb nk3.symm, z9]⟩, ⟨fun x hx => ?_, fun x hx => hn.sm _ (List.mem_filter.mp hx).1⟩, Nat.le_trans (List.length_filter_le _ _) hlen⟩ fun b o e nb => ?_
    ·have tz := hn.tu _ (List.mem_filter.mp hx).1
     have nz : x.1 ≠ k := fun e => by rw [e, h1] at tz; cases tz
     rw [zb nz]
     exact s3 _ _ tz
    ·rw [zb nb]
     exact s3 _ _ e
def hasN (num tick : Int) (s : KN) : Bool := (z80 tick s.N).any fun x => decide (x.n = num)
def z27 (num tick : Int) (s : KN) : KN := if (s.u && hasN num tick s) = true then ⟨s.u, s.t, s.N.filter fun x => decide (x.n ≠ num)⟩ else s
def z1u (ss : List KN) (js : List Nat) (num tick : Int) : List KN := ss.mapIdx fun j s => if j ∈ js then z27 num tick s else s
def drAt (ss : List KN) (num tick : Int) (j : Nat) : Bool := match ss[j]? with | some s => hasN num tick s | none => false
theorem zej (ss : List KN) (num tick : Int) : z1u ss [] num tick = ss := by
 unfold z1u
 apply List.ext_getElem?
 intro j
 rw [List.getElem?_mapIdx]
 cases ss[j]? <;> simp
theorem zcy {ss : List KN} {js : List Nat} {num tick : Int} {i j : Nat} {s : KN} (hj : js[i]? = some j) (hs : ss[j]? = some s) (nd : js.Nodup) : z1u ss (js.take (i + 1)) num tick = (z1u ss (js.take i) num tick).set j (z27 num tick s) ∧ (z1u ss (js.take i) num tick)[j]? = some s := by
 have et : js.take (i + 1) = js.take i ++ [j] := by rw [List.take_succ, hj]; rfl
 have nj : j ∉ js.take i := fun h => by
  obtain ⟨k, hk, e⟩ := List.getElem_of_mem h
  rw [List.length_take] at hk
  have e2 : js[k]? = some j := by rw [List.getElem_take] at e; rw [List.getElem?_eq_getElem (by omega), e]
  have := (List.getElem?_inj (by omega) nd).mp (e2.trans hj.symm)
  omega
 constructor
 ·apply List.ext_getElem?
  intro k
  by_cases hk : k = j
  ·subst hk
   rw [List.getElem?_set_self (by unfold z1u; rw [List.length_mapIdx]; exact (List.getElem?_eq_some_iff.mp hs).1)]
   unfold z1u
   rw [List.getElem?_mapIdx, hs, et]
   simp
  ·rw [List.getElem?_set_ne (Ne.symm hk)]
   unfold z1u
   rw [List.getElem?_mapIdx, List.getElem?_mapIdx, et]
   cases ss[k]? with
   | none => rfl
   | some t => simp [hk]
 ·unfold z1u
  rw [List.getElem?_mapIdx, hs]
  simp [nj]
def zbw (CC CK : Addr) : Sp := fun vs H Q _ => ∃ (c l : Addr) (ks ls : List Addr) (ss : List KN) (num tick : Int), vs = [.ref c, .int num, .int tick] ∧ CAt CC CK H c l ks ls ss ∧ za3 ss ∧
 ∀ (r : Addr) (ls' : List Addr) (H' : Hp), LsOk H ls ls' → CAt CC CK H' c l ks ls' (z1u ss (upl ss ks.length) num tick) → H r = none → H' r = some (.lst (zx ((upl ss ks.length).filter (drAt ss num tick)))) → ButK ks H H' → Q (.ref r) H'
theorem z87 (F : MDef K C_Council "drop" "Council.drop" z3d ["self", "number", "tick"]) (T : Txt K mg C_Council C_Down C_InTheWay C_Keeper C_NotFree C_OldNumber C_UnknownKeeper) (G_Keeper_drop : MHas P w K mg base CX0 2 C_Keeper "drop" ["self", "number", "tick"] (zei C_Keeper)) (G_Council_up_keepers : MHas P w K mg base CX0 1 C_Council "up_keepers" ["self"] (za2 C_Council C_Keeper)) : MHas P w K mg base CX0 3 C_Council "drop" ["self", "number", "tick"] (zbw C_Council C_Keeper) := by
 refine F.ok sc_Council_drop (fun vs H Q E h => ?_) (fun f cdv A outer s H vs Q E hr h => ?_)
 ·obtain ⟨c, l, ks, ls, ss, num, tick, rfl, _⟩ := h
  rfl
 ·obtain ⟨c, l, ks, ls, ss, num, tick, rfl, hc, hsm, q⟩ := h
  have hu := hr.units0
  refine ⟨_, (za (zm (i := 3) sc_Council_drop.nd rfl (Or.inl rfl) (z22 z7))
   (za (z44 PassesOwn.never rfl (z1k (z51 G_Council_up_keepers T.cl_Council (hr.mono (by decide)) (pv 0))) (zd1 rfl (z2i (z1s (i := 4) sc_Council_drop.nd rfl (Or.inl rfl)) (z2i (z1s (i := 5) sc_Council_drop.nd rfl (Or.inl rfl)) z6d))) (zc (zt (z16 (z2b G_Keeper_drop T.cl_Keeper (hr.mono (by decide)) (pv 5) (z0 (pv 1) (z0 (pv 2) z7)))) (zc (z28 (z3g PySem.F.plainAttrs_list PySem.F.slot_list_append PySem.F.type_list_append z3m (pv 3) (z0 (pv 4) z7)))) zp)))
   (zc (zl (pv 3))))), ?_⟩
  walk_at "rd"
  obtain ⟨dx, hob⟩ := hc.ob
  have hsz := hc.sz
  refine ⟨Nat.zero_le _, fun p hp => ?_⟩
  have s1 := Same.upd (o := .lst []) hp
  have g1 : upd H p (.lst []) p = some (.lst (zx [])) := z9
  generalize upd H p (.lst []) = H1 at s1 g1 ⊢
  refine ⟨_, _, s1 _ _ hob, z2v _ _ (by decide +kernel) (by decide +kernel), c, l, ks, ls, ss, rfl, hc.mono s1, fun r L H2 hL hr0 gr s2 => ⟨r, rfl, ⟨_, SqL.of gr⟩, ?_⟩⟩
  have lL := hL.len
  have s12 := s1.trans s2
  have npl : ∀ x ∈ ls, x ≠ p := fun x hx e => by obtain ⟨xs, ex⟩ := hc.lsome hx; rw [e, hp] at ex; cases ex
  have nlp : l ≠ p := fun e => by have := hc.li; rw [e, hp] at this; cases this
  refine z3y (xs := ptup L) (fun i σ H' => ∃ (ls' : List Addr) (v4 v5 : Option V), σ = [some (V.ref c), some (V.int num), some (V.int tick), some (V.ref p), v4, v5] ∧ H' p = some (.lst (zx (((upl ss ks.length).take i).filter (drAt ss num tick)))) ∧ LsOk H2 ls ls' ∧ CAt C_Council C_Keeper H' c l ks ls' (z1u ss ((upl ss ks.length).take i) num tick) ∧ (∀ b o, H2 b = some o → b ∉ ks → b ≠ p → H' b = some o)) ⟨ls, _, _, rfl, s2 _ _ g1, LsOk.refl _ _, by rw [List.take_zero, zej]; exact hc.mono s12, fun b o e _ _ => e⟩ ?_ ?_ ?_
  ·rintro i σ H' - ⟨ls', v4, v5, -, -, -, hc3, b3⟩
   refine SqL.of (b3 _ _ gr (fun hk => ?_) ?_)
   ·obtain ⟨dx, fs, z⟩ := (hc.mono s12).mem hk
    rw [gr] at z
    cases z
   ·intro e
    rw [e, g1] at hr0
    cases hr0
  ·rintro Pv hP i x σ H' hx ⟨ls', v4, v5, rfl, gp, lo, hc3, b3⟩
   obtain ⟨y, hy, rfl⟩ := z7f hx
   have my := List.mem_of_getElem? hy
   have hj : (upl ss ks.length)[i]? = some y.2.1 := by rw [← hL.mp, List.getElem?_map, hy]; rfl
   have stp := z1w (drAt ss num tick) hj
   obtain ⟨s, l0, hs, hl0, -⟩ := hc.kp y.2.1 y.2.2 (hL.at_ y my)
   obtain ⟨dst, ds⟩ := zcy (num := num) (tick := tick) hj hs (z9e ss ks.length)
   obtain ⟨s', l1, hs', hl1, hK⟩ := hc3.kp y.2.1 y.2.2 (hL.at_ y my)
   obtain rfl : s' = s := by rw [ds] at hs'; exact (Option.some.inj hs').symm
   have ty : H' y.1 = some (.tup [.int ((y.2.1 : Int) + 1), .ref y.2.2]) := b3 _ _ (hL.tu y my) (fun hk => by obtain ⟨dx, fs, z⟩ := (hc.mono s12).mem hk; rw [hL.tu y my] at z; cases z) (fun e => by have := hL.tu y my; rw [e, s2 _ _ g1] at this; cases this)
   have eD : drAt ss num tick y.2.1 = hasN num tick s' := by unfold drAt; rw [hs]
   walk_at "rd"
   obtain ⟨⟨dk, a1⟩, Ls, eLs, hku⟩ := id hK
   have su : s'.u = true := by
    have := (z53 (List.mem_of_getElem? hj)).2
    unfold upAt at this
    rw [hs] at this
    exact this
   have eh : hasn num (z13 tick Ls) = hasN num tick s' := by
    unfold hasn hasN
    rw [← eLs, ← z6a, List.any_map]
    rfl
   have lp : (((upl ss ks.length).take i).filter (drAt ss num tick)).length ≤ 100 := Nat.le_trans (List.length_filter_le _ _) (by rw [List.length_take]; have := z42 ss ks.length; omega)
   have pk : p ∉ ks := fun hk => by obtain ⟨dx, fs, z⟩ := hc3.mem hk; rw [gp] at z; cases z
   refine ⟨_, SqT.of ty, rfl, _, _, rfl, _, _, rfl, rfl, _, rfl, _, _, a1, z3j _ _ _ (by decide +kernel) (by decide +kernel) (by decide +kernel), ?_⟩
   refine ⟨y.2.2, s'.u, s'.t, Ls, num, tick, rfl, hku, fun e H4 s4 => ⟨false, rfl, ?_⟩, fun e H4 dx4 p3 hp3 a4 k4 b4 => ⟨true, rfl, ?_⟩⟩
   ·rw [if_neg Bool.false_ne_true]
    rw [su, Bool.true_and, eh] at e
    have eS : z27 num tick s' = s' := by unfold z27; rw [if_neg (by rw [e, Bool.and_false]; exact Bool.false_ne_true)]
    refine hP _ _ _ ⟨ls', _, _, rfl, ?_, lo, ?_, fun b o eb n1 n2 => s4 _ _ (b3 b o eb n1 n2)⟩
    ·rw [stp, if_neg (by rw [eD, e]; exact Bool.false_ne_true), List.append_nil]
     exact s4 _ _ gp
    ·rw [dst, eS, z7e ds]
     exact hc3.mono s4
   ·rw [if_pos rfl]
    rw [su, Bool.true_and, eh] at e
    have eS : z27 num tick s' = ⟨s'.u, s'.t, s'.N.filter fun x => decide (x.n ≠ num)⟩ := by unfold z27; rw [if_pos (by rw [e, su]; rfl)]
    have hK4 : KAt C_Keeper H4 y.2.2 p3 ⟨s'.u, s'.t, s'.N.filter fun x => decide (x.n ≠ num)⟩ := ⟨⟨dx4, a4⟩, z40 num Ls, by show (z40 num Ls).map (·.2) = _; rw [← eLs]; unfold z40; rw [List.filter_map]; rfl, k4⟩
    have hc4 := hc3.set (hL.at_ y my) hK4 b4
    rw [← eS, ← dst] at hc4
    have kk : y.2.2 ∈ ks := List.mem_of_getElem? (hL.at_ y my)
    have gp4 := b4 _ _ gp fun z => pk (z ▸ kk)
    have h23 : H2 p3 = none := by
     cases e2 : H2 p3 with
     | none => rfl
     | some o =>
      exfalso
      by_cases z1 : p3 ∈ ks
      ·obtain ⟨dx, fs, z⟩ := hc3.mem z1
       rw [hp3] at z; cases z
      ·by_cases z2 : p3 = p
       ·rw [z2, gp] at hp3; cases hp3
       ·rw [b3 _ _ e2 z1 z2] at hp3; cases hp3
    have lo4 : LsOk H2 ls (ls'.set y.2.1 p3) := fun x hx => by
     rcases List.mem_or_eq_of_mem_set hx with h | h
     ·exact lo x h
     ·rw [h]; exact .inr h23
    have np4 : p ∉ ls'.set y.2.1 p3 := fun hx => by
     rcases lo4 p hx with h | h
     ·exact npl p h rfl
     ·rw [s2 _ _ g1] at h; cases h
    refine ⟨.inl ⟨_, SqL.of gp4⟩, _, _, _, rfl, rfl, gp4, z4k (by rw [z1h]; omega), hP _ _ _ ⟨ls'.set y.2.1 p3, _, _, rfl, ?_, lo4, hc4.upd gp4 nlp np4, fun b o eb n1 n2 => ?_⟩⟩
    ·rw [z9, stp, if_pos (by rw [eD]; exact e)]
     simp [zx]
    ·rw [zb n2]
     exact b4 _ _ (b3 b o eb n1 n2) fun z => n1 (z ▸ kk)
  rintro σ H' ⟨ls', v4, v5, rfl, gp, lo, hc3, b3⟩
  walk_at "rd"
  have hlen : (ptup L).length = (upl ss ks.length).length := by rw [z4j, ← hL.mp, List.length_map]
  rw [hlen, List.take_length] at gp hc3
  refine q p ls' H' (fun x hx => ?_) hc3 hp gp fun b o e nb => b3 _ _ (s12 _ _ e) nb (zh e hp)
  rcases lo x hx with h | h
  ·exact .inl h
  ·exact .inr (z1g s12 h)
def zbx (CC CK : Addr) : Sp := fun vs H Q _ => ∃ (c a l : Addr) (ks ls : List Addr) (ss : List KN) (z : Int) (hd lk : Str) (sh : Bool) (tick time : Int), vs = [.ref c, .ref a, .int tick] ∧ H a = some (.tup [.int z, .str hd, .str lk, .bl sh, .int time]) ∧ CAt CC CK H c l ks ls ss ∧ za3 ss ∧ hd.length ≤ 1000 ∧ lk.length ≤ 1000 ∧
 (((sayl ss ks.length hd lk sh tick).length : Int) < (ks.length : Int) / 2 + 1 → ∀ (r : Addr) (H' : Hp), H' r = some (.tup [.str "refused"]) → Same H H' → Q (.ref r) H') ∧
 (¬ ((sayl ss ks.length hd lk sh tick).length : Int) < (ks.length : Int) / 2 + 1 → ∀ (m : Int), z85 ss m → ∀ (r p : Addr) (ls' : List Addr) (H' : Hp), LsOk H ls ls' → CAt CC CK H' c l ks ls' (z1v ss (sayl ss ks.length hd lk sh tick) ⟨1 + m, hd, lk, sh, tick + time⟩) →
  H' r = some (.tup [.int (1 + m), .ref p]) → H' p = some (.lst (zx (sayl ss ks.length hd lk sh tick))) → H r = none → H p = none → ButK ks H H' → Q (.ref r) H')
theorem z9w (F : Def K mg "_law_given" z4f ["_law_council", "_law_asking", "_law_tick"]) (T : Txt K mg C_Council C_Down C_InTheWay C_Keeper C_NotFree C_OldNumber C_UnknownKeeper) (G_Council_give : MHas P w K mg base (CX1 P w) 7 C_Council "give" ["self", "holder", "lock", "shared", "tick", "time"] (zed C_Council C_Keeper C_NotFree)) : Has P w K mg base 8 "_law_given" ["_law_council", "_law_asking", "_law_tick"] (zbx C_Council C_Keeper) := by
 refine F.ok sc__law_given (fun vs H Q E h => ?_) (fun f cdv A outer s H vs Q E hr h => ?_)
 ·obtain ⟨c, a, l, ks, ls, ss, z, hd, lk, sh, tick, time, rfl, _⟩ := h
  rfl
 ·obtain ⟨c, a, l, ks, ls, ss, z, hd, lk, sh, tick, time, rfl, ha, hc, hsm, hh, hl, q1, q2⟩ := h
  refine ⟨_, (za (zh8 (zgb (zh6 G_Council_give T.cl_Council (hr.mono (by decide)) (pv 0) (z0 (zj ix_tup (pv 1) z8 (fun _ _ => rfl)) (z0 (zj ix_tup (pv 1) z8 (fun _ _ => rfl)) (z0 (zj ix_tup (pv 1) z8 (fun _ _ => rfl)) (z0 (pv 2) (z0 (zj ix_tup (pv 1) z8 (fun _ _ => rfl)) z7))))))) (zgc rfl T.g_NotFree T.x_NotFree (by decide +kernel) (fun _ => (zc (zm (i := 3) sc__law_given.nd rfl (Or.inl rfl) (z1q (z0 z1o z7))))) zh7))
   (zc (zl (pv 3)))), ?_⟩
  walk_at "rd"
  obtain ⟨dx, hob⟩ := hc.ob
  refine ⟨_, _, hob, z2v _ _ (by decide +kernel) (by decide +kernel), ?_⟩
  refine ⟨_, _, _, _, rfl, rfl, SqT.of ha, zf (j := 1) rfl, ?_⟩
  refine ⟨_, _, _, _, rfl, rfl, SqT.of ha, zf (j := 2) rfl, ?_⟩
  refine ⟨_, _, _, _, rfl, rfl, SqT.of ha, zf (j := 3) rfl, ?_⟩
  refine ⟨_, _, _, _, rfl, rfl, SqT.of ha, zf (j := 4) rfl, ?_⟩
  refine ⟨c, l, ks, ls, ss, hd, lk, sh, tick, time, rfl, hc, hsm, hh, hl, fun hlt H1 s1 => ?_, fun hlt m hm r p ls' H1 h1 h2 h3 h4 h6 h7 h5 => q2 hlt m hm r p ls' H1 h1 h2 h3 h4 h6 h7 h5⟩
  refine ⟨true, T.sb_NotFree_NotFree, ?_⟩
  rw [if_pos rfl]
  exact ⟨ze (by decide), fun p hp => q1 hlt p _ z9 (s1.trans (Same.upd hp))⟩
theorem zgl (y : Int) (zs : List Int) : inV (.int y) (zs.map V.int) = decide (y ∈ zs) := by
 induction zs with
 | nil => rfl
 | cons a zs ih =>
  show (eqV (.int a) (.int y) || inV (.int y) (zs.map V.int)) = _
  rw [ih]
  show ((a == y) || decide (y ∈ zs)) = _
  by_cases h : a = y
  ·subst h; simp
  ·have h' : ¬ y = a := fun z => h z.symm
   simp [h, h']
theorem zb1 (l : List Int) : (l.map V.int).all z23 = true := by
 rw [List.all_eq_true]
 intro x hx
 obtain ⟨a, _, rfl⟩ := List.mem_map.mp hx
 rfl
def z1f (hd lk : Str) (sh : Bool) (tick : Int) (ds : List Int) (x : Nt) : Bool := decide (tick < x.e) && (decide (x.h ≠ hd) && (!decide (x.n ∈ ds) && (onl x.l lk && !(x.sh && sh))))
def TuL (H : Hp) (L : NL) : Prop := ∀ q ∈ L, H q.1 = some (.tup q.2.vals)
def zby : Sp := fun vs H Q _ => ∃ (pm pa pd : Addr) (L : NL) (z : Int) (hd lk : Str) (sh : Bool) (tm tick : Int) (ds : List Int), vs = [.ref pm, .ref pa, .int tick, .ref pd] ∧ H pm = some (.lst (refs L)) ∧ TuL H L ∧ (∀ q ∈ L, q.2.l.length ≤ 1000) ∧ H pa = some (.tup [.int z, .str hd, .str lk, .bl sh, .int tm]) ∧ lk.length ≤ 1000 ∧ H pd = some (.lst (ds.map V.int)) ∧
 ∀ H', Same H H' → Q (.bl (!(L.any fun q => z1f hd lk sh tick ds q.2))) H'
theorem z9x (F : Def K mg "_law_clear" z4g ["_law_grants_made", "_law_asking", "_law_tick", "_law_dropped"]) (T : Txt K mg C_Council C_Down C_InTheWay C_Keeper C_NotFree C_OldNumber C_UnknownKeeper) (G__law_way : Has P w K mg base 2 "_law_way" ["_law_lock", "_law_shared", "_law_other", "_law_other_shared"] (zeg)) : Has P w K mg base 3 "_law_clear" ["_law_grants_made", "_law_asking", "_law_tick", "_law_dropped"] (zby) := by
 refine F.ok sc__law_clear (fun vs H Q E h => ?_) (fun f cdv A outer s H vs Q E hr h => ?_)
 ·obtain ⟨pm, pa, pd, L, z, hd, lk, sh, tm, tick, ds, rfl, _⟩ := h
  rfl
 ·obtain ⟨pm, pa, pd, L, z, hd, lk, sh, tm, tick, ds, rfl, gm, tL, lL, ga, hlk, gd, q⟩ := h
  have hu := hr.units0
  have hu2 := zcd hr
  refine ⟨_, (za (z44 PassesOwn.never rfl (z1k (pv 0)) (z1s (i := 4) sc__law_clear.nd rfl (Or.inl rfl)) (zc (zt (PW.pt (z5q (zo zfr (zj ix_tup (pv 4) z8 (fun _ _ => rfl)) (pv 2) (zk _)) (z5q (zo z20 (zj ix_tup (pv 4) z8 (fun _ _ => rfl)) (zj ix_tup (pv 1) z8 (fun _ _ => rfl)) (zk _)) (z6c (zo z5s (zj ix_tup (pv 4) z8 (fun _ _ => rfl)) (pv 3) (by with_unfolding_all rfl)))))) (zc (zt (z16 (z15 G__law_way (hr.mono (by decide)) rfl (z0 (zj ix_tup (pv 4) z8 (fun _ _ => rfl)) (z0 (zj ix_tup (pv 4) z8 (fun _ _ => rfl)) (z0 (zj ix_tup (pv 1) z8 (fun _ _ => rfl)) (z0 (zj ix_tup (pv 1) z8 (fun _ _ => rfl)) z7)))))) (zc (zl z1m)) zp)) zp)))
   (zc (zl z1m))), ?_⟩
  walk_at "rd"
  refine ⟨⟨_, SqL.of gm⟩, ?_⟩
  refine z3y (xs := refs L) (fun i σ H' => ∃ v4 : Option V, σ = [some (V.ref pm), some (V.ref pa), some (V.int tick), some (V.ref pd), v4] ∧ ((L.take i).any fun q => z1f hd lk sh tick ds q.2) = false ∧ Same H H') ⟨_, rfl, rfl, Same.refl _⟩ ?_ ?_ ?_
  ·rintro i σ H' - ⟨v4, -, -, s2⟩
   exact SqL.of (s2 _ _ gm)
  ·rintro Pv hP i x σ H' hx ⟨v4, rfl, iL, s2⟩
   obtain ⟨y, hy, rfl⟩ := z2p hx
   have my := List.mem_of_getElem? hy
   have no : ∀ H2, Same H' H2 → z1f hd lk sh tick ds y.2 = false → Pv (i + 1) [some (V.ref pm), some (V.ref pa), some (V.int tick), some (V.ref pd), some (V.ref y.1)] H2 := fun H2 s3 e => hP _ _ _ ⟨_, rfl, by rw [List.take_succ, hy, List.any_append, iL]; simp [e], s2.trans s3⟩
   have hy1 := s2 _ _ (tL y my)
   have ga2 := s2 _ _ ga
   walk_at "rd"
   refine ⟨_, _, _, _, rfl, rfl, SqT.of hy1, zf (j := 4) rfl, _, rfl, ?_⟩
   by_cases c1 : tick < y.2.e
   rotate_left
   ·rw [if_neg (by simpa using c1)]
    exact no _ (Same.refl _) (by simp [z1f, c1])
   rw [if_pos (decide_eq_true c1)]
   refine ⟨_, _, _, _, rfl, rfl, SqT.of hy1, zf (j := 1) rfl, _, _, _, _, rfl, rfl, SqT.of ga2, zf (j := 1) rfl, rfl, ?_⟩
   by_cases c2 : y.2.h = hd
   ·rw [if_neg (by simp [c2])]
    exact no _ (Same.refl _) (by simp [z1f, c2])
   rw [if_pos (by simp [c2])]
   refine ⟨_, _, _, _, rfl, rfl, SqT.of hy1, zf (j := 0) rfl, ?_⟩
   refine ⟨_, _, rfl, .inl (SqL.of (s2 _ _ gd)), rfl, zb1 _, _, rfl, ?_⟩
   rw [if_pos rfl, zgl]
   by_cases c3 : y.2.n ∈ ds
   ·rw [if_neg (by simp [c3])]
    exact no _ (Same.refl _) (by simp [z1f, c3])
   rw [if_pos (by simp [c3])]
   refine ⟨_, _, _, _, rfl, rfl, SqT.of hy1, zf (j := 2) rfl, _, _, _, _, rfl, rfl, SqT.of hy1, zf (j := 3) rfl, _, _, _, _, rfl, rfl, SqT.of ga2, zf (j := 2) rfl, _, _, _, _, rfl, rfl, SqT.of ga2, zf (j := 3) rfl, ?_⟩
   refine ⟨_, _, _, _, rfl, lL y my, hlk, fun H3 s3 => ⟨_, rfl, ?_⟩⟩
   by_cases c4 : (onl y.2.l lk && !(y.2.sh && sh)) = true
   ·rw [if_pos c4]
    have e : (L.any fun q => z1f hd lk sh tick ds q.2) = true := List.any_eq_true.mpr ⟨y, my, by unfold z1f; rw [c4]; simp [c1, c2, c3]⟩
    have := q H3 (s2.trans s3)
    rw [e] at this
    exact this
   ·rw [if_neg c4]
    simp only [Bool.not_eq_true] at c4
    exact no _ s3 (by unfold z1f; rw [c4]; simp)
  ·rintro σ H' ⟨v4, rfl, iL, s2⟩
   rw [z12, List.take_length] at iL
   walk_at "rd"
   have := q H' s2
   rw [iL] at this
   exact this
def zbz : Sp := fun vs H Q _ => ∃ (r p pu : Addr) (num top : Int) (js us : List Nat) (n : Nat), vs = [.ref r, .ref pu, .int n, .int top] ∧ H r = some (.tup [.int num, .ref p]) ∧ H p = some (.lst (zx js)) ∧ H pu = some (.lst (zx us)) ∧ top < num ∧ n < 2 * js.length ∧ us.filter (fun k => decide (k ∈ js)) = js ∧ us.length ≤ 100 ∧ js.length ≤ 100 ∧ z3x H Q (.bl true)
theorem z9y (F : Def K mg "_law_right" z4h ["_law_found", "_law_ups", "_law_keepers", "_law_top"]) (T : Txt K mg C_Council C_Down C_InTheWay C_Keeper C_NotFree C_OldNumber C_UnknownKeeper) (G__law_same : Has P w K mg base 2 "_law_same" ["_law_found", "_law_due"] (z8v)) : Has P w K mg base 3 "_law_right" ["_law_found", "_law_ups", "_law_keepers", "_law_top"] (zbz) := by
 refine F.ok z9s (fun vs H Q E h => ?_) (fun f cdv A outer s H vs Q E hr h => ?_)
 ·obtain ⟨r, p, pu, num, top, js, us, n, rfl, _⟩ := h
  rfl
 ·obtain ⟨r, p, pu, num, top, js, us, n, rfl, gr, gp, gu, ht, hn, hf, lu, lj, q⟩ := h
  have hu := hr.units0
  have hu2 := zcd hr
  refine ⟨_, (za (zt (PW.pt (z3f (z34 (z16 (zd zq rfl T.b_isinstance (by decide +kernel) (z0 (pv 0) (z0 (zn (v := .ty "tuple") rfl T.b_tuple (by decide +kernel) rfl) z7))))) (z3f (zo z20 (zd zr rfl T.b_len (by decide +kernel) (z0 (pv 0) z7)) z8 (zk _)) (z3l (z34 (z16 (zd zq rfl T.b_isinstance (by decide +kernel) (z0 (zj ix_tup (pv 0) z8 (fun _ _ => rfl)) (z0 (zn (v := .ty "list") rfl T.b_list (by decide +kernel) rfl) z7))))))))) (zc (zl z1m)) zp)
   (za (zt (PW.pt (z3f (z34 (z16 (zd zq rfl T.b_isinstance (by decide +kernel) (z0 (zj ix_tup (pv 0) z8 (fun _ _ => rfl)) (z0 (zn (v := .ty "int") rfl T.b_int (by decide +kernel) rfl) z7))))) (z3f (z16 (zd zq rfl T.b_isinstance (by decide +kernel) (z0 (zj ix_tup (pv 0) z8 (fun _ _ => rfl)) (z0 (zn (v := .ty "bool") rfl T.b_bool (by decide +kernel) rfl) z7)))) (z3l (zo z7i (zj ix_tup (pv 0) z8 (fun _ _ => rfl)) (pv 3) (zk _)))))) (zc (zl z1m)) zp)
   (za (zt (zo z7i (zg z4w z8 (zd zr rfl T.b_len (by decide +kernel) (z0 (zj ix_tup (pv 0) z8 (fun _ _ => rfl)) z7))) (pv 2) (zk _)) (zc (zl z1m)) zp)
   (zc (zl (z15 G__law_same (hr.mono (by decide)) rfl (z0 (zj ix_tup (pv 0) z8 (fun _ _ => rfl)) (z0 (z1y (x := "_law_k") (cap := ["_law_found"]) (js := [0]) rfl ⟨rfl, by decide +kernel, by decide +kernel, rfl, zy rfl, by decide +kernel, ⟨⟨rfl, Or.inl rfl, rfl⟩, trivial⟩⟩ (z1k (pv 1)) (fun _ _ _ _ => (z2f (zo (zb5 (K := K)) (pv 0) (zj (z1a (K := K)) (pv 1) z8 (fun _ _ => rfl)) (by with_unfolding_all rfl)))) (fun _ _ _ _ => (pv 0))) z7)))))))), ?_⟩
  walk_at "rd"
  have i0 : ∀ H', Same H H' → SqT K H' r [.int num, .ref p] := fun H' s => SqT.of (s _ _ gr)
  have i1 := i0 _ (Same.refl _)
  refine ⟨_, _, ⟨rfl, rfl⟩, _, .tup gr, _, (z14 K).2.2.2.2.2.2.1, ?_⟩
  rw [if_neg (by decide)]
  refine ⟨_, .inr i1, ?_⟩
  rw [if_neg (by simp)]
  refine ⟨_, _, _, _, rfl, rfl, i1, zf (j := 1) rfl, _, _, ⟨rfl, rfl⟩, _, .lst gp, _, z3p K, ?_⟩
  rw [if_neg (by decide)]
  refine ⟨_, _, _, _, rfl, rfl, i1, zf (j := 0) rfl, _, _, ⟨rfl, rfl⟩, _, .int num, _, (z14 K).1, ?_⟩
  rw [if_neg (by decide)]
  refine ⟨_, _, _, _, rfl, rfl, i1, zf (j := 0) rfl, _, _, ⟨rfl, rfl⟩, _, .int num, _, z2j K, ?_⟩
  rw [if_neg (by decide)]
  refine ⟨_, _, _, _, rfl, rfl, i1, zf (j := 0) rfl, _, rfl, ?_⟩
  rw [if_neg (by simp; omega)]
  refine ⟨_, _, _, _, rfl, rfl, i1, zf (j := 1) rfl, _, rfl, _, .inl (SqL.of gp), .inl ⟨by decide, by decide⟩, ?_⟩
  rw [z1h, if_neg (by simp; omega)]
  refine ⟨_, _, _, _, rfl, rfl, i1, zf (j := 1) rfl, ⟨_, SqL.of gu⟩, ?_⟩
  refine z1n (xs := zx us) (by rw [z1h]; exact ze (by omega)) (fun i acc H' => acc = zx ((us.take i).filter fun k => decide (k ∈ js)) ∧ H' = H) ⟨rfl, rfl⟩ ?_ ?_ ?_ ?_
  ·rintro i acc H' ⟨rfl, -⟩
   rw [z1h]
   exact Nat.le_trans (List.length_filter_le _ _) (by rw [List.length_take]; omega)
  ·rintro i acc H' ⟨-, rfl⟩
   exact SqL.of gu
  ·rintro Nn i acc H3 x hN hx hi ⟨rfl, rfl⟩
   obtain ⟨k, hk, rfl⟩ := z6b hx
   have stp := z1w (fun k => decide (k ∈ js)) hk
   walk_at "rd"
   refine ⟨_, _, _, _, rfl, rfl, i1, zf (j := 1) rfl, _, _, rfl, .inl (SqL.of gp), rfl, zcx _, _, rfl, ?_⟩
   rw [if_neg Bool.false_ne_true, zfa]
   by_cases c : k ∈ js
   ·rw [if_pos (decide_eq_true c)]
    refine hN _ _ ⟨?_, rfl⟩
    rw [stp, if_pos (decide_eq_true c)]
    simp [zx]
   ·rw [if_neg (by simpa using c)]
    refine hN _ _ ⟨?_, rfl⟩
    rw [stp, if_neg (by simpa using c), List.append_nil]
  ·rintro acc H3 ⟨rfl, rfl⟩ pc hpc
   rw [z1h, List.take_length, hf]
   have sc := Same.upd (o := .lst (zx js)) hpc
   exact .inl ⟨_, _, rfl, .inr ⟨p, pc, zx js, zx js, rfl, rfl, .inl ⟨sc _ _ gp, z9⟩, rfl, by rw [z1h]; omega, fun i x y hx hy => by
    rw [hx] at hy
    cases hy
    obtain ⟨k, _, rfl⟩ := z6b hx
    exact ⟨rfl, .inl ⟨_, rfl⟩⟩⟩, fun H4 s4 => q H4 (sc.trans s4)⟩
def maj (n : Nat) (P : Nat → Bool) : Prop := n < 2 * ((List.range n).filter P).length
def atB (ss : List KN) (p : KN → Bool) (j : Nat) : Bool := match ss[j]? with | some s => p s | none => false
theorem z3e {ss : List KN} {p : KN → Bool} {j : Nat} (h : atB ss p j = true) : ∃ s, ss[j]? = some s ∧ p s = true := by
 unfold atB at h
 cases e : ss[j]? with
 | none => rw [e] at h; cases h
 | some s => rw [e] at h; exact ⟨s, rfl, h⟩
theorem zb2 {n : Nat} {P Q : Nat → Bool} (hP : maj n P) (hQ : maj n Q) : ∃ j, j < n ∧ P j = true ∧ Q j = true := by
 by_cases h : ∃ j, j < n ∧ P j = true ∧ Q j = true
 ·exact h
 ·exfalso
  unfold maj at hP hQ
  rw [← List.countP_eq_length_filter] at hP hQ
  have h1 : (List.range n).countP P ≤ (List.range n).countP (fun j => decide (¬ Q j = true)) := List.countP_mono_left fun j hj hp => by
   refine decide_eq_true fun hq => h ⟨j, List.mem_range.mp hj, hp, hq⟩
  have h2 := List.length_eq_countP_add_countP Q (l := List.range n)
  rw [List.length_range] at h2
  omega
theorem z33 {n : Nat} {P Q : Nat → Bool} (hP : maj n P) (h : ∀ j, j < n → P j = true → Q j = true) : maj n Q := by
 unfold maj at hP ⊢
 rw [← List.countP_eq_length_filter] at hP ⊢
 have := List.countP_mono_left (l := List.range n) (p := P) (q := Q) fun j hj hp => h j (List.mem_range.mp hj) hp
 omega
structure Inv12 (ss : List KN) (n : Nat) (L : List Nt) (ds : List Int) (top : Int) : Prop where
 ln : ss.length = n
 tp : ∀ s ∈ ss, 0 ≤ s.t ∧ s.t ≤ top
 t0 : top = 0 ∨ maj n (atB ss fun s => decide (s.t = top))
 fr : ∀ s ∈ ss, ∀ x ∈ s.N, x ∈ L
 gr : ∀ g ∈ L, g.n ∉ ds → maj n (atB ss fun s => decide (g ∈ s.N))
theorem zc0 (ss : List KN) (n : Nat) (hd lk : Str) (sh : Bool) (tick : Int) : sayl ss n hd lk sh tick = (List.range n).filter fun j => frAt ss hd lk sh tick j && upAt ss j := by
 unfold sayl upl
 rw [List.filter_filter]
theorem z8x {ss : List KN} {n : Nat} {hd lk : Str} {sh : Bool} {tick : Int} (h : ¬ ((sayl ss n hd lk sh tick).length : Int) < (n : Int) / 2 + 1) : maj n fun j => frAt ss hd lk sh tick j && upAt ss j := by
 unfold maj
 rw [← zc0]
 omega
theorem Inv12.clear {ss : List KN} {n : Nat} {L : List Nt} {ds : List Int} {top : Int} (I : Inv12 ss n L ds top) {hd lk : Str} {sh : Bool} {tick : Int} (h : ¬ ((sayl ss n hd lk sh tick).length : Int) < (n : Int) / 2 + 1) : L.any (z1f hd lk sh tick ds) = false := by
 rw [List.any_eq_false]
 intro g hg ha
 unfold z1f at ha
 simp only [Bool.and_eq_true, decide_eq_true_eq, Bool.not_eq_true', decide_eq_false_iff_not] at ha
 obtain ⟨h1, h2, h3, h4, h5⟩ := ha
 obtain ⟨j, hj, p1, p2⟩ := zb2 (I.gr g hg h3) (z8x h)
 obtain ⟨s, es, hs⟩ := z3e p1
 rw [Bool.and_eq_true] at p2
 have p3 := p2.1
 unfold frAt at p3
 rw [es] at p3
 have p4 : z5i s.N hd lk sh tick = true := p3
 unfold z5i at p4
 simp only [Bool.not_eq_true', List.any_eq_false] at p4
 refine p4 g (List.mem_filter.mpr ⟨of_decide_eq_true hs, decide_eq_true h1⟩) ?_
 unfold z69
 rw [zay, h4, Bool.and_comm sh, h5]
 simp [h2]
theorem Inv12.rises {ss : List KN} {n : Nat} {L : List Nt} {ds : List Int} {top m : Int} (I : Inv12 ss n L ds top) {hd lk : Str} {sh : Bool} {tick : Int} (h : ¬ ((sayl ss n hd lk sh tick).length : Int) < (n : Int) / 2 + 1) (hT : z85 ss m) : top < 1 + m := by
 rcases I.t0 with e | e
 ·obtain ⟨⟨s, ms, -, es⟩, -⟩ := hT
  have := (I.tp s ms).1
  omega
 ·obtain ⟨j, hj, p1, p2⟩ := zb2 e (z8x h)
  obtain ⟨s, es, hs⟩ := z3e p1
  have p3 := (Bool.and_eq_true _ _ ▸ p2).2
  unfold upAt at p3
  rw [es] at p3
  have := hT.2 s (List.mem_of_getElem? es) p3
  have := of_decide_eq_true hs
  omega
theorem Inv12.refused {ss : List KN} {n : Nat} {L : List Nt} {ds : List Int} {top : Int} (I : Inv12 ss n L ds top) {hd lk : Str} {sh : Bool} {tick : Int} (h : ((sayl ss n hd lk sh tick).length : Int) < (n : Int) / 2 + 1) (hu : n < 2 * (upl ss n).length) : L.any (z1f hd lk sh tick []) = true := by
 cases e : L.any (z1f hd lk sh tick []) with
 | true => rfl
 | false =>
  exfalso
  rw [List.any_eq_false] at e
  have : sayl ss n hd lk sh tick = upl ss n := by
   unfold sayl
   rw [List.filter_eq_self]
   intro j hj
   obtain ⟨jn, ju⟩ := z53 hj
   have es : ss[j]? = some (ss[j]'(by rw [I.ln]; exact jn)) := List.getElem?_eq_getElem _
   unfold frAt
   rw [es]
   show z5i (ss[j]'(by rw [I.ln]; exact jn)).N hd lk sh tick = true
   unfold z5i
   simp only [Bool.not_eq_true', List.any_eq_false]
   intro x hx hb
   obtain ⟨mx, lx⟩ := List.mem_filter.mp hx
   refine e x (I.fr _ (List.getElem_mem _) x mx) ?_
   unfold z69 at hb
   simp only [Bool.and_eq_true] at hb
   obtain ⟨b1, b2, b3⟩ := hb
   unfold z1f
   rw [lx, b1, zay, b2, Bool.and_comm x.sh, b3]
   simp
  rw [this] at h
  omega
theorem Inv12.give {ss : List KN} {n : Nat} {L : List Nt} {ds : List Int} {top m : Int} (I : Inv12 ss n L ds top) {hd lk : Str} {sh : Bool} {tick e : Int} (h : ¬ ((sayl ss n hd lk sh tick).length : Int) < (n : Int) / 2 + 1) (hT : z85 ss m) :
  Inv12 (z1v ss (sayl ss n hd lk sh tick) ⟨1 + m, hd, lk, sh, e⟩) n (L ++ [⟨1 + m, hd, lk, sh, e⟩]) (ds ++ (L.filter fun g => decide (g.h = hd) && decide (g.l = lk)).map (·.n)) (1 + m) := by
 have hr := I.rises h hT
 have M := z8x h
 have get : ∀ j, (z1v ss (sayl ss n hd lk sh tick) ⟨1 + m, hd, lk, sh, e⟩)[j]? = (ss[j]?).map fun s => if j ∈ sayl ss n hd lk sh tick then ⟨s.u, 1 + m, z4m hd lk s.N ++ [⟨1 + m, hd, lk, sh, e⟩]⟩ else s := fun j => by
  unfold z1v
  rw [List.getElem?_mapIdx]
 have mem : ∀ j, j < n → (frAt ss hd lk sh tick j && upAt ss j) = true → j ∈ sayl ss n hd lk sh tick := fun j hj hq => by
  rw [zc0]
  exact List.mem_filter.mpr ⟨List.mem_range.mpr hj, hq⟩
 have cs : ∀ s' ∈ z1v ss (sayl ss n hd lk sh tick) ⟨1 + m, hd, lk, sh, e⟩, ∃ s ∈ ss, s' = s ∨ s' = ⟨s.u, 1 + m, z4m hd lk s.N ++ [⟨1 + m, hd, lk, sh, e⟩]⟩ := fun s' ms => by
  obtain ⟨j, hj⟩ := List.getElem?_of_mem ms
  rw [get] at hj
  cases es : ss[j]? with
  | none => rw [es] at hj; cases hj
  | some s =>
   rw [es] at hj
   have := Option.some.inj hj
   dsimp only at this
   refine ⟨s, List.mem_of_getElem? es, ?_⟩
   by_cases c : j ∈ sayl ss n hd lk sh tick
   ·rw [if_pos c] at this; exact .inr this.symm
   ·rw [if_neg c] at this; exact .inl this.symm
 have hm0 : 0 ≤ m := by
  obtain ⟨⟨s, ms, -, es⟩, -⟩ := hT
  have := (I.tp s ms).1
  omega
 have som : ∀ j, j < n → ∃ s, ss[j]? = some s := fun j hj => ⟨_, List.getElem?_eq_getElem (by rw [I.ln]; exact hj)⟩
 refine ⟨by unfold z1v; rw [List.length_mapIdx]; exact I.ln, fun s' ms => ?_, .inr ?_, fun s' ms x hx => ?_, fun g hg hn => ?_⟩
 ·obtain ⟨s, hs, rfl | rfl⟩ := cs s' ms
  ·have := I.tp _ hs
   omega
  ·show 0 ≤ 1 + m ∧ 1 + m ≤ 1 + m
   omega
 ·refine z33 M fun j hj hq => ?_
  obtain ⟨s, es⟩ := som j hj
  unfold atB
  rw [get, es, Option.map_some, if_pos (mem j hj hq)]
  exact decide_eq_true rfl
 ·obtain ⟨s, hs, rfl | rfl⟩ := cs s' ms
  ·exact List.mem_append_left _ (I.fr _ hs x hx)
  ·rcases List.mem_append.mp hx with hx | hx
   ·exact List.mem_append_left _ (I.fr _ hs x (List.mem_filter.mp hx).1)
   ·exact List.mem_append_right _ hx
 ·rcases List.mem_append.mp hg with hg | hg
  ·have n1 : g.n ∉ ds := fun z => hn (List.mem_append_left _ z)
   have n2 : (decide (g.h = hd) && decide (g.l = lk)) = false := by
    cases e2 : (decide (g.h = hd) && decide (g.l = lk)) with
    | false => rfl
    | true => exact absurd (List.mem_append_right _ (List.mem_map_of_mem (f := fun g : Nt => g.n) (List.mem_filter.mpr ⟨hg, e2⟩))) hn
   refine z33 (I.gr g hg n1) fun j hj hq => ?_
   obtain ⟨s, es, hs⟩ := z3e hq
   unfold atB
   rw [get, es, Option.map_some]
   by_cases c : j ∈ sayl ss n hd lk sh tick
   ·rw [if_pos c]
    refine decide_eq_true (List.mem_append_left _ (List.mem_filter.mpr ⟨of_decide_eq_true hs, ?_⟩))
    rw [n2]
    rfl
   ·rw [if_neg c]
    exact hs
  ·rw [List.mem_singleton.mp hg]
   refine z33 M fun j hj hq => ?_
   obtain ⟨s, es⟩ := som j hj
   unfold atB
   rw [get, es, Option.map_some, if_pos (mem j hj hq)]
   exact decide_eq_true (List.mem_append_right _ (List.mem_singleton.mpr rfl))
theorem Inv12.drop {ss : List KN} {n : Nat} {L : List Nt} {ds : List Int} {top : Int} (I : Inv12 ss n L ds top) (num tick : Int) : Inv12 (z1u ss (upl ss n) num tick) n L (ds ++ [num]) top := by
 have get : ∀ j, (z1u ss (upl ss n) num tick)[j]? = (ss[j]?).map fun s => if j ∈ upl ss n then z27 num tick s else s := fun j => by
  unfold z1u
  rw [List.getElem?_mapIdx]
 have du : ∀ s : KN, (z27 num tick s).t = s.t := fun s => by unfold z27; split <;> rfl
 have ds' : ∀ (s : KN) (x : Nt), x ∈ (z27 num tick s).N → x ∈ s.N := fun s x hx => by
  unfold z27 at hx
  split at hx
  ·exact (List.mem_filter.mp hx).1
  ·exact hx
 have dk : ∀ (s : KN) (x : Nt), x.n ≠ num → x ∈ s.N → x ∈ (z27 num tick s).N := fun s x hn hx => by
  unfold z27
  split
  ·exact List.mem_filter.mpr ⟨hx, decide_eq_true hn⟩
  ·exact hx
 have cs : ∀ s' ∈ z1u ss (upl ss n) num tick, ∃ s ∈ ss, s' = s ∨ s' = z27 num tick s := fun s' ms => by
  obtain ⟨j, hj⟩ := List.getElem?_of_mem ms
  rw [get] at hj
  cases es : ss[j]? with
  | none => rw [es] at hj; cases hj
  | some s =>
   rw [es] at hj
   have := Option.some.inj hj
   dsimp only at this
   refine ⟨s, List.mem_of_getElem? es, ?_⟩
   by_cases c : j ∈ upl ss n
   ·rw [if_pos c] at this; exact .inr this.symm
   ·rw [if_neg c] at this; exact .inl this.symm
 refine ⟨by unfold z1u; rw [List.length_mapIdx]; exact I.ln, fun s' ms => ?_, ?_, fun s' ms x hx => ?_, fun g hg hn => ?_⟩
 ·obtain ⟨s, hs, rfl | rfl⟩ := cs s' ms
  ·exact I.tp _ hs
  ·rw [du]; exact I.tp _ hs
 ·rcases I.t0 with e | e
  ·exact .inl e
  ·refine .inr (z33 e fun j hj hq => ?_)
   obtain ⟨s, es, hs⟩ := z3e hq
   unfold atB
   rw [get, es, Option.map_some]
   dsimp only
   split
   ·rw [du]; exact hs
   ·exact hs
 ·obtain ⟨s, hs, rfl | rfl⟩ := cs s' ms
  ·exact I.fr _ hs x hx
  ·exact I.fr _ hs x (ds' _ _ hx)
 ·have n1 : g.n ∉ ds := fun z => hn (List.mem_append_left _ z)
  have n2 : g.n ≠ num := fun z => hn (List.mem_append_right _ (List.mem_singleton.mpr z))
  refine z33 (I.gr g hg n1) fun j hj hq => ?_
  obtain ⟨s, es, hs⟩ := z3e hq
  unfold atB
  rw [get, es, Option.map_some]
  dsimp only
  split
  ·exact decide_eq_true (dk _ _ n2 (of_decide_eq_true hs))
  ·exact hs
theorem Inv12.stand {ss : List KN} {n j : Nat} {s : KN} {L : List Nt} {ds : List Int} {top : Int} (I : Inv12 ss n L ds top) (hs : ss[j]? = some s) (b : Bool) : Inv12 (ss.set j ⟨b, s.t, s.N⟩) n L ds top := by
 have hl : j < ss.length := (List.getElem?_eq_some_iff.mp hs).1
 have me : ∀ s' ∈ ss.set j ⟨b, s.t, s.N⟩, ∃ s0 ∈ ss, s'.t = s0.t ∧ s'.N = s0.N := fun s' ms => by
  rcases List.mem_or_eq_of_mem_set ms with z | z
  ·exact ⟨s', z, rfl, rfl⟩
  ·exact ⟨s, List.mem_of_getElem? hs, by rw [z], by rw [z]⟩
 have at' : ∀ (p : Int → List Nt → Bool) (i : Nat), atB ss (fun s => p s.t s.N) i = true → atB (ss.set j ⟨b, s.t, s.N⟩) (fun s => p s.t s.N) i = true := fun p i hq => by
  obtain ⟨s0, es, h0⟩ := z3e hq
  unfold atB
  by_cases e : i = j
  ·subst e
   rw [List.getElem?_set_self hl]
   rw [hs] at es
   cases es
   exact h0
  ·rw [List.getElem?_set_ne (Ne.symm e), es]
   exact h0
 refine ⟨by rw [List.length_set]; exact I.ln, fun s' ms => ?_, ?_, fun s' ms x hx => ?_, fun g hg hn => z33 (I.gr g hg hn) fun i _ hq => at' (fun _ N => decide (g ∈ N)) i hq⟩
 ·obtain ⟨s0, m0, e1, e2⟩ := me s' ms
  rw [e1]; exact I.tp _ m0
 ·exact I.t0.imp id fun e => z33 e fun i _ hq => at' (fun t _ => decide (t = top)) i hq
 ·obtain ⟨s0, m0, e1, e2⟩ := me s' ms
  rw [e2] at hx; exact I.fr _ m0 x hx
def suL (u : Su) : List Addr := [u.ph, u.pl, u.pc, u.pt]
structure W12 (K : PySem.W.Frag) (CC CK : Addr) (H : Hp) (a : Addr) (xs : List V) (ps : Addr) (u : Su) (c l : Addr) (ks ls : List Addr) (ss : List KN) (pu pm pg : Addr) (L : NL) (ds : List Int) (us : List Nat) : Prop where
 ca : CAt CC CK H c l ks ls ss
 su : SuAt H ps u
 sc : (∀ H', SqL K H' a xs) ∨ ((∀ H', H' a = H a → SqL K H' a xs) ∧ (∃ o, H a = some o ∧ ∀ C dx fs, o ≠ .ins C dx fs) ∧ a ≠ pm ∧ a ≠ pg)
 gu : H pu = some (.lst (zx us))
 gm : H pm = some (.lst (refs L))
 tl : TuL H L
 gg : H pg = some (.lst (ds.map V.int))
 mg : pm ≠ pg
 ap : ∀ p, p = pm ∨ p = pg → p ≠ l ∧ p ∉ ls ∧ p ∉ suL u ∧ p ≠ pu
section
variable {K : PySem.W.Frag} {CC CK : Addr} {H H' : Hp} {a : Addr} {xs : List V} {ps : Addr} {u : Su} {c l : Addr} {ks ls ls' : List Addr} {ss ss' : List KN} {pu pm pg : Addr} {L : NL} {ds : List Int} {us : List Nat}
theorem W12.sq (W : W12 K CC CK H a xs ps u c l ks ls ss pu pm pg L ds us) : SqL K H a xs := by
 rcases W.sc with h | ⟨h, -⟩
 ·exact h H
 ·exact h H rfl
theorem W12.keep (W : W12 K CC CK H a xs ps u c l ks ls ss pu pm pg L ds us) (k : ∀ b o, H b = some o → (∀ C dx fs, o ≠ .ins C dx fs) → H' b = some o) (hc : CAt CC CK H' c l ks ls' ss') (lo : LsOk H ls ls') : W12 K CC CK H' a xs ps u c l ks ls' ss' pu pm pg L ds us := by
 have kl : ∀ b ys, H b = some (.lst ys) → H' b = some (.lst ys) := fun b ys e => k b _ e fun _ _ _ z => by cases z
 have kt : ∀ b ys, H b = some (.tup ys) → H' b = some (.tup ys) := fun b ys e => k b _ e fun _ _ _ z => by cases z
 refine ⟨hc, ⟨kt _ _ W.su.tu, kl _ _ W.su.gh, kl _ _ W.su.gl, kl _ _ W.su.gc, kl _ _ W.su.gt⟩, ?_, kl _ _ W.gu, kl _ _ W.gm, fun q hq => kt _ _ (W.tl q hq), kl _ _ W.gg, W.mg, fun p hp => ?_⟩
 ·rcases W.sc with h | ⟨h, ⟨o, e, no⟩, n⟩
  ·exact .inl h
  ·have e' := k _ _ e no
   exact .inr ⟨fun H2 z => h H2 (by rw [z, e', e]), ⟨o, e', no⟩, n⟩
 ·obtain ⟨n1, n2, n3, n4⟩ := W.ap p hp
  refine ⟨n1, fun z => ?_, n3, n4⟩
  rcases lo p z with y | y
  ·exact n2 y
  ·rcases hp with rfl | rfl
   ·rw [W.gm] at y; cases y
   ·rw [W.gg] at y; cases y
theorem W12.mono (W : W12 K CC CK H a xs ps u c l ks ls ss pu pm pg L ds us) (s : Same H H') : W12 K CC CK H' a xs ps u c l ks ls ss pu pm pg L ds us := W.keep (fun b o e _ => s b o e) (W.ca.mono s) (LsOk.refl _ _)
theorem W12.but (W : W12 K CC CK H a xs ps u c l ks ls ss pu pm pg L ds us) (b : ButK ks H H') (hc : CAt CC CK H' c l ks ls' ss') (lo : LsOk H ls ls') : W12 K CC CK H' a xs ps u c l ks ls' ss' pu pm pg L ds us :=
 W.keep (fun x o e no => b x o e fun z => by obtain ⟨dx, fs, y⟩ := W.ca.mem z; rw [e] at y; cases y; exact no _ _ _ rfl) hc lo
theorem W12.put (W : W12 K CC CK H a xs ps u c l ks ls ss pu pm pg L ds us) {p : Addr} (hp : p = pm ∨ p = pg) {ys : List V} (L' : NL) (ds' : List Int) (gm : upd H p (.lst ys) pm = some (.lst (refs L'))) (gg : upd H p (.lst ys) pg = some (.lst (ds'.map V.int))) (tl : TuL H L') : W12 K CC CK (upd H p (.lst ys)) a xs ps u c l ks ls ss pu pm pg L' ds' us := by
 obtain ⟨n1, n2, n3, n4⟩ := W.ap p hp
 have hl : ∃ zs, H p = some (.lst zs) := by
  rcases hp with rfl | rfl
  ·exact ⟨_, W.gm⟩
  ·exact ⟨_, W.gg⟩
 obtain ⟨zs, hz⟩ := hl
 have kt : ∀ b ws, H b = some (.tup ws) → upd H p (.lst ys) b = some (.tup ws) := fun b ws e => by rw [zb (fun z => by rw [z, hz] at e; cases e)]; exact e
 have sn : ∀ x ∈ suL u, upd H p (.lst ys) x = H x := fun x hx => zb fun z => n3 (z ▸ hx)
 refine ⟨W.ca.upd hz n1.symm n2, ⟨kt _ _ W.su.tu, by rw [sn _ (by simp [suL])]; exact W.su.gh, by rw [sn _ (by simp [suL])]; exact W.su.gl, by rw [sn _ (by simp [suL])]; exact W.su.gc, by rw [sn _ (by simp [suL])]; exact W.su.gt⟩, ?_, by rw [zb (Ne.symm n4)]; exact W.gu, gm, fun q hq => kt _ _ (tl q hq), gg, W.mg, W.ap⟩
 rcases W.sc with h | ⟨h, ⟨o, e, no⟩, m1, m2⟩
 ·exact .inl h
 ·have ne : a ≠ p := by rcases hp with rfl | rfl <;> assumption
  exact .inr ⟨fun H2 z => h H2 (by rw [z, zb ne]), ⟨o, by rw [zb ne]; exact e, no⟩, m1, m2⟩
theorem W12.newG (W : W12 K CC CK H a xs ps u c l ks ls ss pu pm pg L ds us) (s : Same H H') {p : Addr} (f : H p = none) {ds' : List Int} (g : H' p = some (.lst (ds'.map V.int))) : W12 K CC CK H' a xs ps u c l ks ls ss pu pm p L ds' us := by
 have W' := W.mono s
 have ne : ∀ x o, H x = some o → p ≠ x := fun x o e z => by rw [← z, f] at e; cases e
 refine ⟨W'.ca, W'.su, ?_, W'.gu, W'.gm, W'.tl, g, (ne _ _ W.gm).symm, fun q hq => ?_⟩
 ·rcases W'.sc with h | ⟨h, ho, m1, m2⟩
  ·exact .inl h
  ·rcases W.sc with h2 | ⟨-, ⟨o, e, -⟩, -⟩
   ·exact .inl h2
   ·exact .inr ⟨h, ho, m1, (ne _ _ e).symm⟩
 ·rcases hq with rfl | rfl
  ·exact W.ap _ (.inl rfl)
  ·refine ⟨ne _ _ W.ca.li, fun z => ?_, fun z => ?_, ne _ _ W.gu⟩
   ·obtain ⟨ys, e⟩ := W.ca.lsome z
    exact ne _ _ e rfl
   ·simp only [suL, List.mem_cons, List.not_mem_nil, or_false] at z
    rcases z with z | z | z | z
    ·exact ne _ _ W.su.gh z
    ·exact ne _ _ W.su.gl z
    ·exact ne _ _ W.su.gc z
    ·exact ne _ _ W.su.gt z
theorem W12.newU (W : W12 K CC CK H a xs ps u c l ks ls ss pu pm pg L ds us) (s : Same H H') {p : Addr} (f : H p = none) {us' : List Nat} (g : H' p = some (.lst (zx us'))) : W12 K CC CK H' a xs ps u c l ks ls ss p pm pg L ds us' := by
 have W' := W.mono s
 refine ⟨W'.ca, W'.su, W'.sc, g, W'.gm, W'.tl, W'.gg, W'.mg, fun q hq => ?_⟩
 obtain ⟨n1, n2, n3, -⟩ := W.ap q hq
 refine ⟨n1, n2, n3, fun z => ?_⟩
 rcases hq with rfl | rfl
 ·rw [← z, W.gm] at f; cases f
 ·rw [← z, W.gg] at f; cases f
end
def Lq (K : PySem.W.Frag) (CC CK : Addr) (a : Addr) (xs : List V) (ps : Addr) (u : Su) (c l : Addr) (ks : List Addr) (bL bD : Nat) (P : Option V → Option V → Option V → Prop) (σ : List (Option V)) (H : Hp) : Prop :=
 ∃ (ls : List Addr) (ss : List KN) (pu pm pg : Addr) (L : NL) (ds : List Int) (tick top : Int) (v8 v9 v10 v11 v12 v13 : Option V), σ = [some (V.ref a), some (V.ref ps), some (V.ref c), some (V.ref pu), some (V.ref pm), some (V.ref pg), some (V.int tick), some (V.int top), v8, v9, v10, v11, v12, v13] ∧
  W12 K CC CK H a xs ps u c l ks ls ss pu pm pg L ds (upl ss u.n) ∧ Inv12 ss u.n (L.map (·.2)) ds top ∧ (∀ q ∈ L, q.2.l.length ≤ 1000) ∧ L.length ≤ bL ∧ (∀ s ∈ ss, s.N.length ≤ bL) ∧ ds.length ≤ bD ∧ P v8 v9 v10
theorem zhd {H : Hp} {a b : Addr} {xs : List V} (h : (H a = some (.lst xs) ∧ H b = some (.lst xs)) ∨ (H a = some (.tup xs) ∧ H b = some (.tup xs))) (hp : ∀ v ∈ xs, za4 v) (hl : xs.length ≤ 1000) : Alike H 1 (.ref a) (.ref b) := by
 refine .inr ⟨a, b, xs, xs, rfl, rfl, h, rfl, hl, fun i x y hx hy => ?_⟩
 rw [hx] at hy
 cases hy
 exact ⟨rfl, hp x (List.mem_of_getElem? hx)⟩
theorem zfb (ss : List KN) (sl : List Nat) (x : Nt) (n : Nat) : upl (z1v ss sl x) n = upl ss n := by
 unfold upl
 refine List.filter_congr fun j _ => ?_
 unfold upAt z1v
 rw [List.getElem?_mapIdx]
 cases ss[j]? with
 | none => rfl
 | some s => dsimp only [Option.map_some]; split <;> rfl
theorem zfc (ss : List KN) (sl : List Nat) (num tick : Int) (n : Nat) : upl (z1u ss sl num tick) n = upl ss n := by
 unfold upl
 refine List.filter_congr fun j _ => ?_
 unfold upAt z1u
 rw [List.getElem?_mapIdx]
 cases ss[j]? with
 | none => rfl
 | some s => dsimp only [Option.map_some]; split; unfold z27; split <;> rfl; rfl
theorem zcz (ss : List KN) (n : Nat) (hd lk : Str) (sh : Bool) (tick : Int) : (upl ss n).filter (fun k => decide (k ∈ sayl ss n hd lk sh tick)) = sayl ss n hd lk sh tick := by
 unfold sayl
 refine List.filter_congr fun j hj => ?_
 rw [Bool.eq_iff_iff, decide_eq_true_eq, List.mem_filter]
 exact ⟨fun h => h.2, fun h => ⟨hj, h⟩⟩
theorem zfd {ss : List KN} {sl : List Nat} {x : Nt} {i : Nat} (h : ∀ s ∈ ss, s.N.length ≤ i) : ∀ s ∈ z1v ss sl x, s.N.length ≤ i + 1 := fun s hs => by
 obtain ⟨j, hj⟩ := List.getElem?_of_mem hs
 unfold z1v at hj
 rw [List.getElem?_mapIdx] at hj
 cases e : ss[j]? with
 | none => rw [e] at hj; cases hj
 | some s0 =>
  rw [e] at hj
  have h0 := h s0 (List.mem_of_getElem? e)
  have := Option.some.inj hj
  dsimp only at this
  by_cases c : j ∈ sl
  ·rw [if_pos c] at this
   rw [← this]
   show (z4m x.h x.l s0.N ++ [x]).length ≤ i + 1
   rw [List.length_append]
   have : (z4m x.h x.l s0.N).length ≤ s0.N.length := List.length_filter_le _ _
   show _ + 1 ≤ _
   omega
  ·rw [if_neg c] at this
   rw [← this]
   omega
theorem zfe {ss : List KN} {js : List Nat} {num tick : Int} {i : Nat} (h : ∀ s ∈ ss, s.N.length ≤ i) : ∀ s ∈ z1u ss js num tick, s.N.length ≤ i := fun s hs => by
 obtain ⟨j, hj⟩ := List.getElem?_of_mem hs
 unfold z1u at hj
 rw [List.getElem?_mapIdx] at hj
 cases e : ss[j]? with
 | none => rw [e] at hj; cases hj
 | some s0 =>
  rw [e] at hj
  have h0 := h s0 (List.mem_of_getElem? e)
  have := Option.some.inj hj
  dsimp only at this
  by_cases c : j ∈ js
  ·rw [if_pos c] at this
   rw [← this]
   unfold z27
   split
   ·exact Nat.le_trans (List.length_filter_le _ _) h0
   ·exact h0
  ·rw [if_neg c] at this
   rw [← this]
   exact h0
theorem atI_last (xs : List V) (v : V) : atI (xs ++ [v]) (-1) = some v := by
 unfold atI ixN
 rw [if_neg (by decide), if_pos (by rw [List.length_append]; show -((xs.length + 1 : Nat) : Int) ≤ -1; omega)]
 have e : ((-1 : Int) + ((xs ++ [v]).length : Int)).toNat = xs.length := by rw [List.length_append]; show ((-1 : Int) + ((xs.length + 1 : Nat) : Int)).toNat = _; omega
 rw [e]
 simp
theorem z55 (ss : List KN) {j n : Nat} {s : KN} (hs : ss[j]? = some s) (hl : ss.length = n) (b : Bool) (i : Nat) : i ∈ upl (ss.set j ⟨b, s.t, s.N⟩) n ↔ (i = j ∧ b = true) ∨ (i ≠ j ∧ i ∈ upl ss n) := by
 have hj : j < ss.length := (List.getElem?_eq_some_iff.mp hs).1
 unfold upl
 rw [List.mem_filter, List.mem_filter, List.mem_range]
 unfold upAt
 by_cases e : i = j
 ·subst e
  rw [List.getElem?_set_self hj]
  constructor
  ·rintro ⟨-, h⟩; exact .inl ⟨rfl, h⟩
  ·rintro (⟨-, h⟩ | ⟨h, -⟩)
   ·exact ⟨by omega, h⟩
   ·exact absurd rfl h
 ·rw [List.getElem?_set_ne (Ne.symm e)]
  constructor
  ·intro h; exact .inr ⟨e, h⟩
  ·rintro (⟨h, -⟩ | ⟨-, h⟩)
   ·exact absurd h e
   ·exact h
theorem zb3 (ss : List KN) (n : Nat) : (upl ss n).Pairwise (· < ·) := List.Pairwise.sublist List.filter_sublist List.pairwise_lt_range
theorem zhe {A B : List Nat} (hA : A.Pairwise (· < ·)) (hB : B.Pairwise (· < ·)) (h : ∀ x, x ∈ A ↔ x ∈ B) : A = B := by
 have nA : A.Nodup := hA.imp fun h => Nat.ne_of_lt h
 have nB : B.Nodup := hB.imp fun h => Nat.ne_of_lt h
 exact List.Perm.eq_of_pairwise (le := fun a b : Nat => a ≤ b) (fun a b _ _ h1 h2 => by omega) (hA.imp fun h => Nat.le_of_lt h) (hB.imp fun h => Nat.le_of_lt h) ((List.perm_ext_iff_of_nodup nA nB).mpr h)
theorem zff (ss : List KN) {j n : Nat} {s : KN} (hs : ss[j]? = some s) (hl : ss.length = n) : (upl ss n).filter (fun k => decide (k ≠ j)) = upl (ss.set j ⟨false, s.t, s.N⟩) n := by
 refine zhe (List.Pairwise.sublist List.filter_sublist (zb3 ss n)) (zb3 _ n) fun x => ?_
 rw [z55 ss hs hl, List.mem_filter, decide_eq_true_eq]
 constructor
 ·rintro ⟨h1, h2⟩; exact .inr ⟨h2, h1⟩
 ·rintro (⟨-, h⟩ | ⟨h1, h2⟩)
  ·cases h
  ·exact ⟨h2, h1⟩
theorem z7h (a : Int) {n : Nat} (h : 1 ≤ n) : 0 ≤ a % (n : Int) ∧ a % (n : Int) < (n : Int) := ⟨Int.emod_nonneg _ (by omega), Int.emod_lt_of_pos _ (by omega)⟩
theorem stC {c : Const} {k : Nat} {p : Pos} {es : List Expr} {env : Env} : starEach (.Constant c k p :: es) env = (false, eval (.Constant c k p) env) :: starEach es env := rfl
def za5 : List Expr → Option (List Int)
 | [] => some []
 | .Constant (.int i) _ _ :: es => (za5 es).map (i :: ·)
 | _ => none
def tIs (is : List Int) : TA := fun _ H Q => Q (is.map V.int) H
theorem zc1 {X : Cx} : ∀ {es : List Expr} {is : List Int}, za5 es = some is → PA X es (tIs is)
 | [], is, h => by
  cases h
  exact z7
 | .Constant (.int i) k p :: es, is, h => by
  unfold za5 at h
  obtain ⟨js, hj, rfl⟩ := Option.map_eq_some_iff.mp h
  exact z0 (te := tC (.int i)) (t := tIs js) z8 (zc1 hj) stC
def zek : Expr → Option (List Int)
 | .List es _ => za5 es
 | _ => none
theorem zgm {X : Cx} {e : Expr} {is : List Int} (h : zek e = some is) : PE X e (tLst (tIs is)) := by
 unfold zek at h
 split at h
 ·exact z22 (zc1 h)
 ·cases h
theorem zfg (is : List Int) (j : Int) (h0 : 0 ≤ j) (h1 : j < (is.length : Int)) : ∃ t : Int, atI (is.map V.int) j = some (.int t) := by
 obtain ⟨n, rfl⟩ := Int.eq_ofNat_of_zero_le h0
 have hn : n < is.length := by omega
 exact ⟨is[n], zf (by rw [List.getElem?_map, List.getElem?_eq_getElem hn]; rfl)⟩
def spLaw (K : PySem.W.Frag) : Sp := fun vs H Q _ => ∃ (a : Addr) (ns : List Int), vs = [.ref a] ∧ SqL K H a (ns.map V.int) ∧ ns.length ≤ 63 ∧ ∀ H', Q (.bl true) H'
theorem zhf (F : Def K mg "law" z6i ["_law_script"]) (T : Txt K mg C_Council C_Down C_InTheWay C_Keeper C_NotFree C_OldNumber C_UnknownKeeper) (G_Council___init__ : KHas P w K mg base 3 C_Council ["self", "many"] (zbr C_Council C_Keeper)) (G_Council_fall : MHas P w K mg base (CX1 P w) 2 C_Council "fall" ["self", "keeper"] (spFR C_Council C_Keeper C_UnknownKeeper false)) (G_Council_rise : MHas P w K mg base (CX1 P w) 2 C_Council "rise" ["self", "keeper"] (spFR C_Council C_Keeper C_UnknownKeeper true)) (G_Council_drop : MHas P w K mg base CX0 3 C_Council "drop" ["self", "number", "tick"] (zbw C_Council C_Keeper)) (G__law_same : Has P w K mg base 2 "_law_same" ["_law_found", "_law_due"] (z8v)) (G__law_setup : Has P w K mg base 3 "_law_setup" ["_law_script"] (zbu K)) (G__law_asked : Has P w K mg base 1 "_law_asked" ["_law_rest", "_law_k", "_law_setup_here"] (zbv)) (G__law_given : Has P w K mg base 8 "_law_given" ["_law_council", "_law_asking", "_law_tick"] (zbx C_Council C_Keeper)) (G__law_clear : Has P w K mg base 3 "_law_clear" ["_law_grants_made", "_law_asking", "_law_tick", "_law_dropped"] (zby)) (G__law_right : Has P w K mg base 3 "_law_right" ["_law_found", "_law_ups", "_law_keepers", "_law_top"] (zbz)) : Has P w K mg base 9 "law" ["_law_script"] (spLaw K) := by
 refine F.ok sc_law (fun vs H Q E h => ?_) (fun f cdv A outer s H vs Q E hr h => ?_)
 ·obtain ⟨a, ns, rfl, _⟩ := h
  rfl
 ·obtain ⟨a, ns, rfl, ha, hns, q⟩ := h
  have hu := hr.units0
  have hu2 := zcd hr
  refine ⟨_, (@za _ _ _ _ _ (zm (i := 1) sc_law.nd rfl (Or.inr rfl) (z15 G__law_setup (hr.mono (by decide)) rfl (z0 (pv 0) z7)))
   (@za _ _ _ _ _ (zm (i := 2) sc_law.nd rfl (Or.inl rfl) (zge G_Council___init__ (hr.mono (by decide)) rfl T.g_Council (z0 (zj ix_tup (pv 1) z8 (fun _ _ => rfl)) z7)))
   (@za _ _ _ _ _ (z3w (x := "_law_k") (cap := []) (js := []) (i := 3) rfl ⟨rfl, by decide +kernel, by decide +kernel, rfl, zy rfl, by decide +kernel, trivial⟩ sc_law.nd rfl (Or.inl rfl) (z1z rfl T.b_range (z0 (zj ix_tup (pv 1) z8 (fun _ _ => rfl)) z7)) (fun _ _ _ _ => z2r) (fun _ _ _ _ => (zg zz (pv 0) z8)))
   (@za _ _ _ _ _ (zm (i := 4) sc_law.nd rfl (Or.inl rfl) (z22 z7))
   (@za _ _ _ _ _ (zm (i := 5) sc_law.nd rfl (Or.inl rfl) (z22 z7))
   (@za _ _ _ _ _ (zm (i := 6) sc_law.nd rfl (Or.inl rfl) z8)
   (@za _ _ _ _ _ (zm (i := 7) sc_law.nd rfl (Or.inl rfl) z8)
   (@za _ _ _ _ _ (@z44 _ _ _ _ _ _ _ _ PassesOwn.never rfl (zd3 rfl T.b_range (z0 z8 (z0 (zd zr rfl T.b_len (by decide +kernel) (z0 (pv 0) z7)) z7))) (z1s (i := 8) sc_law.nd rfl (Or.inr rfl)) (@za _ _ _ _ _ (@zm _ _ 9 _ _ _ _ sc_law.nd rfl (Or.inl rfl) (@zj _ _ _ _ _ _ _ ix_list (@zgm _ _ [0, 0, 3, 0, 1, 0, 2, 0, 3, 0, 2, 0, 4, 0, 2, 0] (by kernel_rfl)) (zg z10 (zj ix_list (pv 0) (pv 8) (fun _ _ => rfl)) z8) (fun _ _ => rfl)) rfl (Or.inr rfl))
   (za (zm (i := 10) sc_law.nd rfl (Or.inr rfl) (zg z17 (zj ix_list (pv 0) (pv 8) (fun _ _ => rfl)) z8))
   (z2a (zt (zo z1b (pv 9) z8 (zk _)) (za (zm (i := 11) sc_law.nd rfl (Or.inr rfl) (z15 G__law_asked (hr.mono (by decide)) rfl (z0 (pv 10) (z0 (pv 8) (z0 (pv 1) z7)))))
   (za (zm (i := 12) sc_law.nd rfl (Or.inl rfl) (z1q (z0 (pv 6) (z0 (zj ix_tup (pv 11) z8 (fun _ _ => rfl)) (z0 (zj ix_tup (pv 11) z8 (fun _ _ => rfl)) (z0 (zj ix_tup (pv 11) z8 (fun _ _ => rfl)) (z0 (zj ix_tup (pv 11) z8 (fun _ _ => rfl)) z7)))))))
   (za (zm (i := 13) sc_law.nd rfl (Or.inl rfl) (z15 G__law_given (hr.mono (by decide)) rfl (z0 (pv 2) (z0 (pv 12) (z0 (pv 6) z7)))))
   (zc (zt (z16 (z15 G__law_same (hr.mono (by decide)) rfl (z0 (pv 13) (z0 (z1q (z0 z1o z7)) z7)))) (zc (zt (PW.pt (z5q (zo zfr (zg z4w z8 (zd zr rfl T.b_len (by decide +kernel) (z0 (pv 3) z7))) (zj ix_tup (pv 1) z8 (fun _ _ => rfl)) (zk _)) (z6c (z16 (z15 G__law_clear (hr.mono (by decide)) rfl (z0 (pv 4) (z0 (pv 12) (z0 (pv 6) (z0 (z22 z7) z7))))))))) (zc (zl z1m)) zp)) (za (zt (PW.pt (z3f (z34 (z16 (z15 G__law_right (hr.mono (by decide)) rfl (z0 (pv 13) (z0 (pv 3) (z0 (zj ix_tup (pv 1) z8 (fun _ _ => rfl)) (z0 (pv 7) z7))))))) (z3l (z34 (z16 (z15 G__law_clear (hr.mono (by decide)) rfl (z0 (pv 4) (z0 (pv 12) (z0 (pv 6) (z0 (pv 5) z7)))))))))) (zc (zl z1m)) zp)
   (za (zm (i := 7) sc_law.nd rfl (Or.inl rfl) (zj ix_tup (pv 13) z8 (fun _ _ => rfl)))
   (za (zm (i := 5) sc_law.nd rfl (Or.inl rfl) (zg zad (pv 5) (z1y (x := "_law_one") (cap := ["_law_event"]) (js := [11]) rfl ⟨rfl, by decide +kernel, by decide +kernel, rfl, zy rfl, by decide +kernel, ⟨⟨rfl, Or.inl rfl, rfl⟩, trivial⟩⟩ (z1k (pv 4)) (fun _ _ _ _ => (z2f (zo (zex (K := K) hu) (z1q (z0 (zj (z1a (K := K)) (pv 0) z8 (fun _ _ => rfl)) (z0 (zj (z1a (K := K)) (pv 0) z8 (fun _ _ => rfl)) z7))) (z1q (z0 (zj (z1a (K := K)) (pv 1) z8 (fun _ _ => rfl)) (z0 (zj (z1a (K := K)) (pv 1) z8 (fun _ _ => rfl)) z7))) (zk _)))) (fun _ _ _ _ => (zj (z1a (K := K)) (pv 0) z8 (fun _ _ => rfl))))))
   (zc (z28 (z3g PySem.F.plainAttrs_list PySem.F.slot_list_append PySem.F.type_list_append z3m (pv 4) (z0 (z1q (z0 (pv 7) (z0 (zj ix_tup (pv 11) z8 (fun _ _ => rfl)) (z0 (zj ix_tup (pv 11) z8 (fun _ _ => rfl)) (z0 (zj ix_tup (pv 11) z8 (fun _ _ => rfl)) (z0 (zg zz (pv 6) (zj ix_tup (pv 11) z8 (fun _ _ => rfl))) z7)))))) z7)))))))))))) zp)
   (z2a (zt (PW.pt (z5q (zo z1b (pv 9) z8 (zk _)) (z6c (zo (zew hu) (pv 4) (z22 z7) (zk _))))) (za (z28 (z3g PySem.F.plainAttrs_list PySem.F.slot_list_append PySem.F.type_list_append z3m (pv 5) (z0 (zj ix_tup (zj ix_list (pv 4) (zg z10 (zg zz (pv 10) (pv 8)) (zd zr rfl T.b_len (by decide +kernel) (z0 (pv 4) z7))) (fun _ _ => rfl)) z8 (fun _ _ => rfl)) z7)))
   (zc (z28 (z2b G_Council_drop T.cl_Council (hr.mono (by decide)) (pv 2) (z0 (zj ix_list (pv 5) (zfq zd6 z8) (fun _ _ => rfl)) (z0 (pv 6) z7)))))) zp)
   (z2a (zt (zo z1b (pv 9) z8 (zk _)) (za (z28 (z2b (MHas.never G_Council_fall) T.cl_Council (hr.mono (by decide)) (pv 2) (z0 (zg zz z8 (zg z10 (zg zz (pv 10) (pv 8)) (zj ix_tup (pv 1) z8 (fun _ _ => rfl)))) z7)))
   (zc (z3w (x := "_law_one") (cap := ["_law_rest", "_law_k", "_law_setup_here"]) (js := [10, 8, 1]) (i := 3) rfl ⟨rfl, by decide +kernel, by decide +kernel, rfl, zy rfl, by decide +kernel, ⟨⟨rfl, Or.inl rfl, rfl⟩, ⟨⟨rfl, Or.inl rfl, rfl⟩, ⟨⟨rfl, Or.inl rfl, rfl⟩, trivial⟩⟩⟩⟩ sc_law.nd rfl (Or.inl rfl) (z1k (pv 3)) (fun _ _ _ _ => (z2f (zo z20 (pv 0) (zg zz z8 (zg z10 (zg zz (pv 1) (pv 2)) (zj (z1a (K := K)) (pv 3) z8 (fun _ _ => rfl)))) (zk _)))) (fun _ _ _ _ => (pv 0))))) zp)
   (z2a (zt (zo z1b (pv 9) z8 (zk _)) (za (z28 (z2b (MHas.never G_Council_rise) T.cl_Council (hr.mono (by decide)) (pv 2) (z0 (zg zz z8 (zg z10 (zg zz (pv 10) (pv 8)) (zj ix_tup (pv 1) z8 (fun _ _ => rfl)))) z7)))
   (zc (zm (i := 3) sc_law.nd rfl (Or.inl rfl) (zd (z9q rfl) rfl T.b_sorted (by decide +kernel) (z0 (z94 (ze1 rfl) rfl T.b_set (by decide +kernel) (z0 (zg zad (pv 3) (z22 (z0 (zg zz z8 (zg z10 (zg zz (pv 10) (pv 8)) (zj ix_tup (pv 1) z8 (fun _ _ => rfl)))) z7))) z7)) z7))))) zp)
   (zc (zt (zo z1b (pv 9) z8 (zk _)) (zc (zm (i := 6) sc_law.nd rfl (Or.inl rfl) (zg zz (zg zz (pv 6) z8) (zg z10 (pv 10) z8)))) zp)))))))) (by intro _; rfl))
   (zc (zl z1m)))))))))), ?_⟩
  walk_at "rd"
  refine ⟨a, ns, rfl, ha, hns, fun ps u H1 hS hok s1 => ?_⟩
  have n5 := hok.n5
  have n1 := hok.n1
  refine ⟨_, _, _, _, rfl, rfl, SqT.of hS.tu, zf (j := 0) rfl, fun c dx hc0 hdx ndx => ?_⟩
  refine ⟨c, dx, u.n, rfl, by omega, z9, fun l ks ls H3 hkl hca hb hk0 hl0 hll0 => ⟨rfl, ?_⟩⟩
  have s13 : Same H1 H3 := fun b o e => hb b o (by rw [zb (zh e hc0), zb (zh e hdx)]; exact e) (zh e hc0)
  have hS3 := hS.mono s13
  refine ⟨_, _, _, _, rfl, rfl, SqT.of hS3.tu, zf (j := 0) rfl, _, rfl, ⟨by omega, by omega⟩, ?_⟩
  rw [Int.toNat_natCast]
  refine z2l (ze (by omega)) (fun i acc H' => H' = H3 ∧ acc = zx (List.range i)) ⟨rfl, rfl⟩ ?_ ?_ ?_
  ·rintro i acc H' ⟨-, rfl⟩
   rw [z1h, List.length_range]
   exact Nat.le_refl _
  ·rintro Nn i acc H' hN hi ⟨rfl, rfl⟩
   walk_at "rd"
   simp only [Int.zero_add]
   refine hN _ _ ⟨rfl, ?_⟩
   rw [List.range_succ]
   simp [zx]
  rintro acc H' ⟨rfl, rfl⟩ pu hpu
  have eup : List.range u.n = upl (z25 u.n) u.n := by
   unfold upl
   symm
   rw [List.filter_eq_self]
   intro j hj
   unfold upAt z25
   rw [List.getElem?_replicate, if_pos (List.mem_range.mp hj)]
  rw [eup]
  have sA := Same.upd (o := .lst (zx (upl (z25 u.n) u.n))) hpu
  have gA : upd H' pu (.lst (zx (upl (z25 u.n) u.n))) pu = some (.lst (zx (upl (z25 u.n) u.n))) := z9
  generalize upd H' pu (.lst (zx (upl (z25 u.n) u.n))) = H4 at sA gA ⊢
  refine ⟨Nat.zero_le _, fun pm hpm => ⟨Nat.zero_le _, fun pg hpg => ?_⟩⟩
  have npg : pg ≠ pm := fun z => by rw [z, z9] at hpg; cases hpg
  have hpg4 : H4 pg = none := by rwa [zb npg] at hpg
  have sB := (Same.upd (o := .lst []) hpm).trans (Same.upd (o := .lst []) hpg)
  have gg : upd (upd H4 pm (.lst [])) pg (.lst []) pg = some (.lst ((([] : List Int)).map V.int)) := z9
  have gm : upd (upd H4 pm (.lst [])) pg (.lst []) pm = some (.lst (refs [])) := by rw [zb npg.symm]; exact z9
  generalize upd (upd H4 pm (.lst [])) pg (.lst []) = H6 at sB gg gm ⊢
  have ne4 : ∀ x o, H4 x = some o → pm ≠ x ∧ pg ≠ x := fun x o e => ⟨(fun z => by rw [← z, hpm] at e; cases e), fun z => by rw [← z, hpg4] at e; cases e⟩
  have hS4 := hS3.mono sA
  have hc4 := hca.mono sA
  have s46 : Same H H4 := s1.trans (s13.trans sA)
  have W6 : W12 K C_Council C_Keeper H6 a (ns.map V.int) ps u c l ks ls (z25 u.n) pu pm pg [] [] (upl (z25 u.n) u.n) := by
   refine ⟨hc4.mono sB, hS4.mono sB, ?_, sB _ _ gA, gm, (fun q hq => by cases hq), gg, npg.symm, fun p hp => ?_⟩
   ·rcases ha with (z | ⟨o, z⟩) | z
    ·have z4 := s46 _ _ z
     have z6 := sB _ _ z4
     exact .inr ⟨fun H2 e => .inl (.inl (by rw [e]; exact z6)), ⟨_, z6, fun _ _ _ y => by cases y⟩, (ne4 _ _ z4).1.symm, (ne4 _ _ z4).2.symm⟩
    ·have z4 := s46 _ _ z
     have z6 := sB _ _ z4
     exact .inr ⟨fun H2 e => .inl (.inr ⟨o, by rw [e]; exact z6⟩), ⟨_, z6, fun _ _ _ y => by cases y⟩, (ne4 _ _ z4).1.symm, (ne4 _ _ z4).2.symm⟩
    ·exact .inl fun H' => .inr z
   ·have ne : ∀ x o, H4 x = some o → p ≠ x := fun x o e => by rcases hp with rfl | rfl; exact (ne4 x o e).1; exact (ne4 x o e).2
    refine ⟨ne _ _ hc4.li, fun z => ?_, fun z => ?_, ne _ _ gA⟩
    ·obtain ⟨ys, e⟩ := hc4.lsome z
     exact ne _ _ e rfl
    ·simp only [suL, List.mem_cons, List.not_mem_nil, or_false] at z
     rcases z with z | z | z | z
     ·exact ne _ _ hS4.gh z
     ·exact ne _ _ hS4.gl z
     ·exact ne _ _ hS4.gc z
     ·exact ne _ _ hS4.gt z
  have I6 : Inv12 (z25 u.n) u.n (List.map (·.2) ([] : NL)) [] 0 := by
   have hs : ∀ s ∈ z25 u.n, s = ⟨true, 0, []⟩ := fun s hs => List.eq_of_mem_replicate hs
   exact ⟨by unfold z25; rw [List.length_replicate], fun s ms => by rw [hs s ms]; exact ⟨Int.le_refl _, Int.le_refl _⟩, .inl rfl, (fun s ms x hx => by rw [hs s ms] at hx; cases hx), fun g hg => by cases hg⟩
  refine ⟨_, .inl W6.sq, _, _, ⟨rfl, rfl⟩, ⟨by decide, by decide, by rw [List.length_map]; omega, by rw [List.length_map]; omega⟩, ?_⟩
  rw [List.length_map]
  refine z4n (fun i σ H' => Lq K C_Council C_Keeper a (ns.map V.int) ps u c l ks i (100 * i) (fun _ _ _ => True) σ H') ⟨ls, _, pu, pm, pg, [], [], 0, 0, none, none, none, none, none, none, rfl, W6, I6, (fun q hq => by cases hq), Nat.le_refl _, fun s hs => by rw [List.eq_of_mem_replicate hs]; exact Nat.le_refl _, Nat.le_refl _, trivial⟩ ?_ ?_
  rotate_left
  ·rintro σ H' ⟨ls', ss', pu', pm', pg', L, ds, tick, top, v8, v9, v10, v11, v12, v13, rfl, -⟩
   walk_at "rd"
   exact q _
  rintro Pv hP i σ H' hi ⟨ls', ss, pu', pm', pg', L, ds, tick, top, v8, v9, v10, v11, v12, v13, rfl, W, I, lL, bL, bN, bD, -⟩
  have hi63 : 5 + i < ns.length := by omega
  have gc : (ns.map V.int)[5 + i]? = some (.int ns[5 + i]) := by rw [List.getElem?_map, List.getElem?_eq_getElem hi63]; rfl
  generalize ns[5 + i] = cell at gc
  have e5 : (5 : Int) + (i : Int) = ((5 + i : Nat) : Int) := by omega
  walk_at "rd"
  simp only [e5, tIs]
  refine ⟨ze (by decide), fun pk hpk => ?_⟩
  have sK := Same.upd (o := .lst ([0, 0, 3, 0, 1, 0, 2, 0, 3, 0, 2, 0, 4, 0, 2, 0].map V.int)) hpk
  have gK : upd H' pk (.lst ([0, 0, 3, 0, 1, 0, 2, 0, 3, 0, 2, 0, 4, 0, 2, 0].map V.int)) pk = some (.lst ([0, 0, 3, 0, 1, 0, 2, 0, 3, 0, 2, 0, 4, 0, 2, 0].map V.int)) := z9
  obtain ⟨kind, hkd⟩ := zfg [0, 0, 3, 0, 1, 0, 2, 0, 3, 0, 2, 0, 4, 0, 2, 0] (cell % 16) (Int.emod_nonneg _ (by decide)) (by have := Int.emod_lt_of_pos cell (show (0 : Int) < 16 by decide); show cell % 16 < ((16 : Nat) : Int); omega)
  generalize upd H' pk (.lst ([0, 0, 3, 0, 1, 0, 2, 0, 3, 0, 2, 0, 4, 0, 2, 0].map V.int)) = Hk at sK gK ⊢
  replace W := W.mono sK
  refine ⟨_, _, _, _, rfl, rfl, W.sq, zf gc, _, rfl, by decide, _, _, _, _, rfl, rfl, SqL.of gK, hkd, _, _, _, _, rfl, rfl, W.sq, zf gc, _, rfl, cdiv (by decide) (by decide), ?_⟩
  generalize cell / 16 = rest
  have i58 : i ≤ 57 := by omega
  have nx : ∀ (bL' bD' : Nat) (σ : List (Option V)) (H : Hp), Lq K C_Council C_Keeper a (ns.map V.int) ps u c l ks bL' bD' (fun v8 v9 v10 => v8 = some (V.int ((5 + i : Nat) : Int)) ∧ v9 = some (V.int kind) ∧ v10 = some (V.int rest)) σ H → bL' ≤ i + 1 → bD' ≤ 100 * (i + 1) → Pv (i + 1) σ H := fun bL' bD' σ H ⟨ls, ss, pu, pm, pg, L, ds, tick, top, v8, v9, v10, v11, v12, v13, e, W, I, lL, bL, bN, bD, _⟩ h1 h2 =>
   hP _ _ _ ⟨ls, ss, pu, pm, pg, L, ds, tick, top, v8, v9, v10, v11, v12, v13, e, W, I, lL, by omega, fun s hs => by have := bN s hs; omega, by omega, trivial⟩
  refine ⟨Lq K C_Council C_Keeper a (ns.map V.int) ps u c l ks (i + 1) (100 * i + 60) (fun v8 v9 v10 => v8 = some (V.int ((5 + i : Nat) : Int)) ∧ v9 = some (V.int kind) ∧ v10 = some (V.int rest)), ?_, ?_⟩
  ·walk_at "rd"
   by_cases c0 : kind = 0
   rotate_left
   ·rw [if_neg (by simpa using c0)]
    exact ⟨ls', ss, pu', pm', pg', L, ds, tick, top, _, _, _, _, _, _, rfl, W, I, lL, by omega, fun s hs => by have := bN s hs; omega, by omega, rfl, rfl, rfl⟩
   rw [if_pos (decide_eq_true c0)]
   refine ⟨_, _, _, u, rfl, W.su, hok, fun r6 hd lk sh tm H6 mhd mlk tm1 tm2 g6 s6 => ?_⟩
   have lkl := hok.ll lk mlk
   have hdl := hok.hl hd mhd
   have i6 := SqT.of (K := K) g6
   refine ⟨_, _, _, _, rfl, rfl, i6, zf (j := 1) rfl, _, _, _, _, rfl, rfl, i6, zf (j := 2) rfl, _, _, _, _, rfl, rfl, i6, zf (j := 3) rfl, _, _, _, _, rfl, rfl, i6, zf (j := 4) rfl, ze (by decide), fun pa hpa => ?_⟩
   have s7 := Same.upd (o := .tup [V.int tick, V.str hd, V.str lk, V.bl sh, V.int tm]) hpa
   have g7 : upd H6 pa (.tup [V.int tick, V.str hd, V.str lk, V.bl sh, V.int tm]) pa = some (.tup [V.int tick, V.str hd, V.str lk, V.bl sh, V.int tm]) := z9
   generalize upd H6 pa (.tup [V.int tick, V.str hd, V.str lk, V.bl sh, V.int tm]) = H7 at s7 g7 ⊢
   have g67 := s7 _ _ g6
   have W7 := W.mono (s6.trans s7)
   refine ⟨c, pa, l, ks, ls', ss, tick, hd, lk, sh, tick, tm, rfl, g7, W7.ca, fun s hs => by have := bN s hs; omega, by omega, by omega, fun hlt r8 H8 g8 s8 => ?_, fun hnl m hT r8 p8 ls8 H8 lo8 hc8 g8 gp8 hr8 hp8 bk8 => ?_⟩
   ·rw [hkl] at hlt
    refine ⟨ze (by decide), fun p9 hp9 => ?_⟩
    have s9 := Same.upd (o := .tup [V.str "refused"]) hp9
    refine .inl ⟨_, _, rfl, zhd (.inr ⟨s9 _ _ g8, z9⟩) (fun v hv => by rw [List.mem_singleton.mp hv]; exact .inr (.inl ⟨_, rfl⟩)) (by decide), fun Ha sa => ⟨true, rfl, ?_⟩⟩
    rw [if_pos rfl]
    have s7a := s8.trans (s9.trans sa)
    have Wa := W7.mono s7a
    refine ⟨_, .inl (SqL.of Wa.gu), .inl ⟨by decide, by decide⟩, _, _, _, _, rfl, rfl, SqT.of Wa.su.tu, zf (j := 0) rfl, _, rfl, ?_⟩
    rw [z1h]
    by_cases c1 : (u.n : Int) < 2 * ((upl ss u.n).length : Int)
    ·rw [if_pos (decide_eq_true c1)]
     refine ⟨Nat.zero_le _, fun pe hpe => ?_⟩
     have sE := Same.upd (o := .lst []) hpe
     have We := Wa.mono sE
     refine ⟨pm', pa, pe, L, tick, hd, lk, sh, tm, tick, [], rfl, We.gm, We.tl, lL, sE _ _ (s7a _ _ g7), by omega, z9, fun Hf sf => ⟨_, rfl, ?_⟩⟩
     have rf := I.refused hlt (by omega)
     rw [List.any_map] at rf
     have rf2 : (L.any fun q => z1f hd lk sh tick [] q.2) = true := rf
     rw [rf2, if_neg (by decide)]
     exact ⟨ls', ss, pu', pm', pg', L, ds, tick, top, _, _, _, _, _, _, rfl, We.mono sf, I, lL, by omega, fun s hs => by have := bN s hs; omega, by omega, rfl, rfl, rfl⟩
    ·rw [if_neg (by simpa using c1)]
     exact ⟨ls', ss, pu', pm', pg', L, ds, tick, top, _, _, _, _, _, _, rfl, Wa, I, lL, by omega, fun s hs => by have := bN s hs; omega, by omega, rfl, rfl, rfl⟩
   ·rw [hkl] at hnl hc8 gp8
    have W8 := W7.but bk8 hc8 lo8
    refine ⟨ze (by decide), fun p9 hp9 => ?_⟩
    have s9 := Same.upd (o := .tup [V.str "refused"]) hp9
    refine .inr ⟨r8, p9, _, _, rfl, s9 _ _ g8, z9, by simp, fun Ha sa => ⟨false, rfl, ?_⟩⟩
    rw [if_neg Bool.false_ne_true]
    have s8a := s9.trans sa
    have Wa := W8.mono s8a
    have ga8 := s8a _ _ g8
    have nt7 : ∀ x ys, H7 x = some (.tup ys) → H8 x = some (.tup ys) := fun x ys e => bk8 x _ e fun z => by obtain ⟨dx, fs, y⟩ := W7.ca.mem z; rw [e] at y; cases y
    refine ⟨_, _, _, _, rfl, rfl, SqT.of Wa.su.tu, zf (j := 0) rfl, ?_⟩
    have lus := z42 ss u.n
    have ljs := zas ss u.n hd lk sh tick
    refine ⟨r8, p8, pu', 1 + m, top, _, _, u.n, rfl, ga8, s8a _ _ gp8, Wa.gu, I.rises hnl hT, by omega, zcz ss u.n hd lk sh tick, by omega, by omega, fun Hb sb => ⟨true, rfl, ?_⟩⟩
    rw [if_neg (by decide)]
    have Wb := Wa.mono sb
    refine ⟨pm', pa, pg', L, tick, hd, lk, sh, tm, tick, ds, rfl, Wb.gm, Wb.tl, lL, sb _ _ (s8a _ _ (nt7 _ _ g7)), by omega, Wb.gg, fun Hc sc => ⟨_, rfl, ?_⟩⟩
    have cl := I.clear hnl
    rw [List.any_map] at cl
    have cl2 : (L.any fun q => z1f hd lk sh tick ds q.2) = false := cl
    rw [cl2, if_neg (by decide)]
    have Wc := Wb.mono sc
    have s8c := s8a.trans (sb.trans sc)
    refine ⟨_, _, _, _, rfl, rfl, SqT.of (s8c _ _ g8), zf (j := 0) rfl, ⟨_, SqL.of Wc.gm⟩, ?_⟩
    have gr6c : ∀ Hx, Same Hc Hx → SqT K Hx r6 [.str "ask", .str hd, .str lk, .bl sh, .int tm] := fun Hx sx => SqT.of (sx _ _ (s8c _ _ (nt7 _ _ g67)))
    refine z1n (xs := refs L) (by rw [z12]; exact ze (by omega)) (fun j acc Hx => acc = ((L.take j).filter fun q => decide (q.2.h = hd) && decide (q.2.l = lk)).map (fun q => V.int q.2.n) ∧ Same Hc Hx) ⟨rfl, Same.refl _⟩ ?_ ?_ ?_ ?_
    ·rintro j acc Hx ⟨rfl, -⟩
     rw [List.length_map]
     exact Nat.le_trans (List.length_filter_le _ _) (by rw [List.length_take]; omega)
    ·rintro j acc Hx ⟨-, sx⟩
     exact SqL.of (sx _ _ Wc.gm)
    ·rintro Nn j acc Hx x hN hx hj ⟨rfl, sx⟩
     obtain ⟨y, hy, rfl⟩ := z2p hx
     have ty := sx _ _ (Wc.tl y (List.mem_of_getElem? hy))
     have stp := z1w (fun q : Addr × Nt => decide (q.2.h = hd) && decide (q.2.l = lk)) hy
     walk_at "rd"
     refine ⟨_, _, _, _, rfl, rfl, SqT.of ty, zf (j := 1) rfl, _, _, _, _, rfl, rfl, SqT.of ty, zf (j := 2) rfl, ze (by decide), fun p1 hp1 => ?_⟩
     have sp1 := Same.upd (o := .tup [V.str y.2.h, V.str y.2.l]) hp1
     refine ⟨_, _, _, _, rfl, rfl, gr6c _ (sx.trans sp1), zf (j := 1) rfl, _, _, _, _, rfl, rfl, gr6c _ (sx.trans sp1), zf (j := 2) rfl, ze (by decide), fun p2 hp2 => ?_⟩
     have np : p1 ≠ p2 := zh z9 hp2
     refine ⟨_, _, _, _, rfl, rfl, SqT.of (by rw [zb np, z9]), SqT.of z9, rfl, rfl, ?_⟩
     have sp2 := sp1.trans (Same.upd (o := .tup [V.str hd, V.str lk]) hp2)
     have ev : eqVs [V.str y.2.h, V.str y.2.l] [V.str hd, V.str lk] = (decide (y.2.h = hd) && decide (y.2.l = lk)) := by
      have := z47 [y.2.h, y.2.l] [hd, lk]
      simp only [List.map_cons, List.map_nil] at this
      rw [this]
      simp [Bool.decide_and]
     simp only [ev, Bool.false_eq_true, if_false]
     cases hcc : (decide (y.2.h = hd) && decide (y.2.l = lk)) with
     | true =>
      refine ⟨_, rfl, ?_⟩
      rw [if_pos rfl]
      refine ⟨_, _, _, _, rfl, rfl, SqT.of (sp2 _ _ ty), zf (j := 0) rfl, hN _ _ ⟨?_, sx.trans sp2⟩⟩
      rw [stp, hcc]
      simp
     | false =>
      refine ⟨_, rfl, ?_⟩
      rw [if_neg Bool.false_ne_true]
      refine hN _ _ ⟨?_, sx.trans sp2⟩
      rw [stp, hcc]
      simp
    ·rintro acc Hx ⟨rfl, sx⟩ pl hpl
     rw [z12, List.take_length]
     have eD : ((L.filter fun q => decide (q.2.h = hd) && decide (q.2.l = lk)).map fun q => V.int q.2.n) = (((L.map (·.2)).filter fun g => decide (g.h = hd) && decide (g.l = lk)).map (·.n)).map V.int := by
      rw [List.filter_map, List.map_map, List.map_map]
      rfl
     rw [eD]
     have lD : (((L.map (·.2)).filter fun g => decide (g.h = hd) && decide (g.l = lk)).map (·.n)).length ≤ i := by
      rw [List.length_map]
      exact Nat.le_trans (List.length_filter_le _ _) (by rw [List.length_map]; exact bL)
     have Ig := I.give (e := tick + tm) hnl hT
     generalize (((L.map (·.2)).filter fun g => decide (g.h = hd) && decide (g.l = lk)).map (·.n)) = ds' at lD Ig ⊢
     have sy := Same.upd (o := .lst (ds'.map V.int)) hpl
     refine ⟨_, _, _, _, rfl, rfl, (sx.trans sy) _ _ Wc.gg, z9, ze (by rw [List.length_map, List.length_map]; omega), fun pq hpq => ?_⟩
     rw [← List.map_append]
     have sq := sx.trans (sy.trans (Same.upd (o := .lst ((ds ++ ds').map V.int)) hpq))
     have gq : upd (upd Hx pl (.lst (ds'.map V.int))) pq (.lst ((ds ++ ds').map V.int)) pq = some (.lst ((ds ++ ds').map V.int)) := z9
     have fq : Hc pq = none := z1g (sx.trans sy) hpq
     generalize upd (upd Hx pl (.lst (ds'.map V.int))) pq (.lst ((ds ++ ds').map V.int)) = Hq at sq gq ⊢
     have Wq := Wc.newG sq fq gq
     have i6q := gr6c _ sq
     refine ⟨.inl ⟨_, SqL.of Wq.gm⟩, _, _, _, _, rfl, rfl, i6q, zf (j := 1) rfl, _, _, _, _, rfl, rfl, i6q, zf (j := 2) rfl, _, _, _, _, rfl, rfl, i6q, zf (j := 3) rfl, _, _, _, _, rfl, rfl, i6q, zf (j := 4) rfl, _, rfl, ze (by decide), fun pt hpt => ?_⟩
     have st := Same.upd (o := .tup [V.int (1 + m), V.str hd, V.str lk, V.bl sh, V.int (tick + tm)]) hpt
     have gt : upd Hq pt (.tup [V.int (1 + m), V.str hd, V.str lk, V.bl sh, V.int (tick + tm)]) pt = some (.tup (Nt.vals ⟨1 + m, hd, lk, sh, tick + tm⟩)) := z9
     generalize upd Hq pt (.tup [V.int (1 + m), V.str hd, V.str lk, V.bl sh, V.int (tick + tm)]) = Ht at st gt ⊢
     have Wt := Wq.mono st
     refine ⟨_, _, _, rfl, rfl, Wt.gm, z4k (by rw [z12]; omega), ?_⟩
     have Wz := Wt.put (.inl rfl) (ys := refs L ++ [V.ref pt]) (L ++ [(pt, ⟨1 + m, hd, lk, sh, tick + tm⟩)]) (ds ++ ds') (by rw [z9]; simp [refs]) (by rw [zb Wt.mg.symm]; exact Wt.gg) (fun z hz => by
      rcases List.mem_append.mp hz with y | y
      ·exact Wt.tl z y
      ·rw [List.mem_singleton.mp y]; exact gt)
     refine ⟨ls8, _, pu', pm', pq, _, ds ++ ds', tick, 1 + m, _, _, _, _, _, _, rfl, (zfb ss _ _ u.n).symm ▸ Wz, by rw [List.map_append]; exact Ig, fun z hz => ?_, by rw [List.length_append]; show _ + 1 ≤ _; omega, zfd bN, by rw [List.length_append]; omega, rfl, rfl, rfl⟩
     rcases List.mem_append.mp hz with y | y
     ·exact lL z y
     ·rw [List.mem_singleton.mp y]; show lk.length ≤ 1000; omega
  rintro σ2 H2 ⟨ls2, ss2, pu2, pm2, pg2, L2, ds2, tick2, top2, v8, v9, v10, v11, v12, v13, rfl, W2, I2, lL2, bL2, bN2, bD2, rfl, rfl, rfl⟩
  refine ⟨Lq K C_Council C_Keeper a (ns.map V.int) ps u c l ks (i + 1) (100 * i + 61) (fun v8 v9 v10 => v8 = some (V.int ((5 + i : Nat) : Int)) ∧ v9 = some (V.int kind) ∧ v10 = some (V.int rest)), ?_, ?_⟩
  ·walk_at "rd"
   have sec : ∀ (H9 : Hp), W12 K C_Council C_Keeper H9 a (ns.map V.int) ps u c l ks ls2 ss2 pu2 pm2 pg2 L2 ds2 (upl ss2 u.n) → Lq K C_Council C_Keeper a (ns.map V.int) ps u c l ks (i + 1) (100 * i + 61) (fun v8 v9 v10 => v8 = some (V.int ((5 + i : Nat) : Int)) ∧ v9 = some (V.int kind) ∧ v10 = some (V.int rest)) [some (V.ref a), some (V.ref ps), some (V.ref c), some (V.ref pu2), some (V.ref pm2), some (V.ref pg2), some (V.int tick2), some (V.int top2), some (V.int ((5 + i : Nat) : Int)), some (V.int kind), some (V.int rest), v11, v12, v13] H9 := fun H9 W9 => ⟨ls2, ss2, pu2, pm2, pg2, L2, ds2, tick2, top2, _, _, _, _, _, _, rfl, W9, I2, lL2, bL2, bN2, by omega, rfl, rfl, rfl⟩
   by_cases c1 : kind = 1
   rotate_left
   ·rw [if_neg (by simpa using c1)]
    exact sec _ W2
   rw [if_pos (decide_eq_true c1)]
   refine ⟨Nat.zero_le _, fun pe hpe => ?_⟩
   have We := W2.mono (Same.upd (o := .lst []) hpe)
   have gE : upd H2 pe (.lst []) pe = some (.lst []) := z9
   generalize upd H2 pe (.lst []) = He at We gE ⊢
   refine ⟨_, SqL.of We.gm, SqL.of gE, ?_⟩
   by_cases cE : L2.length = 0
   ·have : L2 = [] := List.length_eq_zero_iff.mp cE
    rw [if_neg (by rw [this]; decide)]
    exact sec _ We
   rw [if_pos (by cases L2 with | nil => exact absurd rfl cE | cons x L => rfl)]
   refine ⟨.inl ⟨_, SqL.of We.gg⟩, _, .inl (SqL.of We.gm), by rw [z12]; omega, ?_⟩
   rw [z12]
   have sz := z7h (rest + ((5 + i : Nat) : Int)) (n := L2.length) (by omega)
   obtain ⟨j, ej, hj⟩ : ∃ j : Nat, (rest + ((5 + i : Nat) : Int)) % (L2.length : Int) = (j : Int) ∧ j < L2.length := ⟨((rest + ((5 + i : Nat) : Int)) % (L2.length : Int)).toNat, by rw [Int.toNat_of_nonneg sz.1], by omega⟩
   rw [ej]
   refine ⟨_, _, _, _, rfl, rfl, SqL.of We.gm, zf (v := V.ref (L2[j]).1) (by unfold refs; rw [List.getElem?_map, List.getElem?_eq_getElem hj]; rfl), _, _, _, _, rfl, rfl, SqT.of (We.tl _ (List.getElem_mem hj)), zf (j := 0) rfl, ?_⟩
   generalize (L2[j]).2.n = num
   refine ⟨_, _, _, rfl, rfl, We.gg, Nat.lt_of_le_of_lt (m := 10000) (by rw [List.length_map]; omega) (by decide), ?_⟩
   have Wp := We.put (.inr rfl) (ys := ds2.map V.int ++ [V.int num]) L2 (ds2 ++ [num]) (by rw [zb We.mg]; exact We.gm) (by rw [z9]; simp) We.tl
   generalize upd He pg2 (.lst (ds2.map V.int ++ [V.int num])) = Hp at Wp ⊢
   obtain ⟨dxp, hob⟩ := Wp.ca.ob
   refine ⟨_, _, hob, z2v _ _ (by decide +kernel) (by decide +kernel), _, _, _, _, rfl, rfl, SqL.of Wp.gg, by rw [List.map_append]; exact atI_last _ _, ?_⟩
   refine ⟨c, l, ks, ls2, ss2, num, tick2, rfl, Wp.ca, fun s hs => by have := bN2 s hs; omega, fun r ls9 H9 lo9 hc9 hr9 gr9 bk9 => ?_⟩
   rw [hkl] at hc9
   exact ⟨ls9, _, pu2, pm2, pg2, L2, ds2 ++ [num], tick2, top2, _, _, _, _, _, _, rfl, (zfc ss2 _ _ _ u.n).symm ▸ Wp.but bk9 hc9 lo9, I2.drop num tick2, lL2, bL2, zfe bN2, by rw [List.length_append]; show _ + 1 ≤ _; omega, rfl, rfl, rfl⟩
  rintro σ3 H3 ⟨ls3, ss3, pu3, pm3, pg3, L3, ds3, tick3, top3, v8, v9, v10, v11, v12, v13, rfl, W3, I3, lL3, bL3, bN3, bD3, rfl, rfl, rfl⟩
  refine ⟨Lq K C_Council C_Keeper a (ns.map V.int) ps u c l ks (i + 1) (100 * i + 61) (fun v8 v9 v10 => v8 = some (V.int ((5 + i : Nat) : Int)) ∧ v9 = some (V.int kind) ∧ v10 = some (V.int rest)), ?_, ?_⟩
  ·walk_at "rd"
   by_cases c1 : kind = 2
   rotate_left
   ·rw [if_neg (by simpa using c1)]
    exact ⟨ls3, ss3, pu3, pm3, pg3, L3, ds3, tick3, top3, _, _, _, _, _, _, rfl, W3, I3, lL3, bL3, bN3, bD3, rfl, rfl, rfl⟩
   rw [if_pos (decide_eq_true c1)]
   obtain ⟨dx3, hob⟩ := W3.ca.ob
   refine ⟨_, _, hob, z2v _ _ (by decide +kernel) (by decide +kernel), _, _, _, _, rfl, rfl, SqT.of W3.su.tu, zf (j := 0) rfl, _, rfl, by omega, ?_⟩
   have sz := z7h (rest + ((5 + i : Nat) : Int)) n1
   obtain ⟨j, ej, hj⟩ : ∃ j : Nat, (rest + ((5 + i : Nat) : Int)) % (u.n : Int) = (j : Int) ∧ j < u.n := ⟨((rest + ((5 + i : Nat) : Int)) % (u.n : Int)).toNat, by rw [Int.toNat_of_nonneg sz.1], by omega⟩
   rw [ej]
   refine ⟨c, l, ks, ls3, ss3, _, rfl, W3.ca, fun n => absurd ⟨by omega, by omega⟩ n, fun j' k s H9 ejj hk hs hc9 bt => ?_⟩
   obtain rfl : j = j' := by omega
   have W9 := W3.but (ButK.but bt (List.mem_of_getElem? hk)) hc9 (LsOk.refl _ _)
   refine ⟨⟨_, SqL.of W9.gu⟩, ?_⟩
   have lus := z42 ss3 u.n
   refine z1n (xs := zx (upl ss3 u.n)) (by rw [z1h]; exact ze (by omega)) (fun t acc Hx => acc = zx (((upl ss3 u.n).take t).filter fun k => decide (k ≠ j)) ∧ Hx = H9) ⟨rfl, rfl⟩ ?_ ?_ ?_ ?_
   ·rintro t acc Hx ⟨rfl, -⟩
    rw [z1h]
    exact Nat.le_trans (List.length_filter_le _ _) (by rw [List.length_take]; omega)
   ·rintro t acc Hx ⟨-, rfl⟩
    exact SqL.of W9.gu
   ·rintro Nn t acc Hx x hN hx ht ⟨rfl, rfl⟩
    obtain ⟨k2, hk2, rfl⟩ := z6b hx
    have stp := z1w (fun k => decide (k ≠ j)) hk2
    walk_at "rd"
    refine ⟨_, _, _, _, rfl, rfl, SqT.of W9.su.tu, zf (j := 0) rfl, _, rfl, by omega, ?_⟩
    rw [ej]
    by_cases c2 : k2 = j
    ·rw [if_neg (by simp; omega)]
     refine hN _ _ ⟨?_, rfl⟩
     rw [stp, if_neg (by simp [c2]), List.append_nil]
    ·rw [if_pos (by simp; omega)]
     refine hN _ _ ⟨?_, rfl⟩
     rw [stp, if_pos (by simpa using c2)]
     simp [zx]
   ·rintro acc Hx ⟨rfl, rfl⟩ pc hpc
    rw [z1h, List.take_length, zff ss3 hs I3.ln]
    exact ⟨ls3, _, pc, pm3, pg3, L3, ds3, tick3, top3, _, _, _, _, _, _, rfl, W9.newU (Same.upd hpc) hpc z9, I3.stand hs false, lL3, bL3, fun s' hs' => by
     rcases List.mem_or_eq_of_mem_set hs' with z | z
     ·exact bN3 s' z
     ·rw [z]; exact bN3 s (List.mem_of_getElem? hs), bD3, rfl, rfl, rfl⟩
  rintro σ4 H4 ⟨ls4, ss4, pu4, pm4, pg4, L4, ds4, tick4, top4, v8, v9, v10, v11, v12, v13, rfl, W4, I4, lL4, bL4, bN4, bD4, rfl, rfl, rfl⟩
  refine ⟨Lq K C_Council C_Keeper a (ns.map V.int) ps u c l ks (i + 1) (100 * i + 61) (fun v8 v9 v10 => v8 = some (V.int ((5 + i : Nat) : Int)) ∧ v9 = some (V.int kind) ∧ v10 = some (V.int rest)), ?_, ?_⟩
  ·walk_at "rd"
   by_cases c1 : kind = 3
   rotate_left
   ·rw [if_neg (by simpa using c1)]
    exact ⟨ls4, ss4, pu4, pm4, pg4, L4, ds4, tick4, top4, _, _, _, _, _, _, rfl, W4, I4, lL4, bL4, bN4, bD4, rfl, rfl, rfl⟩
   rw [if_pos (decide_eq_true c1)]
   obtain ⟨dx4, hob⟩ := W4.ca.ob
   refine ⟨_, _, hob, z2v _ _ (by decide +kernel) (by decide +kernel), _, _, _, _, rfl, rfl, SqT.of W4.su.tu, zf (j := 0) rfl, _, rfl, by omega, ?_⟩
   have sz := z7h (rest + ((5 + i : Nat) : Int)) n1
   obtain ⟨j, ej, hj⟩ : ∃ j : Nat, (rest + ((5 + i : Nat) : Int)) % (u.n : Int) = (j : Int) ∧ j < u.n := ⟨((rest + ((5 + i : Nat) : Int)) % (u.n : Int)).toNat, by rw [Int.toNat_of_nonneg sz.1], by omega⟩
   rw [ej]
   refine ⟨c, l, ks, ls4, ss4, _, rfl, W4.ca, fun n => absurd ⟨by omega, by omega⟩ n, fun j' k s H9 ejj hk hs hc9 bt => ?_⟩
   obtain rfl : j = j' := by omega
   have W9 := W4.but (ButK.but bt (List.mem_of_getElem? hk)) hc9 (LsOk.refl _ _)
   have lus := z42 ss4 u.n
   refine ⟨_, _, _, _, rfl, rfl, SqT.of W9.su.tu, zf (j := 0) rfl, _, rfl, by omega, ze (by decide), fun p1 hp1 => ?_⟩
   rw [ej]
   have s1' := Same.upd (o := .lst [V.int (1 + (j : Int))]) hp1
   have gp1 : upd H9 p1 (.lst [V.int (1 + (j : Int))]) p1 = some (.lst [V.int (1 + (j : Int))]) := z9
   generalize upd H9 p1 (.lst [V.int (1 + (j : Int))]) = Ha at s1' gp1 ⊢
   refine ⟨_, _, _, _, rfl, rfl, s1' _ _ W9.gu, gp1, ze (by rw [z1h]; show _ + 1 ≤ 1000000; omega), fun p2 hp2 => ?_⟩
   have eL : zx (upl ss4 u.n) ++ [V.int (1 + (j : Int))] = (((upl ss4 u.n).map fun k : Nat => (k : Int) + 1) ++ [1 + (j : Int)]).map V.int := by
    unfold zx
    rw [List.map_append, List.map_map]
    rfl
   rw [eL]
   have lX : (((upl ss4 u.n).map fun k : Nat => (k : Int) + 1) ++ [1 + (j : Int)]).length ≤ 6 := by rw [List.length_append, List.length_map]; show _ + 1 ≤ 6; omega
   have mX : ∀ x : Int, x ∈ (((upl ss4 u.n).map fun k : Nat => (k : Int) + 1) ++ [1 + (j : Int)]) ↔ x ∈ (upl (ss4.set j ⟨true, s.t, s.N⟩) u.n).map fun k : Nat => (k : Int) + 1 := fun x => by
    rw [List.mem_append, List.mem_singleton, List.mem_map, List.mem_map]
    constructor
    ·rintro (⟨k, hk, rfl⟩ | rfl)
     ·by_cases e : k = j
      ·exact ⟨k, (z55 ss4 hs I4.ln true k).mpr (.inl ⟨e, rfl⟩), rfl⟩
      ·exact ⟨k, (z55 ss4 hs I4.ln true k).mpr (.inr ⟨e, hk⟩), rfl⟩
     ·exact ⟨j, (z55 ss4 hs I4.ln true j).mpr (.inl ⟨rfl, rfl⟩), by omega⟩
    ·rintro ⟨k, hk, rfl⟩
     rcases (z55 ss4 hs I4.ln true k).mp hk with ⟨e, -⟩ | ⟨-, e⟩
     ·exact .inr (by omega)
     ·exact .inl ⟨k, e, rfl⟩
   generalize (((upl ss4 u.n).map fun k : Nat => (k : Int) + 1) ++ [1 + (j : Int)]) = X at lX mX ⊢
   have s2' := s1'.trans (Same.upd (o := .lst (X.map V.int)) hp2)
   have gp2 : upd Ha p2 (.lst (X.map V.int)) p2 = some (.lst (X.map V.int)) := z9
   generalize upd Ha p2 (.lst (X.map V.int)) = Hb at s2' gp2 ⊢
   refine ⟨_, rfl, X, SqL.of gp2, Nat.lt_of_le_of_lt (m := 100) (by omega) (by decide), fun d hd2 => ⟨_, z9, z7x _, Nat.lt_of_le_of_lt (zbq X) (by omega), fun l1 k1 hl1 hpm hpw => ?_⟩⟩
   have nd2 : ((upl (ss4.set j ⟨true, s.t, s.N⟩) u.n).map fun k : Nat => (k : Int) + 1).Pairwise (· < ·) := by
    rw [List.pairwise_map]
    exact (zb3 _ _).imp fun h => by omega
   have ek : k1 = (upl (ss4.set j ⟨true, s.t, s.N⟩) u.n).map fun k : Nat => (k : Int) + 1 := by
    refine List.Perm.eq_of_pairwise (le := fun a b : Int => a ≤ b) (fun a b _ _ h1 h2 => by omega) hpw (nd2.imp fun h => Int.le_of_lt h) (hpm.trans ?_)
    exact (List.perm_ext_iff_of_nodup (z7x X) (nd2.imp fun h => by omega)).mpr fun x => (zf4 X x).trans (mX x)
   have ek2 : k1.map V.int = zx (upl (ss4.set j ⟨true, s.t, s.N⟩) u.n) := by
    rw [ek]
    unfold zx
    rw [List.map_map]
    rfl
   rw [ek2]
   have s3' := s2'.trans (Same.upd (o := iso P w d (gAll X)) hd2)
   exact ⟨ls4, _, l1, pm4, pg4, L4, ds4, tick4, top4, _, _, _, _, _, _, rfl, W9.newU (s3'.trans (Same.upd hl1)) (z1g s3' hl1) z9, I4.stand hs true, lL4, bL4, fun s' hs' => by
    rcases List.mem_or_eq_of_mem_set hs' with z | z
    ·exact bN4 s' z
    ·rw [z]; exact bN4 s (List.mem_of_getElem? hs), bD4, rfl, rfl, rfl⟩
  rintro σ5 H5 ⟨ls5, ss5, pu5, pm5, pg5, L5, ds5, tick5, top5, v8, v9, v10, v11, v12, v13, rfl, W5, I5, lL5, bL5, bN5, bD5, rfl, rfl, rfl⟩
  walk_at "rd"
  by_cases c4 : kind = 4
  ·rw [if_pos (decide_eq_true c4)]
   exact ⟨by decide, nx _ _ _ _ ⟨ls5, ss5, pu5, pm5, pg5, L5, ds5, _, top5, _, _, _, _, _, _, rfl, W5, I5, lL5, bL5, bN5, bD5, rfl, rfl, rfl⟩ (Nat.le_refl _) (by omega)⟩
  ·rw [if_neg (by simpa using c4)]
   exact nx _ _ _ _ ⟨ls5, ss5, pu5, pm5, pg5, L5, ds5, _, top5, _, _, _, _, _, _, rfl, W5, I5, lL5, bL5, bN5, bD5, rfl, rfl, rfl⟩ (Nat.le_refl _) (by omega)
theorem z9z (F : Def K mg "_law_asked" z4e ["_law_rest", "_law_k", "_law_setup_here"]) (T : Txt K mg C_Council C_Down C_InTheWay C_Keeper C_NotFree C_OldNumber C_UnknownKeeper) : Has P w K mg base 1 "_law_asked" ["_law_rest", "_law_k", "_law_setup_here"] (zbv) := by
 refine F.ok sc__law_asked (fun vs H Q E h => ?_) (fun f cdv A outer s H vs Q E hr h => ?_)
 ·obtain ⟨c, k, a, u, rfl, _⟩ := h
  rfl
 ·obtain ⟨c, k, a, u, rfl, hS, hok, q⟩ := h
  have hu := hr.units0
  refine ⟨_, (za (zm (i := 3) sc__law_asked.nd rfl (Or.inl rfl) (zj ix_list (zj ix_tup (pv 2) z8 (fun _ _ => rfl)) (zg z10 (zg zz (pv 0) (pv 1)) (zd zr rfl T.b_len (by decide +kernel) (z0 (zj ix_tup (pv 2) z8 (fun _ _ => rfl)) z7))) (fun _ _ => rfl)))
   (za (zm (i := 0) sc__law_asked.nd rfl (Or.inl rfl) (zg z17 (pv 0) z8))
   (za (zm (i := 4) sc__law_asked.nd rfl (Or.inl rfl) (zj ix_list (zj ix_tup (pv 2) z8 (fun _ _ => rfl)) (zg z10 (zg zz (pv 0) (zg z17 (pv 1) z8)) (zd zr rfl T.b_len (by decide +kernel) (z0 (zj ix_tup (pv 2) z8 (fun _ _ => rfl)) z7))) (fun _ _ => rfl)))
   (za (zm (i := 0) sc__law_asked.nd rfl (Or.inl rfl) (zg z17 (pv 0) z8))
   (za (zm (i := 5) sc__law_asked.nd rfl (Or.inl rfl) (z1p (z1c z95 (pv 4) (zj ix_tup (pv 2) z8 (fun _ _ => rfl)) (by with_unfolding_all rfl)) (z1i (z1c z1b (zg z10 (zg zz (pv 0) (pv 1)) z8) z8 (zk _)))))
   (za (zm (i := 0) sc__law_asked.nd rfl (Or.inl rfl) (zg z17 (pv 0) z8))
   (zc (zl (z1q (z0 z1o (z0 (pv 3) (z0 (pv 4) (z0 (pv 5) (z0 (zj ix_list (z22 (z0 z8 (z0 z8 (z0 z8 (z0 z8 (z0 z8 (z0 z8 (z0 z8 (z0 (zg zz z8 (zg z10 (zg z17 (pv 0) z8) z8)) z7))))))))) (zg z10 (zg zz (pv 0) (pv 1)) z8) (fun _ _ => rfl)) z7)))))))))))))), ?_⟩
  walk_at "rd"
  refine ⟨_, _, _, _, rfl, rfl, SqT.of hS.tu, zf (j := 1) rfl, ?_⟩
  refine ⟨_, _, _, _, rfl, rfl, SqT.of hS.tu, zf (j := 1) rfl, ?_⟩
  obtain ⟨hd, mhd, ahd⟩ := zb0 hok.h1 (c + k)
  obtain ⟨lk, mlk, alk⟩ := zb0 hok.l1 (c / 8 + k / 3)
  have h1 := hok.h1
  have l1 := hok.l1
  refine ⟨_, rfl, _, .inl (SqL.of hS.gh), by rw [List.length_map]; omega, ?_⟩
  rw [List.length_map]
  refine ⟨_, _, _, _, rfl, rfl, SqL.of hS.gh, ahd, cdiv (by decide) (by decide), ?_⟩
  refine ⟨_, _, _, _, rfl, rfl, SqT.of hS.tu, zf (j := 2) rfl, cdiv (by decide) (by decide), ?_⟩
  refine ⟨_, _, _, _, rfl, rfl, SqT.of hS.tu, zf (j := 2) rfl, _, rfl, _, .inl (SqL.of hS.gl), by rw [List.length_map]; omega, ?_⟩
  rw [List.length_map]
  refine ⟨_, _, _, _, rfl, rfl, SqL.of hS.gl, alk, cdiv (by decide) (by decide), ?_⟩
  refine ⟨_, _, _, _, rfl, rfl, SqT.of hS.tu, zf (j := 3) rfl, ?_⟩
  refine ⟨_, _, rfl, .inl (SqL.of hS.gc), rfl, z2k _, _, rfl, ?_⟩
  have fin : ∀ (sh : Bool), CDiv (c / 8 / 10) 2 ∧ CDiv (c / 8 / 10 / 2) 8 ∧ (0 : Int) < 1000 ∧ 8 ≤ sizeLine ∧ ∀ (p : Addr), H p = none → (0 : Int) < 8 ∧ rIxL K (V.ref p) (V.int ((c / 8 / 10 / 2 + k) % 8)) (upd H p (.lst [V.int 5, V.int 2, V.int 30, V.int 1, V.int 9, V.int 1000, V.int 3, V.int (1 + c / 8 / 10 / 2 / 8 % 1000)])) fun x_6 H1 => 5 ≤ sizeLine ∧ ∀ (p : Addr), H1 p = none → Q (V.ref p) (upd H1 p (.tup [V.str (Str.ofString "ask"), V.str hd, V.str lk, V.bl sh, x_6])) := fun sh => by
   refine ⟨cdiv (by decide) (by decide), cdiv (by decide) (by decide), by decide, ze (by decide), fun p hp => ⟨by decide, ?_⟩⟩
   generalize c / 8 / 10 / 2 = d
   obtain ⟨tm, etm, t1, t2⟩ : ∃ tm : Int, atI [V.int 5, V.int 2, V.int 30, V.int 1, V.int 9, V.int 1000, V.int 3, V.int (1 + d / 8 % 1000)] ((d + k) % 8) = some (V.int tm) ∧ 1 ≤ tm ∧ tm ≤ 1000 := by
    rcases (show (d + k) % 8 = 0 ∨ (d + k) % 8 = 1 ∨ (d + k) % 8 = 2 ∨ (d + k) % 8 = 3 ∨ (d + k) % 8 = 4 ∨ (d + k) % 8 = 5 ∨ (d + k) % 8 = 6 ∨ (d + k) % 8 = 7 by omega) with e | e | e | e | e | e | e | e
    ·exact ⟨5, by rw [e]; exact zf (j := 0) rfl, by decide, by decide⟩
    ·exact ⟨2, by rw [e]; exact zf (j := 1) rfl, by decide, by decide⟩
    ·exact ⟨30, by rw [e]; exact zf (j := 2) rfl, by decide, by decide⟩
    ·exact ⟨1, by rw [e]; exact zf (j := 3) rfl, by decide, by decide⟩
    ·exact ⟨9, by rw [e]; exact zf (j := 4) rfl, by decide, by decide⟩
    ·exact ⟨1000, by rw [e]; exact zf (j := 5) rfl, by decide, by decide⟩
    ·exact ⟨3, by rw [e]; exact zf (j := 6) rfl, by decide, by decide⟩
    ·exact ⟨_, by rw [e]; exact zf (j := 7) rfl, by omega, by omega⟩
   refine ⟨_, _, _, _, rfl, rfl, SqL.of z9, etm, ze (by decide), fun r hr0 => ?_⟩
   exact q r hd lk sh tm _ mhd mlk t1 t2 z9 ((Same.upd hp).trans (Same.upd hr0))
  rw [if_neg Bool.false_ne_true]
  cases inV (V.str lk) (u.shs.map V.str) with
  | true =>
   rw [if_pos rfl]
   exact ⟨by decide, fin _⟩
  | false =>
   rw [if_neg Bool.false_ne_true]
   exact fin false
end
theorem all_mk {l : PySem.W.OpenLaw} {w : World} {K : PySem.W.Frag} {h : Heap} {mg : Str → Option Value} {fa : Addr} (X : K.In h) (G : h.Ns mainGlobals mg) (hfa : mg "law" = some (.ref fa))
  {C_Council : Addr}
  {C_Down : Addr}
  {C_InTheWay : Addr}
  {C_Keeper : Addr}
  {C_NotFree : Addr}
  {C_OldNumber : Addr}
  {C_UnknownKeeper : Addr}
  (y_b_all : PySem.W.nsIn K mainGlobals "all" = some none)
  (y_b_bool : PySem.W.nsIn K mainGlobals "bool" = some none)
  (y_b_enumerate : PySem.W.nsIn K mainGlobals "enumerate" = some none)
  (y_b_int : PySem.W.nsIn K mainGlobals "int" = some none)
  (y_b_isinstance : PySem.W.nsIn K mainGlobals "isinstance" = some none)
  (y_b_len : PySem.W.nsIn K mainGlobals "len" = some none)
  (y_b_list : PySem.W.nsIn K mainGlobals "list" = some none)
  (y_b_max : PySem.W.nsIn K mainGlobals "max" = some none)
  (y_b_min : PySem.W.nsIn K mainGlobals "min" = some none)
  (y_b_range : PySem.W.nsIn K mainGlobals "range" = some none)
  (y_b_set : PySem.W.nsIn K mainGlobals "set" = some none)
  (y_b_sorted : PySem.W.nsIn K mainGlobals "sorted" = some none)
  (y_b_str : PySem.W.nsIn K mainGlobals "str" = some none)
  (y_b_tuple : PySem.W.nsIn K mainGlobals "tuple" = some none)
  (y_g_Council : PySem.W.nsIn K mainGlobals "Council" = some (some (.ref C_Council)))
  (y_g_Down : PySem.W.nsIn K mainGlobals "Down" = some (some (.ref C_Down)))
  (y_g_InTheWay : PySem.W.nsIn K mainGlobals "InTheWay" = some (some (.ref C_InTheWay)))
  (y_g_Keeper : PySem.W.nsIn K mainGlobals "Keeper" = some (some (.ref C_Keeper)))
  (y_g_NotFree : PySem.W.nsIn K mainGlobals "NotFree" = some (some (.ref C_NotFree)))
  (y_g_OldNumber : PySem.W.nsIn K mainGlobals "OldNumber" = some (some (.ref C_OldNumber)))
  (y_g_UnknownKeeper : PySem.W.nsIn K mainGlobals "UnknownKeeper" = some (some (.ref C_UnknownKeeper)))
  (y_pg_Council : PySem.W.plainGet K C_Council Str.empty = true)
  (y_hd_Council : PySem.W.hasDictIn K C_Council = true)
  (y_po_Council : PySem.W.plainOver K C_Council = true)
  (y_sa_Council : PySem.W.findIn K (.ref C_Council) "__setattr__" = some (some (.builtin "object.__setattr__")))
  (y_n_Council_keepers : PySem.W.findIn K (.ref C_Council) "keepers" = some none)
  (y_n_Council_most : PySem.W.findIn K (.ref C_Council) "most" = some none)
  (y_pg_Keeper : PySem.W.plainGet K C_Keeper Str.empty = true)
  (y_hd_Keeper : PySem.W.hasDictIn K C_Keeper = true)
  (y_po_Keeper : PySem.W.plainOver K C_Keeper = true)
  (y_sa_Keeper : PySem.W.findIn K (.ref C_Keeper) "__setattr__" = some (some (.builtin "object.__setattr__")))
  (y_n_Keeper_up : PySem.W.findIn K (.ref C_Keeper) "up" = some none)
  (y_n_Keeper_top : PySem.W.findIn K (.ref C_Keeper) "top" = some none)
  (y_n_Keeper_kept : PySem.W.findIn K (.ref C_Keeper) "kept" = some none)
  (y_x_Down : PySem.W.excIn K C_Down [.type "ValueError", .type "Exception", .type "BaseException", .type "object"] "ValueError.__new__" = true)
  (y_x_InTheWay : PySem.W.excIn K C_InTheWay [.type "ValueError", .type "Exception", .type "BaseException", .type "object"] "ValueError.__new__" = true)
  (y_x_NotFree : PySem.W.excIn K C_NotFree [.type "ValueError", .type "Exception", .type "BaseException", .type "object"] "ValueError.__new__" = true)
  (y_x_OldNumber : PySem.W.excIn K C_OldNumber [.type "ValueError", .type "Exception", .type "BaseException", .type "object"] "ValueError.__new__" = true)
  (y_x_UnknownKeeper : PySem.W.excIn K C_UnknownKeeper [.type "ValueError", .type "Exception", .type "BaseException", .type "object"] "ValueError.__new__" = true)
  (y_sb_Down_NotFree : PySem.W.subIn K (.ref C_Down) (.ref C_NotFree) = some false)
  (y_sb_InTheWay_NotFree : PySem.W.subIn K (.ref C_InTheWay) (.ref C_NotFree) = some false)
  (y_sb_NotFree_NotFree : PySem.W.subIn K (.ref C_NotFree) (.ref C_NotFree) = some true)
  (y_sb_OldNumber_NotFree : PySem.W.subIn K (.ref C_OldNumber) (.ref C_NotFree) = some false)
  (y_sb_UnknownKeeper_NotFree : PySem.W.subIn K (.ref C_UnknownKeeper) (.ref C_NotFree) = some false)
  {f0 : Addr} {d0 : FuncData}
  (a0 : W.nsIn K mainGlobals "within" = some (some (.ref f0)))
  (F0 : Fun K "within" "within" z7b f0 d0)
  {f1 : Addr} {d1 : FuncData}
  (a1 : W.nsIn K mainGlobals "on_line" = some (some (.ref f1)))
  (F1 : Fun K "on_line" "on_line" z64 f1 d1)
  {f2 : Addr} {d2 : FuncData}
  (a2 : W.nsIn K mainGlobals "in_way" = some (some (.ref f2)))
  (F2 : Fun K "in_way" "in_way" z7c f2 d2)
  {f3 : Addr} {d3 : FuncData}
  (a3 : W.findIn K (.ref C_Keeper) "__init__" = some (some (.ref f3))) (i3 : W.isFn K (.ref f3) = true)
  (F3 : Fun K "__init__" "Keeper.__init__" z2w f3 d3)
  {f4 : Addr} {d4 : FuncData}
  (a4 : W.findIn K (.ref C_Keeper) "fall" = some (some (.ref f4))) (i4 : W.isFn K (.ref f4) = true)
  (F4 : Fun K "fall" "Keeper.fall" z3r f4 d4)
  {f5 : Addr} {d5 : FuncData}
  (a5 : W.findIn K (.ref C_Keeper) "rise" = some (some (.ref f5))) (i5 : W.isFn K (.ref f5) = true)
  (F5 : Fun K "rise" "Keeper.rise" z3s f5 d5)
  {f6 : Addr} {d6 : FuncData}
  (a6 : W.findIn K (.ref C_Keeper) "live" = some (some (.ref f6))) (i6 : W.isFn K (.ref f6) = true)
  (F6 : Fun K "live" "Keeper.live" z3t f6 d6)
  {f7 : Addr} {d7 : FuncData}
  (a7 : W.findIn K (.ref C_Keeper) "names_in_way" = some (some (.ref f7))) (i7 : W.isFn K (.ref f7) = true)
  (F7 : Fun K "names_in_way" "Keeper.names_in_way" z2c f7 d7)
  {f8 : Addr} {d8 : FuncData}
  (a8 : W.findIn K (.ref C_Keeper) "says_free" = some (some (.ref f8))) (i8 : W.isFn K (.ref f8) = true)
  (F8 : Fun K "says_free" "Keeper.says_free" z2n f8 d8)
  {f9 : Addr} {d9 : FuncData}
  (a9 : W.findIn K (.ref C_Keeper) "take" = some (some (.ref f9))) (i9 : W.isFn K (.ref f9) = true)
  (F9 : Fun K "take" "Keeper.take" z3u f9 d9)
  {f10 : Addr} {d10 : FuncData}
  (a10 : W.findIn K (.ref C_Keeper) "drop" = some (some (.ref f10))) (i10 : W.isFn K (.ref f10) = true)
  (F10 : Fun K "drop" "Keeper.drop" z3v f10 d10)
  {f11 : Addr} {d11 : FuncData}
  (a11 : W.findIn K (.ref C_Council) "__init__" = some (some (.ref f11))) (i11 : W.isFn K (.ref f11) = true)
  (F11 : Fun K "__init__" "Council.__init__" z2o f11 d11)
  {f12 : Addr} {d12 : FuncData}
  (a12 : W.findIn K (.ref C_Council) "keeper_at" = some (some (.ref f12))) (i12 : W.isFn K (.ref f12) = true)
  (F12 : Fun K "keeper_at" "Council.keeper_at" z2h f12 d12)
  {f13 : Addr} {d13 : FuncData}
  (a13 : W.findIn K (.ref C_Council) "up_keepers" = some (some (.ref f13))) (i13 : W.isFn K (.ref f13) = true)
  (F13 : Fun K "up_keepers" "Council.up_keepers" z2d f13 d13)
  {f14 : Addr} {d14 : FuncData}
  (a14 : W.findIn K (.ref C_Council) "fall" = some (some (.ref f14))) (i14 : W.isFn K (.ref f14) = true)
  (F14 : Fun K "fall" "Council.fall" z3a f14 d14)
  {f15 : Addr} {d15 : FuncData}
  (a15 : W.findIn K (.ref C_Council) "rise" = some (some (.ref f15))) (i15 : W.isFn K (.ref f15) = true)
  (F15 : Fun K "rise" "Council.rise" z3b f15 d15)
  {f16 : Addr} {d16 : FuncData}
  (a16 : W.findIn K (.ref C_Council) "notes" = some (some (.ref f16))) (i16 : W.isFn K (.ref f16) = true)
  (F16 : Fun K "notes" "Council.notes" z39 f16 d16)
  {f17 : Addr} {d17 : FuncData}
  (a17 : W.findIn K (.ref C_Council) "sayers" = some (some (.ref f17))) (i17 : W.isFn K (.ref f17) = true)
  (F17 : Fun K "sayers" "Council.sayers" z32 f17 d17)
  {f18 : Addr} {d18 : FuncData}
  (a18 : W.findIn K (.ref C_Council) "give" = some (some (.ref f18))) (i18 : W.isFn K (.ref f18) = true)
  (F18 : Fun K "give" "Council.give" z3c f18 d18)
  {f19 : Addr} {d19 : FuncData}
  (a19 : W.findIn K (.ref C_Council) "drop" = some (some (.ref f19))) (i19 : W.isFn K (.ref f19) = true)
  (F19 : Fun K "drop" "Council.drop" z3d f19 d19)
  {f20 : Addr} {d20 : FuncData}
  (a20 : W.nsIn K mainGlobals "_law_at" = some (some (.ref f20)))
  (F20 : Fun K "_law_at" "_law_at" z65 f20 d20)
  {f21 : Addr} {d21 : FuncData}
  (a21 : W.nsIn K mainGlobals "_law_same" = some (some (.ref f21)))
  (F21 : Fun K "_law_same" "_law_same" z2g f21 d21)
  {f22 : Addr} {d22 : FuncData}
  (a22 : W.nsIn K mainGlobals "_law_name" = some (some (.ref f22)))
  (F22 : Fun K "_law_name" "_law_name" z4p f22 d22)
  {f23 : Addr} {d23 : FuncData}
  (a23 : W.nsIn K mainGlobals "_law_names" = some (some (.ref f23)))
  (F23 : Fun K "_law_names" "_law_names" z4b f23 d23)
  {f24 : Addr} {d24 : FuncData}
  (a24 : W.nsIn K mainGlobals "_law_locks" = some (some (.ref f24)))
  (F24 : Fun K "_law_locks" "_law_locks" z4c f24 d24)
  {f25 : Addr} {d25 : FuncData}
  (a25 : W.nsIn K mainGlobals "_law_some" = some (some (.ref f25)))
  (F25 : Fun K "_law_some" "_law_some" z4q f25 d25)
  {f26 : Addr} {d26 : FuncData}
  (a26 : W.nsIn K mainGlobals "_law_setup" = some (some (.ref f26)))
  (F26 : Fun K "_law_setup" "_law_setup" z4d f26 d26)
  {f27 : Addr} {d27 : FuncData}
  (a27 : W.nsIn K mainGlobals "_law_asked" = some (some (.ref f27)))
  (F27 : Fun K "_law_asked" "_law_asked" z4e f27 d27)
  {f28 : Addr} {d28 : FuncData}
  (a28 : W.nsIn K mainGlobals "_law_line" = some (some (.ref f28)))
  (F28 : Fun K "_law_line" "_law_line" z4r f28 d28)
  {f29 : Addr} {d29 : FuncData}
  (a29 : W.nsIn K mainGlobals "_law_way" = some (some (.ref f29)))
  (F29 : Fun K "_law_way" "_law_way" z5f f29 d29)
  {f30 : Addr} {d30 : FuncData}
  (a30 : W.nsIn K mainGlobals "_law_given" = some (some (.ref f30)))
  (F30 : Fun K "_law_given" "_law_given" z4f f30 d30)
  {f31 : Addr} {d31 : FuncData}
  (a31 : W.nsIn K mainGlobals "_law_clear" = some (some (.ref f31)))
  (F31 : Fun K "_law_clear" "_law_clear" z4g f31 d31)
  {f32 : Addr} {d32 : FuncData}
  (a32 : W.nsIn K mainGlobals "_law_right" = some (some (.ref f32)))
  (F32 : Fun K "_law_right" "_law_right" z4h f32 d32)
  {f33 : Addr} {d33 : FuncData}
  (a33 : W.nsIn K mainGlobals "law" = some (some (.ref f33)))
  (F33 : Fun K "law" "law" z6i f33 d33)
  (mk_Council : PySem.W.makesIn K C_Council = true) (kc_Council : PySem.W.keepIn K (.ref C_Council) = true)
  (mk_Keeper : PySem.W.makesIn K C_Keeper = true) (kc_Keeper : PySem.W.keepIn K (.ref C_Keeper) = true)
  : ∃ fd : FuncData, (∀ (s : Shared) (v : Value), BindsTo s fd ⟨[v], []⟩ [("_law_script", v)]) ∧ ∀ base : Heap, K.In base → base.Ns mainGlobals mg → FnOk l.prog w K mg base CX0 9 fa fd ["_law_script"] (spLaw K) := by
 have e := hfa.symm.trans (PySem.W.mg_of X G a33)
 cases e
 have T : Txt K mg C_Council C_Down C_InTheWay C_Keeper C_NotFree C_OldNumber C_UnknownKeeper := ⟨trivial, PySem.W.mg_none_of X G y_b_all, PySem.W.mg_none_of X G y_b_bool, PySem.W.mg_none_of X G y_b_enumerate, PySem.W.mg_none_of X G y_b_int, PySem.W.mg_none_of X G y_b_isinstance, PySem.W.mg_none_of X G y_b_len, PySem.W.mg_none_of X G y_b_list, PySem.W.mg_none_of X G y_b_max, PySem.W.mg_none_of X G y_b_min, PySem.W.mg_none_of X G y_b_range, PySem.W.mg_none_of X G y_b_set, PySem.W.mg_none_of X G y_b_sorted, PySem.W.mg_none_of X G y_b_str, PySem.W.mg_none_of X G y_b_tuple, PySem.W.mg_of X G y_g_Council, PySem.W.mg_of X G y_g_Down, PySem.W.mg_of X G y_g_InTheWay, PySem.W.mg_of X G y_g_Keeper, PySem.W.mg_of X G y_g_NotFree, PySem.W.mg_of X G y_g_OldNumber, PySem.W.mg_of X G y_g_UnknownKeeper, y_pg_Council, y_hd_Council, y_po_Council, y_sa_Council, y_n_Council_keepers, y_n_Council_most, y_pg_Keeper, y_hd_Keeper, y_po_Keeper, y_sa_Keeper, y_n_Keeper_up, y_n_Keeper_top, y_n_Keeper_kept, y_x_Down, y_x_InTheWay, y_x_NotFree, y_x_OldNumber, y_x_UnknownKeeper, y_sb_Down_NotFree, y_sb_InTheWay_NotFree, y_sb_NotFree_NotFree, y_sb_OldNumber_NotFree, y_sb_UnknownKeeper_NotFree⟩
 obtain ⟨_, _, kV, dc, pm, an, cd, ct, _, rfl, _, _⟩ := id F33.ex
 have D21 : Def K mg "_law_same" z2g ["_law_found", "_law_due"] := ⟨_, _, F21, W.mg_of X G a21, F21.binds fun _ _ _ _ _ _ us hl => match us, hl with | [_, _], _ => rfl⟩
 refine ⟨W.fnOf "law" "law" (z50 z6i) (z29 z6i) (zi z6i) .none kV dc pm an cd ct, fun s v => .of_eq rfl, fun base _ _ => ?_⟩
 have G_within := ze3 (P := l.prog) (w := w) (base := base) ⟨_, _, F0, W.mg_of X G a0, F0.binds fun _ _ _ _ _ _ us hl => match us, hl with | [_, _], _ => rfl⟩ T
 have G_on_line := zcs (P := l.prog) (w := w) (base := base) ⟨_, _, F1, W.mg_of X G a1, F1.binds fun _ _ _ _ _ _ us hl => match us, hl with | [_, _], _ => rfl⟩ T G_within
 have G_in_way := ze4 (P := l.prog) (w := w) (base := base) ⟨_, _, F2, W.mg_of X G a2, F2.binds fun _ _ _ _ _ _ us hl => match us, hl with | [_, _, _, _], _ => rfl⟩ T G_on_line
 have G_Keeper___init__ := z68 (P := l.prog) (w := w) (base := base) ⟨_, _, F3, ⟨mk_Keeper, a3, i3, kc_Keeper⟩, F3.binds fun _ _ _ _ _ _ us hl => match us, hl with | [_], _ => rfl⟩ T
 have G_Keeper_fall := z8s (P := l.prog) (w := w) (base := base) ⟨_, _, F4, ⟨a4, i4, F4.kp⟩, F4.binds fun _ _ _ _ _ _ us hl => match us, hl with | [_], _ => rfl⟩ T
 have G_Keeper_rise := z8t (P := l.prog) (w := w) (base := base) ⟨_, _, F5, ⟨a5, i5, F5.kp⟩, F5.binds fun _ _ _ _ _ _ us hl => match us, hl with | [_], _ => rfl⟩ T
 have G_Keeper_live := z8q (P := l.prog) (w := w) (base := base) ⟨_, _, F6, ⟨a6, i6, F6.kp⟩, F6.binds fun _ _ _ _ _ _ us hl => match us, hl with | [_, _], _ => rfl⟩ T
 have G_Keeper_names_in_way := z4t (P := l.prog) (w := w) (base := base) ⟨_, _, F7, ⟨a7, i7, F7.kp⟩, F7.binds fun _ _ _ _ _ _ us hl => match us, hl with | [_, _, _, _, _], _ => rfl⟩ T G_in_way G_Keeper_live
 have G_Keeper_says_free := z5o (P := l.prog) (w := w) (base := base) ⟨_, _, F8, ⟨a8, i8, F8.kp⟩, F8.binds fun _ _ _ _ _ _ us hl => match us, hl with | [_, _, _, _, _], _ => rfl⟩ T G_Keeper_names_in_way
 have G_Keeper_take := z8r (P := l.prog) (w := w) (base := base) ⟨_, _, F9, ⟨a9, i9, F9.kp⟩, F9.binds fun _ _ _ _ _ _ us hl => match us, hl with | [_, _, _, _, _, _, _], _ => rfl⟩ T G_Keeper_says_free
 have G_Keeper_drop := z8w (P := l.prog) (w := w) (base := base) ⟨_, _, F10, ⟨a10, i10, F10.kp⟩, F10.binds fun _ _ _ _ _ _ us hl => match us, hl with | [_, _, _], _ => rfl⟩ T G_Keeper_live
 have G_Council___init__ := z5p (P := l.prog) (w := w) (base := base) ⟨_, _, F11, ⟨mk_Council, a11, i11, kc_Council⟩, F11.binds fun _ _ _ _ _ _ us hl => match us, hl with | [_, _], _ => rfl⟩ T G_Keeper___init__
 have G_Council_keeper_at := z5k (P := l.prog) (w := w) (base := base) ⟨_, _, F12, ⟨a12, i12, F12.kp⟩, F12.binds fun _ _ _ _ _ _ us hl => match us, hl with | [_, _], _ => rfl⟩ T
 have G_Council_up_keepers := z54 (P := l.prog) (w := w) (base := base) ⟨_, _, F13, ⟨a13, i13, F13.kp⟩, F13.binds fun _ _ _ _ _ _ us hl => match us, hl with | [_], _ => rfl⟩ T
 have G_Council_fall := z83 (P := l.prog) (w := w) (base := base) ⟨_, _, F14, ⟨a14, i14, F14.kp⟩, F14.binds fun _ _ _ _ _ _ us hl => match us, hl with | [_, _], _ => rfl⟩ T G_Keeper_fall G_Council_keeper_at
 have G_Council_rise := z84 (P := l.prog) (w := w) (base := base) ⟨_, _, F15, ⟨a15, i15, F15.kp⟩, F15.binds fun _ _ _ _ _ _ us hl => match us, hl with | [_, _], _ => rfl⟩ T G_Keeper_rise G_Council_keeper_at
 have G_Council_notes := z7g (P := l.prog) (w := w) (base := base) ⟨_, _, F16, ⟨a16, i16, F16.kp⟩, F16.binds fun _ _ _ _ _ _ us hl => match us, hl with | [_, _, _], _ => rfl⟩ T G_Keeper_live G_Council_keeper_at
 have G_Council_sayers := z6o (P := l.prog) (w := w) (base := base) ⟨_, _, F17, ⟨a17, i17, F17.kp⟩, F17.binds fun _ _ _ _ _ _ us hl => match us, hl with | [_, _, _, _, _], _ => rfl⟩ T G_Keeper_says_free G_Council_up_keepers
 have G_Council_give := z86 (P := l.prog) (w := w) (base := base) ⟨_, _, F18, ⟨a18, i18, F18.kp⟩, F18.binds fun _ _ _ _ _ _ us hl => match us, hl with | [_, _, _, _, _, _], _ => rfl⟩ T G_Keeper_take G_Council_keeper_at G_Council_up_keepers G_Council_sayers
 have G_Council_drop := z87 (P := l.prog) (w := w) (base := base) ⟨_, _, F19, ⟨a19, i19, F19.kp⟩, F19.binds fun _ _ _ _ _ _ us hl => match us, hl with | [_, _, _], _ => rfl⟩ T G_Keeper_drop G_Council_up_keepers
 have G__law_at := zcv (P := l.prog) (w := w) (base := base) ⟨_, _, F20, W.mg_of X G a20, F20.binds fun _ _ _ _ _ _ us hl => match us, hl with | [_, _], _ => rfl⟩ T
 have G_same0 := zf8 (P := l.prog) (w := w) (base := base) D21 T (z99 D21)
 have G_same1 := zf9 (P := l.prog) (w := w) (base := base) D21 T G_same0
 have G_unl := zhc (P := l.prog) (w := w) (base := base) D21 T (z99 D21)
 have G__law_same : Has l.prog w K mg base 2 "_law_same" ["_law_found", "_law_due"] (z8v) := G_same1.or G_unl (by decide) (by decide)
 have G__law_name := zaw (P := l.prog) (w := w) (base := base) ⟨_, _, F22, W.mg_of X G a22, F22.binds fun _ _ _ _ _ _ us hl => match us, hl with | [_, _], _ => rfl⟩ T
 have G__law_names := z9t (P := l.prog) (w := w) (base := base) ⟨_, _, F23, W.mg_of X G a23, F23.binds fun _ _ _ _ _ _ us hl => match us, hl with | [_, _], _ => rfl⟩ T G__law_name
 have G__law_locks := z9u (P := l.prog) (w := w) (base := base) ⟨_, _, F24, W.mg_of X G a24, F24.binds fun _ _ _ _ _ _ us hl => match us, hl with | [_, _, _], _ => rfl⟩ T G__law_name
 have G__law_some := zaz (P := l.prog) (w := w) (base := base) ⟨_, _, F25, W.mg_of X G a25, F25.binds fun _ _ _ _ _ _ us hl => match us, hl with | [_, _], _ => rfl⟩ T
 have G__law_setup := z9v (P := l.prog) (w := w) (base := base) ⟨_, _, F26, W.mg_of X G a26, F26.binds fun _ _ _ _ _ _ us hl => match us, hl with | [_], _ => rfl⟩ T G__law_at G__law_names G__law_locks G__law_some
 have G__law_asked := z9z (P := l.prog) (w := w) (base := base) ⟨_, _, F27, W.mg_of X G a27, F27.binds fun _ _ _ _ _ _ us hl => match us, hl with | [_, _, _], _ => rfl⟩ T
 have G__law_line := zax (P := l.prog) (w := w) (base := base) ⟨_, _, F28, W.mg_of X G a28, F28.binds fun _ _ _ _ _ _ us hl => match us, hl with | [_, _], _ => rfl⟩ T
 have G__law_way := zbe (P := l.prog) (w := w) (base := base) ⟨_, _, F29, W.mg_of X G a29, F29.binds fun _ _ _ _ _ _ us hl => match us, hl with | [_, _, _, _], _ => rfl⟩ T G__law_line
 have G__law_given := z9w (P := l.prog) (w := w) (base := base) ⟨_, _, F30, W.mg_of X G a30, F30.binds fun _ _ _ _ _ _ us hl => match us, hl with | [_, _, _], _ => rfl⟩ T G_Council_give
 have G__law_clear := z9x (P := l.prog) (w := w) (base := base) ⟨_, _, F31, W.mg_of X G a31, F31.binds fun _ _ _ _ _ _ us hl => match us, hl with | [_, _, _, _], _ => rfl⟩ T G__law_way
 have G__law_right := z9y (P := l.prog) (w := w) (base := base) ⟨_, _, F32, W.mg_of X G a32, F32.binds fun _ _ _ _ _ _ us hl => match us, hl with | [_, _, _, _], _ => rfl⟩ T G__law_same
 have G_law := zhf (P := l.prog) (w := w) (base := base) ⟨_, _, F33, W.mg_of X G a33, F33.binds fun _ _ _ _ _ _ us hl => match us, hl with | [_], _ => rfl⟩ T G_Council___init__ G_Council_fall G_Council_rise G_Council_drop G__law_same G__law_setup G__law_asked G__law_given G__law_clear G__law_right
 exact Has.at G_law (PySem.W.mg_of X G a33) F33
end Fg
open PySem PySem.W PyProof.Rows
set_option maxRecDepth 100000 in
set_option maxHeartbeats 0 in
theorem PySem.Challenge.cw_fencegate_k12_numbers_rise_holds : PySem.Challenge.rw_fencegate_k12_numbers_rise.Holds := by
 w_on; o_law
 refine holds_open (r := PySem.Challenge.rw_fencegate_k12_numbers_rise.row) (q := Fg.vw) (loose := []) (XP := XL Fg.vw []) (YP := (kHook Fg.kk Fg.ka Fg.ka_eq).says) (N := 12 + (1 + (1470 + 3404)))
  Fg.left_ok (kHook Fg.kk Fg.ka Fg.ka_eq).of (kHook Fg.kk Fg.ka Fg.ka_eq).keeps (fun s e => xl_of s (Bool.and_eq_true_iff.mp e).1) XL.keeps
  (by rfl) (by rfl) (by rfl) (fun s e => recFacts_of (Bool.and_eq_true_iff.mp e).2) (by rfl) (by assumption) (by decide +kernel)
  ⟨rfl, rfl, rfl, rfl, rfl, by decide +kernel⟩ ?hw ?hc
 (case hw => w_witness2)
 k_fill
 refine L2.walk_ofK (l := PySem.Challenge.rw_fencegate_k12_numbers_rise) (n := 63) (k := 9) (x := "_law_script") (CX := L2.CX0) (sp := fun K => Fg.spLaw K) rfl (by decide) rfl ⟨rfl, by decide, by decide⟩ (fun w h Y => PySem.W.kIn_of Y) ?F (fun K H a ns hl hO hS => ⟨a, ns, rfl, hS, hl, fun _ => rfl⟩) (fun _ _ _ _ z => z)
 case F =>
  intro w mg fa h KX G hmg
  refine' Fg.all_mk KX G hmg ?y_b_all ?y_b_bool ?y_b_enumerate ?y_b_int ?y_b_isinstance ?y_b_len ?y_b_list ?y_b_max ?y_b_min ?y_b_range ?y_b_set ?y_b_sorted ?y_b_str ?y_b_tuple ?y_g_Council ?y_g_Down ?y_g_InTheWay ?y_g_Keeper ?y_g_NotFree ?y_g_OldNumber ?y_g_UnknownKeeper ?y_pg_Council ?y_hd_Council ?y_po_Council ?y_sa_Council ?y_n_Council_keepers ?y_n_Council_most ?y_pg_Keeper ?y_hd_Keeper ?y_po_Keeper ?y_sa_Keeper ?y_n_Keeper_up ?y_n_Keeper_top ?y_n_Keeper_kept ?y_x_Down ?y_x_InTheWay ?y_x_NotFree ?y_x_OldNumber ?y_x_UnknownKeeper ?y_sb_Down_NotFree ?y_sb_InTheWay_NotFree ?y_sb_NotFree_NotFree ?y_sb_OldNumber_NotFree ?y_sb_UnknownKeeper_NotFree ?a0 ?F0 ?a1 ?F1 ?a2 ?F2 ?a3 ?i3 ?F3 ?a4 ?i4 ?F4 ?a5 ?i5 ?F5 ?a6 ?i6 ?F6 ?a7 ?i7 ?F7 ?a8 ?i8 ?F8 ?a9 ?i9 ?F9 ?a10 ?i10 ?F10 ?a11 ?i11 ?F11 ?a12 ?i12 ?F12 ?a13 ?i13 ?F13 ?a14 ?i14 ?F14 ?a15 ?i15 ?F15 ?a16 ?i16 ?F16 ?a17 ?i17 ?F17 ?a18 ?i18 ?F18 ?a19 ?i19 ?F19 ?a20 ?F20 ?a21 ?F21 ?a22 ?F22 ?a23 ?F23 ?a24 ?F24 ?a25 ?F25 ?a26 ?F26 ?a27 ?F27 ?a28 ?F28 ?a29 ?F29 ?a30 ?F30 ?a31 ?F31 ?a32 ?F32 ?a33 ?F33 ?mk_Council ?kc_Council ?mk_Keeper ?kc_Keeper
  (case y_b_all => k_is)
  (case y_b_bool => k_is)
  (case y_b_enumerate => k_is)
  (case y_b_int => k_is)
  (case y_b_isinstance => k_is)
  (case y_b_len => k_is)
  (case y_b_list => k_is)
  (case y_b_max => k_is)
  (case y_b_min => k_is)
  (case y_b_range => k_is)
  (case y_b_set => k_is)
  (case y_b_sorted => k_is)
  (case y_b_str => k_is)
  (case y_b_tuple => k_is)
  (case y_g_Council => k_is)
  (case y_g_Down => k_is)
  (case y_g_InTheWay => k_is)
  (case y_g_Keeper => k_is)
  (case y_g_NotFree => k_is)
  (case y_g_OldNumber => k_is)
  (case y_g_UnknownKeeper => k_is)
  (case y_pg_Council => k_is)
  (case y_hd_Council => k_is)
  (case y_po_Council => k_is)
  (case y_sa_Council => k_is)
  (case y_n_Council_keepers => k_is)
  (case y_n_Council_most => k_is)
  (case y_pg_Keeper => k_is)
  (case y_hd_Keeper => k_is)
  (case y_po_Keeper => k_is)
  (case y_sa_Keeper => k_is)
  (case y_n_Keeper_up => k_is)
  (case y_n_Keeper_top => k_is)
  (case y_n_Keeper_kept => k_is)
  (case y_x_Down => k_exc)
  (case y_x_InTheWay => k_exc)
  (case y_x_NotFree => k_exc)
  (case y_x_OldNumber => k_exc)
  (case y_x_UnknownKeeper => k_exc)
  (case y_sb_Down_NotFree => k_is)
  (case y_sb_InTheWay_NotFree => k_is)
  (case y_sb_NotFree_NotFree => k_is)
  (case y_sb_OldNumber_NotFree => k_is)
  (case y_sb_UnknownKeeper_NotFree => k_is)
  (case a0 => k_is)
  (case F0 => (apply L2.fun_mk; k_is; k_is; k_is))
  (case a1 => k_is)
  (case F1 => (apply L2.fun_mk; k_is; k_is; k_is))
  (case a2 => k_is)
  (case F2 => (apply L2.fun_mk; k_is; k_is; k_is))
  (case a3 => k_is)
  (case i3 => k_is)
  (case F3 => (apply L2.fun_mk; k_is; k_is; k_is))
  (case a4 => k_is)
  (case i4 => k_is)
  (case F4 => (apply L2.fun_mk; k_is; k_is; k_is))
  (case a5 => k_is)
  (case i5 => k_is)
  (case F5 => (apply L2.fun_mk; k_is; k_is; k_is))
  (case a6 => k_is)
  (case i6 => k_is)
  (case F6 => (apply L2.fun_mk; k_is; k_is; k_is))
  (case a7 => k_is)
  (case i7 => k_is)
  (case F7 => (apply L2.fun_mk; k_is; k_is; k_is))
  (case a8 => k_is)
  (case i8 => k_is)
  (case F8 => (apply L2.fun_mk; k_is; k_is; k_is))
  (case a9 => k_is)
  (case i9 => k_is)
  (case F9 => (apply L2.fun_mk; k_is; k_is; k_is))
  (case a10 => k_is)
  (case i10 => k_is)
  (case F10 => (apply L2.fun_mk; k_is; k_is; k_is))
  (case a11 => k_is)
  (case i11 => k_is)
  (case F11 => (apply L2.fun_mk; k_is; k_is; k_is))
  (case a12 => k_is)
  (case i12 => k_is)
  (case F12 => (apply L2.fun_mk; k_is; k_is; k_is))
  (case a13 => k_is)
  (case i13 => k_is)
  (case F13 => (apply L2.fun_mk; k_is; k_is; k_is))
  (case a14 => k_is)
  (case i14 => k_is)
  (case F14 => (apply L2.fun_mk; k_is; k_is; k_is))
  (case a15 => k_is)
  (case i15 => k_is)
  (case F15 => (apply L2.fun_mk; k_is; k_is; k_is))
  (case a16 => k_is)
  (case i16 => k_is)
  (case F16 => (apply L2.fun_mk; k_is; k_is; k_is))
  (case a17 => k_is)
  (case i17 => k_is)
  (case F17 => (apply L2.fun_mk; k_is; k_is; k_is))
  (case a18 => k_is)
  (case i18 => k_is)
  (case F18 => (apply L2.fun_mk; k_is; k_is; k_is))
  (case a19 => k_is)
  (case i19 => k_is)
  (case F19 => (apply L2.fun_mk; k_is; k_is; k_is))
  (case a20 => k_is)
  (case F20 => (apply L2.fun_mk; k_is; k_is; k_is))
  (case a21 => k_is)
  (case F21 => (apply L2.fun_mk; k_is; k_is; k_is))
  (case a22 => k_is)
  (case F22 => (apply L2.fun_mk; k_is; k_is; k_is))
  (case a23 => k_is)
  (case F23 => (apply L2.fun_mk; k_is; k_is; k_is))
  (case a24 => k_is)
  (case F24 => (apply L2.fun_mk; k_is; k_is; k_is))
  (case a25 => k_is)
  (case F25 => (apply L2.fun_mk; k_is; k_is; k_is))
  (case a26 => k_is)
  (case F26 => (apply L2.fun_mk; k_is; k_is; k_is))
  (case a27 => k_is)
  (case F27 => (apply L2.fun_mk; k_is; k_is; k_is))
  (case a28 => k_is)
  (case F28 => (apply L2.fun_mk; k_is; k_is; k_is))
  (case a29 => k_is)
  (case F29 => (apply L2.fun_mk; k_is; k_is; k_is))
  (case a30 => k_is)
  (case F30 => (apply L2.fun_mk; k_is; k_is; k_is))
  (case a31 => k_is)
  (case F31 => (apply L2.fun_mk; k_is; k_is; k_is))
  (case a32 => k_is)
  (case F32 => (apply L2.fun_mk; k_is; k_is; k_is))
  (case a33 => k_is)
  (case F33 => (apply L2.fun_mk; k_is; k_is; k_is))
  (case mk_Council => k_is)
  (case kc_Council => k_is)
  (case mk_Keeper => k_is)
  (case kc_Keeper => k_is)
