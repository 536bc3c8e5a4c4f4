import PyProof.Rows.All
import Wide.All
import OpenK.KLine
import OpenK.KOwn
import OpenK.KRaise
import OpenK.KDescr
import OpenK.KCall
import OpenK.KCls
import OpenK.KMake
import OpenK.KMore
import OpenK.Peek
import KE.KFromBytes
import KE.KIsAll
import KE.KItem
import KE.KxBytes
import Wide.FinOn
import PyProof.EqAt
import PyProof.EqKinds
import PyProof.NeKinds
import PyProof.TupleCall
import PyProof.ExcBaseAll.ValueError
import PyProof.NsDelKeeps
import Lean
import PySem.Challenge.RW_fencegate_k10_council_second
section
set_option Elab.async false
set_option linter.all false
set_option maxRecDepth 100000
set_option maxHeartbeats 4000000
namespace Fg
open PySem
def ktop (i : Nat) : Stmt := PySem.Challenge.pw_fencegate_k10_council_second.main.body.getD i (.Pass ⟨0, 0, 0, 0⟩)
def kargs (s : Stmt) : Arguments := match s with
  | .FunctionDef _ a _ _ _ _ _ _ _ _ => a
  | _ => { posonlyargs := [], args := [], vararg := none, kwonlyargs := [], kw_defaults := [], kwarg := none, defaults := [] }
def kbody (s : Stmt) : List Stmt := match s with
  | .FunctionDef _ _ b _ _ _ _ _ _ _ => b
  | _ => []
def kscope (s : Stmt) : Scope := match s with
  | .FunctionDef _ _ _ _ _ _ sc _ _ _ => sc
  | _ => { kind := .function, names := [], isGenerator := false, isCoroutine := false }
def kcls (s : Stmt) (j : Nat) : Stmt := match s with
  | .ClassDef _ _ _ body _ _ _ _ _ _ _ => body.getD j (.Pass ⟨0, 0, 0, 0⟩)
  | _ => .Pass ⟨0, 0, 0, 0⟩
def kS (x : String) (n : Nat) : Value := .str (Str.ofString x) n
def kE (P : Params) (x : String) (n : Nat) (v : Value) : DictEntry := ⟨PyData.keyHash P (Str.ofString x), kS x n, v⟩
def kC (vs : Array Value) : Obj := { cls := .type "code", data := .fields vs }
def kF (n q : String) (s : Stmt) (m : Value) (c : Addr) : Obj := { cls := .type "function", data := .func { name := Str.ofString n, qualname := Str.ofString q, params := kargs s, body := .stmts (kbody s), scope := kscope s, globals := 3, closure := [], defaults := .none, kwdefaults := .none, pyModule := m, code := .ref c } }
def kk : Params → PySem.W.Frag := fun P => (nat_lit 2, { cls := .none, data := Data.dict #[] }) ::
  (nat_lit 3, { cls := .type "dict", data := Data.dict #[kE P "__name__" 165 (kS "law_fencegate_k10_council_second" 579), kE P "__doc__" 166 (.none), kE P "__package__" 167 (.none), kE P "__loader__" 168 (.builtin "__main__.__loader__#opaque"), kE P "__spec__" 169 (.none), kE P "__annotations__" 170 (.ref 6), kE P "__builtins__" 171 (.ref 4), kE P "__file__" 173 (kS "/claim/cut.py" 172), kE P "__cached__" 174 (.none), kE P "_wall" 193 (.ref 21), kE P "GateError" 220 (.ref 38), kE P "UnknownKeeper" 243 (.ref 58), kE P "Down" 266 (.ref 77), kE P "OldNumber" 289 (.ref 96), kE P "InTheWay" 312 (.ref 115), kE P "NotFree" 335 (.ref 134), kE P "within" 346 (.ref 143), kE P "on_line" 354 (.ref 150), kE P "in_way" 364 (.ref 157), kE P "Keeper" 448 (.ref 217), kE P "Council" 578 (.ref 314), kE P "_law_at" 588 (.ref 325), kE P "_law_same" 594 (.ref 330), kE P "_law_name" 609 (.ref 337), kE P "_law_names" 615 (.ref 342), kE P "_law_line" 626 (.ref 349), kE P "_law_way" 636 (.ref 356), kE P "_law_given" 647 (.ref 363), kE P "_law_stand" 658 (.ref 370), kE P "_law_noted" 664 (.ref 375), kE P "law" 670 (.ref 380)] 31 }) ::
  (nat_lit 37, { cls := .type "dict", data := Data.dict #[kE P "__module__" 203 (kS "fencegate.errors" 194), kE P "__firstlineno__" 207 (.int 5 206), kE P "word" 214 (.ref 35), kE P "__static_attributes__" 215 (.ref 36), kE P "__weakref__" 217 (.ref 39), kE P "__doc__" 218 (.none)] 3 }) ::
  (nat_lit 38, { cls := .type "type", data := Data.cls { name := Str.ofString "GateError", bases := [.type "ValueError"], mro := [.ref 38, .type "ValueError", .type "Exception", .type "BaseException", .type "object"], ns := 37, qualname := Str.ofString "GateError", subclasses := [.ref 58, .ref 77, .ref 96, .ref 115, .ref 134] }, slots := #[some (.ref 22), none, some (kS "GateError" 196), some (kS "GateError" 204), some (.builtin "ValueError.__new__"), some (.bool true)] }) ::
  (nat_lit 39, { cls := .type "getset_descriptor", data := Data.fields #[kS "__weakref__" 216, .ref 38, .builtin "ExceptionGroup.__weakref__", .none] }) ::
  (nat_lit 57, { cls := .type "dict", data := Data.dict #[kE P "__module__" 228 (kS "fencegate.errors" 194), kE P "__firstlineno__" 232 (.int 9 231), kE P "word" 239 (.ref 55), kE P "__static_attributes__" 240 (.ref 56), kE P "__doc__" 241 (.none)] 2 }) ::
  (nat_lit 58, { cls := .type "type", data := Data.cls { name := Str.ofString "UnknownKeeper", bases := [.ref 38], mro := [.ref 58, .ref 38, .type "ValueError", .type "Exception", .type "BaseException", .type "object"], ns := 57, qualname := Str.ofString "UnknownKeeper" }, slots := #[some (.ref 42), none, some (kS "UnknownKeeper" 221), some (kS "UnknownKeeper" 229), some (.builtin "ValueError.__new__"), some (.bool true)] }) ::
  (nat_lit 76, { cls := .type "dict", data := Data.dict #[kE P "__module__" 251 (kS "fencegate.errors" 194), kE P "__firstlineno__" 255 (.int 13 254), kE P "word" 262 (.ref 74), kE P "__static_attributes__" 263 (.ref 75), kE P "__doc__" 264 (.none)] 2 }) ::
  (nat_lit 77, { cls := .type "type", data := Data.cls { name := Str.ofString "Down", bases := [.ref 38], mro := [.ref 77, .ref 38, .type "ValueError", .type "Exception", .type "BaseException", .type "object"], ns := 76, qualname := Str.ofString "Down" }, slots := #[some (.ref 61), none, some (kS "Down" 244), some (kS "Down" 252), some (.builtin "ValueError.__new__"), some (.bool true)] }) ::
  (nat_lit 95, { cls := .type "dict", data := Data.dict #[kE P "__module__" 274 (kS "fencegate.errors" 194), kE P "__firstlineno__" 278 (.int 17 277), kE P "word" 285 (.ref 93), kE P "__static_attributes__" 286 (.ref 94), kE P "__doc__" 287 (.none)] 2 }) ::
  (nat_lit 96, { cls := .type "type", data := Data.cls { name := Str.ofString "OldNumber", bases := [.ref 38], mro := [.ref 96, .ref 38, .type "ValueError", .type "Exception", .type "BaseException", .type "object"], ns := 95, qualname := Str.ofString "OldNumber" }, slots := #[some (.ref 80), none, some (kS "OldNumber" 267), some (kS "OldNumber" 275), some (.builtin "ValueError.__new__"), some (.bool true)] }) ::
  (nat_lit 114, { cls := .type "dict", data := Data.dict #[kE P "__module__" 297 (kS "fencegate.errors" 194), kE P "__firstlineno__" 301 (.int 21 300), kE P "word" 308 (.ref 112), kE P "__static_attributes__" 309 (.ref 113), kE P "__doc__" 310 (.none)] 2 }) ::
  (nat_lit 115, { cls := .type "type", data := Data.cls { name := Str.ofString "InTheWay", bases := [.ref 38], mro := [.ref 115, .ref 38, .type "ValueError", .type "Exception", .type "BaseException", .type "object"], ns := 114, qualname := Str.ofString "InTheWay" }, slots := #[some (.ref 99), none, some (kS "InTheWay" 290), some (kS "InTheWay" 298), some (.builtin "ValueError.__new__"), some (.bool true)] }) ::
  (nat_lit 133, { cls := .type "dict", data := Data.dict #[kE P "__module__" 320 (kS "fencegate.errors" 194), kE P "__firstlineno__" 324 (.int 25 323), kE P "word" 331 (.ref 131), kE P "__static_attributes__" 332 (.ref 132), kE P "__doc__" 333 (.none)] 2 }) ::
  (nat_lit 134, { cls := .type "type", data := Data.cls { name := Str.ofString "NotFree", bases := [.ref 38], mro := [.ref 134, .ref 38, .type "ValueError", .type "Exception", .type "BaseException", .type "object"], ns := 133, qualname := Str.ofString "NotFree" }, slots := #[some (.ref 118), none, some (kS "NotFree" 313), some (kS "NotFree" 321), some (.builtin "ValueError.__new__"), some (.bool true)] }) ::
  (nat_lit 142, kC #[kS "within" 338, kS "within" 339, kS "/claim/cut.py" 340, .int 30 0, .int 2 0, .int 0 0, .int 0 0, .int 3 0, .ref 137, .bool true, .int 181 0, .ref 138, .none, .ref 139, .ref 140, .ref 141, .int 344 0, .int 30 0, kS "/claim/cut.py" 345]) ::
  (nat_lit 143, kF "within" "within" (ktop 9) (kS "fencegate.paths" 336) 142) ::
  (nat_lit 149, kC #[kS "on_line" 347, kS "on_line" 348, kS "/claim/cut.py" 349, .int 33 0, .int 2 0, .int 0 0, .int 0 0, .int 3 0, .ref 144, .bool true, .int 181 0, .ref 145, .none, .ref 146, .ref 147, .ref 148, .int 352 0, .int 33 0, kS "/claim/cut.py" 353]) ::
  (nat_lit 150, kF "on_line" "on_line" (ktop 10) (kS "fencegate.paths" 336) 149) ::
  (nat_lit 156, kC #[kS "in_way" 355, kS "in_way" 356, kS "/claim/cut.py" 357, .int 35 0, .int 4 0, .int 0 0, .int 0 0, .int 3 0, .ref 151, .bool true, .int 181 0, .ref 152, .none, .ref 153, .ref 154, .ref 155, .int 362 0, .int 35 0, kS "/claim/cut.py" 363]) ::
  (nat_lit 157, kF "in_way" "in_way" (ktop 11) (kS "fencegate.paths" 336) 156) ::
  (nat_lit 170, kC #[kS "__init__" 379, kS "Keeper.__init__" 380, kS "/claim/cut.py" 381, .int 40 0, .int 1 0, .int 0 0, .int 0 0, .int 3 0, .ref 165, .bool true, .int 181 0, .ref 166, .none, .ref 167, .ref 168, .ref 169, .int 383 0, .int 40 0, kS "/claim/cut.py" 384]) ::
  (nat_lit 171, kF "__init__" "Keeper.__init__" (kcls (ktop 13) 0) (kS "fencegate.keeper" 365) 170) ::
  (nat_lit 177, kC #[kS "fall" 386, kS "Keeper.fall" 387, kS "/claim/cut.py" 388, .int 45 0, .int 1 0, .int 0 0, .int 0 0, .int 3 0, .ref 172, .bool true, .int 181 0, .ref 173, .none, .ref 174, .ref 175, .ref 176, .int 390 0, .int 45 0, kS "/claim/cut.py" 391]) ::
  (nat_lit 178, kF "fall" "Keeper.fall" (kcls (ktop 13) 1) (kS "fencegate.keeper" 365) 177) ::
  (nat_lit 184, kC #[kS "rise" 393, kS "Keeper.rise" 394, kS "/claim/cut.py" 395, .int 48 0, .int 1 0, .int 0 0, .int 0 0, .int 3 0, .ref 179, .bool true, .int 181 0, .ref 180, .none, .ref 181, .ref 182, .ref 183, .int 397 0, .int 48 0, kS "/claim/cut.py" 398]) ::
  (nat_lit 185, kF "rise" "Keeper.rise" (kcls (ktop 13) 2) (kS "fencegate.keeper" 365) 184) ::
  (nat_lit 189, kC #[kS "live" 400, kS "Keeper.live" 401, kS "/claim/cut.py" 402, .int 51 0, .int 2 0, .int 0 0, .int 0 0, .int 3 0, .ref 186, .bool true, .int 181 0, .ref 187, .none, .none, .none, .ref 188, .int 403 0, .int 51 0, kS "/claim/cut.py" 404]) ::
  (nat_lit 190, kF "live" "Keeper.live" (kcls (ktop 13) 3) (kS "fencegate.keeper" 365) 189) ::
  (nat_lit 194, kC #[kS "names_in_way" 406, kS "Keeper.names_in_way" 407, kS "/claim/cut.py" 408, .int 54 0, .int 5 0, .int 0 0, .int 0 0, .int 3 0, .ref 191, .bool true, .int 181 0, .ref 192, .none, .none, .none, .ref 193, .int 409 0, .int 54 0, kS "/claim/cut.py" 410]) ::
  (nat_lit 195, kF "names_in_way" "Keeper.names_in_way" (kcls (ktop 13) 4) (kS "fencegate.keeper" 365) 194) ::
  (nat_lit 201, kC #[kS "says_free" 412, kS "Keeper.says_free" 413, kS "/claim/cut.py" 414, .int 58 0, .int 5 0, .int 0 0, .int 0 0, .int 3 0, .ref 196, .bool true, .int 181 0, .ref 197, .none, .ref 198, .ref 199, .ref 200, .int 420 0, .int 58 0, kS "/claim/cut.py" 421]) ::
  (nat_lit 202, kF "says_free" "Keeper.says_free" (kcls (ktop 13) 5) (kS "fencegate.keeper" 365) 201) ::
  (nat_lit 206, kC #[kS "take" 423, kS "Keeper.take" 424, kS "/claim/cut.py" 425, .int 61 0, .int 7 0, .int 0 0, .int 0 0, .int 3 0, .ref 203, .bool true, .int 181 0, .ref 204, .none, .none, .none, .ref 205, .int 426 0, .int 61 0, kS "/claim/cut.py" 427]) ::
  (nat_lit 207, kF "take" "Keeper.take" (kcls (ktop 13) 6) (kS "fencegate.keeper" 365) 206) ::
  (nat_lit 216, { cls := .type "dict", data := Data.dict #[kE P "__module__" 374 (kS "fencegate.keeper" 365), kE P "__firstlineno__" 378 (.int 38 377), kE P "__init__" 385 (.ref 171), kE P "fall" 392 (.ref 178), kE P "rise" 399 (.ref 185), kE P "live" 405 (.ref 190), kE P "names_in_way" 411 (.ref 195), kE P "says_free" 422 (.ref 202), kE P "take" 428 (.ref 207), kE P "drop" 437 (.ref 214), kE P "__static_attributes__" 441 (.ref 215), kE P "__dict__" 443 (.ref 218), kE P "__weakref__" 445 (.ref 219), kE P "__doc__" 446 (.none)] 4 }) ::
  (nat_lit 217, { cls := .type "type", data := Data.cls { name := Str.ofString "Keeper", bases := [.type "object"], mro := [.ref 217, .type "object"], ns := 216, qualname := Str.ofString "Keeper" }, slots := #[none, none, some (kS "Keeper" 367), some (kS "Keeper" 375), some (.builtin "object.__new__"), some (.bool true)] }) ::
  (nat_lit 218, { cls := .type "getset_descriptor", data := Data.fields #[kS "__dict__" 442, .ref 217, .builtin "function.__dict__", .builtin "function.__dict__#set"] }) ::
  (nat_lit 219, { cls := .type "getset_descriptor", data := Data.fields #[kS "__weakref__" 444, .ref 217, .builtin "ExceptionGroup.__weakref__", .none] }) ::
  (nat_lit 232, kC #[kS "__init__" 463, kS "Council.__init__" 464, kS "/claim/cut.py" 465, .int 77 0, .int 2 0, .int 0 0, .int 0 0, .int 3 0, .ref 229, .bool true, .int 181 0, .ref 230, .none, .none, .none, .ref 231, .int 466 0, .int 77 0, kS "/claim/cut.py" 467]) ::
  (nat_lit 233, kF "__init__" "Council.__init__" (kcls (ktop 15) 0) (kS "fencegate.council" 449) 232) ::
  (nat_lit 239, kC #[kS "keeper_at" 469, kS "Council.keeper_at" 470, kS "/claim/cut.py" 471, .int 81 0, .int 2 0, .int 0 0, .int 0 0, .int 3 0, .ref 234, .bool true, .int 181 0, .ref 235, .none, .ref 236, .ref 237, .ref 238, .int 474 0, .int 81 0, kS "/claim/cut.py" 475]) ::
  (nat_lit 240, kF "keeper_at" "Council.keeper_at" (kcls (ktop 15) 1) (kS "fencegate.council" 449) 239) ::
  (nat_lit 244, kC #[kS "up_keepers" 477, kS "Council.up_keepers" 478, kS "/claim/cut.py" 479, .int 86 0, .int 1 0, .int 0 0, .int 0 0, .int 3 0, .ref 241, .bool true, .int 181 0, .ref 242, .none, .none, .none, .ref 243, .int 480 0, .int 86 0, kS "/claim/cut.py" 481]) ::
  (nat_lit 245, kF "up_keepers" "Council.up_keepers" (kcls (ktop 15) 2) (kS "fencegate.council" 449) 244) ::
  (nat_lit 251, kC #[kS "fall" 483, kS "Council.fall" 484, kS "/claim/cut.py" 485, .int 89 0, .int 2 0, .int 0 0, .int 0 0, .int 3 0, .ref 246, .bool true, .int 181 0, .ref 247, .none, .ref 248, .ref 249, .ref 250, .int 490 0, .int 89 0, kS "/claim/cut.py" 491]) ::
  (nat_lit 252, kF "fall" "Council.fall" (kcls (ktop 15) 3) (kS "fencegate.council" 449) 251) ::
  (nat_lit 258, kC #[kS "rise" 493, kS "Council.rise" 494, kS "/claim/cut.py" 495, .int 95 0, .int 2 0, .int 0 0, .int 0 0, .int 3 0, .ref 253, .bool true, .int 181 0, .ref 254, .none, .ref 255, .ref 256, .ref 257, .int 500 0, .int 95 0, kS "/claim/cut.py" 501]) ::
  (nat_lit 259, kF "rise" "Council.rise" (kcls (ktop 15) 4) (kS "fencegate.council" 449) 258) ::
  (nat_lit 272, kC #[kS "notes" 510, kS "Council.notes" 511, kS "/claim/cut.py" 512, .int 104 0, .int 3 0, .int 0 0, .int 0 0, .int 3 0, .ref 267, .bool true, .int 181 0, .ref 268, .none, .ref 269, .ref 270, .ref 271, .int 516 0, .int 104 0, kS "/claim/cut.py" 517]) ::
  (nat_lit 273, kF "notes" "Council.notes" (kcls (ktop 15) 6) (kS "fencegate.council" 449) 272) ::
  (nat_lit 277, kC #[kS "sayers" 519, kS "Council.sayers" 520, kS "/claim/cut.py" 521, .int 107 0, .int 5 0, .int 0 0, .int 0 0, .int 3 0, .ref 274, .bool true, .int 181 0, .ref 275, .none, .none, .none, .ref 276, .int 522 0, .int 107 0, kS "/claim/cut.py" 523]) ::
  (nat_lit 278, kF "sayers" "Council.sayers" (kcls (ktop 15) 7) (kS "fencegate.council" 449) 277) ::
  (nat_lit 282, kC #[kS "give" 525, kS "Council.give" 526, kS "/claim/cut.py" 527, .int 110 0, .int 6 0, .int 0 0, .int 0 0, .int 3 0, .ref 279, .bool true, .int 181 0, .ref 280, .none, .none, .none, .ref 281, .int 528 0, .int 110 0, kS "/claim/cut.py" 529]) ::
  (nat_lit 283, kF "give" "Council.give" (kcls (ktop 15) 8) (kS "fencegate.council" 449) 282) ::
  (nat_lit 313, { cls := .type "dict", data := Data.dict #[kE P "__module__" 458 (kS "fencegate.council" 449), kE P "__firstlineno__" 462 (.int 75 461), kE P "__init__" 468 (.ref 233), kE P "keeper_at" 476 (.ref 240), kE P "up_keepers" 482 (.ref 245), kE P "fall" 492 (.ref 252), kE P "rise" 502 (.ref 259), kE P "ups" 509 (.ref 266), kE P "notes" 518 (.ref 273), kE P "sayers" 524 (.ref 278), kE P "give" 530 (.ref 283), kE P "drop" 539 (.ref 290), kE P "having" 548 (.ref 297), kE P "free_by" 557 (.ref 304), kE P "named" 568 (.ref 311), kE P "__static_attributes__" 571 (.ref 312), kE P "__dict__" 573 (.ref 315), kE P "__weakref__" 575 (.ref 316), kE P "__doc__" 576 (.none)] 4 }) ::
  (nat_lit 314, { cls := .type "type", data := Data.cls { name := Str.ofString "Council", bases := [.type "object"], mro := [.ref 314, .type "object"], ns := 313, qualname := Str.ofString "Council" }, slots := #[none, none, some (kS "Council" 451), some (kS "Council" 459), some (.builtin "object.__new__"), some (.bool true)] }) ::
  (nat_lit 315, { cls := .type "getset_descriptor", data := Data.fields #[kS "__dict__" 572, .ref 314, .builtin "function.__dict__", .builtin "function.__dict__#set"] }) ::
  (nat_lit 316, { cls := .type "getset_descriptor", data := Data.fields #[kS "__weakref__" 574, .ref 314, .builtin "ExceptionGroup.__weakref__", .none] }) ::
  (nat_lit 324, kC #[kS "_law_at" 581, kS "_law_at" 582, kS "/claim/cut.py" 583, .int 131 0, .int 2 0, .int 0 0, .int 0 0, .int 3 0, .ref 319, .bool true, .int 181 0, .ref 320, .none, .ref 321, .ref 322, .ref 323, .int 586 0, .int 131 0, kS "/claim/cut.py" 587]) ::
  (nat_lit 325, kF "_law_at" "_law_at" (ktop 17) (kS "law_fencegate_k10_council_second" 579) 324) ::
  (nat_lit 329, kC #[kS "_law_same" 589, kS "_law_same" 590, kS "/claim/cut.py" 591, .int 135 0, .int 2 0, .int 0 0, .int 0 0, .int 3 0, .ref 326, .bool true, .int 181 0, .ref 327, .none, .none, .none, .ref 328, .int 592 0, .int 135 0, kS "/claim/cut.py" 593]) ::
  (nat_lit 330, kF "_law_same" "_law_same" (ktop 18) (kS "law_fencegate_k10_council_second" 579) 329) ::
  (nat_lit 336, kC #[kS "_law_name" 595, kS "_law_name" 596, kS "/claim/cut.py" 597, .int 145 0, .int 2 0, .int 0 0, .int 0 0, .int 3 0, .ref 331, .bool true, .int 181 0, .ref 332, .none, .ref 333, .ref 334, .ref 335, .int 607 0, .int 145 0, kS "/claim/cut.py" 608]) ::
  (nat_lit 337, kF "_law_name" "_law_name" (ktop 19) (kS "law_fencegate_k10_council_second" 579) 336) ::
  (nat_lit 341, kC #[kS "_law_names" 610, kS "_law_names" 611, kS "/claim/cut.py" 612, .int 161 0, .int 2 0, .int 0 0, .int 0 0, .int 3 0, .ref 338, .bool true, .int 181 0, .ref 339, .none, .none, .none, .ref 340, .int 613 0, .int 161 0, kS "/claim/cut.py" 614]) ::
  (nat_lit 342, kF "_law_names" "_law_names" (ktop 20) (kS "law_fencegate_k10_council_second" 579) 341) ::
  (nat_lit 348, kC #[kS "_law_line" 616, kS "_law_line" 617, kS "/claim/cut.py" 618, .int 163 0, .int 2 0, .int 0 0, .int 0 0, .int 3 0, .ref 343, .bool true, .int 181 0, .ref 344, .none, .ref 345, .ref 346, .ref 347, .int 624 0, .int 163 0, kS "/claim/cut.py" 625]) ::
  (nat_lit 349, kF "_law_line" "_law_line" (ktop 21) (kS "law_fencegate_k10_council_second" 579) 348) ::
  (nat_lit 355, kC #[kS "_law_way" 627, kS "_law_way" 628, kS "/claim/cut.py" 629, .int 168 0, .int 4 0, .int 0 0, .int 0 0, .int 3 0, .ref 350, .bool true, .int 181 0, .ref 351, .none, .ref 352, .ref 353, .ref 354, .int 634 0, .int 168 0, kS "/claim/cut.py" 635]) ::
  (nat_lit 356, kF "_law_way" "_law_way" (ktop 22) (kS "law_fencegate_k10_council_second" 579) 355) ::
  (nat_lit 362, kC #[kS "_law_given" 637, kS "_law_given" 638, kS "/claim/cut.py" 639, .int 170 0, .int 3 0, .int 0 0, .int 0 0, .int 3 0, .ref 357, .bool true, .int 181 0, .ref 358, .none, .ref 359, .ref 360, .ref 361, .int 645 0, .int 170 0, kS "/claim/cut.py" 646]) ::
  (nat_lit 363, kF "_law_given" "_law_given" (ktop 23) (kS "law_fencegate_k10_council_second" 579) 362) ::
  (nat_lit 369, kC #[kS "_law_stand" 648, kS "_law_stand" 649, kS "/claim/cut.py" 650, .int 176 0, .int 3 0, .int 0 0, .int 0 0, .int 3 0, .ref 364, .bool true, .int 181 0, .ref 365, .none, .ref 366, .ref 367, .ref 368, .int 656 0, .int 176 0, kS "/claim/cut.py" 657]) ::
  (nat_lit 370, kF "_law_stand" "_law_stand" (ktop 24) (kS "law_fencegate_k10_council_second" 579) 369) ::
  (nat_lit 374, kC #[kS "_law_noted" 659, kS "_law_noted" 660, kS "/claim/cut.py" 661, .int 186 0, .int 4 0, .int 0 0, .int 0 0, .int 3 0, .ref 371, .bool true, .int 181 0, .ref 372, .none, .none, .none, .ref 373, .int 662 0, .int 186 0, kS "/claim/cut.py" 663]) ::
  (nat_lit 375, kF "_law_noted" "_law_noted" (ktop 25) (kS "law_fencegate_k10_council_second" 579) 374) ::
  (nat_lit 379, kC #[kS "law" 665, kS "law" 666, kS "/claim/cut.py" 667, .int 192 0, .int 1 0, .int 0 0, .int 0 0, .int 3 0, .ref 376, .bool true, .int 181 0, .ref 377, .none, .none, .none, .ref 378, .int 668 0, .int 192 0, kS "/claim/cut.py" 669]) ::
  (nat_lit 380, kF "law" "law" (ktop 26) (kS "law_fencegate_k10_council_second" 579) 379) :: []
def ka : List Addr := 2 :: 3 :: 37 :: 38 :: 39 :: 57 :: 58 :: 76 :: 77 :: 95 :: 96 :: 114 :: 115 :: 133 :: 134 :: 142 :: 143 :: 149 :: 150 :: 156 :: 157 :: 170 :: 171 :: 177 :: 178 :: 184 :: 185 :: 189 :: 190 :: 194 :: 195 :: 201 :: 202 :: 206 :: 207 :: 216 :: 217 :: 218 :: 219 :: 232 :: 233 :: 239 :: 240 :: 244 :: 245 :: 251 :: 252 :: 258 :: 259 :: 272 :: 273 :: 277 :: 278 :: 282 :: 283 :: 313 :: 314 :: 315 :: 316 :: 324 :: 325 :: 329 :: 330 :: 336 :: 337 :: 341 :: 342 :: 348 :: 349 :: 355 :: 356 :: 362 :: 363 :: 369 :: 370 :: 374 :: 375 :: 379 :: 380 :: []
def vw : Program := { PySem.Challenge.pw_fencegate_k10_council_second with main := { PySem.Challenge.pw_fencegate_k10_council_second.main with body := ktop 0 :: ktop 2 :: ktop 3 :: ktop 4 :: ktop 5 :: ktop 6 :: ktop 7 :: ktop 9 :: ktop 10 :: ktop 11 :: ktop 13 :: ktop 15 :: ktop 17 :: ktop 18 :: ktop 19 :: ktop 20 :: ktop 21 :: ktop 22 :: ktop 23 :: ktop 24 :: ktop 25 :: ktop 26 :: [] } }
theorem ka_eq (P : Params) : ka = (kk P).map (·.1) := by kernel_rfl
set_option maxHeartbeats 0 in
theorem left_ok : PySem.W.LeftO PySem.Challenge.rw_fencegate_k10_council_second.row.prog vw [] (fun s => PySem.W.xlAt vw [] s && PySem.W.recOk (PySem.W.RowW.records (PySem.W.OpenRow.toRowW PySem.Challenge.rw_fencegate_k10_council_second.row)) s)
    (PySem.W.kHook kk ka ka_eq).obs (PySem.W.kHook kk ka ka_eq).val 6002 := fun w => by kernel_rfl
end Fg

end
section
set_option Elab.async false
set_option linter.all false
set_option maxRecDepth 100000
/-! THE HAND LAYER, for ints, bools, texts, own classes, LISTS and tuples (index, slices, in, append, pop ..), calls, loops. Paste it whole ahead of your own text; what your proof does not reach may be deleted. -/
namespace L2
open PySem PySem.Spec PyProof.Rows

/-- a key: an int or a str -/
abbrev Key := Sum Int Str
def keyIs : Key → Value → Bool
  | .inl k, v => Value.isInt k v
  | .inr x, v => Value.isStrOf x v
def keyH (w : World) : Key → Int
  | .inl k => hashInt k
  | .inr x => hashStr w x
theorem keyIs_shape : ∀ {k : Key} {v : Value}, keyIs k v = true → (∃ i t, k = Sum.inl i ∧ v = Value.int i t) ∨ (∃ x t, k = Sum.inr x ∧ v = Value.str x t)
  | .inl i, v, h => by
    obtain ⟨t, e⟩ := Value.isInt_shape (k := i) (v := v) h
    exact .inl ⟨i, t, rfl, e⟩
  | .inr x, v, h => by
    obtain ⟨t, e⟩ := Value.isStrOf_shape (x := x) (v := v) h
    exact .inr ⟨x, t, rfl, e⟩
theorem key_ll (a b : Int) : decide ((Sum.inl a : Key) = Sum.inl b) = (a == b) := by
  by_cases e : a = b
  · subst e; simp
  · have h : ¬ (Sum.inl a : Key) = Sum.inl b := fun q => e (Sum.inl.inj q)
    rw [decide_eq_false h]
    exact (beq_eq_false_iff_ne.mpr e).symm
theorem key_rr (a b : Str) : decide ((Sum.inr a : Key) = Sum.inr b) = decide (a = b) := by
  by_cases e : a = b
  · subst e; simp
  · have h : ¬ (Sum.inr a : Key) = Sum.inr b := fun q => e (Sum.inr.inj q)
    rw [decide_eq_false h, decide_eq_false e]
theorem key_lr (a : Int) (b : Str) : decide ((Sum.inl a : Key) = Sum.inr b) = false := decide_eq_false (fun q => nomatch q)
theorem key_rl (a : Str) (b : Int) : decide ((Sum.inr a : Key) = Sum.inl b) = false := decide_eq_false (fun q => nomatch q)

def mixKind (prog : Program) (w : World) : PySem.KeyKind prog w Key where
  is := keyIs
  hash := keyH w
  inj := fun v a b ha hb => by
    rcases keyIs_shape ha with ⟨i, t, rfl, rfl⟩ | ⟨x, t, rfl, rfl⟩
    · rcases keyIs_shape hb with ⟨j, u, rfl, e⟩ | ⟨y, u, rfl, e⟩
      · injection e with e1 _; rw [e1]
      · exact nomatch e
    · rcases keyIs_shape hb with ⟨j, u, rfl, e⟩ | ⟨y, u, rfl, e⟩
      · exact nomatch e
      · injection e with e1 _; rw [e1]
  byValue := fun k v h => by
    rcases keyIs_shape h with ⟨i, t, rfl, rfl⟩ | ⟨x, t, rfl, rfl⟩ <;> rfl
  pyHash := fun hv h => by
    rcases keyIs_shape hv with ⟨i, t, rfl, rfl⟩ | ⟨x, t, rfl, rfl⟩
    · exact wpAny_pyHash_int h
    · exact wpAny_pyHash_str h
  eqBool := fun hu hv h => by
    rcases keyIs_shape hu with ⟨i, t, rfl, rfl⟩ | ⟨x, t, rfl, rfl⟩
    · rcases keyIs_shape hv with ⟨j, u, rfl, rfl⟩ | ⟨y, u, rfl, rfl⟩
      · rw [key_ll] at h; exact wpAny_eqBool_int h
      · rw [key_lr] at h; exact SeqAt.EqAt.int_str i t y u _ _ _ _ h
    · rcases keyIs_shape hv with ⟨j, u, rfl, rfl⟩ | ⟨y, u, rfl, rfl⟩
      · rw [key_rl] at h; exact SeqAt.EqAt.str_int x t j u _ _ _ _ h
      · rw [key_rr] at h; exact wpAny_eqBool_str h
  «strs» := fun k x t v h => by
    rcases keyIs_shape h with ⟨i, u, rfl, e⟩ | ⟨y, u, rfl, e⟩
    · exact nomatch e
    · injection e with e1 _
      subst e1
      cases v <;> rfl

end L2

namespace L2
open PySem PySem.Spec PyProof.Rows

/-- a value, without the heap -/
inductive V where
  | non | bl (b : Bool) | int (i : Int) | str (x : Str) | byt (b : Array UInt8) | flt (b : UInt64) | ref (a : Addr) | ty (n : String)
  deriving DecidableEq

def RelV : V → Value → Prop
  | .non, u => u = Value.none
  | .bl b, u => u = Value.bool b
  | .int i, u => ∃ t, u = Value.int i t
  | .str x, u => ∃ t, u = Value.str x t
  | .byt b, u => ∃ t, u = Value.bytes b t
  | .flt b, u => ∃ t, u = Value.float b t
  | .ref a, u => u = Value.ref a
  | .ty n, u => u = Value.type n

abbrev Vals : List V → List Value → Prop := Paired RelV
theorem Vals.length {xs : List V} {us : List Value} (r : Vals xs us) : xs.length = us.length := Paired.length r
theorem Vals.get : ∀ {xs : List V} {us : List Value} {i : Nat} {x : V}, Vals xs us → xs[i]? = some x → ∃ u, us[i]? = some u ∧ RelV x u
  | _, _, _, _, .nil, e => by simp at e
  | _, _, 0, _, .cons r _, e => by simp at e; subst e; exact ⟨_, rfl, r⟩
  | _, _, i + 1, x, .cons _ t, e => by
    obtain ⟨u, h1, h2⟩ := Vals.get (i := i) (x := x) t (by simpa using e)
    exact ⟨u, by simpa using h1, h2⟩
theorem Vals.set {x : V} {u : Value} (r : RelV x u) : ∀ {xs : List V} {us : List Value} (i : Nat), Vals xs us → Vals (xs.set i x) (us.set i u)
  | _, _, _, .nil => .nil
  | _, _, 0, .cons _ t => .cons r t
  | _, _, i + 1, .cons q t => .cons q (Vals.set r i t)
theorem Vals.append : ∀ {xs ys : List V} {us ws : List Value}, Vals xs us → Vals ys ws → Vals (xs ++ ys) (us ++ ws)
  | _, _, _, _, .nil, s => s
  | _, _, _, _, .cons r t, s => .cons r (Vals.append t s)
theorem Vals.take : ∀ {xs : List V} {us : List Value} (n : Nat), Vals xs us → Vals (xs.take n) (us.take n)
  | _, _, 0, _ => .nil
  | _, _, _ + 1, .nil => .nil
  | _, _, n + 1, .cons r t => .cons r (Vals.take n t)
theorem Vals.drop : ∀ {xs : List V} {us : List Value} (n : Nat), Vals xs us → Vals (xs.drop n) (us.drop n)
  | _, _, 0, r => r
  | _, _, _ + 1, .nil => .nil
  | _, _, n + 1, .cons _ t => Vals.drop n t
theorem Vals.none_of : ∀ {xs : List V} {us : List Value} {i : Nat}, Vals xs us → xs[i]? = none → us[i]? = none := fun {xs us i} r e => by
  have h1 := r.length
  have h2 : xs.length ≤ i := List.getElem?_eq_none_iff.mp e
  exact List.getElem?_eq_none_iff.mpr (by omega)

def RelO : Option V → Option Value → Prop
  | some v, some u => RelV v u
  | none, none => True
  | _, _ => False
def KV {κ : Type} : List (κ × V) → List (κ × Value) → Prop := Paired fun (p : κ × V) (q : κ × Value) => p.1 = q.1 ∧ RelV p.2 q.2

/-- a key of a dict (00_mix): an int or a text -/
def kV : Key → V
  | .inl i => .int i
  | .inr x => .str x

/-- what stands at a tracked address -/
inductive HO where
  /-- a list -/
  | lst (xs : List V)
  /-- a tuple (never changes) -/
  | tup (xs : List V)
  /-- a dict whose keys are ints and texts; one whose keys are tuples of ints and texts (the empty one is both) -/
  | dK (kvs : List (Key × V)) | dT (kvs : List (List Key × V))
  /-- a set of ints: its members, its size -/
  | set (S : Int → Bool) (n : Nat)
  /-- an instance of the class at C, its dict at dx, its attributes -/
  | ins (C dx : Addr) (fs : List (Str × V))
  /-- the dict of the instance at x -/
  | own (x : Addr)
  /-- the dict of an exception -/
  | xd (fs : List (Str × V))
  /-- a bound method, f of x -/
  | met (f x : Addr)
  /-- a range object lo, lo + 1, .. below hi -/
  | rng (lo hi : Int)
  /-- a thing that is known to the object (the script; a dict while a loop walks it): read, never written while it is so -/
  | frz (o : Obj) (u : HO)
  /-- a code object's table -/
  | tbl (ps : Array Value)
  /-- any other thing, by what is true of its one object (a def of one's own: SetO a S n := HO.ext fun h => ..) -/
  | ext (φ : Heap → Prop)

abbrev Hp := Addr → Option HO
def upd (H : Hp) (a : Addr) (o : HO) : Hp := fun b => if b = a then some o else H b
theorem upd_same {H : Hp} {a : Addr} {o : HO} : upd H a o a = some o := by unfold upd; rw [if_pos rfl]
theorem upd_ne {H : Hp} {a b : Addr} {o : HO} (h : b ≠ a) : upd H a o b = H b := by unfold upd; rw [if_neg h]
theorem ne_of_none {H : Hp} {a b : Addr} {o : HO} (h : H a = some o) (h' : H b = none) : a ≠ b := by
  intro e; subst e; rw [h] at h'; cases h'

section
variable (P : Program) (w : World)
def ObjOk (H : Hp) (h : Heap) (a : Addr) : HO → Prop
  | .lst xs => xs.length ≤ sizeLine ∧ ∃ (its : List Value) (n : Nat), Vals xs its ∧ h.get? a = some { cls := .type "list", data := .seq its.toArray n }
  | .tup xs => xs.length ≤ sizeLine ∧ ∃ its : List Value, Vals xs its ∧ IsTup h a its.toArray
  | .dK kvs => kvs.length ≤ sizeLine ∧ (a == sysModules) = false ∧ ∃ vs, KV kvs vs ∧ h.DictOf (mixKind P w) a vs
  | .dT kvs => kvs.length ≤ sizeLine ∧ (a == sysModules) = false ∧ ∃ xs : List (List Key × Addr × Value),
      Paired (fun (p : List Key × V) (q : List Key × Addr × Value) => p.1 = q.1 ∧ H q.2.1 = some (.tup (p.1.map kV)) ∧ RelV p.2 q.2.2) kvs xs ∧
      ∃ o es ep, h.get? a = some o ∧ o.ExactDict ∧ o.data = .dict es ep ∧ es.toList = xs.map (entryOfKey (tupleKind (mixKind P w))) ∧ (xs.map (·.1)).Nodup
  | .set S n => h.SetOf (intKind P w) a S n
  | .ins C dx fs => H dx = some (.own a) ∧ fs.length ≤ 1000 ∧ dx ≠ a ∧ h.get? a = some (PySem.W.instObj C dx) ∧
      ∃ mA, h.Ns1 dx mA ∧ (∀ f, RelO (fs.lookup f) (mA f)) ∧ PySem.Within mA (fs.map (·.1))
  | .own _ => ∃ o, h.get? a = some o
  | .xd fs => ∃ mA, h.Ns1 a mA ∧ ∀ f, RelO (fs.lookup f) (mA f)
  | .rng lo hi => ∃ t u v, h.get? a = some { cls := .type "range", data := .fields #[.int lo t, .int hi u, .int 1 v] }
  | .frz o u => h.get? a = some o ∧ ObjOk H h a u
  | .tbl ps => h.get? a = some { cls := .none, data := .fields ps }
  | .met f x => h.get? a = some (PySem.W.methodObj (.ref f) (.ref x))
  | .ext φ => φ h ∧ (∃ o, h.get? a = some o) ∧ ∀ h1 h2 : Heap, φ h1 → (∀ o, h1.get? a = some o → h2.get? a = some o) → φ h2
/-- the abstract heap is held -/
def HOk (H : Hp) (h : Heap) : Prop := ∀ a o, H a = some o → ObjOk P w H h a o
end

section
variable {P : Program} {w : World} {H H' : Hp} {h h' : Heap} {a : Addr} {o : HO}
theorem ObjOk.lt (x : ObjOk P w H h a o) : a < h.objs.size := by
  cases o with
  | lst xs => obtain ⟨_, _, _, _, e⟩ := x; exact Heap.lt_size e
  | tup xs => obtain ⟨_, _, _, p⟩ := x; exact p.lt
  | dK kvs => obtain ⟨_, _, _, _, o, _, _, e, _⟩ := x; exact Heap.lt_size e
  | dT kvs => obtain ⟨_, _, _, _, o, _, _, e, _⟩ := x; exact Heap.lt_size e
  | set S n => obtain ⟨o, _, _, _, e, _⟩ := x; exact Heap.lt_size e
  | ins C dx fs => obtain ⟨_, _, _, e, _⟩ := x; exact Heap.lt_size e
  | own y => obtain ⟨_, e⟩ := x; exact Heap.lt_size e
  | xd fs => obtain ⟨_, ⟨_, _, _, e, _⟩, _⟩ := x; exact Heap.lt_size e
  | rng lo hi => obtain ⟨_, _, _, e⟩ := x; exact Heap.lt_size e
  | frz ob u => obtain ⟨e, _⟩ := x; exact Heap.lt_size e
  | tbl ps => exact Heap.lt_size (show h.get? a = some _ from x)
  | met f y => exact Heap.lt_size (show h.get? a = some _ from x)
  | ext φ => obtain ⟨_, ⟨_, e⟩, _⟩ := x; exact Heap.lt_size e
theorem Paired.mapP {α β : Type} {F G : α → β → Prop} : ∀ {l₁ : List α} {l₂ : List β}, Paired F l₁ l₂ → (∀ a b, F a b → G a b) → Paired G l₁ l₂
  | _, _, .nil, _ => .nil
  | _, _, .cons r t, f => .cons (f _ _ r) (Paired.mapP t f)
/-- what an object's description leans on: its own object, its own dict, the tuples -/
theorem ObjOk.stay (x : ObjOk P w H h a o) (k : ∀ b u, (b = a ∨ H b = some (.own a)) → h.get? b = some u → h'.get? b = some u)
    (ho : ∀ b, H b = some (.own a) → H' b = some (.own a)) (ht : ∀ b xs, H b = some (.tup xs) → H' b = some (.tup xs)) : ObjOk P w H' h' a o := by
  induction o with
  | lst xs => obtain ⟨z, its, n, r, e⟩ := x; exact ⟨z, its, n, r, k _ _ (.inl rfl) e⟩
  | tup xs => obtain ⟨z, its, r, ob, e, c⟩ := x; exact ⟨z, its, r, ob, k _ _ (.inl rfl) e, c⟩
  | dK kvs => obtain ⟨z, y, vs, r, ob, es, ep, e, c⟩ := x; exact ⟨z, y, vs, r, ob, es, ep, k _ _ (.inl rfl) e, c⟩
  | dT kvs =>
    obtain ⟨z, y, xs, r, ob, es, ep, e, c⟩ := x
    exact ⟨z, y, xs, Paired.mapP r fun p q z => ⟨z.1, ht _ _ z.2.1, z.2.2⟩, ob, es, ep, k _ _ (.inl rfl) e, c⟩
  | set S n => obtain ⟨ob, es, ep, t, e, c⟩ := x; exact ⟨ob, es, ep, t, k _ _ (.inl rfl) e, c⟩
  | ins C dx fs =>
    obtain ⟨d, z, ne, e, mA, ⟨od, es, ep, e2, c⟩, r⟩ := x
    exact ⟨ho _ d, z, ne, k _ _ (.inl rfl) e, mA, ⟨od, es, ep, k _ _ (.inr d) e2, c⟩, r⟩
  | own y => obtain ⟨ob, e⟩ := x; exact ⟨ob, k _ _ (.inl rfl) e⟩
  | xd fs => obtain ⟨mA, ⟨od, es, ep, e, c⟩, r⟩ := x; exact ⟨mA, ⟨od, es, ep, k _ _ (.inl rfl) e, c⟩, r⟩
  | rng lo hi => obtain ⟨t, u, v, e⟩ := x; exact ⟨t, u, v, k _ _ (.inl rfl) e⟩
  | frz ob u ih => obtain ⟨e, q⟩ := x; exact ⟨k _ _ (.inl rfl) e, ih q⟩
  | tbl ps =>
    have e : h.get? a = some { cls := .none, data := .fields ps } := x
    show h'.get? a = some { cls := .none, data := .fields ps }
    exact k a _ (.inl rfl) e
  | met f y =>
    have e : h.get? a = some (PySem.W.methodObj (.ref f) (.ref y)) := x
    show h'.get? a = some (PySem.W.methodObj (.ref f) (.ref y))
    exact k a _ (.inl rfl) e
  | ext φ => obtain ⟨p, ⟨o, e⟩, st⟩ := x; exact ⟨st _ _ p fun o q => k _ _ (.inl rfl) q, ⟨o, k _ _ (.inl rfl) e⟩, st⟩
theorem HOk.lt (x : HOk P w H h) (e : H a = some o) : a < h.objs.size := (x a o e).lt
theorem HOk.fresh (x : HOk P w H h) (e : h.objs.size ≤ a) : H a = none := by
  cases q : H a with
  | none => rfl
  | some u => exact absurd (Nat.lt_of_lt_of_le (x.lt q) e) (Nat.lt_irrefl _)
/-- every object of the heap is kept -/
theorem HOk.kept (x : HOk P w H h) (k : ∀ b u, h.get? b = some u → h'.get? b = some u) : HOk P w H h' := fun a o e =>
  (x a o e).stay (fun b u _ q => k b u q) (fun _ q => q) fun _ _ q => q
/-- a new object is laid and tracked -/
theorem HOk.laid (x : HOk P w H h) (k : ∀ b u, h.get? b = some u → h'.get? b = some u) (hp : h.objs.size ≤ a) (new : ObjOk P w (upd H a o) h' a o) : HOk P w (upd H a o) h' := fun b u e => by
  have hn := x.fresh hp
  by_cases hb : b = a
  · subst hb; rw [upd_same] at e; cases e; exact new
  · rw [upd_ne hb] at e
    exact (x b u e).stay (fun c v _ q => k c v q) (fun c q => by rw [upd_ne (ne_of_none q hn)]; exact q) fun c xs q => by rw [upd_ne (ne_of_none q hn)]; exact q
end

/-- what may be read as u: it is u, or a known u -/
def Rd (H : Hp) (a : Addr) (u : HO) : Prop := H a = some u ∨ ∃ o, H a = some (.frz o u)
theorem Rd.of {H : Hp} {a : Addr} {u : HO} (h : H a = some u) : Rd H a u := .inl h
theorem Rd.ok {P : Program} {w : World} {H : Hp} {h : Heap} {a : Addr} {u : HO} (r : Rd H a u) (x : HOk P w H h) : ObjOk P w H h a u := by
  rcases r with r | ⟨o, r⟩
  · exact x a u r
  · obtain ⟨_, q⟩ := x a _ r
    exact q
/-- what may be written -/
def Mut : Option HO → Prop
  | some (.lst _) => True
  | some (.dK _) => True
  | some (.dT _) => True
  | some (.set _ _) => True
  | some (.ins _ _ _) => True
  | some (.ext _) => True
  | _ => False
section
variable {P : Program} {w : World} {H : Hp} {h h' : Heap} {x e : Addr} {o' : HO}
/-- the object at e is changed: x itself, or the dict of the instance x -/
theorem HOk.write (ok : HOk P w H h) (mu : Mut (H x)) (he : e = x ∨ H e = some (.own x)) (k : ∀ b u, b ≠ e → h.get? b = some u → h'.get? b = some u) (heo : ∃ u, h'.get? e = some u)
    (new : ObjOk P w (upd H x o') h' x o') : HOk P w (upd H x o') h' := fun b u q => by
  have nown : ∀ c y, H c = some (.own y) → c ≠ x := fun c y r z => by subst z; rw [r] at mu; exact mu
  have ntup : ∀ c xs, H c = some (.tup xs) → c ≠ x := fun c xs r z => by subst z; rw [r] at mu; exact mu
  by_cases hb : b = x
  · subst hb; rw [upd_same] at q; cases q; exact new
  · rw [upd_ne hb] at q
    by_cases hbe : b = e
    · have q' : H b = some (.own x) := by
        rcases he with z | z
        · exact absurd (hbe.trans z) hb
        · rw [hbe]; exact z
      rw [q] at q'; cases q'
      obtain ⟨v, hv⟩ := heo
      exact ⟨v, by rw [hbe]; exact hv⟩
    · refine (ok b u q).stay (fun c v hc r => k c v ?_ r) (fun c r => by rw [upd_ne (nown c b r)]; exact r) fun c xs r => by rw [upd_ne (ntup c xs r)]; exact r
      rcases hc with rfl | hc
      · exact hbe
      · rintro rfl
        rcases he with z | z
        · exact nown c b hc z
        · rw [hc] at z; cases z; exact hb rfl
end

/-! ### kept unless tracked; of the frames at fs (the callers') the slots may change (an exception that passes writes there); of the records at ex (iterators) nothing is said -/
structure Un (fs ex : List Addr) (H H' : Hp) (h h' : Heap) : Prop where
  keep : ∀ b o, h.get? b = some o → H b = none → b ∉ fs → b ∉ ex → h'.get? b = some o
  slot : ∀ b o, h.get? b = some o → H b = none → b ∈ fs → b ∉ ex → ∃ sl, h'.get? b = some { o with slots := sl }
  free : ∀ b o, h.get? b = some o → H b = none → b ∉ ex → H' b = none
  there : ∀ b o, h.get? b = some o → b ∉ ex → ∃ o', h'.get? b = some o'
  tups : ∀ b xs, H b = some (.tup xs) → H' b = some (.tup xs)
  frzs : ∀ b o u, H b = some (.frz o u) → H' b = some (.frz o u)
  tbls : ∀ b ps, H b = some (.tbl ps) → ∃ more, H' b = some (.tbl (ps ++ more))
section
variable {fs fs' ex ex' : List Addr} {H H1 H2 : Hp} {h h1 h2 h' : Heap} {a x e : Addr} {o : HO}
theorem Un.any (u : Un fs ex H H1 h h1) {b : Addr} {ob : Obj} (q : h.get? b = some ob) (n : H b = none) (hx : b ∉ ex) : ∃ sl, h1.get? b = some { ob with slots := sl } := by
  by_cases hb : b ∈ fs
  · exact u.slot b ob q n hb hx
  · exact ⟨ob.slots, u.keep b ob q n hb hx⟩
theorem Un.trans (a : Un fs ex H H1 h h1) (b : Un fs ex H1 H2 h1 h2) : Un fs ex H H2 h h2 where
  keep := fun c ob q n hc hx => b.keep c ob (a.keep c ob q n hc hx) (a.free c ob q n hx) hc hx
  slot := fun c ob q n hc hx => by
    obtain ⟨sl, e1⟩ := a.slot c ob q n hc hx
    obtain ⟨sl', e2⟩ := b.slot c _ e1 (a.free c ob q n hx) hc hx
    exact ⟨sl', e2⟩
  free := fun c ob q n hx => by
    obtain ⟨o', e1⟩ := a.there c ob q hx
    exact b.free c o' e1 (a.free c ob q n hx) hx
  there := fun c ob q hx => by
    obtain ⟨o', e1⟩ := a.there c ob q hx
    exact b.there c o' e1 hx
  tups := fun c xs q => b.tups c xs (a.tups c xs q)
  frzs := fun c ob xs q => b.frzs c ob xs (a.frzs c ob xs q)
  tbls := fun c ps q => by
    obtain ⟨m1, e1⟩ := a.tbls c ps q
    obtain ⟨m2, e2⟩ := b.tbls c _ e1
    exact ⟨m1 ++ m2, by rw [e2, Array.append_assoc]⟩
theorem Un.kept (k : ∀ b u, h.get? b = some u → h'.get? b = some u) : Un fs ex H H h h' :=
  ⟨fun b ob q _ _ _ => k b ob q, fun b ob q _ _ _ => ⟨ob.slots, k b ob q⟩, fun _ _ _ n _ => n, fun b ob q _ => ⟨ob, k b ob q⟩, fun _ _ q => q, fun _ _ _ q => q, fun _ ps q => ⟨#[], by rw [q]; simp⟩⟩
theorem Un.refl : Un fs ex H H h h := Un.kept fun _ _ q => q
theorem Un.laid (k : ∀ b u, h.get? b = some u → h'.get? b = some u) (hp : h.objs.size ≤ a) (hn : H a = none) : Un fs ex H (upd H a o) h h' where
  keep := fun b u q _ _ _ => k b u q
  slot := fun b u q _ _ _ => ⟨u.slots, k b u q⟩
  free := fun b u q n _ => by rw [upd_ne (Nat.ne_of_lt (Nat.lt_of_lt_of_le (Heap.lt_size q) hp))]; exact n
  there := fun b u q _ => ⟨u, k b u q⟩
  tups := fun b xs q => by rw [upd_ne (ne_of_none q hn)]; exact q
  frzs := fun b u xs q => by rw [upd_ne (ne_of_none q hn)]; exact q
  tbls := fun b ps q => ⟨#[], by rw [upd_ne (ne_of_none q hn), q]; simp⟩
theorem Un.write (mu : Mut (H x)) (he : e = x ∨ H e = some (.own x)) (k : ∀ b u, b ≠ e → h.get? b = some u → h'.get? b = some u) (heo : ∃ u, h'.get? e = some u) : Un fs ex H (upd H x o) h h' := by
  have hx : ∀ b, H b = none → b ≠ x := fun b n z => by subst z; rw [n] at mu; exact mu
  have hb : ∀ b, H b = none → b ≠ e := fun b n z => by
    subst z
    rcases he with r | r
    · exact hx b n r
    · rw [n] at r; cases r
  have hm : ∀ b u, H b = some u → ¬ Mut (some u) → b ≠ x := fun b u q nm z => by subst z; rw [q] at mu; exact nm mu
  refine ⟨fun b u q n _ _ => k b u (hb b n) q, fun b u q n _ _ => ⟨u.slots, k b u (hb b n) q⟩, fun b u q n _ => by rw [upd_ne (hx b n)]; exact n, fun b u q _ => ?_,
    fun b xs q => by rw [upd_ne (hm b _ q fun z => z)]; exact q, fun b u xs q => by rw [upd_ne (hm b _ q fun z => z)]; exact q, fun b ps q => ⟨#[], by rw [upd_ne (hm b _ q fun z => z), q]; simp⟩⟩
  by_cases hbe : b = e
  · subst hbe; exact heo
  · exact ⟨u, k b u hbe q⟩
theorem Un.mono (u : Un fs ex H H1 h h1) (hs : ∀ b ∈ fs, b ∈ fs') (hx : ∀ b ∈ ex, b ∈ ex') : Un fs' ex' H H1 h h1 :=
  ⟨fun b ob q n hb he => u.keep b ob q n (fun z => hb (hs b z)) fun z => he (hx b z), fun _ _ q n _ he => u.any q n fun z => he (hx _ z), fun b ob q n he => u.free b ob q n fun z => he (hx b z), fun b ob q he => u.there b ob q fun z => he (hx b z), u.tups, u.frzs, u.tbls⟩
end

/-! ### the heap without what is tracked -/
def trk (h : Heap) (H : Hp) : List Addr := (List.range h.objs.size).filter fun a => (H a).isSome
def hidT (h : Heap) (H : Hp) : Heap := PySem.W.hideAll h (trk h H)
theorem hidT_size (h : Heap) (H : Hp) : (hidT h H).objs.size = h.objs.size := PySem.W.hideAll_size _ _
theorem hidT_get {h : Heap} {H : Hp} {b : Addr} {o : Obj} (e : h.get? b = some o) (n : H b = none) : (hidT h H).get? b = some o :=
  PySem.W.hideAll_get _ e fun hm => by
    have q : (H b).isSome = true := (List.mem_filter.mp hm).2
    rw [n] at q; simp at q
theorem of_hidT {h : Heap} {H : Hp} {b : Addr} {o : Obj} (e : (hidT h H).get? b = some o) : h.get? b = some o ∧ H b = none := by
  have e' : h.get? b = some o := PySem.W.of_hideAll (trk h H) e
  refine ⟨e', ?_⟩
  cases q : H b with
  | none => rfl
  | some x =>
    have hm : b ∈ trk h H := List.mem_filter.mpr ⟨List.mem_range.mpr (Heap.lt_size e'), by simp [q]⟩
    have z : (hidT h H).get? b = none := PySem.W.hideAll_none (trk h H) hm
    rw [z] at e; cases e

/-! ### OpenK's ledger, filled with every new object but one -/
def allNews (g h : Heap) (L : Addr) : List (Addr × Obj) := (List.range h.objs.size).filterMap fun a => if a = L ∨ (g.get? a).isSome = true then none else (h.get? a).map fun o => (a, o)
def rest (g h : Heap) (L d : Addr) : List (Addr × Obj) := (allNews g h L).filter fun p => decide (p.1 ≠ d)
end L2

namespace L2
open PySem PySem.Spec PyProof.Rows

/-- the module's facts, over the base: the heap at the law's entry without what is tracked there -/
structure Mod (K : PySem.W.Frag) (mg : Str → Option Value) (base : Heap) : Prop where
  kin : K.In base
  glob : base.Ns mainGlobals mg
  blt : ∃ mb, base.Ns builtinsNs mb ∧ ∀ x : Str, x ≠ "__name__" → mb x = bootBuiltins x
  nolimit : base.NoLimit

/-- the context: a def's body (or a comprehension's block) running. base: fixed through the whole law; s₀, H₀: the entry; outer: the frames whose slots others may change (a def's callers); stack: all frames that run;
   ex: iterators that were made ahead of the entry and are walked here (a comprehension's); fn: the names whose cells were made at the entry (a def: all; a comprehension's block: its own); calm: not within an except suite; pn: pins that every state bears; xe: what is wanted of an exception that leaves the code -/
structure Cx where
  prog : Program
  w : World
  K : PySem.W.Frag
  mg : Str → Option Value
  base : Heap
  A : Around
  N : List Str
  s₀ : Shared
  H₀ : Hp
  env : Env
  outer : List Env
  stack : List Env
  ex : List Addr
  fn : Str → Bool
  calm : Bool
  pn : List (Addr × Obj)
  xe : Value → Shared → Prop
/-- the callers' frames -/
def frs (l : List Env) : List Addr := l.filterMap (·.frame)
abbrev Cx.fs (X : Cx) : List Addr := frs X.outer

def Vis (sc : Scope) (x : Str) : Prop := sc.names.lookup x = some .local ∨ sc.names.lookup x = some .cell ∨ sc.names.lookup x = some .free
def Loc (sc : Scope) (x : Str) : Prop := sc.names.lookup x = some .local ∨ sc.names.lookup x = some .cell
def Look (env : Env) (h : Heap) (m : Str → Option Value) (x : Str) (u : Value) : Prop :=
  (env.kindOf x = some .local ∧ m x = some u) ∨ ((env.kindOf x = some .cell ∨ env.kindOf x = some .free) ∧ ∃ c, env.cells.lookup x = some c ∧ h.IsCell c (some u))

structure Cx.Ok (X : Cx) : Prop where
  mod : Mod X.K X.mg X.base
  kind : X.env.scope.kind = .function
  glob : X.env.globals = mainGlobals
  blt : X.env.builtins = builtinsNs
  above : X.s₀.heap.objs.size ≤ X.env.locals
  inj : ∀ x y c, X.env.cells.lookup x = some c → X.env.cells.lookup y = some c → x = y
  has : ∀ x, (X.env.kindOf x = some .cell ∨ X.env.kindOf x = some .free) → ∃ c, X.env.cells.lookup x = some c
  cab : ∀ x c, X.fn x = true → X.env.cells.lookup x = some c → X.s₀.heap.objs.size ≤ c
  hd : X.calm = true → X.A.handled = none
  frames : X.A.frames = some X.stack
  stk : X.stack = X.outer ∨ (X.stack = X.env :: X.outer ∧ X.env.frame = some X.env.locals)
  exf : ∀ b ∈ X.ex, b ≠ X.env.locals ∧ ∀ x c, X.env.cells.lookup x = some c → c ≠ b
  bs : ∀ b o, X.base.get? b = some o → X.s₀.heap.get? b = some o ∧ X.H₀ b = none
  bsz : X.base.objs.size ≤ X.s₀.heap.objs.size
  noex : ∀ b o, X.base.get? b = some o → b ∉ X.ex
  exfs : ∀ b ∈ X.ex, b ∉ X.fs
  funs : X.s₀.heap.FunFrames X.base X.outer
  frf : ∀ b ∈ X.fs, X.H₀ b = none

structure Inv (X : Cx) (pins : List (Addr × Obj)) (σ : List (Option V)) (H : Hp) (s : Shared) : Prop where
  ok : X.Ok
  os : s.os = X.s₀.os
  bare : AllBare s.gens
  base : Un X.fs X.ex X.H₀ H X.s₀.heap s.heap
  loc : ∃ m, s.heap.Ns X.env.locals m ∧ ∀ (i : Nat) (x : Str) (v : V), X.N[i]? = some x → σ[i]? = some (some v) → Vis X.env.scope x → ∃ u, RelV v u ∧ Look X.env s.heap m x u
  cell : ∀ x c, X.env.cells.lookup x = some c → ∃ v, s.heap.IsCell c v
  free : H X.env.locals = none
  freeC : ∀ x c, X.env.cells.lookup x = some c → H c = none
  pin : ∀ p ∈ X.pn ++ pins, s.heap.get? p.1 = some p.2 ∧ H p.1 = none ∧ p.1 ≠ X.env.locals ∧ p.1 ∉ X.fs ∧ ∀ v, p.2.data ≠ .cell v
  hok : HOk X.prog X.w H s.heap
  len : σ.length = X.N.length

section
variable {X : Cx} {pins : List (Addr × Obj)} {σ : List (Option V)} {H H' : Hp} {s : Shared} {h' : Heap}

theorem Cx.Ok.nofr (ok : X.Ok) {b : Addr} {o : Obj} (e : X.base.get? b = some o) : b ∉ X.fs := fun hb => by
  have := (ok.funs.mem hb).1
  rw [e] at this; cases this
theorem Inv.bs (I : Inv X pins σ H s) : ∀ b o, X.base.get? b = some o → s.heap.get? b = some o ∧ H b = none := fun b o e =>
  ⟨I.base.keep b o (I.ok.bs b o e).1 (I.ok.bs b o e).2 (I.ok.nofr e) (I.ok.noex b o e), I.base.free b o (I.ok.bs b o e).1 (I.ok.bs b o e).2 (I.ok.noex b o e)⟩
theorem Inv.bk (I : Inv X pins σ H s) : ∀ b o, X.base.get? b = some o → s.heap.get? b = some o := fun b o e => (I.bs b o e).1
theorem Inv.mod (I : Inv X pins σ H s) : Mod X.K X.mg X.base := I.ok.mod
theorem Inv.kIn (I : Inv X pins σ H s) : X.K.In s.heap := I.ok.mod.kin.keeps I.bk
theorem Inv.nolimit (I : Inv X pins σ H s) : s.heap.NoLimit := I.ok.mod.nolimit.keeps I.bk
/-- the frame over the base: for OpenK's rules (K.In X.base is I.mod.kin) -/
theorem Inv.fr (I : Inv X pins σ H s) : ∃ m, Fr X.base X.env.locals s.heap m :=
  let ⟨m, hn, _⟩ := I.loc
  ⟨m, hn, I.bk, Nat.le_trans I.ok.bsz I.ok.above⟩
theorem Inv.lt (I : Inv X pins σ H s) : X.env.locals < s.heap.objs.size := let ⟨_, hn, _⟩ := I.loc; hn.lt
theorem Inv.sz (I : Inv X pins σ H s) : X.s₀.heap.objs.size ≤ s.heap.objs.size := Nat.le_trans I.ok.above (Nat.le_of_lt I.lt)
theorem Inv.nofs (I : Inv X pins σ H s) {a : Addr} (h : s.heap.objs.size ≤ a) : a ∉ X.fs := fun hb => by
  obtain ⟨_, o, ho, _⟩ := I.ok.funs.mem hb
  exact absurd (Nat.lt_of_lt_of_le (Heap.lt_size ho) (Nat.le_trans I.sz h)) (Nat.lt_irrefl _)
theorem Inv.cne (I : Inv X pins σ H s) : ∀ x c, X.env.cells.lookup x = some c → c ≠ X.env.locals := fun x c e z => by
  obtain ⟨v, o, ho, hd⟩ := I.cell x c e
  obtain ⟨m, ⟨o', es, ep, ho', hd', _⟩, _⟩ := I.loc
  rw [z, ho'] at ho; cases ho; rw [hd'] at hd; cases hd
theorem Inv.funs (I : Inv X pins σ H s) : s.heap.FunFrames X.base X.outer := by
  have all : ∀ (l : List Env), (∀ b ∈ frs l, b ∈ X.fs) → X.s₀.heap.FunFrames X.base l → s.heap.FunFrames X.base l := by
    intro l
    induction l with
    | nil => intro _ _; trivial
    | cons env r ih =>
      intro hs hl
      obtain ⟨hk, ⟨L, o, hf, hn, ho, hd⟩, hr⟩ := hl
      have hL : L ∈ X.fs := hs L (by unfold frs; rw [List.filterMap_cons, hf]; exact List.mem_cons_self)
      obtain ⟨sl, e⟩ := I.base.slot L o ho (I.ok.frf L hL) hL fun z => I.ok.exfs L z hL
      exact ⟨hk, ⟨L, _, hf, hn, e, hd⟩, ih (fun b hb => hs b (by unfold frs; rw [List.filterMap_cons, hf]; exact List.mem_cons_of_mem _ hb)) hr⟩
  exact all X.outer (fun _ hb => hb) I.ok.funs

/-- the frames that run, for a call -/
theorem Inv.stack (I : Inv X pins σ H s) : s.heap.FunFrames X.base X.stack := by
  rcases I.ok.stk with e | ⟨e, hf⟩
  · rw [e]; exact I.funs
  · rw [e]
    obtain ⟨m, hn, _⟩ := I.loc
    refine .cons (by rw [I.ok.kind]; decide) hf hn ?_ I.funs
    exact Heap.get?_none_of_le (Nat.le_trans I.ok.bsz I.ok.above)
theorem Inv.stkSub (I : Inv X pins σ H s) : ∀ b ∈ frs X.stack, b ∈ X.env.locals :: X.fs := fun b hb => by
  rcases I.ok.stk with e | ⟨e, hf⟩
  · rw [e] at hb; exact List.mem_cons_of_mem _ hb
  · rw [e] at hb
    unfold frs at hb
    rw [List.filterMap_cons, hf] at hb
    exact hb
theorem Inv.stkFree (I : Inv X pins σ H s) : ∀ b ∈ frs X.stack, H b = none := fun b hb => by
  rcases List.mem_cons.mp (I.stkSub b hb) with e | hb
  · rw [e]; exact I.free
  · obtain ⟨_, o, ho, _⟩ := I.ok.funs.mem hb
    exact I.base.free b o ho (I.ok.frf b hb) fun z => I.ok.exfs b z hb

/-- THE STEP: the untracked objects but the frame and the records at ch are kept (the callers' frames up to slots), the frame's map is kept, the new abstract heap is held -/
theorem Inv.step {g' : Array GenState} {t' : Nat} {d' : Drawn} {ch : List Addr} (I : Inv X pins σ H s)
    (hch : ∀ b ∈ ch, (b ∈ X.ex ∨ X.s₀.heap.objs.size ≤ b) ∧ b ≠ X.env.locals ∧ (∀ x c, X.env.cells.lookup x = some c → c ≠ b) ∧ ∀ p ∈ X.pn ++ pins, p.1 ≠ b)
    (keep : ∀ b o, b ≠ X.env.locals → b ∉ X.fs → b ∉ ch → s.heap.get? b = some o → H b = none → h'.get? b = some o)
    (slot : ∀ b o, b ≠ X.env.locals → b ∈ X.fs → b ∉ ch → s.heap.get? b = some o → H b = none → ∃ sl, h'.get? b = some { o with slots := sl }) (free : ∀ b o, b ∉ ch → s.heap.get? b = some o → H b = none → H' b = none)
    (there : ∀ b o, b ∉ ch → s.heap.get? b = some o → ∃ o', h'.get? b = some o')
    (tups : ∀ b xs, H b = some (.tup xs) → H' b = some (.tup xs)) (frzs : ∀ b o u, H b = some (.frz o u) → H' b = some (.frz o u)) (tbls : ∀ b ps, H b = some (.tbl ps) → ∃ more, H' b = some (.tbl (ps ++ more)))
    (ns : ∀ m, s.heap.Ns X.env.locals m → h'.Ns X.env.locals m) (hok : HOk X.prog X.w H' h') (hg : AllBare g') :
    Inv X pins σ H' { s with heap := h', gens := g', drawn := d', toks := t' } := by
  have neL : ∀ b o, X.s₀.heap.get? b = some o → b ≠ X.env.locals := fun b o e => Nat.ne_of_lt (Nat.lt_of_lt_of_le (Heap.lt_size e) I.ok.above)
  have neC : ∀ b o, X.s₀.heap.get? b = some o → b ∉ X.ex → b ∉ ch := fun b o e hx hb => by
    rcases (hch b hb).1 with z | z
    · exact hx z
    · exact absurd (Nat.lt_of_lt_of_le (Heap.lt_size e) z) (Nat.lt_irrefl _)
  have cellK : ∀ x c, X.env.cells.lookup x = some c → ∀ v, s.heap.IsCell c v → h'.IsCell c v := fun x c e v ⟨o, ho, hd⟩ => by
    have nch : c ∉ ch := fun z => (hch c z).2.2.1 x c e rfl
    by_cases hc : c ∈ X.fs
    · obtain ⟨sl, q⟩ := slot c o (I.cne x c e) hc nch ho (I.freeC x c e)
      exact ⟨_, q, hd⟩
    · exact ⟨o, keep c o (I.cne x c e) hc nch ho (I.freeC x c e), hd⟩
  refine ⟨I.ok, I.os, hg, ⟨fun b o e n hb hx => ?_, fun b o e n hb hx => ?_, fun b o e n hx => ?_, fun b o e hx => ?_, fun b xs e => tups b xs (I.base.tups b xs e), fun b o xs e => frzs b o xs (I.base.frzs b o xs e), fun b ps e => ?_⟩, ?_, fun x c e => ?_, ?_, fun x c e => ?_, fun p hp => ?_, hok, I.len⟩
  · exact keep b o (neL b o e) hb (neC b o e hx) (I.base.keep b o e n hb hx) (I.base.free b o e n hx)
  · obtain ⟨sl, e1⟩ := I.base.slot b o e n hb hx
    obtain ⟨sl', e2⟩ := slot b _ (neL b o e) hb (neC b o e hx) e1 (I.base.free b o e n hx)
    exact ⟨sl', e2⟩
  · obtain ⟨o', e1⟩ := I.base.there b o e hx
    exact free b o' (neC b o e hx) e1 (I.base.free b o e n hx)
  · obtain ⟨o', e1⟩ := I.base.there b o e hx
    exact there b o' (neC b o e hx) e1
  · obtain ⟨m1, e1⟩ := I.base.tbls b ps e
    obtain ⟨m2, e2⟩ := tbls b _ e1
    exact ⟨m1 ++ m2, by rw [e2, Array.append_assoc]⟩
  · obtain ⟨m, hn, hl⟩ := I.loc
    refine ⟨m, ns m hn, fun i x v e1 e2 e3 => ?_⟩
    obtain ⟨u, r, l⟩ := hl i x v e1 e2 e3
    refine ⟨u, r, ?_⟩
    rcases l with l | ⟨k, c, e, z⟩
    · exact .inl l
    · exact .inr ⟨k, c, e, cellK x c e _ z⟩
  · obtain ⟨v, z⟩ := I.cell x c e
    exact ⟨v, cellK x c e v z⟩
  · obtain ⟨m, ⟨o, _, _, ho, _⟩, _⟩ := I.loc
    exact free _ o (fun z => (hch _ z).2.1 rfl) ho I.free
  · obtain ⟨v, o, ho, hd⟩ := I.cell x c e
    exact free c o (fun z => (hch c z).2.2.1 x c e rfl) ho (I.freeC x c e)
  · obtain ⟨e, n, ne, nf, d⟩ := I.pin p hp
    have nch : p.1 ∉ ch := fun z => (hch p.1 z).2.2.2 p hp rfl
    exact ⟨keep p.1 p.2 ne nf nch e n, free p.1 p.2 nch e n, ne, nf, d⟩
/-- .. where the frame's own object is kept too -/
theorem Inv.un {t' : Nat} (I : Inv X pins σ H s) (u : Un X.fs [] H H' s.heap h') (hok : HOk X.prog X.w H' h') : Inv X pins σ H' { s with heap := h', toks := t' } := by
  obtain ⟨m, ⟨o, es, ep, ho, r⟩, _⟩ := id I.loc
  obtain ⟨sl, hL⟩ := u.any ho I.free (by simp)
  exact I.step (g' := s.gens) (d' := s.drawn) (ch := []) (fun _ z => nomatch z) (fun b o _ hb _ e n => u.keep b o e n hb (by simp)) (fun b o _ hb _ e n => u.slot b o e n hb (by simp)) (fun b o _ e n => u.free b o e n (by simp)) (fun b o _ e => u.there b o e (by simp)) u.tups u.frzs u.tbls (fun m' hm => by
    obtain ⟨o', es', ep', ho', r'⟩ := hm
    rw [ho] at ho'; cases ho'
    exact ⟨_, es', ep', hL, r'⟩) hok I.bare
/-- behind a call (or a comprehension's block): the slots of this frame may have changed too, the records at ch may have turned -/
theorem Inv.call {g' : Array GenState} {t' : Nat} {d' : Drawn} {ch : List Addr} (I : Inv X pins σ H s) (u : Un (frs X.stack) ch H H' s.heap h') (hok : HOk X.prog X.w H' h') (hg : AllBare g')
    (hch : ∀ b ∈ ch, (b ∈ X.ex ∨ X.s₀.heap.objs.size ≤ b) ∧ b ≠ X.env.locals ∧ (∀ x c, X.env.cells.lookup x = some c → c ≠ b) ∧ ∀ p ∈ X.pn ++ pins, p.1 ≠ b) :
    Inv X pins σ H' { s with heap := h', gens := g', drawn := d', toks := t' } := by
  obtain ⟨m, ⟨o, es, ep, ho, r⟩, _⟩ := id I.loc
  obtain ⟨sl, hL⟩ := u.any ho I.free fun z => (hch _ z).2.1 rfl
  exact I.step (ch := ch) hch (fun b o hL hb hc e n => u.keep b o e n (fun z => (List.mem_cons.mp (I.stkSub b z)).elim hL hb) hc) (fun b o _ _ hc e n => u.any e n hc) (fun b o hc e n => u.free b o e n hc) (fun b o hc e => u.there b o e hc) u.tups u.frzs u.tbls (fun m' hm => by
    obtain ⟨o', es', ep', ho', r'⟩ := hm
    rw [ho] at ho'; cases ho'
    exact ⟨_, es', ep', hL, r'⟩) hok hg
/-- an untracked record of ours (an iterator) has turned -/
theorem Inv.turned {t' : Nat} {it : Addr} (I : Inv X pins σ H s) (k : ∀ b o, b ≠ it → s.heap.get? b = some o → h'.get? b = some o) (hn : H it = none) (hL : it ≠ X.env.locals)
    (h1 : it ∈ X.ex ∨ X.s₀.heap.objs.size ≤ it) (h2 : ∀ x c, X.env.cells.lookup x = some c → c ≠ it) (h3 : ∀ p ∈ X.pn ++ pins, p.1 ≠ it) : Inv X pins σ H { s with heap := h', toks := t' } := by
  have nit : ∀ b u, H b = some u → b ≠ it := fun b u e z => by rw [z, hn] at e; cases e
  refine I.step (g' := s.gens) (d' := s.drawn) (ch := [it]) (fun b hb => ?_) (fun b o _ _ hc e _ => k b o (fun z => hc (by simp [z])) e) (fun b o _ _ hc e _ => ⟨o.slots, k b o (fun z => hc (by simp [z])) e⟩) (fun _ _ _ _ n => n)
    (fun b o hc e => ⟨o, k b o (fun z => hc (by simp [z])) e⟩) (fun _ _ e => e) (fun _ _ _ e => e) (fun b ps e => ⟨#[], by rw [e]; simp⟩) (fun m hm => ?_) (fun b u e => ?_) I.bare
  · have e : b = it := by simpa using hb
    subst e
    exact ⟨h1, hL, h2, h3⟩
  · obtain ⟨o, es, ep, ho, r⟩ := hm
    exact ⟨o, es, ep, k _ o (Ne.symm hL) ho, r⟩
  · refine (I.hok b u e).stay (fun c v hc q => k c v ?_ q) (fun _ q => q) fun _ _ q => q
    rcases hc with z | z
    · rw [z]; exact nit b u e
    · exact nit c _ z
theorem Inv.tok (I : Inv X pins σ H s) (t : Nat) : Inv X pins σ H { s with toks := t } := I.un (h' := s.heap) (t' := t) Un.refl I.hok
/-- all objects kept -/
theorem Inv.kept {t' : Nat} (I : Inv X pins σ H s) (k : ∀ b u, s.heap.get? b = some u → h'.get? b = some u) : Inv X pins σ H { s with heap := h', toks := t' } := I.un (Un.kept k) (I.hok.kept k)
/-- a new object laid and tracked -/
theorem Inv.laid {a : Addr} {o : HO} {t' : Nat} (I : Inv X pins σ H s) (k : ∀ b u, s.heap.get? b = some u → h'.get? b = some u) (hp : s.heap.objs.size ≤ a) (new : ObjOk X.prog X.w (upd H a o) h' a o) :
    Inv X pins σ (upd H a o) { s with heap := h', toks := t' } := I.un (Un.laid k hp (I.hok.fresh hp)) (I.hok.laid k hp new)
/-- an object written -/
theorem Inv.write {x e : Addr} {o : HO} {t' : Nat} (I : Inv X pins σ H s) (mu : Mut (H x)) (he : e = x ∨ H e = some (.own x)) (k : ∀ b u, b ≠ e → s.heap.get? b = some u → h'.get? b = some u) (heo : ∃ u, h'.get? e = some u)
    (new : ObjOk X.prog X.w (upd H x o) h' x o) : Inv X pins σ (upd H x o) { s with heap := h', toks := t' } := I.un (Un.write mu he k heo) (I.hok.write mu he k heo new)
/-- forgetting slots, pins -/
theorem Inv.weak {σ' : List (Option V)} (I : Inv X pins σ H s) (hl : σ'.length = σ.length) (w : ∀ (i : Nat) v, σ'[i]? = some (some v) → σ[i]? = some (some v)) : Inv X pins σ' H s :=
  ⟨I.ok, I.os, I.bare, I.base, let ⟨m, hn, hl'⟩ := I.loc; ⟨m, hn, fun i x v e1 e2 e3 => hl' i x v e1 (w i v e2) e3⟩, I.cell, I.free, I.freeC, I.pin, I.hok, hl.trans I.len⟩
theorem Inv.pins_of {pins' : List (Addr × Obj)} (I : Inv X pins σ H s) (h : ∀ p ∈ pins', s.heap.get? p.1 = some p.2 ∧ H p.1 = none ∧ p.1 ≠ X.env.locals ∧ p.1 ∉ X.fs ∧ ∀ v, p.2.data ≠ .cell v) : Inv X pins' σ H s :=
  ⟨I.ok, I.os, I.bare, I.base, I.loc, I.cell, I.free, I.freeC, fun p hp => (List.mem_append.mp hp).elim (fun z => I.pin p (List.mem_append_left _ z)) (h p), I.hok, I.len⟩

theorem nodup_ix {N : List Str} (hN : N.Nodup) {i j : Nat} {x : Str} (a : N[i]? = some x) (b : N[j]? = some x) : i = j := by
  obtain ⟨h1, e1⟩ := List.getElem?_eq_some_iff.mp a
  obtain ⟨h2, e2⟩ := List.getElem?_eq_some_iff.mp b
  exact (List.getElem_inj hN).mp (e1.trans e2.symm)

/-- a name is stored; what changed -/
theorem store_ok2 {M : Model} {A : Around} {E : Value → Shared → Prop} {i : Nat} {x : Str} {v : V} {u : Value} {Q : Unit → Shared → Prop} (I : Inv X pins σ H s) (hN : X.N.Nodup) (hi : X.N[i]? = some x) (hx : Loc X.env.scope x) (r : RelV v u)
    (h : ∀ s', Inv X pins (σ.set i (some v)) H s' → (∃ a, Heap.SameBut a s.heap s'.heap ∧ (a = X.env.locals ∨ X.env.cells.lookup x = some a)) → Q () s') (hf : X.fn x = true ∨ X.env.scope.names.lookup x = some .local := by first | exact .inl rfl | exact .inr rfl | assumption) : wpAny M A (storeName X.env x u) Q E s := by
  obtain ⟨m, hn, hl⟩ := id I.loc
  have hcls : (X.env.scope.kind == .class || (X.env.scope.kind == .module && X.env.locals != X.env.globals)) = false := by rw [I.ok.kind]; rfl
  have hiσ : i < σ.length := by rw [I.len]; exact (List.getElem?_eq_some_iff.mp hi).1
  have cne := I.cne
  have tracked : ∀ {a : Addr} {h' : Heap}, (∃ o, s.heap.get? a = some o ∧ H a = none) → Heap.SameBut a s.heap h' → HOk X.prog X.w H h' := fun {a h'} ha hs b ob e => by
    obtain ⟨_, _, hfree⟩ := ha
    refine (I.hok b ob e).stay (fun c w' hc q => (hs.2 c ?_).trans q) (fun _ q => q) fun _ _ q => q
    rintro rfl
    rcases hc with rfl | hc
    · rw [hfree] at e; cases e
    · rw [hfree] at hc; cases hc
  rcases hx with hk | hk
  · refine wpAny_storeName_local hk hn (fun h' hn' hs => ?_) hcls
    obtain ⟨oL, _, _, hoL, _⟩ := id hn
    refine h _ ⟨I.ok, I.os, I.bare, ⟨fun b o e n hb hx => ?_, fun b o e n hb hx => ?_, I.base.free, fun b o e hx => ?_, I.base.tups, I.base.frzs, I.base.tbls⟩, ⟨_, hn', fun j y v' e1 e2 e3 => ?_⟩, fun y c e => ?_, I.free, I.freeC, fun p hp => ?_, tracked ⟨oL, hoL, I.free⟩ hs, by simpa using I.len⟩ ⟨_, hs, .inl rfl⟩
    · exact (hs.2 b (Nat.ne_of_lt (Nat.lt_of_lt_of_le (Heap.lt_size e) I.ok.above))).trans (I.base.keep b o e n hb hx)
    · obtain ⟨sl, e1⟩ := I.base.slot b o e n hb hx
      exact ⟨sl, (hs.2 b (Nat.ne_of_lt (Nat.lt_of_lt_of_le (Heap.lt_size e) I.ok.above))).trans e1⟩
    · obtain ⟨o', e1⟩ := I.base.there b o e hx
      exact ⟨o', (hs.2 b (Nat.ne_of_lt (Nat.lt_of_lt_of_le (Heap.lt_size e) I.ok.above))).trans e1⟩
    · by_cases hj : j = i
      · subst hj
        rw [hi] at e1; cases e1
        rw [List.getElem?_set_self hiσ] at e2
        cases e2
        exact ⟨u, r, .inl ⟨hk, by simp⟩⟩
      · rw [List.getElem?_set_ne (Ne.symm hj)] at e2
        obtain ⟨u', r', q⟩ := hl j y v' e1 e2 e3
        refine ⟨u', r', ?_⟩
        rcases q with ⟨k, e⟩ | ⟨k, c, e, z⟩
        · refine .inl ⟨k, ?_⟩
          have : y ≠ x := fun e => hj (nodup_ix hN e1 (e ▸ hi))
          simp [this, e]
        · exact .inr ⟨k, c, e, z.sameBut hs (cne y c e)⟩
    · obtain ⟨w', z⟩ := I.cell y c e
      exact ⟨w', z.sameBut hs (cne y c e)⟩
    · obtain ⟨e, n, ne, nf, d⟩ := I.pin p hp
      exact ⟨(hs.2 p.1 ne).trans e, n, ne, nf, d⟩
  · have hfn : X.fn x = true := by
      rcases hf with z | z
      · exact z
      · rw [z] at hk; cases hk
    obtain ⟨c, hc⟩ := I.ok.has x (.inl hk)
    obtain ⟨w', z⟩ := I.cell x c hc
    refine wpAny_storeName_cell I.ok.kind hk hc z (fun h' hc' hs => ?_)
    obtain ⟨oc, hoc, hocd⟩ := id z
    refine h { s with heap := h' } ⟨I.ok, I.os, I.bare, ⟨fun b o e n hb hx => ?_, fun b o e n hb hx => ?_, I.base.free, fun b o e hx => ?_, I.base.tups, I.base.frzs, I.base.tbls⟩, ⟨m, hn.sameBut hs (Ne.symm (cne x c hc)), fun j y v' e1 e2 e3 => ?_⟩, fun y c' e => ?_, I.free, I.freeC, fun p hp => ?_, tracked ⟨oc, hoc, I.freeC x c hc⟩ hs, by simpa using I.len⟩ ⟨c, hs, .inr hc⟩
    · exact (hs.2 b (Nat.ne_of_lt (Nat.lt_of_lt_of_le (Heap.lt_size e) (I.ok.cab x c hfn hc)))).trans (I.base.keep b o e n hb hx)
    · obtain ⟨sl, e1⟩ := I.base.slot b o e n hb hx
      exact ⟨sl, (hs.2 b (Nat.ne_of_lt (Nat.lt_of_lt_of_le (Heap.lt_size e) (I.ok.cab x c hfn hc)))).trans e1⟩
    · obtain ⟨o', e1⟩ := I.base.there b o e hx
      exact ⟨o', (hs.2 b (Nat.ne_of_lt (Nat.lt_of_lt_of_le (Heap.lt_size e) (I.ok.cab x c hfn hc)))).trans e1⟩
    · by_cases hj : j = i
      · subst hj
        rw [hi] at e1; cases e1
        rw [List.getElem?_set_self hiσ] at e2
        cases e2
        exact ⟨u, r, .inr ⟨.inl hk, c, hc, hc'⟩⟩
      · rw [List.getElem?_set_ne (Ne.symm hj)] at e2
        obtain ⟨u', r', q⟩ := hl j y v' e1 e2 e3
        refine ⟨u', r', ?_⟩
        rcases q with q | ⟨k, c', e, z'⟩
        · exact .inl q
        · refine .inr ⟨k, c', e, z'.sameBut hs ?_⟩
          rintro rfl
          exact hj (nodup_ix hN e1 (I.ok.inj _ _ _ e hc ▸ hi))
    · by_cases hcc : c' = c
      · subst hcc; exact ⟨_, hc'⟩
      · obtain ⟨w2, z2⟩ := I.cell y c' e
        exact ⟨w2, z2.sameBut hs hcc⟩
    · obtain ⟨e, n, ne, nf, d⟩ := I.pin p hp
      refine ⟨(hs.2 p.1 ?_).trans e, n, ne, nf, d⟩
      intro q
      rw [q, hoc] at e
      have q' : oc = p.2 := Option.some.inj e
      exact d w' (by rw [← q']; exact hocd)
theorem store_ok {M : Model} {A : Around} {E : Value → Shared → Prop} {i : Nat} {x : Str} {v : V} {u : Value} {Q : Unit → Shared → Prop} (I : Inv X pins σ H s) (hN : X.N.Nodup) (hi : X.N[i]? = some x) (hx : Loc X.env.scope x) (r : RelV v u)
    (h : ∀ s', Inv X pins (σ.set i (some v)) H s' → Q () s') (hf : X.fn x = true ∨ X.env.scope.names.lookup x = some .local := by first | exact .inl rfl | exact .inr rfl | assumption) : wpAny M A (storeName X.env x u) Q E s :=
  store_ok2 I hN hi hx r (fun s' I' _ => h s' I') hf
/-- behind a call or a block, the state as it is -/
theorem Inv.call' {s' : Shared} {ch : List Addr} (I : Inv X pins σ H s) (ho : s'.os = s.os) (u : Un (frs X.stack) ch H H' s.heap s'.heap) (hok : HOk X.prog X.w H' s'.heap) (hg : AllBare s'.gens)
    (hch : ∀ b ∈ ch, (b ∈ X.ex ∨ X.s₀.heap.objs.size ≤ b) ∧ b ≠ X.env.locals ∧ (∀ x c, X.env.cells.lookup x = some c → c ≠ b) ∧ ∀ p ∈ X.pn ++ pins, p.1 ≠ b) : Inv X pins σ H' s' := by
  obtain ⟨h', g', d', t', o'⟩ := s'
  have e : o' = s.os := ho
  subst e
  exact I.call (g' := g') (t' := t') (d' := d') u hok hg hch
end

/-! ### the judgements -/
/-- an exception: its class, its own dict's address (where it has one), the abstract heap behind it -/
abbrev XK := Value → Option Addr → Hp → Prop
abbrev St := List (Option V)
abbrev VK := V → Hp → Prop
/-- an expression's reading; a test's; an argument list's -/
abbrev TE := St → Hp → VK → Prop
abbrev TT := St → Hp → (Bool → Hp → Prop) → Prop
abbrev TA := St → Hp → (List V → Hp → Prop) → Prop
/-- what is wanted behind a statement -/
structure Ends where
  nx : St → Hp → Prop
  rt : VK
  bk : St → Hp → Prop := fun _ _ => False
  ct : St → Hp → Prop := fun _ _ => False
abbrev TS := Ends → St → Hp → Prop

def EP (X : Cx) (pins : List (Addr × Obj)) (σ : St) (Q : VK) (u : Value) (s' : Shared) : Prop := ∃ v H', Inv X pins σ H' s' ∧ RelV v u ∧ Q v H'
def TP (X : Cx) (pins : List (Addr × Obj)) (σ : St) (Q : Bool → Hp → Prop) (b : Bool) (s' : Shared) : Prop := ∃ H', Inv X pins σ H' s' ∧ Q b H'
def AP (X : Cx) (pins : List (Addr × Obj)) (σ : St) (Q : List V → Hp → Prop) (us : List Value) (s' : Shared) : Prop := ∃ vs H', Inv X pins σ H' s' ∧ Vals vs us ∧ Q vs H'
def SP (X : Cx) (pins : List (Addr × Obj)) (D : Ends) (f : Flow) (s' : Shared) : Prop :=
  match f with
  | .next => ∃ σ' H', Inv X pins σ' H' s' ∧ D.nx σ' H'
  | .brk => ∃ σ' H', Inv X pins σ' H' s' ∧ D.bk σ' H'
  | .cont => ∃ σ' H', Inv X pins σ' H' s' ∧ D.ct σ' H'
  | .ret u => ∃ v σ' H', Inv X pins σ' H' s' ∧ RelV v u ∧ D.rt v H'

def PE (X : Cx) (e : Expr) (t : TE) : Prop :=
  ∀ (pins : List (Addr × Obj)) (s : Shared) (σ : St) (H : Hp) (Q : VK), Inv X pins σ H s → t σ H Q → wpAny (model X.prog X.w) X.A (eval e X.env) (EP X pins σ Q) X.xe s
def PT (X : Cx) (e : Expr) (t : TT) : Prop :=
  ∀ (pins : List (Addr × Obj)) (s : Shared) (σ : St) (H : Hp) (Q : Bool → Hp → Prop), Inv X pins σ H s → t σ H Q → wpAny (model X.prog X.w) X.A (isTrue e X.env (eval e X.env)) (TP X pins σ Q) X.xe s
/-- a test whatever its 'whole' is (and, or) -/
def PW (X : Cx) (e : Expr) (t : TT) : Prop :=
  ∀ (whole : Sem Value) (pins : List (Addr × Obj)) (s : Shared) (σ : St) (H : Hp) (Q : Bool → Hp → Prop), Inv X pins σ H s → t σ H Q → wpAny (model X.prog X.w) X.A (isTrue e X.env whole) (TP X pins σ Q) X.xe s
theorem PW.pt {X : Cx} {e : Expr} {t : TT} (h : PW X e t) : PT X e t := h _
/-- an argument list (no star), from the left -/
def PA (X : Cx) (es : List Expr) (t : TA) : Prop :=
  ∀ (pos : Pos) (pins : List (Addr × Obj)) (s : Shared) (σ : St) (H : Hp) (Q : List V → Hp → Prop), Inv X pins σ H s → t σ H Q → wpAny (model X.prog X.w) X.A (spliced (backTo pos (starEach es X.env))) (AP X pins σ Q) X.xe s
def PS (X : Cx) (st : Stmt) (t : TS) : Prop :=
  ∀ (pins : List (Addr × Obj)) (s : Shared) (σ : St) (H : Hp) (D : Ends), Inv X pins σ H s → t D σ H → wpAny (model X.prog X.w) X.A (exec st X.env) (SP X pins D) X.xe s
def PSs (X : Cx) (st : List Stmt) (t : TS) : Prop :=
  ∀ (pins : List (Addr × Obj)) (s : Shared) (σ : St) (H : Hp) (D : Ends), Inv X pins σ H s → t D σ H → wpAny (model X.prog X.w) X.A (execs st X.env) (SP X pins D) X.xe s
/-- weaken the end -/
theorem thn {α : Type} {t : Sem α} {Q Q' : α → Shared → Prop} {M : Model} {A : Around} {E : Value → Shared → Prop} {s : Shared} (h : wpAny M A t Q E s) (hQ : ∀ a s, Q a s → Q' a s) : wpAny M A t Q' E s := wpAny_mono h hQ fun _ _ x => x
end L2

namespace L2
open PySem PySem.Spec PyProof.Rows
section
variable {X : Cx}

/-! ### names and constants -/
def tVar (i : Nat) : TE := fun σ H Q => ∃ v, σ[i]? = some (some v) ∧ Q v H
def tC (v : V) : TE := fun _ H Q => Q v H
theorem pe_var {i : Nat} {x : Str} {pos : Pos} (hN : X.N[i]? = some x) (hv : Vis X.env.scope x) (hd : (x == ("__debug__" : Str)) = false := by decide) (hcd : (x == ("__classdict__" : Str)) = false := by decide) : PE X (.Name x pos) (tVar i) := by
  intro pins s σ H Q I h
  obtain ⟨v, e, h⟩ := h
  obtain ⟨m, hn, hl⟩ := I.loc
  obtain ⟨u, r, l⟩ := hl i x v hN e hv
  have fin : EP X pins σ Q u s := ⟨v, H, I, r, h⟩
  rcases l with ⟨hk, hm⟩ | ⟨hk, c, hc, hcell⟩
  · exact wpAny_Name (wpAny_loadName_local I.ok.kind hk hn hm fin) hd
  · rcases hk with hk | hk
    · exact wpAny_Name (wpAny_loadName_cell I.ok.kind hk hc hcell fin) hd
    · exact wpAny_Name (wpAny_loadName_free I.ok.kind hk hc hcell fin hcd) hd
theorem pe_int {i j pos} : PE X (.Constant (.int i) j pos) (tC (.int i)) := fun _ _ _ H _ I h => wpAny_Constant_int ⟨.int i, H, I.tok _, ⟨_, rfl⟩, h⟩
theorem pe_bl {b j pos} : PE X (.Constant (.bool b) j pos) (tC (.bl b)) := fun _ _ _ H _ I h => Constant_bool ⟨.bl b, H, I, rfl, h⟩
theorem pe_str {x j pos} : PE X (.Constant (.str x) j pos) (tC (.str x)) := fun _ _ _ H _ I h => Calls.Constant_str ⟨.str x, H, I.tok _, ⟨_, rfl⟩, h⟩

/-- a global name of the def -/
def Gl (X : Cx) (x : Str) : Prop := X.env.kindOf x = some .globalImplicit
theorem ld_glob {E : Value → Shared → Prop} {pins : List (Addr × Obj)} {s : Shared} {σ : St} {H : Hp} {x : Str} {u : Value} {pos : Pos} {Q : Value → Shared → Prop} (I : Inv X pins σ H s) (hg : Gl X x) (hm : X.mg x = some u) (h : Q u s)
    (hd : (x == ("__debug__" : Str)) = false := by decide) : wpAny (model X.prog X.w) X.A (eval (.Name x pos) X.env) Q E s :=
  Calls.Name_function_global I.ok.kind hg (Calls.loadGlobal_global (by rw [I.ok.glob]; exact I.mod.glob.keeps I.bk) hm h) hd
theorem ld_blt {E : Value → Shared → Prop} {pins : List (Addr × Obj)} {s : Shared} {σ : St} {H : Hp} {x : Str} {u : Value} {pos : Pos} {Q : Value → Shared → Prop} (I : Inv X pins σ H s) (hg : Gl X x) (hm : X.mg x = none) (hv : bootBuiltins x = some u) (h : Q u s)
    (hn : x ≠ "__name__" := by decide) (hd : (x == ("__debug__" : Str)) = false := by decide) : wpAny (model X.prog X.w) X.A (eval (.Name x pos) X.env) Q E s := by
  obtain ⟨mb, h1, h2⟩ := I.mod.blt
  exact Calls.Name_function_global I.ok.kind hg (Calls.loadGlobal_builtin (by rw [I.ok.glob]; exact I.mod.glob.keeps I.bk) hm (by rw [I.ok.blt]; exact h1.keeps I.bk) ((h2 x hn).trans hv) h) hd
/-- a module's constant, a class, a function, as a value -/
theorem pe_glob {x : Str} {v : V} {u : Value} {pos : Pos} (hg : Gl X x) (hm : X.mg x = some u) (r : RelV v u) (hd : (x == ("__debug__" : Str)) = false := by decide) : PE X (.Name x pos) (tC v) :=
  fun _ _ _ H _ I h => ld_glob I hg hm ⟨v, H, I, r, h⟩ hd
theorem pe_bltn {x : Str} {v : V} {u : Value} {pos : Pos} (hg : Gl X x) (hm : X.mg x = none) (hv : bootBuiltins x = some u) (r : RelV v u) (hn : x ≠ "__name__" := by decide) (hd : (x == ("__debug__" : Str)) = false := by decide) : PE X (.Name x pos) (tC v) :=
  fun _ _ _ H _ I h => ld_blt I hg hm hv ⟨v, H, I, r, h⟩ hn hd

/-! ### arithmetic -/
variable {a b : Expr} {ta tb : TE} {pos : Pos}
/-! ### comparisons -/
/-- is None -/
def tIsN (ta : TE) : TE := fun σ H Q => ta σ H fun x H1 => Q (.bl (decide (x = .non))) H1
/-- a comparison as a value, as a test -/
def tB (t : TE) : TT := fun σ H Q => t σ H fun x H1 => ∃ c, x = .bl c ∧ Q c H1
/-- an expression whose value is a bool, as a test -/
theorem pt_val {e : Expr} {t : TE} (h : PE X e t) (he : ∀ whole, isTrue e X.env whole = (do let v ← whole; standAt e.pos; holding [v] (truthy v)) := by intro _; rfl) : PT X e (tB t) := by
  intro pins s σ H Q I hw
  refine isTrue_plain (thn (h pins s σ H _ I hw) fun v s1 ⟨x, H1, I1, r1, q1⟩ => ?_) (he _)
  obtain ⟨d, rfl, q⟩ := q1
  cases r1
  exact wpAny_truthy_bool ⟨H1, I1, q⟩

/-! ### and, or, not -/
variable {tA tB' : TT} {rest : List Expr}
def tAnd (t u : TT) : TT := fun σ H Q => t σ H fun c H1 => if c = true then u σ H1 Q else Q false H1
def tOr (t u : TT) : TT := fun σ H Q => t σ H fun c H1 => if c = true then Q true H1 else u σ H1 Q
def tNot (t : TT) : TT := fun σ H Q => t σ H fun c H1 => Q (!c) H1
theorem pw_and1 (ha : PT X a tA) : PW X (.BoolOp .And [a] pos) tA := by
  intro wh pins s σ H Q I h
  refine isTrue_and (thn (ha pins s σ H Q I h) fun c s1 e => ?_)
  cases c with
  | true => exact isTrue_and_nil e
  | false => exact e
theorem pw_or1 (ha : PT X a tA) : PW X (.BoolOp .Or [a] pos) tA := by
  intro wh pins s σ H Q I h
  refine isTrue_or (thn (ha pins s σ H Q I h) fun c s1 e => ?_)
  cases c with
  | false => exact isTrue_or_nil e
  | true => exact e
theorem pw_and (ha : PT X a tA) (hb : PW X (.BoolOp .And (b :: rest) pos) tB') : PW X (.BoolOp .And (a :: b :: rest) pos) (tAnd tA tB') := by
  intro wh pins s σ H Q I h
  refine isTrue_and (thn (ha pins s σ H _ I h) fun c s1 ⟨H1, I1, q1⟩ => ?_)
  cases c with
  | true => exact hb wh pins s1 σ H1 Q I1 q1
  | false => exact ⟨H1, I1, q1⟩
theorem pw_or (ha : PT X a tA) (hb : PW X (.BoolOp .Or (b :: rest) pos) tB') : PW X (.BoolOp .Or (a :: b :: rest) pos) (tOr tA tB') := by
  intro wh pins s σ H Q I h
  refine isTrue_or (thn (ha pins s σ H _ I h) fun c s1 ⟨H1, I1, q1⟩ => ?_)
  cases c with
  | true => exact ⟨H1, I1, q1⟩
  | false => exact hb wh pins s1 σ H1 Q I1 q1
theorem pt_not (ha : PT X a tA) : PT X (.UnaryOp .Not a pos) (tNot tA) := by
  intro pins s σ H Q I h
  exact isTrue_not (ha pins s σ H (fun c H1 => Q (!c) H1) I h)
/-- .. as values (bools) -/
def tAndV (ta tb : TE) : TE := fun σ H Q => ta σ H fun x H1 => ∃ c, x = .bl c ∧ if c = true then tb σ H1 Q else Q (.bl false) H1
def tOrV (ta tb : TE) : TE := fun σ H Q => ta σ H fun x H1 => ∃ c, x = .bl c ∧ if c = true then Q (.bl true) H1 else tb σ H1 Q
def tNotV (ta : TE) : TE := fun σ H Q => ta σ H fun x H1 => ∃ c, x = .bl c ∧ Q (.bl (!c)) H1
theorem pe_one {op} {t : TE} (h : PE X a t) : PE X (.BoolOp op [a] pos) t := fun pins s σ H Q I hw => BoolOp_one (h pins s σ H Q I hw)
theorem pe_and (ha : PE X a ta) (hb : PE X (.BoolOp .And (b :: rest) pos) tb) : PE X (.BoolOp .And (a :: b :: rest) pos) (tAndV ta tb) := by
  intro pins s σ H Q I h
  refine BoolOp_and (thn (ha pins s σ H _ I h) fun v s1 ⟨x, H1, I1, r1, q1⟩ => ?_)
  obtain ⟨c, rfl, q1⟩ := q1
  cases r1
  refine wpAny_truthy_bool ?_
  cases c with
  | true => exact hb pins s1 σ H1 Q I1 q1
  | false => exact ⟨.bl false, H1, I1, rfl, q1⟩
theorem pe_or (ha : PE X a ta) (hb : PE X (.BoolOp .Or (b :: rest) pos) tb) : PE X (.BoolOp .Or (a :: b :: rest) pos) (tOrV ta tb) := by
  intro pins s σ H Q I h
  refine BoolOp_or (thn (ha pins s σ H _ I h) fun v s1 ⟨x, H1, I1, r1, q1⟩ => ?_)
  obtain ⟨c, rfl, q1⟩ := q1
  cases r1
  refine wpAny_truthy_bool ?_
  cases c with
  | false => exact hb pins s1 σ H1 Q I1 q1
  | true => exact ⟨.bl true, H1, I1, rfl, q1⟩
theorem pe_not (ha : PE X a ta) : PE X (.UnaryOp .Not a pos) (tNotV ta) := by
  intro pins s σ H Q I h
  refine UnaryOp_ (thn (ha pins s σ H _ I h) fun v s1 ⟨x, H1, I1, r1, q1⟩ => ?_)
  obtain ⟨c, rfl, q1⟩ := q1
  cases r1
  exact not_of (wpAny_truthy_bool ⟨.bl (!c), H1, I1, rfl, q1⟩)
/-- a if t else b -/
def tIf (t : TT) (ta tb : TE) : TE := fun σ H Q => t σ H fun c H1 => if c = true then ta σ H1 Q else tb σ H1 Q
end
end L2

namespace L2
open PySem PySem.Spec PyProof.Rows

/-! ### a list, a tuple that is read: tracked, frozen, or an object of the module -/
def SqL (K : PySem.W.Frag) (H : Hp) (a : Addr) (xs : List V) : Prop :=
  Rd H a (.lst xs) ∨
    ∃ (o : Obj) (its : Array Value) (n : Nat), K.lookup a = some o ∧ o.cls = .type "list" ∧ o.dict = none ∧ o.data = .seq its n ∧ its.size ≤ sizeLine ∧ Vals xs its.toList
def SqT (K : PySem.W.Frag) (H : Hp) (a : Addr) (xs : List V) : Prop :=
  Rd H a (.tup xs) ∨
    ∃ (o : Obj) (its : Array Value) (n : Nat), K.lookup a = some o ∧ o.cls = .type "tuple" ∧ o.data = .seq its n ∧ its.size ≤ sizeLine ∧ Vals xs its.toList
def absV : Value → Option V
  | .none => some .non
  | .bool b => some (.bl b)
  | .int i _ => some (.int i)
  | .str x _ => some (.str x)
  | .bytes b _ => some (.byt b)
  | .float b _ => some (.flt b)
  | .ref a => some (.ref a)
  | .type n => some (.ty n)
  | _ => none
theorem RelV.abs {x : V} {u : Value} (r : RelV x u) : absV u = some x := by
  cases x with
  | non => cases r; rfl
  | bl _ => cases r; rfl
  | int _ => obtain ⟨t, rfl⟩ := r; rfl
  | str _ => obtain ⟨t, rfl⟩ := r; rfl
  | byt _ => obtain ⟨t, rfl⟩ := r; rfl
  | flt _ => obtain ⟨t, rfl⟩ := r; rfl
  | ref _ => cases r; rfl
  | ty _ => cases r; rfl
theorem RelV.inj {x y : V} {u : Value} (r : RelV x u) (q : RelV y u) : x = y := Option.some.inj (r.abs.symm.trans q.abs)
theorem Vals.inj : ∀ {xs ys : List V} {us : List Value}, Vals xs us → Vals ys us → xs = ys
  | _, _, _, .nil, .nil => rfl
  | _, _, _, .cons r t, .cons r' t' => by rw [r.inj r', Vals.inj t t']
section
variable {X : Cx} {pins : List (Addr × Obj)} {σ : St} {H : Hp} {s : Shared} {a : Addr} {xs ys : List V}
theorem SqL.of {K : PySem.W.Frag} (h : H a = some (.lst xs)) : SqL K H a xs := .inl (.inl h)
theorem SqT.of {K : PySem.W.Frag} (h : H a = some (.tup xs)) : SqT K H a xs := .inl (.inl h)
theorem Inv.list (I : Inv X pins σ H s) (h : SqL X.K H a xs) : ∃ its : List Value, Vals xs its ∧ PlainL s.heap a its.toArray ∧ xs.length ≤ sizeLine := by
  rcases h with h | ⟨o, its, n, hk, hc, hd, hs, hz, r⟩
  · obtain ⟨z, its, n, r, e⟩ := h.ok I.hok
    exact ⟨its, r, ⟨_, n, e, rfl, rfl, rfl⟩, z⟩
  · refine ⟨its.toList, r, ⟨o, n, I.kIn a o hk, hc, hd, by simpa using hs⟩, ?_⟩
    have e := r.length
    simp only [Array.length_toList] at e
    omega
theorem Inv.tuple (I : Inv X pins σ H s) (h : SqT X.K H a xs) : ∃ its : List Value, Vals xs its ∧ IsTup s.heap a its.toArray ∧ xs.length ≤ sizeLine := by
  rcases h with h | ⟨o, its, n, hk, hc, hs, hz, r⟩
  · obtain ⟨z, its, r, p⟩ := h.ok I.hok
    exact ⟨its, r, p, z⟩
  · refine ⟨its.toList, r, ⟨o, I.kIn a o hk, hc, n, by simpa using hs⟩, ?_⟩
    have e := r.length
    simp only [Array.length_toList] at e
    omega
theorem Inv.list_inj (I : Inv X pins σ H s) (h : SqL X.K H a xs) (h' : SqL X.K H a ys) : xs = ys := by
  obtain ⟨its, r, ⟨o, n, e, _, _, d⟩, _⟩ := I.list h
  obtain ⟨its', r', ⟨o', n', e', _, _, d'⟩, _⟩ := I.list h'
  rw [e] at e'; cases e'
  rw [d] at d'
  injection d' with d1 _
  have : its = its' := by simpa using congrArg Array.toList d1
  subst this
  exact r.inj r'
end

/-! ### another wish about exceptions -/
abbrev Cx.wish (X : Cx) (E : Value → Shared → Prop) : Cx := { X with xe := E }
/-- no exception leaves -/
abbrev Cx.nox (X : Cx) : Cx := X.wish fun _ _ => False
theorem Cx.Ok.wish {X : Cx} (ok : X.Ok) (E : Value → Shared → Prop) : (X.wish E).Ok :=
  ⟨ok.mod, ok.kind, ok.glob, ok.blt, ok.above, ok.inj, ok.has, ok.cab, ok.hd, ok.frames, ok.stk, ok.exf, ok.bs, ok.bsz, ok.noex, ok.exfs, ok.funs, ok.frf⟩
theorem Cx.Ok.unwish {X : Cx} {E : Value → Shared → Prop} (ok : (X.wish E).Ok) : X.Ok :=
  ⟨ok.mod, ok.kind, ok.glob, ok.blt, ok.above, ok.inj, ok.has, ok.cab, ok.hd, ok.frames, ok.stk, ok.exf, ok.bs, ok.bsz, ok.noex, ok.exfs, ok.funs, ok.frf⟩
section
variable {X : Cx} {pins : List (Addr × Obj)} {σ : St} {H : Hp} {s : Shared} {E : Value → Shared → Prop}
theorem Inv.wish (I : Inv X pins σ H s) (E : Value → Shared → Prop) : Inv (X.wish E) pins σ H s := ⟨I.ok.wish E, I.os, I.bare, I.base, I.loc, I.cell, I.free, I.freeC, I.pin, I.hok, I.len⟩
theorem Inv.unwish (I : Inv (X.wish E) pins σ H s) : Inv X pins σ H s := ⟨I.ok.unwish, I.os, I.bare, I.base, I.loc, I.cell, I.free, I.freeC, I.pin, I.hok, I.len⟩
theorem SP.unwish {D : Ends} {f : Flow} {s' : Shared} (h : SP (X.wish E) pins D f s') : SP X pins D f s' := by
  cases f with
  | next => obtain ⟨σ', H', I, q⟩ := h; exact ⟨σ', H', I.unwish, q⟩
  | brk => obtain ⟨σ', H', I, q⟩ := h; exact ⟨σ', H', I.unwish, q⟩
  | cont => obtain ⟨σ', H', I, q⟩ := h; exact ⟨σ', H', I.unwish, q⟩
  | ret u => obtain ⟨v, σ', H', I, r, q⟩ := h; exact ⟨v, σ', H', I.unwish, r, q⟩
theorem PE.nox {e : Expr} {t : TE} (h : PE X.nox e t) : PE X e t := fun pins s σ H Q I hw =>
  wpAny_mono (h pins s σ H Q (I.wish _) hw) (fun _ _ ⟨v, H', I', r, q⟩ => ⟨v, H', I'.unwish, r, q⟩) fun _ _ z => False.elim z
theorem PT.nox {e : Expr} {t : TT} (h : PT X.nox e t) : PT X e t := fun pins s σ H Q I hw =>
  wpAny_mono (h pins s σ H Q (I.wish _) hw) (fun _ _ ⟨H', I', q⟩ => ⟨H', I'.unwish, q⟩) fun _ _ z => False.elim z
theorem PSs.nox {st : List Stmt} {t : TS} (h : PSs X.nox st t) : PSs X st t := fun pins s σ H D I hw =>
  wpAny_mono (h pins s σ H D (I.wish _) hw) (fun _ _ q => q.unwish) fun _ _ z => False.elim z
end

/-! ### blocks and small statements -/
section
variable {X : Cx} {st : Stmt} {rest : List Stmt} {t u : TS} {e : Expr} {te : TE} {pos : Pos}
def tNext : TS := fun D σ H => D.nx σ H
def tSeq (t u : TS) : TS := fun D σ H => t { D with nx := u D } σ H
theorem pss_nil : PSs X [] tNext := fun _ _ σ H _ I h => wpAny_execs_nil ⟨σ, H, I, h⟩
theorem pss_cons (h1 : PS X st t) (h2 : PSs X rest u) : PSs X (st :: rest) (tSeq t u) := by
  intro pins s σ H D I h
  refine wpAny_execs_cons (thn (h1 pins s σ H { D with nx := u D } I h) fun f s1 q => ?_)
  cases f with
  | next =>
    obtain ⟨σ', H', I', q⟩ := q
    exact h2 pins s1 σ' H' D I' q
  | ret v => exact q
  | brk => exact q
  | cont => exact q
theorem pss_one (h1 : PS X st t) : PSs X [st] t := by
  intro pins s σ H D I h
  refine wpAny_execs_cons (thn (h1 pins s σ H D I h) fun f s1 q => ?_)
  cases f with
  | next => exact wpAny_execs_nil q
  | ret v => exact q
  | brk => exact q
  | cont => exact q
/-- in a def's body nothing is shown -/
theorem Inv.quiet {pins : List (Addr × Obj)} {σ : St} {H : Hp} {s : Shared} (I : Inv X pins σ H s) : interactive X.env = false := by simp [interactive, I.ok.kind]
/-- an expression whose value is dropped -/
def tDrop (te : TE) : TS := fun D σ H => te σ H fun _ H1 => D.nx σ H1
theorem ps_expr (he : PE X e te) (hs : swapsWith e none pos.line X.env = pure false := by rfl) : PS X (.Expr e pos) (tDrop te) := by
  intro pins s σ H D I h
  exact wpAny_Expr_any (thn (he pins s σ H _ I h) fun v s1 ⟨x, H1, I1, r1, q1⟩ => ⟨σ, H1, I1, q1⟩) I.quiet hs
def tRet (te : TE) : TS := fun D σ H => te σ H D.rt
theorem ps_ret (he : PE X e te) : PS X (.Return (some e) pos) (tRet te) := by
  intro pins s σ H D I h
  exact wpAny_Return_some (thn (he pins s σ H _ I h) fun v s1 ⟨x, H1, I1, r1, q1⟩ => ⟨x, σ, H1, I1, r1, q1⟩)
def tRetN : TS := fun D _ H => D.rt .non H
def tIfS (c : TT) (t u : TS) : TS := fun D σ H => c σ H fun b H1 => if b = true then t D σ H1 else u D σ H1
theorem ps_if {c : Expr} {a b : List Stmt} {tc : TT} (hc : PT X c tc) (ha : PSs X a t) (hb : PSs X b u) : PS X (.If c a b pos) (tIfS tc t u) := by
  intro pins s σ H D I h
  refine wpAny_If (thn (hc pins s σ H _ I h) fun d s1 ⟨H1, I1, q1⟩ => ?_)
  cases d with
  | true => exact ha pins s1 σ H1 D I1 q1
  | false => exact hb pins s1 σ H1 D I1 q1
/-- code that the proof never comes to -/
def tNever : TS := fun _ _ _ => False
end

/-! ### targets -/
abbrev TG := V → St → Hp → (St → Hp → Prop) → Prop
abbrev TGs := List V → St → Hp → (St → Hp → Prop) → Prop
def PG (X : Cx) (target : Expr) (t : TG) : Prop :=
  ∀ (pins : List (Addr × Obj)) (s : Shared) (σ : St) (H : Hp) (v : V) (u : Value) (Q : St → Hp → Prop), Inv X pins σ H s → RelV v u → t v σ H Q →
    wpAny (model X.prog X.w) X.A (assign target X.env u) (fun _ s' => ∃ σ' H', Inv X pins σ' H' s' ∧ Q σ' H') X.xe s
/-- several targets, one after another -/
def PGs (X : Cx) (ts : List Expr) (t : TGs) : Prop :=
  ∀ (pins : List (Addr × Obj)) (s : Shared) (σ : St) (H : Hp) (vs : List V) (us : List Value) (Q : St → Hp → Prop), Inv X pins σ H s → Vals vs us → t vs σ H Q →
    wpAny (model X.prog X.w) X.A (assignInOrder ((assignEach ts X.env).map (·.2)) us) (fun _ s' => ∃ σ' H', Inv X pins σ' H' s' ∧ Q σ' H') X.xe s
/-- o[i] = v, by values -/
abbrev TSet := V → V → V → Hp → (Hp → Prop) → Prop
def PSet (X : Cx) (t : TSet) : Prop :=
  ∀ (pins : List (Addr × Obj)) (s : Shared) (σ : St) (H : Hp) (o i v : V) (ov iv u : Value) (Q : Hp → Prop), Inv X pins σ H s → RelV o ov → RelV i iv → RelV v u → t o i v H Q →
    wpAny (model X.prog X.w) X.A (setItem ov iv u) (fun _ s' => ∃ H', Inv X pins σ H' s' ∧ Q H') X.xe s
section
variable {X : Cx} {pos : Pos}
def gName (i : Nat) : TG := fun v σ H Q => Q (σ.set i (some v)) H
theorem pg_name {i : Nat} {x : Str} (hN : X.N.Nodup) (hi : X.N[i]? = some x) (hx : Loc X.env.scope x) (hf : X.fn x = true ∨ X.env.scope.names.lookup x = some .local := by first | exact .inl rfl | exact .inr rfl | assumption) : PG X (.Name x pos) (gName i) := by
  intro pins s σ H v u Q I r h
  exact wpAny_assign_Name (store_ok I hN hi hx r (fun s' I' => ⟨_, H, I', h⟩) hf)
def gNil : TGs := fun vs σ H Q => vs = [] ∧ Q σ H
def gCons (t : TG) (u : TGs) : TGs := fun vs σ H Q => ∃ v r, vs = v :: r ∧ t v σ H fun σ' H' => u r σ' H' Q
theorem pgs_nil : PGs X [] gNil := by
  intro pins s σ H vs us Q I r h
  obtain ⟨e, h⟩ := h
  subst e
  cases r
  exact assignInOrder_nil ⟨σ, H, I, h⟩
theorem pgs_cons {e : Expr} {es : List Expr} {t : TG} {u : TGs} (h1 : PG X e t) (h2 : PGs X es u)
    (hs : (assignEach (e :: es) X.env).map (·.2) = assign e X.env :: (assignEach es X.env).map (·.2) := by rfl) : PGs X (e :: es) (gCons t u) := by
  intro pins s σ H vs us Q I r h
  obtain ⟨v, vr, e1, h⟩ := h
  subst e1
  cases r with
  | cons r rr =>
    rw [hs]
    refine assignInOrder_cons (thn (h1 pins s σ H _ _ _ I r h) fun _ s1 ⟨σ1, H1, I1, q1⟩ => ?_)
    exact h2 pins s1 σ1 H1 _ _ Q I1 rr q1
/-- (a, b, ..) = a tuple of that length -/
def gTup (K : PySem.W.Frag) (n : Nat) (t : TGs) : TG := fun v σ H Q => ∃ a xs, v = .ref a ∧ SqT K H a xs ∧ xs.length = n ∧ t xs σ H Q
theorem pg_tup {es : List Expr} {k : Nat} {t : TGs} {n : Nat} (hc : X.calm = true) (h : PGs X es t)
    (hn : (assignEach es X.env).length = n := by rfl) (hst : (assignEach es X.env).findIdx? (·.1) = none := by rfl) : PG X (.Tuple es k pos) (gTup X.K n t) := by
  intro pins s σ H v u Q I r hw
  obtain ⟨a, xs, e1, hq, hl, hw⟩ := hw
  subst e1
  cases r
  obtain ⟨its, rv, ht, hz⟩ := I.tuple hq
  refine assign_Tuple_tuple (I.ok.hd hc) ht (by simp [hn, ← hl, rv.length]) hst fun h' hx => ?_
  have I1 : Inv X pins σ H { s with heap := h' } := I.kept (t' := s.toks) fun b o e => hx b o (Nat.ne_of_lt (Heap.lt_size e)) e
  exact h pins _ σ H xs _ Q I1 (by simpa using rv) hw
/-- o[i] = .. -/
def gSub (to ti : TE) (t : TSet) : TG := fun v σ H Q => to σ H fun o H1 => ti σ H1 fun i H2 => t o i v H2 fun H3 => Q σ H3
theorem pg_sub {o i : Expr} {to ti : TE} {t : TSet} (ho : PE X o to) (hi : PE X i ti) (hs : PSet X t)
    (ha : ∀ v, assign (.Subscript o i pos) X.env v = (do
      let ov ← holding [v] (eval o X.env)
      let iv ← holding [v, ov] (eval i X.env)
      standAt pos
      holding [v, ov, iv] (setItem ov iv v)
      release [v, ov, iv] []) := by intro _; rfl) : PG X (.Subscript o i pos) (gSub to ti t) := by
  intro pins s σ H v u Q I r h
  rw [ha]
  refine wpAny_bind (wpAny_holding (thn (ho pins s σ H _ I h) fun ov s1 ⟨x, H1, I1, r1, q1⟩ => ?_))
  refine wpAny_bind (wpAny_holding (thn (hi pins s1 σ H1 _ I1 q1) fun iv s2 ⟨y, H2, I2, r2, q2⟩ => ?_))
  refine wpAny_bind (wpAny_standAt (wpAny_bind (wpAny_holding (thn (hs pins s2 σ H2 x y v ov iv u _ I2 r1 r2 r q2) fun _ s3 ⟨H3, I3, q3⟩ => ?_))))
  exact wpAny_release ⟨σ, H3, I3, q3⟩
/-- target = value -/
def tAsg (te : TE) (g : TG) : TS := fun D σ H => te σ H fun x H1 => g x σ H1 D.nx
theorem ps_asg {tg e : Expr} {te : TE} {g : TG} (he : PE X e te) (hg : PG X tg g) (hs : swapsWithSole [tg] e pos.line X.env = pure false := by rfl) (hw : swappedStores [tg] e X.env = pure none := by rfl)
    (h1 : (assignEach [tg] X.env).map (·.2) = [assign tg X.env] := by rfl) : PS X (.Assign [tg] e pos) (tAsg te g) := by
  intro pins s σ H D I h
  refine wpAny_Assign_stores (thn (he pins s σ H _ I h) fun v s1 ⟨x, H1, I1, r1, q1⟩ => ?_) hs hw
  rw [h1]
  exact thn (hg pins s1 σ H1 x v _ I1 r1 q1) fun _ s2 q => q
/-- name = value -/
theorem ps_set {i : Nat} {x : Str} {e : Expr} {te : TE} {pos' : Pos} (hN : X.N.Nodup) (hi : X.N[i]? = some x) (hx : Loc X.env.scope x) (he : PE X e te) (hs : swapsWith e (some (.Name x pos')) pos.line X.env = pure false := by rfl) (hf : X.fn x = true ∨ X.env.scope.names.lookup x = some .local := by first | exact .inl rfl | exact .inr rfl | assumption) :
    PS X (.Assign [.Name x pos'] e pos) (tAsg te (gName i)) := by
  intro pins s σ H D I h
  refine wpAny_Assign_Name (thn (he pins s σ H _ I h) fun v s1 ⟨y, H1, I1, r1, q1⟩ => ?_) hs
  exact store_ok I1 hN hi hx r1 (fun s2 I2 => ⟨_, H1, I2, q1⟩) hf
end

/-! ### while -/
section
variable {X : Cx} {pos : Pos}
end

/-! ### what a loop or a comprehension walks -/
/-- at turn i: it yields x (the heap may grow), or it stops -/
structure It where
  go : Nat → Hp → Prop
  yld : Nat → Hp → V → Hp → Prop
  stop : Nat → Hp → Prop
/-- the iterator's own objects may turn: they are not the frame's, not pinned, younger than the entry (or a comprehension's own) -/
def FpOk (X : Cx) (pins : List (Addr × Obj)) (H : Hp) (b : Addr) : Prop :=
  H b = none ∧ b ≠ X.env.locals ∧ b ∉ X.fs ∧ (b ∈ X.ex ∨ X.s₀.heap.objs.size ≤ b) ∧ (∀ x c, X.env.cells.lookup x = some c → c ≠ b) ∧ ∀ p ∈ X.pn ++ pins, p.1 ≠ b
theorem Inv.fpOk {X : Cx} {pins : List (Addr × Obj)} {σ : St} {H H' : Hp} {s : Shared} {b : Addr} (I : Inv X pins σ H s) (hb : s.heap.objs.size ≤ b) (hn : H' b = none) : FpOk X pins H' b := by
  refine ⟨hn, Nat.ne_of_gt (Nat.lt_of_lt_of_le I.lt hb), I.nofs hb, .inr (Nat.le_trans I.sz hb), fun x c e z => ?_, fun p hp z => ?_⟩
  · obtain ⟨v, q⟩ := I.cell x c e
    exact absurd (Nat.lt_of_lt_of_le q.lt (by rw [z]; exact hb)) (Nat.lt_irrefl _)
  · exact absurd (Nat.lt_of_lt_of_le (Heap.lt_size (I.pin p hp).1) (by rw [z]; exact hb)) (Nat.lt_irrefl _)
structure Turn (P : Program) (w : World) (K : PySem.W.Frag) (tg : Expr) (J : It) (fp : List Addr) (it : Addr) (tn : Nat → Heap → Prop) : Prop where
  mem : it ∈ fp
  obj : ∀ i h, tn i h → ∀ b ∈ fp, ∃ o, h.get? b = some o ∧ ∀ v, o.data ≠ .cell v
  keep : ∀ i h h', tn i h → (∀ b ∈ fp, ∀ o, h.get? b = some o → h'.get? b = some o) → tn i h'
  item : ∀ (X : Cx), X.prog = P → X.w = w → X.K = K → X.calm = true → ∀ (i : Nat) (pins : List (Addr × Obj)) (s : Shared) (σ : St) (H : Hp) (E : Value → Shared → Prop), Inv X pins σ H s → (∀ b ∈ fp, FpOk X pins H b) → tn i s.heap → J.go i H →
    wpAny (model P w) X.A (pyNext (.ref it)) (fun r s1 => ∃ u, r = some u ∧
      wpAny (model P w) X.A (letOwnedTupleGo tg (.ref it) u) (fun _ s2 => ∃ x H', Inv X pins σ H' s2 ∧ RelV x u ∧ J.yld i H x H' ∧ tn (i + 1) s2.heap ∧ ∀ b ∈ fp, H' b = none) E s1) E s
  done : ∀ (X : Cx), X.prog = P → X.w = w → X.K = K → X.calm = true → ∀ (i : Nat) (pins : List (Addr × Obj)) (s : Shared) (σ : St) (H : Hp) (E : Value → Shared → Prop), Inv X pins σ H s → (∀ b ∈ fp, FpOk X pins H b) → tn i s.heap → J.stop i H →
    wpAny (model P w) X.A (pyNext (.ref it)) (fun r s1 => r = none ∧ Inv X pins σ H s1) E s
  self : ∀ (A : Around) (i : Nat) (s : Shared) (Q : Value → Shared → Prop) (E : Value → Shared → Prop), tn i s.heap → Q (.ref it) s → wpAny (model P w) A (pyIter (.ref it)) Q E s
abbrev TI := St → Hp → (It → Hp → Prop) → Prop
/-- an iterator has come -/
def PIE (X : Cx) (pins : List (Addr × Obj)) (σ : St) (tg : Expr) (R : It → Hp → Prop) (itv : Value) (s2 : Shared) : Prop :=
  ∃ (it : Addr) (fp : List Addr) (tn : Nat → Heap → Prop) (J : It) (H' : Hp), itv = .ref it ∧ Inv X pins σ H' s2 ∧ Turn X.prog X.w X.K tg J fp it tn ∧ tn 0 s2.heap ∧ (∀ b ∈ fp, FpOk X pins H' b) ∧ R J H'
def PI (X : Cx) (tg iter : Expr) (wi : TI) : Prop :=
  ∀ (pins : List (Addr × Obj)) (s : Shared) (σ : St) (H : Hp) (R : It → Hp → Prop), Inv X pins σ H s → wi σ H R →
    wpAny (model X.prog X.w) X.A (eval iter X.env) (fun v s1 => wpAny (model X.prog X.w) X.A (pyIter v) (PIE X pins σ tg R) X.xe s1) X.xe s

/-- the step ahead of the store is nothing for an iterator that keeps no tuple -/
theorem go_of {M : Model} {A : Around} {E : Value → Shared → Prop} {s : Shared} {tg : Expr} {it : Addr} {u : Value} {o : Obj} {n : String} {vs : Array Value} {Q : Unit → Shared → Prop} (ho : s.heap.get? it = some o) (hc : o.cls = .type n) (hd : o.data = .fields vs)
    (hn : ["enumerate", "zip", "dict_itemiterator", "dict_reverseitemiterator", "odict_iterator", "itertools.zip_longest", "itertools.pairwise"].contains n = false) (hQ : Q () s) : wpAny M A (letOwnedTupleGo tg (.ref it) u) Q E s := by
  unfold letOwnedTupleGo
  cases tg <;> first
    | exact wpAny_pure hQ
    | (cases u <;> first
        | exact wpAny_pure hQ
        | (refine wpAny_bind (wpAny_load ho ?_)
           rw [hc, hd]
           show wpAny M A (if (["enumerate", "zip", "dict_itemiterator", "dict_reverseitemiterator", "odict_iterator", "itertools.zip_longest", "itertools.pairwise"].contains n && vs[0]? == some (rawInt _)) = true then _ else _) Q E s
           rw [if_neg (by intro h; rw [hn, Bool.false_and] at h; cases h)]
           exact wpAny_pure hQ))

/-- the list at a, as it stands at each turn (a loop may append to it) -/
def Itl (K : PySem.W.Frag) (a : Addr) : It :=
  ⟨fun i H => ∃ xs x, SqL K H a xs ∧ xs[i]? = some x, fun i H x H' => H' = H ∧ ∀ xs, SqL K H a xs → xs[i]? = some x, fun i H => ∃ xs, SqL K H a xs ∧ xs.length ≤ i⟩
def Itt (K : PySem.W.Frag) (a : Addr) : It :=
  ⟨fun i H => ∃ xs x, SqT K H a xs ∧ xs[i]? = some x, fun i H x H' => H' = H ∧ ∀ xs, SqT K H a xs → xs[i]? = some x, fun i H => ∃ xs, SqT K H a xs ∧ xs.length ≤ i⟩
/-- lo, lo + 1, .. (n of them) -/
def Itr (lo : Int) (n : Nat) : It := ⟨fun i _ => i < n, fun i H x H' => H' = H ∧ x = .int (lo + i), fun i _ => n ≤ i⟩
theorem turn_list {P : Program} {w : World} {K : PySem.W.Frag} {tg : Expr} (a it : Addr) : Turn P w K tg (Itl K a) [it] it (fun i h => h.IsListIter it a i) where
  mem := by simp
  obj := fun i h st b hb => by
    have e : b = it := by simpa using hb
    subst e
    obtain ⟨o, e, c, d⟩ := st
    exact ⟨o, e, fun v z => by rw [d] at z; cases z⟩
  keep := fun i h h' st k => st.at fun o e => k it (by simp) o e
  item := by
    intro X hP hw hK hc i pins s σ H E I hf st hg
    subst hP hw hK
    obtain ⟨xs, x, hq, hx⟩ := hg
    obtain ⟨its, rv, p, hz⟩ := I.list hq
    obtain ⟨u, hu, ru⟩ := rv.get hx
    obtain ⟨f0, f1, f2, f3, f4, f5⟩ := hf it (by simp)
    refine wpAny_pyNext_list_item st p.isList (x := u) (by simpa using hu) fun h' st' sb => ?_
    have I1 : Inv X pins σ H { s with heap := h' } := I.turned (t' := s.toks) (fun b o hb e => (sb.2 b hb).trans e) f0 f1 f3 f4 f5
    obtain ⟨o, e, c, d⟩ := id st'
    exact ⟨u, rfl, go_of (s := { s with heap := h' }) e c d (by decide) ⟨x, H, I1, ru, ⟨rfl, fun ys hy => by rw [I.list_inj hy hq]; exact hx⟩, st', fun b hb => (hf b hb).1⟩⟩
  done := by
    intro X hP hw hK hc i pins s σ H E I hf st hg
    subst hP hw hK
    obtain ⟨xs, hq, hx⟩ := hg
    obtain ⟨its, rv, p, hz⟩ := I.list hq
    obtain ⟨f0, f1, f2, f3, f4, f5⟩ := hf it (by simp)
    have hl := rv.length
    exact wpAny_pyNext_list_end (I.ok.hd hc) st p.isList (by simp; omega) fun h' eb => ⟨rfl, I.turned (t' := s.toks) (fun b o hb e => eb b o hb e) f0 f1 f3 f4 f5⟩
  self := fun _ _ _ _ _ st h => wpAny_pyIter_listiter st h
theorem turn_range {P : Program} {w : World} {K : PySem.W.Frag} {tg : Expr} (it : Addr) (lo : Int) (n : Nat) : Turn P w K tg (Itr lo n) [it] it (fun i h => IsRangeIter h it (lo + (i : Nat) * 1) ((n : Int) - (i : Nat)) 1) where
  mem := by simp
  obj := fun i h st b hb => by
    have e : b = it := by simpa using hb
    subst e
    exact ⟨_, st, fun v z => by
      have z' : Data.fields _ = Data.cell v := z
      cases z'⟩
  keep := fun i h h' st k => k it (by simp) _ st
  item := by
    intro X hP hw hK hc i pins s σ H E I hf st hg
    subst hP hw hK
    obtain ⟨f0, f1, f2, f3, f4, f5⟩ := hf it (by simp)
    have W := Walks.range (prog := X.prog) (w := X.w) (I.ok.hd hc) it lo 1 n
    refine W.item i s _ _ hg st fun v h' tk hv st' kk => ?_
    obtain ⟨t, rfl⟩ := hv
    have I1 : Inv X pins σ H { s with heap := h', toks := tk } := I.turned (fun b o hb e => kk b o (by simpa using hb) e) f0 f1 f3 f4 f5
    refine ⟨_, rfl, go_of (s := { s with heap := h', toks := tk }) (n := "range_iterator") st' rfl rfl (by decide) ⟨.int (lo + i), H, I1, ⟨t, ?_⟩, ⟨rfl, rfl⟩, st', fun b hb => (hf b hb).1⟩⟩
    rw [Int.mul_one]
  done := by
    intro X hP hw hK hc i pins s σ H E I hf st hg
    subst hP hw hK
    obtain ⟨f0, f1, f2, f3, f4, f5⟩ := hf it (by simp)
    exact wpAny_pyNext_range_end (I.ok.hd hc) st (by have : n ≤ i := hg; omega) fun h' eb => ⟨rfl, I.turned (t' := s.toks) (fun b o hb e => eb b o hb e) f0 f1 f3 f4 f5⟩
  self := fun _ _ _ _ _ st h => wpAny_pyIter_rangeiter st h
end L2

namespace L2
open PySem PySem.Spec PyProof.Rows
section
variable {X : Cx} {tg : Expr}
def iList (K : PySem.W.Frag) (tl : TE) : TI := fun σ H R => tl σ H fun x H1 => ∃ a, x = .ref a ∧ (∃ xs, SqL K H1 a xs) ∧ R (Itl K a) H1
def iTup (K : PySem.W.Frag) (tl : TE) : TI := fun σ H R => tl σ H fun x H1 => ∃ a, x = .ref a ∧ (∃ xs, SqT K H1 a xs) ∧ R (Itt K a) H1
theorem pi_list {l : Expr} {tl : TE} (hl : PE X l tl) : PI X tg l (iList X.K tl) := by
  intro pins s σ H R I h
  refine thn (hl pins s σ H _ I h) fun v s1 ⟨x, H1, I1, r1, q1⟩ => ?_
  obtain ⟨a, e, ⟨xs, hq⟩, q⟩ := q1
  subst e
  cases r1
  obtain ⟨its, rv, p, hz⟩ := I1.list hq
  refine wpAny_pyIter_list p.isList ?_
  refine ⟨s1.heap.objs.size, [s1.heap.objs.size], _, _, H1, rfl, I1.kept (t' := s1.toks) fun b o e => Heap.get?_push_of_some _ e, turn_list a _, ⟨_, Heap.get?_push_size _ rfl, rfl, rfl⟩, fun b hb => ?_, q⟩
  have e : b = s1.heap.objs.size := by simpa using hb
  subst e
  exact I1.fpOk (Nat.le_refl _) (I1.hok.fresh (Nat.le_refl _))
/-- a range object just made, walked -/
theorem range_it {pins : List (Addr × Obj)} {σ : St} {H : Hp} {s : Shared} {R : It → Hp → Prop} {E : Value → Shared → Prop} {lo hi : Int} {t u v : Tok} {tk : Nat} (I : Inv X pins σ H s) (h1 : -(2 ^ 62) ≤ lo) (h2 : lo < 2 ^ 62) (h3 : -(2 ^ 62) ≤ hi) (h4 : hi < 2 ^ 62)
    (q : R (Itr lo (hi - lo).toNat) H) : wpAny (model X.prog X.w) X.A (pyIter (.ref s.heap.objs.size)) (PIE X pins σ tg R) E { s with heap := s.heap.push { cls := .type "range", data := .fields #[.int lo t, .int hi u, .int 1 v] }, toks := tk } := by
  refine wpAny_pyIter_range (IsRange.new ..) (small_one h1 h2 h3 h4) ?_
  have I1 : Inv X pins σ H { s with heap := s.heap.push { cls := .type "range", data := .fields #[.int lo t, .int hi u, .int 1 v] }, toks := tk } := I.kept fun b o e => Heap.get?_push_of_some _ e
  refine ⟨(s.heap.push { cls := .type "range", data := .fields #[.int lo t, .int hi u, .int 1 v] }).objs.size, [(s.heap.push { cls := .type "range", data := .fields #[.int lo t, .int hi u, .int 1 v] }).objs.size], _, _, H, rfl,
    I1.kept (t' := tk) fun b o e => Heap.get?_push_of_some _ e, turn_range _ lo (hi - lo).toNat, ?_, fun b hb => ?_, q⟩
  · have e1 : lo + ((0 : Nat) : Int) * 1 = lo := by simp
    have e2 : (((hi - lo).toNat : Nat) : Int) - ((0 : Nat) : Int) = Builtin.Range.rangeSize lo hi 1 := by rw [rangeSize_one]; split <;> omega
    show IsRangeIter _ _ (lo + ((0 : Nat) : Int) * 1) ((((hi - lo).toNat : Nat) : Int) - ((0 : Nat) : Int)) 1
    rw [e1, e2]
    exact Heap.get?_push_size _ rfl
  · have e : b = (s.heap.push { cls := .type "range", data := .fields #[.int lo t, .int hi u, .int 1 v] }).objs.size := by simpa using hb
    subst e
    exact I1.fpOk (Nat.le_refl _) (I1.hok.fresh (Nat.le_refl _))
def iRng1 (ta : TA) : TI := fun σ H R => ta σ H fun vs H1 => ∃ j : Int, vs = [.int j] ∧ -(2 ^ 62) ≤ j ∧ j < 2 ^ 62 ∧ R (Itr 0 j.toNat) H1
def iRng2 (ta : TA) : TI := fun σ H R => ta σ H fun vs H1 => ∃ i j : Int, vs = [.int i, .int j] ∧ (-(2 ^ 62) ≤ i ∧ i < 2 ^ 62 ∧ -(2 ^ 62) ≤ j ∧ j < 2 ^ 62) ∧ R (Itr i (j - i).toNat) H1
theorem pi_range1 {a : Expr} {ta : TA} {p pos : Pos} (hg : Gl X "range") (hm : X.mg "range" = none) (ha : PA X [a] ta) (hs : starEach [a] X.env = [(false, eval a X.env)] := by rfl) : PI X tg (.Call (.Name "range" p) [a] [] pos) (iRng1 ta) := by
  intro pins s σ H R I h
  refine Call_ (ld_blt I hg hm boot_range (PyProof.Rows.callWith_type1 (thn (ha pos pins s σ H _ I h) fun us s1 ⟨vs, H1, I1, r1, q1⟩ => ?_) hs rfl))
  obtain ⟨j, e, q1, q2, q⟩ := q1
  subst e
  cases r1 with
  | cons r rr =>
    cases rr
    obtain ⟨t, rfl⟩ := r
    exact call_range_1 (range_it I1 (by omega) (by omega) q1 q2 (by simpa using q))
/-! ### for -/
/-- W: the invariant by the turn and a measure; N: what the body is to reach -/
def tFor (wi : TI) (g : TG) (tb : TS) : TS := fun D σ H => wi σ H fun J H1 => ∃ W : Nat → Nat → St → Hp → Prop, (∃ m, W 0 m σ H1) ∧ ∀ i m σ H, W i m σ H →
  (J.stop i H ∧ D.nx σ H) ∨ (J.go i H ∧ ∃ N : St → Hp → Prop, (∀ σ' H', N σ' H' → ∃ m', m' < m ∧ W (i + 1) m' σ' H') ∧ ∀ x H', J.yld i H x H' → g x σ H' fun σ2 H2 => tb { D with nx := N, ct := N, bk := D.nx } σ2 H2)
/-- the records at fp as they stand -/
def pinsAt (fp : List Addr) (h : Heap) : List (Addr × Obj) := fp.filterMap fun b => (h.get? b).map fun o => (b, o)
theorem mem_pinsAt {fp : List Addr} {h : Heap} {b : Addr} {o : Obj} (hb : b ∈ fp) (e : h.get? b = some o) : (b, o) ∈ pinsAt fp h := List.mem_filterMap.mpr ⟨b, hb, by rw [e]; rfl⟩
theorem of_pinsAt {fp : List Addr} {h : Heap} {p : Addr × Obj} (hp : p ∈ pinsAt fp h) : p.1 ∈ fp ∧ h.get? p.1 = some p.2 := by
  obtain ⟨b, hb, e⟩ := List.mem_filterMap.mp hp
  cases q : h.get? b with
  | none => rw [q] at e; cases e
  | some o =>
    rw [q] at e
    have e' : (b, o) = p := Option.some.inj e
    subst e'
    exact ⟨hb, q⟩
theorem Inv.pinned {pins : List (Addr × Obj)} {σ : St} {H : Hp} {s : Shared} {fp : List Addr} (I : Inv X pins σ H s) (hf : ∀ b ∈ fp, FpOk X pins H b) (ho : ∀ b ∈ fp, ∃ o, s.heap.get? b = some o ∧ ∀ v, o.data ≠ .cell v) : Inv X (pins ++ pinsAt fp s.heap) σ H s :=
  I.pins_of fun p hp => (List.mem_append.mp hp).elim (fun z => I.pin p (List.mem_append_right _ z)) fun z => by
    obtain ⟨hb, e⟩ := of_pinsAt z
    obtain ⟨f0, f1, f2, _⟩ := hf p.1 hb
    obtain ⟨o, e', d⟩ := ho p.1 hb
    rw [e] at e'; cases e'
    exact ⟨e, f0, f1, f2, d⟩
theorem Inv.unpinned {pins pl : List (Addr × Obj)} {σ : St} {H : Hp} {s : Shared} (I : Inv X (pins ++ pl) σ H s) : Inv X pins σ H s := I.pins_of fun p hp => I.pin p (List.mem_append_right _ (List.mem_append_left _ hp))
theorem ps_for {iter : Expr} {body : List Stmt} {wi : TI} {g : TG} {tb : TS} {pos : Pos} (hp : PassesOwn (model X.prog X.w) X.A X.env X.xe) (hc : X.calm = true) (hi : PI X tg iter wi) (hg : PG X tg g) (hb : PSs X body tb)
    (hs : ∀ x, foldedSetIterable iter X.env x = pure x := by intro _; rfl) : PS X (.For tg iter body [] pos) (tFor wi g tb) := by
  intro pins s σ H D I h
  refine wpAny_For (thn (hi pins s σ H _ I h) fun v s1 h1 => thn h1 fun itv s2 h2 => ?_) hs
  obtain ⟨it, fp, tn, J, H2, e, I2, T, st2, f2, W, ⟨m0, w0⟩, turn⟩ := h2
  subst e
  -- what stays true of the iterator's objects through the loop
  have stat : ∀ {H' : Hp}, (∀ b ∈ fp, H' b = none) → ∀ b ∈ fp, FpOk X pins H' b := fun hn b hb => ⟨hn b hb, (f2 b hb).2⟩
  refine codeAny_forLoop_any (fun n s' => ∃ i σ' H', Inv X pins σ' H' s' ∧ tn i s'.heap ∧ (∀ b ∈ fp, H' b = none) ∧ W i n σ' H') ?_ m0 ⟨0, σ, H2, I2, st2, fun b hb => (f2 b hb).1, w0⟩
  rintro n s3 ⟨i, σ3, H3, I3, st3, fr3, w3⟩
  rcases turn i n σ3 H3 w3 with ⟨stop, qn⟩ | ⟨go, N, hN, step⟩
  · refine wpAny_passesOwn hp (thn (T.done X rfl rfl rfl hc i pins s3 σ3 H3 X.xe I3 (stat fr3) st3 stop) fun r s4 ⟨hr, I4⟩ => ?_)
    subst hr
    exact wpAny_execs_nil ⟨σ3, H3, I4, qn⟩
  · refine wpAny_passesOwn hp (thn (T.item X rfl rfl rfl hc i pins s3 σ3 H3 X.xe I3 (stat fr3) st3 go) fun r s4 ⟨u, hr, h4⟩ => ?_)
    subst hr
    refine wpAny_passesOwn hp (thn h4 fun _ s5 ⟨x, H5, I5, r5, y5, st5, fr5⟩ => ?_)
    have I5' := I5.pinned (stat fr5) (T.obj _ _ st5)
    refine wpAny_passesOwn hp (thn (hg _ s5 σ3 H5 x u _ I5' r5 (step x H5 y5)) fun _ s6 ⟨σ6, H6, I6, q6⟩ => ?_)
    refine wpAny_passesOwn hp (thn (hb _ s6 σ6 H6 _ I6 q6) fun f s7 q7 => ?_)
    have again : ∀ {σ7 : St} {H7 : Hp}, Inv X (pins ++ pinsAt fp s5.heap) σ7 H7 s7 → N σ7 H7 → ∃ m, m < n ∧ ∃ i σ' H', Inv X pins σ' H' s7 ∧ tn i s7.heap ∧ (∀ b ∈ fp, H' b = none) ∧ W i m σ' H' := fun {σ7 H7} I7 n7 => by
      obtain ⟨m', hm, w7⟩ := hN σ7 H7 n7
      refine ⟨m', hm, i + 1, σ7, H7, I7.unpinned, T.keep _ _ _ st5 fun b hb o e => (I7.pin (b, o) (List.mem_append_right _ (List.mem_append_right _ (mem_pinsAt hb e)))).1, fun b hb => ?_, w7⟩
      obtain ⟨o, e, d⟩ := T.obj _ _ st5 b hb
      exact (I7.pin (b, o) (List.mem_append_right _ (List.mem_append_right _ (mem_pinsAt hb e)))).2.1
    cases f with
    | next => obtain ⟨σ7, H7, I7, n7⟩ := q7; exact again I7 n7
    | cont => obtain ⟨σ7, H7, I7, n7⟩ := q7; exact again I7 n7
    | brk => obtain ⟨σ7, H7, I7, q7⟩ := q7; exact ⟨σ7, H7, I7.unpinned, q7⟩
    | ret v => obtain ⟨x7, σ7, H7, I7, r7, q7⟩ := q7; exact ⟨x7, σ7, H7, I7.unpinned, r7, q7⟩
end

/-! ### the forms one uses -/
/-- over a list that the body leaves as it is -/
theorem for_list {K : PySem.W.Frag} {a : Addr} {xs : List V} {g : TG} {tb : TS} {D : Ends} {σ : St} {H : Hp} (Pv : Nat → St → Hp → Prop) (h0 : Pv 0 σ H) (hl : ∀ i σ H, i ≤ xs.length → Pv i σ H → SqL K H a xs)
    (hs : ∀ i x σ H, xs[i]? = some x → Pv i σ H → g x σ H fun σ2 H2 => tb { D with nx := Pv (i + 1), ct := Pv (i + 1), bk := D.nx } σ2 H2) (hd : ∀ σ H, Pv xs.length σ H → D.nx σ H) :
    ∃ W : Nat → Nat → St → Hp → Prop, (∃ m, W 0 m σ H) ∧ ∀ i m σ H, W i m σ H →
      ((Itl K a).stop i H ∧ D.nx σ H) ∨ ((Itl K a).go i H ∧ ∃ N : St → Hp → Prop, (∀ σ' H', N σ' H' → ∃ m', m' < m ∧ W (i + 1) m' σ' H') ∧ ∀ x H', (Itl K a).yld i H x H' → g x σ H' fun σ2 H2 => tb { D with nx := N, ct := N, bk := D.nx } σ2 H2) := by
  refine ⟨fun i m σ H => m = xs.length - i ∧ i ≤ xs.length ∧ Pv i σ H, ⟨xs.length, by simp, Nat.zero_le _, h0⟩, ?_⟩
  rintro i m σ H ⟨rfl, hi, p⟩
  have q := hl i σ H hi p
  by_cases hlt : i < xs.length
  · refine .inr ⟨⟨xs, xs[i], q, by simp [hlt]⟩, Pv (i + 1), fun σ' H' p' => ⟨xs.length - (i + 1), by omega, rfl, hlt, p'⟩, fun x H' y => ?_⟩
    obtain ⟨e, y⟩ := y
    subst e
    exact hs i x σ _ (y xs q) p
  · have e : i = xs.length := by omega
    subst e
    exact .inl ⟨⟨xs, q, Nat.le_refl _⟩, hd σ H p⟩
theorem for_range {lo : Int} {n : Nat} {g : TG} {tb : TS} {D : Ends} {σ : St} {H : Hp} (Pv : Nat → St → Hp → Prop) (h0 : Pv 0 σ H)
    (hs : ∀ i σ H, i < n → Pv i σ H → g (.int (lo + i)) σ H fun σ2 H2 => tb { D with nx := Pv (i + 1), ct := Pv (i + 1), bk := D.nx } σ2 H2) (hd : ∀ σ H, Pv n σ H → D.nx σ H) :
    ∃ W : Nat → Nat → St → Hp → Prop, (∃ m, W 0 m σ H) ∧ ∀ i m σ H, W i m σ H →
      ((Itr lo n).stop i H ∧ D.nx σ H) ∨ ((Itr lo n).go i H ∧ ∃ N : St → Hp → Prop, (∀ σ' H', N σ' H' → ∃ m', m' < m ∧ W (i + 1) m' σ' H') ∧ ∀ x H', (Itr lo n).yld i H x H' → g x σ H' fun σ2 H2 => tb { D with nx := N, ct := N, bk := D.nx } σ2 H2) := by
  refine ⟨fun i m σ H => m = n - i ∧ i ≤ n ∧ Pv i σ H, ⟨n, by simp, Nat.zero_le _, h0⟩, ?_⟩
  rintro i m σ H ⟨rfl, hi, p⟩
  by_cases hlt : i < n
  · refine .inr ⟨hlt, Pv (i + 1), fun σ' H' p' => ⟨n - (i + 1), by omega, rfl, hlt, p'⟩, fun x H' y => ?_⟩
    obtain ⟨e, y⟩ := y
    subst e y
    exact hs i σ _ hlt p
  · have e : i = n := by omega
    subst e
    exact .inl ⟨Nat.le_refl _, hd σ H p⟩
end L2

namespace L2
open PySem PySem.Spec PyProof.Rows

abbrev R2 := V → V → Hp → VK → Prop
/-- a two-place operation on values: f is binaryOp op, inplaceOp op or compareOp op -/
def OpR (X : Cx) (f : Value → Value → Sem Value) (r : R2) : Prop :=
  ∀ (pins : List (Addr × Obj)) (s : Shared) (σ : St) (H : Hp) (x y : V) (v u : Value) (Q : VK), Inv X pins σ H s → RelV x v → RelV y u → r x y H Q →
    wpAny (model X.prog X.w) X.A (f v u) (EP X pins σ Q) X.xe s
/-- a call of a value that is known (a builtin, a type) with values -/
def CallR (X : Cx) (f : Value) (r : List V → Hp → VK → Prop) : Prop :=
  ∀ (pins : List (Addr × Obj)) (s : Shared) (σ : St) (H : Hp) (xs : List V) (us : List Value) (Q : VK), Inv X pins σ H s → Vals xs us → r xs H Q →
    wpAny (model X.prog X.w) X.A (call f us) (EP X pins σ Q) X.xe s
def tOp (r : R2) (ta tb : TE) : TE := fun σ H Q => ta σ H fun x H1 => tb σ H1 fun y H2 => r x y H2 Q
def tUn (r : V → Hp → VK → Prop) (ta : TE) : TE := fun σ H Q => ta σ H fun x H1 => r x H1 Q
/-- ints in, under C, and a value out -/
def rI (C : Int → Int → Prop) (g : Int → Int → V) : R2 := fun x y H Q => ∃ i j, x = .int i ∧ y = .int j ∧ C i j ∧ Q (g i j) H
def rI0 (g : Int → Int → V) : R2 := fun x y H Q => ∃ i j, x = .int i ∧ y = .int j ∧ Q (g i j) H
def rU (g : Int → V) : V → Hp → VK → Prop := fun x H Q => ∃ i, x = .int i ∧ Q (g i) H

section
variable {X : Cx} {a b c : Expr} {ta tb tc : TE} {pos : Pos}

theorem binT (ha : PE X a ta) (hb : PE X b tb) {pins : List (Addr × Obj)} {s : Shared} {σ : St} {H : Hp} {R : V → V → Hp → Prop} (I : Inv X pins σ H s)
    (h : ta σ H fun x H1 => tb σ H1 fun y H2 => R x y H2) {Q : Value → Shared → Prop} {f : Value → Value → Sem Value}
    (hf : ∀ v u s2 x y H2, Inv X pins σ H2 s2 → RelV x v → RelV y u → R x y H2 → wpAny (model X.prog X.w) X.A (f v u) Q X.xe s2) :
    wpAny (model X.prog X.w) X.A (eval a X.env) (fun v s₁ => wpAny (model X.prog X.w) X.A (eval b X.env) (fun u s₂ => wpAny (model X.prog X.w) X.A (f v u) Q X.xe s₂) X.xe s₁) X.xe s := by
  refine thn (ha pins s σ H _ I h) fun v s1 ⟨x, H1, I1, r1, q1⟩ => ?_
  refine thn (hb pins s1 σ H1 _ I1 q1) fun u s2 ⟨y, H2, I2, r2, q2⟩ => ?_
  exact hf v u s2 x y H2 I2 r1 r2 q2

theorem pe_op {op : Operator} {r : R2} (ho : OpR X (binaryOp op) r) (ha : PE X a ta) (hb : PE X b tb) : PE X (.BinOp a op b pos) (tOp r ta tb) := by
  intro pins s σ H Q I h
  exact wpAny_BinOp (binT ha hb I h fun v u s2 x y H2 I2 rx ry q => ho pins s2 σ H2 x y v u Q I2 rx ry q)
/-! ### ints -/
theorem opI {f : Value → Value → Sem Value} {C : Int → Int → Prop} {g : Int → Int → Int}
    (rule : ∀ (i j : Int) (t u : Tok) (s : Shared) (Q : Value → Shared → Prop) (E : Value → Shared → Prop), C i j → Q (.int (g i j) s.toks) { s with toks := s.toks + 1 } → wpAny (model X.prog X.w) X.A (f (.int i t) (.int j u)) Q E s) :
    OpR X f (rI C fun i j => .int (g i j)) := by
  intro pins s σ H x y v u Q I rx ry h
  obtain ⟨i, j, rfl, rfl, hc, q⟩ := h
  obtain ⟨t, rfl⟩ := rx
  obtain ⟨t', rfl⟩ := ry
  exact rule i j t t' s _ _ hc ⟨.int (g i j), H, I.tok _, ⟨_, rfl⟩, q⟩
theorem opI0 {f : Value → Value → Sem Value} {g : Int → Int → Int}
    (rule : ∀ (i j : Int) (t u : Tok) (s : Shared) (Q : Value → Shared → Prop) (E : Value → Shared → Prop), Q (.int (g i j) s.toks) { s with toks := s.toks + 1 } → wpAny (model X.prog X.w) X.A (f (.int i t) (.int j u)) Q E s) :
    OpR X f (rI0 fun i j => .int (g i j)) := by
  intro pins s σ H x y v u Q I rx ry h
  obtain ⟨i, j, rfl, rfl, q⟩ := h
  obtain ⟨t, rfl⟩ := rx
  obtain ⟨t', rfl⟩ := ry
  exact rule i j t t' s _ _ ⟨.int (g i j), H, I.tok _, ⟨_, rfl⟩, q⟩
theorem opB0 {f : Value → Value → Sem Value} {g : Int → Int → Bool}
    (rule : ∀ (i j : Int) (t u : Tok) (s : Shared) (Q : Value → Shared → Prop) (E : Value → Shared → Prop), Q (.bool (g i j)) s → wpAny (model X.prog X.w) X.A (f (.int i t) (.int j u)) Q E s) :
    OpR X f (rI0 fun i j => .bl (g i j)) := by
  intro pins s σ H x y v u Q I rx ry h
  obtain ⟨i, j, rfl, rfl, q⟩ := h
  obtain ⟨t, rfl⟩ := rx
  obtain ⟨t', rfl⟩ := ry
  exact rule i j t t' s _ _ ⟨.bl (g i j), H, I, rfl, q⟩

def CDiv (i j : Int) : Prop := 0 < j ∧ j < 1073741824
def CMul (i j : Int) : Prop := (-(2 ^ 64) < i ∧ i < 2 ^ 64) ∨ (-(2 ^ 64) < j ∧ j < 2 ^ 64)
theorem CMul.ok {i j : Int} (h : CMul i j) : IntMulOk i j := by
  rcases h with ⟨h1, h2⟩ | ⟨h1, h2⟩
  · exact .of_left (intBits_le_64 h1 h2)
  · exact .of_right (intBits_le_64 h1 h2)
theorem op_add : OpR X (binaryOp .Add) (rI0 fun i j => .int (i + j)) := opI0 fun _ _ _ _ _ _ _ q => add_int q
theorem op_sub : OpR X (binaryOp .Sub) (rI0 fun i j => .int (i - j)) := opI0 fun _ _ _ _ _ _ _ q => sub_int q
theorem op_mul : OpR X (binaryOp .Mult) (rI CMul fun i j => .int (i * j)) := opI fun _ _ _ _ _ _ _ hc q => mul_int q hc.ok
/-- // by a positive divisor -/
theorem op_fdiv : OpR X (binaryOp .FloorDiv) (rI CDiv fun i j => .int (i / j)) := opI fun i j _ _ _ _ _ hc q => by
  have h1 : (0 : Int) < j := hc.1
  have h2 : j < 1073741824 := hc.2
  exact floordiv_int (by omega) (by rw [Int.fdiv_eq_ediv_of_nonneg i (by omega)]; exact q) (.inl (PyProof.noPylong_small (by omega)))
/-- % by a positive divisor of any size -/
theorem op_mod : OpR X (binaryOp .Mod) (rI (fun _ j => 0 < j) fun i j => .int (i % j)) := opI fun i j _ _ _ _ _ hc q => by
  have h1 : (0 : Int) < j := hc
  exact mod_int' (by omega) (by rw [Int.fmod_eq_emod_of_nonneg i (by omega)]; exact q)
/-! ### bools among ints: n += (a < b) -/
end

/-! ### comparisons -/
/-- the scalars that == tells apart as data does -/
def scal : V → V → Bool
  | .non, .non => true | .non, .int _ => true | .int _, .non => true | .non, .bl _ => true | .bl _, .non => true | .non, .str _ => true | .str _, .non => true
  | .int _, .int _ => true | .bl _, .bl _ => true | .str _, .str _ => true | .byt _, .byt _ => true
  | .int _, .str _ => true | .str _, .int _ => true | .bl _, .str _ => true | .str _, .bl _ => true
  | _, _ => false
def rEq : R2 := fun x y H Q => scal x y = true ∧ Q (.bl (decide (x = y))) H
def rNe : R2 := fun x y H Q => scal x y = true ∧ Q (.bl (!decide (x = y))) H

theorem dec_int {i j : Int} : decide (V.int i = V.int j) = (i == j) := by
  rw [Bool.eq_iff_iff]
  simp
theorem dec_bl {i j : Bool} : decide (V.bl i = V.bl j) = (i == j) := by
  rw [Bool.eq_iff_iff]
  simp
theorem dec_str {i j : Str} : decide (V.str i = V.str j) = (i == j) := by
  rw [Bool.eq_iff_iff]
  simp
theorem dec_byt {i j : Array UInt8} : decide (V.byt i = V.byt j) = (i.toList == j.toList) := by
  rw [Bool.eq_iff_iff]
  cases i
  cases j
  simp

section
variable {X : Cx} {a b c : Expr} {ta tb tc : TE} {pos : Pos}
theorem fin_bl {pins : List (Addr × Obj)} {σ : St} {H : Hp} {s : Shared} {Q : VK} {k k' : Bool} (I : Inv X pins σ H s) (q : Q (.bl k) H) (e : k = k') : EP X pins σ Q (.bool k') s := by
  subst e
  exact ⟨.bl k, H, I, rfl, q⟩
theorem op_eq : OpR X (compareOp .Eq) rEq := by
  intro pins s σ H x y v u Q I rx ry h
  obtain ⟨hs, q⟩ := h
  cases x with
  | non =>
    cases rx
    cases y with
    | non => cases ry; exact PySem.EqNone.eq_none_none (fin_bl I q (by simp))
    | bl j => cases ry; exact PySem.EqNone.eq_none_bool (fin_bl I q (by simp))
    | int j => obtain ⟨t', rfl⟩ := ry; exact PySem.EqNone.eq_none_int (fin_bl I q (by simp))
    | str j => obtain ⟨t', rfl⟩ := ry; exact PySem.EqNone.eq_none_str (fin_bl I q (by simp))
    | _ => exact absurd (show false = true from hs) Bool.false_ne_true
  | bl i =>
    cases rx
    cases y with
    | non => cases ry; exact PySem.EqNone.eq_bool_none (fin_bl I q (by simp))
    | bl j => cases ry; exact eq_bool (fin_bl I q dec_bl)
    | str j => obtain ⟨t', rfl⟩ := ry; exact PySem.EqMixed.eq_bool_str (fin_bl I q (by simp))
    | _ => exact absurd (show false = true from hs) Bool.false_ne_true
  | int i =>
    obtain ⟨t, rfl⟩ := rx
    cases y with
    | non => cases ry; exact PySem.EqNone.eq_int_none (fin_bl I q (by simp))
    | int j => obtain ⟨t', rfl⟩ := ry; exact eq_int (fin_bl I q dec_int)
    | str j => obtain ⟨t', rfl⟩ := ry; exact PySem.EqMixed.eq_int_str (fin_bl I q (by simp))
    | _ => exact absurd (show false = true from hs) Bool.false_ne_true
  | str i =>
    obtain ⟨t, rfl⟩ := rx
    cases y with
    | non => cases ry; exact PySem.EqNone.eq_str_none (fin_bl I q (by simp))
    | bl j => cases ry; exact PySem.EqMixed.eq_str_bool (fin_bl I q (by simp))
    | int j => obtain ⟨t', rfl⟩ := ry; exact PySem.EqMixed.eq_str_int (fin_bl I q (by simp))
    | str j => obtain ⟨t', rfl⟩ := ry; exact eq_str (fin_bl I q dec_str)
    | _ => exact absurd (show false = true from hs) Bool.false_ne_true
  | byt i =>
    obtain ⟨t, rfl⟩ := rx
    cases y with
    | byt j => obtain ⟨t', rfl⟩ := ry; exact PySem.W.eq_bytes (fin_bl I q dec_byt)
    | _ => exact absurd (show false = true from hs) Bool.false_ne_true
  | _ => cases y <;> exact absurd (show false = true from hs) Bool.false_ne_true
theorem op_ne : OpR X (compareOp .NotEq) rNe := by
  intro pins s σ H x y v u Q I rx ry h
  obtain ⟨hs, q⟩ := h
  cases x with
  | non =>
    cases rx
    cases y with
    | non => cases ry; exact PySem.EqNone.ne_none_none (fin_bl I q (by simp))
    | bl j => cases ry; exact PySem.EqNone.ne_none_bool (fin_bl I q (by simp))
    | int j => obtain ⟨t', rfl⟩ := ry; exact PySem.EqNone.ne_none_int (fin_bl I q (by simp))
    | str j => obtain ⟨t', rfl⟩ := ry; exact PySem.EqNone.ne_none_str (fin_bl I q (by simp))
    | _ => exact absurd (show false = true from hs) Bool.false_ne_true
  | bl i =>
    cases rx
    cases y with
    | non => cases ry; exact PySem.EqNone.ne_bool_none (fin_bl I q (by simp))
    | bl j => cases ry; exact ne_bool (fin_bl I q (congrArg not dec_bl))
    | str j => obtain ⟨t', rfl⟩ := ry; exact PySem.EqMixed.ne_bool_str (fin_bl I q (by simp))
    | _ => exact absurd (show false = true from hs) Bool.false_ne_true
  | int i =>
    obtain ⟨t, rfl⟩ := rx
    cases y with
    | non => cases ry; exact PySem.EqNone.ne_int_none (fin_bl I q (by simp))
    | int j => obtain ⟨t', rfl⟩ := ry; exact ne_int (fin_bl I q (congrArg not dec_int))
    | str j => obtain ⟨t', rfl⟩ := ry; exact PySem.EqMixed.ne_int_str (fin_bl I q (by simp))
    | _ => exact absurd (show false = true from hs) Bool.false_ne_true
  | str i =>
    obtain ⟨t, rfl⟩ := rx
    cases y with
    | non => cases ry; exact PySem.EqNone.ne_str_none (fin_bl I q (by simp))
    | bl j => cases ry; exact PySem.EqMixed.ne_str_bool (fin_bl I q (by simp))
    | int j => obtain ⟨t', rfl⟩ := ry; exact PySem.EqMixed.ne_str_int (fin_bl I q (by simp))
    | str j => obtain ⟨t', rfl⟩ := ry; exact ne_str (fin_bl I q (congrArg not dec_str))
    | _ => exact absurd (show false = true from hs) Bool.false_ne_true
  | byt i =>
    obtain ⟨t, rfl⟩ := rx
    cases y with
    | byt j => obtain ⟨t', rfl⟩ := ry; exact PySem.W.ne_bytes (fin_bl I q (congrArg not dec_byt))
    | _ => exact absurd (show false = true from hs) Bool.false_ne_true
  | _ => cases y <;> exact absurd (show false = true from hs) Bool.false_ne_true

theorem op_lt : OpR X (compareOp .Lt) (rI0 fun i j => .bl (decide (i < j))) := opB0 fun _ _ _ _ _ _ _ q => lt_int q
theorem op_le : OpR X (compareOp .LtE) (rI0 fun i j => .bl (decide (i ≤ j))) := opB0 fun _ _ _ _ _ _ _ q => le_int q
theorem op_gt : OpR X (compareOp .Gt) (rI0 fun i j => .bl (decide (j < i))) := opB0 fun _ _ _ _ _ _ _ q => gt_int q
/-- two rules for one operation: by cases -/
theorem OpR.or {f : Value → Value → Sem Value} {r r' : R2} (h : OpR X f r) (h' : OpR X f r') : OpR X f (fun x y H Q => r x y H Q ∨ r' x y H Q) := by
  intro pins s σ H x y v u Q I rx ry q
  rcases q with q | q
  · exact h pins s σ H x y v u Q I rx ry q
  · exact h' pins s σ H x y v u Q I rx ry q

theorem nomark (b : Expr) {op : CmpOp} (h : op ≠ .In := by decide) (h2 : op ≠ .NotIn := by decide) : behindInMarks op b = false := by
  have e1 : (op == CmpOp.In) = false := by cases op <;> first | rfl | exact absurd rfl h
  have e2 : (op == CmpOp.NotIn) = false := by cases op <;> first | rfl | exact absurd rfl h2
  cases b <;> simp [behindInMarks, e1, e2]
/-- a comparison as a value; hm: nomark b, or (for in, not in) by with_unfolding_all rfl -/
theorem pe_cmpR {op : CmpOp} {r : R2} (ho : OpR X (compareOp op) r) (ha : PE X a ta) (hb : PE X b tb) (hm : behindInMarks op b = false) : PE X (.Compare a [op] [b] pos) (tOp r ta tb) := by
  intro pins s σ H Q I h
  exact wpAny_Compare1 (binT ha hb I h fun v u s2 x y H2 I2 rx ry q => ho pins s2 σ H2 x y v u Q I2 rx ry q) hm
/-- a reading of a value as a test -/
def tTest (t : TE) : TT := fun σ H Q => t σ H fun x H' => ∃ k, x = .bl k ∧ Q k H'
theorem pt_cmpR {op : CmpOp} {r : R2} (ho : OpR X (compareOp op) r) (ha : PE X a ta) (hb : PE X b tb) (hm : behindInMarks op b = false) : PT X (.Compare a [op] [b] pos) (tTest (tOp r ta tb)) := by
  intro pins s σ H Q I h
  refine wpAny_isTrue_Compare1 (thn (ha pins s σ H _ I h) fun v s1 ⟨x, H1, I1, r1, q1⟩ => thn (hb pins s1 σ H1 _ I1 q1) fun u s2 ⟨y, H2, I2, r2, q2⟩ =>
    thn (ho pins s2 σ H2 x y v u _ I2 r1 r2 q2) fun c s3 ⟨z, H3, I3, r3, k, e, q3⟩ => ?_) hm
  subst e
  cases r3
  exact wpAny_truthy_bool ⟨H3, I3, q3⟩
/-- a op1 b op2 c -/
def tChain (r r' : R2) (ta tb tc : TE) : TE := fun σ H Q => ta σ H fun x H1 => tb σ H1 fun y H2 => r x y H2 fun z H3 => ∃ k, z = .bl k ∧
  (if k = true then tc σ H3 fun w' H4 => r' y w' H4 Q else Q (.bl false) H3)
theorem pt_chain {op op' : CmpOp} {r r' : R2} (ho : OpR X (compareOp op) r) (ho' : OpR X (compareOp op') r') (ha : PE X a ta) (hb : PE X b tb) (hc : PE X c tc)
    (hm : lastMarks [op, op'] [b, c] = false := by with_unfolding_all rfl) : PT X (.Compare a [op, op'] [b, c] pos) (tTest (tChain r r' ta tb tc)) := by
  intro pins s σ H Q I h
  refine isTrue_chain (thn (ha pins s σ H _ I h) fun v s1 ⟨x, H1, I1, r1, q1⟩ => test_link (thn (hb pins s1 σ H1 _ I1 q1) fun u s2 ⟨y, H2, I2, r2, q2⟩ =>
    thn (ho pins s2 σ H2 x y v u _ I2 r1 r2 q2) fun d s3 ⟨z, H3, I3, r3, k, e, q3⟩ => ?_)) hm
  subst e
  cases r3
  refine wpAny_truthy_bool ?_
  cases k with
  | false =>
    obtain ⟨k', e', q'⟩ := q3
    cases e'
    exact ite_ff ⟨H3, I3, q'⟩
  | true =>
    refine ite_tt (test_last (thn (hc pins s3 σ H3 _ I3 q3) fun w' s4 ⟨z', H4, I4, r4, q4⟩ => thn (ho' pins s4 σ H4 y z' u w' _ I4 r2 r4 q4) fun d' s5 ⟨z2, H5, I5, r5, k2, e2, q5⟩ => ?_))
    subst e2
    cases r5
    exact wpAny_truthy_bool ⟨H5, I5, q5⟩

/-! ### truth -/
theorem line63 : (sizeLine : Nat) < 2 ^ 63 := by rw [sizeLine_eq]; decide
/-! ### strs and bytes -/
theorem op_add_str : OpR X (binaryOp .Add) (fun x y H Q => ∃ i j, x = .str i ∧ y = .str j ∧ i.length + j.length ≤ sizeLine ∧ Q (.str (i ++ j)) H) := by
  intro pins s σ H x y v u Q I rx ry h
  obtain ⟨i, j, rfl, rfl, hz, q⟩ := h
  obtain ⟨t, rfl⟩ := rx
  obtain ⟨t', rfl⟩ := ry
  exact add_str (fun t' tk => ⟨.str (i ++ j), H, I.tok _, ⟨_, rfl⟩, q⟩) hz
/-! ### scalar builtins, by CallR -/
theorem vals1 {x : V} {us : List Value} (r : Vals [x] us) : ∃ u, us = [u] ∧ RelV x u := by
  cases r with
  | cons r1 r2 => cases r2; exact ⟨_, rfl, r1⟩
theorem vals2 {x y : V} {us : List Value} (r : Vals [x, y] us) : ∃ u w', us = [u, w'] ∧ RelV x u ∧ RelV y w' := by
  cases r with
  | cons r1 r2 =>
    cases r2 with
    | cons r3 r4 => cases r4; exact ⟨_, _, rfl, r1, r3⟩
theorem call_min2 (hc : X.calm = true) : CallR X (.builtin "min") (fun xs H Q => ∃ i j, xs = [.int i, .int j] ∧ Q (.int (if j < i then j else i)) H) := by
  intro pins s σ H xs us Q I r h
  obtain ⟨i, j, rfl, q⟩ := h
  obtain ⟨u, w', rfl, ⟨t, rfl⟩, ⟨t', rfl⟩⟩ := vals2 r
  refine min_two_ints (I.ok.hd hc) fun h' tk k => ⟨_, H, I.kept k, ?_, q⟩
  by_cases hj : j < i
  · rw [if_pos hj, if_pos hj]; exact ⟨_, rfl⟩
  · rw [if_neg hj, if_neg hj]; exact ⟨_, rfl⟩
theorem call_int1 : CallR X (.type "int") (fun xs H Q => (∃ i, xs = [.int i] ∧ Q (.int i) H) ∨ ∃ k, xs = [.bl k] ∧ Q (.int (if k then 1 else 0)) H) := by
  intro pins s σ H xs us Q I r h
  rcases h with ⟨i, rfl, q⟩ | ⟨k, rfl, q⟩
  · obtain ⟨u, rfl, t, rfl⟩ := vals1 r
    exact call_int_int ⟨.int i, H, I, ⟨_, rfl⟩, q⟩
  · obtain ⟨u, rfl, r1⟩ := vals1 r
    cases r1
    exact call_int_bool ⟨.int (if k then 1 else 0), H, I.tok _, ⟨_, rfl⟩, q⟩
end
end L2

namespace L2
open PySem PySem.Spec PyProof.Rows

/-! ### an instance, its attributes a map -/
structure ObjM (h : Heap) (x dx C : Addr) (mA : Str → Option Value) : Prop where
  obj : h.get? x = some (PySem.W.instObj C dx)
  ns : h.Ns1 dx mA
  ne : dx ≠ x

theorem lookIn_ns {h : Heap} {dx : Addr} {mA : Str → Option Value} (n : h.Ns1 dx mA) : ∃ od, h.get? dx = some od ∧ ∀ name, PySem.W.lookIn name od = some (mA name) := by
  obtain ⟨o, es, ep, ho, hd, hk, _, hm⟩ := n
  refine ⟨o, ho, fun name => ?_⟩
  have e := hm name
  unfold nsFind findBy at e
  rw [← Array.find?_toList] at e
  unfold PySem.W.lookIn
  rw [hd]
  dsimp only
  split
  · rename_i y q
    rw [q] at e
    exact congrArg some e
  · rename_i q
    rw [q] at e
    have a : es.toList.any (·.refKey) = false := by
      rw [List.any_eq_false]
      intro y hy
      obtain ⟨z, t, hkey⟩ := hk y (Array.mem_toList_iff.mp hy)
      simp [DictEntry.refKey, hkey]
    have a' : ¬ es.toList.any (·.refKey) = true := by rw [a]; exact Bool.false_ne_true
    rw [if_neg a']
    exact congrArg some e

theorem ObjM.look {h : Heap} {x dx C : Addr} {mA : Str → Option Value} (I : ObjM h x dx C mA) : ∃ od, PySem.W.InstAt h x (PySem.W.instObj C dx) C (some od) ∧ ∀ name, PySem.W.lookIn name od = some (mA name) :=
  let ⟨od, ho, hl⟩ := lookIn_ns I.ns
  ⟨od, ⟨I.obj, rfl, rfl, ho⟩, hl⟩

section
variable {prog : Program} {w : World} {A : Around} {E : Value → Shared → Prop} {s : Shared} {K : PySem.W.Frag} {x dx C f : Addr} {mA : Str → Option Value} {name : Str} {v : Value}

theorem get_map {expr : Bool} {Q : Value → Shared → Prop} (X : K.In s.heap) (I : ObjM s.heap x dx C mA) (hg : PySem.W.plainGet K C name = true) (hh : PySem.W.hasDictIn K C = true)
    (ha : PySem.W.findIn K (.ref C) name = some none) (hv : mA name = some v) (hv' : PySem.W.handedIn v = true) (h : Q v { s with toks := s.toks + 1 }) :
    wpAny (model prog w) A (getAttr (.ref x) name expr) Q E s := by
  obtain ⟨od, J, hl⟩ := I.look
  exact PySem.W.get_value X J (PySem.W.plainGet_of hg).1 (PySem.W.findObj_own hh ha rfl (by rw [hl, hv])) hv' h

theorem get_meth {pl : Sem Bool} {Q : Value × List Value → Shared → Prop} (X : K.In s.heap) (I : ObjM s.heap x dx C mA) (hg : PySem.W.plainGet K C name = true)
    (hf : PySem.W.findIn K (.ref C) name = some (some (.ref f))) (ht : PySem.W.isFn K (.ref f) = true) (hv : mA name = none) (h : Q (.ref f, [.ref x]) s) :
    wpAny (model prog w) A (getMethod (.ref x) name pl) Q E s := by
  obtain ⟨od, J, hl⟩ := I.look
  exact PySem.W.method_fn X J (PySem.W.plainGet_of hg).1 (PySem.W.plainGet_of hg).2 hf (beq_iff_eq.mp ht) (by show (PySem.W.lookIn name od).map (·.isSome) = some false; rw [hl, hv]; rfl) h

theorem set_map {ns : List Str} {Q : Unit → Shared → Prop} (X : K.In s.heap) (I : ObjM s.heap x dx C mA)
    (hs : PySem.W.findIn K (.ref C) "__setattr__" = some (some (.builtin "object.__setattr__"))) (hp : PySem.W.plainOver K C = true) (ht : PySem.W.takerIn K C name = some none) (hh : PySem.W.hasDictIn K C = true)
    (hw : PySem.Within mA ns) (hsz : ns.length ≤ sizeLine)
    (h : ∀ h', ObjM h' x dx C (fun y => if y = name then some v else mA y) → Heap.SameBut dx s.heap h' → Q () { s with heap := h', toks := s.toks + 2 }) :
    wpAny (model prog w) A (setAttr (.ref x) name v) Q E s := by
  obtain ⟨od, J, hl⟩ := I.look
  refine PySem.W.set_plain X J hs (PySem.W.osa_open (s := { s with toks := s.toks + 1 }) (r := none) X J hp ht fun b => ?_)
  obtain ⟨cd, hc, hd'⟩ := PySem.W.any_some hh
  have hx : s.heap.get? x = some ⟨.ref C, some dx, .plain, #[]⟩ := I.obj
  refine wpAny_bind (wpAny_pure (wpAny_bind (wpAny_bind (wpAny_loadPart hx (wpAny_bind (PySem.W.Looks.here (s := { s with toks := s.toks + 1 }) (PySem.W.looks_clsIn X hc) ?_))))))
  rw [hd']
  refine wpAny_pure (a := some dx) (wpAny_bind (wpAny_pure (wpAny_bind ?_)))
  refine wpAny_nsSet1 (s := { s with toks := s.toks + 1 }) I.ns fun h' hn2 hs2 => ?_
  obtain ⟨oD, esD, epD, hoD, hdD, hcD⟩ := hn2.count (PySem.Within.cons name v hw)
  refine wpAny_bind (wpAny_lookBehind hoD (by rw [hdD]; exact pastItsLine_dict (Nat.le_trans hcD (by rw [List.length_cons]; omega))) ?_)
  exact wpAny_pure (h _ ⟨(hs2.2 _ (Ne.symm I.ne)).trans I.obj, hn2, I.ne⟩ hs2)

/-- C(..): the dict at the heap's end, the instance behind it; then its __init__ -/
theorem make_map {R : Result → Shared → Prop} {vs : List Value} {kw : List (Str × Value)} (X : K.In s.heap) (hm : PySem.W.makesIn K C = true)
    (hi : PySem.W.findIn K (.ref C) "__init__" = some (some (.ref f))) (hf : PySem.W.typeIn K (.ref f) = some (.type "function"))
    (h : codeAny (model prog w) (A.under (.builtin "type.__call__" ⟨.ref C :: vs, kw⟩)) (.call (.ref f) ⟨.ref (s.heap.objs.size + 1) :: vs, kw⟩) (PySem.W.InitBack (s.heap.objs.size + 1) R)
      { s with heap := (s.heap.push PySem.W.emptyDict).push (PySem.W.instObj C s.heap.objs.size) }) :
    codeAny (model prog w) A (.call (.ref C) ⟨vs, kw⟩) R s := by
  obtain ⟨hh, g, d, t, os⟩ := s
  exact PySem.W.make_core (PySem.W.makes_of X hm) (PySem.W.looks_findIn X hi) (fun self => PySem.W.bind_fn X self hf) (.inl rfl) h
end

/-! ### the attributes as a list of pairs -/
def putF (f : Str) (v : V) : List (Str × V) → List (Str × V)
  | [] => [(f, v)]
  | (g, x) :: r => if g = f then (g, v) :: r else (g, x) :: putF f v r
theorem lookup_putF (f g : Str) (v : V) : ∀ fs : List (Str × V), (putF f v fs).lookup g = if g = f then some v else fs.lookup g
  | [] => by
    show List.lookup g [(f, v)] = _
    by_cases h : g = f
    · have hb : (g == f) = true := beq_iff_eq.mpr h
      simp only [List.lookup, hb, if_pos h]
    · have hb : (g == f) = false := beq_eq_false_iff_ne.mpr h
      simp only [List.lookup, hb, if_neg h]
  | (k, x) :: r => by
    have ih := lookup_putF f g v r
    rw [show putF f v ((k, x) :: r) = (if k = f then (k, v) :: r else (k, x) :: putF f v r) from rfl]
    by_cases hk : k = f
    · rw [if_pos hk]
      by_cases h : g = k
      · have hb : (g == k) = true := beq_iff_eq.mpr h
        simp only [List.lookup, hb, if_pos (h.trans hk)]
      · have hb : (g == k) = false := beq_eq_false_iff_ne.mpr h
        simp only [List.lookup, hb, if_neg (fun e : g = f => h (e.trans hk.symm))]
    · rw [if_neg hk]
      by_cases h : g = k
      · have hb : (g == k) = true := beq_iff_eq.mpr h
        simp only [List.lookup, hb, if_neg (fun e : g = f => hk (h.symm.trans e))]
      · have hb : (g == k) = false := beq_eq_false_iff_ne.mpr h
        simp only [List.lookup, hb]
        exact ih
theorem keys_putF (f : Str) (v : V) : ∀ fs : List (Str × V), f ∈ (putF f v fs).map (·.1) ∧ ∀ g, g ∈ fs.map (·.1) → g ∈ (putF f v fs).map (·.1)
  | [] => ⟨by simp [putF], fun g h => by simp at h⟩
  | (k, x) :: r => by
    obtain ⟨i1, i2⟩ := keys_putF f v r
    rw [show putF f v ((k, x) :: r) = (if k = f then (k, v) :: r else (k, x) :: putF f v r) from rfl]
    by_cases hk : k = f
    · rw [if_pos hk]
      subst hk
      exact ⟨by simp, fun g h => by simpa using h⟩
    · rw [if_neg hk]
      refine ⟨?_, fun g h => ?_⟩
      · rw [List.map_cons]
        exact List.mem_cons_of_mem _ i1
      · rw [List.map_cons] at h ⊢
        rcases List.mem_cons.mp h with e | e
        · exact List.mem_cons.mpr (.inl e)
        · exact List.mem_cons_of_mem _ (i2 g e)
theorem length_putF (f : Str) (v : V) : ∀ fs : List (Str × V), (putF f v fs).length ≤ fs.length + 1
  | [] => by simp [putF]
  | (k, x) :: r => by
    have ih := length_putF f v r
    rw [show putF f v ((k, x) :: r) = (if k = f then (k, v) :: r else (k, x) :: putF f v r) from rfl]
    by_cases hk : k = f
    · rw [if_pos hk, List.length_cons, List.length_cons]; omega
    · rw [if_neg hk, List.length_cons, List.length_cons]; omega

theorem RelO.some_of {v : V} {o : Option Value} (r : RelO (some v) o) : ∃ u, o = some u ∧ RelV v u := by
  cases o with
  | none => exact (show False from r).elim
  | some u => exact ⟨u, rfl, r⟩
theorem RelO.none_of {o : Option Value} (r : RelO none o) : o = none := by
  cases o with
  | none => rfl
  | some u => exact (show False from r).elim
theorem handed_of {v : V} {u : Value} (r : RelV v u) : PySem.W.handedIn u = true := by
  cases v with
  | non => cases (show u = Value.none from r); rfl
  | bl b => cases (show u = Value.bool b from r); rfl
  | int i => obtain ⟨t, e⟩ := (show ∃ t, u = Value.int i t from r); cases e; rfl
  | str x => obtain ⟨t, e⟩ := (show ∃ t, u = Value.str x t from r); cases e; rfl
  | byt b => obtain ⟨t, e⟩ := (show ∃ t, u = Value.bytes b t from r); cases e; rfl
  | flt b => obtain ⟨t, e⟩ := (show ∃ t, u = Value.float b t from r); cases e; rfl
  | ref a => cases (show u = Value.ref a from r); rfl
  | ty n => cases (show u = Value.type n from r); rfl

section
variable {P : Program} {w : World} {H H' : Hp} {h h' : Heap} {a C dx : Addr} {fs fs' : List (Str × V)}
theorem ins_get (hok : HOk P w H h) (e : H a = some (.ins C dx fs)) : ∃ mA, ObjM h a dx C mA ∧ (∀ f, RelO (fs.lookup f) (mA f)) ∧ PySem.Within mA (fs.map (·.1)) ∧ fs.length ≤ 1000 ∧ H dx = some (.own a) := by
  obtain ⟨d, z, ne, ob, mA, n, r, q⟩ := (show ObjOk P w H h a (.ins C dx fs) from hok a _ e)
  exact ⟨mA, ⟨ob, n, ne⟩, r, q, z, d⟩
end

/-! ### what of the text a class must have -/
structure Cls (K : PySem.W.Frag) (C : Addr) : Prop where
  pg : PySem.W.plainGet K C Str.empty = true
  hd : PySem.W.hasDictIn K C = true
  po : PySem.W.plainOver K C = true
  sa : PySem.W.findIn K (.ref C) "__setattr__" = some (some (.builtin "object.__setattr__"))
theorem Cls.get {K : PySem.W.Frag} {C : Addr} (c : Cls K C) (f : Str) : PySem.W.plainGet K C f = true := c.pg
/-- no class of it has the name -/
def NoAttr (K : PySem.W.Frag) (C : Addr) (f : Str) : Prop := PySem.W.findIn K (.ref C) f = some none
theorem NoAttr.taker {K : PySem.W.Frag} {C : Addr} {f : Str} (n : NoAttr K C f) : PySem.W.takerIn K C f = some none := by
  unfold PySem.W.takerIn
  rw [show PySem.W.findIn K (.ref C) f = some none from n]
  rfl
/-- a constant of the class -/
structure Con (K : PySem.W.Frag) (C : Addr) (f : Str) (v : V) (u : Value) : Prop where
  at_ : PySem.W.findIn K (.ref C) f = some (some u)
  rel : RelV v u
  get : PySem.W.specialIn K u "__get__" = some none
  cp : PySem.W.copiedNames.contains f = false
/-- a method: a plain def of the class or of one above it -/
structure Meth (K : PySem.W.Frag) (C : Addr) (m : Str) (f : Addr) : Prop where
  at_ : PySem.W.findIn K (.ref C) m = some (some (.ref f))
  fn : PySem.W.isFn K (.ref f) = true
  kp : PySem.W.keepIn K (.ref f) = true

section
variable {X : Cx} {pins : List (Addr × Obj)} {σ : St} {H : Hp} {s : Shared} {a C dx : Addr} {fs : List (Str × V)} {f : Str} {v : V} {A : Around} {E : Value → Shared → Prop}

theorem getattr_ok {b : Bool} {Q : Value → Shared → Prop} (I : Inv X pins σ H s) (e : H a = some (.ins C dx fs)) (c : Cls X.K C) (n : NoAttr X.K C f) (l : fs.lookup f = some v)
    (h : ∀ u s', Inv X pins σ H s' → RelV v u → Q u s') : wpAny (model X.prog X.w) A (getAttr (.ref a) f b) Q E s := by
  obtain ⟨mA, O, r, _, _, _⟩ := ins_get I.hok e
  obtain ⟨u, hu, ru⟩ := RelO.some_of (v := v) (o := mA f) (by rw [← l]; exact r f)
  exact get_map I.kIn O (c.get f) c.hd n hu (handed_of ru) (h u _ (I.tok _) ru)

theorem getmeth_ok {m : Str} {g : Addr} {pl : Sem Bool} {Q : Value × List Value → Shared → Prop} (I : Inv X pins σ H s) (e : H a = some (.ins C dx fs)) (c : Cls X.K C) (k : Meth X.K C m g) (l : fs.lookup m = none)
    (h : Q (.ref g, [.ref a]) s) : wpAny (model X.prog X.w) A (getMethod (.ref a) m pl) Q E s := by
  obtain ⟨mA, O, r, _, _, _⟩ := ins_get I.hok e
  have hn : mA m = none := RelO.none_of (by rw [← l]; exact r m)
  exact get_meth I.kIn O (c.get m) k.at_ k.fn hn h

theorem setattr_ok {y : V} {u : Value} {Q : Unit → Shared → Prop} (I : Inv X pins σ H s) (e : H a = some (.ins C dx fs)) (c : Cls X.K C) (n : NoAttr X.K C f) (hl : fs.length < 1000) (ry : RelV y u)
    (h : ∀ s', Inv X pins σ (upd H a (.ins C dx (putF f y fs))) s' → Q () s') : wpAny (model X.prog X.w) A (setAttr (.ref a) f u) Q E s := by
  obtain ⟨mA, O, r, wi, _, ho⟩ := ins_get I.hok e
  have hz : (fs.map (·.1)).length ≤ sizeLine := by rw [List.length_map, sizeLine_eq]; omega
  refine set_map I.kIn O c.sa c.po n.taker c.hd wi hz fun h' O' sb => h _ ?_
  have hd : ∃ o, h'.get? dx = some o := let ⟨o, _, _, e', _⟩ := O'.ns; ⟨o, e'⟩
  refine I.write (x := a) (e := dx) (by rw [e]; exact True.intro) (.inr ho) (fun b q hb z => (sb.2 b hb).trans z) hd ?_
  refine ⟨by rw [upd_ne O.ne]; exact ho, ?_, O.ne, O'.obj, _, O'.ns, fun g => ?_, fun g hg => ?_⟩
  · have := length_putF f y fs; omega
  · show RelO ((putF f y fs).lookup g) (if g = f then some u else mA g)
    rw [lookup_putF]
    by_cases q : g = f
    · rw [if_pos q, if_pos q]; exact ry
    · rw [if_neg q, if_neg q]; exact r g
  · by_cases q : g = f
    · rw [q]; exact (keys_putF f y fs).1
    · refine (keys_putF f y fs).2 g (wi g fun z => hg ?_)
      show (if g = f then some u else mA g) = none
      rw [if_neg q]; exact z

/-- a new instance, tracked, without attributes -/
theorem Inv.made (I : Inv X pins σ H s) : Inv X pins σ (upd (upd H s.heap.objs.size (.own (s.heap.objs.size + 1))) (s.heap.objs.size + 1) (.ins C s.heap.objs.size []))
    { s with heap := (s.heap.push PySem.W.emptyDict).push (PySem.W.instObj C s.heap.objs.size) } := by
  have e1 : (s.heap.push PySem.W.emptyDict).get? s.heap.objs.size = some PySem.W.emptyDict := Heap.get?_push_size s.heap rfl
  have e2 : ((s.heap.push PySem.W.emptyDict).push (PySem.W.instObj C s.heap.objs.size)).get? (s.heap.objs.size + 1) = some (PySem.W.instObj C s.heap.objs.size) := by
    have := Heap.get?_push_size (s.heap.push PySem.W.emptyDict) (o := PySem.W.instObj C s.heap.objs.size) rfl
    rwa [Heap.size_push] at this
  have e3 : (s.heap.push PySem.W.emptyDict).Ns s.heap.objs.size (fun _ => none) := ⟨PySem.W.emptyDict, #[], _, e1, rfl, (fun e he => absurd he (by simp)), fun _ => rfl⟩
  have I1 := I.laid (a := s.heap.objs.size) (o := .own (s.heap.objs.size + 1)) (h' := s.heap.push PySem.W.emptyDict) (t' := s.toks) (fun b u q => Heap.get?_push_of_some _ q) (Nat.le_refl _) ⟨_, e1⟩
  refine I1.laid (a := s.heap.objs.size + 1) (o := .ins C s.heap.objs.size []) (t' := s.toks) (fun b u q => Heap.get?_push_of_some _ q) (Nat.le_of_eq (Heap.size_push _ _)) ?_
  have ne : s.heap.objs.size ≠ s.heap.objs.size + 1 := Nat.ne_of_lt (Nat.lt_succ_self _)
  refine ⟨by rw [upd_ne ne, upd_same], Nat.zero_le _, ne, e2, fun _ => none, (Heap.Ns1.of_empty e3).at fun o q => Heap.get?_push_of_some _ q, fun _ => True.intro, fun y hy => absurd rfl hy⟩

/-- e.f where nothing but the object is asked: through attributeBase (super) and the last hold -/
theorem attr_of {prog : Program} {w : World} {env : Env} {e : Expr} {f : Str} {pos : Pos} {s : Shared} {Q : Value → Shared → Prop} (hb : attributeBase e f env (eval e env) = eval e env)
    (h : wpAny (model prog w) A (eval e env) (fun o s₁ => wpAny (model prog w) A (getAttr o f true) Q E s₁) E s) : wpAny (model prog w) A (eval (.Attribute e f pos) env) Q E s :=
  Attribute_any_ h (by rw [arm_eval_Attribute, hb])
end

/-! ### readings and rules -/
/-- e.f, an attribute of the instance -/
def tFld (K : PySem.W.Frag) (ta : TE) (f : Str) : TE := fun σ H Q => ta σ H fun x H1 => ∃ a C dx fs v, x = .ref a ∧ H1 a = some (.ins C dx fs) ∧ Cls K C ∧ NoAttr K C f ∧ fs.lookup f = some v ∧ Q v H1
/-- e.f = value -/
def sFld (K : PySem.W.Frag) (ta tv : TE) (f : Str) : TS := fun D σ H => tv σ H fun y H1 => ta σ H1 fun x H2 => ∃ a C dx fs, x = .ref a ∧ H2 a = some (.ins C dx fs) ∧ Cls K C ∧ NoAttr K C f ∧ fs.length < 1000 ∧
  D.nx σ (upd H2 a (.ins C dx (putF f y fs)))
section
variable {X : Cx} {o e value : Expr} {f : Str} {pos pos' tpos : Pos} {ta tv : TE}
theorem pe_fld (he : PE X e ta) (hb : attributeBase e f X.env (eval e X.env) = eval e X.env) : PE X (.Attribute e f pos) (tFld X.K ta f) := by
  intro pins s σ H Q I h
  refine attr_of hb (thn (he pins s σ H _ I h) fun u s1 ⟨x, H1, I1, rx, a, C, dx, fs, v, ex, ea, c, n, l, q⟩ => ?_)
  subst ex
  obtain rfl : u = Value.ref a := rx
  exact getattr_ok I1 ea c n l fun u' s2 I2 ru => ⟨v, H1, I2, ru, q⟩
theorem ps_fld (ha : PE X o ta) (hv : PE X value tv) (hs : swapsWith value (some (.Attribute o f pos')) pos.line X.env = pure false) : PS X (.Assign [.Attribute o f pos'] value pos) (sFld X.K ta tv f) := by
  intro pins s σ H D I h
  refine plainObj_wpAny_Assign_Attribute (thn (hv pins s σ H _ I h) fun u s1 ⟨y, H1, I1, ry, q⟩ => thn (ha pins s1 σ H1 _ I1 q) fun ov s2 ⟨x, H2, I2, rx, a, C, dx, fs, ex, ea, c, n, l, q2⟩ => ?_) hs
  subst ex
  obtain rfl : ov = Value.ref a := rx
  exact setattr_ok I2 ea c n l ry fun s3 I3 => ⟨σ, _, I3, q2⟩
end

/-! ### isinstance -/
section
variable {X : Cx} {pins : List (Addr × Obj)} {σ : St} {H : Hp} {s : Shared} {A : Around} {E : Value → Shared → Prop} {Q : Value → Shared → Prop} {c : Value} {b : Bool}
/-- the type of a value, as the fragment's deciders take it; for an instance its class -/
inductive TyOf (K : PySem.W.Frag) (H : Hp) : V → Value → Prop where
  | non : TyOf K H .non (.type "NoneType")
  | bl (x : Bool) : TyOf K H (.bl x) (.type "bool")
  | int (i : Int) : TyOf K H (.int i) (.type "int")
  | str (x : Str) : TyOf K H (.str x) (.type "str")
  | flt (x : UInt64) : TyOf K H (.flt x) (.type "float")
  | lst {a : Addr} {xs : List V} (e : H a = some (.lst xs)) : TyOf K H (.ref a) (.type "list")
  | frz {a : Addr} {o : Obj} {xs : List V} (e : H a = some (.frz o (.lst xs))) : TyOf K H (.ref a) (.type "list")
  | tup {a : Addr} {xs : List V} (e : H a = some (.tup xs)) : TyOf K H (.ref a) (.type "tuple")
  | dK {a : Addr} {kvs : List (Key × V)} (e : H a = some (.dK kvs)) : TyOf K H (.ref a) (.type "dict")
  | dT {a : Addr} {kvs : List (List Key × V)} (e : H a = some (.dT kvs)) : TyOf K H (.ref a) (.type "dict")
  | ins {a C dx : Addr} {fs : List (Str × V)} (e : H a = some (.ins C dx fs)) (cl : Cls K C) (ha : PySem.W.findIn K (.ref C) "__class__" = some (some (.builtin "object.__class__")))
      (hn : PySem.W.specialIn K (.builtin "object.__class__") "__get__" = some (some (.builtin "getset_descriptor.__get__"))) (htk : PySem.W.takesIn K (.builtin "object.__class__") = some true)
      (hm : PySem.W.mroIn K C (.type "object") = some true) : TyOf K H (.ref a) (.ref C)
/-- isinstance(x, c) for one class c, a built-in or an own one: kitOne's answer -/
theorem isinst_ok {x : V} {u t : Value} (I : Inv X pins σ H s) (rx : RelV x u) (ty : TyOf X.K H x t) (e : PySem.W.kitOne X.K t c = some b) (h : ∀ tk, Q (.bool b) { s with toks := tk }) :
    wpAny (model X.prog X.w) A (call (.builtin "isinstance") [u, c]) Q E s := by
  cases ty with
  | non => cases (show u = Value.none from rx); exact PySem.W.kia_one PySem.W.kitx_none I.kIn True.intro e (fun z => nomatch z) h
  | bl y => cases (show u = Value.bool y from rx); exact PySem.W.kia_one PySem.W.kitx_bool I.kIn True.intro e (fun z => nomatch z) h
  | int i => obtain ⟨t, q⟩ := (show ∃ t, u = Value.int i t from rx); cases q; exact PySem.W.kia_one PySem.W.kitx_int I.kIn True.intro e (fun z => nomatch z) h
  | str y => obtain ⟨t, q⟩ := (show ∃ t, u = Value.str y t from rx); cases q; exact PySem.W.kia_one PySem.W.kitx_str I.kIn True.intro e (fun z => nomatch z) h
  | flt y => obtain ⟨t, q⟩ := (show ∃ t, u = Value.float y t from rx); cases q; exact PySem.W.kia_one PySem.W.kitx_float I.kIn True.intro e (fun z => nomatch z) h
  | @lst a xs ea =>
    cases (show u = Value.ref a from rx)
    obtain ⟨_, _, n, _, h1⟩ := (show ObjOk X.prog X.w H s.heap a (.lst xs) from I.hok a _ ea)
    exact PySem.W.kia_one PySem.W.kitx_list I.kIn ⟨_, h1, rfl⟩ e (fun z => nomatch z) h
  | @frz a ob xs ea =>
    cases (show u = Value.ref a from rx)
    obtain ⟨_, _, _, n, _, h1⟩ := (show ObjOk X.prog X.w H s.heap a (.frz ob (.lst xs)) from I.hok a _ ea)
    exact PySem.W.kia_one PySem.W.kitx_list I.kIn ⟨_, h1, rfl⟩ e (fun z => nomatch z) h
  | @tup a xs ea =>
    cases (show u = Value.ref a from rx)
    obtain ⟨_, _, _, p⟩ := (show ObjOk X.prog X.w H s.heap a (.tup xs) from I.hok a _ ea)
    obtain ⟨o, h1, h2, _⟩ := p
    exact PySem.W.kia_one PySem.W.kitx_tuple I.kIn ⟨o, h1, h2⟩ e (fun z => nomatch z) h
  | @dK a kvs ea =>
    cases (show u = Value.ref a from rx)
    obtain ⟨_, _, vs, _, p⟩ := (show ObjOk X.prog X.w H s.heap a (.dK kvs) from I.hok a _ ea)
    obtain ⟨o, es, ep, h1, h2, _⟩ := p
    exact PySem.W.kia_one PySem.W.kitx_dict I.kIn ⟨o, h1, h2.1⟩ e (fun z => nomatch z) h
  | @dT a kvs ea =>
    cases (show u = Value.ref a from rx)
    obtain ⟨_, _, xs, _, o, es, ep, h1, h2, _⟩ := (show ObjOk X.prog X.w H s.heap a (.dT kvs) from I.hok a _ ea)
    exact PySem.W.kia_one PySem.W.kitx_dict I.kIn ⟨o, h1, h2.1⟩ e (fun z => nomatch z) h
  | @ins a C dx fs ea cl ha hn htk hm =>
    cases (show u = Value.ref a from rx)
    obtain ⟨mA, O, _⟩ := ins_get I.hok ea
    obtain ⟨od, J, _⟩ := O.look
    exact PySem.W.kia_one (PySem.W.kitx_own (cl.get _) cl.hd ha hn htk hm) I.kIn J e (fun z => nomatch z) h
end
end L2

namespace L2
open PySem PySem.Spec PyProof.Rows

/-! ### room -/
structure Room (k : Nat) (A : Around) : Prop where
  hd : A.handled = none
  dp : A.depth + 3 * k + 5 < recursionLimit
  un : A.units + 16 * k + 200 < cLine
theorem Room.mono {j k : Nat} {A : Around} (r : Room k A) (h : j ≤ k) : Room j A := ⟨r.hd, by have := r.dp; omega, by have := r.un; omega⟩
theorem Room.deeper {k : Nat} {A : Around} (r : Room (k + 1) A) (env : Env) : Room k (A.deeper env) :=
  ⟨r.hd, by have := r.dp; show A.depth + 1 + 3 * k + 5 < _; omega, by have := r.un; show A.units + 3 + 16 * k + 200 < _; omega⟩
theorem Room.in1 {k : Nat} {A : Around} (r : Room (k + 1) A) : Room k A.in1 :=
  ⟨r.hd, by have := r.dp; show A.depth + 3 * k + 5 < _; omega, by have := r.un; show A.units + 1 + 16 * k + 200 < _; omega⟩
theorem make_depth {A : Around} {C : Addr} {us : List Value} {kw : List (Str × Value)} : (A.under (.builtin "type.__call__" ⟨.ref C :: us, kw⟩)).depth = A.depth + 1 := by
  first | rfl | simp [Around.under, Code.weight, Code.isCreation, Code.isGuard, Code.isCaller, Code.frames, Code.isFrame, guardIds]
theorem make_units {A : Around} {C : Addr} {us : List Value} {kw : List (Str × Value)} : (A.under (.builtin "type.__call__" ⟨.ref C :: us, kw⟩)).units = A.units + 1 := by
  first | rfl | simp [Around.under, Code.cUnits, Code.frames, Code.isFrame]
theorem Room.make {k : Nat} {A : Around} (r : Room (k + 1) A) (C : Addr) (us : List Value) (kw : List (Str × Value)) : Room k (A.under (.builtin "type.__call__" ⟨.ref C :: us, kw⟩)) :=
  ⟨r.hd, by have := r.dp; rw [make_depth]; omega, by have := r.un; rw [make_units]; omega⟩
theorem Room.depth {k : Nat} {A : Around} (r : Room k A) : A.depth < recursionLimit := by have := r.dp; omega
theorem Room.units {k : Nat} {A : Around} (r : Room k A) : A.units + 64 < cLine := by have := r.un; omega
theorem Room.units0 {k : Nat} {A : Around} (r : Room k A) : A.units < cLine := by have := r.un; omega

/-! ### argument lists and displays -/
def tNil : TA := fun _ H Q => Q [] H
def tCons (ta : TE) (tr : TA) : TA := fun σ H Q => ta σ H fun x H1 => tr σ H1 fun xs H2 => Q (x :: xs) H2
section
variable {X : Cx} {e : Expr} {es : List Expr} {te : TE} {t : TA} {pos : Pos}
theorem pa_nil : PA X [] tNil := fun _ _ _ _ H Q I h => Calls.spliced_nil ⟨[], H, I, .nil, h⟩
theorem pa_cons (ha : PE X e te) (hr : PA X es t) (hs : starEach (e :: es) X.env = (false, eval e X.env) :: starEach es X.env := by rfl) : PA X (e :: es) (tCons te t) := by
  intro pos pins s σ H Q I h
  rw [hs]
  show wpAny _ _ (spliced ((false, eval e X.env) :: backTo pos (starEach es X.env))) _ _ s
  refine Calls.spliced_cons (thn (ha pins s σ H _ I h) fun u s1 ⟨x, H1, I1, r1, q1⟩ => ?_)
  exact thn (hr pos pins s1 σ H1 _ I1 q1) fun us s2 ⟨xs, H2, I2, r2, q2⟩ => ⟨x :: xs, H2, I2, .cons r1 r2, q2⟩

/-- a tuple, a list of written items -/
def tTup (t : TA) : TE := fun σ H Q => t σ H fun xs H1 => xs.length ≤ sizeLine ∧ ∀ p, H1 p = none → Q (.ref p) (upd H1 p (.tup xs))
def tLst (t : TA) : TE := fun σ H Q => t σ H fun xs H1 => xs.length ≤ sizeLine ∧ ∀ p, H1 p = none → Q (.ref p) (upd H1 p (.lst xs))
theorem pe_tup {x1} (h : PA X es t) : PE X (.Tuple es x1 pos) (tTup t) := by
  intro pins s σ H Q I hq
  refine wpAny_Tuple_spliced (thn (h pos pins s σ H _ I hq) fun us s1 ⟨xs, H1, I1, r, z, q⟩ => ⟨by rw [← r.length]; exact z, ?_⟩)
  have hf : H1 s1.heap.objs.size = none := I1.hok.fresh (Nat.le_refl _)
  refine ⟨.ref s1.heap.objs.size, upd H1 s1.heap.objs.size (.tup xs), I1.laid (t' := s1.toks) (fun b u e => Heap.get?_push_of_some _ e) (Nat.le_refl _) ?_, rfl, q _ hf⟩
  exact ⟨z, us, r, ⟨_, Heap.get?_push_size _ rfl, rfl, _, rfl⟩⟩
theorem pe_lst (h : PA X es t) : PE X (.List es pos) (tLst t) := by
  intro pins s σ H Q I hq
  refine wpAny_List_spliced (thn (h pos pins s σ H _ I hq) fun us s1 ⟨xs, H1, I1, r, z, q⟩ => ⟨by rw [← r.length]; exact z, ?_⟩)
  have hf : H1 s1.heap.objs.size = none := I1.hok.fresh (Nat.le_refl _)
  refine ⟨.ref s1.heap.objs.size, upd H1 s1.heap.objs.size (.lst xs), I1.laid (t' := s1.toks) (fun b u e => Heap.get?_push_of_some _ e) (Nat.le_refl _) ?_, rfl, q _ hf⟩
  exact ⟨z, us, 0, r, Heap.get?_push_size _ rfl⟩
end

/-! ### what a def promises -/
/-- a def's promise: the bound arguments in the parameters' order, the heap, the wanted end, the wanted exception -/
abbrev Sp := List V → Hp → VK → XK → Prop
/-- how an exception lies behind a call (file 08 gives it): the callers' frames, abstract heap and state ahead of the call, the wish, the exception, the state -/
abbrev CXT := List Env → Hp → Shared → XK → Value → Shared → Prop

/-- the state at a call -/
structure Env0 (P : Program) (w : World) (K : PySem.W.Frag) (mg : Str → Option Value) (base : Heap) (A : Around) (outer : List Env) (s : Shared) (H : Hp) : Prop where
  frames : A.frames = some outer
  mod : Mod K mg base
  bs : ∀ b o, base.get? b = some o → s.heap.get? b = some o ∧ H b = none
  bsz : base.objs.size ≤ s.heap.objs.size
  funs : s.heap.FunFrames base outer
  frf : ∀ b ∈ frs outer, H b = none
  hok : HOk P w H s.heap
  bare : AllBare s.gens
/-- a call's end -/
def CE (outer : List Env) (P : Program) (w : World) (H : Hp) (s : Shared) (Q : VK) (u : Value) (s' : Shared) : Prop :=
  ∃ v H', s'.os = s.os ∧ AllBare s'.gens ∧ Un (frs outer) [] H H' s.heap s'.heap ∧ HOk P w H' s'.heap ∧ RelV v u ∧ Q v H'
def CR (CX : CXT) (outer : List Env) (P : Program) (w : World) (H : Hp) (s : Shared) (Q : VK) (E : XK) (r : Result) (s' : Shared) : Prop :=
  match r with
  | .ok (.ret u) => CE outer P w H s Q u s'
  | .ok _ => False
  | .error e => CX outer H s E e s'
structure FnOk (P : Program) (w : World) (K : PySem.W.Frag) (mg : Str → Option Value) (base : Heap) (CX : CXT) (k : Nat) (f : Addr) (fd : FuncData) (ps : List Str) (sp : Sp) : Prop where
  len : ∀ vs H Q E, sp vs H Q E → vs.length = ps.length
  run : ∀ (A : Around) (outer : List Env) (s : Shared) (H : Hp) (args : Args) (us : List Value) (vs : List V) (Q : VK) (E : XK), Room k A → Env0 P w K mg base A outer s H → BindsTo s fd args (ps.zip us) → Vals vs us → sp vs H Q E →
    codeAny (model P w) A (.call (.ref f) args) (CR CX outer P w H s Q E) s
theorem FnOk.mono {P : Program} {w : World} {K : PySem.W.Frag} {mg : Str → Option Value} {base : Heap} {CX : CXT} {j k : Nat} {f : Addr} {fd : FuncData} {ps : List Str} {sp : Sp} (F : FnOk P w K mg base CX j f fd ps sp) (h : j ≤ k) :
    FnOk P w K mg base CX k f fd ps sp := ⟨F.len, fun A outer s H args us vs Q E hr => F.run A outer s H args us vs Q E (hr.mono h)⟩
theorem Env0.make {P : Program} {w : World} {K : PySem.W.Frag} {mg : Str → Option Value} {base : Heap} {A : Around} {outer : List Env} {s : Shared} {H : Hp} (e : Env0 P w K mg base A outer s H) (C : Addr) (us : List Value) (kw : List (Str × Value)) :
    Env0 P w K mg base (A.under (.builtin "type.__call__" ⟨.ref C :: us, kw⟩)) outer s H := ⟨by first | exact e.frames | (simpa [Around.under, Code.envs, Code.isFrame, pushEnvs] using e.frames), e.mod, e.bs, e.bsz, e.funs, e.frf, e.hok, e.bare⟩
theorem Env0.in1 {P : Program} {w : World} {K : PySem.W.Frag} {mg : Str → Option Value} {base : Heap} {A : Around} {outer : List Env} {s : Shared} {H : Hp} (e : Env0 P w K mg base A outer s H) :
    Env0 P w K mg base A.in1 outer s H := ⟨e.frames, e.mod, e.bs, e.bsz, e.funs, e.frf, e.hok, e.bare⟩

section
variable {X : Cx} {pins : List (Addr × Obj)} {σ : St} {H : Hp} {s s' : Shared}
/-- from a body: what a callee wants -/
theorem Inv.env0 (I : Inv X pins σ H s) : Env0 X.prog X.w X.K X.mg X.base X.A X.stack s H :=
  ⟨I.ok.frames, I.ok.mod, I.bs, Nat.le_trans I.ok.bsz I.sz, I.stack, I.stkFree, I.hok, I.bare⟩
/-- behind a call -/
theorem Inv.after {Q : VK} {u : Value} (I : Inv X pins σ H s) (h : CE X.stack X.prog X.w H s Q u s') : EP X pins σ Q u s' := by
  obtain ⟨v, H', os, bare, un, hok, r, q⟩ := h
  obtain ⟨hh, g, d, t, os'⟩ := s'
  obtain rfl : os' = s.os := os
  exact ⟨v, H', I.call (h' := hh) (g' := g) (d' := d) (t' := t) (ch := []) un hok bare (fun b z => absurd z (by simp)), r, q⟩
end

/-! ### calls -/
/-- f(..): the written arguments, then the defaults dvs; E: what is wanted of an exception -/
def tCall (sp : Sp) (dvs : List V) (E : XK) (t : TA) : TE := fun σ H Q => t σ H fun vs H1 => sp (vs ++ dvs) H1 Q E
/-- o.m(..) of an instance of the class at C -/
def tMeth (C : Addr) (m : Str) (sp : Sp) (dvs : List V) (E : XK) (ta : TE) (t : TA) : TE := fun σ H Q => ta σ H fun x H1 => ∃ a dx fs, x = .ref a ∧ H1 a = some (.ins C dx fs) ∧ fs.lookup m = none ∧
  t σ H1 fun vs H2 => sp (x :: (vs ++ dvs)) H2 Q E
/-- C(..): a new instance and its dict, then __init__ -/
def tMake (C : Addr) (sp : Sp) (dvs : List V) (E : XK) (t : TA) : TE := fun σ H Q => t σ H fun vs H1 => ∀ x dx, H1 x = none → H1 dx = none → dx ≠ x →
  sp (.ref x :: (vs ++ dvs)) (upd (upd H1 dx (.own x)) x (.ins C dx [])) (fun v H2 => v = .non ∧ Q (.ref x) H2) E

/-- how the parameters are bound: us the positional arguments, kw the keywords' values by name, ds the defaults that fill up -/
def Binds (K : PySem.W.Frag) (fd : FuncData) (ps : List Str) (ds : List Value) : Prop :=
  ∀ (s : Shared) (us : List Value), K.In s.heap → (us ++ ds).length = ps.length → BindsTo s fd ⟨us, []⟩ (ps.zip (us ++ ds))
/-- every parameter is given -/
theorem Binds.all {K : PySem.W.Frag} {fd : FuncData} {ps : List Str} (h : ∀ us : List Value, us.length = ps.length → bindArgs fd ⟨us, []⟩ = pure (ps.zip us)) : Binds K fd ps [] := fun s us _ hl => by
  rw [List.append_nil] at hl ⊢
  exact .of_eq (h us hl)

/-- an exception of a callee reaches what this body wants of exceptions -/
def Passes (CX : CXT) (X : Cx) (E : XK) : Prop := ∀ (pins : List (Addr × Obj)) (σ : St) (H : Hp) (s : Shared) (e : Value) (s' : Shared), Inv X pins σ H s → CX X.stack H s E e s' → X.xe e s'

section
variable {X : Cx} {CX : CXT} {k : Nat} {f C : Addr} {fd : FuncData} {ps : List Str} {sp : Sp} {dvs : List V} {ds : List Value} {E : XK} {x m : Str} {p pos apos : Pos} {e o : Expr} {es : List Expr} {ta : TE} {t : TA}

/-- the callee runs -/
theorem run_fn {pins : List (Addr × Obj)} {σ : St} {H : Hp} {s : Shared} {Q : VK} {us : List Value} {vs : List V} (F : FnOk X.prog X.w X.K X.mg X.base CX k f fd ps sp) (hr : Room k X.A) (hb : Binds X.K fd ps ds) (hd : Vals dvs ds) (hx : Passes CX X E)
    (I : Inv X pins σ H s) (r : Vals vs us) (h : sp (vs ++ dvs) H Q E) : wpAny (model X.prog X.w) X.A (call (.ref f) us) (EP X pins σ Q) X.xe s := by
  have r2 : Vals (vs ++ dvs) (us ++ ds) := r.append hd
  have hl : (us ++ ds).length = ps.length := by rw [← r2.length]; exact F.len _ _ _ _ h
  refine wpAny_call (codeAny_mono (F.run X.A X.stack s H ⟨us, []⟩ (us ++ ds) (vs ++ dvs) Q E hr I.env0 (hb s us I.kIn hl) r2 h) fun r s' hq => ?_)
  cases r with
  | error e => exact hx pins σ H s e s' I hq
  | ok fl =>
    cases fl with
    | ret u => exact I.after hq
    | next => exact False.elim hq
    | brk => exact False.elim hq
    | cont => exact False.elim hq

theorem pe_call (F : FnOk X.prog X.w X.K X.mg X.base CX k f fd ps sp) (hr : Room k X.A) (hg : Gl X x) (hm : X.mg x = some (.ref f)) (hk : PySem.W.keepIn X.K (.ref f) = true) (hb : Binds X.K fd ps ds) (hd : Vals dvs ds) (hx : Passes CX X E)
    (ha : PA X (e :: es) t) (hdb : (x == ("__debug__" : Str)) = false := by decide) (he : starEach (e :: es) X.env = (false, eval e X.env) :: starEach es X.env := by rfl) (hpl : (backTo pos (starEach es X.env)).any (·.1) = false := by rfl) :
    PE X (.Call (.Name x p) (e :: es) [] pos) (tCall sp dvs E t) := by
  intro pins s σ H Q I h
  refine wpAny_Call_Name_kw (ld_glob I hg hm ?_ hdb)
  refine PySem.W.callWith_K (h₀ := X.base) I.ok.mod.kin hk (thn (ha pos pins s σ H _ I h) fun us s1 ⟨vs, H1, I1, r, q⟩ => ⟨I1.kIn, ?_⟩) he hpl
  exact run_fn F hr hb hd hx I1 r q
/-- o.m(e, ..) -/
theorem pe_meth {pl : Sem Bool} (he : PE X o ta) (c : Cls X.K C) (hm : Meth X.K C m f) (F : FnOk X.prog X.w X.K X.mg X.base CX k f fd ps sp) (hr : Room k X.A) (hb : Binds X.K fd ps ds) (hd : Vals dvs ds) (hx : Passes CX X E) (ha : PA X (e :: es) t)
    (hst : starEach (e :: es) X.env = (false, eval e X.env) :: starEach es X.env := by rfl) (hpl : (backTo pos (starEach es X.env)).any (·.1) = false := by rfl)
    (ht : eval (.Call (.Attribute o m apos) (e :: es) [] pos) X.env = (do
      let ov ← eval o X.env
      standAt apos.atName
      let (f, first) ← holding [ov] (getMethod ov m pl)
      callWith pos f first (backTo pos (starEach (e :: es) X.env)) (backToKw pos (keywordEach [] X.env))) := by rfl) :
    PE X (.Call (.Attribute o m apos) (e :: es) [] pos) (tMeth C m sp dvs E ta t) := by
  intro pins s σ H Q I h
  refine PySem.W.methodCall_KW (pl := pl) (thn (he pins s σ H _ I h) fun u s1 ⟨x, H1, I1, rx, a, dx, fs, ex, ea, l, q⟩ => ?_) ht
  subst ex
  obtain rfl : u = Value.ref a := rx
  refine getmeth_ok I1 ea c hm l ?_
  refine PySem.W.callWith_K (first := [.ref a]) (h₀ := X.base) I.ok.mod.kin hm.kp (thn (ha pos pins s1 σ H1 _ I1 q) fun us s2 ⟨vs, H2, I2, r, q2⟩ => ⟨I2.kIn, ?_⟩) hst hpl
  exact run_fn (us := .ref a :: us) (vs := .ref a :: vs) F hr hb hd hx I2 (.cons rfl r) q2
/-- o.m() -/
theorem pe_meth0 {pl : Sem Bool} (he : PE X o ta) (c : Cls X.K C) (hm : Meth X.K C m f) (F : FnOk X.prog X.w X.K X.mg X.base CX k f fd ps sp) (hr : Room k X.A) (hb : Binds X.K fd ps ds) (hd : Vals dvs ds) (hx : Passes CX X E)
    (ht : eval (.Call (.Attribute o m apos) [] [] pos) X.env = (do
      let ov ← eval o X.env
      standAt apos.atName
      let (f, first) ← holding [ov] (getMethod ov m pl)
      callWith pos f first (backTo pos (starEach [] X.env)) (backToKw pos (keywordEach [] X.env))) := by rfl) :
    PE X (.Call (.Attribute o m apos) [] [] pos) (tMeth C m sp dvs E ta tNil) := by
  intro pins s σ H Q I h
  refine PySem.W.methodCall_KW (pl := pl) (thn (he pins s σ H _ I h) fun u s1 ⟨x, H1, I1, rx, a, dx, fs, ex, ea, l, q⟩ => ?_) ht
  subst ex
  obtain rfl : u = Value.ref a := rx
  refine getmeth_ok I1 ea c hm l ?_
  exact PySem.W.callWith_K0 (first := [.ref a]) I1.kIn hm.kp (run_fn (us := [.ref a]) (vs := [.ref a]) F hr hb hd hx I1 (.cons rfl .nil) q)

/-- what a class must have to be made -/
structure Mk (K : PySem.W.Frag) (C f : Addr) : Prop where
  makes : PySem.W.makesIn K C = true
  init : PySem.W.findIn K (.ref C) "__init__" = some (some (.ref f))
  fn : PySem.W.isFn K (.ref f) = true
  kp : PySem.W.keepIn K (.ref C) = true

theorem run_make {pins : List (Addr × Obj)} {σ : St} {H : Hp} {s : Shared} {Q : VK} {us : List Value} {vs : List V} (M : Mk X.K C f) (F : FnOk X.prog X.w X.K X.mg X.base CX k f fd ps sp) (hr : Room (k + 1) X.A) (hb : Binds X.K fd ps ds) (hd : Vals dvs ds)
    (hx : Passes CX X E) (I : Inv X pins σ H s) (r : Vals vs us)
    (h : ∀ x dx, H x = none → H dx = none → dx ≠ x → sp (.ref x :: (vs ++ dvs)) (upd (upd H dx (.own x)) x (.ins C dx [])) (fun v H2 => v = .non ∧ Q (.ref x) H2) E) :
    wpAny (model X.prog X.w) X.A (call (.ref C) us) (EP X pins σ Q) X.xe s := by
  have hq := h (s.heap.objs.size + 1) s.heap.objs.size (I.hok.fresh (Nat.le_succ _)) (I.hok.fresh (Nat.le_refl _)) (Nat.ne_of_lt (Nat.lt_succ_self _))
  have I2 := Inv.made (C := C) I
  have r2 : Vals (V.ref (s.heap.objs.size + 1) :: (vs ++ dvs)) (Value.ref (s.heap.objs.size + 1) :: (us ++ ds)) := .cons rfl (r.append hd)
  have hl : (Value.ref (s.heap.objs.size + 1) :: us ++ ds).length = ps.length := by
    have e := r2.length
    rw [F.len _ _ _ _ hq] at e
    exact e.symm
  refine wpAny_call (make_map (f := f) I.kIn M.makes M.init (beq_iff_eq.mp M.fn) (codeAny_mono (F.run _ X.stack _ _ ⟨Value.ref (s.heap.objs.size + 1) :: us, []⟩ (Value.ref (s.heap.objs.size + 1) :: (us ++ ds)) _ _ E (hr.make C us [])
    (I2.env0.make C us []) (hb _ (Value.ref (s.heap.objs.size + 1) :: us) I2.kIn hl) r2 hq) fun r s' hq' => ?_))
  cases r with
  | error e => exact hx pins σ _ _ e s' I2 hq'
  | ok fl =>
    cases fl with
    | ret u =>
      obtain ⟨v, H', I3, rv, ev, q3⟩ := I2.after hq'
      subst ev
      exact ⟨rv, ⟨V.ref (s.heap.objs.size + 1), H', I3, rfl, q3⟩⟩
    | next => exact False.elim hq'
    | brk => exact False.elim hq'
    | cont => exact False.elim hq'
theorem pe_make (M : Mk X.K C f) (F : FnOk X.prog X.w X.K X.mg X.base CX k f fd ps sp) (hr : Room (k + 1) X.A) (hg : Gl X x) (hm : X.mg x = some (.ref C)) (hb : Binds X.K fd ps ds) (hd : Vals dvs ds) (hx : Passes CX X E)
    (ha : PA X (e :: es) t) (hdb : (x == ("__debug__" : Str)) = false := by decide) (he : starEach (e :: es) X.env = (false, eval e X.env) :: starEach es X.env := by rfl) (hpl : (backTo pos (starEach es X.env)).any (·.1) = false := by rfl) :
    PE X (.Call (.Name x p) (e :: es) [] pos) (tMake C sp dvs E t) := by
  intro pins s σ H Q I h
  refine wpAny_Call_Name_kw (ld_glob I hg hm ?_ hdb)
  refine PySem.W.callWith_K (h₀ := X.base) I.ok.mod.kin M.kp (thn (ha pos pins s σ H _ I h) fun us s1 ⟨vs, H1, I1, r, q⟩ => ⟨I1.kIn, ?_⟩) he hpl
  exact run_make M F hr hb hd hx I1 r q
theorem pe_make0 (M : Mk X.K C f) (F : FnOk X.prog X.w X.K X.mg X.base CX k f fd ps sp) (hr : Room (k + 1) X.A) (hg : Gl X x) (hm : X.mg x = some (.ref C)) (hb : Binds X.K fd ps ds) (hd : Vals dvs ds) (hx : Passes CX X E)
    (hdb : (x == ("__debug__" : Str)) = false := by decide) : PE X (.Call (.Name x p) [] [] pos) (tMake C sp dvs E tNil) := by
  intro pins s σ H Q I h
  refine wpAny_Call_Name_kw (ld_glob I hg hm ?_ hdb)
  exact PySem.W.callWith_K0 I.kIn M.kp (run_make (us := []) M F hr hb hd hx I .nil h)
end

/-! ### keywords -/
/-- the values of the keywords, from the left -/
def PK (X : Cx) (kws : List Keyword) (t : TA) : Prop :=
  ∀ (pos : Pos) (pins : List (Addr × Obj)) (s : Shared) (σ : St) (H : Hp) (Q : List V → Hp → Prop), Inv X pins σ H s → t σ H Q → wpAny (model X.prog X.w) X.A (evalAll ((backToKw pos (keywordEach kws X.env)).map (·.2))) (AP X pins σ Q) X.xe s
section
variable {X : Cx} {CX : CXT} {k : Nat} {f C : Addr} {fd : FuncData} {ps ks : List Str} {sp : Sp} {E : XK} {x m : Str} {p pos apos kpos : Pos} {e o : Expr} {es : List Expr} {kws : List Keyword} {te ta : TE} {t tk : TA} {nm : Option Str}
theorem pk_nil : PK X [] tNil := fun _ _ _ _ H Q I h => wpAny_evalAll_nil ⟨[], H, I, .nil, h⟩
theorem pk_cons (ha : PE X e te) (hr : PK X kws t) : PK X (⟨nm, e, kpos⟩ :: kws) (tCons te t) := by
  intro pos pins s σ H Q I h
  show wpAny _ _ (evalAll ((do let v ← eval e X.env; standAt pos; pure v) :: (backToKw pos (keywordEach kws X.env)).map (·.2))) _ _ s
  refine wpAny_evalAll_cons (wpAny_bind (thn (ha pins s σ H _ I h) fun u s1 ⟨x, H1, I1, r1, q1⟩ => wpAny_bind (wpAny_standAt (wpAny_pure ?_))))
  exact thn (hr pos pins s1 σ H1 _ I1 q1) fun us s2 ⟨xs, H2, I2, r2, q2⟩ => ⟨x :: xs, H2, I2, .cons r1 r2, q2⟩

/-- how a call with keywords binds: g puts the positional values us and the keywords' values ws (names ks) in the parameters' order, defaults among them -/
structure KBinds (K : PySem.W.Frag) (fd : FuncData) (ps ks : List Str) (g : List Value → List Value → List Value) (gV : List V → List V → List V) : Prop where
  to : ∀ (s : Shared) (us ws : List Value), K.In s.heap → (g us ws).length = ps.length → BindsTo s fd ⟨us, ks.zip ws⟩ (ps.zip (g us ws))
  rel : ∀ {vs : List V} {us : List Value} {zs : List V} {ws : List Value}, Vals vs us → Vals zs ws → Vals (gV vs zs) (g us ws)
variable {g : List Value → List Value → List Value} {gV : List V → List V → List V}
end

/-! ### a def's body keeps its promise -/
/-- names: the parameters first -/
structure FnScope (N P : List Str) (sc : Scope) : Prop where
  kind : sc.kind = .function
  co : sc.isCoroutine = false
  gen : sc.isGenerator = false
  nd : N.Nodup
  pre : N.take P.length = P
  par : ∀ x ∈ P, sc.names.lookup x = some .local ∨ sc.names.lookup x = some .cell
  nofree : ∀ y ∈ sc.names, y.2 ≠ .free

theorem bindL_out {kindOf : Str → Option NameKind} {x : Str} : ∀ {binds : List (Str × Value)} {m : Str → Option Value}, (∀ v, (x, v) ∉ binds) → bindL kindOf binds m x = m x
  | [], _, _ => rfl
  | (n, v) :: r, m, h => by
    unfold bindL
    rw [bindL_out fun w hw => h w (List.mem_cons_of_mem _ hw)]
    split
    · have : x ≠ n := by rintro rfl; exact h v List.mem_cons_self
      simp [this]
    · rfl
theorem bindC_out {kindOf : Str → Option NameKind} {x : Str} : ∀ {binds : List (Str × Value)} {m : Str → Option Value}, (∀ v, (x, v) ∉ binds) → bindC kindOf binds m x = m x
  | [], _, _ => rfl
  | (n, v) :: r, m, h => by
    unfold bindC
    rw [bindC_out fun w hw => h w (List.mem_cons_of_mem _ hw)]
    split
    · rfl
    · have : x ≠ n := by rintro rfl; exact h v List.mem_cons_self
      simp [this]
theorem bindL_get {kindOf : Str → Option NameKind} {x : Str} {v : Value} : ∀ {P : List Str} {vs : List Value} {i : Nat} {m : Str → Option Value}, P.Nodup → P[i]? = some x → vs[i]? = some v → kindOf x = some .local →
    bindL kindOf (P.zip vs) m x = some v
  | [], _, _, _, _, h, _, _ => by simp at h
  | _ :: _, [], _, _, _, _, h, _ => by simp at h
  | p :: P, w :: vs, 0, m, nd, h1, h2, hk => by
    simp at h1 h2; subst h1; subst h2
    show bindL kindOf ((p, w) :: P.zip vs) m p = _
    unfold bindL
    rw [bindL_out fun v hv => (List.nodup_cons.mp nd).1 (List.of_mem_zip hv).1, if_pos hk]
    simp
  | p :: P, w :: vs, i + 1, m, nd, h1, h2, hk => by
    show bindL kindOf ((p, w) :: P.zip vs) m x = _
    unfold bindL
    exact bindL_get (i := i) (List.nodup_cons.mp nd).2 (by simpa using h1) (by simpa using h2) hk
theorem bindC_get {kindOf : Str → Option NameKind} {x : Str} {v : Value} : ∀ {P : List Str} {vs : List Value} {i : Nat} {m : Str → Option Value}, P.Nodup → P[i]? = some x → vs[i]? = some v → kindOf x ≠ some .local →
    bindC kindOf (P.zip vs) m x = some v
  | [], _, _, _, _, h, _, _ => by simp at h
  | _ :: _, [], _, _, _, _, h, _ => by simp at h
  | p :: P, w :: vs, 0, m, nd, h1, h2, hk => by
    simp at h1 h2; subst h1; subst h2
    show bindC kindOf ((p, w) :: P.zip vs) m p = _
    unfold bindC
    rw [bindC_out fun v hv => (List.nodup_cons.mp nd).1 (List.of_mem_zip hv).1, if_neg hk]
    simp
  | p :: P, w :: vs, i + 1, m, nd, h1, h2, hk => by
    show bindC kindOf ((p, w) :: P.zip vs) m x = _
    unfold bindC
    exact bindC_get (i := i) (List.nodup_cons.mp nd).2 (by simpa using h1) (by simpa using h2) hk

/-- the names' values at the entry -/
def start (N : List Str) (vs : List V) : St := vs.map some ++ List.replicate (N.length - vs.length) none

/-- the context of a def's body, at its entry; an exception leaves the frame, then lies as CX says -/
def cxOf (CX : CXT) (P : Program) (w : World) (K : PySem.W.Frag) (mg : Str → Option Value) (base : Heap) (N : List Str) (qual : Str) (scope : Scope) (f : Addr) (cd : Value) (A : Around) (outer : List Env) (s : Shared) (H : Hp) (E : XK) : Cx where
  prog := P
  w := w
  K := K
  mg := mg
  base := base
  A := A.deeper (envOfC qual scope s.heap.objs.size f cd)
  N := N
  s₀ := s
  H₀ := H
  env := envOfC qual scope s.heap.objs.size f cd
  outer := outer
  stack := envOfC qual scope s.heap.objs.size f cd :: outer
  ex := []
  calm := true
  fn := fun _ => true
  pn := []
  xe := fun e s' => wpAny (model P w) (A.deeper (envOfC qual scope s.heap.objs.size f cd)) (leaving (envOfC qual scope s.heap.objs.size f cd) e) (fun _ s'' => CX outer H s E e s'') (fun e' s'' => CX outer H s E e' s'') s'

theorem cell_has {sc : Scope} {n : Nat} {x : Str} (h : sc.names.lookup x = some .cell) : ∃ c, (cellsFrom n sc.names []).lookup x = some c := by
  have q := PySem.W.cellsFrom_some sc.names n [] (.inl h)
  exact Option.isSome_iff_exists.mp q

theorem inv_start {CX : CXT} {P : Program} {w : World} {K : PySem.W.Frag} {mg : Str → Option Value} {base : Heap} {N ps : List Str} {qual : Str} {scope : Scope} {f : Addr} {cd : Value} {A : Around} {outer : List Env} {s s1 : Shared} {H : Hp} {E : XK} {us : List Value} {vs : List V}
    (S : FnScope N ps scope) (hd : A.handled = none) (e0 : Env0 P w K mg base A outer s H) (hl : vs.length = ps.length) (r : Vals vs us)
    (x : InCallC s s.heap.objs.size (bindL (envOfC qual scope s.heap.objs.size f cd).kindOf (ps.zip us) fun _ => none) (cellsFrom (s.heap.objs.size + 1) scope.names []) (bindC (envOfC qual scope s.heap.objs.size f cd).kindOf (ps.zip us) fun _ => none) s1) :
    Inv (cxOf CX P w K mg base N qual scope f cd A outer s H E) [] (start N vs) H s1 := by
  have hpl : ps.length ≤ N.length := by have := congrArg List.length S.pre; rw [List.length_take] at this; omega
  obtain ⟨h1, tk, rfl, hk⟩ := x.done
  have noA : ∀ b : Addr, b ∉ (cxOf CX P w K mg base N qual scope f cd A outer s H E).ex := fun b z => absurd (show b ∈ ([] : List Addr) from z) (by simp)
  refine ⟨⟨e0.mod, S.kind, rfl, rfl, Nat.le_refl _, fun y z c h1 h2 => ?_, fun y hy => ?_, fun y c _ h => ?_, fun _ => hd, Around.frames_deeper e0.frames, .inr ⟨rfl, rfl⟩, fun b z => absurd z (noA b), e0.bs, e0.bsz, fun b _ _ => noA b, fun b z => absurd z (noA b), e0.funs, e0.frf⟩,
    rfl, e0.bare, Un.kept hk, ⟨_, x.toInCall.ns, fun i y v h1 h2 h3 => ?_⟩, fun y c h => ⟨_, x.cell y c h⟩, e0.hok.fresh (Nat.le_refl _), fun y c h => ?_, fun p hp => absurd (show p ∈ ([] : List (Addr × Obj)) from hp) (by simp), e0.hok.kept hk, ?_⟩
  · exact name_of_addr x.apart (PySem.mem_of_lookup h1) (PySem.mem_of_lookup h2)
  · have hy : scope.names.lookup y = some .cell ∨ scope.names.lookup y = some .free := hy
    rcases hy with hy | hy
    · exact cell_has hy
    · exact absurd rfl (S.nofree _ (PySem.mem_of_lookup hy))
  · exact Nat.le_of_lt (x.above y c (PySem.mem_of_lookup h))
  · have hi : i < vs.length := by
      unfold start at h2
      by_cases hi : i < vs.length
      · exact hi
      · rw [List.getElem?_append_right (by simpa using hi)] at h2
        rw [List.getElem?_replicate] at h2
        split at h2 <;> cases h2
    have ha : vs[i]? = some v := by
      unfold start at h2
      rw [List.getElem?_append_left (by simpa using hi), List.getElem?_map] at h2
      cases e : vs[i]? with
      | none => rw [e] at h2; cases h2
      | some a => rw [e] at h2; cases h2; rfl
    obtain ⟨u, hu, rv⟩ := r.get ha
    have hp : ps[i]? = some y := by
      rw [← S.pre, List.getElem?_take_of_lt (by omega)]; exact h1
    have ndP : ps.Nodup := by rw [← S.pre]; exact S.nd.sublist (List.take_sublist _ _)
    refine ⟨u, rv, ?_⟩
    rcases S.par y (List.mem_of_getElem? hp) with k | k
    · exact .inl ⟨k, bindL_get ndP hp hu k⟩
    · obtain ⟨c, e⟩ := cell_has (n := s.heap.objs.size + 1) k
      refine .inr ⟨.inl k, c, e, ?_⟩
      have q := x.cell y c e
      rw [bindC_get ndP hp hu (by show scope.names.lookup y ≠ _; rw [k]; decide)] at q
      exact q
  · exact e0.hok.fresh (Nat.le_of_lt (x.above y c (PySem.mem_of_lookup h)))
  · unfold start
    show _ = N.length
    rw [List.length_append, List.length_map, List.length_replicate]
    omega

/-- THE RULE: a def (or a method) of the text, by its body. The body's reading t is chosen for each entry; it is run at the parameters' values -/
theorem fn_of {CX : CXT} {P : Program} {w : World} {K : PySem.W.Frag} {mg : Str → Option Value} {base : Heap} {k : Nat} {f : Addr} {name qual : Str} {params : Arguments} {body : List Stmt} {scope : Scope} {dV kV doc pm cdv ct oc : Value} {an od : Option Addr}
    {osl : Array (Option Value)} {N ps : List Str} {sp : Sp} (lk : K.lookup f = some ⟨oc, od, .func (PySem.W.fnOf name qual params body scope dV kV doc pm an cdv ct), osl⟩) (hcd : PySem.W.codeIn K cdv qual = true) (S : FnScope N ps scope)
    (len : ∀ vs H Q E, sp vs H Q E → vs.length = ps.length)
    (hbody : ∀ (A : Around) (outer : List Env) (s : Shared) (H : Hp) (vs : List V) (Q : VK) (E : XK), Room k (A.deeper (envOfC qual scope s.heap.objs.size f cdv)) → sp vs H Q E →
      ∃ t, PSs (cxOf CX P w K mg base N qual scope f cdv A outer s H E) body t ∧ t { nx := fun _ H' => Q .non H', rt := Q } (start N vs) H) :
    FnOk P w K mg base CX (k + 1) f (PySem.W.fnOf name qual params body scope dV kV doc pm an cdv ct) ps sp := by
  refine ⟨len, fun A outer s H args us vs Q E hr e0 hb r hsp => ?_⟩
  have hl := len _ _ _ _ hsp
  have KX : K.In s.heap := e0.mod.kin.keeps fun b o e => (e0.bs b o e).1
  have lim : s.heap.NoLimit := e0.mod.nolimit.keeps fun b o e => (e0.bs b o e).1
  have hkind : ∀ y ∈ ps.zip us, scope.names.lookup y.1 = some .local ∨ (scope.names.lookup y.1 = some .cell ∧ ((cellsFrom (s.heap.objs.size + 1) scope.names []).lookup y.1).isSome = true) := fun ⟨n, v⟩ hy => by
    rcases S.par n (List.of_mem_zip hy).1 with q | q
    · exact .inl q
    · exact .inr ⟨q, PySem.W.cellsFrom_some _ _ _ (.inl q)⟩
  refine codeAny_call_function hr.depth (KX _ _ lk) rfl S.co S.gen rfl (PySem.W.codeRec_of KX hcd) (hb _ _ _ _ ?_)
  refine wpAny_newFunctionEnv_cells S.kind hkind fun env he s1 x => ?_
  subst he
  refine ⟨lim.keeps x.toInCall.keep, codeAny_func ?_⟩
  obtain ⟨t, ht, hq⟩ := hbody A outer s H vs Q E (hr.deeper _) hsp
  have I : Inv (cxOf CX P w K mg base N qual scope f cdv A outer s H E) [] (start N vs) H s1 := inv_start S hr.hd e0 hl r x
  refine wpAny_mono (ht [] s1 (start N vs) H _ I hq) (fun fl s' hs => ?_) fun e s' hs => hs
  have fin : ∀ {σ' : St} {H' : Hp} {v : V} {u : Value}, Inv (cxOf CX P w K mg base N qual scope f cdv A outer s H E) [] σ' H' s' → RelV v u → Q v H' → CE outer P w H s Q u s' :=
    fun {σ' H' v u} J rv q => ⟨v, H', J.os, J.bare, J.base, J.hok, rv, q⟩
  cases fl with
  | ret u =>
    obtain ⟨v, σ', H', J, rv, q⟩ := hs
    exact fin J rv q
  | next =>
    obtain ⟨σ', H', J, q⟩ := hs
    exact fin (v := V.non) (u := Value.none) J rfl q
  | brk =>
    obtain ⟨_, _, _, q⟩ := hs
    exact False.elim q
  | cont =>
    obtain ⟨_, _, _, q⟩ := hs
    exact False.elim q
end L2

namespace L2
open PySem PySem.Spec PyProof.Rows
section
variable {X : Cx} {x : Str} {p pos : Pos} {e : Expr} {es : List Expr} {t : TA} {id T : String} {r : List V → Hp → VK → Prop}

def tCB (r : List V → Hp → VK → Prop) (t : TA) : TE := fun σ H Q => t σ H fun vs H1 => r vs H1 Q
/-- f(e, ..), f a built-in function -/
theorem pe_callB (hc : CallR X (.builtin id) r) (hg : Gl X x) (hm : X.mg x = none) (hv : bootBuiltins x = some (.builtin id)) (ha : PA X (e :: es) t) (hn : x ≠ "__name__" := by decide) (hdb : (x == ("__debug__" : Str)) = false := by decide)
    (he : starEach (e :: es) X.env = (false, eval e X.env) :: starEach es X.env := by rfl) (hpl : (backTo pos (starEach es X.env)).any (·.1) = false := by rfl) : PE X (.Call (.Name x p) (e :: es) [] pos) (tCB r t) := by
  intro pins s σ H Q I h
  refine wpAny_Call_Name_kw (ld_blt I hg hm hv ?_ hn hdb)
  exact PyProof.Rows.callWith_builtin1 (thn (ha pos pins s σ H _ I h) fun us s1 ⟨vs, H1, I1, r1, q1⟩ => hc pins s1 σ H1 vs us Q I1 r1 q1) he hpl
/-- T(e, ..), T a built-in type -/
theorem pe_callTy (hc : CallR X (.type T) r) (hg : Gl X x) (hm : X.mg x = none) (hv : bootBuiltins x = some (.type T)) (ha : PA X (e :: es) t) (hn : x ≠ "__name__" := by decide) (hdb : (x == ("__debug__" : Str)) = false := by decide)
    (he : starEach (e :: es) X.env = (false, eval e X.env) :: starEach es X.env := by rfl) (hpl : (backTo pos (starEach es X.env)).any (·.1) = false := by rfl) : PE X (.Call (.Name x p) (e :: es) [] pos) (tCB r t) := by
  intro pins s σ H Q I h
  refine wpAny_Call_Name_kw (ld_blt I hg hm hv ?_ hn hdb)
  exact PyProof.Rows.callWith_type1 (thn (ha pos pins s σ H _ I h) fun us s1 ⟨vs, H1, I1, r1, q1⟩ => hc pins s1 σ H1 vs us Q I1 r1 q1) he hpl
end
end L2

namespace HT
open PySem PyProof.Rows

section
open PySem.SeqAt
open PySem.AutoSeq1 (wpAny_loadPart')
open PySem.MeetsSeq PySem.MeetsSeq2 PySem.MeetsSeq3

end

section
variable {prog : Program} {w : World} {A : Around} {E : Value → Shared → Prop} {s : Shared}

/-! ### t[a:b], not the whole -/
/-- a slice's bound as a place among n (d where it is left out) -/
def sIx (n d : Nat) : Option Int → Nat
  | none => d
  | some v => if v < 0 then (v + (n : Int)).toNat else min v.toNat n
end
end HT

namespace L2
open PySem PySem.Spec PyProof.Rows

/-! ### the parts of a slice -/
abbrev TO := St → Hp → (Option Int → Hp → Prop) → Prop
/-- a slice's part (left out, or an int) -/
def PO (X : Cx) (e : Option Expr) (t : TO) : Prop :=
  ∀ (pins : List (Addr × Obj)) (s : Shared) (σ : St) (H : Hp) (Q : Option Int → Hp → Prop), Inv X pins σ H s → t σ H Q →
    wpAny (model X.prog X.w) X.A (evalPart e X.env) (fun u s' => ∃ o H', Inv X pins σ H' s' ∧ IsPart u o ∧ Q o H') X.xe s
def tNoPart : TO := fun _ H Q => Q none H
def tPart (t : TE) : TO := fun σ H Q => t σ H fun x H1 => ∃ i, x = .int i ∧ Q (some i) H1

section
variable {X : Cx} {e : Expr} {te : TE} {lo hi : Option Expr} {tl th : TO} {pos p2 : Pos}

theorem po_none : PO X none tNoPart := by
  intro pins s σ H Q I h
  rw [evalPart_none]
  exact wpAny_pure ⟨none, H, I, .none, h⟩
theorem po_some (h : PE X e te) : PO X (some e) (tPart te) := by
  intro pins s σ H Q I hw
  rw [evalPart_some]
  refine thn (h pins s σ H _ I hw) fun u s1 ⟨x, H1, I1, r1, q1⟩ => ?_
  obtain ⟨i, rfl, q⟩ := q1
  obtain ⟨t, rfl⟩ := r1
  exact ⟨some i, H1, I1, .int i t, q⟩

/-- what a slice of a value is, by values: the slice object stands at sl -/
def SlR (X : Cx) (r : V → Option Int → Option Int → Hp → VK → Prop) : Prop :=
  ∀ (pins : List (Addr × Obj)) (s : Shared) (σ : St) (H : Hp) (x : V) (v vl vu : Value) (lo hi : Option Int) (sl : Addr) (Q : VK), Inv X pins σ H s → RelV x v → s.heap.IsSliceOf sl vl vu .none → IsPart vl lo → IsPart vu hi → r x lo hi H Q →
    ∃ T id, typeLookup (.type T) "__getitem__" = pure (some (.builtin id)) ∧ s.TypeIs v T ∧ wpAny (model X.prog X.w) X.A (getItem v (.ref sl)) (EP X pins σ Q) X.xe s
theorem SlR.or {r r' : V → Option Int → Option Int → Hp → VK → Prop} (h : SlR X r) (h' : SlR X r') : SlR X (fun x lo hi H Q => r x lo hi H Q ∨ r' x lo hi H Q) := by
  intro pins s σ H x v vl vu lo hi sl Q I rx hs pl pu q
  rcases q with q | q
  · exact h pins s σ H x v vl vu lo hi sl Q I rx hs pl pu q
  · exact h' pins s σ H x v vl vu lo hi sl Q I rx hs pl pu q
def tSl (r : V → Option Int → Option Int → Hp → VK → Prop) (te : TE) (tl th : TO) : TE := fun σ H Q => te σ H fun x H1 => tl σ H1 fun l H2 => th σ H2 fun u H3 => r x l u H3 Q
/-- a[lo:hi], any a -/
theorem pe_slice {r : V → Option Int → Option Int → Hp → VK → Prop} (hr : SlR X r) (he : PE X e te) (hl : PO X lo tl) (hu : PO X hi th) : PE X (.Subscript e (.Slice lo hi none p2) pos) (tSl r te tl th) := by
  intro pins s σ H Q I h
  refine Subscript_ (thn (he pins s σ H _ I h) fun v s1 ⟨x, H1, I1, r1, q1⟩ => ?_)
  refine wpAny_Slice (thn (hl pins s1 σ H1 _ I1 q1) fun vl s2 ⟨l, H2, I2, pl, q2⟩ => thn (hu pins s2 σ H2 _ I2 q2) fun vu s3 ⟨u, H3, I3, pu, q3⟩ => ?_)
  rw [evalPart_none]
  refine wpAny_pure ?_
  have I4 : Inv X pins σ H3 { s3 with heap := s3.heap.push { cls := .type "slice", data := .fields #[vl, vu, .none] } } := I3.kept (t' := s3.toks) fun b ob q => Heap.get?_push_of_some _ q
  obtain ⟨T, id, hT, ht, hg⟩ := hr pins { s3 with heap := s3.heap.push { cls := .type "slice", data := .fields #[vl, vu, .none] } } σ H3 x v vl vu l u s3.heap.objs.size Q I4 r1 (Heap.IsSliceOf.new ..) pl pu q3
  show wpAny (model X.prog X.w) X.A (subscriptTail e (.Slice lo hi none p2) v (.ref s3.heap.objs.size)) (EP X pins σ Q) X.xe { s3 with heap := s3.heap.push { cls := .type "slice", data := .fields #[vl, vu, .none] } }
  exact tail_any (ops := [.ref s3.heap.objs.size, v]) ht hT hg (by with_unfolding_all rfl)

/-- the items of xs[lo:hi] -/
def cutV (xs : List V) (lo hi : Option Int) : List V := (xs.drop (HT.sIx xs.length 0 lo)).take (HT.sIx xs.length xs.length hi - HT.sIx xs.length 0 lo)
theorem cutV_length (xs : List V) (lo hi : Option Int) : (cutV xs lo hi).length ≤ xs.length := by
  unfold cutV
  rw [List.length_take, List.length_drop]
  omega
/-! ### t < u, t + u -/
end
end L2

namespace L2
open PySem PySem.Spec PyProof.Rows

/-! ### places -/
/-- the place that an index of any sign means -/
def ixN (n : Nat) (i : Int) : Option Nat := if 0 ≤ i then (if i < n then some i.toNat else none) else if -(n : Int) ≤ i then some (i + n).toNat else none
def atI {α : Type} (xs : List α) (i : Int) : Option α := (ixN xs.length i).bind fun j => xs[j]?
theorem ixN_seq {n : Nat} {i : Int} {j : Nat} (h : ixN n i = some j) : seqIndex? i n = some j ∧ j < n ∧ -(n : Int) ≤ i ∧ i < n := by
  unfold ixN at h
  by_cases h0 : 0 ≤ i
  · rw [if_pos h0] at h
    by_cases h1 : i < n
    · rw [if_pos h1] at h
      have e : i.toNat = j := Option.some.inj h
      exact ⟨by rw [seqIndex_of h0 h1, e], by omega, by omega, h1⟩
    · rw [if_neg h1] at h; cases h
  · rw [if_neg h0] at h
    by_cases h1 : -(n : Int) ≤ i
    · rw [if_pos h1] at h
      have e : (i + n).toNat = j := Option.some.inj h
      exact ⟨by rw [seqIndex_neg (by omega) h1, e], by omega, h1, by omega⟩
    · rw [if_neg h1] at h; cases h
theorem atI_get {α : Type} {xs : List α} {i : Int} {v : α} (h : atI xs i = some v) : ∃ j, seqIndex? i xs.length = some j ∧ xs[j]? = some v ∧ j < xs.length ∧ -(xs.length : Int) ≤ i ∧ i < xs.length := by
  unfold atI at h
  cases e : ixN xs.length i with
  | none => rw [e] at h; cases h
  | some j =>
    rw [e] at h
    obtain ⟨h1, h2, h3, h4⟩ := ixN_seq e
    exact ⟨j, h1, h, h2, h3, h4⟩
theorem atI_nat {α : Type} {xs : List α} {j : Nat} {v : α} (h : xs[j]? = some v) : atI xs (j : Int) = some v := by
  have hj : j < xs.length := (List.getElem?_eq_some_iff.mp h).1
  have e : ixN xs.length (j : Int) = some j := by
    unfold ixN
    rw [if_pos (by omega), if_pos (by omega)]; simp
  unfold atI; rw [e]; exact h
/-! ### what may be subscripted -/
/-- what stands as an index of a plain subscript -/
def PlainIx (b : Expr) : Prop := ∀ o i, subscripted b false o i = operate [o, i] (getItem o i)
/-- a subscript by values -/
def IxR (X : Cx) (r : R2) : Prop :=
  ∀ (value slice : Expr) (pins : List (Addr × Obj)) (s : Shared) (σ : St) (H : Hp) (x y : V) (v u : Value) (Q : VK), Inv X pins σ H s → RelV x v → RelV y u → r x y H Q →
    subscripted slice false v u = operate [v, u] (getItem v u) → wpAny (model X.prog X.w) X.A (subscriptTail value slice v u) (EP X pins σ Q) X.xe s
/-- a call of a builtin's method by values: the receiver, the arguments -/
def MtR (X : Cx) (id : String) (r : V → List V → Hp → VK → Prop) : Prop :=
  ∀ (pins : List (Addr × Obj)) (s : Shared) (σ : St) (H : Hp) (x : V) (xs : List V) (v : Value) (us : List Value) (Q : VK), Inv X pins σ H s → RelV x v → Vals xs us → r x xs H Q →
    wpAny (model X.prog X.w) X.A (call (.builtin id) (v :: us)) (EP X pins σ Q) X.xe s
section
variable {X : Cx} {a b : Expr} {ta tb : TE} {pos : Pos}
theorem IxR.or {r r' : R2} (h : IxR X r) (h' : IxR X r') : IxR X (fun x y H Q => r x y H Q ∨ r' x y H Q) := by
  intro value slice pins s σ H x y v u Q I rx ry q hs
  rcases q with q | q
  · exact h value slice pins s σ H x y v u Q I rx ry q hs
  · exact h' value slice pins s σ H x y v u Q I rx ry q hs
theorem MtR.or {id : String} {r r' : V → List V → Hp → VK → Prop} (h : MtR X id r) (h' : MtR X id r') : MtR X id (fun x xs H Q => r x xs H Q ∨ r' x xs H Q) := by
  intro pins s σ H x xs v us Q I rx rs q
  rcases q with q | q
  · exact h pins s σ H x xs v us Q I rx rs q
  · exact h' pins s σ H x xs v us Q I rx rs q
/-- a[b] -/
theorem pe_ix {r : R2} (hr : IxR X r) (ha : PE X a ta) (hb : PE X b tb) (hs : PlainIx b) : PE X (.Subscript a b pos) (tOp r ta tb) := by
  intro pins s σ H Q I h
  exact Subscript_ (binT ha hb I h fun v u s2 x y H2 I2 rx ry q => hr a b pins s2 σ H2 x y v u Q I2 rx ry q (hs _ _))

def rIxL (K : PySem.W.Frag) : R2 := fun x y H Q => ∃ p xs i v, x = .ref p ∧ y = .int i ∧ SqL K H p xs ∧ atI xs i = some v ∧ Q v H
def rIxT (K : PySem.W.Frag) : R2 := fun x y H Q => ∃ p xs i v, x = .ref p ∧ y = .int i ∧ SqT K H p xs ∧ atI xs i = some v ∧ Q v H
def rIxS : R2 := fun x y H Q => ∃ z i c, x = .str z ∧ y = .int i ∧ z.length ≤ sizeLine ∧ atI z.cps.toList i = some c ∧ Q (.str ⟨#[c]⟩) H
theorem ix_list : IxR X (rIxL X.K) := by
  intro value slice pins s σ H x y v u Q I rx ry h hs
  obtain ⟨p, xs, i, z, rfl, rfl, hq, he, q⟩ := h
  cases rx
  obtain ⟨t, rfl⟩ := ry
  obtain ⟨its, r, pl, hz⟩ := I.list hq
  obtain ⟨j, h1, h2, h3, h4, h5⟩ := atI_get he
  obtain ⟨w, ew, rw'⟩ := r.get h2
  have hl := r.length
  have hn := line63
  have fin : EP X pins σ Q w s := ⟨z, H, I, rw', q⟩
  by_cases h0 : 0 ≤ i
  · have hj : i.toNat = j := by
      rw [seqIndex_of h0 h5] at h1
      exact Option.some.inj h1
    exact item_listR pl.isList h0 (by omega) (by rw [hj]; simpa using ew) fin hs
  · have hj : (i + (its.toArray.size : Int)).toNat = j := by
      rw [seqIndex_neg (by omega) h4] at h1
      rw [List.size_toArray, ← hl]
      exact Option.some.inj h1
    exact subscriptTail_builtinR (x := w) pl.isList.typeIs slot_list_getitem.lookup
      (wpAny_getItem_list_neg (Q := fun r s' => r = w ∧ EP X pins σ Q r s') pl.isList (by omega) (by rw [List.size_toArray] <;> omega) (by omega) (by rw [hj]; simpa using ew) ⟨rfl, fin⟩) hs
theorem ix_tup : IxR X (rIxT X.K) := by
  intro value slice pins s σ H x y v u Q I rx ry h hs
  obtain ⟨p, xs, i, z, rfl, rfl, hq, he, q⟩ := h
  cases rx
  obtain ⟨t, rfl⟩ := ry
  obtain ⟨its, r, pl, hz⟩ := I.tuple hq
  obtain ⟨j, h1, h2, h3, h4, h5⟩ := atI_get he
  obtain ⟨w, ew, rw'⟩ := r.get h2
  have hl := r.length
  have hn := line63
  have fin : EP X pins σ Q w s := ⟨z, H, I, rw', q⟩
  exact subscriptTail_builtinR (x := w) pl.typeIs slot_tuple_getitem.lookup
    (getItem_tuple (j := j) (Q := fun r s' => r = w ∧ EP X pins σ Q r s') pl (by omega) (by omega) (by rw [List.size_toArray, ← hl]; exact h1) (by simpa using ew) ⟨rfl, fin⟩) hs
theorem ix_str : IxR X rIxS := by
  intro value slice pins s σ H x y v u Q I rx ry h hs
  obtain ⟨z, i, c, rfl, rfl, hz, he, q⟩ := h
  obtain ⟨t, rfl⟩ := rx
  obtain ⟨t', rfl⟩ := ry
  obtain ⟨j, h1, h2, h3, h4, h5⟩ := atI_get he
  have hl : z.cps.toList.length = z.length := by simp [Str.length]
  rw [hl] at h1 h4 h5
  have hn := line63
  exact tail_any (typeIs_str s z t) slot_str_getitem.lookup (getItem_str (c := c) (by
    have e1 : decide (i < -(2 ^ 63 : Int)) = false := decide_eq_false (by omega)
    have e2 : decide (i ≥ 2 ^ 63) = false := decide_eq_false (by omega)
    rw [e1, e2, Bool.or_false]) (by rw [h1]; simpa using h2) ⟨.str ⟨#[c]⟩, H, I.tok _, ⟨_, rfl⟩, q⟩) hs
/-- list, tuple or str -/
def rIx (K : PySem.W.Frag) : R2 := fun x y H Q => rIxL K x y H Q ∨ rIxT K x y H Q ∨ rIxS x y H Q
theorem ix_seq : IxR X (rIx X.K) := ix_list.or (ix_tup.or ix_str)

/-! ### xs[i] = v, any sign -/
/-- the list's object behind a store -/
theorem mapSeq_set (its : List Value) (n j : Nat) (u : Value) : Obj.mapSeq (·.setIfInBounds j u) { cls := .type "list", data := .seq its.toArray n } = { cls := .type "list", data := .seq (its.set j u).toArray n } := by
  simp [Obj.mapSeq]
theorem Inv.lst {pins : List (Addr × Obj)} {σ : St} {H : Hp} {s : Shared} {p : Addr} {xs : List V} (I : Inv X pins σ H s) (h : H p = some (.lst xs)) :
    ∃ (its : List Value) (n : Nat), Vals xs its ∧ s.heap.get? p = some { cls := .type "list", data := .seq its.toArray n } ∧ xs.length ≤ sizeLine := by
  obtain ⟨z, its, n, r, e⟩ := I.hok p _ h
  exact ⟨its, n, r, e, z⟩
/-- the list at p is written by an update of its object -/
theorem Inv.lstUpd {pins : List (Addr × Obj)} {σ : St} {H : Hp} {s : Shared} {p : Addr} {xs ys : List V} {its its' : List Value} {n n' : Nat} {f : Obj → Obj} (I : Inv X pins σ H s) (h : H p = some (.lst xs))
    (ho : s.heap.get? p = some { cls := .type "list", data := .seq its.toArray n }) (hf : f { cls := .type "list", data := .seq its.toArray n } = { cls := .type "list", data := .seq its'.toArray n' }) (r : Vals ys its') (hz : ys.length ≤ sizeLine) (t : Nat) :
    Inv X pins σ (upd H p (.lst ys)) { s with heap := s.heap.update p f, toks := t } := by
  have e : (s.heap.update p f).get? p = some { cls := .type "list", data := .seq its'.toArray n' } := by
    rw [Heap.get?_update_self f ho (by rw [hf] <;> rfl), hf]
  refine I.write (x := p) (e := p) (by rw [h]; trivial) (.inl rfl) (fun b u hb q => (Heap.get?_update_other _ _ (Ne.symm hb)).trans q) ⟨_, e⟩ ?_
  exact ⟨hz, its', n', r, e⟩
def rSetL : V → V → V → Hp → (Hp → Prop) → Prop := fun o i v H Q => ∃ p xs k j, o = .ref p ∧ i = .int k ∧ H p = some (.lst xs) ∧ ixN xs.length k = some j ∧ Q (upd H p (.lst (xs.set j v)))
theorem set_list : PSet X rSetL := by
  intro pins s σ H o i v ov iv u Q I ro ri rv h
  obtain ⟨p, xs, k, j, rfl, rfl, hp, hj, q⟩ := h
  cases ro
  obtain ⟨t, rfl⟩ := ri
  obtain ⟨its, n, r, ho, hz⟩ := I.lst hp
  obtain ⟨h1, h2, h3, h4⟩ := ixN_seq hj
  have hl := r.length
  have hn := line63
  have I' : Inv X pins σ (upd H p (.lst (xs.set j v))) { s with heap := s.heap.update p (Obj.mapSeq (·.setIfInBounds j u)) } :=
    I.lstUpd hp ho (mapSeq_set its n j u) (r.set rv j) (by rw [List.length_set]; exact hz) s.toks
  by_cases h0 : 0 ≤ k
  · have hk : k.toNat = j := by
      rw [seqIndex_of h0 h4] at h1
      exact Option.some.inj h1
    exact PySem.W.ki_setAt ho h0 (by omega) (by rw [List.size_toArray, ← hl]; exact h4) (by rw [hk]; exact ⟨_, I', q⟩)
  · have hk : (k + (its.toArray.size : Int)).toNat = j := by
      rw [seqIndex_neg (by omega) h3] at h1
      rw [List.size_toArray, ← hl]
      exact Option.some.inj h1
    exact PySem.W.ki_setBack ho (by omega) (by rw [List.size_toArray, ← hl]; exact h3) (by omega) (by rw [hk]; exact ⟨_, I', q⟩)

/-! ### slices -/
theorem slice_bounds (lo hi : Option Int) (n : Nat) : (sliceBounds lo hi none n).1 = ((HT.sIx n 0 lo : Nat) : Int) ∧ (sliceBounds lo hi none n).2.1 = ((HT.sIx n n hi : Nat) : Int) ∧ (sliceBounds lo hi none n).2.2 = 1 := by
  refine ⟨?_, ?_, rfl⟩
  · cases lo with
    | none => simp [sliceBounds, HT.sIx]
    | some i =>
      simp only [sliceBounds, HT.sIx, Option.getD_none, show (1 : Int) > 0 by decide, if_true]
      by_cases h : i < 0
      · simp only [h, if_true] <;> omega
      · simp only [h, if_false] <;> omega
  · cases hi with
    | none => simp [sliceBounds, HT.sIx]
    | some i =>
      simp only [sliceBounds, HT.sIx, Option.getD_none, show (1 : Int) > 0 by decide, if_true]
      by_cases h : i < 0
      · simp only [h, if_true] <;> omega
      · simp only [h, if_false] <;> omega
theorem slicePick_cut (its : List Value) (lo hi : Option Int) : slicePick its.toArray lo hi none = ((its.drop (HT.sIx its.length 0 lo)).take (HT.sIx its.length its.length hi - HT.sIx its.length 0 lo)).toArray := by
  obtain ⟨h1, h2, h3⟩ := slice_bounds lo hi its.toArray.size
  unfold slicePick
  rw [h1, h2, h3]
  simp only [sliceRange_one, pick_run, List.size_toArray] <;> rfl
/-- xs[lo:hi] of a list: a new list -/
def rSlL (K : PySem.W.Frag) : V → Option Int → Option Int → Hp → VK → Prop := fun x lo hi H Q => ∃ a xs, x = .ref a ∧ SqL K H a xs ∧ ∀ p, H p = none → Q (.ref p) (upd H p (.lst (cutV xs lo hi)))
theorem sl_list : SlR X (rSlL X.K) := by
  intro pins s σ H x v vl vu lo hi sl Q I rx hs pl pu h
  obtain ⟨a, xs, rfl, hx, q⟩ := h
  cases rx
  obtain ⟨its, r, ht, hz⟩ := I.list hx
  have hlen := r.length
  refine ⟨"list", _, slot_list_getitem.lookup, ht.isList.typeIs, ?_⟩
  refine wpAny_getItem_list_slice ht.isList hs pl pu .none (by simp) ?_ (by rw [List.size_toArray] <;> omega)
  rw [slicePick_cut, ← hlen]
  refine ⟨.ref s.heap.objs.size, _, I.laid (t' := s.toks) (o := .lst (cutV xs lo hi)) (fun b ob q => Heap.get?_push_of_some _ q) (Nat.le_refl _) ?_, rfl, q _ (I.hok.fresh (Nat.le_refl _))⟩
  exact ⟨Nat.le_trans (cutV_length xs lo hi) hz, _, 0, (r.drop (HT.sIx xs.length 0 lo)).take (HT.sIx xs.length xs.length hi - HT.sIx xs.length 0 lo), Heap.get?_push_size _ rfl⟩

/-! ### in, not in: flat items -/
def flatV : V → Bool
  | .non => true
  | .bl _ => true
  | .int _ => true
  | .str _ => true
  | _ => false
/-- == of flat values -/
def eqV : V → V → Bool
  | .non, .non => true
  | .bl a, .bl b => a == b
  | .bl a, .int b => (if a then 1 else 0) == b
  | .int a, .bl b => a == (if b then 1 else 0)
  | .int a, .int b => a == b
  | .str a, .str b => a == b
  | _, _ => false
theorem eqAt_V {A : Around} {s : Shared} {y x : V} {u v : Value} (ry : RelV y u) (rx : RelV x v) (fy : flatV y = true) (fx : flatV x = true) : SeqAt.EqAt A s u v (eqV y x) := by
  cases y with
  | non =>
    cases ry
    cases x with
    | non => cases rx; exact SeqAt.EqAt.same _
    | bl b => cases rx; exact SeqAt.EqAt.none_bool b
    | int b => obtain ⟨t, rfl⟩ := rx; exact SeqAt.EqAt.none_int b t
    | str b => obtain ⟨t, rfl⟩ := rx; exact SeqAt.EqAt.none_str b t
    | _ => exact absurd (show false = true from fx) Bool.false_ne_true
  | bl a =>
    cases ry
    cases x with
    | non => cases rx; exact SeqAt.EqAt.bool_none a
    | bl b => cases rx; exact SeqAt.EqAt.bool_bool a b
    | int b => obtain ⟨t, rfl⟩ := rx; exact SeqAt.EqAt.bool_int a b t
    | str b => obtain ⟨t, rfl⟩ := rx; exact SeqAt.EqAt.bool_str a b t
    | _ => exact absurd (show false = true from fx) Bool.false_ne_true
  | int a =>
    obtain ⟨t', rfl⟩ := ry
    cases x with
    | non => cases rx; exact SeqAt.EqAt.int_none a t'
    | bl b => cases rx; exact SeqAt.EqAt.int_bool a t' b
    | int b => obtain ⟨t, rfl⟩ := rx; exact SeqAt.EqAt.int_int a t' b t
    | str b => obtain ⟨t, rfl⟩ := rx; exact SeqAt.EqAt.int_str a t' b t
    | _ => exact absurd (show false = true from fx) Bool.false_ne_true
  | str a =>
    obtain ⟨t', rfl⟩ := ry
    cases x with
    | non => cases rx; exact SeqAt.EqAt.str_none a t'
    | bl b => cases rx; exact SeqAt.EqAt.str_bool a t' b
    | int b => obtain ⟨t, rfl⟩ := rx; exact SeqAt.EqAt.str_int a t' b t
    | str b => obtain ⟨t, rfl⟩ := rx; exact SeqAt.EqAt.str_str a t' b t
    | _ => exact absurd (show false = true from fx) Bool.false_ne_true
  | _ => exact absurd (show false = true from fy) Bool.false_ne_true
/-- the items' answers, read off the values (a value's own answer does not lean on its token) -/
def eqU (x : V) (u : Value) : Bool := match u with
  | .none => eqV .non x
  | .bool b => eqV (.bl b) x
  | .int i _ => eqV (.int i) x
  | .str z _ => eqV (.str z) x
  | _ => false
theorem eqU_of {x y : V} {u : Value} (r : RelV y u) (f : flatV y = true) : eqU x u = eqV y x := by
  cases y with
  | non => cases r; rfl
  | bl b => cases r; rfl
  | int i => obtain ⟨t, rfl⟩ := r; rfl
  | str z => obtain ⟨t, rfl⟩ := r; rfl
  | _ => exact absurd (show false = true from f) Bool.false_ne_true
theorem any_eqU {x : V} : ∀ {xs : List V} {us : List Value}, Vals xs us → xs.all flatV = true → us.any (eqU x) = xs.any fun y => eqV y x
  | _, _, .nil, _ => rfl
  | y :: xs, u :: us, .cons r t, f => by
    rw [List.all_cons, Bool.and_eq_true] at f
    rw [List.any_cons, List.any_cons, eqU_of r f.1, any_eqU t f.2]
theorem mem_eqAt {A : Around} {s : Shared} {x : V} {v : Value} (rx : RelV x v) (fx : flatV x = true) : ∀ {xs : List V} {us : List Value}, Vals xs us → xs.all flatV = true → ∀ u ∈ us, SeqAt.EqAt A s u v (eqU x u)
  | _, _, .nil, _ => fun u hu => by cases hu
  | y :: xs, u :: us, .cons r t, f => fun u' hu => by
    rw [List.all_cons, Bool.and_eq_true] at f
    rcases List.mem_cons.mp hu with rfl | hu
    · rw [eqU_of r f.1]; exact eqAt_V r rx f.1 fx
    · exact mem_eqAt rx fx t f.2 u' hu
def inV (x : V) (xs : List V) : Bool := xs.any fun y => eqV y x
/-- x in a list or tuple of flat items -/
def rIn (K : PySem.W.Frag) (neg : Bool) : R2 := fun x y H Q => ∃ p xs, y = .ref p ∧ (SqL K H p xs ∨ SqT K H p xs) ∧ flatV x = true ∧ xs.all flatV = true ∧ Q (.bl (if neg then !inV x xs else inV x xs)) H
theorem op_in_seq : OpR X (compareOp .In) (rIn X.K false) := by
  intro pins s σ H x y v u Q I rx ry h
  obtain ⟨p, xs, rfl, hq, fx, fs, q⟩ := h
  cases ry
  rcases hq with hq | hq
  · obtain ⟨its, r, pl, hz⟩ := I.list hq
    refine SeqAt.in_listAt (eqU x) pl.isList (fun w hw => mem_eqAt rx fx r fs w (by simpa using hw)) ⟨.bl _, H, I, rfl, ?_⟩
    rw [show its.toArray.any (eqU x) = its.any (eqU x) by simp, any_eqU r fs]
    exact q
  · obtain ⟨its, r, pl, hz⟩ := I.tuple hq
    refine SeqAt.in_tupleAt (eqU x) pl (fun w hw => mem_eqAt rx fx r fs w (by simpa using hw)) ⟨.bl _, H, I, rfl, ?_⟩
    rw [show its.toArray.any (eqU x) = its.any (eqU x) by simp, any_eqU r fs]
    exact q
theorem op_notIn_seq : OpR X (compareOp .NotIn) (rIn X.K true) := by
  intro pins s σ H x y v u Q I rx ry h
  obtain ⟨p, xs, rfl, hq, fx, fs, q⟩ := h
  cases ry
  rcases hq with hq | hq
  · obtain ⟨its, r, pl, hz⟩ := I.list hq
    refine SeqAt.notIn_listAt (eqU x) pl.isList (fun w hw => mem_eqAt rx fx r fs w (by simpa using hw)) ⟨.bl _, H, I, rfl, ?_⟩
    rw [show its.toArray.any (eqU x) = its.any (eqU x) by simp, any_eqU r fs]
    exact q
  · obtain ⟨its, r, pl, hz⟩ := I.tuple hq
    refine SeqAt.notIn_tupleAt (eqU x) pl (fun w hw => mem_eqAt rx fx r fs w (by simpa using hw)) ⟨.bl _, H, I, rfl, ?_⟩
    rw [show its.toArray.any (eqU x) = its.any (eqU x) by simp, any_eqU r fs]
    exact q
/-! ### len, list(x), tuple(x) of any list or tuple that is read -/
theorem call_len_seq : CallR X (.builtin "len") (fun xs H Q => ∃ p ys, xs = [.ref p] ∧ (SqL X.K H p ys ∨ SqT X.K H p ys) ∧ Q (.int ys.length) H) := by
  intro pins s σ H xs us Q I r h
  obtain ⟨p, ys, rfl, hq, q⟩ := h
  obtain ⟨u, rfl, rx⟩ := vals1 r
  cases rx
  have hn := line63
  rcases hq with hq | hq
  · obtain ⟨its, r', pl, hz⟩ := I.list hq
    have hlen := r'.length
    exact Calls.call_len_list pl.isList (by simp only [List.size_toArray] <;> omega) ⟨.int ys.length, H, I.tok _, ⟨s.toks + 1, by rw [List.size_toArray, hlen]⟩, q⟩
  · obtain ⟨its, r', pl, hz⟩ := I.tuple hq
    have hlen := r'.length
    exact len_tuple pl (by simp only [List.size_toArray] <;> omega) ⟨.int ys.length, H, I.tok _, ⟨s.toks + 1, by rw [List.size_toArray, hlen]⟩, q⟩
theorem CallR.or {f : Value} {r r' : List V → Hp → VK → Prop} (h : CallR X f r) (h' : CallR X f r') : CallR X f (fun xs H Q => r xs H Q ∨ r' xs H Q) := by
  intro pins s σ H xs us Q I rs q
  rcases q with q | q
  · exact h pins s σ H xs us Q I rs q
  · exact h' pins s σ H xs us Q I rs q
theorem call_list_of : CallR X (.type "list") (fun xs H Q => ∃ p ys, xs = [.ref p] ∧ (SqL X.K H p ys ∨ SqT X.K H p ys) ∧ ∀ l, H l = none → Q (.ref l) (upd H l (.lst ys))) := by
  intro pins s σ H xs us Q I r h
  obtain ⟨p, ys, rfl, hq, q⟩ := h
  obtain ⟨u, rfl, rx⟩ := vals1 r
  cases rx
  have fin : ∀ (its : List Value), Vals ys its → ys.length ≤ sizeLine → ∀ (h' : Heap) (c' : Nat), (∀ b o', s.heap.get? b = some o' → h'.get? b = some o') →
      h'.get? s.heap.objs.size = some { cls := .type "list", dict := none, data := .seq its.toArray c', slots := #[] } → EP X pins σ Q (.ref s.heap.objs.size) { s with heap := h' } := fun its r' hz h' c' kp e =>
    ⟨.ref s.heap.objs.size, _, I.laid (t' := s.toks) kp (Nat.le_refl _) (show ObjOk X.prog X.w _ h' _ (.lst ys) from ⟨hz, its, c', r', e⟩), rfl, q _ (I.hok.fresh (Nat.le_refl _))⟩
  rcases hq with hq | hq
  · obtain ⟨its, r', pl, hz⟩ := I.list hq
    have hlen := r'.length
    obtain ⟨o, ho, hc, n, hd⟩ := pl.isList
    exact call_list_seq p (.inl rfl) ho hc hd (fun h' c' kp e => fin its r' hz h' c' kp e) (by simp only [List.size_toArray] <;> omega)
  · obtain ⟨its, r', pl, hz⟩ := I.tuple hq
    have hlen := r'.length
    obtain ⟨o, ho, hc, n, hd⟩ := pl
    exact call_list_seq p (.inr rfl) ho hc hd (fun h' c' kp e => fin its r' hz h' c' kp e) (by simp only [List.size_toArray] <;> omega)
/-! ### the call of a builtin's method: o.m(..) -/
/-- the value is of that builtin type -/
def tyV (K : PySem.W.Frag) (T : String) (x : V) (H : Hp) : Prop := match x with
  | .str _ => T = "str"
  | .int _ => T = "int"
  | .ref p => (T = "list" ∧ ∃ xs, SqL K H p xs) ∨ (T = "tuple" ∧ ∃ o, K.lookup p = some o ∧ o.cls = .type "tuple" ∧ o.dict = none) ∨
      (T = "dict" ∧ ((∃ kvs, H p = some (.dK kvs)) ∨ ∃ kvs, H p = some (.dT kvs))) ∨ (T = "set" ∧ ∃ S n, H p = some (.set S n))
  | _ => False
theorem tyV_is {pins : List (Addr × Obj)} {σ : St} {H : Hp} {s : Shared} {T : String} {x : V} {v : Value} (I : Inv X pins σ H s) (r : RelV x v) (ty : tyV X.K T x H) :
    s.TypeIs v T ∧ ∀ a, v = .ref a → ∃ ob, s.heap.get? a = some ob ∧ ob.dict = none := by
  cases x with
  | str z =>
    obtain ⟨t, rfl⟩ := r
    cases (show T = "str" from ty)
    exact ⟨typeIs_str s z t, fun _ e => nomatch e⟩
  | int i =>
    obtain ⟨t, rfl⟩ := r
    cases (show T = "int" from ty)
    exact ⟨typeIs_int s i t, fun _ e => nomatch e⟩
  | ref p =>
    cases r
    rcases ty with ⟨rfl, xs, hq⟩ | ⟨rfl, o, hk, hc, hd⟩ | ⟨rfl, hk⟩ | ⟨rfl, S, n, hk⟩
    · obtain ⟨its, _, pl, _⟩ := I.list hq
      refine ⟨pl.isList.typeIs, fun a e => ?_⟩
      cases e
      obtain ⟨o, n, e, c, hd, _⟩ := pl
      exact ⟨o, e, hd⟩
    · refine ⟨⟨o, I.kIn p o hk, hc⟩, fun a e => ?_⟩
      cases e
      exact ⟨o, I.kIn _ o hk, hd⟩
    · have z : ∃ o, s.heap.get? p = some o ∧ o.ExactDict := by
        rcases hk with ⟨kvs, hk⟩ | ⟨kvs, hk⟩
        · obtain ⟨_, _, _, _, o, _, _, e, ex, _⟩ := I.hok p _ hk
          exact ⟨o, e, ex⟩
        · obtain ⟨_, _, _, _, o, _, _, e, ex, _⟩ := I.hok p _ hk
          exact ⟨o, e, ex⟩
      obtain ⟨o, e, ex⟩ := z
      refine ⟨⟨o, e, ex.1⟩, fun a e2 => ?_⟩
      cases e2
      exact ⟨o, e, ex.2.1⟩
    · obtain ⟨o, _, _, _, e, ex, _⟩ := I.hok p _ hk
      refine ⟨⟨o, e, ex.1⟩, fun a e2 => ?_⟩
      cases e2
      exact ⟨o, e, ex.2.1⟩
  | _ => exact False.elim ty
def tBM0 (K : PySem.W.Frag) (T : String) (r : V → List V → Hp → VK → Prop) (to : TE) : TE := fun σ H Q => to σ H fun x H1 => tyV K T x H1 ∧ r x [] H1 Q
def tBM (K : PySem.W.Frag) (T : String) (r : V → List V → Hp → VK → Prop) (to : TE) (t : TA) : TE := fun σ H Q => to σ H fun x H1 => tyV K T x H1 ∧ t σ H1 fun xs H2 => r x xs H2 Q
variable {o e : Expr} {es : List Expr} {to : TE} {t : TA} {name : Str} {apos cpos : Pos} {T id : String} {r : V → List V → Hp → VK → Prop}
theorem pe_bm (pa : PlainAttrs T) (slot : Slot T name id) (hty : typeOf (.builtin id) = pure (.type "method_descriptor")) (hm : MtR X id r) (ho : PE X o to) (ha : PA X (e :: es) t)
    (hbase : attributeBase o name X.env (eval o X.env) = eval o X.env := by rfl)
    (hfew : ((backTo cpos (starEach (e :: es) X.env)).all (fun x => !x.1) && (backToKw cpos (keywordEach [] X.env)).all (fun x => x.1.isSome)
      && decide ((e :: es).length + ([] : List Keyword).length + (if ([] : List Keyword).isEmpty then 0 else 1) < 30)) = true := by rfl)
    (hline : (apos.endLine == cpos.line) = true := by rfl) (hs : starEach (e :: es) X.env = (false, eval e X.env) :: starEach es X.env := by rfl) (hplain : (backTo cpos (starEach es X.env)).any (·.1) = false := by rfl) :
    PE X (.Call (.Attribute o name apos) (e :: es) [] cpos) (tBM X.K T r to t) := by
  intro pins s σ H Q I h
  refine wpAny_Call_method_late hbase hfew hline rfl (thn (ho pins s σ H _ I h) fun v s1 ⟨x, H1, I1, r1, ty, q1⟩ => ?_)
  obtain ⟨h1, h2⟩ := tyV_is I1 r1 ty
  refine ⟨T, id, pa, slot, hty, h1, h2, ?_⟩
  have hA := ha cpos pins s1 σ H1 _ I1 q1
  rw [hs] at hA ⊢
  refine Calls.callWith_builtin (by show (false || (backTo cpos (starEach es X.env)).any (·.1)) = false; rw [hplain] <;> rfl) (Calls.evalArgs_plain ?_)
  exact thn hA fun us s2 ⟨vs, H2, I2, r2, q2⟩ => hm pins s2 σ H2 x vs v us Q I2 r1 r2 q2
/- xs.append(e), list.index on a module's tuple .. are MtR facts of 06m -/
end
end L2

namespace L2
open PySem PySem.Spec PyProof.Rows

def MtM (X : Cx) (id : String) (r : V → List V → Hp → VK → Prop) : Prop :=
  ∀ (pins : List (Addr × Obj)) (s : Shared) (σ : St) (H : Hp) (x : V) (xs : List V) (v : Value) (us : List Value) (Q : VK), Inv X pins σ H s → RelV x v → Vals xs us → r x xs H Q →
    wpAny (model X.prog X.w) X.A (call (.builtin id) (v :: us)) (EP X pins σ Q) X.xe s

/-! ### lists of values -/
theorem Vals.one : ∀ {x : V} {us : List Value}, Vals [x] us → ∃ u, us = [u] ∧ RelV x u
  | _, _, .cons r .nil => ⟨_, rfl, r⟩
theorem Vals.two : ∀ {x y : V} {us : List Value}, Vals [x, y] us → ∃ u v, us = [u, v] ∧ RelV x u ∧ RelV y v
  | _, _, _, .cons r (.cons q .nil) => ⟨_, _, rfl, r, q⟩
theorem Vals.zero : ∀ {us : List Value}, Vals [] us → us = []
  | _, .nil => rfl
theorem Vals.eraseIdx : ∀ {xs : List V} {us : List Value} (i : Nat), Vals xs us → Vals (xs.eraseIdx i) (us.eraseIdx i)
  | _, _, _, .nil => .nil
  | _, _, 0, .cons _ t => t
  | _, _, i + 1, .cons r t => .cons r (Vals.eraseIdx i t)
section
variable {X : Cx} {pins : List (Addr × Obj)} {σ : St} {H : Hp} {s : Shared} {l b : Addr} {xs ys zs : List V}

/-! ### the two steps: a tracked list is rewritten, a new list is laid -/
theorem Inv.lset {its its' : List Value} {n : Nat} {f : Array Value → Array Value} {t' : Nat} (I : Inv X pins σ H s) (hH : H l = some (.lst xs))
    (e : s.heap.get? l = some { cls := .type "list", data := .seq its.toArray n }) (hf : f its.toArray = its'.toArray) (hv : Vals ys its') (hz : ys.length ≤ sizeLine) :
    Inv X pins σ (upd H l (.lst ys)) { s with heap := s.heap.update l (Obj.mapSeq f), toks := t' } := by
  have q := PySem.IsL.update e f
  rw [hf] at q
  refine I.write (x := l) (e := l) (by rw [hH]; exact trivial) (.inl rfl) (fun b' u hb hu => (Heap.get?_update_other s.heap (Obj.mapSeq f) (Ne.symm hb)).trans hu) ⟨_, q⟩ ?_
  exact ⟨hz, its', _, hv, q⟩
theorem Inv.lnew {its : List Value} {t' : Nat} (I : Inv X pins σ H s) (hv : Vals ys its) (hz : ys.length ≤ sizeLine) :
    Inv X pins σ (upd H s.heap.objs.size (.lst ys)) { s with heap := s.heap.push { cls := .type "list", data := .seq its.toArray }, toks := t' } :=
  I.laid (fun _ _ q => Heap.get?_push_of_some _ q) (Nat.le_refl _) ⟨hz, its, 0, hv, Heap.get?_push_size _ rfl⟩
theorem Inv.fresh (I : Inv X pins σ H s) : H s.heap.objs.size = none := I.hok.fresh (Nat.le_refl _)
theorem Inv.lstM (I : Inv X pins σ H s) (hH : H l = some (.lst xs)) : xs.length ≤ sizeLine ∧ ∃ (its : List Value) (n : Nat), Vals xs its ∧ xs.length = its.length ∧ s.heap.get? l = some { cls := .type "list", data := .seq its.toArray n } := by
  obtain ⟨z, its, n, r, e⟩ := I.hok l _ hH
  exact ⟨z, its, n, r, r.length, e⟩

end

section
variable {X : Cx}

/-! ### methods -/
def rAppend : V → List V → Hp → VK → Prop := fun x vs H Q => ∃ l xs y, x = .ref l ∧ vs = [y] ∧ H l = some (.lst xs) ∧ xs.length < sizeLine ∧ Q .non (upd H l (.lst (xs ++ [y])))
theorem mt_append : MtM X "list.append" rAppend := by
  intro pins s σ H x vs v us Q I rx rv h
  obtain ⟨l, xs, y, rfl, rfl, hH, hz, q⟩ := h
  cases rx
  obtain ⟨u, rfl, ru⟩ := rv.one
  obtain ⟨z, its, n, r, hl, e⟩ := I.lstM hH
  refine call_meets F.slot_list_append ⟨_, e, rfl⟩ F.entry_list_append (F.args_list_append_2 _ _) (PySem.list_append l its.toArray n u (by rw [List.size_toArray]; omega)) ⟨e, ?_⟩
  refine ⟨.non, _, I.lset (its' := its ++ [u]) hH e (by simp) (r.append (.cons ru .nil)) ?_, rfl, q⟩
  rw [List.length_append, List.length_singleton]
  omega

/-! ### list + list, list += list, list * int -/
def rCat : R2 := fun x y H Q => ∃ l b xs zs, x = .ref l ∧ y = .ref b ∧ H l = some (.lst xs) ∧ H b = some (.lst zs) ∧ xs.length + zs.length ≤ sizeLine ∧ ∀ p, H p = none → Q (.ref p) (upd H p (.lst (xs ++ zs)))
theorem op_cat : OpR X (binaryOp .Add) rCat := by
  intro pins s σ H x y v u Q I rx ry h
  obtain ⟨l, b, xs, zs, rfl, rfl, hH, hB, hz, q⟩ := h
  cases rx
  cases ry
  obtain ⟨z, its, n, r, hl, e⟩ := I.lstM hH
  obtain ⟨z2, its2, n2, r2, hl2, e2⟩ := I.lstM hB
  refine PySem.P.add_list e e2 ?_ (by rw [List.size_toArray, List.size_toArray]; omega)
  have ea : its.toArray ++ its2.toArray = (its ++ its2).toArray := by simp
  rw [ea]
  exact ⟨.ref _, _, I.lnew (t' := s.toks) (r.append r2) (by rw [List.length_append]; omega), rfl, q _ I.fresh⟩
/-! ### del xs[i] -/
end

/-! ### xs[a:b] = ys -/
section
variable {prog : Program} {w : World} {A : Around} {E : Value → Shared → Prop} {s : Shared}
end

section
variable {X : Cx}
end
end L2

namespace Att
open PySem PySem.W PySem.Calls PyProof.Rows

/-! ### the script -/
theorem ints_of_wellAll {P : Params} {h : Heap} : ∀ (ns : List Int) (vs : List Value), WellAll P h vs (ns.map WData.int) → IntsAre vs ns := by
  intro ns
  induction ns with
  | nil =>
    intro vs w
    rw [List.map_nil] at w
    cases w
    exact .nil
  | cons n ns ih =>
    intro vs w
    rw [List.map_cons] at w
    cases w with
    | cons a b =>
      cases a
      exact .cons _ _ (ih _ b)

theorem script_of {l : OpenLaw} {n : Nat} (hn : l.most = some n) {P : Params} {h : Heap} {args : List WData} {vals : List Value}
    (hpre : l.row.toRowW.claim.pre args = true) (hwl : WellAll P h vals args) :
    ∃ a vs ns, vals = [Value.ref a] ∧ args = [WData.list (ns.map WData.int)] ∧ h.get? a = some { cls := .type "list", data := .seq vs.toArray } ∧ IntsAre vs ns ∧ ns.length ≤ n := by
  have hsh : WShape.hasAll [] args [.list .int] = true := (pre_splitW hpre).1
  have hc : l.pre.holds [] { args := args } = true := (pre_splitW hpre).2
  obtain ⟨d, r, rfl, h1, h2⟩ := hasAllW_cons hsh
  obtain rfl := hasAllW_nil h2
  obtain ⟨xs, rfl, h3⟩ := hasW_list h1
  obtain ⟨ns, rfl⟩ := items_int h3
  have hlen : ns.length ≤ n := by
    unfold OpenLaw.pre at hc
    have h4 : (WTm.not (.lt (.lit (.int (n : Int))) (.len (.arg 0)))).holds [] { args := [.list (ns.map .int)] } = true := by
      have h4 := (holds_andW hc).1
      rw [hn] at h4
      exact h4
    have h5 := condW_of h4 (w_not (w_lt w_lit (w_len_list (w_arg rfl))))
    rw [List.length_map] at h5
    refine Nat.le_of_not_lt fun q => ?_
    have q' : (n : Int) < ((ns.length : Nat) : Int) := by omega
    first
      | (rw [decide_eq_true q'] at h5; exact absurd h5 (by decide))
      | (simp at h5; omega)
  cases hwl with
  | cons w1 w2 =>
    cases w2
    cases w1 with
    | list ho hall => exact ⟨_, _, ns, rfl, rfl, ho, ints_of_wellAll ns _ hall, hlen⟩

theorem post_true (l : OpenLaw) (args : List WData) : l.row.toRowW.claim.post args (.bool true) args = true :=
  postW_of (r := l.row.toRowW) (X := (true == true))
    (show WShape.has [] (.bool true) .bool = true by first | rfl | decide | simp [WShape.has, WShape.arms, WShape.armsAll])
    (show (WTm.eq .res (.lit (.bool true))).value [] { args := args, res := some (.bool true), after := args } = some (.bool (true == true)) from w_eq_bool (w_res rfl) w_lit) rfl

/-! ### the attachment: holds_open's last premise (the goal 'hc' behind k_head) from a wpAny of the law's body -/
/-- the same from a codeAny of the CALL (for a layer whose function contracts speak of calls) -/
theorem attach_call {l : OpenLaw} {n : Nat} {q : Program} {loose : List Str} {XP : (Str → Option Value) → Heap → Prop} {YP : World → Heap → Prop} {d : DefRec}
    (hn : l.most = some n) (hdf : d.params.defaults = [])
    (call : ∀ (w : World) (s₀ s₁ : Shared) (mg mb : Str → Option Value) (fa : Addr) (o : Obj) (pm cd doc : Value) (a : Addr) (vs : List Value) (ns : List Int),
      Ground q loose [] XP w s₀ mg mb s₁.heap → YP w s₁.heap →
      s₁.heap.get? fa = some o → o.data = .func (docDef d.name d.params d.body d.scope pm cd doc) → s₁.heap.CodeRec cd d.name → mg d.name = some (.ref fa) →
      s₁.heap.get? a = some { cls := .type "list", data := .seq vs.toArray } → IntsAre vs ns → ns.length ≤ n → s₁.gens = #[] →
      codeAny (model l.prog w) callerA (.call (.ref fa) ⟨[.ref a], []⟩) (fun r s' => r = .ok (.ret (.bool true)) ∧ OldK s₁.heap s'.heap ∧ s'.os = s₁.os ∧ AllBare s'.gens) s₁) :
    WalkO q loose XP YP l.row.toRowW d [] (fun f vs => PySem.call f vs) := by
  intro w s₀ s₁ mg mb G Y fa o pm cd doc dV kV ho hd hcd hD hmg hg args vals as hpre hlay hrd hwl hlo
  obtain rfl : dV = .none := Dflts.none hD hdf
  obtain rfl : kV = .none := Dflts.noKw hD
  obtain ⟨a, vs, ns, rfl, rfl, hobj, hints, hlen⟩ := script_of hn hpre hwl
  refine enter_call (codeAny_mono (call w s₀ s₁ mg mb fa o pm cd doc a vs ns G Y ho (fd_plain hd) hcd hmg hobj hints hlen hg) fun r s' hq => ?_)
  obtain ⟨rfl, h2, h3, h4⟩ := hq
  exact ⟨.inl ⟨.bool true, .bool true, [], rfl, fun _ => rfl, .bool true, post_true l _, fun _ => ⟨List.Pairwise.nil, fun _ hm => (nomatch hm)⟩⟩, h2, h3, h4⟩

/-! ### rules over ANY heap (no ledger) from facts about the written part K: the library's own take a ledger (News) for what they write -/
section
variable {prog : Program} {w : World} {A : Around} {E : Value → Shared → Prop} {s : Shared} {K : Frag}

/-! the whole heap as the ledger: makes every rule that writes through a ledger a rule over any heap -/
def ledger (h : Heap) (L d : Addr) : List (Addr × Obj) := (List.range h.objs.size).filterMap fun a => if a = L ∨ a = d then none else (h.get? a).map fun o => (a, o)
end
end Att

namespace L2
open PySem PySem.Spec PyProof.Rows

theorem vals_ints : ∀ {vs : List Value} {ns : List Int}, IntsAre vs ns → Vals (ns.map V.int) vs
  | _, _, .nil => .nil
  | _, _, .cons n t h => .cons ⟨t, rfl⟩ (vals_ints h)

/-- nothing is tracked but the script, known to the object (or it is an object of the module) -/
def Only (H : Hp) : Prop := ∀ b, H b = none ∨ ∃ o xs, H b = some (.frz o (.lst xs))

/-- THE HEAD: the law's promise, at the heap behind the top. F, the promise of the law's def, may use that base is part of the heap (so K.In base, base.Ns mainGlobals mg stand in Mod) -/
theorem law_call {P : Program} {w : World} {K : PySem.W.Frag} {mg mb : Str → Option Value} {CX : CXT} {k : Nat} {fa a : Addr} {fd : FuncData} {x : Str} {sp : Sp} {s₁ : Shared} {vs : List Value} {ns : List Int}
    (KX : K.In s₁.heap) (hns : s₁.heap.Ns mainGlobals mg) (hb : s₁.heap.Ns builtinsNs mb) (hbb : ∀ x : Str, x ≠ "__name__" → mb x = bootBuiltins x) (hlim : s₁.heap.NoLimit) (hg : s₁.gens = #[])
    (ha : s₁.heap.get? a = some { cls := .type "list", data := .seq vs.toArray }) (hi : IntsAre vs ns) (hl : ns.length ≤ sizeLine) (hr : Room k callerA)
    (F : ∀ base : Heap, K.In base → base.Ns mainGlobals mg → FnOk P w K mg base CX k fa fd [x] sp) (hbind : ∀ (s : Shared) (u : Value), BindsTo s fd ⟨[u], []⟩ [(x, u)])
    (hsp : ∀ H : Hp, Only H → SqL K H a (ns.map V.int) → sp [.ref a] H (fun v _ => v = .bl true) fun _ _ _ => False)
    (hCX : ∀ H e s', CX [] H s₁ (fun _ _ _ => False) e s' → False) :
    codeAny (model P w) callerA (.call (.ref fa) ⟨[.ref a], []⟩) (fun r s' => r = .ok (.ret (.bool true)) ∧ OldK s₁.heap s'.heap ∧ s'.os = s₁.os ∧ AllBare s'.gens) s₁ := by
  have rv := vals_ints hi
  have lenV := hi.length
  -- from an abstract heap in which nothing but the script may be tracked
  have core : ∀ H : Hp, Only H → SqL K H a (ns.map V.int) → HOk P w H s₁.heap → (∀ b, H b ≠ none → b = a) → (H a ≠ none → K.lookup a = none) →
      codeAny (model P w) callerA (.call (.ref fa) ⟨[.ref a], []⟩) (fun r s' => r = .ok (.ret (.bool true)) ∧ OldK s₁.heap s'.heap ∧ s'.os = s₁.os ∧ AllBare s'.gens) s₁ := by
    intro H hO hS hok hA hK
    have base_of : ∀ {b : Addr} {o : Obj}, s₁.heap.get? b = some o → H b = none → (hidT s₁.heap H).get? b = some o := fun e n => hidT_get e n
    have noA : ∀ {b : Addr} {o : Obj} {es : Array DictEntry} {ep : Nat}, s₁.heap.get? b = some o → o.data = .dict es ep → H b = none := fun {b o es ep} e d => by
      cases q : H b with
      | none => rfl
      | some u =>
        have e' : b = a := hA b (by rw [q]; simp)
        subst e'
        rw [ha] at e; cases e
        have d' : Data.seq vs.toArray _ = Data.dict es ep := d
        cases d'
    have nsK : ∀ {b : Addr} {m : Str → Option Value}, s₁.heap.Ns b m → (hidT s₁.heap H).Ns b m := fun {b m} ⟨o, es, ep, e, d, r⟩ => ⟨o, es, ep, base_of e (noA e d), d, r⟩
    have hKb : K.In (hidT s₁.heap H) := fun b o e => base_of (KX b o e) (by
      cases q : H b with
      | none => rfl
      | some u =>
        have e' : b = a := hA b (by rw [q]; simp)
        subst e'
        rw [hK (by rw [q]; simp)] at e; cases e)
    have hM : Mod K mg (hidT s₁.heap H) := ⟨hKb, nsK hns, ⟨mb, nsK hb, hbb⟩, let ⟨mc, h1, h2⟩ := hlim; ⟨mc, nsK h1, h2⟩⟩
    have e0 : Env0 P w K mg (hidT s₁.heap H) callerA [] s₁ H := ⟨rfl, hM, fun b o e => of_hidT e, Nat.le_of_eq (hidT_size _ _), trivial, fun b hb => absurd (show b ∈ ([] : List Addr) from hb) (by simp), hok, .of_eq hg⟩
    refine codeAny_mono ((F _ hKb (nsK hns)).run callerA [] s₁ H ⟨[.ref a], []⟩ [.ref a] [.ref a] _ _ hr e0 (hbind s₁ (.ref a)) (.cons rfl .nil) (hsp H hO hS)) fun r s' h => ?_
    cases r with
    | error e => exact (hCX H e s' h).elim
    | ok fl =>
      cases fl with
      | next => exact False.elim h
      | brk => exact False.elim h
      | cont => exact False.elim h
      | ret u =>
        obtain ⟨v, H', os, bare, un, hok', r', q⟩ := h
        have q' : v = .bl true := q
        subst q'
        obtain rfl : u = Value.bool true := r'
        refine ⟨rfl, OldK.of_keep fun b o e => ?_, os, bare⟩
        cases q : H b with
        | none => exact un.keep b o e q (by intro z; exact absurd (show b ∈ ([] : List Addr) from z) (by simp)) (by simp)
        | some u =>
          rcases hO b with z | ⟨ob, xs, z⟩
          · rw [q] at z; cases z
          · have z2 := un.frzs b ob _ z
            obtain ⟨e1, _⟩ := hok b _ z
            obtain ⟨e2, _⟩ := hok' b _ z2
            rw [e] at e1; cases e1
            exact e2
  cases hk : K.lookup a with
  | some o =>
    -- the script is one of the module's own objects
    have e := KX a o hk
    rw [ha] at e
    cases e
    refine core (fun _ => none) (fun _ => .inl rfl) (.inr ⟨_, vs.toArray, _, hk, rfl, rfl, rfl, by rw [List.size_toArray, lenV]; exact hl, by simpa using rv⟩) (fun b u z => by have z' : (none : Option HO) = some u := z; cases z') (fun b z => absurd rfl z) fun z => absurd rfl z
  | none =>
    refine core (fun b => if b = a then some (.frz { cls := .type "list", data := .seq vs.toArray } (.lst (ns.map V.int))) else none) (fun b => ?_) (.inl (.inr ⟨{ cls := .type "list", data := .seq vs.toArray }, if_pos rfl⟩)) (fun b u z => ?_) (fun b z => ?_) fun _ => hk
    · by_cases hb : b = a
      · exact .inr ⟨_, _, if_pos hb⟩
      · exact .inl (if_neg hb)
    · by_cases hb : b = a
      · have z' := (if_pos hb).symm.trans z
        cases z'
        subst hb
        exact ⟨ha, by rw [List.length_map]; exact hl, vs, _, rv, ha⟩
      · have z' := (if_neg hb).symm.trans z
        cases z'
    · by_cases hb : b = a
      · exact hb
      · exact absurd (if_neg hb) z
end L2

namespace L2
open PySem PySem.Spec PyProof.Rows

/-- the goal that k_head leaves (case hc), from the law's promise. F gives the function object fd (K's own) once, then the promise over every base -/
theorem walk_of {l : PySem.W.OpenLaw} {n k : Nat} {q : Program} {loose : List Str} {XP : (Str → Option Value) → Heap → Prop} {YP : World → Heap → Prop} {d : DefRec} {K : Params → PySem.W.Frag} {CX : World → CXT} {sp : World → Sp} {x : Str}
    (hn : l.most = some n) (hn2 : n ≤ sizeLine) (hdf : d.params.defaults = []) (hr : Room k callerA)
    (hY : ∀ (w : World) (h : Heap), YP w h → (K w.params).In h)
    (F : ∀ (w : World) (mg : Str → Option Value) (fa : Addr) (h : Heap), (K w.params).In h → h.Ns mainGlobals mg → mg d.name = some (.ref fa) →
      ∃ fd : FuncData, (∀ (s : Shared) (u : Value), BindsTo s fd ⟨[u], []⟩ [(x, u)]) ∧
        ∀ base : Heap, (K w.params).In base → base.Ns mainGlobals mg → FnOk l.prog w (K w.params) mg base (CX w) k fa fd [x] (sp w))
    (hsp : ∀ (w : World) (H : Hp) (a : Addr) (ns : List Int), ns.length ≤ n → Only H → SqL (K w.params) H a (ns.map V.int) → sp w [.ref a] H (fun v _ => v = .bl true) fun _ _ _ => False)
    (hCX : ∀ (w : World) (H : Hp) (s : Shared) (e : Value) (s' : Shared), CX w [] H s (fun _ _ _ => False) e s' → False) :
    PySem.W.WalkO q loose XP YP l.row.toRowW d [] (fun f vs => PySem.call f vs) := by
  refine Att.attach_call hn hdf fun w s₀ s₁ mg mb fa o pm cd doc a vs ns G Y ho hd hcd hmg hobj hints hlen hg => ?_
  have KX := hY w _ Y
  obtain ⟨fd, hb, hF⟩ := F w mg fa _ KX G.T.g hmg
  exact law_call KX G.T.g G.T.b G.T.builtins G.T.nolimit hg hobj hints (Nat.le_trans hlen hn2) hr hF hb (fun H hO hS => hsp w H a ns hlen hO hS) fun H e s' => hCX w H s₁ e s'
/-- the same where the promise hangs on the written part alone: (sp := My.sp_law), no hole under a binder -/
theorem walk_ofK {l : PySem.W.OpenLaw} {n k : Nat} {q : Program} {loose : List Str} {XP : (Str → Option Value) → Heap → Prop} {YP : World → Heap → Prop} {d : DefRec} {K : Params → PySem.W.Frag} {CX : CXT} {sp : PySem.W.Frag → Sp} {x : Str}
    (hn : l.most = some n) (hn2 : n ≤ sizeLine) (hdf : d.params.defaults = []) (hr : Room k callerA)
    (hY : ∀ (w : World) (h : Heap), YP w h → (K w.params).In h)
    (F : ∀ (w : World) (mg : Str → Option Value) (fa : Addr) (h : Heap), (K w.params).In h → h.Ns mainGlobals mg → mg d.name = some (.ref fa) →
      ∃ fd : FuncData, (∀ (s : Shared) (u : Value), BindsTo s fd ⟨[u], []⟩ [(x, u)]) ∧
        ∀ base : Heap, (K w.params).In base → base.Ns mainGlobals mg → FnOk l.prog w (K w.params) mg base CX k fa fd [x] (sp (K w.params)))
    (hsp : ∀ (K : PySem.W.Frag) (H : Hp) (a : Addr) (ns : List Int), ns.length ≤ n → Only H → SqL K H a (ns.map V.int) → sp K [.ref a] H (fun v _ => v = .bl true) fun _ _ _ => False)
    (hCX : ∀ (H : Hp) (s : Shared) (e : Value) (s' : Shared), CX [] H s (fun _ _ _ => False) e s' → False) :
    PySem.W.WalkO q loose XP YP l.row.toRowW d [] (fun f vs => PySem.call f vs) :=
  walk_of (K := K) (CX := fun _ => CX) (sp := fun w => sp (K w.params)) hn hn2 hdf hr hY F (fun w H a ns h1 h2 h3 => hsp (K w.params) H a ns h1 h2 h3) fun _ H s e s' => hCX H s e s'
end L2



/-! SHORT WORDS over the layer: a def of the text, its body, what a loop and a test want. -/
namespace L2
open PySem PySem.Spec PyProof.Rows

/-! ### the text by places -/
/-- the j-th statement of a class's body -/
def inClass (s : Stmt) (j : Nat) : Stmt := match s with
  | .ClassDef _ _ _ body _ _ _ _ _ _ _ => body.getD j (.Pass ⟨0, 0, 0, 0⟩)
  | _ => .Pass ⟨0, 0, 0, 0⟩
def defArgs (s : Stmt) : Arguments := match s with
  | .FunctionDef _ a _ _ _ _ _ _ _ _ => a
  | _ => { posonlyargs := [], args := [], vararg := none, kwonlyargs := [], kw_defaults := [], kwarg := none, defaults := [] }
def defBody (s : Stmt) : List Stmt := match s with
  | .FunctionDef _ _ b _ _ _ _ _ _ _ => b
  | _ => []
def defScope (s : Stmt) : Scope := match s with
  | .FunctionDef _ _ _ _ _ _ sc _ _ _ => sc
  | _ => { kind := .function, names := [], isGenerator := false, isCoroutine := false }

/-! ### no exception leaves a def -/
abbrev CX0 : CXT := fun _ _ _ _ _ _ => False
abbrev E0 : XK := fun _ _ _ => False
theorem pass0 {X : Cx} : Passes CX0 X E0 := fun _ _ _ _ _ _ _ h => h.elim

/-! ### a def (or method) of the text as it stands behind the top -/
structure Fun (K : PySem.W.Frag) (x qual : Str) (st : Stmt) (f : Addr) (fd : FuncData) : Prop where
  ex : ∃ (oc : Value) (od : Option Addr) (kV doc pm : Value) (an : Option Addr) (cdv ct : Value) (osl : Array (Option Value)),
    fd = PySem.W.fnOf x qual (defArgs st) (defBody st) (defScope st) .none kV doc pm an cdv ct ∧ K.lookup f = some ⟨oc, od, .func fd, osl⟩ ∧ PySem.W.codeIn K cdv qual = true
  kp : PySem.W.keepIn K (.ref f) = true
section
variable {P : Program} {w : World} {K : PySem.W.Frag} {mg : Str → Option Value} {base : Heap}
/-- THE RULE for a def: its body as a term of rules, and the reading of that term -/
theorem Fun.ok {x qual : Str} {st : Stmt} {f : Addr} {fd : FuncData} {N ps : List Str} {k : Nat} {sp : Sp} (F : Fun K x qual st f fd) (S : FnScope N ps (defScope st)) (len : ∀ vs H Q E, sp vs H Q E → vs.length = ps.length)
    (hbody : ∀ (cdv : Value) (A : Around) (outer : List Env) (s : Shared) (H : Hp) (vs : List V) (Q : VK) (E : XK), Room k (A.deeper (envOfC qual (defScope st) s.heap.objs.size f cdv)) → sp vs H Q E →
      ∃ t, PSs (cxOf CX0 P w K mg base N qual (defScope st) f cdv A outer s H E).nox (defBody st) t ∧ t { nx := fun _ H' => Q .non H', rt := Q } (start N vs) H) : FnOk P w K mg base CX0 (k + 1) f fd ps sp := by
  obtain ⟨oc, od, kV, doc, pm, an, cdv, ct, osl, rfl, lk, hcd⟩ := F.ex
  refine fn_of lk hcd S len fun A outer s H vs Q E hr hsp => ?_
  obtain ⟨t, h, q⟩ := hbody cdv A outer s H vs Q E hr hsp
  exact ⟨t, h.nox, q⟩
/-- how its arguments bind (no defaults): h is «fun _ _ _ _ _ _ us hl => match us, hl with | [_, _], _ => rfl», one _ a parameter -/
theorem Fun.binds {x qual : Str} {st : Stmt} {f : Addr} {fd : FuncData} {ps : List Str} (F : Fun K x qual st f fd)
    (h : ∀ (kV doc pm : Value) (an : Option Addr) (cdv ct : Value) (us : List Value), us.length = ps.length → bindArgs (PySem.W.fnOf x qual (defArgs st) (defBody st) (defScope st) .none kV doc pm an cdv ct) ⟨us, []⟩ = pure (ps.zip us)) : Binds K fd ps [] := by
  obtain ⟨oc, od, kV, doc, pm, an, cdv, ct, osl, rfl, lk, hcd⟩ := F.ex
  exact .all (h kV doc pm an cdv ct)
theorem fun_mk {x qual : Str} {st : Stmt} {f : Addr} {oc : Value} {od an : Option Addr} {osl : Array (Option Value)} {kV doc pm cdv ct : Value} (l : K.lookup f = some ⟨oc, od, .func (PySem.W.fnOf x qual (defArgs st) (defBody st) (defScope st) .none kV doc pm an cdv ct), osl⟩)
    (c : PySem.W.codeIn K cdv qual = true) (k : PySem.W.keepIn K (.ref f) = true) : Fun K x qual st f (PySem.W.fnOf x qual (defArgs st) (defBody st) (defScope st) .none kV doc pm an cdv ct) := ⟨⟨oc, od, kV, doc, pm, an, cdv, ct, osl, rfl, l, c⟩, k⟩
end
theorem small1000 {n : Nat} (h : n ≤ 1000) : n < sizeLine := Nat.lt_of_le_of_lt h (by decide)

/-! ### expressions in short: the name that stands in the i-th slot -/
section
variable {X : Cx}
theorem pv (i : Nat) {x : Str} {pos : Pos} (hN : X.N[i]? = some x := by rfl) (hv : Vis X.env.scope x := by first | exact Or.inl rfl | exact Or.inr (Or.inl rfl) | exact Or.inr (Or.inr rfl)) (hd : (x == ("__debug__" : Str)) = false := by decide)
    (hcd : (x == ("__classdict__" : Str)) = false := by decide) : PE X (.Name x pos) (tVar i) := pe_var hN hv hd hcd
end

/-! ### tests -/
theorem ite2 {c A B : Prop} [Decidable c] (h1 : c → A) (h2 : ¬ c → B) : if c then A else B := by
  by_cases h : c
  · rw [if_pos h]
    exact h1 h
  · rw [if_neg h]
    exact h2 h
/-! ### heaps -/
/-- all that was tracked is as it was -/
def Same (H H' : Hp) : Prop := ∀ b o, H b = some o → H' b = some o
theorem Same.refl (H : Hp) : Same H H := fun _ _ h => h
theorem Same.trans {H H1 H2 : Hp} (a : Same H H1) (b : Same H1 H2) : Same H H2 := fun c o h => b c o (a c o h)
theorem Same.free {H H' : Hp} (e : Same H H') {l : Addr} (h : H' l = Option.none) : H l = Option.none := by
  cases q : H l with
  | none => rfl
  | some o =>
    rw [e l o q] at h
    cases h
theorem Same.seq {K : PySem.W.Frag} {H H' : Hp} {a : Addr} {xs : List V} (e : Same H H') (h : SqL K H a xs) : SqL K H' a xs := by
  rcases h with (h | ⟨o, h⟩) | h
  · exact .inl (.inl (e _ _ h))
  · exact .inl (.inr ⟨o, e _ _ h⟩)
  · exact .inr h

end L2

end
section
set_option Elab.async false
set_option linter.all false
set_option maxRecDepth 100000
set_option maxHeartbeats 4000000
/-! Own rules over the layer: a loop over a text's signs; comprehensions of one clause. -/
namespace L2
open PySem PySem.Spec PyProof.Rows

/-- the signs of a text, one by one -/
def Its (z : Str) : It := ⟨fun i _ => i < z.cps.size, fun i H x H' => H' = H ∧ ∃ c, z.cps[i]? = some c ∧ x = .str ⟨#[c]⟩, fun i _ => z.cps.size ≤ i⟩
section
variable {X : Cx} {tg : Expr}
def iStr (tl : TE) : TI := fun σ H R => tl σ H fun x H1 => ∃ z, x = .str z ∧ R (Its z) H1
end
/-! ### comprehensions -/
/-- the cells that a block takes along -/
def clFrom (env : Env) : List (Str × NameKind) → List (Str × Addr) → List (Str × Addr)
  | [], cs => cs
  | (n, k) :: r, cs => clFrom env r (if k == .free then (n, (env.cells.lookup n).getD 0) :: cs else cs)
theorem closure_eq {sc : Scope} {env : Env} (h : ∀ y ∈ sc.names, y.2 = .free → ∃ c, env.cells.lookup y.1 = some c) : closureFor sc env = pure (clFrom env sc.names []) := by
  have go : ∀ (names : List (Str × NameKind)) (cs : List (Str × Addr)), (∀ y ∈ names, y.2 = .free → ∃ c, env.cells.lookup y.1 = some c) →
      (forIn names cs fun (x : Str × NameKind) (r : List (Str × Addr)) => (if (x.2 == .free) = true then (do let a ← cellOf env x.1; pure (ForInStep.yield ((x.1, a) :: r))) else pure (ForInStep.yield r) : Sem (ForInStep (List (Str × Addr))))) = (pure (clFrom env names cs) : Sem (List (Str × Addr))) := by
    intro names
    induction names with
    | nil => intro cs _; rfl
    | cons y r ih =>
      intro cs hy
      obtain ⟨n, k⟩ := y
      rw [List.forIn_cons]
      have hr : ∀ z ∈ r, z.2 = .free → ∃ c, env.cells.lookup z.1 = some c := fun z hz => hy z (List.mem_cons_of_mem _ hz)
      by_cases hk : k = .free
      · subst hk
        obtain ⟨c, hc⟩ := hy (n, .free) List.mem_cons_self rfl
        have hc' : env.cells.lookup n = some c := hc
        simp only [beq_self_eq_true, if_true, clFrom, hc', Option.getD_some, cellOf]
        exact ih ((n, c) :: cs) hr
      · have hb : (k == NameKind.free) = false := by simpa using hk
        simp only [hb, Bool.false_eq_true, if_false, clFrom]
        exact ih cs hr
  unfold closureFor
  show (forIn sc.names [] (fun (x : Str × NameKind) (r : List (Str × Addr)) => (if (x.2 == .free) = true then (do let a ← cellOf env x.1; pure (ForInStep.yield ((x.1, a) :: r))) else pure (ForInStep.yield r) : Sem (ForInStep (List (Str × Addr))))) >>= fun cs => pure cs) = _
  rw [go sc.names [] h]
  rfl
theorem clFrom_sub {env : Env} : ∀ {names : List (Str × NameKind)} {cs : List (Str × Addr)} {x : Str} {c : Addr}, (∀ y ∈ names, y.2 = .free → ∃ c, env.cells.lookup y.1 = some c) → (∀ y d, cs.lookup y = some d → env.cells.lookup y = some d) →
    (clFrom env names cs).lookup x = some c → env.cells.lookup x = some c
  | [], cs, x, c, _, hcs, h => hcs x c h
  | (n, k) :: r, cs, x, c, hy, hcs, h => by
    refine clFrom_sub (names := r) (fun z hz => hy z (List.mem_cons_of_mem _ hz)) ?_ h
    intro y d e
    by_cases hk : (k == NameKind.free) = true
    · rw [if_pos hk, List.lookup_cons] at e
      obtain ⟨c', hc'⟩ := hy (n, k) List.mem_cons_self (by simpa using hk)
      have hc' : env.cells.lookup n = some c' := hc'
      cases hyn : y == n with
      | true =>
        rw [hyn] at e
        have : y = n := by simpa using hyn
        subst this
        simp only [hc', Option.getD_some] at e
        rw [hc']; exact e
      | false =>
        rw [hyn] at e
        exact hcs y d e
    · rw [if_neg hk] at e
      exact hcs y d e
theorem clFrom_mono {env : Env} : ∀ {names : List (Str × NameKind)} {cs : List (Str × Addr)} {x : Str}, (∃ c, cs.lookup x = some c) → ∃ c, (clFrom env names cs).lookup x = some c
  | [], cs, x, h => h
  | (n, k) :: r, cs, x, h => by
    refine clFrom_mono (names := r) ?_
    split
    · rw [List.lookup_cons]
      cases hxn : x == n with
      | true => exact ⟨_, rfl⟩
      | false => exact h
    · exact h
theorem clFrom_has {env : Env} : ∀ {names : List (Str × NameKind)} {cs : List (Str × Addr)} {x : Str}, (x, NameKind.free) ∈ names → ∃ c, (clFrom env names cs).lookup x = some c
  | [], _, _, h => by simp at h
  | (n, k) :: r, cs, x, h => by
    rcases List.mem_cons.mp h with e | h
    · cases e
      refine clFrom_mono (names := r) ?_
      rw [if_pos (by rfl), List.lookup_cons]
      rw [show (n == n) = true by simp]
      exact ⟨_, rfl⟩
    · exact clFrom_has (names := r) h
theorem mem_relabel {env : Env} {sc : Scope} {x : Str} {k : NameKind} (h : (relabel sc env).names.lookup x = some k) (hk : k = .cell ∨ k = .free) (hc : ∀ y ∈ sc.names, y.2 ≠ .cell) : (x, NameKind.free) ∈ sc.names := by
  have hm := PySem.mem_of_lookup h
  unfold relabel at hm
  obtain ⟨⟨n, k'⟩, hn, e⟩ := List.mem_map.mp hm
  by_cases hf : (k' == NameKind.free && env.scope.kind == .function && env.kindOf n == some .cell) = true
  · have e' : (n, NameKind.cell) = (x, k) := by
      have := e
      simp only [hf, if_true] at this
      exact this
    injection e' with e1 e2
    subst e1
    have hk' : k' = .free := by
      rw [Bool.and_eq_true, Bool.and_eq_true] at hf
      simpa using hf.1.1
    rw [hk'] at hn
    exact hn
  · have e' : (n, k') = (x, k) := by
      have := e
      simp only [hf, if_false] at this
      exact this
    injection e' with e1 e2
    subst e1 e2
    rcases hk with z | z
    · exact absurd z (hc _ hn)
    · rw [z] at hn; exact hn

/-- the context of a block: its names N, its frame at C, its iterator's records fp -/
abbrev cxComp (X : Cx) (sc : Scope) (N : List Str) (s : Shared) (H : Hp) (C : Addr) (fp : List Addr) : Cx :=
  { X with N := N, s₀ := s, H₀ := H, env := compEnvC sc (clFrom X.env sc.names []) C X.env, outer := X.stack, stack := X.stack, ex := fp, fn := fun _ => false, pn := [], xe := fun _ _ => False }

/-- the names that a block takes along are cells of the def -/
def CapOk (X : Cx) (sc : Scope) : List Str → List Nat → Prop
  | [], [] => True
  | y :: r, j :: js => (X.N[j]? = some y ∧ (X.env.kindOf y = some .cell ∨ X.env.kindOf y = some .free) ∧ sc.names.lookup y = some .free) ∧ CapOk X sc r js
  | _, _ => False
theorem CapOk.len {X : Cx} {sc : Scope} : ∀ {cap : List Str} {js : List Nat}, CapOk X sc cap js → cap.length = js.length
  | [], [], _ => rfl
  | _ :: _, _ :: _, h => congrArg (· + 1) (CapOk.len h.2)
  | [], _ :: _, h => h.elim
  | _ :: _, [], h => h.elim
theorem CapOk.get {X : Cx} {sc : Scope} : ∀ {cap : List Str} {js : List Nat} {i : Nat} {y : Str}, CapOk X sc cap js → cap[i]? = some y → ∃ j, js[i]? = some j ∧ X.N[j]? = some y ∧ (X.env.kindOf y = some .cell ∨ X.env.kindOf y = some .free) ∧ sc.names.lookup y = some .free
  | [], [], _, _, _, e => by simp at e
  | y :: _, j :: _, 0, _, h, e => by
    simp at e; subst e
    exact ⟨j, rfl, h.1⟩
  | _ :: r, _ :: js, i + 1, y, h, e => by
    obtain ⟨j, e1, e2⟩ := CapOk.get (i := i) h.2 (by simpa using e)
    exact ⟨j, by simpa using e1, e2⟩
  | [], _ :: _, _, _, h, _ => h.elim
  | _ :: _, [], _, _, h, _ => h.elim

/-- the block's values: its own name, then what it takes along -/
def capt (σ : St) (js : List Nat) : St := js.map fun j => (σ[j]?).join

/-- the form of a block's scope -/
structure CompScope (X : Cx) (sc : Scope) (x : Str) (cap : List Str) (js : List Nat) : Prop where
  kind : sc.kind = .function
  nocell : ∀ y ∈ sc.names, y.2 ≠ .cell
  names : ∀ y ∈ sc.names, y.2 = .local → sc.names.lookup y.1 = some .local
  own : sc.names.lookup x = some .local
  free : ∀ y ∈ sc.names, y.2 = .free → X.env.kindOf y.1 = some .cell ∨ X.env.kindOf y.1 = some .free
  nd : (x :: cap).Nodup
  caps : CapOk X sc cap js

section
variable {X : Cx} {sc : Scope} {x : Str} {cap : List Str} {js : List Nat} {pins : List (Addr × Obj)} {σ : St} {H : Hp} {s : Shared}
theorem CompScope.cells (S : CompScope X sc x cap js) (I : Inv X pins σ H s) : ∀ y ∈ sc.names, y.2 = .free → ∃ c, X.env.cells.lookup y.1 = some c := fun y hy hf => I.ok.has y.1 (S.free y hy hf)
theorem CompScope.sub (S : CompScope X sc x cap js) (I : Inv X pins σ H s) {y : Str} {c : Addr} (h : (clFrom X.env sc.names []).lookup y = some c) : X.env.cells.lookup y = some c :=
  clFrom_sub (S.cells I) (fun _ _ e => by simp at e) h
/-- the block begins -/
theorem comp_start {s4 : Shared} {h4 : Heap} {t4 : Nat} {fp : List Addr} {C : Addr} {v : Option V} {m : Str → Option Value} (S : CompScope X sc x cap js) (I : Inv X pins σ H s) (hfp : ∀ b ∈ fp, FpOk X pins H b) (hlt : ∀ b ∈ fp, b < s.heap.objs.size)
    (hC : s.heap.objs.size ≤ C) (hn : h4.Ns C m) (k : ∀ b o, s.heap.get? b = some o → h4.get? b = some o) :
    Inv (cxComp X sc (x :: cap) s H C fp) [] (none :: capt σ js) H { s with heap := h4, toks := t4 } := by
  have nf : ∀ b ∈ frs X.stack, b < s.heap.objs.size := fun b hb => by
    obtain ⟨_, o, ho, _⟩ := I.stack.mem hb
    exact Heap.lt_size ho
  refine ⟨⟨I.ok.mod, S.kind, I.ok.glob, I.ok.blt, hC, fun y z c h1 h2 => I.ok.inj y z c (S.sub I h1) (S.sub I h2), fun y hy => ?_, fun y c h => absurd h Bool.false_ne_true, I.ok.hd, I.ok.frames, .inl rfl, fun b hb => ⟨Nat.ne_of_lt (Nat.lt_of_lt_of_le (hlt b hb) hC), fun y c e => (hfp b hb).2.2.2.2.1 y c (S.sub I e)⟩, I.bs,
      Nat.le_trans I.ok.bsz I.sz, fun b o e hb => ?_, fun b hb z => ?_, I.stack, I.stkFree⟩, rfl, I.bare, Un.kept k, ⟨m, hn, fun i y v' h1 h2 h3 => ?_⟩, fun y c e => ?_, I.hok.fresh hC, fun y c e => I.freeC y c (S.sub I e), fun p hp => absurd (show p ∈ ([] : List (Addr × Obj)) from hp) (by simp), I.hok.kept k, ?_⟩
  · exact clFrom_has (by
      rcases hy with z | z
      · exact mem_relabel z (.inl rfl) S.nocell
      · exact mem_relabel z (.inr rfl) S.nocell)
  · rcases (hfp b hb).2.2.2.1 with z | z
    · exact I.ok.noex b o e z
    · exact absurd (Nat.lt_of_lt_of_le (Heap.lt_size e) (Nat.le_trans I.ok.bsz z)) (Nat.lt_irrefl _)
  · rcases List.mem_cons.mp (I.stkSub b z) with q | q
    · exact (hfp b hb).2.1 q
    · exact (hfp b hb).2.2.1 q
  · cases i with
    | zero => exact absurd (show (none : Option V) = some v' from Option.some.inj h2) (by simp)
    | succ i =>
      have e1 : cap[i]? = some y := by simpa using h1
      obtain ⟨j, q1, q2, q3, q4⟩ := S.caps.get e1
      have e2 : (capt σ js)[i]? = some (some v') := by simpa using h2
      have e3 : σ[j]? = some (some v') := by
        unfold capt at e2
        rw [List.getElem?_map, q1, Option.map_some] at e2
        have e4 : (σ[j]?).join = some v' := Option.some.inj e2
        cases q : σ[j]? with
        | none => rw [q] at e4; cases e4
        | some w => rw [q] at e4; exact congrArg some e4
      have vis : Vis X.env.scope y := by
        rcases q3 with q3 | q3
        · exact .inr (.inl q3)
        · exact .inr (.inr q3)
      obtain ⟨mX, hnX, hl⟩ := I.loc
      obtain ⟨u, ru, lk⟩ := hl j y v' q2 e3 vis
      refine ⟨u, ru, .inr ?_⟩
      rcases lk with ⟨hk, _⟩ | ⟨hk, c, hc, hcell⟩
      · rcases q3 with q3 | q3
        · rw [q3] at hk; cases hk
        · rw [q3] at hk; cases hk
      · obtain ⟨c', hc'⟩ := clFrom_has (env := X.env) (cs := []) (PySem.mem_of_lookup q4)
        have := S.sub I hc'
        rw [hc] at this
        cases this
        obtain ⟨o, ho, hd⟩ := hcell
        refine ⟨?_, c, hc', ⟨o, k c o ho, hd⟩⟩
        rcases h3 with z | z | z
        · exfalso
          have hz := PySem.mem_of_lookup z
          obtain ⟨⟨n, k'⟩, hn', en⟩ := List.mem_map.mp hz
          by_cases hf : (k' == NameKind.free && X.env.scope.kind == .function && X.env.kindOf n == some .cell) = true
          · simp only [hf, if_true] at en
            cases en
          · simp only [hf, if_false] at en
            cases en
            have := S.names _ hn' rfl
            rw [q4] at this
            cases this
        · exact .inl z
        · exact .inr z
  · obtain ⟨v', o, ho, hd⟩ := I.cell y c (S.sub I e)
    exact ⟨v', o, k c o ho, hd⟩
  · show (none :: capt σ js).length = (x :: cap).length
    unfold capt
    rw [List.length_cons, List.length_cons, List.length_map, S.caps.len]

/-- a new untracked list of ours is tracked from now on -/
theorem comp_end {sB : Shared} {hB : Heap} {fp : List Addr} {C D : Addr} {HB : Hp} {σB : St} {pinsB : List (Addr × Obj)} {acc : List V} {its : List Value} {n : Nat}
    (I : Inv X pins σ H s) (hfp : ∀ b ∈ fp, FpOk X pins H b) (IB : Inv (cxComp X sc (x :: cap) s H C fp) pinsB σB HB sB) (hC : s.heap.objs.size ≤ C) (hD : s.heap.objs.size ≤ D) (hDC : D ≠ C) (hHD : HB D = none)
    (hd : sB.heap.get? D = some { cls := .type "list", data := .seq its.toArray n }) (rv : Vals acc its) (hz : acc.length ≤ sizeLine) (sb : ∀ b o, b ≠ C → sB.heap.get? b = some o → hB.get? b = some o) :
    Inv X pins σ (upd HB D (.lst acc)) { sB with heap := hB } := by
  have u := IB.base
  have hdB := sb D _ hDC hd
  have ltD : ∀ b o, s.heap.get? b = some o → b ≠ D := fun b o e => Nat.ne_of_lt (Nat.lt_of_lt_of_le (Heap.lt_size e) hD)
  have ltC : ∀ b o, s.heap.get? b = some o → b ≠ C := fun b o e => Nat.ne_of_lt (Nat.lt_of_lt_of_le (Heap.lt_size e) hC)
  refine I.call' (ch := fp) IB.os ⟨fun b o e n hb hx => sb b o (ltC b o e) (u.keep b o e n hb hx), fun b o e n hb hx => ?_, fun b o e n hx => by rw [upd_ne (ltD b o e)]; exact u.free b o e n hx, fun b o e hx => ?_,
    fun b xs e => by rw [upd_ne (ne_of_none (u.tups b xs e) hHD)]; exact u.tups b xs e, fun b o xs e => by rw [upd_ne (ne_of_none (u.frzs b o xs e) hHD)]; exact u.frzs b o xs e, fun b ps e => ?_⟩ ?_ IB.bare fun b hb => ?_
  · obtain ⟨sl, q⟩ := u.slot b o e n hb hx
    exact ⟨sl, sb b _ (ltC b o e) q⟩
  · obtain ⟨o', q⟩ := u.there b o e hx
    exact ⟨o', sb b _ (ltC b o e) q⟩
  · obtain ⟨m1, q⟩ := u.tbls b ps e
    exact ⟨m1, by rw [upd_ne (ne_of_none q hHD)]; exact q⟩
  · intro a o e
    by_cases ha : a = D
    · subst ha
      rw [upd_same] at e
      cases e
      exact ⟨hz, its, n, rv, hdB⟩
    · rw [upd_ne ha] at e
      refine (IB.hok a o e).stay (fun b w' hb q => sb b w' (fun z => ?_) q) (fun b q => by rw [upd_ne (ne_of_none q hHD)]; exact q) fun b xs q => by rw [upd_ne (ne_of_none q hHD)]; exact q
      have fC : HB C = none := IB.free
      rcases hb with hb | hb
      · rw [z] at hb; rw [← hb, fC] at e; cases e
      · rw [z, fC] at hb; cases hb
  · obtain ⟨f0, f1, f2, f3, f4, f5⟩ := hfp b hb
    exact ⟨f3, f1, f4, f5⟩
end
end L2

end
section
set_option Elab.async false
set_option linter.all false
set_option maxRecDepth 100000
set_option maxHeartbeats 4000000
namespace L2
open PySem PySem.Spec PyProof.Rows

/-- the tests of a clause -/
def PIf (X : Cx) (ifs : List Expr) (t : TT) : Prop :=
  ∀ (pins : List (Addr × Obj)) (s : Shared) (σ : St) (H : Hp) (Q : Bool → Hp → Prop), Inv X pins σ H s → t σ H Q →
    wpAny (model X.prog X.w) X.A (forIn ifs true fun c r => if r = true then do let ok ← isTrue c X.env (eval c X.env); pure (ForInStep.yield ok) else pure (ForInStep.yield r)) (TP X pins σ Q) X.xe s
def tYes : TT := fun _ H Q => Q true H
theorem pif_nil {X : Cx} : PIf X [] tYes := fun _ _ _ H _ I h => wpAny_pure ⟨H, I, h⟩
theorem pif_one {X : Cx} {c : Expr} {tc : TT} (h : PT X c tc) : PIf X [c] tc := by
  intro pins s σ H Q I hw
  simp only [List.forIn_cons, List.forIn_nil, if_true]
  refine wpAny_bind (wpAny_bind (thn (h pins s σ H Q I hw) fun b s1 q => ?_))
  exact wpAny_pure (wpAny_pure q)

/-- what a comprehension asks: W is the word by the turn, a measure, the list so far, the heap -/
def CompGo (J : It) (tc : TT) (te : TE) (js : List Nat) (σ : St) (H1 : Hp) (Q : VK) : Prop :=
  ∃ W : Nat → Nat → List V → Hp → Prop, (∃ m, W 0 m [] H1) ∧ ∀ i m acc H, W i m acc H →
    (J.stop i H ∧ ∀ p, H p = none → Q (.ref p) (upd H p (.lst acc))) ∨
    (J.go i H ∧ acc.length < sizeLine ∧ ∀ x H', J.yld i H x H' → tc (some x :: capt σ js) H' fun b H2 =>
      if b = true then te (some x :: capt σ js) H2 fun v H3 => ∃ m', m' < m ∧ W (i + 1) m' (acc ++ [v]) H3 else ∃ m', m' < m ∧ W (i + 1) m' acc H2)
def tComp (wi : TI) (tc : TT) (te : TE) (js : List Nat) : TE := fun σ H Q => wi σ H fun J H1 => CompGo J tc te js σ H1 Q

theorem compLoop_go {prog : Program} {w : World} {A : Around} {R : Result → Shared → Prop} {s : Shared} {elt target iter : Expr} {ifs : List Expr} {scope : Scope} {pos : Pos} {it acc : Value} {env : Env} (I : Nat → Shared → Prop)
    (turn : ∀ n s, I n s → wpAny (model prog w) A (pyNext it) (fun r s₁ => match r with
      | none => R (.ok .next) s₁
      | some v => wpAny (model prog w) A (letOwnedTupleGo target it v) (fun _ s₀ => wpAny (model prog w) A (assign target env v) (fun _ s₂ =>
          wpAny (model prog w) A (forIn ifs true fun c r => if r = true then do let ok ← isTrue c env (eval c env); pure (ForInStep.yield ok) else pure (ForInStep.yield r)) (fun ok s₃ =>
            if ok = true then wpAny (model prog w) A (eval elt env) (fun x s₄ =>
              wpAny (model prog w) A (call (.builtin "list.append") [acc, x]) (fun _ s₅ => ∃ m, m < n ∧ I m s₅) (fun _ _ => False) s₄) (fun _ _ => False) s₃
            else ∃ m, m < n ∧ I m s₃) (fun _ _ => False) s₂) (fun _ _ => False) s₀) (fun _ _ => False) s₁) (fun _ _ => False) s)
    (n : Nat) (h : I n s) :
    codeAny (model prog w) A (.compLoop (.ListComp elt [⟨target, iter, ifs, 0⟩] scope pos) 0 it acc env) R s := by
  refine codeAny_loop rfl I (fun n s hI => ?_) n h
  show wpAny _ A ((compTurn (.ListComp elt [⟨target, iter, ifs, 0⟩] scope pos) 0 it acc env).onRaise (fun x => do noteFrame x env; theTreesLotGoes x)) _ _ s
  refine wpAny_noted (wpAny_mono (E := fun _ _ => False) ?_ (fun _ _ q => q) fun _ _ z => z.elim)
  rw [compTurn_list]
  refine wpAny_bind (wpAny_standAt (wpAny_bind (wpAny_mono (turn n s hI) (fun r s₁ h₁ => ?_) fun _ _ h' => h')))
  cases r with
  | none => exact wpAny_pure h₁
  | some v =>
    refine wpAny_bind (wpAny_mono h₁ (fun _ s₀ h₀ => ?_) fun _ _ h' => h')
    refine wpAny_bind (wpAny_mono h₀ (fun _ s₂ h₂ => wpAny_bind (wpAny_mono h₂ (fun ok s₃ h₃ => ?_) fun _ _ h' => h')) fun _ _ h' => h')
    cases ok with
    | false => exact wpAny_pure ⟨rfl, h₃⟩
    | true =>
      exact wpAny_bind (wpAny_bind (wpAny_mono h₃ (fun x s₄ h₄ => wpAny_bind (wpAny_mono h₄ (fun _ s₅ h₅ => wpAny_pure (wpAny_pure ⟨rfl, h₅⟩)) fun _ _ h' => h')) fun _ _ h' => h'))

section
variable {X : Cx} {sc : Scope} {x : Str} {cap : List Str} {js : List Nat} {pins : List (Addr × Obj)} {σ : St} {H : Hp} {s : Shared} {elt iter : Expr} {ifs : List Expr} {px pos : Pos} {tc : TT} {te : TE}

theorem comp_block {J : It} {it : Addr} {fp : List Addr} {tn : Nat → Heap → Prop} {Q : VK} {E : Value → Shared → Prop} {RR : Value → Addr → Result → Shared → Prop} (S : CompScope X sc x cap js) (hcalm : X.calm = true)
    (hc : ∀ s H C fp, PIf (cxComp X sc (x :: cap) s H C fp) ifs tc) (he : ∀ s H C fp, PE (cxComp X sc (x :: cap) s H C fp) elt te)
    (I : Inv X pins σ H s) (T : Turn X.prog X.w X.K (.Name x px) J fp it tn) (st : tn 0 s.heap) (hfp : ∀ b ∈ fp, FpOk X pins H b) (go : CompGo J tc te js σ H Q)
    (hRR : ∀ D C HB sB σB acc its n, s.heap.objs.size ≤ D → s.heap.objs.size ≤ C → D ≠ C → Inv (cxComp X sc (x :: cap) s H C fp) [] σB HB sB → HB D = none → sB.heap.get? D = some { cls := .type "list", data := .seq (its : List Value).toArray n } → Vals acc its → acc.length ≤ sizeLine →
      (∀ p, HB p = none → Q (.ref p) (upd HB p (.lst acc))) → RR (.ref D) C (.ok .next) sB) :
    wpAny (model X.prog X.w) X.A (newList []) (fun acc s₃ => wpAny (model X.prog X.w) X.A (newFunctionEnv sc X.env.globals (clFrom X.env sc.names []) [] X.env.qual none .none (some X.env)) (fun cenv s₄ =>
      codeAny (model X.prog X.w) X.A (.compStart (.ListComp elt [⟨.Name x px, iter, ifs, 0⟩] sc pos) 0 (.ref it) acc { cenv with scope := relabel sc X.env }) (RR acc cenv.locals) s₄) E s₃) E s := by
  refine wpAny_newObj_type (wpAny_newFunctionEnv S.nocell (by intro y hy; simp at hy) (fun h₁ hns₁ hsb₁ => ?_) S.kind)
  dsimp only at hns₁ hsb₁ ⊢
  generalize hH2 : s.heap.push { cls := .type "list", dict := none, data := .seq ([] : List Value).toArray } = H2 at hns₁ hsb₁ ⊢
  have hCs : H2.objs.size = s.heap.objs.size + 1 := by rw [← hH2, Heap.size_push]
  have hDC : s.heap.objs.size ≠ H2.objs.size := by rw [hCs]; exact Nat.ne_of_lt (Nat.lt_succ_self _)
  have hCle : s.heap.objs.size ≤ H2.objs.size := by rw [hCs]; exact Nat.le_succ _
  have below : ∀ b, b < s.heap.objs.size → b ≠ H2.objs.size := fun b hb => by rw [hCs]; exact Nat.ne_of_lt (Nat.lt_succ_of_lt hb)
  have old : ∀ b o, s.heap.get? b = some o → h₁.get? b = some o := fun b o e => hsb₁.extBut b o (below b (Heap.lt_size e)) (Heap.get?_push_of_some _ (hH2 ▸ Heap.get?_push_of_some _ e))
  have hacc : h₁.get? s.heap.objs.size = some { cls := .type "list", data := .seq ([] : List Value).toArray 0 } := hsb₁.extBut _ _ hDC (Heap.get?_push_of_some _ (hH2 ▸ Heap.get?_push_size _ rfl))
  have hlt : ∀ b ∈ fp, b < s.heap.objs.size := fun b hb => by
    obtain ⟨o, e, _⟩ := T.obj _ _ st b hb
    exact Heap.lt_size e
  have hlocal : (relabel sc X.env).names.lookup x = some .local := lookup_relabel_local S.own
  obtain ⟨W, ⟨m0, w0⟩, turn⟩ := go
  have nD : ∀ b ∈ fp, b ≠ s.heap.objs.size := fun b hb => Nat.ne_of_lt (hlt b hb)
  have nfs : s.heap.objs.size ∉ frs X.stack := fun z => by
    obtain ⟨_, o, ho, _⟩ := I.stack.mem z
    exact absurd (Heap.lt_size ho) (Nat.lt_irrefl _)
  have ncl : ∀ y c, (clFrom X.env sc.names []).lookup y = some c → c ≠ s.heap.objs.size := fun y c e => by
    obtain ⟨v, o, ho, _⟩ := I.cell y c (S.sub I e)
    exact Nat.ne_of_lt (Heap.lt_size ho)
  have loop : ∀ s₃ : Shared, s₃ = { s with heap := h₁, toks := s.toks + ([] : List (Str × Value)).length } →
      codeAny (model X.prog X.w) X.A (.compLoop (.ListComp elt [⟨.Name x px, iter, ifs, 0⟩] sc pos) 0 (.ref it) (.ref s.heap.objs.size) (compEnvC sc (clFrom X.env sc.names []) H2.objs.size X.env))
        (RR (.ref s.heap.objs.size) H2.objs.size) s₃ := by
    rintro s₃ rfl
    have I0 : Inv (cxComp X sc (x :: cap) s H H2.objs.size fp) [] (none :: capt σ js) H { s with heap := h₁, toks := s.toks + ([] : List (Str × Value)).length } := comp_start (v := none) S I hfp hlt hCle hns₁ old (s4 := s)
    refine compLoop_go (fun n s' => ∃ i H' acc its k, Inv (cxComp X sc (x :: cap) s H H2.objs.size fp) [] (none :: capt σ js) H' s' ∧ tn i s'.heap ∧ (∀ b ∈ fp, H' b = none) ∧ H' s.heap.objs.size = none ∧
        s'.heap.get? s.heap.objs.size = some { cls := .type "list", data := .seq (its : List Value).toArray k } ∧ Vals acc its ∧ acc.length ≤ sizeLine ∧ W i n acc H') ?_ m0
      ⟨0, H, [], [], 0, I0, T.keep _ _ _ st fun b _ o e => old b o e, fun b hb => (hfp b hb).1, I.hok.fresh (Nat.le_refl _), hacc, .nil, Nat.zero_le _, w0⟩
    rintro n s3 ⟨i, H3, acc, its, kk, I3, st3, fr3, fD3, d3, r3, z3, w3⟩
    -- the list so far is pinned, the iterator's records may turn
    have fpY : ∀ {H' : Hp} {pl : List (Addr × Obj)}, (∀ b ∈ fp, H' b = none) → (∀ p ∈ pl, p.1 = s.heap.objs.size) → ∀ b ∈ fp, FpOk (cxComp X sc (x :: cap) s H H2.objs.size fp) pl H' b := fun {H' pl} hn hp b hb =>
      ⟨hn b hb, below b (hlt b hb), fun z => by
        rcases List.mem_cons.mp (I.stkSub b z) with q | q
        · exact (hfp b hb).2.1 q
        · exact (hfp b hb).2.2.1 q, .inl hb, fun y c e => (hfp b hb).2.2.2.2.1 y c (S.sub I e), fun p hp' => by
        rw [hp p hp']
        exact Ne.symm (nD b hb)⟩
    have pin3 : Inv (cxComp X sc (x :: cap) s H H2.objs.size fp) [(s.heap.objs.size, { cls := .type "list", data := .seq its.toArray kk })] (none :: capt σ js) H3 s3 := I3.pins_of fun p hp => by
      have e : p = (s.heap.objs.size, { cls := .type "list", data := .seq its.toArray kk }) := by simpa using hp
      subst e
      exact ⟨d3, fD3, hDC, nfs, fun v z => by cases z⟩
    have onlyD : ∀ p ∈ [(s.heap.objs.size, ({ cls := .type "list", data := .seq its.toArray kk } : Obj))], p.1 = s.heap.objs.size := fun p hp => by
      have e : p = (s.heap.objs.size, { cls := .type "list", data := .seq its.toArray kk }) := by simpa using hp
      rw [e]
    rcases turn i n acc H3 w3 with ⟨stop, qn⟩ | ⟨gon, hlen, step⟩
    · refine wpAny_mono (T.done (cxComp X sc (x :: cap) s H H2.objs.size fp) rfl rfl rfl hcalm i _ s3 _ H3 (fun _ _ => False) pin3 (fpY fr3 onlyD) st3 stop) (fun r s4 hr => ?_) fun _ _ z => z.elim
      obtain ⟨hr, I4⟩ := hr
      subst hr
      have d4 := (I4.pin _ (List.mem_append_right _ List.mem_cons_self)).1
      exact hRR _ _ H3 s4 _ acc its kk (Nat.le_refl _) hCle hDC (I4.pins_of fun p hp => by simp at hp) fD3 d4 r3 z3 qn
    · refine wpAny_mono (T.item (cxComp X sc (x :: cap) s H H2.objs.size fp) rfl rfl rfl hcalm i _ s3 _ H3 (fun _ _ => False) pin3 (fpY fr3 onlyD) st3 gon) (fun r s4 hr => ?_) fun _ _ z => z.elim
      obtain ⟨u, hr, h4⟩ := hr
      subst hr
      dsimp only
      refine wpAny_mono h4 (fun _ s5 h5 => ?_) fun _ _ z => z.elim
      obtain ⟨xv, H5, I5, r5, y5, st5, fr5⟩ := h5
      have I5' := I5.pinned (fpY fr5 onlyD) (T.obj _ _ st5)
      refine wpAny_assign_Name (store_ok (X := cxComp X sc (x :: cap) s H H2.objs.size fp) I5' S.nd (i := 0) rfl (.inl hlocal) r5 (fun s6 I6 => ?_) (.inr hlocal))
      have I6' : Inv (cxComp X sc (x :: cap) s H H2.objs.size fp) ([(s.heap.objs.size, { cls := .type "list", data := .seq its.toArray kk })] ++ pinsAt fp s5.heap) (some xv :: capt σ js) H5 s6 := I6
      refine wpAny_mono (hc s H H2.objs.size fp _ s6 _ H5 _ I6' (step xv H5 y5)) (fun b s7 q7 => ?_) fun _ _ z => z.elim
      obtain ⟨H7, I7, q7⟩ := q7
      have weak : ∀ {pl : List (Addr × Obj)} {HH : Hp} {ss : Shared}, Inv (cxComp X sc (x :: cap) s H H2.objs.size fp) pl (some xv :: capt σ js) HH ss → Inv (cxComp X sc (x :: cap) s H H2.objs.size fp) pl (none :: capt σ js) HH ss := fun J => J.weak rfl fun k v e => by
        cases k with
        | zero => exact absurd (Option.some.inj e) (by simp)
        | succ k => simpa using e
      have back : ∀ {HH : Hp} {ss : Shared}, Inv (cxComp X sc (x :: cap) s H H2.objs.size fp) ([(s.heap.objs.size, { cls := .type "list", data := .seq its.toArray kk })] ++ pinsAt fp s5.heap) (some xv :: capt σ js) HH ss →
          tn (i + 1) ss.heap ∧ (∀ b ∈ fp, HH b = none) ∧ HH s.heap.objs.size = none ∧ ss.heap.get? s.heap.objs.size = some { cls := .type "list", data := .seq its.toArray kk } := fun {HH ss} K => by
        refine ⟨T.keep _ _ _ st5 fun b hb o e => (K.pin (b, o) (List.mem_append_right _ (List.mem_append_right _ (mem_pinsAt hb e)))).1, fun b hb => ?_, ?_, ?_⟩
        · obtain ⟨o, e, d⟩ := T.obj _ _ st5 b hb
          exact (K.pin (b, o) (List.mem_append_right _ (List.mem_append_right _ (mem_pinsAt hb e)))).2.1
        · exact (K.pin _ (List.mem_append_right _ (List.mem_append_left _ List.mem_cons_self))).2.1
        · exact (K.pin _ (List.mem_append_right _ (List.mem_append_left _ List.mem_cons_self))).1
      cases b with
      | false =>
        rw [if_neg Bool.false_ne_true] at q7 ⊢
        obtain ⟨m', hm, w7⟩ := q7
        obtain ⟨b1, b2, b3, b4⟩ := back I7
        exact ⟨m', hm, i + 1, H7, acc, its, kk, (weak I7).pins_of fun p hp => by simp at hp, b1, b2, b3, b4, r3, z3, w7⟩
      | true =>
        rw [if_pos rfl] at q7 ⊢
        refine wpAny_mono (he s H H2.objs.size fp _ s7 _ H7 _ I7 q7) (fun u8 s8 q8 => ?_) fun _ _ z => z.elim
        obtain ⟨v8, H8, I8, r8, m', hm, w8⟩ := q8
        obtain ⟨b1, b2, b3, b4⟩ := back I8
        have hl3 := r3.length
        refine call_meets F.slot_list_append ⟨_, b4, rfl⟩ F.entry_list_append (F.args_list_append_2 _ _) (PySem.list_append s.heap.objs.size its.toArray kk u8 (by rw [List.size_toArray]; omega)) ⟨b4, ?_⟩
        have q := PySem.IsL.update b4 (·.push u8)
        obtain ⟨n', q'⟩ : ∃ n', (s8.heap.update s.heap.objs.size (Obj.mapSeq (·.push u8))).get? s.heap.objs.size = some { cls := .type "list", data := .seq (its ++ [u8]).toArray n' } := by
          rw [show (its ++ [u8]).toArray = its.toArray.push u8 by simp]
          exact ⟨_, q⟩
        refine ⟨m', hm, i + 1, H8, acc ++ [v8], its ++ [u8], _, ?_, T.keep _ _ _ b1 fun b hb o e => (Heap.get?_update_other s8.heap _ (Ne.symm (nD b hb))).trans e, b2, b3, q', r3.append (.cons r8 .nil), by rw [List.length_append, List.length_singleton]; omega, w8⟩
        exact Inv.turned (X := cxComp X sc (x :: cap) s H H2.objs.size fp) (it := s.heap.objs.size) ((weak I8).pins_of (pins' := []) fun p hp => by simp at hp) (fun b o hb e => (Heap.get?_update_other s8.heap _ (Ne.symm hb)).trans e) b3 hDC (.inr (Nat.le_refl _)) ncl (fun p hp => absurd (show p ∈ ([] : List (Addr × Obj)) from hp) (by simp))
  exact codeAny_compStart_list (loop _ rfl) (T.self _ 0 _ _ _ (T.keep _ _ _ st fun b _ o e => old b o e) (loop _ rfl))

/-- [elt for x in iter if ..] -/
theorem pe_comp {wi : TI} (hcalm : X.calm = true) (S : CompScope X sc x cap js) (hi : PI X (.Name x px) iter wi) (hc : ∀ s H C fp, PIf (cxComp X sc (x :: cap) s H C fp) ifs tc) (he : ∀ s H C fp, PE (cxComp X sc (x :: cap) s H C fp) elt te)
    (hs : ∀ x, foldedSetIterable iter X.env x = pure x := by intro _; rfl) : PE X (.ListComp elt [⟨.Name x px, iter, ifs, 0⟩] sc pos) (tComp wi tc te js) := by
  intro pins s σ H Q I h
  rw [eval_ListComp]
  refine wpAny_comprehension_free (use := none) rfl hs (closure_eq (S.cells I)) S.kind S.names (thn (hi pins s σ H _ I h) fun v s1 h1 => thn h1 fun itv s2 h2 => ?_)
  obtain ⟨it, fp, tn, J, H2, e, I2, T, st2, f2, go⟩ := h2
  subst e
  refine comp_block S hcalm hc he I2 T st2 f2 go fun D C HB sB σB acc its n hD hC hDC IB hHD hd rv hz q => ?_
  obtain ⟨m, hn, _⟩ := IB.loc
  exact ⟨m, hn, fun h' sb => ⟨.ref D, upd HB D (.lst acc), comp_end (sc := sc) (x := x) (cap := cap) I2 f2 IB hC hD hDC hHD hd rv hz fun b o hb e => sb.extBut b o hb e, rfl, q D hHD⟩⟩

/-- name = [elt for x in iter if ..], where the two stores are exchanged -/
theorem ps_setcomp {wi : TI} {i : Nat} {y : Str} {py spos : Pos} (hcalm : X.calm = true) (S : CompScope X sc x cap js) (hN : X.N.Nodup) (hi' : X.N[i]? = some y) (hx : Loc X.env.scope y) (hi : PI X (.Name x px) iter wi) (hc : ∀ s H C fp, PIf (cxComp X sc (x :: cap) s H C fp) ifs tc) (he : ∀ s H C fp, PE (cxComp X sc (x :: cap) s H C fp) elt te)
    (hsw : swapsWith (.ListComp elt [⟨.Name x px, iter, ifs, 0⟩] sc pos) (some (.Name y py)) spos.line X.env = pure true := by rfl) (hs : ∀ x, foldedSetIterable iter X.env x = pure x := by intro _; rfl)
    (hf : X.fn y = true ∨ X.env.scope.names.lookup y = some .local := by first | exact .inl rfl | exact .inr rfl | assumption) : PS X (.Assign [.Name y py] (.ListComp elt [⟨.Name x px, iter, ifs, 0⟩] sc pos) spos) (tAsg (tComp wi tc te js) (gName i)) := by
  intro pins s σ H D I h
  rw [exec_Assign_Name_used _ _ _ _ hsw]
  refine wpAny_bind (wpAny_standAt (wpAny_bind ?_))
  show wpAny _ X.A (do let _ ← comprehension (.ListComp elt [⟨.Name x px, iter, ifs, 0⟩] sc pos) sc X.env _ (newList []) false (eval iter X.env) (some (assign (.Name y py) X.env))) _ _ s
  refine wpAny_bind (wpAny_mono (wpAny_comprehension_free (use := some (assign (.Name y py) X.env)) (Q := fun _ s' => SP X pins D .next s') rfl hs (closure_eq (S.cells I)) S.kind S.names (thn (hi pins s σ H _ I h) fun v s1 h1 => thn h1 fun itv s2 h2 => ?_)) (fun _ s' hq => wpAny_pure (wpAny_pure hq)) fun _ _ e => e)
  obtain ⟨it, fp, tn, J, H2, e, I2, T, st2, f2, go⟩ := h2
  subst e
  refine comp_block S hcalm hc he I2 T st2 f2 go fun D' C HB sB σB acc its n hD hC hDC IB hHD hd rv hz q => ?_
  obtain ⟨m, hn, _⟩ := IB.loc
  have IE : Inv X pins σ (upd HB D' (.lst acc)) sB := comp_end (hB := sB.heap) (sc := sc) (x := x) (cap := cap) I2 f2 IB hC hD hDC hHD hd rv hz fun b o hb e => e
  refine wpAny_assign_Name (store_ok2 IE hN hi' hx (v := .ref D') rfl (fun s3 I3 hsb => ?_) hf)
  obtain ⟨a, sba, ha⟩ := hsb
  have aC : C ≠ a := by
    rcases ha with z | z
    · rw [z]; exact Nat.ne_of_gt (Nat.lt_of_lt_of_le I2.lt hC)
    · obtain ⟨v, o, ho, _⟩ := I2.cell y a z
      exact Nat.ne_of_gt (Nat.lt_of_lt_of_le (Heap.lt_size ho) hC)
  refine ⟨m, hn.sameBut sba aC, fun h' sb => ?_⟩
  refine ⟨σ.set i (some (.ref D')), upd HB D' (.lst acc), I3.turned (it := C) (t' := s3.toks) (fun b o hb e => sb.extBut b o hb e) (by rw [upd_ne (Ne.symm hDC)]; exact IB.free) (Nat.ne_of_gt (Nat.lt_of_lt_of_le I2.lt hC)) (.inr (Nat.le_trans I2.sz hC)) (fun y' c e => ?_) (fun p hp => ?_), q D' hHD⟩
  · obtain ⟨v, o, ho, _⟩ := I2.cell y' c e
    exact Nat.ne_of_lt (Nat.lt_of_lt_of_le (Heap.lt_size ho) hC)
  · exact Nat.ne_of_lt (Nat.lt_of_lt_of_le (Heap.lt_size (I2.pin p hp).1) hC)
end
end L2

end
section
set_option Elab.async false
set_option linter.all false
set_option maxRecDepth 100000
set_option maxHeartbeats 4000000
namespace L2
open PySem PySem.Spec PyProof.Rows

/-! ### == and != of flat lists and tuples -/
def eqVs : List V → List V → Bool
  | [], [] => true
  | x :: xs, y :: ys => eqV x y && eqVs xs ys
  | _, _ => false
theorem eqVs_len : ∀ {xs ys : List V}, xs.length ≠ ys.length → eqVs xs ys = false
  | [], [], h => absurd rfl h
  | [], _ :: _, _ => rfl
  | _ :: _, [], _ => rfl
  | x :: xs, y :: ys, h => by
    show (eqV x y && eqVs xs ys) = false
    rw [eqVs_len (xs := xs) (ys := ys) (fun e => h (by simp [e])), Bool.and_false]
theorem eqVs_range : ∀ {xs ys : List V}, xs.length = ys.length → (List.range xs.length).all (fun j => eqV (xs.getD j .non) (ys.getD j .non)) = eqVs xs ys
  | [], [], _ => rfl
  | [], _ :: _, h => by simp at h
  | _ :: _, [], h => by simp at h
  | x :: xs, y :: ys, h => by
    have ih := eqVs_range (xs := xs) (ys := ys) (by simpa using h)
    show (List.range (xs.length + 1)).all _ = (eqV x y && eqVs xs ys)
    rw [List.range_succ_eq_map, List.all_cons, List.all_map, ← ih]
    rfl
theorem eqVs_str : ∀ (as bs : List Str), eqVs (as.map V.str) (bs.map V.str) = decide (as = bs)
  | [], [] => rfl
  | [], _ :: _ => rfl
  | _ :: _, [] => rfl
  | a :: as, b :: bs => by
    show (eqV (.str a) (.str b) && eqVs (as.map V.str) (bs.map V.str)) = _
    rw [eqVs_str as bs]
    show ((a == b) && decide (as = bs)) = _
    rw [Bool.eq_iff_iff]
    simp
theorem vals_eqAt {A : Around} {s : Shared} {xs ys : List V} {us ws : List Value} (rx : Vals xs us) (ry : Vals ys ws) (fx : xs.all flatV = true) (fy : ys.all flatV = true) (j : Nat) (h1 : j < us.toArray.size) (h2 : j < ws.toArray.size) :
    SeqAt.EqAt A s us.toArray[j] ws.toArray[j] (eqV (xs.getD j .non) (ys.getD j .non)) := by
  have l1 := rx.length
  have l2 := ry.length
  rw [List.size_toArray] at h1 h2
  have e1 : xs[j]? = some (xs.getD j .non) := by rw [List.getD_eq_getElem?_getD, List.getElem?_eq_getElem (by omega)]; rfl
  have e2 : ys[j]? = some (ys.getD j .non) := by rw [List.getD_eq_getElem?_getD, List.getElem?_eq_getElem (by omega)]; rfl
  obtain ⟨u, q1, r1⟩ := rx.get e1
  obtain ⟨w, q2, r2⟩ := ry.get e2
  have t1 : us.toArray[j] = u := by
    rw [List.getElem_toArray]
    rw [List.getElem?_eq_getElem h1] at q1
    exact Option.some.inj q1
  have t2 : ws.toArray[j] = w := by
    rw [List.getElem_toArray]
    rw [List.getElem?_eq_getElem h2] at q2
    exact Option.some.inj q2
  rw [t1, t2]
  exact eqAt_V r1 r2 (List.all_eq_true.mp fx _ (List.mem_of_getElem? e1)) (List.all_eq_true.mp fy _ (List.mem_of_getElem? e2))
def rEqL (K : PySem.W.Frag) (neg : Bool) : R2 := fun x y H Q => ∃ p q xs ys, x = .ref p ∧ y = .ref q ∧ SqL K H p xs ∧ SqL K H q ys ∧ xs.all flatV = true ∧ ys.all flatV = true ∧ Q (.bl (if neg then !eqVs xs ys else eqVs xs ys)) H
def rEqT (K : PySem.W.Frag) (neg : Bool) : R2 := fun x y H Q => ∃ p q xs ys, x = .ref p ∧ y = .ref q ∧ SqT K H p xs ∧ SqT K H q ys ∧ xs.all flatV = true ∧ ys.all flatV = true ∧ Q (.bl (if neg then !eqVs xs ys else eqVs xs ys)) H
section
variable {X : Cx}
theorem op_eqL (hu : X.A.units < cLine) : OpR X (compareOp .Eq) (rEqL X.K false) := by
  intro pins s σ H x y v u Q I rx ry h
  obtain ⟨p, q, xs, ys, rfl, rfl, hp, hq, fx, fy, hQ⟩ := h
  cases rx
  cases ry
  obtain ⟨us, r1, p1, _⟩ := I.list hp
  obtain ⟨ws, r2, p2, _⟩ := I.list hq
  have l1 := r1.length
  have l2 := r2.length
  by_cases hl : xs.length = ys.length
  · refine SeqAt.eq_listAt (e := fun j => eqV (xs.getD j .non) (ys.getD j .non)) p1.isList p2.isList (by rw [List.size_toArray, List.size_toArray]; omega) hu (fun j h1 h2 => vals_eqAt r1 r2 fx fy j h1 h2) (fin_bl I hQ ?_)
    rw [List.size_toArray, ← l1, eqVs_range hl]
    rfl
  · refine SeqAt.eq_list_lengthsAt p1.isList p2.isList (by simp only [List.size_toArray, bne_iff_ne]; omega) hu (fin_bl I hQ ?_)
    rw [eqVs_len hl]
    rfl
theorem tup_ans {xs ys : List V} : ((List.range (min xs.length ys.length)).all (fun j => eqV (xs.getD j .non) (ys.getD j .non)) && xs.length == ys.length) = eqVs xs ys := by
  by_cases hl : xs.length = ys.length
  · rw [← hl, Nat.min_self, eqVs_range hl]
    simp
  · rw [eqVs_len hl]
    simp [hl]
theorem op_neT (hu : X.A.units < cLine) : OpR X (compareOp .NotEq) (rEqT X.K true) := by
  intro pins s σ H x y v u Q I rx ry h
  obtain ⟨p, q, xs, ys, rfl, rfl, hp, hq, fx, fy, hQ⟩ := h
  cases rx
  cases ry
  obtain ⟨us, r1, p1, _⟩ := I.tuple hp
  obtain ⟨ws, r2, p2, _⟩ := I.tuple hq
  have l1 := r1.length
  have l2 := r2.length
  refine SeqAt.RcNeAt.tuples (e := fun j => eqV (xs.getD j .non) (ys.getD j .non)) p1 p2 hu (fun j h1 h2 => vals_eqAt r1 r2 fx fy j h1 h2) _ _ _ _ (fin_bl I hQ ?_)
  rw [List.size_toArray, List.size_toArray, ← l1, ← l2, tup_ans]
  rfl
/-! ### texts: slices, split, join -/
theorem sl_str : SlR X (fun x lo hi H Q => ∃ z, x = .str z ∧ z.length ≤ sizeLine ∧ Q (.str (Txt.slice z lo hi)) H) := by
  intro pins s σ H x v vl vu lo hi sl Q I rx hs pl pu h
  obtain ⟨z, rfl, hz, q⟩ := h
  obtain ⟨t, rfl⟩ := rx
  refine ⟨"str", _, F.slot_str_getitem.lookup, typeIs_str _ _ _, ?_⟩
  have fin : ∀ t' k, EP X pins σ Q (.str (Txt.slice z lo hi) t') { s with toks := k } := fun t' k => ⟨.str _, H, I.tok _, ⟨_, rfl⟩, q⟩
  obtain ⟨o, h1, h2, h3⟩ := hs
  cases pl with
  | none =>
    cases pu with
    | none => exact wpAny_getItem_str_slice (l := none) (u := none) (st := none) ⟨o, h1, h2, h3⟩ rfl (post_val_or_str ⟨Nat.le_trans (Txt.slice_le z none none) hz, fin⟩)
    | int j u => exact wpAny_getItem_str_slice (l := none) (u := some (j, u)) (st := none) ⟨o, h1, h2, h3⟩ rfl (post_val_or_str ⟨Nat.le_trans (Txt.slice_le z none (some j)) hz, fin⟩)
  | int i u' =>
    cases pu with
    | none => exact wpAny_getItem_str_slice (l := some (i, u')) (u := none) (st := none) ⟨o, h1, h2, h3⟩ rfl (post_val_or_str ⟨Nat.le_trans (Txt.slice_le z (some i) none) hz, fin⟩)
    | int j u => exact wpAny_getItem_str_slice (l := some (i, u')) (u := some (j, u)) (st := none) ⟨o, h1, h2, h3⟩ rfl (post_val_or_str ⟨Nat.le_trans (Txt.slice_le z (some i) (some j)) hz, fin⟩)
theorem vals_strs : ∀ (l : List (Str × Tok)), Vals ((l.map (·.1)).map V.str) (strValues l)
  | [] => .nil
  | (x, t) :: r => .cons ⟨t, rfl⟩ (vals_strs r)
/-- x.split(y) -/
def rSplit : V → List V → Hp → VK → Prop := fun x vs H Q => ∃ z y, x = .str z ∧ vs = [.str y] ∧ y.length = 1 ∧ z.length + 2 ≤ sizeLine ∧ ∀ p, H p = none → Q (.ref p) (upd H p (.lst ((Txt.split z y).map V.str)))
theorem mt_split : MtR X "str.split" rSplit := by
  intro pins s σ H x vs v us Q I rx rv h
  obtain ⟨z, y, rfl, rfl, hy, hz, q⟩ := h
  obtain ⟨t, rfl⟩ := rx
  obtain ⟨u, rfl, t', rfl⟩ := rv.one
  have hn : (Builtin.Str.partsBetween z (Builtin.Str.occurrences z y 0 z.length (z.length + 1)) y.length).length ≤ sizeLine := by
    have e1 := StrLaws.occ_length_le z y 0 z.length (z.length + 1)
    rw [length_partsBetween]; omega
  have hy0 : (y.length == 0) = false := by rw [hy]; rfl
  have fin : ∀ (l : List (Str × Tok)) (tk : Nat), l.map (·.1) = Txt.split z y → (Txt.split z y).length ≤ sizeLine → EP X pins σ Q (.ref s.heap.objs.size) { s with toks := tk, heap := s.heap.push { cls := .type "list", data := .seq (strValues l).toArray } } := fun l tk e hl => by
    refine ⟨.ref s.heap.objs.size, _, I.lnew (t' := tk) (ys := (Txt.split z y).map V.str) ?_ (by rw [List.length_map]; exact hl), rfl, q _ I.fresh⟩
    rw [← e]
    exact vals_strs l
  cases h1 : (decide (z.length < y.length) || decide (Builtin.Str.strKind z < Builtin.Str.strKind y))
  · cases hf : (Builtin.Str.occurrences z y 0 z.length (z.length + 1)).isEmpty
    · have e : Txt.split z y = Builtin.Str.partsBetween z (Builtin.Str.occurrences z y 0 z.length (z.length + 1)) y.length := (if_neg (ne_true_of_eq_false h1)).trans (if_neg (ne_true_of_eq_false hf))
      refine call_meets F.slot_str_split (typeIs_str _ _ _) F.entry_str_split (F.args_str_split_2 _ _) (meets_str_split_sep z y t t' h1 hy0 hf (by omega) hn) ?_
      show wants _ _ _ { s with toks := _, heap := s.heap.push { cls := .type "list", data := .seq (strsFrom s.toks (Builtin.Str.partsBetween z (Builtin.Str.occurrences z y 0 z.length (z.length + 1)) y.length)).toArray } }
      rw [strsFrom_eq]
      exact fin (numbered s.toks _) _ ((numbered_texts _ _).trans e.symm) (by rw [e]; exact hn)
    · have e : Txt.split z y = [z] := (if_neg (ne_true_of_eq_false h1)).trans (if_pos hf)
      exact call_meets F.slot_str_split (typeIs_str _ _ _) F.entry_str_split (F.args_str_split_2 _ _) (meets_str_split_not_found z y t t' h1 hy0 hf) (fin [(z, t)] s.toks e.symm (by rw [e]; show 1 ≤ sizeLine; decide))
  · have e : Txt.split z y = [z] := if_pos h1
    exact call_meets F.slot_str_split (typeIs_str _ _ _) F.entry_str_split (F.args_str_split_2 _ _) (meets_str_split_cannot_occur z y t t' h1) (fin [(z, t)] s.toks e.symm (by rw [e]; show 1 ≤ sizeLine; decide))
/-! ### all(xs), isinstance(x, T) -/
theorem all_range : ∀ bs : List Bool, (List.range bs.length).all (fun j => bs.getD j true) = bs.all id
  | [] => rfl
  | b :: bs => by
    show (List.range (bs.length + 1)).all _ = _
    rw [List.range_succ_eq_map, List.all_cons, List.all_map, List.all_cons]
    show (b && (List.range bs.length).all fun j => bs.getD j true) = _
    rw [all_range bs]
    rfl
theorem call_all_bl (hc : X.calm = true) : CallR X (.builtin "all") (fun xs H Q => ∃ p bs, xs = [.ref p] ∧ SqL X.K H p ((bs : List Bool).map V.bl) ∧ Q (.bl (bs.all id)) H) := by
  intro pins s σ H xs us Q I r h
  obtain ⟨p, bs, rfl, hp, q⟩ := h
  obtain ⟨u, rfl, ru⟩ := vals1 r
  cases ru
  obtain ⟨its, r1, p1, _⟩ := I.list hp
  have hl := r1.length
  rw [List.length_map] at hl
  refine call_all_walk (wpAny_pyIter_list p1.isList ?_)
  obtain ⟨ol, n, hol, hcl, hdl, hsl⟩ := id p1
  have hne : p ≠ s.heap.objs.size := Nat.ne_of_lt (Heap.lt_size hol)
  refine ⟨s.heap.objs.size, [s.heap.objs.size, p], [s.heap.objs.size], its.toArray.size, _, _, fun j => bs.getD j true, rfl, Walks.list (by exact I.ok.hd hc) s.heap.objs.size p hne its.toArray,
    ⟨⟨_, Heap.get?_push_size _ rfl, rfl, rfl⟩, ⟨ol, Heap.get?_push_of_some _ hol, hcl, n, hsl⟩⟩, ?_, fun h' tk k => ?_⟩
  · intro j v s' Q' E' hv hq
    have hv : its.toArray[j]? = some v := hv
    have e0 : its[j]? = some v := by simpa using hv
    have hj : j < its.length := (List.getElem?_eq_some_iff.mp e0).1
    have e1 : (bs.map V.bl)[j]? = some (V.bl (bs.getD j true)) := by
      rw [List.getElem?_map, List.getD_eq_getElem?_getD, List.getElem?_eq_getElem (by omega)]
      rfl
    obtain ⟨w, q1, rw'⟩ := r1.get e1
    rw [e0] at q1
    cases q1
    cases rw'
    exact wpAny_truthy_bool hq
  · have e : (List.range its.toArray.size).all (fun j => bs.getD j true) = bs.all id := by
      rw [List.size_toArray, ← hl]
      exact all_range bs
    rw [e]
    have I2 : Inv X pins σ H { s with heap := h', toks := tk } := by
     refine I.kept (t' := tk) (h' := h') fun b o e => k b o ?_ (Heap.get?_push_of_some _ e)
     intro z
     have : b = s.heap.objs.size := by simpa using z
     exact absurd (Heap.lt_size e) (by rw [this]; exact Nat.lt_irrefl _)
    exact ⟨.bl _, H, I2, rfl, q⟩
theorem call_isi : CallR X (.builtin "isinstance") (fun xs H Q => ∃ x c t b, xs = [x, .ty c] ∧ TyOf X.K H x t ∧ PySem.W.kitOne X.K t (.type c) = some b ∧ Q (.bl b) H) := by
  intro pins s σ H xs us Q I r h
  obtain ⟨x, c, t, b, rfl, ty, e, q⟩ := h
  obtain ⟨u, w', rfl, r1, r2⟩ := vals2 r
  cases r2
  exact isinst_ok I r1 ty e fun tk => ⟨.bl b, H, I.tok _, rfl, q⟩
end
theorem kit_bool_bool (K : PySem.W.Frag) : PySem.W.kitOne K (.type "bool") (.type "bool") = some true := by with_unfolding_all rfl
theorem kit_int_bool (K : PySem.W.Frag) : PySem.W.kitOne K (.type "int") (.type "bool") = some false := by with_unfolding_all rfl
end L2

end
section
set_option Elab.async false
set_option linter.all false
set_option maxRecDepth 100000
set_option maxHeartbeats 4000000
namespace L2
open PySem PySem.Spec PyProof.Rows
/-- a def of the text under its global name -/
def Def (K : PySem.W.Frag) (mg : Str → Option Value) (x : Str) (st : Stmt) (ps : List Str) : Prop := ∃ f fd, Fun K x x st f fd ∧ mg x = some (.ref f) ∧ Binds K fd ps []
/-- a global def that keeps its promise -/
def Has (P : Program) (w : World) (K : PySem.W.Frag) (mg : Str → Option Value) (base : Heap) (k : Nat) (x : Str) (ps : List Str) (sp : Sp) : Prop :=
  ∃ f fd, FnOk P w K mg base CX0 k f fd ps sp ∧ mg x = some (.ref f) ∧ PySem.W.keepIn K (.ref f) = true ∧ Binds K fd ps [] ∧ ∃ oc od osl, K.lookup f = some ⟨oc, od, .func fd, osl⟩
theorem Def.ok {P : Program} {w : World} {K : PySem.W.Frag} {mg : Str → Option Value} {base : Heap} {x : Str} {st : Stmt} {N ps : List Str} {k : Nat} {sp : Sp} (D : Def K mg x st ps) (S : FnScope N ps (defScope st)) (len : ∀ vs H Q E, sp vs H Q E → vs.length = ps.length)
    (hbody : ∀ (f : Addr) (cdv : Value) (A : Around) (outer : List Env) (s : Shared) (H : Hp) (vs : List V) (Q : VK) (E : XK), Room k (A.deeper (envOfC x (defScope st) s.heap.objs.size f cdv)) → sp vs H Q E →
      ∃ t, PSs (cxOf CX0 P w K mg base N x (defScope st) f cdv A outer s H E).nox (defBody st) t ∧ t { nx := fun _ H' => Q .non H', rt := Q } (start N vs) H) : Has P w K mg base (k + 1) x ps sp := by
  obtain ⟨f, fd, F, hm, hb⟩ := D
  exact ⟨f, fd, F.ok S len (fun cdv A outer s H vs Q E hr h => hbody f cdv A outer s H vs Q E hr h), hm, F.kp, hb, by
    obtain ⟨oc, od, kV, doc, pm, an, cdv, ct, osl, rfl, lk, hcd⟩ := F.ex
    exact ⟨oc, od, osl, lk⟩⟩
section
variable {X : Cx} {k : Nat} {x : Str} {ps : List Str} {sp : Sp} {e : Expr} {es : List Expr} {t : TA} {p pos : Pos}
theorem pe_fn (G : Has X.prog X.w X.K X.mg X.base k x ps sp) (hr : Room k X.A) (hg : Gl X x) (ha : PA X (e :: es) t) (hdb : (x == ("__debug__" : Str)) = false := by decide) (he : starEach (e :: es) X.env = (false, eval e X.env) :: starEach es X.env := by rfl) (hpl : (backTo pos (starEach es X.env)).any (·.1) = false := by rfl) :
    PE X (.Call (.Name x p) (e :: es) [] pos) (tCall sp [] E0 t) := by
  obtain ⟨f, fd, F, hm, hk, hb, _⟩ := G
  exact pe_call F hr hg hm hk hb .nil pass0 ha hdb he hpl
end
/-- a promise by a plain function of the values: what was tracked stays -/
def Keeps (H : Hp) (Q : VK) (v : V) : Prop := ∀ H', Same H H' → Q v H'
end L2
namespace L2
open PySem PySem.Spec PyProof.Rows
theorem Has.at {P : Program} {w : World} {K : PySem.W.Frag} {mg : Str → Option Value} {base : Heap} {k : Nat} {x : Str} {ps : List Str} {sp : Sp} {st : Stmt} {f : Addr} {fd : FuncData} (G : Has P w K mg base k x ps sp) (hm : mg x = some (.ref f)) (F : Fun K x x st f fd) : FnOk P w K mg base CX0 k f fd ps sp := by
  obtain ⟨f', fd', FO, hm', hk, hb, oc', od', osl', lk'⟩ := G
  have e := hm'.symm.trans hm
  cases e
  obtain ⟨oc, od, kV, doc, pm, an, cdv, ct, osl, rfl, lk, hcd⟩ := F.ex
  rw [lk] at lk'
  have e2 := Option.some.inj lk'
  injection e2 with _ _ e3 _
  injection e3 with e4
  rw [e4]
  exact FO
end L2
namespace L2
open PySem PySem.Spec PyProof.Rows
theorem small_size {n : Nat} (h : n ≤ 1000000) : n + 2 ≤ sizeLine := by rw [sizeLine_eq]; omega
theorem small_size' {n : Nat} (h : n ≤ 1000000) : n ≤ sizeLine := by rw [sizeLine_eq]; omega
theorem split_i {z y : Str} {H : Hp} {Q : VK} (hy : y.length = 1) (hz : z.length ≤ 1000000) (h : ∀ p, H p = none → Q (.ref p) (upd H p (.lst ((Txt.split z y).map V.str)))) : rSplit (.str z) [.str y] H Q :=
  ⟨z, y, rfl, rfl, hy, small_size hz, h⟩
theorem all_flat_str (l : List Str) : (l.map V.str).all flatV = true := by
  rw [List.all_eq_true]
  intro x hx
  obtain ⟨a, _, rfl⟩ := List.mem_map.mp hx
  rfl
/-- xs[:n] -/
theorem cut_to (xs : List V) (n : Nat) : cutV xs none (some (n : Int)) = xs.take n := by
  have e : HT.sIx xs.length xs.length (some (n : Int)) = min n xs.length := by
    unfold HT.sIx
    simp
    try omega
  have e0 : HT.sIx xs.length 0 none = 0 := rfl
  unfold cutV
  rw [e, e0]
  simp
theorem Same.upd {H : Hp} {p : Addr} {o : HO} (h : H p = none) : Same H (upd H p o) := fun b u e => by
  rw [upd_ne (ne_of_none e h)]
  exact e
end L2
namespace L2
open PySem PySem.Spec PyProof.Rows
/-! ### loops: the iterator known, the word still to be said -/
def ForGo (J : It) (g : TG) (tb : TS) (D : Ends) (σ : St) (H : Hp) : Prop := ∃ W : Nat → Nat → St → Hp → Prop, (∃ m, W 0 m σ H) ∧ ∀ i m σ H, W i m σ H →
  (J.stop i H ∧ D.nx σ H) ∨ (J.go i H ∧ ∃ N : St → Hp → Prop, (∀ σ' H', N σ' H' → ∃ m', m' < m ∧ W (i + 1) m' σ' H') ∧ ∀ x H', J.yld i H x H' → g x σ H' fun σ2 H2 => tb { D with nx := N, ct := N, bk := D.nx } σ2 H2)
theorem tFor_def (wi : TI) (g : TG) (tb : TS) (D : Ends) (σ : St) (H : Hp) : tFor wi g tb D σ H = wi σ H fun J H1 => ForGo J g tb D σ H1 := rfl
theorem iRng1_def (ta : TA) (σ : St) (H : Hp) (R : It → Hp → Prop) : iRng1 ta σ H R = ta σ H fun vs H1 => ∃ j : Int, vs = [.int j] ∧ (-(2 ^ 62) ≤ j ∧ j < 2 ^ 62) ∧ R (Itr 0 j.toNat) H1 := by
  unfold iRng1
  simp only [and_assoc]
theorem iRng2_def (ta : TA) (σ : St) (H : Hp) (R : It → Hp → Prop) : iRng2 ta σ H R = ta σ H fun vs H1 => ∃ i j : Int, vs = [.int i, .int j] ∧ (-(2 ^ 62) ≤ i ∧ i < 2 ^ 62 ∧ -(2 ^ 62) ≤ j ∧ j < 2 ^ 62) ∧ R (Itr i (j - i).toNat) H1 := rfl
theorem forgo_range {lo : Int} {n : Nat} {g : TG} {tb : TS} {D : Ends} {σ : St} {H : Hp} (sp : Nat → St → Hp → Prop) (h0 : sp 0 σ H)
    (hs : ∀ (Pv : Nat → St → Hp → Prop), (∀ i σ H, sp i σ H → Pv i σ H) → ∀ i σ H, i < n → sp i σ H → g (.int (lo + i)) σ H fun σ2 H2 => tb { D with nx := Pv (i + 1), ct := Pv (i + 1), bk := D.nx } σ2 H2) (hd : ∀ σ H, sp n σ H → D.nx σ H) : ForGo (Itr lo n) g tb D σ H :=
  for_range sp h0 (hs sp fun _ _ _ h => h) hd
theorem forgo_list {K : PySem.W.Frag} {a : Addr} {xs : List V} {g : TG} {tb : TS} {D : Ends} {σ : St} {H : Hp} (sp : Nat → St → Hp → Prop) (h0 : sp 0 σ H) (hl : ∀ i σ H, i ≤ xs.length → sp i σ H → SqL K H a xs)
    (hs : ∀ (Pv : Nat → St → Hp → Prop), (∀ i σ H, sp i σ H → Pv i σ H) → ∀ i x σ H, xs[i]? = some x → sp i σ H → g x σ H fun σ2 H2 => tb { D with nx := Pv (i + 1), ct := Pv (i + 1), bk := D.nx } σ2 H2) (hd : ∀ σ H, sp xs.length σ H → D.nx σ H) : ForGo (Itl K a) g tb D σ H :=
  for_list sp h0 hl (hs sp fun _ _ _ h => h) hd
/-! ### comprehensions whose parts are plain functions of the item: what was tracked stays -/
theorem tComp_def (wi : TI) (tc : TT) (te : TE) (js : List Nat) (σ : St) (H : Hp) (Q : VK) : tComp wi tc te js σ H Q = wi σ H fun J H1 => CompGo J tc te js σ H1 Q := rfl
/-- one turn further -/
def Nx (n : Nat) (Pv : Nat → List V → Hp → Prop) (i : Nat) (acc : List V) (H : Hp) : Prop := ∃ m', m' < n - i ∧ m' = n - (i + 1) ∧ i + 1 ≤ n ∧ Pv (i + 1) acc H
theorem nx {n : Nat} {Pv : Nat → List V → Hp → Prop} {i : Nat} {acc : List V} {H : Hp} (hi : i < n) (h : Pv (i + 1) acc H) : Nx n Pv i acc H := ⟨n - (i + 1), by omega, rfl, hi, h⟩
/-- n items: the word Pv of the turn, the list made so far, the heap -/
theorem compgo_gen {J : It} {tc : TT} {te : TE} {js : List Nat} {σ : St} {H1 : Hp} {Q : VK} (n : Nat) (hn : n ≤ sizeLine) (Pv : Nat → List V → Hp → Prop) (h0 : Pv 0 [] H1) (hlen : ∀ i acc H, Pv i acc H → acc.length ≤ i)
    (hgo : ∀ i acc H, i < n → Pv i acc H → J.go i H) (hstop : ∀ acc H, Pv n acc H → J.stop n H)
    (hs : ∀ i acc H x H', i < n → Pv i acc H → J.yld i H x H' → tc (some x :: capt σ js) H' fun b H2 => if b = true then te (some x :: capt σ js) H2 fun v H3 => Nx n Pv i (acc ++ [v]) H3 else Nx n Pv i acc H2)
    (hd : ∀ acc H, Pv n acc H → ∀ p, H p = none → Q (.ref p) (upd H p (.lst acc))) : CompGo J tc te js σ H1 Q := by
  refine ⟨fun i m acc H => m = n - i ∧ i ≤ n ∧ Pv i acc H, ⟨n, by simp, Nat.zero_le _, h0⟩, ?_⟩
  rintro i m acc H ⟨rfl, hi, p⟩
  by_cases hlt : i < n
  · exact .inr ⟨hgo i acc H hlt p, by have := hlen i acc H p; omega, fun x H' y => hs i acc H x H' hlt p y⟩
  · have e : i = n := by omega
    subst e
    exact .inl ⟨hstop acc H p, hd acc H p⟩
/-- over a range -/
theorem compgo_range0 {lo : Int} {n : Nat} {tc : TT} {te : TE} {js : List Nat} {σ : St} {H1 : Hp} {Q : VK} (hn : n ≤ sizeLine) (Pv : Nat → List V → Hp → Prop) (h0 : Pv 0 [] H1) (hlen : ∀ i acc H, Pv i acc H → acc.length ≤ i)
    (hs : ∀ i acc H, i < n → Pv i acc H → tc (some (.int (lo + i)) :: capt σ js) H fun b H2 => if b = true then te (some (.int (lo + i)) :: capt σ js) H2 fun v H3 => Nx n Pv i (acc ++ [v]) H3 else Nx n Pv i acc H2)
    (hd : ∀ acc H, Pv n acc H → ∀ p, H p = none → Q (.ref p) (upd H p (.lst acc))) : CompGo (Itr lo n) tc te js σ H1 Q := by
  refine compgo_gen n hn Pv h0 hlen (fun i acc H hi p => hi) (fun acc H p => Nat.le_refl _) (fun i acc H x H' hi p y => ?_) hd
  obtain ⟨e, y⟩ := y
  subst e y
  exact hs i acc H' hi p
/-- over a list that stays -/
theorem compgo_list0 {K : PySem.W.Frag} {a : Addr} {xs : List V} {tc : TT} {te : TE} {js : List Nat} {σ : St} {H1 : Hp} {Q : VK} (hn : xs.length ≤ sizeLine) (Pv : Nat → List V → Hp → Prop) (h0 : Pv 0 [] H1) (hlen : ∀ i acc H, Pv i acc H → acc.length ≤ i) (hl : ∀ i acc H, Pv i acc H → SqL K H a xs)
    (hs : ∀ i acc H x, xs[i]? = some x → i < xs.length → Pv i acc H → tc (some x :: capt σ js) H fun b H2 => if b = true then te (some x :: capt σ js) H2 fun v H3 => Nx xs.length Pv i (acc ++ [v]) H3 else Nx xs.length Pv i acc H2)
    (hd : ∀ acc H, Pv xs.length acc H → ∀ p, H p = none → Q (.ref p) (upd H p (.lst acc))) : CompGo (Itl K a) tc te js σ H1 Q := by
  refine compgo_gen xs.length hn Pv h0 hlen (fun i acc H hi p => ⟨xs, xs[i], hl i acc H p, by simp [hi]⟩) (fun acc H p => ⟨xs, hl _ acc H p, Nat.le_refl _⟩) (fun i acc H x H' hi p y => ?_) hd
  obtain ⟨e, y⟩ := y
  subst e
  exact hs i acc H' x (y xs (hl i acc H' p)) hi p
theorem compgo_range {lo : Int} {n : Nat} {tc : TT} {te : TE} {js : List Nat} {σ : St} {H1 : Hp} {Q : VK} (hn : n ≤ sizeLine) (sp : Nat → List V → Hp → Prop) (h0 : sp 0 [] H1) (hlen : ∀ i acc H, sp i acc H → acc.length ≤ i)
    (hs : ∀ (Nt : List V → Hp → Prop) i acc H, (∀ acc H, sp (i + 1) acc H → Nt acc H) → i < n → sp i acc H → tc (some (.int (lo + i)) :: capt σ js) H fun b H2 => if b = true then te (some (.int (lo + i)) :: capt σ js) H2 fun v H3 => Nt (acc ++ [v]) H3 else Nt acc H2)
    (hd : ∀ acc H, sp n acc H → ∀ p, H p = none → Q (.ref p) (upd H p (.lst acc))) : CompGo (Itr lo n) tc te js σ H1 Q :=
  compgo_range0 hn sp h0 hlen (fun i acc H hi p => hs (Nx n sp i) i acc H (fun _ _ h => nx hi h) hi p) hd
theorem compgo_list {K : PySem.W.Frag} {a : Addr} {xs : List V} {tc : TT} {te : TE} {js : List Nat} {σ : St} {H1 : Hp} {Q : VK} (hn : xs.length ≤ sizeLine) (sp : Nat → List V → Hp → Prop) (h0 : sp 0 [] H1) (hlen : ∀ i acc H, sp i acc H → acc.length ≤ i) (hl : ∀ i acc H, sp i acc H → SqL K H a xs)
    (hs : ∀ (Nt : List V → Hp → Prop) i acc H x, (∀ acc H, sp (i + 1) acc H → Nt acc H) → xs[i]? = some x → i < xs.length → sp i acc H → tc (some x :: capt σ js) H fun b H2 => if b = true then te (some x :: capt σ js) H2 fun v H3 => Nt (acc ++ [v]) H3 else Nt acc H2)
    (hd : ∀ acc H, sp xs.length acc H → ∀ p, H p = none → Q (.ref p) (upd H p (.lst acc))) : CompGo (Itl K a) tc te js σ H1 Q :=
  compgo_list0 hn sp h0 hlen hl (fun i acc H x hx hi p => hs (Nx xs.length sp i) i acc H x (fun _ _ h => nx hi h) hx hi p) hd
end L2
namespace L2
open PySem PySem.Spec PyProof.Rows
/-- a cut behind a statement: what is wanted there is said once -/
def tCut (t u : TS) : TS := fun D σ H => ∃ Mid : St → Hp → Prop, t { D with nx := Mid } σ H ∧ ∀ σ H, Mid σ H → u D σ H
theorem pss_cut {X : Cx} {st : Stmt} {rest : List Stmt} {t u : TS} (h1 : PS X st t) (h2 : PSs X rest u) : PSs X (st :: rest) (tCut t u) := by
  intro pins s σ H D I ⟨Mid, h, hm⟩
  refine wpAny_execs_cons (thn (h1 pins s σ H { D with nx := Mid } I h) fun f s1 q => ?_)
  cases f with
  | next =>
    obtain ⟨σ', H', I', q⟩ := q
    exact h2 pins s1 σ' H' D I' (hm σ' H' q)
  | ret v => exact q
  | brk => exact q
  | cont => exact q
theorem cut_i {t u : TS} {D : Ends} {σ : St} {H : Hp} (sp : St → Hp → Prop) (h1 : ∀ Mid : St → Hp → Prop, (∀ σ H, sp σ H → Mid σ H) → t { D with nx := Mid } σ H) (h2 : ∀ σ H, sp σ H → u D σ H) : tCut t u D σ H := ⟨sp, h1 sp fun _ _ h => h, h2⟩
theorem cdiv {i j : Int} (h1 : 0 < j) (h2 : j < 1073741824) : CDiv i j := ⟨h1, h2⟩
end L2
namespace L2
open PySem PySem.Spec PyProof.Rows
def freeOk (dn cn : List (Str × NameKind)) : Bool := cn.all fun y => (y.2 != .free) || (dn.lookup y.1 == some .cell) || (dn.lookup y.1 == some .free)
theorem freeOk_free {X : Cx} {sc : Scope} (h : freeOk X.env.scope.names sc.names = true) : ∀ y ∈ sc.names, y.2 = .free → X.env.kindOf y.1 = some .cell ∨ X.env.kindOf y.1 = some .free := by
  intro y hy hf
  have := List.all_eq_true.mp h y hy
  rw [hf] at this
  simp at this
  exact this
end L2

end
section
set_option Elab.async false
set_option linter.all false
set_option maxRecDepth 100000
set_option maxHeartbeats 4000000
/-! Own rules over the layer: errors of own classes, raised, passed on, caught. -/
namespace L2
open PySem PySem.Spec PyProof.Rows

/-- the object of a tracked address is there -/
theorem ObjOk.here {P : Program} {w : World} {H : Hp} {h : Heap} {a : Addr} {o : HO} (x : ObjOk P w H h a o) : ∃ ob, h.get? a = some ob := by
  cases o with
  | lst xs => obtain ⟨_, _, _, _, e⟩ := x; exact ⟨_, e⟩
  | tup xs => obtain ⟨_, _, _, ob, e, _⟩ := x; exact ⟨_, e⟩
  | dK kvs => obtain ⟨_, _, _, _, ob, _, _, e, _⟩ := x; exact ⟨_, e⟩
  | dT kvs => obtain ⟨_, _, _, _, ob, _, _, e, _⟩ := x; exact ⟨_, e⟩
  | set S n => obtain ⟨ob, _, _, _, e, _⟩ := x; exact ⟨_, e⟩
  | ins C dx fs => obtain ⟨_, _, _, e, _⟩ := x; exact ⟨_, e⟩
  | own y => obtain ⟨ob, e⟩ := x; exact ⟨_, e⟩
  | xd fs => obtain ⟨_, ⟨ob, _, _, e, _⟩, _⟩ := x; exact ⟨_, e⟩
  | rng lo hi => obtain ⟨_, _, _, e⟩ := x; exact ⟨_, e⟩
  | frz ob u => obtain ⟨e, _⟩ := x; exact ⟨_, e⟩
  | tbl ps => exact ⟨_, (show h.get? a = some _ from x)⟩
  | met f y => exact ⟨_, (show h.get? a = some _ from x)⟩
  | ext φ => obtain ⟨_, ⟨ob, e⟩, _⟩ := x; exact ⟨_, e⟩

/-- what is tracked lies in a part B that both heaps keep -/
theorem fly_hok {P : Program} {w : World} {H : Hp} {B h h' : Heap} (k : B.StaysIn h) (k' : B.StaysIn h') (tr : ∀ b u, H b = some u → ∃ o, B.get? b = some o) (ok : HOk P w H h) : HOk P w H h' := fun a o e =>
  (ok a o e).stay (fun b u hb q => by
    have hbt : ∃ v, H b = some v := by
      rcases hb with z | z
      · exact ⟨o, by rw [z]; exact e⟩
      · exact ⟨_, z⟩
    obtain ⟨v, hv⟩ := hbt
    obtain ⟨ob, hob⟩ := tr b v hv
    have := k b ob hob
    rw [q] at this
    cases this
    exact k' b u hob) (fun _ q => q) fun _ _ q => q
theorem fly_un {fs : List Addr} {H H' : Hp} {g B h h' : Heap} (k : B.StaysIn h) (k' : B.StaysIn h') (hfr : ∀ b ∈ fs, ∃ o, h.get? b = some o ∧ ∀ vs, o.data ≠ .fields vs) (up : h.UpToSlots h')
    (old : ∀ b o, g.get? b = some o → b ∉ fs → ∃ o', B.get? b = some o') (u : Un fs [] H H' g h) : Un fs [] H H' g h' where
  keep := fun b o q n hb hx => by
    obtain ⟨ob, hob⟩ := old b o q hb
    have e1 := u.keep b o q n hb hx
    have e2 := k b ob hob
    rw [e1] at e2
    cases e2
    exact k' b o hob
  slot := fun b o q n hb hx => by
    obtain ⟨sl, e1⟩ := u.slot b o q n hb hx
    obtain ⟨o2, e2, d2⟩ := hfr b hb
    rw [e1] at e2
    cases e2
    obtain ⟨sl', e3⟩ := up b _ e1 d2
    exact ⟨sl', e3⟩
  free := u.free
  there := fun b o q hx => by
    by_cases hb : b ∈ fs
    · obtain ⟨o2, e2, d2⟩ := hfr b hb
      obtain ⟨sl', e3⟩ := up b _ e2 d2
      exact ⟨_, e3⟩
    · obtain ⟨ob, hob⟩ := old b o q hb
      exact ⟨ob, k' b ob hob⟩
  tups := u.tups
  frzs := u.frzs
  tbls := u.tbls

/-- an error of an own class leaves a def -/
def CX1 (P : Program) (w : World) : CXT := fun outer H s E e s' => ∃ (x C t : Addr) (B : Heap) (H' : Hp), e = .ref x ∧ s'.os = s.os ∧ AllBare s'.gens ∧ Un (frs outer) [] H H' s.heap s'.heap ∧ HOk P w H' s'.heap ∧
  Heap.FlyingW B outer x (.ref C) (.ref t) s'.heap ∧ (∀ b u, H' b = some u → ∃ o, B.get? b = some o) ∧ (∀ b o, s.heap.get? b = some o → b ∉ frs outer → ∃ o', B.get? b = some o') ∧ E (.ref C) none H'

/-- an error that is made here reaches what the code wants of errors -/
def Throws (X : Cx) (E : XK) : Prop := ∀ (pins : List (Addr × Obj)) (σ : St) (H : Hp) (s : Shared) (x C : Addr) (args : List Value) (h' : Heap), Inv X pins σ H s → Heap.MadeExcOf s.heap h' x (.ref C) args → E (.ref C) none H → X.xe (.ref x) { s with heap := h' }

section
variable {P : Program} {w : World} {K : PySem.W.Frag} {mg : Str → Option Value} {base : Heap} {N : List Str} {qual : Str} {sc : Scope} {f : Addr} {cd : Value} {A : Around} {outer : List Env} {s : Shared} {H : Hp} {E : XK}
theorem throws_cx : Throws (cxOf (CX1 P w) P w K mg base N qual sc f cd A outer s H E) E := by
  intro pins σ H2 s2 x C args h' I hx hE
  have hfrm := I.ok.frames
  have hin : ∀ env ∈ (cxOf (CX1 P w) P w K mg base N qual sc f cd A outer s H E).stack, ∀ a, env.frame = some a → a ∈ frs (cxOf (CX1 P w) P w K mg base N qual sc f cd A outer s H E).stack := fun env he a ha => List.mem_filterMap.mpr ⟨env, he, ha⟩
  have hL : (cxOf (CX1 P w) P w K mg base N qual sc f cd A outer s H E).env.locals = s.heap.objs.size := rfl
  have nfr : ∀ b o, s.heap.get? b = some o → b ∉ frs outer → b ∉ frs (cxOf (CX1 P w) P w K mg base N qual sc f cd A outer s H E).stack := fun b o q hb z => by
    rcases List.mem_cons.mp (I.stkSub b z) with e | e
    · rw [hL] at e
      exact absurd (Heap.lt_size q) (by rw [e]; exact Nat.lt_irrefl _)
    · exact hb e
  have sub : ∀ b ∈ frs outer, b ∈ frs (cxOf (CX1 P w) P w K mg base N qual sc f cd A outer s H E).stack := fun b hb => by
    obtain ⟨env, he, hf⟩ := List.mem_filterMap.mp hb
    exact List.mem_filterMap.mpr ⟨env, List.mem_cons_of_mem _ he, hf⟩
  have stB : (PySem.W.hideAll s2.heap (frs (cxOf (CX1 P w) P w K mg base N qual sc f cd A outer s H E).stack)).StaysIn s2.heap := fun b o q => PySem.W.of_hideAll _ q
  have tr : ∀ b u, H2 b = some u → ∃ o, (PySem.W.hideAll s2.heap (frs (cxOf (CX1 P w) P w K mg base N qual sc f cd A outer s H E).stack)).get? b = some o := fun b u q => by
    obtain ⟨ob, hob⟩ := (I.hok b u q).here
    exact ⟨ob, PySem.W.hideAll_get _ hob fun z => by rw [I.stkFree b z] at q; cases q⟩
  have old : ∀ b o, s.heap.get? b = some o → b ∉ frs outer → ∃ o', (PySem.W.hideAll s2.heap (frs (cxOf (CX1 P w) P w K mg base N qual sc f cd A outer s H E).stack)).get? b = some o' := fun b o q hb => by
    obtain ⟨o', e⟩ := I.base.there b o q (by simp [cxOf])
    exact ⟨o', PySem.W.hideAll_get _ e (nfr b o q hb)⟩
  refine wpAny_leaves_madeW (h := s2.heap) hfrm rfl stB (PySem.W.funFrames_hide I.stack hin) hx fun h2 t fl tp nt up => ?_
  have up2 : s2.heap.UpToSlots h2 := fun b o q d => up b o (hx.keeps b o q) d
  exact ⟨x, C, t, _, H2, rfl, I.os, I.bare, fly_un stB fl.1 (fun b hb => (I.stack.mem (sub b hb)).2) up2 old I.base, fly_hok stB fl.1 tr I.hok, fl, tr, old, hE⟩
theorem passes_cx : Passes (CX1 P w) (cxOf (CX1 P w) P w K mg base N qual sc f cd A outer s H E) E := by
  intro pins σ H1 s1 e s' I hq
  obtain ⟨x, C, t, B, H', rfl, os, bare, un, hok, fl, tr, old, hE⟩ := hq
  have J : Inv (cxOf (CX1 P w) P w K mg base N qual sc f cd A outer s H E) pins σ H' s' := I.call' (ch := []) os un hok bare (fun b z => absurd z (by simp))
  have hL : (cxOf (CX1 P w) P w K mg base N qual sc f cd A outer s H E).env.locals = s.heap.objs.size := rfl
  have nfr : ∀ b o, s.heap.get? b = some o → b ∉ frs outer → b ∉ frs (cxOf (CX1 P w) P w K mg base N qual sc f cd A outer s H E).stack := fun b o q hb z => by
    rcases List.mem_cons.mp (I.stkSub b z) with e | e
    · rw [hL] at e
      exact absurd (Heap.lt_size q) (by rw [e]; exact Nat.lt_irrefl _)
    · exact hb e
  have old2 : ∀ b o, s.heap.get? b = some o → b ∉ frs outer → ∃ o', B.get? b = some o' := fun b o q hb => by
    obtain ⟨o', e⟩ := I.base.there b o q (by simp [cxOf])
    exact old b o' e (nfr b o q hb)
  have sub : ∀ b ∈ frs outer, b ∈ frs (cxOf (CX1 P w) P w K mg base N qual sc f cd A outer s H E).stack := fun b hb => by
    obtain ⟨env, he, hf⟩ := List.mem_filterMap.mp hb
    exact List.mem_filterMap.mpr ⟨env, List.mem_cons_of_mem _ he, hf⟩
  refine wpAny_leaves_onW I.ok.frames rfl fl fun h2 fl2 up => ?_
  exact ⟨x, C, t, B, H', rfl, J.os, J.bare, fly_un fl.1 fl2.1 (fun b hb => (J.stack.mem (sub b hb)).2) up old2 J.base, fly_hok fl.1 fl2.1 tr J.hok, fl2, tr, old2, hE⟩
end

/-! ### raise C(..) -/
theorem exc_obj {K : PySem.W.Frag} {h : Heap} {C : Addr} {bmB : List Value} {nid : String} (X : K.In h) (q : PySem.W.excIn K C bmB nid = true) :
    ∃ bm N nm qn bs hd sn sub ab col dd k0 k1 k2 k3 k5 mN, h.get? C = some (excClassObj nm qn C N bs bm hd sn sub ab col dd k0 k1 k2 k3 k5 nid) ∧ h.Ns N mN ∧ mN "__init__" = none ∧ OwnTail h bmB bm := by
  unfold PySem.W.excIn at q
  split at q
  case h_2 => cases q
  case h_1 dd cd sl look =>
    split at q
    case h_2 => cases q
    case h_1 C2 bm a0 a1 a2 a3 nm2 a5 hmro hslots =>
      rw [Bool.and_eq_true, Bool.and_eq_true, Bool.and_eq_true, Bool.and_eq_true, Bool.and_eq_true] at q
      obtain ⟨⟨⟨⟨⟨q1, q2⟩, q3⟩, q4⟩, q5⟩, q6⟩ := q
      have e1 : C2 = C := by simpa using q1
      have e2 : nm2 = nid := by simpa using q2
      subst e1 e2
      obtain ⟨c1, c2, c3, c4, c5, c6, c7, c8, c9, c10, c11⟩ := cd
      have e3 : c11 = false := by simpa using q3
      have e4 : c3 = .ref C2 :: bm := hmro
      have e6 : sl = #[a0, a1, a2, a3, some (.builtin nm2), a5] := Array.toList_inj.mp hslots
      rw [e3, e4, e6] at look
      exact ⟨bm, _, _, _, _, _, _, _, _, _, _, _, _, _, _, _, _, X _ _ look, .of_isNs (PySem.W.isNs_of_in X q5), PySem.W.nsMap_none_of_in X q5 (by simpa using q6), PySem.W.tail_of_in X q4⟩

section
variable {X : Cx} {E : XK} {x : Str} {C : Addr} {np cpos pos : Pos} {e : Expr} {es : List Expr} {t : TA} {bmB : List Value} {B nid iid : String}
def tRaise (E : XK) (C : Addr) (t : TA) : TS := fun _ σ H => t σ H fun xs H1 => xs.length ≤ sizeLine ∧ E (.ref C) none H1
theorem ps_raise (th : Throws X E) (hc : X.calm = true) (FB : ExcBaseFacts B nid iid bmB) (ex : PySem.W.excIn X.K C bmB nid = true) (hg : Gl X x) (hm : X.mg x = some (.ref C)) (ha : PA X (e :: es) t)
    (he : starEach (e :: es) X.env = (false, eval e X.env) :: starEach es X.env := by rfl) (hpl : (backTo cpos (starEach es X.env)).any (·.1) = false := by rfl) (hdb : (x == ("__debug__" : Str)) = false := by decide) :
    PS X (.Raise (some (.Call (.Name x np) (e :: es) [] cpos)) none pos) (tRaise E C t) := by
  intro pins s σ H D I h
  obtain ⟨bm, N, nm, qn, bs, hd, sn, sub, ab, col, dd, k0, k1, k2, k3, k5, mN, hC, hN, hni, T⟩ := exc_obj I.mod.kin ex
  refine wpAny_Raise_call_subT (C := C) (bm := bm) (nm := nm) (q := qn) (N := N) (bs := bs) (hdct := hd) (sn := sn) (sub := sub) (ab := ab) (col := col) (dd := dd) (k0 := k0) (k1 := k1) (k2 := k2) (k3 := k3) (k5 := k5) FB (mN := mN) (T.hasType FB.hasBase) (I.ok.hd hc) ?_ hni (ld_glob I hg hm ⟨rfl, ?_⟩ hdb)
  · rw [he]
    show (false || (backTo cpos (starEach es X.env)).any (·.1)) = false
    rw [hpl]
    rfl
  have hA := ha cpos pins s σ H _ I h
  rw [he] at hA ⊢
  refine Calls.evalArgs_plain (thn hA fun us s2 hq => ?_)
  obtain ⟨vs, H2, I2, r2, hz, hE⟩ := hq
  exact ⟨rfl, by rw [← r2.length]; exact hz, I2.bk _ _ hC, hN.keeps I2.bk, T.keeps I2.bk, fun h' ev hm' => th pins σ H2 s2 ev C us h' I2 hm' hE⟩
end

/-! ### methods and defs that may raise -/
def MDef (K : PySem.W.Frag) (C : Addr) (m qual : Str) (st : Stmt) (ps : List Str) : Prop := ∃ f fd, Fun K m qual st f fd ∧ Meth K C m f ∧ Binds K fd ps []
def MHas (P : Program) (w : World) (K : PySem.W.Frag) (mg : Str → Option Value) (base : Heap) (CX : CXT) (k : Nat) (C : Addr) (m : Str) (ps : List Str) (sp : Sp) : Prop :=
  ∃ f fd, FnOk P w K mg base CX k f fd ps sp ∧ Meth K C m f ∧ Binds K fd ps []
section
variable {P : Program} {w : World} {K : PySem.W.Frag} {mg : Str → Option Value} {base : Heap}
theorem Fun.okx {x qual : Str} {st : Stmt} {f : Addr} {fd : FuncData} {N ps : List Str} {k : Nat} {sp : Sp} (F : Fun K x qual st f fd) (S : FnScope N ps (defScope st)) (len : ∀ vs H Q E, sp vs H Q E → vs.length = ps.length)
    (hbody : ∀ (cdv : Value) (A : Around) (outer : List Env) (s : Shared) (H : Hp) (vs : List V) (Q : VK) (E : XK), Room k (A.deeper (envOfC qual (defScope st) s.heap.objs.size f cdv)) → sp vs H Q E →
      ∃ t, PSs (cxOf (CX1 P w) P w K mg base N qual (defScope st) f cdv A outer s H E) (defBody st) t ∧ t { nx := fun _ H' => Q .non H', rt := Q } (start N vs) H) : FnOk P w K mg base (CX1 P w) (k + 1) f fd ps sp := by
  obtain ⟨oc, od, kV, doc, pm, an, cdv, ct, osl, rfl, lk, hcd⟩ := F.ex
  exact fn_of lk hcd S len fun A outer s H vs Q E hr hsp => hbody cdv A outer s H vs Q E hr hsp
theorem MDef.ok {C : Addr} {m qual : Str} {st : Stmt} {N ps : List Str} {k : Nat} {sp : Sp} (D : MDef K C m qual st ps) (S : FnScope N ps (defScope st)) (len : ∀ vs H Q E, sp vs H Q E → vs.length = ps.length)
    (hbody : ∀ (f : Addr) (cdv : Value) (A : Around) (outer : List Env) (s : Shared) (H : Hp) (vs : List V) (Q : VK) (E : XK), Room k (A.deeper (envOfC qual (defScope st) s.heap.objs.size f cdv)) → sp vs H Q E →
      ∃ t, PSs (cxOf CX0 P w K mg base N qual (defScope st) f cdv A outer s H E).nox (defBody st) t ∧ t { nx := fun _ H' => Q .non H', rt := Q } (start N vs) H) : MHas P w K mg base CX0 (k + 1) C m ps sp := by
  obtain ⟨f, fd, F, hm, hb⟩ := D
  exact ⟨f, fd, F.ok S len (fun cdv A outer s H vs Q E hr h => hbody f cdv A outer s H vs Q E hr h), hm, hb⟩
theorem MDef.okx {C : Addr} {m qual : Str} {st : Stmt} {N ps : List Str} {k : Nat} {sp : Sp} (D : MDef K C m qual st ps) (S : FnScope N ps (defScope st)) (len : ∀ vs H Q E, sp vs H Q E → vs.length = ps.length)
    (hbody : ∀ (f : Addr) (cdv : Value) (A : Around) (outer : List Env) (s : Shared) (H : Hp) (vs : List V) (Q : VK) (E : XK), Room k (A.deeper (envOfC qual (defScope st) s.heap.objs.size f cdv)) → sp vs H Q E →
      ∃ t, PSs (cxOf (CX1 P w) P w K mg base N qual (defScope st) f cdv A outer s H E) (defBody st) t ∧ t { nx := fun _ H' => Q .non H', rt := Q } (start N vs) H) : MHas P w K mg base (CX1 P w) (k + 1) C m ps sp := by
  obtain ⟨f, fd, F, hm, hb⟩ := D
  exact ⟨f, fd, F.okx S len (fun cdv A outer s H vs Q E hr h => hbody f cdv A outer s H vs Q E hr h), hm, hb⟩
end
section
variable {X : Cx} {k : Nat} {C : Addr} {m : Str} {ps : List Str} {sp : Sp} {o e : Expr} {es : List Expr} {ta : TE} {t : TA} {apos pos : Pos}
theorem pe_mth {pl : Sem Bool} (G : MHas X.prog X.w X.K X.mg X.base CX0 k C m ps sp) (c : Cls X.K C) (hr : Room k X.A) (he : PE X o ta) (ha : PA X (e :: es) t)
    (hst : starEach (e :: es) X.env = (false, eval e X.env) :: starEach es X.env := by rfl) (hpl : (backTo pos (starEach es X.env)).any (·.1) = false := by rfl)
    (ht : eval (.Call (.Attribute o m apos) (e :: es) [] pos) X.env = (do
      let ov ← eval o X.env
      standAt apos.atName
      let (f, first) ← holding [ov] (getMethod ov m pl)
      callWith pos f first (backTo pos (starEach (e :: es) X.env)) (backToKw pos (keywordEach [] X.env))) := by rfl) :
    PE X (.Call (.Attribute o m apos) (e :: es) [] pos) (tMeth C m sp [] E0 ta t) := by
  obtain ⟨f, fd, F, hm, hb⟩ := G
  exact pe_meth he c hm F hr hb .nil pass0 ha hst hpl ht
theorem pe_mth0 {pl : Sem Bool} (G : MHas X.prog X.w X.K X.mg X.base CX0 k C m ps sp) (c : Cls X.K C) (hr : Room k X.A) (he : PE X o ta)
    (ht : eval (.Call (.Attribute o m apos) [] [] pos) X.env = (do
      let ov ← eval o X.env
      standAt apos.atName
      let (f, first) ← holding [ov] (getMethod ov m pl)
      callWith pos f first (backTo pos (starEach [] X.env)) (backToKw pos (keywordEach [] X.env))) := by rfl) :
    PE X (.Call (.Attribute o m apos) [] [] pos) (tMeth C m sp [] E0 ta tNil) := by
  obtain ⟨f, fd, F, hm, hb⟩ := G
  exact pe_meth0 he c hm F hr hb .nil pass0 ht
end

/-! ### try -/
/-- what the running code calls its own: it stood there ahead of the call -/
def Mine (X : Cx) (pins : List (Addr × Obj)) (b : Addr) : Prop := (∃ o, X.s₀.heap.get? b = some o) ∨ b = X.env.locals ∨ (∃ y, X.env.cells.lookup y = some b) ∨ ∃ p ∈ X.pn ++ pins, p.1 = b
/-- an error flies at this level, the names as they were -/
structure Fly (X : Cx) (pins : List (Addr × Obj)) (σ : St) (H : Hp) (s : Shared) (x C t : Addr) (B : Heap) : Prop where
  inv : Inv X pins σ H s
  fly : Heap.FlyingW B X.stack x (.ref C) (.ref t) s.heap
  tr : ∀ b u, H b = some u → ∃ o, B.get? b = some o
  mine : ∀ b, Mine X pins b → b ∈ frs X.stack ∨ ∃ o, B.get? b = some o
def XP (X : Cx) (pins : List (Addr × Obj)) (σ : St) (Ex : XK) (ev : Value) (s' : Shared) : Prop := ∃ x C t B H', ev = .ref x ∧ Fly X pins σ H' s' x C t B ∧ Ex (.ref C) none H'
theorem Inv.mine {X : Cx} {pins : List (Addr × Obj)} {σ : St} {H : Hp} {s : Shared} (I : Inv X pins σ H s) (hx : X.ex = []) {b : Addr} (h : Mine X pins b) : ∃ o, s.heap.get? b = some o := by
  rcases h with ⟨o, h⟩ | h | ⟨y, h⟩ | ⟨p, hp, h⟩
  · exact I.base.there b o h (by rw [hx]; simp)
  · obtain ⟨m, ⟨o, _, _, e, _⟩, _⟩ := I.loc
    exact ⟨o, by rw [h]; exact e⟩
  · obtain ⟨v, o, e, _⟩ := I.cell y b h
    exact ⟨o, e⟩
  · exact ⟨_, by rw [← h]; exact (I.pin p hp).1⟩
theorem fly_of {X : Cx} {pins : List (Addr × Obj)} {σ : St} {H : Hp} {s s' : Shared} {E : XK} {ev : Value} (hx : X.ex = []) (I : Inv X pins σ H s) (q : CX1 X.prog X.w X.stack H s E ev s') : XP X pins σ E ev s' := by
  obtain ⟨x, C, t, B, H', rfl, os, bare, un, hok, fl, tr, old, hE⟩ := q
  refine ⟨x, C, t, B, H', rfl, ⟨I.call' (ch := []) os un hok bare (fun b z => absurd z (by simp)), fl, tr, fun b hb => ?_⟩, hE⟩
  obtain ⟨o, e⟩ := I.mine hx hb
  by_cases hf : b ∈ frs X.stack
  · exact .inl hf
  · exact .inr (old b o e hf)
/-- the error's own records turn; all else is as it was -/
theorem Fly.on {X : Cx} {pins : List (Addr × Obj)} {σ : St} {H : Hp} {s : Shared} {x C t : Addr} {B : Heap} {h' : Heap} (F : Fly X pins σ H s x C t B) (fl : Heap.FlyingW B X.stack x (.ref C) (.ref t) h') (up : s.heap.UpToSlots h') : Fly X pins σ H { s with heap := h' } x C t B := by
  have I := F.inv
  refine ⟨?_, fl, F.tr, F.mine⟩
  have slotF : ∀ b o, b ∈ frs X.stack → s.heap.get? b = some o → ∃ sl, h'.get? b = some { o with slots := sl } := fun b o hb q => by
    obtain ⟨_, o2, e2, d2⟩ := I.stack.mem hb
    rw [q] at e2
    cases e2
    exact up b _ q d2
  have at' : ∀ b o, Mine X pins b → b ∉ frs X.stack → s.heap.get? b = some o → h'.get? b = some o := fun b o hm hb q => by
    rcases F.mine b hm with z | ⟨ob, z⟩
    · exact absurd z hb
    · have := F.fly.1 b ob z
      rw [q] at this
      cases this
      exact fl.1 b o z
  have any' : ∀ b o, Mine X pins b → s.heap.get? b = some o → ∃ sl, h'.get? b = some { o with slots := sl } := fun b o hm q => by
    by_cases hb : b ∈ frs X.stack
    · exact slotF b o hb q
    · exact ⟨o.slots, at' b o hm hb q⟩
  have cellK : ∀ y c, X.env.cells.lookup y = some c → ∀ v, s.heap.IsCell c v → h'.IsCell c v := fun y c e v ⟨o, ho, hd⟩ => by
    obtain ⟨sl, q⟩ := any' c o (.inr (.inr (.inl ⟨y, e⟩))) ho
    exact ⟨_, q, hd⟩
  refine ⟨I.ok, I.os, I.bare, ⟨fun b o e n hb hx => ?_, fun b o e n hb hx => ?_, I.base.free, fun b o e hx => ?_, I.base.tups, I.base.frzs, I.base.tbls⟩, ?_, fun y c e => ?_, I.free, I.freeC, fun p hp => ?_, fly_hok F.fly.1 fl.1 F.tr I.hok, I.len⟩
  · have q := I.base.keep b o e n hb hx
    by_cases hf : b ∈ frs X.stack
    · rcases List.mem_cons.mp (I.stkSub b hf) with z | z
      · exact absurd (Nat.lt_of_lt_of_le (Heap.lt_size e) I.ok.above) (by rw [z]; exact Nat.lt_irrefl _)
      · exact absurd z hb
    · exact at' b o (.inl ⟨o, e⟩) hf q
  · obtain ⟨sl, q⟩ := I.base.slot b o e n hb hx
    obtain ⟨sl', q'⟩ := any' b _ (.inl ⟨o, e⟩) q
    exact ⟨sl', q'⟩
  · obtain ⟨o', q⟩ := I.base.there b o e hx
    obtain ⟨sl', q'⟩ := any' b _ (.inl ⟨o, e⟩) q
    exact ⟨_, q'⟩
  · obtain ⟨m, ⟨o, es, ep, ho, r⟩, hl⟩ := I.loc
    obtain ⟨sl, q⟩ := any' _ o (.inr (.inl rfl)) ho
    refine ⟨m, ⟨_, es, ep, q, r⟩, fun i y v e1 e2 e3 => ?_⟩
    obtain ⟨u, ru, l⟩ := hl i y v e1 e2 e3
    refine ⟨u, ru, ?_⟩
    rcases l with l | ⟨k, c, e, z⟩
    · exact .inl l
    · exact .inr ⟨k, c, e, cellK y c e _ z⟩
  · obtain ⟨v, z⟩ := I.cell y c e
    exact ⟨v, cellK y c e v z⟩
  · obtain ⟨e, n, ne, nf, d⟩ := I.pin p hp
    refine ⟨?_, n, ne, nf, d⟩
    by_cases hf : p.1 ∈ frs X.stack
    · rcases List.mem_cons.mp (I.stkSub p.1 hf) with z | z
      · exact absurd z ne
      · exact absurd z nf
    · exact at' p.1 p.2 (.inr (.inr (.inr ⟨p, hp, rfl⟩))) hf e
end L2

end
section
set_option Elab.async false
set_option linter.all false
set_option maxRecDepth 100000
set_option maxHeartbeats 4000000
namespace L2
open PySem PySem.Spec PyProof.Rows
/-- an expression that may raise: what is wanted of its value, and of its error -/
abbrev TEX := St → Hp → VK → XK → Prop
def PEX (X : Cx) (e : Expr) (t : TEX) : Prop :=
  ∀ (pins : List (Addr × Obj)) (s : Shared) (σ : St) (H : Hp) (Q : VK) (Ex : XK), Inv X pins σ H s → t σ H Q Ex → wpAny (model X.prog X.w) X.A (eval e X.env) (EP X pins σ Q) (XP X pins σ Ex) s
abbrev TSX := Ends → XK → St → Hp → Prop
def PSX (X : Cx) (st : Stmt) (t : TSX) : Prop :=
  ∀ (pins : List (Addr × Obj)) (s : Shared) (σ : St) (H : Hp) (D : Ends) (Ex : XK), Inv X pins σ H s → t D Ex σ H → wpAny (model X.prog X.w) X.A (exec st X.env) (SP X pins D) (XP X pins σ Ex) s
section
variable {X : Cx} {k : Nat} {C : Addr} {m : Str} {ps : List Str} {sp : Sp} {o e : Expr} {es : List Expr} {ta : TE} {t : TA} {tx : TEX} {apos pos : Pos}
theorem px_run {pins : List (Addr × Obj)} {σ : St} {H : Hp} {s : Shared} {Q : VK} {Ex : XK} {us : List Value} {vs : List V} {f : Addr} {fd : FuncData} (hx : X.ex = []) (F : FnOk X.prog X.w X.K X.mg X.base (CX1 X.prog X.w) k f fd ps sp) (hr : Room k X.A) (hb : Binds X.K fd ps [])
    (I : Inv X pins σ H s) (r : Vals vs us) (h : sp vs H Q Ex) : wpAny (model X.prog X.w) X.A (call (.ref f) us) (EP X pins σ Q) (XP X pins σ Ex) s := by
  have hl : (us ++ []).length = ps.length := by rw [List.append_nil, ← r.length]; exact F.len _ _ _ _ h
  have hB := hb s us I.kIn hl
  rw [List.append_nil] at hB
  refine wpAny_call (codeAny_mono (F.run X.A X.stack s H ⟨us, []⟩ us vs Q Ex hr I.env0 hB r h) fun res s' hq => ?_)
  cases res with
  | error e => exact fly_of hx I hq
  | ok fl =>
    cases fl with
    | ret u => exact I.after hq
    | next => exact hq.elim
    | brk => exact hq.elim
    | cont => exact hq.elim
def tMethX (C : Addr) (m : Str) (sp : Sp) (ta : TE) (t : TA) : TEX := fun σ H Q Ex => ta σ H fun x H1 => ∃ a dx fs, x = .ref a ∧ H1 a = some (.ins C dx fs) ∧ fs.lookup m = none ∧ t σ H1 fun vs H2 => sp (x :: vs) H2 Q Ex
theorem px_mth {pl : Sem Bool} (G : MHas X.prog X.w X.K X.mg X.base (CX1 X.prog X.w) k C m ps sp) (c : Cls X.K C) (hr : Room k X.A) (he : PE X.nox o ta) (ha : PA X.nox (e :: es) t) (hx : X.ex = [] := by rfl)
    (hst : starEach (e :: es) X.env = (false, eval e X.env) :: starEach es X.env := by rfl) (hpl : (backTo pos (starEach es X.env)).any (·.1) = false := by rfl)
    (ht : eval (.Call (.Attribute o m apos) (e :: es) [] pos) X.env = (do
      let ov ← eval o X.env
      standAt apos.atName
      let (f, first) ← holding [ov] (getMethod ov m pl)
      callWith pos f first (backTo pos (starEach (e :: es) X.env)) (backToKw pos (keywordEach [] X.env))) := by rfl) :
    PEX X (.Call (.Attribute o m apos) (e :: es) [] pos) (tMethX C m sp ta t) := by
  obtain ⟨f, fd, F, hm, hb⟩ := G
  intro pins s σ H Q Ex I h
  refine PySem.W.methodCall_KW (pl := pl) (wpAny_mono (he pins s σ H _ (I.wish _) h) (fun u s1 hq => ?_) fun _ _ z => z.elim) ht
  obtain ⟨x, H1, I1, rx, a, dx, fs, ex, ea, l, q⟩ := hq
  have I1 := I1.unwish
  subst ex
  obtain rfl : u = Value.ref a := rx
  refine getmeth_ok I1 ea c hm l ?_
  refine PySem.W.callWith_K (first := [.ref a]) (h₀ := X.base) I.ok.mod.kin hm.kp (wpAny_mono (ha pos pins s1 σ H1 _ (I1.wish _) q) (fun us s2 hq2 => ?_) fun _ _ z => z.elim) hst hpl
  obtain ⟨vs, H2, I2, r, q2⟩ := hq2
  have I2 := I2.unwish
  exact ⟨I2.kIn, px_run (us := .ref a :: us) (vs := .ref a :: vs) hx F hr hb I2 (.cons rfl r) q2⟩
theorem psx_ret (h : PEX X e tx) : PSX X (.Return (some e) pos) (fun D Ex σ H => tx σ H D.rt Ex) := by
  intro pins s σ H D Ex I hw
  refine wpAny_Return_some (wpAny_mono (h pins s σ H _ Ex I hw) (fun v s1 hq => ?_) fun _ _ z => z)
  obtain ⟨x, H1, I1, r1, q1⟩ := hq
  exact ⟨x, σ, H1, I1, r1, q1⟩
end

/-- an except clause's suite runs under a mark -/
abbrev cxMark (X : Cx) (ev : Value) : Cx := { X with A := X.A.mark (some ev), calm := false, xe := fun _ _ => False }
theorem Inv.mark {X : Cx} {pins : List (Addr × Obj)} {σ : St} {H : Hp} {s : Shared} (I : Inv X pins σ H s) (ev : Value) : Inv (cxMark X ev) pins σ H s :=
  ⟨⟨I.ok.mod, I.ok.kind, I.ok.glob, I.ok.blt, I.ok.above, I.ok.inj, I.ok.has, I.ok.cab, fun z => absurd z Bool.false_ne_true, I.ok.frames, I.ok.stk, I.ok.exf, I.ok.bs, I.ok.bsz, I.ok.noex, I.ok.exfs, I.ok.funs, I.ok.frf⟩, I.os, I.bare, I.base, I.loc, I.cell, I.free, I.freeC, I.pin, I.hok, I.len⟩
theorem Inv.unmark {X : Cx} {ev : Value} {pins : List (Addr × Obj)} {σ : St} {H : Hp} {s : Shared} (ok : X.Ok) (I : Inv (cxMark X ev) pins σ H s) : Inv X pins σ H s :=
  ⟨ok, I.os, I.bare, I.base, I.loc, I.cell, I.free, I.freeC, I.pin, I.hok, I.len⟩
theorem SP.unmark {X : Cx} {ev : Value} {pins : List (Addr × Obj)} {D : Ends} {f : Flow} {s' : Shared} (ok : X.Ok) (h : SP (cxMark X ev) pins D f s') : SP X pins D f s' := by
  cases f with
  | next => obtain ⟨σ', H', I, q⟩ := h; exact ⟨σ', H', I.unmark ok, q⟩
  | brk => obtain ⟨σ', H', I, q⟩ := h; exact ⟨σ', H', I.unmark ok, q⟩
  | cont => obtain ⟨σ', H', I, q⟩ := h; exact ⟨σ', H', I.unmark ok, q⟩
  | ret u => obtain ⟨v, σ', H', I, r, q⟩ := h; exact ⟨v, σ', H', I.unmark ok, r, q⟩
/-- does an error of the class C fall under the class D -/
theorem exc_match {K : PySem.W.Frag} {prog : Program} {w : World} {A : Around} {E : Value → Shared → Prop} {s : Shared} {x C D : Addr} {oe : Obj} {b : Bool} {bmB : List Value} {nid : String} {Q : Bool → Shared → Prop} (kx : K.In s.heap) (he : s.heap.get? x = some oe) (hc : oe.cls = .ref C)
    (exD : PySem.W.excIn K D bmB nid = true) (hb : bmB.contains (.type "BaseException") = true) (sb : PySem.W.subIn K (.ref C) (.ref D) = some b) (hq : Q b s) : wpAny (model prog w) A (excMatches (.ref x) (.ref D)) Q E s := by
  obtain ⟨bm, N, nm, qn, bs, hd, sn, sub, ab, col, dd, k0, k1, k2, k3, k5, mN, hD, hN, hni, T⟩ := exc_obj kx exD
  have lk := PySem.W.looks_subIn (M := model prog w) kx sb
  obtain ⟨hp, g, d, tk, os⟩ := s
  have inB : (Value.ref D :: bm).contains (.type "BaseException") = true := by rw [List.contains_cons, T.hasType hb, Bool.or_true]
  have nt := tc_notTuple
  have fin : wpAny (model prog w) A (isSubtype (.ref C) (.ref D)) (fun r s' => Q r s') E ⟨hp, g, d, tk, os⟩ := lk A _ _ _ (fun _ _ z => z) hq
  unfold excMatches
  repeat (first
    | (with_reducible refine wpAny_loadPart_at he ?_; rw [hc])
    | with_reducible refine wpAny_loadPart_at hD ?_
    | (with_reducible refine wpAny_isSubtype_exc hD ?_; rw [inB])
    | wp_step)
  refine lk _ _ _ _ (fun _ _ z => z) ?_
  cases b <;> (wp_walk; exact hq)

/-! ### the clauses -/
abbrev TH := Value → Ends → St → Hp → Prop
def PH (X : Cx) (hs : List ExceptHandler) (th : TH) : Prop :=
  ∀ (pins : List (Addr × Obj)) (s : Shared) (σ : St) (H : Hp) (D : Ends) (x C t : Addr) (B : Heap), Fly X pins σ H s x C t B → th (.ref C) D σ H → wpAny (model X.prog X.w) X.A (handleBy (.ref x) X.env hs) (SP X pins D) X.xe s
def hNever : TH := fun _ _ _ _ => False
theorem ph_nil {X : Cx} : PH X [] hNever := fun _ _ _ _ _ _ _ _ _ _ h => h.elim
def hCons (K : PySem.W.Frag) (D : Addr) (tb : TS) (th : TH) : TH := fun cls En σ H => ∃ b, PySem.W.subIn K cls (.ref D) = some b ∧ if b = true then tb En σ H else th cls En σ H
/-- try: one statement -/
def tTry (t : TSX) (th : TH) : TS := fun D σ H => t D (fun cls _ H' => th cls D σ H') σ H
theorem ps_try {X : Cx} {st : Stmt} {h0 : ExceptHandler} {hs : List ExceptHandler} {pos : Pos} {t : TSX} {th : TH} (hb : PSX X st t) (hh : PH X (h0 :: hs) th) (s1 : X.stack = X.env :: X.outer := by rfl) (s2 : X.env.frame = some X.env.locals := by rfl) :
    PS X (.Try [st] (h0 :: hs) [] [] pos) (tTry t th) := by
  intro pins s σ H D I h
  refine wpAny_Try_except (wpAny_execs_cons (wpAny_mono (hb pins s σ H D _ I h) (fun f s3 q => ?_) fun ev s3 q => ?_))
  · cases f with
    | next => exact wpAny_execs_nil (wpAny_execs_nil q)
    | ret v => exact q
    | brk => exact q
    | cont => exact q
  · obtain ⟨x, C, t', B, H', rfl, F, hx⟩ := q
    have fl := F.fly
    rw [s1] at fl
    refine wpAny_looks_onW (by rw [← s1]; exact I.ok.frames) s2 fl fun h4 held up4 => ?_
    refine wpAny_landsW held fun h5 fl5 up5 => ?_
    rw [← s1] at fl5
    exact hh pins _ σ H' D x C t' B (F.on fl5 (up4.trans up5)) hx
end L2

end
section
set_option Elab.async false
set_option linter.all false
set_option maxRecDepth 100000
set_option maxHeartbeats 4000000
namespace L2
open PySem PySem.Spec PyProof.Rows
section
variable {X : Cx}
/-- x * n of a text -/
theorem op_rep_str : OpR X (binaryOp .Mult) (fun x y H Q => ∃ z n, x = .str z ∧ y = .int n ∧ MulOk z n ∧ Q (.str (Txt.mul z n)) H) := by
  intro pins s σ H x y v u Q I rx ry h
  obtain ⟨z, n, rfl, rfl, hok, q⟩ := h
  obtain ⟨t, rfl⟩ := rx
  obtain ⟨t', rfl⟩ := ry
  exact SB.mul hok fun t2 k => ⟨.str _, H, I.tok _, ⟨_, rfl⟩, q⟩
/-- xs == [] -/
theorem op_eqNil (hu : X.A.units < cLine) : OpR X (compareOp .Eq) (fun x y H Q => ∃ p q xs, x = .ref p ∧ y = .ref q ∧ SqL X.K H p xs ∧ SqL X.K H q [] ∧ Q (.bl xs.isEmpty) H) := by
  intro pins s σ H x y v u Q I rx ry h
  obtain ⟨p, q, xs, rfl, rfl, hp, hq, hQ⟩ := h
  cases rx
  cases ry
  obtain ⟨us, r1, p1, _⟩ := I.list hp
  obtain ⟨ws, r2, p2, _⟩ := I.list hq
  have l1 := r1.length
  cases r2
  cases xs with
  | nil =>
    cases r1
    exact SeqAt.eq_listAt (e := fun _ => true) p1.isList p2.isList rfl hu (fun j h1 h2 => absurd h1 (Nat.not_lt_zero _)) (fin_bl I hQ rfl)
  | cons a xs => exact SeqAt.eq_list_lengthsAt p1.isList p2.isList (by simp only [List.size_toArray, bne_iff_ne]; rw [← l1]; simp) hu (fin_bl I hQ rfl)
theorem op_neNil (hu : X.A.units < cLine) : OpR X (compareOp .NotEq) (fun x y H Q => ∃ p q xs, x = .ref p ∧ y = .ref q ∧ SqL X.K H p xs ∧ SqL X.K H q [] ∧ Q (.bl (!xs.isEmpty)) H) := by
  intro pins s σ H x y v u Q I rx ry h
  obtain ⟨p, q, xs, rfl, rfl, hp, hq, hQ⟩ := h
  cases rx
  cases ry
  obtain ⟨us, r1, p1, _⟩ := I.list hp
  obtain ⟨ws, r2, p2, _⟩ := I.list hq
  have l1 := r1.length
  cases r2
  cases xs with
  | nil =>
    cases r1
    exact SeqAt.RcNeAt.lists (e := fun _ => true) p1.isList p2.isList rfl hu (fun j h1 h2 => absurd h1 (Nat.not_lt_zero _)) _ _ _ _ (fin_bl I hQ rfl)
  | cons a xs => exact SeqAt.RcNeAt.lists_lengths p1.isList p2.isList (by simp only [List.size_toArray, bne_iff_ne]; rw [← l1]; simp) hu _ _ _ _ (fin_bl I hQ rfl)
/-- isinstance(x, (T, ..)) -/
theorem isinst_tup {A : Around} {E : Value → Shared → Prop} {Q : Value → Shared → Prop} {pins : List (Addr × Obj)} {σ : St} {H : Hp} {s : Shared} {x : V} {u t : Value} {tp : Addr} {its : List Value} {b : Bool} (I : Inv X pins σ H s) (rx : RelV x u) (ty : TyOf X.K H x t) (ht : IsTup s.heap tp its.toArray)
    (e : PySem.W.kitAny X.K t its = some b) (h : ∀ tk, Q (.bool b) { s with toks := tk }) : wpAny (model X.prog X.w) A (call (.builtin "isinstance") [u, .ref tp]) Q E s := by
  obtain ⟨⟨c0, dd, dt, sl⟩, e0, hc0, n0, hd0⟩ := ht
  simp only at hc0 hd0
  subst hc0 hd0
  cases ty with
  | non => cases (show u = Value.none from rx); exact PySem.W.kia_tup PySem.W.kitx_none I.kIn True.intro e0 e (fun z => nomatch z) h
  | bl y => cases (show u = Value.bool y from rx); exact PySem.W.kia_tup PySem.W.kitx_bool I.kIn True.intro e0 e (fun z => nomatch z) h
  | int i => obtain ⟨t, q⟩ := (show ∃ t, u = Value.int i t from rx); cases q; exact PySem.W.kia_tup PySem.W.kitx_int I.kIn True.intro e0 e (fun z => nomatch z) h
  | str y => obtain ⟨t, q⟩ := (show ∃ t, u = Value.str y t from rx); cases q; exact PySem.W.kia_tup PySem.W.kitx_str I.kIn True.intro e0 e (fun z => nomatch z) h
  | flt y => obtain ⟨t, q⟩ := (show ∃ t, u = Value.float y t from rx); cases q; exact PySem.W.kia_tup PySem.W.kitx_float I.kIn True.intro e0 e (fun z => nomatch z) h
  | @lst a xs ea =>
    cases (show u = Value.ref a from rx)
    obtain ⟨_, _, n, _, h1⟩ := (show ObjOk X.prog X.w H s.heap a (.lst xs) from I.hok a _ ea)
    exact PySem.W.kia_tup PySem.W.kitx_list I.kIn ⟨_, h1, rfl⟩ e0 e (fun z => nomatch z) h
  | @tup a xs ea =>
    cases (show u = Value.ref a from rx)
    obtain ⟨_, _, _, p⟩ := (show ObjOk X.prog X.w H s.heap a (.tup xs) from I.hok a _ ea)
    obtain ⟨o, h1, h2, _⟩ := p
    exact PySem.W.kia_tup PySem.W.kitx_tuple I.kIn ⟨o, h1, h2⟩ e0 e (fun z => nomatch z) h
  | @frz a ob xs ea =>
    cases (show u = Value.ref a from rx)
    obtain ⟨_, _, _, n, _, h1⟩ := (show ObjOk X.prog X.w H s.heap a (.frz ob (.lst xs)) from I.hok a _ ea)
    exact PySem.W.kia_tup PySem.W.kitx_list I.kIn ⟨_, h1, rfl⟩ e0 e (fun z => nomatch z) h
  | @dK a kvs ea =>
    cases (show u = Value.ref a from rx)
    obtain ⟨_, _, vs, _, p⟩ := (show ObjOk X.prog X.w H s.heap a (.dK kvs) from I.hok a _ ea)
    obtain ⟨o, es, ep, h1, h2, _⟩ := p
    exact PySem.W.kia_tup PySem.W.kitx_dict I.kIn ⟨o, h1, h2.1⟩ e0 e (fun z => nomatch z) h
  | @dT a kvs ea =>
    cases (show u = Value.ref a from rx)
    obtain ⟨_, _, xs, _, o, es, ep, h1, h2, _⟩ := (show ObjOk X.prog X.w H s.heap a (.dT kvs) from I.hok a _ ea)
    exact PySem.W.kia_tup PySem.W.kitx_dict I.kIn ⟨o, h1, h2.1⟩ e0 e (fun z => nomatch z) h
  | @ins a C dx fs ea cl ha hn htk hm =>
    cases (show u = Value.ref a from rx)
    obtain ⟨mA, O, _⟩ := ins_get I.hok ea
    obtain ⟨od, J, _⟩ := O.look
    exact PySem.W.kia_tup (PySem.W.kitx_own (cl.get _) cl.hd ha hn htk hm) I.kIn J e0 e (fun z => nomatch z) h
theorem call_isi2 : CallR X (.builtin "isinstance") (fun xs H Q => ∃ x p c d t b, xs = [x, .ref p] ∧ SqT X.K H p [.ty c, .ty d] ∧ TyOf X.K H x t ∧ PySem.W.kitAny X.K t [.type c, .type d] = some b ∧ Q (.bl b) H) := by
  intro pins s σ H xs us Q I r h
  obtain ⟨x, p, c, d, t, b, rfl, hp, ty, e, q⟩ := h
  obtain ⟨u, w', rfl, r1, r2⟩ := vals2 r
  cases r2
  obtain ⟨its, rv, pl, _⟩ := I.tuple hp
  obtain ⟨u1, u2, rfl, q1, q2⟩ := rv.two
  cases q1
  cases q2
  exact isinst_tup I r1 ty pl e fun tk => ⟨.bl b, H, I.tok _, rfl, q⟩
/-- C() -/
def KHas (P : Program) (w : World) (K : PySem.W.Frag) (mg : Str → Option Value) (base : Heap) (k : Nat) (C : Addr) (ps : List Str) (sp : Sp) : Prop :=
  ∃ f fd, FnOk P w K mg base CX0 k f fd ps sp ∧ Mk K C f ∧ Binds K fd ps []
theorem pe_new0 {k : Nat} {C : Addr} {x : Str} {ps : List Str} {sp : Sp} {p pos : Pos} (G : KHas X.prog X.w X.K X.mg X.base k C ps sp) (hr : Room (k + 1) X.A) (hg : Gl X x) (hm : X.mg x = some (.ref C)) (hdb : (x == ("__debug__" : Str)) = false := by decide) : PE X (.Call (.Name x p) [] [] pos) (tMake C sp [] E0 tNil) := by
  obtain ⟨f, fd, F, M, hb⟩ := G
  exact pe_make0 M F hr hg hm hb .nil pass0 hdb
end
def KDef (K : PySem.W.Frag) (C : Addr) (qual : Str) (st : Stmt) (ps : List Str) : Prop := ∃ f fd, Fun K "__init__" qual st f fd ∧ Mk K C f ∧ Binds K fd ps []
theorem KDef.ok {P : Program} {w : World} {K : PySem.W.Frag} {mg : Str → Option Value} {base : Heap} {C : Addr} {qual : Str} {st : Stmt} {N ps : List Str} {k : Nat} {sp : Sp} (D : KDef K C qual st ps) (S : FnScope N ps (defScope st)) (len : ∀ vs H Q E, sp vs H Q E → vs.length = ps.length)
    (hbody : ∀ (f : Addr) (cdv : Value) (A : Around) (outer : List Env) (s : Shared) (H : Hp) (vs : List V) (Q : VK) (E : XK), Room k (A.deeper (envOfC qual (defScope st) s.heap.objs.size f cdv)) → sp vs H Q E →
      ∃ t, PSs (cxOf CX0 P w K mg base N qual (defScope st) f cdv A outer s H E).nox (defBody st) t ∧ t { nx := fun _ H' => Q .non H', rt := Q } (start N vs) H) : KHas P w K mg base (k + 1) C ps sp := by
  obtain ⟨f, fd, F, hm, hb⟩ := D
  exact ⟨f, fd, F.ok S len (fun cdv A outer s H vs Q E hr h => hbody f cdv A outer s H vs Q E hr h), hm, hb⟩
/-- a def's promise that is never asked -/
def spNever : Sp := fun _ _ _ _ => False
theorem has_never {P : Program} {w : World} {K : PySem.W.Frag} {mg : Str → Option Value} {base : Heap} {x : Str} {st : Stmt} {ps : List Str} {k : Nat} (D : Def K mg x st ps) : Has P w K mg base k x ps spNever := by
  obtain ⟨f, fd, F, hm, hb⟩ := D
  refine ⟨f, fd, ⟨fun _ _ _ _ h => h.elim, fun _ _ _ _ _ _ _ _ _ _ _ _ _ h => h.elim⟩, hm, F.kp, hb, ?_⟩
  obtain ⟨oc, od, kV, doc, pm, an, cdv, ct, osl, rfl, lk, hcd⟩ := F.ex
  exact ⟨oc, od, osl, lk⟩
theorem kit_list_list (K : PySem.W.Frag) : PySem.W.kitOne K (.type "list") (.type "list") = some true := by with_unfolding_all rfl
theorem kit_ty (K : PySem.W.Frag) : PySem.W.kitOne K (.type "int") (.type "int") = some true ∧ PySem.W.kitOne K (.type "bool") (.type "int") = some true ∧ PySem.W.kitOne K (.type "str") (.type "int") = some false ∧ PySem.W.kitOne K (.type "str") (.type "str") = some true ∧ PySem.W.kitOne K (.type "int") (.type "str") = some false ∧
    PySem.W.kitOne K (.type "str") (.type "bool") = some false ∧ PySem.W.kitOne K (.type "tuple") (.type "tuple") = some true ∧ PySem.W.kitOne K (.type "tuple") (.type "list") = some false ∧ PySem.W.kitOne K (.type "list") (.type "tuple") = some false := by
  refine ⟨?_, ?_, ?_, ?_, ?_, ?_, ?_, ?_, ?_⟩ <;> with_unfolding_all rfl
theorem kit_any (K : PySem.W.Frag) : PySem.W.kitAny K (.type "int") [.type "list", .type "tuple"] = some false ∧ PySem.W.kitAny K (.type "bool") [.type "list", .type "tuple"] = some false ∧ PySem.W.kitAny K (.type "str") [.type "list", .type "tuple"] = some false ∧
    PySem.W.kitAny K (.type "list") [.type "list", .type "tuple"] = some true ∧ PySem.W.kitAny K (.type "tuple") [.type "list", .type "tuple"] = some true := by
  refine ⟨?_, ?_, ?_, ?_, ?_⟩ <;> with_unfolding_all rfl
theorem Has.or {P : Program} {w : World} {K : PySem.W.Frag} {mg : Str → Option Value} {base : Heap} {k k' n : Nat} {x : Str} {ps : List Str} {sp sp' : Sp} (G : Has P w K mg base k x ps sp) (G' : Has P w K mg base k' x ps sp') (h1 : k ≤ n) (h2 : k' ≤ n) : Has P w K mg base n x ps (fun vs H Q E => sp vs H Q E ∨ sp' vs H Q E) := by
  obtain ⟨f, fd, F, hm, hk, hb, oc, od, osl, lk⟩ := G
  obtain ⟨f', fd', F', hm', hk', hb', oc', od', osl', lk'⟩ := G'
  have e := hm.symm.trans hm'
  cases e
  rw [lk] at lk'
  have e2 := Option.some.inj lk'
  injection e2 with _ _ e3 _
  injection e3 with e4
  subst e4
  refine ⟨f, fd, ⟨fun vs H Q E h => h.elim (F.len vs H Q E) (F'.len vs H Q E), fun A outer s H args us vs Q E hr he hB hv hs => ?_⟩, hm, hk, hb, oc, od, osl, lk⟩
  rcases hs with hs | hs
  · exact (F.mono h1).run A outer s H args us vs Q E hr he hB hv hs
  · exact (F'.mono h2).run A outer s H args us vs Q E hr he hB hv hs
/-! ### the same rules within a comprehension's block: K said -/
section
variable {X : Cx} {K : PySem.W.Frag}
theorem ix_tup_k (h : X.K = K := by rfl) : IxR X (rIxT K) := h ▸ ix_tup
theorem ix_list_k (h : X.K = K := by rfl) : IxR X (rIxL K) := h ▸ ix_list
theorem ix_seq_k (h : X.K = K := by rfl) : IxR X (rIx K) := h ▸ ix_seq
theorem op_neT_k (hu : X.A.units < cLine) (h : X.K = K := by rfl) : OpR X (compareOp .NotEq) (rEqT K true) := h ▸ op_neT hu
theorem op_in_seq_k (h : X.K = K := by rfl) : OpR X (compareOp .In) (rIn K false) := h ▸ op_in_seq
theorem op_notIn_seq_k (h : X.K = K := by rfl) : OpR X (compareOp .NotIn) (rIn K true) := h ▸ op_notIn_seq
theorem pe_fld_k {e : Expr} {ta : TE} {f : Str} {pos : Pos} (he : PE X e ta) (hb : attributeBase e f X.env (eval e X.env) = eval e X.env) (h : X.K = K := by rfl) : PE X (.Attribute e f pos) (tFld K ta f) := h ▸ pe_fld he hb
end
end L2

end
section
set_option Elab.async false
set_option linter.all false
set_option maxRecDepth 100000
set_option maxHeartbeats 4000000
namespace L2
open PySem PySem.Spec PyProof.Rows
section
variable {X : Cx}
/-- max of a list of ints that is not empty -/
theorem call_max1 (hc : X.calm = true) : CallR X (.builtin "max") (fun xs H Q => ∃ p ns, xs = [.ref p] ∧ SqL X.K H p ((ns : List Int).map V.int) ∧ ns ≠ [] ∧ ∀ m ∈ ns, (∀ x ∈ ns, x ≤ m) → Q (.int m) H) := by
  intro pins s σ H xs us Q I r h
  obtain ⟨p, ns, rfl, hp, hne0, q⟩ := h
  obtain ⟨u, rfl, ru⟩ := vals1 r
  cases ru
  obtain ⟨its, r1, p1, _⟩ := I.list hp
  have hl := r1.length
  rw [List.length_map] at hl
  refine call_max_walk (wpAny_pyIter_list p1.isList ?_)
  obtain ⟨ol, n, hol, hcl, hdl, hsl⟩ := id p1
  have hne : p ≠ s.heap.objs.size := Nat.ne_of_lt (Heap.lt_size hol)
  have hlt : p < s.heap.objs.size := Heap.lt_size hol
  have hpos : 0 < ns.length := by cases ns with | nil => exact absurd rfl hne0 | cons a b => simp
  refine ⟨s.heap.objs.size, [s.heap.objs.size, p], [s.heap.objs.size], its.toArray.size, _, _, fun i j => decide (ns.getD i 0 > ns.getD j 0), rfl, Walks.list (by exact I.ok.hd hc) s.heap.objs.size p hne its.toArray,
    ⟨⟨_, Heap.get?_push_size _ rfl, rfl, rfl⟩, ⟨ol, Heap.get?_push_of_some _ hol, hcl, n, hsl⟩⟩, fun b hb => ?_, by rw [List.size_toArray]; omega, CmpOf.ints_gt (fun i => ns.getD i 0) ?_, fun v h' tk hP k => ?_⟩
  · show b < (s.heap.push _).objs.size
    rw [Heap.size_push]
    rcases List.mem_cons.mp hb with rfl | hb
    · exact Nat.lt_succ_self _
    · rcases List.mem_cons.mp hb with rfl | hb
      · exact Nat.lt_succ_of_lt hlt
      · cases hb
  · intro j v hv
    have hv : its.toArray[j]? = some v := hv
    have e0 : its[j]? = some v := by simpa using hv
    have hj : j < its.length := (List.getElem?_eq_some_iff.mp e0).1
    have e1 : (ns.map V.int)[j]? = some (V.int (ns.getD j 0)) := by
      rw [List.getElem?_map, List.getD_eq_getElem?_getD, List.getElem?_eq_getElem (by omega)]
      rfl
    obtain ⟨w, q1, rw'⟩ := r1.get e1
    rw [e0] at q1
    cases q1
    exact rw'
  · have hP : its.toArray[argBest (fun i j => decide (ns.getD i 0 > ns.getD j 0)) (its.toArray.size - 1)]? = some v := hP
    obtain ⟨b1, b2⟩ := argBest_gt (fun i => ns.getD i 0) (its.toArray.size - 1)
    rw [List.size_toArray, ← hl] at b1 b2 hP
    generalize argBest (fun i j => decide (ns.getD i 0 > ns.getD j 0)) (ns.length - 1) = a at b1 b2 hP
    have e0 : its[a]? = some v := by simpa using hP
    have ha : a < ns.length := by omega
    have e1 : (ns.map V.int)[a]? = some (V.int (ns.getD a 0)) := by
      rw [List.getElem?_map, List.getD_eq_getElem?_getD, List.getElem?_eq_getElem ha]
      rfl
    obtain ⟨w, q1, rw'⟩ := r1.get e1
    rw [e0] at q1
    cases q1
    have I2 : Inv X pins σ H { s with heap := h', toks := tk } := by
     refine I.kept (t' := tk) (h' := h') fun b o e => k b o ?_ (Heap.get?_push_of_some _ e)
     intro z
     have : b = s.heap.objs.size := by simpa using z
     exact absurd (Heap.lt_size e) (by rw [this]; exact Nat.lt_irrefl _)
    refine ⟨.int _, H, I2, rw', q _ ?_ ?_⟩
    · rw [List.getD_eq_getElem?_getD, List.getElem?_eq_getElem ha]
      exact List.getElem_mem ha
    · intro x hx
      obtain ⟨j, hj, rfl⟩ := List.getElem_of_mem hx
      have := b2 j (by omega)
      have e : ns.getD j 0 = ns[j] := by rw [List.getD_eq_getElem?_getD, List.getElem?_eq_getElem hj]; rfl
      rw [e] at this
      exact this
end
end L2

end
section
set_option Elab.async false
set_option linter.all false
set_option maxRecDepth 100000
set_option maxHeartbeats 4000000
namespace PySem.W
open PySem PySem.Spec PySem.Calls PyProof.Rows
open Builtin Builtin.Getset_descriptor
/-- the object of an error of an own class -/
def ErrAt (x C : Addr) (h : Heap) : Prop := ∃ ob, h.get? x = some ob ∧ ob.cls = .ref C
section
variable {prog : Program} {w : World} {A : Around} {E : Value → Shared → Prop} {s : Shared} {K : Frag} {x C : Addr} {R : Result → Shared → Prop}
theorem err_type {M : Model} {h : Heap} (p : ErrAt x C h) : Looks M h (typeOf (.ref x)) (.ref C) := by
  rcases p with ⟨ob, e1, e2⟩
  rw [← e2]
  exact (Looks.ld e1).andThen .now
/-- what is read of an error's class ahead of isinstance's answer -/
structure ErrCls (K : Frag) (C : Addr) : Prop where
  ga : findIn K (.ref C) "__getattribute__" = some (some (.builtin "BaseException.__getattribute__"))
  no : findIn K (.ref C) "__getattr__" = some none
  cl : findIn K (.ref C) "__class__" = some (some (.builtin "object.__class__"))
  sp : specialIn K (.builtin "object.__class__") "__get__" = some (some (.builtin "getset_descriptor.__get__"))
  tk : takesIn K (.builtin "object.__class__") = some true
  mo : mroIn K C (.type "object") = some true
  mb : mroIn K C (.type "BaseException") = some true
theorem err_get {tp : Value} (X : K.In s.heap) (p : ErrAt x C s.heap) (c : ErrCls K C) (h : R (.ok (.ret (.ref C))) s) :
    codeAny (model prog w) A (.call (.builtin "getset_descriptor.__get__") ⟨[.builtin "object.__class__", .ref x, tp], []⟩) R s := by
  obtain ⟨h0, g0, d0, t0, o0⟩ := s
  have Lt := err_type (M := model prog w) p
  have Lm := looks_mroIn (M := model prog w) X c.mo
  refine codeAny_call_builtin KF.slot_gs.plain KF.entry_gs (KF.slot_gs.check _ _ _ _ _ _ _ _ KF.type_class
    (KF.args_gs _ _ _) ?_)
  unfold Builtin.«getset_descriptor.__get__»
  unfold descrGet
  rw [dga_obj]
  refine wpAny_bind (wpAny_pure ?_)
  unfold descrGetter descrCheckInstance
  unfold descrNameAndClass isInstance
  simp only [KF.owner_class]
  repeat lk
  refine ⟨Code.quiet_builtin _ (by decide +kernel), ?_⟩
  refine codeAny_builtin KF.entry_class ?_
  unfold Builtin.«object.__class__»
  unfold shownTypeOf
  repeat lk
  exact h
theorem err_entry {tk : Tok} {Q : PySem.Fin → Shared → Prop} (X : K.In s.heap) (p : ErrAt x C s.heap) (c : ErrCls K C) (h : Q (.done (.ret (.ref C))) s) :
    wpAny (model prog w) A (Builtin.«object.__getattribute__» ⟨[.ref x, .str "__class__" tk], []⟩) Q E s := by
  obtain ⟨h0, g0, d0, t0, o0⟩ := s
  have Lt := err_type (M := model prog w) p
  have L1 := looks_findIn (M := model prog w) X c.cl
  have L2 := looks_specialIn (M := model prog w) X c.sp
  have L3 := looks_takesIn (M := model prog w) X c.tk
  unfold Builtin.«object.__getattribute__»
  repeat (first
    | (with_reducible show wpAny _ _ (call (Value.builtin "getset_descriptor.__get__") _ _) _ _ _
       refine wpAny_call (err_get X p c ?_))
    | lk)
  exact h
theorem err_check {M : Model} {nv : Value} {Q : Unit → Shared → Prop} (X : K.In s.heap) (p : ErrAt x C s.heap) (c : ErrCls K C) (h : Q () s) :
    wpAny M A (checkBuiltinCall "BaseException.__getattribute__" ⟨[.ref x, nv], []⟩) Q E s := by
  obtain ⟨h0, g0, d0, t0, o0⟩ := s
  have Lt := err_type (M := M) p
  have Lm := looks_mroIn (M := M) X c.mb
  have hk1 : builtinKind "BaseException.__getattribute__" = some .slot := by decide +kernel
  have hk2 : splitId "BaseException.__getattribute__" = some ("BaseException", "__getattribute__") := by decide +kernel
  have ha := F.args_bexc_ga (.ref x) nv
  simp only [checkBuiltinCall, hk1, hk2]
  unfold isInstance
  repeat lk
  exact h
theorem err_call {tk : Tok} (X : K.In s.heap) (p : ErrAt x C s.heap) (c : ErrCls K C) (h : R (.ok (.ret (.ref C))) s) :
    codeAny (model prog w) A (.call (.builtin "BaseException.__getattribute__") ⟨[.ref x, .str "__class__" tk], []⟩) R s :=
  codeAny_call_builtin (by decide +kernel) F.entry_bexc_ga (err_check X p c (err_entry X p c h))
theorem err_attr {Q : Option Value → Shared → Prop} (X : K.In s.heap) (p : ErrAt x C s.heap) (c : ErrCls K C) (h : Q (some (.ref C)) { s with toks := s.toks + 1 }) :
    wpAny (model prog w) A (getAttr? (.ref x) "__class__") Q E s := by
  obtain ⟨h0, g0, d0, t0, o0⟩ := s
  have Lt := err_type (M := model prog w) p
  have L1 := looks_findIn (M := model prog w) X c.ga
  have L2 := looks_findIn (M := model prog w) X c.no
  have e1 : (Value.builtin "BaseException.__getattribute__" == Value.builtin "object.__getattribute__") = false := by decide +kernel
  have e2 : (onTheHeap (Value.ref C) && Value.builtin "BaseException.__getattribute__" == Value.builtin "object.__getattribute__") = false := by rw [e1, Bool.and_false]
  have fb : bindSpecial (.builtin "BaseException.__getattribute__") (.ref x) = pure (.builtin "BaseException.__getattribute__", [.ref x]) := by
    rfl
  unfold getAttr? getAttrBy?
  unfold getAttrBy
  refine wpAny_bind (wpAny_mkText ?_)
  refine wpAny_bind (wpAny_attempt (wpAny_holding ?_))
  refine wpAny_bind (Lt.at ?_)
  refine wpAny_bind (L1.at ?_)
  show wpAny _ _ (if _ then _ else _) _ _ _
  rw [if_neg (by rw [e2]; exact Bool.false_ne_true)]
  unfold getAttrByItsOwn
  refine wpAny_bind (m := typeLookup (.ref C) "__getattr__") ?_
  refine L2.at ?_
  refine wpAny_bind (wpAny_attempt (wpAny_holding ?_))
  show wpAny _ _ (boundAndCalled _ _ _) _ _ _
  unfold boundAndCalled
  rw [fb]
  refine wpAny_bind (wpAny_pure ?_)
  refine wpAny_call (err_call (s := ⟨h0, g0, d0, t0 + 1, o0⟩) X p c ?_)
  exact handed_on rfl (wpAny_pure h)
theorem err_kit (c : ErrCls K C) : KitX K (.ref x) (.ref C) (ErrAt x C) where
  ty := fun M h _ p => err_type p
  it := fun M h X _ => by
    obtain ⟨cd, hcd, _⟩ := Option.bind_eq_some_iff.mp c.mo
    unfold clsIn at hcd
    split at hcd
    · rename_i a1 a2 a3 a4 hl
      intro A2 Q2 E2 s2 kk qq
      unfold isType
      unfold loadHead
      exact wpAny_bind (wpAny_loadPart (kk _ _ (X _ _ hl)) (wpAny_pure qq))
    · cases hcd
  ne := fun h tp dd its n sl X htp => by
    obtain ⟨cd, hcd, _⟩ := Option.bind_eq_some_iff.mp c.mo
    refine Bool.eq_false_iff.mpr fun q => ?_
    have e : C = tp := Value.ref.inj (beq_iff_eq.mp q)
    subst e
    unfold clsIn at hcd
    split at hcd
    · rename_i a1 a2 a3 a4 hl
      cases (X _ _ hl).symm.trans htp
    · cases hcd
  ca := fun X p k => err_attr X p c k
end
end PySem.W
namespace L2
open PySem PySem.Spec PyProof.Rows
/-- an error's object, of class C -/
def exo (x C : Addr) : HO := .ext (PySem.W.ErrAt x C)
section
variable {X : Cx}
def clsV : V → Option Value
  | .ty n => some (.type n)
  | .ref a => some (.ref a)
  | _ => none
theorem clsV_rel {v : V} {c u : Value} (e : clsV v = some c) (r : RelV v u) : u = c := by
  cases v <;> first | cases e | skip
  · cases (show u = Value.ref _ from r); rfl
  · cases (show u = Value.type _ from r); rfl
/-- isinstance of a caught error -/
theorem call_isiE : CallR X (.builtin "isinstance") (fun xs H Q => ∃ x C v c b, xs = [.ref x, v] ∧ H x = some (exo x C) ∧ PySem.W.ErrCls X.K C ∧ clsV v = some c ∧ PySem.W.kitOne X.K (.ref C) c = some b ∧ Q (.bl b) H) := by
  intro pins s σ H xs us Q I r h
  obtain ⟨x, C, v, c, b, rfl, hx, ec, hv, e, q⟩ := h
  obtain ⟨u, w', rfl, r1, r2⟩ := vals2 r
  cases r1
  cases clsV_rel hv r2
  obtain ⟨p, -, -⟩ := (show ObjOk X.prog X.w H s.heap x (.ext (PySem.W.ErrAt x C)) from I.hok x _ hx)
  exact PySem.W.kia_one (PySem.W.err_kit ec) I.kIn p e (fun z => nomatch z) fun tk => ⟨.bl b, H, I.tok _, rfl, q⟩
/-- an object more is tracked -/
theorem Inv.also {pins : List (Addr × Obj)} {σ : St} {H : Hp} {s : Shared} {x : Addr} {o : HO} (I : Inv X pins σ H s) (hx : H x = none) (hm : ¬ Mine X pins x) (ok : ObjOk X.prog X.w (upd H x o) s.heap x o) : Inv X pins σ (upd H x o) s := by
  have nb : ∀ b u, H b = some u → b ≠ x := fun b u e z => by rw [z, hx] at e; cases e
  refine ⟨I.ok, I.os, I.bare, ⟨I.base.keep, I.base.slot, fun b ob e n hb => ?_, I.base.there, fun b ys e => ?_, fun b ob u e => ?_, fun b ps e => ?_⟩, I.loc, I.cell, ?_, fun y c e => ?_, fun p hp => ?_, fun b ob e => ?_, I.len⟩
  · have : b ≠ x := fun z => hm (.inl ⟨ob, z ▸ e⟩)
    rw [upd_ne this]
    exact I.base.free b ob e n hb
  · have q := I.base.tups b ys e
    rw [upd_ne (nb _ _ q)]
    exact q
  · have q := I.base.frzs b ob u e
    rw [upd_ne (nb _ _ q)]
    exact q
  · obtain ⟨more, q⟩ := I.base.tbls b ps e
    exact ⟨more, by rw [upd_ne (nb _ _ q)]; exact q⟩
  · have : X.env.locals ≠ x := fun z => hm (.inr (.inl z.symm))
    rw [upd_ne this]
    exact I.free
  · have : c ≠ x := fun z => hm (.inr (.inr (.inl ⟨y, z ▸ e⟩)))
    rw [upd_ne this]
    exact I.freeC y c e
  · obtain ⟨a1, a2, a3⟩ := I.pin p hp
    have : p.1 ≠ x := fun z => hm (.inr (.inr (.inr ⟨p, hp, z⟩)))
    exact ⟨a1, by rw [upd_ne this]; exact a2, a3⟩
  · by_cases hb : b = x
    · subst hb
      rw [upd_same] at e
      cases e
      exact ok
    · rw [upd_ne hb] at e
      refine (I.hok b ob e).stay (fun _ _ _ q => q) (fun c q => ?_) fun c ys q => ?_
      · rw [upd_ne (nb _ _ q)]; exact q
      · rw [upd_ne (nb _ _ q)]; exact q
end
end L2

end
section
set_option Elab.async false
set_option linter.all false
set_option maxRecDepth 100000
set_option maxHeartbeats 4000000
namespace L2
open PySem PySem.Spec PyProof.Rows
section
variable {X : Cx}
/-- the frame's names were written: nothing is known of them any more -/
theorem Inv.blank {pins : List (Addr × Obj)} {σ : St} {H : Hp} {s : Shared} {h' : Heap} {m' : Str → Option Value} {t' : Nat} (I : Inv X pins σ H s) (hn : h'.Ns X.env.locals m') (hs : Heap.SameBut X.env.locals s.heap h') :
    Inv X pins (List.replicate X.N.length none) H { s with heap := h', toks := t' } := by
  have old : ∀ b o, X.s₀.heap.get? b = some o → b ≠ X.env.locals := fun b o e => Nat.ne_of_lt (Nat.lt_of_lt_of_le (Heap.lt_size e) I.ok.above)
  refine ⟨I.ok, I.os, I.bare, ⟨fun b o e n hb hx => ?_, fun b o e n hb hx => ?_, I.base.free, fun b o e hx => ?_, I.base.tups, I.base.frzs, I.base.tbls⟩, ⟨m', hn, fun j y v e1 e2 => ?_⟩, fun y c e => ?_, I.free, I.freeC, fun p hp => ?_, fun b ob e => ?_, by simp⟩
  · rw [hs.2 b (old b o e)]
    exact I.base.keep b o e n hb hx
  · obtain ⟨sl, q⟩ := I.base.slot b o e n hb hx
    exact ⟨sl, by rw [hs.2 b (old b o e)]; exact q⟩
  · obtain ⟨o2, q⟩ := I.base.there b o e hx
    exact ⟨o2, by rw [hs.2 b (old b o e)]; exact q⟩
  · rw [List.getElem?_replicate] at e2
    split at e2
    · cases e2
    · cases e2
  · obtain ⟨u, z⟩ := I.cell y c e
    exact ⟨u, z.sameBut hs (I.cne y c e)⟩
  · obtain ⟨a1, a2, a3, a4⟩ := I.pin p hp
    exact ⟨by rw [hs.2 p.1 a3]; exact a1, a2, a3, a4⟩
  · have hf := I.free
    refine (I.hok b ob e).stay (fun c u hc q => ?_) (fun _ q => q) fun _ _ q => q
    have ne : c ≠ X.env.locals := by
      rintro rfl
      rcases hc with hc | hc
      · rw [hc] at hf
        rw [hf] at e
        cases e
      · rw [hf] at hc
        cases hc
    rw [hs.2 c ne]
    exact q
theorem ko_self {K : PySem.W.Frag} {A : Addr} : PySem.W.kitOne K (.ref A) (.ref A) = some true := by
  unfold PySem.W.kitOne
  rw [if_pos (beq_self_eq_true _)]
theorem ko_ty {K : PySem.W.Frag} {A : Addr} {n : String} {b : Bool} (h : PySem.W.subIn K (.ref A) (.type n) = some b) (hk : PySem.W.kitMeta n = true) : PySem.W.kitOne K (.ref A) (.type n) = some b := by
  unfold PySem.W.kitOne
  rw [if_neg (fun z => by cases eq_of_beq z)]
  unfold PySem.W.kitCls
  simpa [hk] using h
theorem call_isiE_k {K : PySem.W.Frag} (h : X.K = K := by rfl) : CallR X (.builtin "isinstance") (fun xs H Q => ∃ x C v c b, xs = [.ref x, v] ∧ H x = some (exo x C) ∧ PySem.W.ErrCls K C ∧ clsV v = some c ∧ PySem.W.kitOne K (.ref C) c = some b ∧ Q (.bl b) H) := h ▸ call_isiE
def hAs (K : PySem.W.Frag) (D : Addr) (i : Nat) (tb : TS) (th : TH) : TH := fun cls En σ H =>
  ∃ b, PySem.W.subIn K cls (.ref D) = some b ∧ if b = true then (∀ x C, cls = .ref C → H x = none → tb { nx := fun _ _ => False, rt := En.rt } (σ.set i (some (.ref x))) (upd H x (exo x C))) else th cls En σ H
end
end L2

end
section
set_option Elab.async false
set_option linter.all false
set_option maxRecDepth 100000
set_option maxHeartbeats 4000000
namespace PySem
open Sem (wp)
open AutoSeq1 (wpAny_loadPart')
theorem enum1_check (a : Value) (t : Tok) : checkTypeCall "enumerate" ⟨[a], [(Str.ofString "start", .int 1 t)]⟩ = pure () := by kernel_rfl
theorem enum1_new (a : Value) (t : Tok) : checkBuiltinCall "enumerate.__new__" ⟨[.type "enumerate", a], [(Str.ofString "start", .int 1 t)]⟩ = pure () := by kernel_rfl
theorem enum1_init (obj a : Value) (t : Tok) : argsOk "object.__init__" ⟨[obj, a], [(Str.ofString "start", .int 1 t)]⟩ := by unfold argsOk; kernel_rfl
theorem enum1_make (l : Addr) (o : Obj) (items : Array Value) (t : Tok) :
    Meets (Builtin.«enumerate.__new__» ⟨[.type "enumerate", .ref l], [(Str.ofString "start", .int 1 t)]⟩) (fun _ R s => s.heap.get? l = some o ∧ s.heap.IsList l items ∧
      R (.ok (.ret (.ref (s.heap.push { cls := .type "list_iterator", data := .fields #[.ref l, .int 0 0] }).objs.size)))
        { s with heap := (s.heap.push { cls := .type "list_iterator", data := .fields #[.ref l, .int 0 0] }).push { cls := .type "enumerate", data := .fields #[.none, .bool false, .ref s.heap.objs.size, rawInt 1, .none, .none] } }) :=
  .of_wp fun prog w A R s h => by
    obtain ⟨h0, g0, d0, t0, o0⟩ := s
    obtain ⟨ho, hL, h⟩ := h
    have hsub := sub_enumerate
    wp_walk using wpAny_loadPart' ho
    refine wpAny_stack_any fun stk => ?_
    refine wpAny_pure ?_
    split
    · rename_i c _ _ _ _ _
      generalize (c == Value.type "enumerate") = b
      cases b <;> (wp_walk using wpAny_loadPart' ho, wpAny_pyIter_list hL; exact ⟨_, rfl, h⟩)
    · wp_walk using wpAny_loadPart' ho, wpAny_pyIter_list hL
      exact ⟨_, rfl, h⟩
end PySem

end
section
set_option Elab.async false
set_option linter.all false
set_option maxRecDepth 100000
set_option maxHeartbeats 4000000
namespace PySem
open Sem (wp)
/-- enumerate(a list, start=1) -/
theorem call_enum1 {prog : Program} {w : World} {A : Around} {E : Value → Shared → Prop} {s : Shared} {l : Addr} {items : Array Value} {t : Tok} {Q : Value → Shared → Prop} (hL : s.heap.IsList l items)
    (h : ∀ h', IsEnum h' (s.heap.objs.size + 1) s.heap.objs.size 1 .none → h'.IsListIter s.heap.objs.size l 0 → h'.objs.size = s.heap.objs.size + 2 →
      (∀ b o, s.heap.get? b = some o → h'.get? b = some o) → Q (.ref (s.heap.objs.size + 1)) { s with heap := h' }) :
    wpAny (model prog w) A (call (.type "enumerate") [.ref l] [(Str.ofString "start", .int 1 t)]) Q E s := by
  have ft := F.called_enumerate
  obtain ⟨c, tl, hmro⟩ := ft.mro
  have f1 := ft.made
  have f2 := ft.sub
  have f3 := ft.notType
  have f4 := ft.canCreate
  have f5 := enum1_check (.ref l) t
  obtain ⟨o, ho, _⟩ := id hL
  refine wpAny_call (codeAny_of_tree ?_)
  show wpAny _ _ (callAny (.type "enumerate") _) _ _ _
  refine wpAny_pure ⟨Code.quiet_builtin _ (by decide +kernel), ?_⟩
  refine codeAny_builtin F.entry_type_call ?_
  rw [Around.under_plain (weight_type_call_type "enumerate" _ _) (units_type_call_type "enumerate" _ _)]
  repeat (any_goals (first | assumption | wp_step))
  have hz : (s.heap.push { cls := .type "list_iterator", data := .fields #[.ref l, .int 0 0] }).objs.size = s.heap.objs.size + 1 := Heap.size_push ..
  have he : IsEnum ((s.heap.push { cls := .type "list_iterator", data := .fields #[.ref l, .int 0 0] }).push { cls := .type "enumerate", data := .fields #[.none, .bool false, .ref s.heap.objs.size, rawInt 1, .none, .none] }) (s.heap.objs.size + 1) s.heap.objs.size 1 .none := by
    rw [← hz]
    exact Heap.get?_push_size _ rfl
  have hi : ((s.heap.push { cls := .type "list_iterator", data := .fields #[.ref l, .int 0 0] }).push { cls := .type "enumerate", data := .fields #[.none, .bool false, .ref s.heap.objs.size, rawInt 1, .none, .none] }).IsListIter s.heap.objs.size l 0 :=
    ⟨_, Heap.get?_push_of_some _ (Heap.get?_push_size _ rfl), rfl, rfl⟩
  have hsz : ((s.heap.push { cls := .type "list_iterator", data := .fields #[.ref l, .int 0 0] }).push { cls := .type "enumerate", data := .fields #[.none, .bool false, .ref s.heap.objs.size, rawInt 1, .none, .none] }).objs.size = s.heap.objs.size + 2 := by
    rw [Heap.size_push, hz]
  have hq := h _ he hi hsz fun b o x => Heap.get?_push_of_some _ (Heap.get?_push_of_some _ x)
  have hN : wants (fun v s1 => v = Value.ref (s.heap.objs.size + 1) ∧ s1 = { s with heap := (s.heap.push { cls := .type "list_iterator", data := .fields #[.ref l, .int 0 0] }).push { cls := .type "enumerate", data := .fields #[.none, .bool false, .ref s.heap.objs.size, rawInt 1, .none, .none] } }) E (.ok (.ret (.ref (s.heap.push { cls := .type "list_iterator", data := .fields #[.ref l, .int 0 0] }).objs.size)))
      { s with heap := (s.heap.push { cls := .type "list_iterator", data := .fields #[.ref l, .int 0 0] }).push { cls := .type "enumerate", data := .fields #[.none, .bool false, .ref s.heap.objs.size, rawInt 1, .none, .none] } } := by
    rw [hz]
    exact ⟨rfl, rfl⟩
  have hM := enum1_make l o items t prog w A.in1 _ s ⟨ho, hL, hN⟩
  generalize (s.heap.push { cls := .type "list_iterator", data := .fields #[.ref l, .int 0 0] }).push { cls := .type "enumerate", data := .fields #[.none, .bool false, .ref s.heap.objs.size, rawInt 1, .none, .none] } = h9 at he hi hsz hq hM
  have hT : ({ s with heap := h9 } : Shared).TypeIs (.ref (s.heap.objs.size + 1)) "enumerate" := ⟨_, he, rfl⟩
  have hli := ft.init.lookup
  have hbi := ft.init.bind (.ref (s.heap.objs.size + 1))
  refine codeAny_mono (codeAny_call_builtin (R := wants (fun v s1 => v = .ref (s.heap.objs.size + 1) ∧ s1 = { s with heap := h9 }) E) ft.plain F.entry_enumerate_new
    (wpAny_of_eq (enum1_new _ t) hM)) fun r s1 hr => ?_
  cases r with
  | error e => exact hr
  | ok fl =>
    cases fl with
    | ret v =>
      obtain ⟨rfl, rfl⟩ := hr
      dsimp only
      have hx : (some "enumerate.__new__" != some "object.__new__") = true := by decide
      repeat (any_goals (first | assumption | wp_step))
      refine codeAny_call_builtin ft.init.plain F.entry_object_init (ft.init.check _ _ _ _ _ _ _ _ hT (enum1_init _ _ t) ?_)
      unfold Builtin.«object.__init__»
      repeat (any_goals (first | assumption | wp_step))
    | _ => exact hr.elim
end PySem

end
section
set_option Elab.async false
set_option linter.all false
set_option maxRecDepth 100000
set_option maxHeartbeats 4000000
namespace PySem
theorem Draws.late {prog : Program} {w : World} {A : Around} {it : Addr} {fp : List Addr} {n : Nat} {P : Nat → Value → Prop} {St : Nat → Heap → Prop} (D : Draws prog w A it fp n P St) :
    Draws prog w A it fp (n + 1) (fun i x => P (i - 1) x) (fun i h => 1 ≤ i ∧ St (i - 1) h) where
  live := fun i h st => D.live _ _ st.2
  frame := fun i h h' st k => ⟨st.1, D.frame _ _ _ st.2 k⟩
  item := fun i s Q E hi st hQ => D.item (i - 1) s Q E (by have := st.1; omega) st.2 fun x h' tk hP hs hb => hQ x h' tk hP ⟨by omega, by
    have e : i - 1 + 1 = i + 1 - 1 := by have := st.1; omega
    rw [← e]; exact hs⟩ hb
  done := fun s Q E st hE => D.done s Q E st.2 hE
end PySem
namespace L2
open PySem PySem.Spec PyProof.Rows
/-- two untracked records of ours have turned -/
theorem Inv.turned2 {X : Cx} {pins : List (Addr × Obj)} {σ : St} {H : Hp} {s : Shared} {h' : Heap} {t' : Nat} {e it : Addr} (I : Inv X pins σ H s) (k : ∀ b o, b ≠ e → b ≠ it → s.heap.get? b = some o → h'.get? b = some o) (fe : FpOk X pins H e) (fi : FpOk X pins H it) : Inv X pins σ H { s with heap := h', toks := t' } := by
  obtain ⟨e0, e1, _, e3, e4, e5⟩ := fe
  obtain ⟨i0, i1, _, i3, i4, i5⟩ := fi
  have ne : ∀ b u, H b = some u → b ≠ e := fun b u q z => by rw [z, e0] at q; cases q
  have ni : ∀ b u, H b = some u → b ≠ it := fun b u q z => by rw [z, i0] at q; cases q
  have kc : ∀ b o, b ∉ [e, it] → s.heap.get? b = some o → h'.get? b = some o := fun b o hc q => k b o (fun z => hc (by simp [z])) (fun z => hc (by simp [z])) q
  refine I.step (g' := s.gens) (d' := s.drawn) (ch := [e, it]) (fun b hb => ?_) (fun b o _ _ hc q _ => kc b o hc q) (fun b o _ _ hc q _ => ⟨o.slots, kc b o hc q⟩) (fun _ _ _ _ n => n)
    (fun b o hc q => ⟨o, kc b o hc q⟩) (fun _ _ q => q) (fun _ _ _ q => q) (fun b ps q => ⟨#[], by rw [q]; simp⟩) (fun m hm => ?_) (fun b u q => ?_) I.bare
  · rcases List.mem_cons.mp hb with z | z
    · subst z; exact ⟨e3, e1, e4, e5⟩
    · have z : b = it := by simpa using z
      subst z; exact ⟨i3, i1, i4, i5⟩
  · obtain ⟨o, es, ep, ho, r⟩ := hm
    exact ⟨o, es, ep, k _ o (Ne.symm e1) (Ne.symm i1) ho, r⟩
  · refine (I.hok b u q).stay (fun c v hc z => k c v ?_ ?_ z) (fun _ z => z) fun _ _ z => z
    · rcases hc with y | y
      · rw [y]; exact ne b u q
      · exact ne c _ y
    · rcases hc with y | y
      · rw [y]; exact ni b u q
      · exact ni c _ y
/-- (1, first), (2, second), .. of a list -/
def Ite (K : PySem.W.Frag) (a : Addr) : It :=
  ⟨fun i H => ∃ xs x, SqL K H a xs ∧ xs[i]? = some x, fun i H x H' => ∃ T v, x = .ref T ∧ H T = none ∧ H' = upd H T (.tup [.int ((i : Int) + 1), v]) ∧ ∀ xs, SqL K H a xs → xs[i]? = some v, fun i H => ∃ xs, SqL K H a xs ∧ xs.length ≤ i⟩
theorem not_mine {X : Cx} {pins : List (Addr × Obj)} {σ : St} {H : Hp} {s : Shared} (I : Inv X pins σ H s) {T : Addr} (hT : s.heap.objs.size ≤ T) : ¬ Mine X pins T := by
  intro hm
  rcases hm with ⟨o, e⟩ | e | ⟨y, e⟩ | ⟨p, hp, e⟩
  · exact absurd (Nat.lt_of_lt_of_le (Heap.lt_size e) (Nat.le_trans I.sz hT)) (Nat.lt_irrefl _)
  · rw [e] at hT
    exact absurd (Nat.lt_of_lt_of_le I.lt hT) (Nat.lt_irrefl _)
  · obtain ⟨v, q⟩ := I.cell y T e
    exact absurd (Nat.lt_of_lt_of_le q.lt hT) (Nat.lt_irrefl _)
  · have := Heap.lt_size (I.pin p hp).1
    rw [e] at this
    exact absurd (Nat.lt_of_lt_of_le this hT) (Nat.lt_irrefl _)
theorem turn_enum {P : Program} {w : World} {K : PySem.W.Frag} {els : List Expr} {x1} {tp : Pos} (a e it : Addr) (hne : e ≠ it) : Turn P w K (.Tuple els x1 tp) (Ite K a) [e, it] e (fun i h => (∃ old, IsEnum h e it (((i + 1 : Nat)) : Int) old) ∧ h.IsListIter it a i) where
  mem := by simp
  obj := fun i h st b hb => by
    obtain ⟨⟨old, he⟩, o, ho, hc, hd⟩ := st
    rcases List.mem_cons.mp hb with z | z
    · subst z
      exact ⟨_, he, fun v z => by cases z⟩
    · have z : b = it := by simpa using z
      subst z
      exact ⟨o, ho, fun v z => by rw [hd] at z; cases z⟩
  keep := fun i h h' st k => by
    obtain ⟨⟨old, he⟩, hl⟩ := st
    exact ⟨⟨old, k e (by simp) _ he⟩, hl.at fun o q => k it (by simp) o q⟩
  item := by
    intro X hP hw hK hc i pins s σ H E I hf st hg
    subst hP hw hK
    obtain ⟨xs, x, hq, hx⟩ := hg
    obtain ⟨its, rv, p, hz⟩ := I.list hq
    obtain ⟨⟨old, he⟩, hl⟩ := st
    obtain ⟨u, hu, ru⟩ := rv.get hx
    have hlen := rv.length
    have hi : i < its.length := (List.getElem?_eq_some_iff.mp hu).1
    have fe := hf e (by simp)
    have fi := hf it (by simp)
    have nai : a ≠ it := fun z => by
      obtain ⟨o, ho, hcc, _⟩ := hl
      obtain ⟨o2, n2, ho2, hc2, _⟩ := p
      rw [← z, ho2] at ho
      cases ho
      rw [hc2] at hcc
      injection hcc with y
      exact absurd y (by decide)
    have nae : e ≠ a := fun z => by
      obtain ⟨o2, n2, ho2, hc2, _⟩ := p
      rw [← z, he] at ho2
      cases ho2
      have y : Value.type "enumerate" = Value.type "list" := hc2
      injection y with y
      exact absurd y (by decide)
    have D := (Draws.list (prog := X.prog) (w := X.w) (A := X.A.in1) (by exact I.ok.hd hc) it a nai its.toArray).late
    refine wpAny_pyNext_enum_itemD D he (i := i + 1) ⟨by omega, hl, p.isList⟩ (by rw [List.size_toArray]; omega) hne (by simp [hne, nae]) fun v h' tk hP ho hs hT hsz hk => ?_
    have hv : v = u := by
      have : its.toArray[i + 1 - 1]? = some v := hP
      have e0 : its[i]? = some v := by simpa using this
      rw [hu] at e0
      exact (Option.some.inj e0).symm
    subst hv
    refine ⟨_, rfl, ?_⟩
    have I1 : Inv X pins σ H { s with heap := h', toks := tk + 1 } := I.turned2 (fun b o n1 n2 q => hk b o n1 n2 q) fe fi
    refine wpAny_letOwnedTupleGo_enum (s := { s with heap := h', toks := tk + 1 }) ho fun h2 he2 hs2 => ?_
    obtain ⟨f0, f1, f2, f3, f4, f5⟩ := fe
    have I2 : Inv X pins σ H { s with heap := h2, toks := tk + 1 } := I1.turned (t' := tk + 1) (fun b o hb q => (hs2.2 b hb).trans q) f0 f1 f3 f4 f5
    have hTe : s.heap.objs.size ≠ e := Nat.ne_of_gt (Heap.lt_size he)
    have hT2 : h2.get? s.heap.objs.size = some { cls := .type "tuple", data := .seq #[.int (((i + 1 : Nat)) : Int) tk, v] } := (hs2.2 _ hTe).trans hT
    have hn0 : H s.heap.objs.size = none := I.fresh
    have hm : ¬ Mine X pins s.heap.objs.size := not_mine I (Nat.le_refl _)
    have e1 : (((i + 1 : Nat)) : Int) = (i : Int) + 1 := by omega
    have ok : ObjOk X.prog X.w (upd H s.heap.objs.size (.tup [.int ((i : Int) + 1), x])) h2 s.heap.objs.size (.tup [.int ((i : Int) + 1), x]) := by
      refine ⟨small_size' (by show 2 ≤ 1000000; decide), [.int (((i + 1 : Nat)) : Int) tk, v], .cons ⟨tk, by rw [e1]⟩ (.cons ru .nil), _, hT2, rfl, _, rfl⟩
    refine ⟨.ref s.heap.objs.size, _, I2.also hn0 hm ok, rfl, ⟨_, x, rfl, hn0, rfl, fun ys hy => by rw [I.list_inj hy hq]; exact hx⟩, ⟨⟨v, ?_⟩, ?_⟩, fun b hb => ?_⟩
    · exact he2
    · exact hs.2.1.at fun o q => (hs2.2 it (Ne.symm hne)).trans q
    · have nb : b ≠ s.heap.objs.size := by
        obtain ⟨o, q⟩ : ∃ o, s.heap.get? b = some o := by
          rcases List.mem_cons.mp hb with z | z
          · exact ⟨_, z ▸ he⟩
          · have z : b = it := by simpa using z
            obtain ⟨o, q, _⟩ := hl
            exact ⟨o, z ▸ q⟩
        exact Nat.ne_of_lt (Heap.lt_size q)
      rw [upd_ne nb]
      exact (hf b hb).1
  done := by
    intro X hP hw hK hc i pins s σ H E I hf st hg
    subst hP hw hK
    obtain ⟨xs, hq, hx⟩ := hg
    obtain ⟨its, rv, p, hz⟩ := I.list hq
    obtain ⟨⟨old, he⟩, hl⟩ := st
    have hlen := rv.length
    have fi := hf it (by simp)
    have D : Draws X.prog X.w X.A.in1 it [it, a] (i + 1) (fun _ _ => False) (fun j h => j = i + 1 ∧ h.IsListIter it a i ∧ h.IsList a its.toArray) := {
      live := fun j h st => (let ⟨o, ho, _⟩ := st.2.1; ⟨o, ho⟩)
      frame := fun j h h' st k => ⟨st.1, st.2.1.at fun o q => k it (by simp) o q, st.2.2.at fun o q => k a (by simp) o q⟩
      item := fun j s Q E hj st _ => absurd st.1 (by omega)
      done := fun s Q E st hE => wpAny_nextOf_list_end (by exact I.ok.hd hc) st.2.1 st.2.2 (by simp; omega) hE }
    obtain ⟨f0, f1, f2, f3, f4, f5⟩ := fi
    exact wpAny_pyNext_enum_endD D he ⟨rfl, hl, p.isList⟩ fun h' hx => ⟨rfl, I.turned (t' := s.toks) (fun b o hb q => hx b o hb q) f0 f1 f3 f4 f5⟩
  self := fun _ _ _ _ _ st h => by
    obtain ⟨⟨old, he⟩, _⟩ := st
    exact wpAny_pyIter_enum he h
section
variable {X : Cx}
theorem callWith_type_kw {M : Model} {A : Around} {E : Value → Shared → Prop} {s : Shared} {pos : Pos} {T : String} {args : List (Bool × Sem Value)} {keywords : List (Option Str × Sem Value)} {Q : Value → Shared → Prop}
    (hp : args.any (·.1) = false) (hk : keywords.any (·.1.isNone) = false)
    (h : wpAny M A (evalArgs (.type T) true args keywords) (fun b s1 => wpAny M A (call (.type T) ([] ++ b.pos) b.kw) Q E s1) E s) : wpAny M A (callWith pos (.type T) [] args keywords) Q E s := by
  unfold callWith
  refine wpAny_bind (wpAny_holding ?_)
  refine wpAny_mono h (fun b s1 h1 => ?_) fun _ _ z => z
  refine wpAny_bind (wpAny_standAt ?_)
  simp only [hp, hk, Bool.or_false]
  refine wpAny_bind (wpAny_pure ?_)
  refine wpAny_bind (wpAny_mono h1 (fun r s2 hr => ?_) fun _ _ z => z)
  exact wpAny_bind (wpAny_holding (wpAny_point (wpAny_pure hr)))
def iEnum (K : PySem.W.Frag) (ta tk : TA) : TI := fun σ H R => ta σ H fun vs H1 => tk σ H1 fun ws H2 => ∃ a xs, vs = [.ref a] ∧ ws = [.int 1] ∧ SqL K H2 a xs ∧ R (Ite K a) H2
theorem boot_enumerate : bootBuiltins "enumerate" = some (.type "enumerate") := by decide +kernel
theorem pi_enum1 {els : List Expr} {x1} {tp : Pos} {a c : Expr} {ta tk : TA} {p pos kp : Pos} (hg : Gl X "enumerate") (hm : X.mg "enumerate" = none) (ha : PA X [a] ta) (hk : PK X [⟨some (Str.ofString "start"), c, kp⟩] tk)
    (he : backTo pos (starEach [a] X.env) = (false, eval a X.env) :: backTo pos (starEach [] X.env) := by rfl) (hpl : (backTo pos (starEach [a] X.env)).any (·.1) = false := by rfl) : PI X (.Tuple els x1 tp) (.Call (.Name "enumerate" p) [a] [⟨some (Str.ofString "start"), c, kp⟩] pos) (iEnum X.K ta tk) := by
  intro pins s σ H R I h
  refine wpAny_Call_Name_kw (ld_blt I hg hm boot_enumerate ?_)
  refine callWith_type_kw hpl (by rfl) ?_
  rw [he]
  refine evalArgs_kwB (by rfl) ?_
  rw [← he]
  refine thn (ha pos pins s σ H _ I h) fun us s1 ⟨vs, H1, I1, r1, q1⟩ => ?_
  refine thn (hk pos pins s1 σ H1 _ I1 q1) fun ws s2 ⟨zs, H2, I2, r2, q2⟩ => ?_
  obtain ⟨b, xs, e1, e2, hq, q⟩ := q2
  subst e1 e2
  obtain ⟨u, rfl, ru⟩ := r1.one
  cases ru
  obtain ⟨u2, rfl, ru2⟩ := r2.one
  obtain ⟨t, rfl⟩ := ru2
  obtain ⟨its, rv, pl, hz⟩ := I2.list hq
  refine call_enum1 pl.isList fun h9 he9 hi9 hsz9 hk9 => ?_
  refine wpAny_pyIter_enum (s := { s2 with heap := h9 }) he9 ?_
  have hne : s2.heap.objs.size + 1 ≠ s2.heap.objs.size := Nat.succ_ne_self _
  refine ⟨s2.heap.objs.size + 1, [s2.heap.objs.size + 1, s2.heap.objs.size], _, _, H2, rfl, I2.kept (t' := s2.toks) hk9, turn_enum b _ _ hne, ⟨⟨_, he9⟩, hi9⟩, fun d hd => ?_, q⟩
  rcases List.mem_cons.mp hd with z | z
  · subst z
    exact I2.fpOk (Nat.le_succ _) (I2.hok.fresh (Nat.le_succ _))
  · have z : d = s2.heap.objs.size := by simpa using z
    subst z
    exact I2.fpOk (Nat.le_refl _) (I2.hok.fresh (Nat.le_refl _))
end
end L2

end
section
set_option Elab.async false
set_option linter.all false
set_option maxRecDepth 100000
set_option maxHeartbeats 4000000
namespace L2
open PySem PySem.Spec PyProof.Rows
/-- the form of a block's scope that has two names of its own -/
structure CompScope2 (X : Cx) (sc : Scope) (x y2 : Str) (cap : List Str) (js : List Nat) : Prop where
  kind : sc.kind = .function
  nocell : ∀ y ∈ sc.names, y.2 ≠ .cell
  names : ∀ y ∈ sc.names, y.2 = .local → sc.names.lookup y.1 = some .local
  own : sc.names.lookup x = some .local
  own2 : sc.names.lookup y2 = some .local
  free : ∀ y ∈ sc.names, y.2 = .free → X.env.kindOf y.1 = some .cell ∨ X.env.kindOf y.1 = some .free
  nd : (x :: y2 :: cap).Nodup
  caps : CapOk X sc cap js
section
variable {X : Cx} {sc : Scope} {x y2 : Str} {cap : List Str} {js : List Nat} {pins : List (Addr × Obj)} {σ : St} {H : Hp} {s : Shared}
theorem CompScope2.cells (S : CompScope2 X sc x y2 cap js) (I : Inv X pins σ H s) : ∀ y ∈ sc.names, y.2 = .free → ∃ c, X.env.cells.lookup y.1 = some c := fun y hy hf => I.ok.has y.1 (S.free y hy hf)
theorem CompScope2.sub (S : CompScope2 X sc x y2 cap js) (I : Inv X pins σ H s) {y : Str} {c : Addr} (h : (clFrom X.env sc.names []).lookup y = some c) : X.env.cells.lookup y = some c :=
  clFrom_sub (S.cells I) (fun _ _ e => by simp at e) h
/-- the block begins -/
theorem comp_start2 {s4 : Shared} {h4 : Heap} {t4 : Nat} {fp : List Addr} {C : Addr} {v : Option V} {m : Str → Option Value} (S : CompScope2 X sc x y2 cap js) (I : Inv X pins σ H s) (hfp : ∀ b ∈ fp, FpOk X pins H b) (hlt : ∀ b ∈ fp, b < s.heap.objs.size)
    (hC : s.heap.objs.size ≤ C) (hn : h4.Ns C m) (k : ∀ b o, s.heap.get? b = some o → h4.get? b = some o) :
    Inv (cxComp X sc (x :: y2 :: cap) s H C fp) [] (none :: none :: capt σ js) H { s with heap := h4, toks := t4 } := by
  have nf : ∀ b ∈ frs X.stack, b < s.heap.objs.size := fun b hb => by
    obtain ⟨_, o, ho, _⟩ := I.stack.mem hb
    exact Heap.lt_size ho
  refine ⟨⟨I.ok.mod, S.kind, I.ok.glob, I.ok.blt, hC, fun y z c h1 h2 => I.ok.inj y z c (S.sub I h1) (S.sub I h2), fun y hy => ?_, fun y c h => absurd h Bool.false_ne_true, I.ok.hd, I.ok.frames, .inl rfl, fun b hb => ⟨Nat.ne_of_lt (Nat.lt_of_lt_of_le (hlt b hb) hC), fun y c e => (hfp b hb).2.2.2.2.1 y c (S.sub I e)⟩, I.bs,
      Nat.le_trans I.ok.bsz I.sz, fun b o e hb => ?_, fun b hb z => ?_, I.stack, I.stkFree⟩, rfl, I.bare, Un.kept k, ⟨m, hn, fun i y v' h1 h2 h3 => ?_⟩, fun y c e => ?_, I.hok.fresh hC, fun y c e => I.freeC y c (S.sub I e), fun p hp => absurd (show p ∈ ([] : List (Addr × Obj)) from hp) (by simp), I.hok.kept k, ?_⟩
  · exact clFrom_has (by
      rcases hy with z | z
      · exact mem_relabel z (.inl rfl) S.nocell
      · exact mem_relabel z (.inr rfl) S.nocell)
  · rcases (hfp b hb).2.2.2.1 with z | z
    · exact I.ok.noex b o e z
    · exact absurd (Nat.lt_of_lt_of_le (Heap.lt_size e) (Nat.le_trans I.ok.bsz z)) (Nat.lt_irrefl _)
  · rcases List.mem_cons.mp (I.stkSub b z) with q | q
    · exact (hfp b hb).2.1 q
    · exact (hfp b hb).2.2.1 q
  · cases i with
    | zero => exact absurd (show (none : Option V) = some v' from Option.some.inj h2) (by simp)
    | succ i =>
     cases i with
     | zero => exact absurd (show (none : Option V) = some v' from Option.some.inj h2) (by simp)
     | succ i =>
      have e1 : cap[i]? = some y := by simpa using h1
      obtain ⟨j, q1, q2, q3, q4⟩ := S.caps.get e1
      have e2 : (capt σ js)[i]? = some (some v') := by simpa using h2
      have e3 : σ[j]? = some (some v') := by
        unfold capt at e2
        rw [List.getElem?_map, q1, Option.map_some] at e2
        have e4 : (σ[j]?).join = some v' := Option.some.inj e2
        cases q : σ[j]? with
        | none => rw [q] at e4; cases e4
        | some w => rw [q] at e4; exact congrArg some e4
      have vis : Vis X.env.scope y := by
        rcases q3 with q3 | q3
        · exact .inr (.inl q3)
        · exact .inr (.inr q3)
      obtain ⟨mX, hnX, hl⟩ := I.loc
      obtain ⟨u, ru, lk⟩ := hl j y v' q2 e3 vis
      refine ⟨u, ru, .inr ?_⟩
      rcases lk with ⟨hk, _⟩ | ⟨hk, c, hc, hcell⟩
      · rcases q3 with q3 | q3
        · rw [q3] at hk; cases hk
        · rw [q3] at hk; cases hk
      · obtain ⟨c', hc'⟩ := clFrom_has (env := X.env) (cs := []) (PySem.mem_of_lookup q4)
        have := S.sub I hc'
        rw [hc] at this
        cases this
        obtain ⟨o, ho, hd⟩ := hcell
        refine ⟨?_, c, hc', ⟨o, k c o ho, hd⟩⟩
        rcases h3 with z | z | z
        · exfalso
          have hz := PySem.mem_of_lookup z
          obtain ⟨⟨n, k'⟩, hn', en⟩ := List.mem_map.mp hz
          by_cases hf : (k' == NameKind.free && X.env.scope.kind == .function && X.env.kindOf n == some .cell) = true
          · simp only [hf, if_true] at en
            cases en
          · simp only [hf, if_false] at en
            cases en
            have := S.names _ hn' rfl
            rw [q4] at this
            cases this
        · exact .inl z
        · exact .inr z
  · obtain ⟨v', o, ho, hd⟩ := I.cell y c (S.sub I e)
    exact ⟨v', o, k c o ho, hd⟩
  · show (none :: none :: capt σ js).length = (x :: y2 :: cap).length
    unfold capt
    rw [List.length_cons, List.length_cons, List.length_cons, List.length_cons, List.length_map, S.caps.len]

end
def CompGo2 (J : It) (g2 : TG) (tc : TT) (te : TE) (js : List Nat) (σ : St) (H1 : Hp) (Q : VK) : Prop :=
  ∃ W : Nat → Nat → List V → Hp → Prop, (∃ m, W 0 m [] H1) ∧ ∀ i m acc H, W i m acc H →
    (J.stop i H ∧ ∀ p, H p = none → Q (.ref p) (upd H p (.lst acc))) ∨
    (J.go i H ∧ acc.length < sizeLine ∧ ∀ x H', J.yld i H x H' → g2 x (none :: none :: capt σ js) H' fun σ2 H4 => (∃ a b, σ2 = a :: b :: capt σ js) ∧ tc σ2 H4 fun b H2 =>
      if b = true then te σ2 H2 fun v H3 => ∃ m', m' < m ∧ W (i + 1) m' (acc ++ [v]) H3 else ∃ m', m' < m ∧ W (i + 1) m' acc H2)
def tComp2 (wi : TI) (g2 : TG) (tc : TT) (te : TE) (js : List Nat) : TE := fun σ H Q => wi σ H fun J H1 => CompGo2 J g2 tc te js σ H1 Q
section
variable {X : Cx} {sc : Scope} {x y2 : Str} {cap : List Str} {js : List Nat} {pins : List (Addr × Obj)} {σ : St} {H : Hp} {s : Shared} {elt iter tg : Expr} {g2 : TG} {ifs : List Expr} {px pos : Pos} {tc : TT} {te : TE}
theorem comp_block2 {J : It} {it : Addr} {fp : List Addr} {tn : Nat → Heap → Prop} {Q : VK} {E : Value → Shared → Prop} {RR : Value → Addr → Result → Shared → Prop} (S : CompScope2 X sc x y2 cap js) (hgt : ∀ s H C fp, PG (cxComp X sc (x :: y2 :: cap) s H C fp) tg g2) (hcalm : X.calm = true)
    (hc : ∀ s H C fp, PIf (cxComp X sc (x :: y2 :: cap) s H C fp) ifs tc) (he : ∀ s H C fp, PE (cxComp X sc (x :: y2 :: cap) s H C fp) elt te)
    (I : Inv X pins σ H s) (T : Turn X.prog X.w X.K tg J fp it tn) (st : tn 0 s.heap) (hfp : ∀ b ∈ fp, FpOk X pins H b) (go : CompGo2 J g2 tc te js σ H Q)
    (hRR : ∀ D C HB sB σB acc its n, s.heap.objs.size ≤ D → s.heap.objs.size ≤ C → D ≠ C → Inv (cxComp X sc (x :: y2 :: cap) s H C fp) [] σB HB sB → HB D = none → sB.heap.get? D = some { cls := .type "list", data := .seq (its : List Value).toArray n } → Vals acc its → acc.length ≤ sizeLine →
      (∀ p, HB p = none → Q (.ref p) (upd HB p (.lst acc))) → RR (.ref D) C (.ok .next) sB) :
    wpAny (model X.prog X.w) X.A (newList []) (fun acc s₃ => wpAny (model X.prog X.w) X.A (newFunctionEnv sc X.env.globals (clFrom X.env sc.names []) [] X.env.qual none .none (some X.env)) (fun cenv s₄ =>
      codeAny (model X.prog X.w) X.A (.compStart (.ListComp elt [⟨tg, iter, ifs, 0⟩] sc pos) 0 (.ref it) acc { cenv with scope := relabel sc X.env }) (RR acc cenv.locals) s₄) E s₃) E s := by
  refine wpAny_newObj_type (wpAny_newFunctionEnv S.nocell (by intro y hy; simp at hy) (fun h₁ hns₁ hsb₁ => ?_) S.kind)
  dsimp only at hns₁ hsb₁ ⊢
  generalize hH2 : s.heap.push { cls := .type "list", dict := none, data := .seq ([] : List Value).toArray } = H2 at hns₁ hsb₁ ⊢
  have hCs : H2.objs.size = s.heap.objs.size + 1 := by rw [← hH2, Heap.size_push]
  have hDC : s.heap.objs.size ≠ H2.objs.size := by rw [hCs]; exact Nat.ne_of_lt (Nat.lt_succ_self _)
  have hCle : s.heap.objs.size ≤ H2.objs.size := by rw [hCs]; exact Nat.le_succ _
  have below : ∀ b, b < s.heap.objs.size → b ≠ H2.objs.size := fun b hb => by rw [hCs]; exact Nat.ne_of_lt (Nat.lt_succ_of_lt hb)
  have old : ∀ b o, s.heap.get? b = some o → h₁.get? b = some o := fun b o e => hsb₁.extBut b o (below b (Heap.lt_size e)) (Heap.get?_push_of_some _ (hH2 ▸ Heap.get?_push_of_some _ e))
  have hacc : h₁.get? s.heap.objs.size = some { cls := .type "list", data := .seq ([] : List Value).toArray 0 } := hsb₁.extBut _ _ hDC (Heap.get?_push_of_some _ (hH2 ▸ Heap.get?_push_size _ rfl))
  have hlt : ∀ b ∈ fp, b < s.heap.objs.size := fun b hb => by
    obtain ⟨o, e, _⟩ := T.obj _ _ st b hb
    exact Heap.lt_size e
  obtain ⟨W, ⟨m0, w0⟩, turn⟩ := go
  have nD : ∀ b ∈ fp, b ≠ s.heap.objs.size := fun b hb => Nat.ne_of_lt (hlt b hb)
  have nfs : s.heap.objs.size ∉ frs X.stack := fun z => by
    obtain ⟨_, o, ho, _⟩ := I.stack.mem z
    exact absurd (Heap.lt_size ho) (Nat.lt_irrefl _)
  have ncl : ∀ y c, (clFrom X.env sc.names []).lookup y = some c → c ≠ s.heap.objs.size := fun y c e => by
    obtain ⟨v, o, ho, _⟩ := I.cell y c (S.sub I e)
    exact Nat.ne_of_lt (Heap.lt_size ho)
  have loop : ∀ s₃ : Shared, s₃ = { s with heap := h₁, toks := s.toks + ([] : List (Str × Value)).length } →
      codeAny (model X.prog X.w) X.A (.compLoop (.ListComp elt [⟨tg, iter, ifs, 0⟩] sc pos) 0 (.ref it) (.ref s.heap.objs.size) (compEnvC sc (clFrom X.env sc.names []) H2.objs.size X.env))
        (RR (.ref s.heap.objs.size) H2.objs.size) s₃ := by
    rintro s₃ rfl
    have I0 : Inv (cxComp X sc (x :: y2 :: cap) s H H2.objs.size fp) [] (none :: none :: capt σ js) H { s with heap := h₁, toks := s.toks + ([] : List (Str × Value)).length } := comp_start2 (v := none) S I hfp hlt hCle hns₁ old (s4 := s)
    refine compLoop_go (fun n s' => ∃ i H' acc its k, Inv (cxComp X sc (x :: y2 :: cap) s H H2.objs.size fp) [] (none :: none :: capt σ js) H' s' ∧ tn i s'.heap ∧ (∀ b ∈ fp, H' b = none) ∧ H' s.heap.objs.size = none ∧
        s'.heap.get? s.heap.objs.size = some { cls := .type "list", data := .seq (its : List Value).toArray k } ∧ Vals acc its ∧ acc.length ≤ sizeLine ∧ W i n acc H') ?_ m0
      ⟨0, H, [], [], 0, I0, T.keep _ _ _ st fun b _ o e => old b o e, fun b hb => (hfp b hb).1, I.hok.fresh (Nat.le_refl _), hacc, .nil, Nat.zero_le _, w0⟩
    rintro n s3 ⟨i, H3, acc, its, kk, I3, st3, fr3, fD3, d3, r3, z3, w3⟩
    -- the list so far is pinned, the iterator's records may turn
    have fpY : ∀ {H' : Hp} {pl : List (Addr × Obj)}, (∀ b ∈ fp, H' b = none) → (∀ p ∈ pl, p.1 = s.heap.objs.size) → ∀ b ∈ fp, FpOk (cxComp X sc (x :: y2 :: cap) s H H2.objs.size fp) pl H' b := fun {H' pl} hn hp b hb =>
      ⟨hn b hb, below b (hlt b hb), fun z => by
        rcases List.mem_cons.mp (I.stkSub b z) with q | q
        · exact (hfp b hb).2.1 q
        · exact (hfp b hb).2.2.1 q, .inl hb, fun y c e => (hfp b hb).2.2.2.2.1 y c (S.sub I e), fun p hp' => by
        rw [hp p hp']
        exact Ne.symm (nD b hb)⟩
    have pin3 : Inv (cxComp X sc (x :: y2 :: cap) s H H2.objs.size fp) [(s.heap.objs.size, { cls := .type "list", data := .seq its.toArray kk })] (none :: none :: capt σ js) H3 s3 := I3.pins_of fun p hp => by
      have e : p = (s.heap.objs.size, { cls := .type "list", data := .seq its.toArray kk }) := by simpa using hp
      subst e
      exact ⟨d3, fD3, hDC, nfs, fun v z => by cases z⟩
    have onlyD : ∀ p ∈ [(s.heap.objs.size, ({ cls := .type "list", data := .seq its.toArray kk } : Obj))], p.1 = s.heap.objs.size := fun p hp => by
      have e : p = (s.heap.objs.size, { cls := .type "list", data := .seq its.toArray kk }) := by simpa using hp
      rw [e]
    rcases turn i n acc H3 w3 with ⟨stop, qn⟩ | ⟨gon, hlen, step⟩
    · refine wpAny_mono (T.done (cxComp X sc (x :: y2 :: cap) s H H2.objs.size fp) rfl rfl rfl hcalm i _ s3 _ H3 (fun _ _ => False) pin3 (fpY fr3 onlyD) st3 stop) (fun r s4 hr => ?_) fun _ _ z => z.elim
      obtain ⟨hr, I4⟩ := hr
      subst hr
      have d4 := (I4.pin _ (List.mem_append_right _ List.mem_cons_self)).1
      exact hRR _ _ H3 s4 _ acc its kk (Nat.le_refl _) hCle hDC (I4.pins_of fun p hp => by simp at hp) fD3 d4 r3 z3 qn
    · refine wpAny_mono (T.item (cxComp X sc (x :: y2 :: cap) s H H2.objs.size fp) rfl rfl rfl hcalm i _ s3 _ H3 (fun _ _ => False) pin3 (fpY fr3 onlyD) st3 gon) (fun r s4 hr => ?_) fun _ _ z => z.elim
      obtain ⟨u, hr, h4⟩ := hr
      subst hr
      dsimp only
      refine wpAny_mono h4 (fun _ s5 h5 => ?_) fun _ _ z => z.elim
      obtain ⟨xv, H5, I5, r5, y5, st5, fr5⟩ := h5
      have I5' := I5.pinned (fpY fr5 onlyD) (T.obj _ _ st5)
      refine wpAny_mono (hgt s H H2.objs.size fp _ s5 _ H5 _ _ _ I5' r5 (step xv H5 y5)) (fun _ s6 q6 => ?_) fun _ _ z => z.elim
      obtain ⟨σ6, H6, I6', ⟨va, vb, e6⟩, q6⟩ := q6
      subst e6
      refine wpAny_mono (hc s H H2.objs.size fp _ s6 _ H6 _ I6' q6) (fun b s7 q7 => ?_) fun _ _ z => z.elim
      obtain ⟨H7, I7, q7⟩ := q7
      have weak : ∀ {pl : List (Addr × Obj)} {HH : Hp} {ss : Shared}, Inv (cxComp X sc (x :: y2 :: cap) s H H2.objs.size fp) pl (va :: vb :: capt σ js) HH ss → Inv (cxComp X sc (x :: y2 :: cap) s H H2.objs.size fp) pl (none :: none :: capt σ js) HH ss := fun J => J.weak rfl fun k v e => by
        cases k with
        | zero => exact absurd (Option.some.inj e) (by simp)
        | succ k =>
          cases k with
          | zero => exact absurd (Option.some.inj e) (by simp)
          | succ k => simpa using e
      have back : ∀ {HH : Hp} {ss : Shared}, Inv (cxComp X sc (x :: y2 :: cap) s H H2.objs.size fp) ([(s.heap.objs.size, { cls := .type "list", data := .seq its.toArray kk })] ++ pinsAt fp s5.heap) (va :: vb :: capt σ js) HH ss →
          tn (i + 1) ss.heap ∧ (∀ b ∈ fp, HH b = none) ∧ HH s.heap.objs.size = none ∧ ss.heap.get? s.heap.objs.size = some { cls := .type "list", data := .seq its.toArray kk } := fun {HH ss} K => by
        refine ⟨T.keep _ _ _ st5 fun b hb o e => (K.pin (b, o) (List.mem_append_right _ (List.mem_append_right _ (mem_pinsAt hb e)))).1, fun b hb => ?_, ?_, ?_⟩
        · obtain ⟨o, e, d⟩ := T.obj _ _ st5 b hb
          exact (K.pin (b, o) (List.mem_append_right _ (List.mem_append_right _ (mem_pinsAt hb e)))).2.1
        · exact (K.pin _ (List.mem_append_right _ (List.mem_append_left _ List.mem_cons_self))).2.1
        · exact (K.pin _ (List.mem_append_right _ (List.mem_append_left _ List.mem_cons_self))).1
      cases b with
      | false =>
        rw [if_neg Bool.false_ne_true] at q7 ⊢
        obtain ⟨m', hm, w7⟩ := q7
        obtain ⟨b1, b2, b3, b4⟩ := back I7
        exact ⟨m', hm, i + 1, H7, acc, its, kk, (weak I7).pins_of fun p hp => by simp at hp, b1, b2, b3, b4, r3, z3, w7⟩
      | true =>
        rw [if_pos rfl] at q7 ⊢
        refine wpAny_mono (he s H H2.objs.size fp _ s7 _ H7 _ I7 q7) (fun u8 s8 q8 => ?_) fun _ _ z => z.elim
        obtain ⟨v8, H8, I8, r8, m', hm, w8⟩ := q8
        obtain ⟨b1, b2, b3, b4⟩ := back I8
        have hl3 := r3.length
        refine call_meets F.slot_list_append ⟨_, b4, rfl⟩ F.entry_list_append (F.args_list_append_2 _ _) (PySem.list_append s.heap.objs.size its.toArray kk u8 (by rw [List.size_toArray]; omega)) ⟨b4, ?_⟩
        have q := PySem.IsL.update b4 (·.push u8)
        obtain ⟨n', q'⟩ : ∃ n', (s8.heap.update s.heap.objs.size (Obj.mapSeq (·.push u8))).get? s.heap.objs.size = some { cls := .type "list", data := .seq (its ++ [u8]).toArray n' } := by
          rw [show (its ++ [u8]).toArray = its.toArray.push u8 by simp]
          exact ⟨_, q⟩
        refine ⟨m', hm, i + 1, H8, acc ++ [v8], its ++ [u8], _, ?_, T.keep _ _ _ b1 fun b hb o e => (Heap.get?_update_other s8.heap _ (Ne.symm (nD b hb))).trans e, b2, b3, q', r3.append (.cons r8 .nil), by rw [List.length_append, List.length_singleton]; omega, w8⟩
        exact Inv.turned (X := cxComp X sc (x :: y2 :: cap) s H H2.objs.size fp) (it := s.heap.objs.size) ((weak I8).pins_of (pins' := []) fun p hp => by simp at hp) (fun b o hb e => (Heap.get?_update_other s8.heap _ (Ne.symm hb)).trans e) b3 hDC (.inr (Nat.le_refl _)) ncl (fun p hp => absurd (show p ∈ ([] : List (Addr × Obj)) from hp) (by simp))
  exact codeAny_compStart_list (loop _ rfl) (T.self _ 0 _ _ _ (T.keep _ _ _ st fun b _ o e => old b o e) (loop _ rfl))

/-- [elt for x in iter if ..] -/
theorem pe_comp2 {wi : TI} (hcalm : X.calm = true) (S : CompScope2 X sc x y2 cap js) (hgt : ∀ s H C fp, PG (cxComp X sc (x :: y2 :: cap) s H C fp) tg g2) (hi : PI X tg iter wi) (hc : ∀ s H C fp, PIf (cxComp X sc (x :: y2 :: cap) s H C fp) ifs tc) (he : ∀ s H C fp, PE (cxComp X sc (x :: y2 :: cap) s H C fp) elt te)
    (hs : ∀ x, foldedSetIterable iter X.env x = pure x := by intro _; rfl) : PE X (.ListComp elt [⟨tg, iter, ifs, 0⟩] sc pos) (tComp2 wi g2 tc te js) := by
  intro pins s σ H Q I h
  rw [eval_ListComp]
  refine wpAny_comprehension_free (use := none) rfl hs (closure_eq (S.cells I)) S.kind S.names (thn (hi pins s σ H _ I h) fun v s1 h1 => thn h1 fun itv s2 h2 => ?_)
  obtain ⟨it, fp, tn, J, H2, e, I2, T, st2, f2, go⟩ := h2
  subst e
  refine comp_block2 S hgt hcalm hc he I2 T st2 f2 go fun D C HB sB σB acc its n hD hC hDC IB hHD hd rv hz q => ?_
  obtain ⟨m, hn, _⟩ := IB.loc
  exact ⟨m, hn, fun h' sb => ⟨.ref D, upd HB D (.lst acc), comp_end (sc := sc) (x := x) (cap := y2 :: cap) I2 f2 IB hC hD hDC hHD hd rv hz fun b o hb e => sb.extBut b o hb e, rfl, q D hHD⟩⟩

end
end L2

end
section
set_option Elab.async false
set_option linter.all false
set_option maxRecDepth 100000
set_option maxHeartbeats 4000000
namespace L2
open PySem PySem.Spec PyProof.Rows
theorem tComp2_def (wi : TI) (g2 : TG) (tc : TT) (te : TE) (js : List Nat) (σ : St) (H : Hp) (Q : VK) : tComp2 wi g2 tc te js σ H Q = wi σ H fun J H1 => CompGo2 J g2 tc te js σ H1 Q := rfl
theorem iEnum_def (K : PySem.W.Frag) (ta tk : TA) (σ : St) (H : Hp) (R : It → Hp → Prop) : iEnum K ta tk σ H R = ta σ H fun vs H1 => tk σ H1 fun ws H2 => ∃ a xs, vs = [.ref a] ∧ ws = [.int 1] ∧ SqL K H2 a xs ∧ R (Ite K a) H2 := rfl
section
variable {J : It} {K : PySem.W.Frag} {a : Addr} {xs : List V} {g2 : TG} {tc : TT} {te : TE} {js : List Nat} {σ : St} {H1 : Hp} {Q : VK}
theorem compgo2_gen (n : Nat) (hn : n ≤ sizeLine) (Pv : Nat → List V → Hp → Prop) (h0 : Pv 0 [] H1) (hlen : ∀ i acc H, Pv i acc H → acc.length ≤ i)
    (hgo : ∀ i acc H, i < n → Pv i acc H → J.go i H) (hstop : ∀ acc H, Pv n acc H → J.stop n H)
    (hs : ∀ i acc H x H', i < n → Pv i acc H → J.yld i H x H' → g2 x (none :: none :: capt σ js) H' fun σ2 H4 => (∃ a b, σ2 = a :: b :: capt σ js) ∧ tc σ2 H4 fun b H2 => if b = true then te σ2 H2 fun v H3 => Nx n Pv i (acc ++ [v]) H3 else Nx n Pv i acc H2)
    (hd : ∀ acc H, Pv n acc H → ∀ p, H p = none → Q (.ref p) (upd H p (.lst acc))) : CompGo2 J g2 tc te js σ H1 Q := by
  refine ⟨fun i m acc H => m = n - i ∧ i ≤ n ∧ Pv i acc H, ⟨n, by simp, Nat.zero_le _, h0⟩, ?_⟩
  rintro i m acc H ⟨rfl, hi, p⟩
  by_cases hlt : i < n
  · exact .inr ⟨hgo i acc H hlt p, by have := hlen i acc H p; omega, fun x H' y => hs i acc H x H' hlt p y⟩
  · have e : i = n := by omega
    subst e
    exact .inl ⟨hstop acc H p, hd acc H p⟩
theorem compgo2_list (hn : xs.length ≤ sizeLine) (sp : Nat → List V → Hp → Prop) (h0 : sp 0 [] H1) (hlen : ∀ i acc H, sp i acc H → acc.length ≤ i) (hl : ∀ i acc H, sp i acc H → SqL K H a xs)
    (hs : ∀ (Nt : List V → Hp → Prop) i acc H x, (∀ acc H, sp (i + 1) acc H → Nt acc H) → xs[i]? = some x → i < xs.length → sp i acc H → g2 x (none :: none :: capt σ js) H fun σ2 H4 => (∃ a b, σ2 = a :: b :: capt σ js) ∧ tc σ2 H4 fun b H2 => if b = true then te σ2 H2 fun v H3 => Nt (acc ++ [v]) H3 else Nt acc H2)
    (hd : ∀ acc H, sp xs.length acc H → ∀ p, H p = none → Q (.ref p) (upd H p (.lst acc))) : CompGo2 (Itl K a) g2 tc te js σ H1 Q := by
  refine compgo2_gen xs.length hn sp h0 hlen (fun i acc H hi p => ⟨xs, xs[i], hl i acc H p, by simp [hi]⟩) (fun acc H p => ⟨xs, hl _ acc H p, Nat.le_refl _⟩) (fun i acc H x H' hi p y => ?_) hd
  obtain ⟨e, y⟩ := y
  subst e
  exact hs (Nx xs.length sp i) i acc H' x (fun _ _ h => nx hi h) (y xs (hl i acc H' p)) hi p
theorem compgo2_enum (hn : xs.length ≤ sizeLine) (sp : Nat → List V → Hp → Prop) (h0 : sp 0 [] H1) (hlen : ∀ i acc H, sp i acc H → acc.length ≤ i) (hl : ∀ i acc H, sp i acc H → SqL K H a xs)
    (hs : ∀ (Nt : List V → Hp → Prop) i acc H x T, (∀ acc H, sp (i + 1) acc H → Nt acc H) → xs[i]? = some x → i < xs.length → sp i acc H → H T = none → g2 (.ref T) (none :: none :: capt σ js) (upd H T (.tup [.int ((i : Int) + 1), x])) fun σ2 H4 => (∃ a b, σ2 = a :: b :: capt σ js) ∧ tc σ2 H4 fun b H2 => if b = true then te σ2 H2 fun v H3 => Nt (acc ++ [v]) H3 else Nt acc H2)
    (hd : ∀ acc H, sp xs.length acc H → ∀ p, H p = none → Q (.ref p) (upd H p (.lst acc))) : CompGo2 (Ite K a) g2 tc te js σ H1 Q := by
  refine compgo2_gen xs.length hn sp h0 hlen (fun i acc H hi p => ⟨xs, xs[i], hl i acc H p, by simp [hi]⟩) (fun acc H p => ⟨xs, hl _ acc H p, Nat.le_refl _⟩) (fun i acc H x H' hi p y => ?_) hd
  obtain ⟨T, v, rfl, hT, rfl, y⟩ := y
  exact hs (Nx xs.length sp i) i acc H v T (fun _ _ h => nx hi h) (y xs (hl i acc H p)) hi p hT
end
section
variable {X : Cx} {k : Nat} {C : Addr} {m : Str} {ps : List Str} {sp : Sp} {o e : Expr} {es : List Expr} {ta : TE} {t : TA} {apos pos : Pos} {E : XK}
/-- a method that may raise, within one that may: the error passes on -/
theorem pe_mthx {pl : Sem Bool} (hx : Passes (CX1 X.prog X.w) X E) (G : MHas X.prog X.w X.K X.mg X.base (CX1 X.prog X.w) k C m ps sp) (c : Cls X.K C) (hr : Room k X.A) (he : PE X o ta) (ha : PA X (e :: es) t)
    (hst : starEach (e :: es) X.env = (false, eval e X.env) :: starEach es X.env := by rfl) (hpl : (backTo pos (starEach es X.env)).any (·.1) = false := by rfl)
    (ht : eval (.Call (.Attribute o m apos) (e :: es) [] pos) X.env = (do
      let ov ← eval o X.env
      standAt apos.atName
      let (f, first) ← holding [ov] (getMethod ov m pl)
      callWith pos f first (backTo pos (starEach (e :: es) X.env)) (backToKw pos (keywordEach [] X.env))) := by rfl) :
    PE X (.Call (.Attribute o m apos) (e :: es) [] pos) (tMeth C m sp [] E ta t) := by
  obtain ⟨f, fd, F, hm, hb⟩ := G
  exact pe_meth he c hm F hr hb .nil hx ha hst hpl ht
end
theorem pg_pair_k {X : Cx} {K : PySem.W.Frag} {pos : Pos} {es : List Expr} {k : Nat} {t : TGs} (hc : X.calm = true) (h : PGs X es t) (hn : (assignEach es X.env).length = 2 := by rfl) (hst : (assignEach es X.env).findIdx? (·.1) = none := by rfl) (hK : X.K = K := by rfl) : PG X (.Tuple es k pos) (gTup K 2 t) := hK ▸ pg_tup hc h hn hst
theorem pe_new1 {X : Cx} {k : Nat} {C : Addr} {x : Str} {ps : List Str} {sp : Sp} {p pos : Pos} {e : Expr} {es : List Expr} {t : TA} (G : KHas X.prog X.w X.K X.mg X.base k C ps sp) (hr : Room (k + 1) X.A) (hg : Gl X x) (hm : X.mg x = some (.ref C)) (ha : PA X (e :: es) t) (hdb : (x == ("__debug__" : Str)) = false := by decide)
    (he : starEach (e :: es) X.env = (false, eval e X.env) :: starEach es X.env := by rfl) (hpl : (backTo pos (starEach es X.env)).any (·.1) = false := by rfl) : PE X (.Call (.Name x p) (e :: es) [] pos) (tMake C sp [] E0 t) := by
  obtain ⟨f, fd, F, M, hb⟩ := G
  exact pe_make M F hr hg hm hb .nil pass0 ha hdb he hpl
section
variable {X : Cx}
def tIfX (tc : TT) (tx : TEX) (u : TSX) : TSX := fun D Ex σ H => tc σ H fun b H1 => if b = true then tx σ H1 D.rt Ex else u D Ex σ H1
end
end L2

end
section
set_option Elab.async false
set_option linter.all false
set_option maxRecDepth 100000
set_option maxHeartbeats 4000000
namespace L2
open PySem PySem.Spec PyProof.Rows
section
variable {X : Cx}
end
section
variable {X : Cx}
end
end L2

end
section
set_option Elab.async false
set_option linter.all false
set_option maxRecDepth 100000
set_option maxHeartbeats 4000000
namespace L2
open PySem PySem.Spec PyProof.Rows
section
variable {X : Cx}
end
end L2

end
section
set_option Elab.async false
set_option linter.all false
set_option maxRecDepth 100000
set_option maxHeartbeats 4000000
namespace L2
open PySem PySem.Spec PyProof.Rows
section
variable {X : Cx}
end
end L2

end
section
set_option Elab.async false
set_option linter.all false
set_option maxRecDepth 100000
set_option maxHeartbeats 4000000
namespace PySem
open PyProof.Rows (StrsAre)
theorem put_led (t : SetTable) (j : Nat) : (t.put j).1.led = t.led ∧ (t.put j).1.plain = t.plain := by
  unfold SetTable.put; exact ⟨rfl, rfl⟩
theorem layNew_led (t : SetTable) (es : Array (Int × Value)) (h : Int) (x : Value) :
    (layNew t es h x).2.1.led = t.led ∧ (t.plain = false → (layNew t es h x).2.1.plain = false) := by
  unfold layNew
  split
  · dsimp only
    unfold SetTable.orStandIn
    split
    · exact ⟨(put_led t _).1, fun p => (put_led t _).2.trans p⟩
    · exact ⟨rfl, fun _ => rfl⟩
  · exact ⟨rfl, fun _ => rfl⟩
theorem laid_led {mask finger moves : Nat} {led plain : Bool} {hs : Array Int} {r : SetTable × Array Nat}
    (e : SetTable.laid mask finger moves led plain hs = some r) : r.1.led = led ∧ r.1.plain = plain := by
  unfold SetTable.laid at e
  simp only [Option.bind_eq_bind, Option.bind_eq_some_iff, Option.some.injEq, Option.pure_def] at e
  obtain ⟨o, _, rfl⟩ := e
  exact ⟨rfl, rfl⟩
theorem relayAll_led (t : SetTable) (es : Array (Int × Value)) (n : Nat) :
    (relayAll t es n).2.1.led = t.led ∧ (t.plain = false → (relayAll t es n).2.1.plain = false) := by
  unfold relayAll
  split
  · rename_i e
    dsimp only
    split
    · unfold SetTable.relaid at e
      have := laid_led e
      exact ⟨this.1, fun p => this.2.trans p⟩
    · exact ⟨rfl, fun _ => rfl⟩
  · exact ⟨rfl, fun _ => rfl⟩
/-- one text more among those that were met, each of them once -/
def metStep (D : List Str) (v : Str) : List Str := if v ∈ D then D else D ++ [v]
def metAll (ss : List Str) : List Str := ss.foldl metStep []

theorem metStep_mem (D : List Str) (v k : Str) : k ∈ metStep D v ↔ k ∈ D ∨ k = v := by
  unfold metStep; split
  · rename_i h
    exact ⟨.inl, fun o => o.elim id fun e => e ▸ h⟩
  · simp
theorem metStep_nodup {D : List Str} (h : D.Nodup) (v : Str) : (metStep D v).Nodup := by
  unfold metStep; split
  · exact h
  · rename_i hv
    refine List.nodup_append.mpr ⟨h, by simp, ?_⟩
    intro a ha b hb e
    simp at hb; subst hb; subst e; exact hv ha
theorem metFold_mem : ∀ (ss D : List Str) (k : Str), k ∈ ss.foldl metStep D ↔ k ∈ D ∨ k ∈ ss
  | [], D, k => by simp
  | v :: ss, D, k => by
    rw [List.foldl_cons, metFold_mem ss, metStep_mem]; simp [or_assoc]
theorem metFold_nodup : ∀ (ss D : List Str), D.Nodup → (ss.foldl metStep D).Nodup
  | [], D, h => h
  | v :: ss, D, h => metFold_nodup ss _ (metStep_nodup h v)
theorem metStep_length (D : List Str) (v : Str) : (metStep D v).length = if decide (v ∈ D) = true then D.length else D.length + 1 := by
  unfold metStep; by_cases h : v ∈ D <;> simp [h]
theorem metFold_le : ∀ (ss D : List Str), (ss.foldl metStep D).length ≤ D.length + ss.length
  | [], D => by simp
  | v :: ss, D => by
    have := metFold_le ss (metStep D v)
    have h2 := metStep_length D v
    rw [List.foldl_cons, List.length_cons]
    split at h2 <;> omega
theorem metAll_le (ss : List Str) : (metAll ss).length ≤ ss.length := by have := metFold_le ss []; simpa [metAll] using this
theorem metAll_take (ss : List Str) (i : Nat) (h : i < ss.length) : metAll (ss.take (i + 1)) = metStep (metAll (ss.take i)) ss[i] := by
  unfold metAll; rw [List.take_succ_eq_append_getElem h, List.foldl_append]; rfl


/-- a set of texts: D are they, each once; led and marked as the walk over it wants it -/
def TextSet (prog : Program) (w : World) (h : Heap) (a : Addr) (D : List Str) (led : Bool) : Prop :=
  ∃ o es ep t, h.get? a = some o ∧ o.ExactSet ∧ o.data = .set es ep t ∧ ElemsOf (strKind prog w) es.toList ∧
    (∀ k, decide (k ∈ D) = true ↔ ∃ e ∈ es.toList, (strKind prog w).is k e.2 = true) ∧
    es.size < scanBound ∧ t.fits es.size = true ∧ es.size = D.length ∧ t.led = led ∧ (es.size ≠ 0 → t.plain = false)

section
variable {prog : Program} {w : World} {A : Around} {E : Value → Shared → Prop} {s : Shared}

theorem TextSet.keep {h h' : Heap} {a : Addr} {D : List Str} {led : Bool} (T : TextSet prog w h a D led)
    (e : ∀ o, h.get? a = some o → h'.get? a = some o) : TextSet prog w h' a D led := by
  obtain ⟨o, es, ep, t, ho, more⟩ := T
  exact ⟨o, es, ep, t, e o ho, more⟩

theorem textSet_tail {g : Bool → Sem Unit} (hg : ∀ (b : Bool) (s₁ : Shared) (Q' : Unit → Shared → Prop), Q' () s₁ → wpAny (model prog w) A (g b) Q' E s₁)
    {a : Addr} {o : Obj} {es : Array (Int × Value)} {ep : Nat} {t : SetTable} (ho : s.heap.get? a = some o) (hx : o.ExactSet)
    (hd : o.data = .set es ep t) {e1 : Array (Int × Value)} {t1 : SetTable} {D : List Str}
    (he : ElemsOf (strKind prog w) e1.toList) (hm : ∀ k, decide (k ∈ D) = true ↔ ∃ e ∈ e1.toList, (strKind prog w).is k e.2 = true)
    (hb : e1.size < scanBound) (hf : t1.fits e1.size = true) (hn : e1.size = D.length) (hp : t1.plain = false)
    {was : Bool} {R : Option Bool → Shared → Prop}
    (h : ∀ h', Heap.SameBut a s.heap h' → TextSet prog w h' a D t1.led → R (some true) { s with heap := h' }) :
    wpAny (model prog w) A (do
      storeSet a e1 t1
      if (!was && t1.tooFull) = true then do
        g (relayAll t1 e1 (SetTable.grown e1.size)).2.2
        storeSet a (relayAll t1 e1 (SetTable.grown e1.size)).1 (relayAll t1 e1 (SetTable.grown e1.size)).2.1
        pure (some true)
      else pure (some true)) R E s := by
  refine wpAny_bind (wpAny_storeSet_of ho hd ?_ (fits_of_scanBound hb))
  obtain ⟨g1, _⟩ := SetOf_store (knd := strKind prog w) ho hx hd he hm hb hf
  have b1 := Heap.SameBut.update s.heap a (Obj.putSet e1 t1)
  split
  · have pr := relayAll_perm t1 e1 (SetTable.grown e1.size)
    have fr := relayAll_fits t1 e1 (SetTable.grown e1.size)
    have lr := relayAll_led t1 e1 (SetTable.grown e1.size)
    generalize relayAll t1 e1 (SetTable.grown e1.size) = L at pr fr lr ⊢
    obtain ⟨e2, t2, gave⟩ := L
    dsimp only at pr fr lr ⊢
    have sz : e2.size = e1.size := by rw [← Array.length_toList, pr.length_eq, Array.length_toList]
    have hm2 : ∀ k, decide (k ∈ D) = true ↔ ∃ e ∈ e2.toList, (strKind prog w).is k e.2 = true := fun k =>
      (hm k).trans ⟨fun ⟨e, q, z⟩ => ⟨e, pr.mem_iff.mpr q, z⟩, fun ⟨e, q, z⟩ => ⟨e, pr.mem_iff.mp q, z⟩⟩
    refine wpAny_bind (hg _ _ _ ?_)
    refine wpAny_bind (wpAny_storeSet_of g1 rfl ?_ (fits_of_scanBound (by rw [sz]; exact hb)))
    obtain ⟨g2, _⟩ := SetOf_store (knd := strKind prog w) g1 hx rfl (he.perm pr) hm2 (by rw [sz]; exact hb) fr
    refine wpAny_pure (h _ (b1.trans (Heap.SameBut.update _ a _)) ⟨_, e2, _, t2, g2, hx, rfl, he.perm pr, hm2, by rw [sz]; exact hb, fr, sz.trans hn, lr.1, fun _ => lr.2 hp⟩)
  · exact wpAny_pure (h _ b1 ⟨_, e1, _, t1, g1, hx, rfl, he, hm, hb, hf, hn, rfl, fun _ => hp⟩)

theorem textSet_add {a : Addr} {D : List Str} {led : Bool} {x : Str} {tk : Tok} {Q : Bool → Shared → Prop} (T : TextSet prog w s.heap a D led)
    (room : D.length + 1 < scanBound)
    (h : ∀ h' b, Heap.SameBut a s.heap h' → TextSet prog w h' a (metStep D x) led → Q b { s with heap := h' }) :
    wpAny (model prog w) A (setAddHashed a (.str x tk) ((strKind prog w).hash x)) Q E s := by
  have is := strKind_is prog w x tk
  obtain ⟨o, es, ep, t, ho, hx, hd, he, hm, hb, hf, hn, hl, hp⟩ := T
  unfold setAddHashed setAddHashedIn
  refine wpAny_holding (wpAny_bind (wpAny_setState_of ho hd hf ?_))
  dsimp only
  rw [byScan_of rfl hb he]
  simp only [↓reduceIte]
  unfold setAddByScan
  refine wpAny_bind ?_
  refine wpAny_bind (wpAny_rule ?_)
  refine wpAny_bind (wpAny_setScan_of is ho hd hf he ?_)
  cases hr : List.findIdx? (fun e => (strKind prog w).is x e.2) es.toList with
  | some j =>
    dsimp only
    obtain ⟨hj, pj, _⟩ := List.findIdx?_eq_some_iff_getElem.mp hr
    have xin : x ∈ D := of_decide_eq_true ((hm x).mpr ⟨es.toList[j], List.getElem_mem hj, pj⟩)
    have same : metStep D x = D := if_pos xin
    refine wpAny_pure (wpAny_pure ?_)
    have := h s.heap false (Heap.SameBut.refl a s.heap) (by rw [same]; exact ⟨o, es, ep, t, ho, hx, hd, he, hm, hb, hf, hn, hl, hp⟩)
    cases s; exact this
  | none =>
    dsimp only
    have xout : x ∉ D := fun q => by
      obtain ⟨e, qe, z⟩ := (hm x).mp (decide_eq_true q)
      have := List.findIdx?_eq_none_iff.mp hr e qe
      rw [z] at this; cases this
    have grow : metStep D x = D ++ [x] := if_neg xout
    have pr := layNew_perm t es ((strKind prog w).hash x) (.str x tk)
    have fr := layNew_fits t es ((strKind prog w).hash x) (.str x tk)
    have lr := layNew_led t es ((strKind prog w).hash x) (.str x tk)
    generalize layNew t es ((strKind prog w).hash x) (.str x tk) = L at pr fr lr ⊢
    obtain ⟨e1, t1, was, gave⟩ := L
    dsimp only at pr fr lr ⊢
    rw [Array.toList_push] at pr
    have he1 : ElemsOf (strKind prog w) e1.toList := (he.push is rfl).perm pr
    have hm1 : ∀ k, decide (k ∈ metStep D x) = true ↔ ∃ e ∈ e1.toList, (strKind prog w).is k e.2 = true := fun k => by
      rw [← mem_push_iff is hm pr k, ← Bool.decide_or, decide_eq_true_eq, decide_eq_true_eq]
      exact metStep_mem D x k
    have sz : e1.size = es.size + 1 := by rw [← Array.length_toList, pr.length_eq, List.length_append, Array.length_toList]; rfl
    have hn1 : e1.size = (metStep D x).length := by rw [sz, grow, List.length_append, hn]; rfl
    have hb1 : e1.size < scanBound := by rw [sz, hn]; exact room
    have gw : ∀ (b : Bool) (s₁ : Shared) (Q' : Unit → Shared → Prop), Q' () s₁ →
        wpAny (model prog w) A (match b with | true => rule "set.scan.the-table-gave-way" | false => pure ()) Q' E s₁ := fun b s₁ Q' q => by
      cases b
      · exact wpAny_pure q
      · exact wpAny_rule q
    refine wpAny_bind (gw _ _ _ ?_)
    split
    · refine wpAny_bind ?_
      rw [hashByValue_scannable 8 rfl]
      refine wpAny_pure ?_
      refine textSet_tail (t1 := { t1 with plain := false }) gw ho hx hd he1 hm1 hb1 (SetTable.fits_plain_off fr) hn1 rfl fun h' sb T' => ?_
      dsimp only
      refine wpAny_pure (h h' true sb ?_)
      rw [← hl, ← lr.1]; exact T'
    · rename_i np
      refine wpAny_bind (wpAny_pure ?_)
      simp only [↓reduceIte]
      refine textSet_tail (t1 := t1) gw ho hx hd he1 hm1 hb1 fr hn1 (by simpa using np) fun h' sb T' => ?_
      dsimp only
      refine wpAny_pure (h h' true sb ?_)
      rw [← hl, ← lr.1]; exact T'
end

section
variable {prog : Program} {w : World} {A : Around} {R : Result → Shared → Prop} {I : Addr}
variable {fp wr : List Addr} {G : Array GenState → Array GenState → Prop} {P : Nat → Value → Prop} {St : Nat → Shared → Prop}
theorem set_texts_loop {ss : List Str} (W : WalksS prog w A.in1 I fp wr G ss.length P St) (a : Addr) (ha : a ∉ fp)
    {led : Bool} (hv : ∀ i v (h : i < ss.length), P i v → ∃ t, v = .str ss[i] t) (hb : ss.length + 1 < scanBound) :
    ∀ (k i : Nat) (s : Shared), ss.length - i = k → i ≤ ss.length → St i s → TextSet prog w s.heap a (metAll (ss.take i)) led →
      (∀ s', Moved (a :: wr) G s s' → TextSet prog w s'.heap a (metAll ss) led → R (.ok (.ret .none)) s') →
      codeAny (model prog w) A (.builtin "set.update.loop" ⟨[.ref a, .ref I], []⟩) R s := by
  have haw : a ∉ wr := fun h => ha (W.sub _ h)
  intro k
  induction k with
  | zero =>
    intro i s hk hi st T hR
    have ei : i = ss.length := by omega
    subst ei
    rw [List.take_length] at T
    refine codeAny_builtin PyProof.Rows.F.entry_set_update_loop ?_
    rw [Around.under_plainId PyProof.Rows.F.plain_set_update_loop _]
    refine wpAny_bind (m := pyNext (.ref I)) (W.done s _ _ st fun s' mv => ?_)
    refine wpAny_pure (hR s' (mv.mono fun b h => .tail _ h) (T.keep fun o e => mv.heap a o haw e))
  | succ k ih =>
    intro i s hk hi st T hR
    have lt : i < ss.length := by omega
    refine codeAny_builtin PyProof.Rows.F.entry_set_update_loop ?_
    rw [Around.under_plainId PyProof.Rows.F.plain_set_update_loop _]
    refine wpAny_bind (m := pyNext (.ref I)) (W.item i s _ _ lt st fun v s' hP st' mv => ?_)
    obtain ⟨t, rfl⟩ := hv i v lt hP
    have T' := T.keep (h' := s'.heap) fun o e => mv.heap a o haw e
    refine wpAny_bind (m := holding [Value.str ss[i] t] (setAdd a (.str ss[i] t))) (wpAny_holding ?_)
    unfold setAdd
    refine wpAny_holding ?_
    refine wpAny_bind ((strKind prog w).pyHash (k := ss[i]) (strKind_is prog w _ t) ?_)
    have room : (metAll (ss.take i)).length + 1 < scanBound := by
      have := metAll_le (ss.take i)
      rw [List.length_take] at this
      omega
    refine textSet_add (s := { s' with toks := s'.toks + 1 }) T' room fun h2 _ sb T2 => ?_
    have T3 : TextSet prog w h2 a (metAll (ss.take (i + 1))) led := by
      rw [metAll_take ss i lt]; exact T2
    refine wpAny_pure ⟨plainId_quiet PyProof.Rows.F.plain_set_update_loop _, ih (i + 1) _ (by omega) lt ?_ T3 fun s3 mv3 T4 => ?_⟩
    · refine W.frame _ s' _ _ st' (Nat.le_succ _) fun b hbf o e => ?_
      rw [sb.2 b fun e' : b = a => ha (e' ▸ hbf)]
      exact e
    · refine hR s3 (Moved.trans W.gtrans ((mv.mono fun b h => .tail _ h).then_heap (Nat.le_succ _) fun b o hbw e => ?_) mv3) T4
      rw [sb.2 b fun e' : b = a => hbw (e' ▸ .head _)]
      exact e
end

/-- whether a set that is made here is led -/
abbrev ledHere (w : World) : Bool := !(w.params.followText "set-order")

section
variable {prog : Program} {w : World} {A : Around} {E : Value → Shared → Prop} {s : Shared}
/-- a set with nothing in it -/
abbrev emptySet (led : Bool) : Obj := { cls := .type "set", dict := none, data := .set #[] 0 (.fresh 0 0 led) }

theorem new_set_led (a : Value) {Q₁ : Value → Shared → Prop}
    (h : Q₁ (.ref s.heap.objs.size) { s with heap := s.heap.push (emptySet (ledHere w)) }) :
    codeAny (model prog w) A (.call (.builtin "set.__new__") ⟨[.type "set", a], []⟩) (wants Q₁ E) s := by
  refine codeAny_of_tree ?_
  have c := F.newCall_set_1 a
  show wpAny _ A.in1 (checkBuiltinCall "set.__new__" ⟨[.type "set", a], []⟩ >>= fun _ => again (.builtin "set.__new__" ⟨[.type "set", a], []⟩)) _ _ s
  refine wpAny_bind (wpAny_of_eq c (wpAny_pure ⟨plainId_quiet F.plain_set_new _, ?_⟩))
  refine codeAny_builtin F.entry_set_new ?_
  rw [Around.under_plainId F.plain_set_new _]
  unfold Builtin.«set.__new__» Builtin.Frozenset.newClass
  have sub := sub_set_self
  obtain ⟨hp, g, d, tk, os⟩ := s
  dsimp only
  wp_walk
  refine wpAny_askSetting (wpAny_pure ?_)
  dsimp only
  simp only [newObj]
  refine wpAny_bind (wpAny_alloc (wpAny_pure ?_))
  exact wpAny_pure h

theorem textSet_empty {h : Heap} {a : Addr} {led : Bool} (g : h.get? a = some (emptySet led)) : TextSet prog w h a [] led :=
  ⟨_, #[], 0, .fresh 0 0 led, g, ⟨rfl, rfl, rfl⟩, rfl, fun e q => by simp at q, fun k => by simp, by decide, by cases led <;> decide, rfl, rfl, fun z => absurd rfl z⟩
end
end PySem

end
section
set_option Elab.async false
set_option linter.all false
set_option maxRecDepth 100000
set_option maxHeartbeats 4000000
namespace PySem
open PyProof.Rows (StrsAre)
section
variable {prog : Program} {w : World} {A : Around} {E : Value → Shared → Prop} {s : Shared}

theorem strsAre_get : ∀ {vs : List Value} {ss : List Str}, StrsAre vs ss → ∀ (i : Nat) (v : Value) (h : i < ss.length), vs[i]? = some v → ∃ t, v = .str ss[i] t
  | _, _, .nil, i, v, h, e => by simp at e
  | _, _, .cons y t r, 0, v, h, e => by simp at e; exact ⟨t, e.symm⟩
  | _, _, .cons y t r, i + 1, v, h, e => by
    simp only [List.getElem?_cons_succ] at e
    simpa using strsAre_get r i v (by simpa using h) e

theorem call_set_texts {l : Addr} {items : Array Value} {ss : List Str} {Q : Value → Shared → Prop} (hh : A.handled = none)
    (hl : s.heap.IsList l items) (hi : StrsAre items.toList ss) (hb : ss.length + 1 < scanBound)
    (h : ∀ (h' : Heap) (tk : Nat), TextSet prog w h' s.heap.objs.size (metAll ss) (ledHere w) → s.toks ≤ tk →
      (∀ b o, s.heap.get? b = some o → h'.get? b = some o) → Q (.ref s.heap.objs.size) { s with heap := h', toks := tk }) :
    wpAny (model prog w) A (call (.type "set") [.ref l]) Q E s := by
  obtain ⟨_, _, mro⟩ := F.called_set.mro
  have made := F.called_set.made
  have self := F.called_set.sub
  refine wpAny_call (codeAny_of_tree ?_)
  show wpAny _ _ (callAny (.type "set") _) _ _ _
  refine wpAny_pure ⟨Code.quiet_builtin _ (by decide +kernel), ?_⟩
  refine codeAny_builtin F.entry_type_call ?_
  rw [Around.under_plain (weight_type_call_type "set" [.ref l] []) rfl]
  have n1 := F.called_set.notType
  have n2 := F.called_set.canCreate
  have n3 := F.typeCall_set_1 (.ref l)
  repeat (any_goals (first | assumption | wp_step))
  refine codeAny_mono (new_set_led (.ref l) (E := E)
    (Q₁ := fun x s₁ => ∃ led : Bool, led = ledHere w ∧ x = .ref s.heap.objs.size ∧ s₁ = { s with heap := s.heap.push (emptySet led) }) ⟨_, rfl, rfl, rfl⟩) fun r s₁ hr => ?_
  match r, hr with
  | .error e, hr => exact hr
  | .ok (.ret x), hr =>
    obtain ⟨led, hled, rfl, rfl⟩ := hr
    have gS : (s.heap.push (emptySet led)).get? s.heap.objs.size = some (emptySet led) := Heap.get?_push_size _ rfl
    have ty : Shared.TypeIs { s with heap := s.heap.push (emptySet led) } (.ref s.heap.objs.size) "set" := ⟨_, gS, rfl⟩
    have look := F.called_set.init.lookup
    have bound := F.called_set.init.bind (.ref s.heap.objs.size)
    repeat (any_goals (first | assumption | wp_step))
    refine codeAny_mono (codeAny_call_builtin (R := wants (fun r s₂ => r = .none ∧ ∃ h' tk, s₂ = { s with heap := h', toks := tk } ∧
      TextSet prog w h' s.heap.objs.size (metAll ss) (ledHere w) ∧ s.toks ≤ tk ∧ ∀ b o, s.heap.get? b = some o → h'.get? b = some o) E)
      F.called_set.init.plain F.entry_set_init (check_set_init_1 ty ?_)) fun r₂ s₂ hr₂ => ?_
    · obtain ⟨ol, gl, cl, nl, dl⟩ := hl
      obtain ⟨ocls, odict, odata, oslots⟩ := ol
      simp only at cl dl
      subst cl dl
      have gl' : (s.heap.push (emptySet led)).get? l = some { cls := .type "list", dict := odict, data := .seq items nl, slots := oslots } :=
        Heap.get?_push_of_some _ gl
      have m1 := F.sub_list_set
      have m2 := F.sub_list_frozenset
      have m3 : (Value.type "list" == Value.type "dict") = false := by decide
      have isl : (s.heap.push (emptySet led)).IsList l items := ⟨_, gl', rfl, nl, rfl⟩
      unfold Builtin.«set.__init__» noKeywords Builtin.Frozenset.updateFrom
      generalize hPI : pyIter = PI
      wp_walk
      subst hPI
      refine wpAny_pyIter_list isl ?_
      refine wpAny_bind (wpAny_runValue ?_)
      have lt : l < s.heap.objs.size := Heap.lt_size gl
      have h3 : A.in1.in1.in1.handled = none := by simp [hh]
      have lI : l ≠ (s.heap.push (emptySet led)).objs.size := by
        rw [Heap.size_push]; exact Nat.ne_of_lt (Nat.lt_succ_of_lt lt)
      have aI : s.heap.objs.size ∉ [(s.heap.push (emptySet led)).objs.size, l] := by
        rw [Heap.size_push]; intro m
        rcases List.mem_cons.mp m with e | m
        · exact Nat.ne_of_lt (Nat.lt_succ_self _) e
        · exact Nat.ne_of_gt lt (List.mem_singleton.mp m)
      have len : items.size = ss.length := by rw [← Array.length_toList]; exact hi.length
      have hv : ∀ (i : Nat) (v : Value) (h : i < ss.length), items[i]? = some v → ∃ t, v = .str ss[i] t :=
        fun i v h e => strsAre_get hi i v h (by rw [Array.getElem?_toList]; exact e)
      have WW := ((Walks.list (prog := prog) (w := w) h3 _ l lI items).toS)
      rw [len] at WW
      refine set_texts_loop (led := ledHere w) WW s.heap.objs.size aI hv hb (ss.length - 0) 0 _ (by omega) (Nat.zero_le _)
        ⟨⟨_, Heap.get?_push_size _ rfl, rfl, rfl⟩, (isl.push _)⟩ ?s0 ?sR
      case s0 =>
        have g2 : ((s.heap.push (emptySet led)).push { cls := .type "list_iterator", data := .fields #[.ref l, .int 0 0] }).get? s.heap.objs.size = some (emptySet led) :=
          Heap.get?_push_of_some _ gS
        rw [← hled]; exact textSet_empty g2
      case sR =>
        intro s' mv T
        obtain ⟨h', g', d', tk', os'⟩ := s'
        obtain rfl : g' = s.gens := mv.gens
        obtain rfl : d' = s.drawn := mv.drawn
        obtain rfl : os' = s.os := mv.os
        show wpAny _ _ _ _ _ _
        refine wpAny_pure ?_
        show wpAny _ _ (ret Value.none) _ _ _
        refine wpAny_pure ⟨rfl, h', tk', rfl, T, mv.toks, fun b o e => ?_⟩
        have bl := Heap.lt_size e
        refine mv.heap b o ?_ (Heap.get?_push_of_some _ (Heap.get?_push_of_some _ e))
        rw [Heap.size_push]; intro m
        rcases List.mem_cons.mp m with e | m
        · exact Nat.ne_of_lt bl e
        · exact Nat.ne_of_lt (Nat.lt_succ_of_lt bl) (List.mem_singleton.mp m)
    · match r₂, hr₂ with
      | .error e, hr₂ => exact hr₂
      | .ok (.ret r), hr₂ =>
        obtain ⟨rfl, h', tk, rfl, T, lt, old⟩ := hr₂
        repeat (any_goals (first | assumption | wp_step))
        exact h _ _ T lt old
end
end PySem

end
section
set_option Elab.async false
set_option linter.all false
set_option maxRecDepth 100000
set_option maxHeartbeats 4000000
namespace PySem
open PyProof.Rows (StrsAre)
section
variable {prog : Program} {w : World} {A : Around} {E : Value → Shared → Prop}

theorem wpAny_choose {src : Source} {n : Nat} {Q : Nat → Shared → Prop} {s : Shared} (hn : n ≠ 0)
    (h : ∀ i, i < n → Q i { s with drawn := s.drawn.bump src }) : wpAny (model prog w) A (choose src n) Q E s := by
  intro Γ p hA
  exact ⟨hn, h _ (Nat.mod_lt _ (Nat.pos_of_ne_zero hn))⟩

theorem eraseIdx_perm {α : Type} : ∀ (l : List α) (i : Nat) (h : i < l.length), List.Perm (l[i] :: l.eraseIdx i) l
  | x :: l, 0, h => by simp
  | x :: l, i + 1, h => by
    have := eraseIdx_perm l i (by simpa using h)
    simp only [List.getElem_cons_succ, List.eraseIdx_cons_succ]
    exact (List.Perm.swap ..).trans (this.cons x)

theorem drawOrder_nil {α : Type} : drawOrder 0 ([] : List α) = pure [] := by rw [drawOrder]
theorem wpAny_drawOrder {α : Type} (n : Nat) : ∀ (xs : List α) {Q : List α → Shared → Prop} {s : Shared}, xs.length = n →
    (∀ ys d, List.Perm ys xs → Q ys { s with drawn := d }) → wpAny (model prog w) A (drawOrder n xs) Q E s := by
  induction n with
  | zero =>
    intro xs Q s hl h
    have e := List.length_eq_zero_iff.mp hl
    subst e
    rw [drawOrder_nil]
    exact wpAny_pure (h [] s.drawn .nil)
  | succ n ih =>
    intro xs Q s hl h
    cases xs with
    | nil => cases hl
    | cons x xs =>
      rw [drawOrder]
      case x_2 => intro z; cases z
      refine wpAny_bind (wpAny_choose (by simp) fun i hi => ?_)
      rw [List.getElem?_eq_getElem hi]
      dsimp only
      refine wpAny_bind (ih _ (by rw [List.length_eraseIdx_of_lt hi]; omega) fun ys d pr => ?_)
      exact wpAny_pure (h _ d ((pr.cons _).trans (eraseIdx_perm _ _ hi)))

theorem pickGo_perm {α : Type} (next : Nat → Nat) : ∀ (fuel k : Nat) (left : List α) (out : Array α), left.length = fuel →
    (pickOrder.go next fuel k left out).toList.Perm (out.toList ++ left)
  | 0, k, left, out, h => by
    rw [List.length_eq_zero_iff.mp h]; unfold pickOrder.go; simp
  | fuel + 1, k, left, out, h => by
    unfold pickOrder.go
    have hi : next k % left.length < left.length := Nat.mod_lt _ (by omega)
    rw [List.getElem?_eq_getElem hi]
    dsimp only
    refine (pickGo_perm next fuel _ _ _ (by rw [List.length_eraseIdx_of_lt hi]; omega)).trans ?_
    rw [Array.toList_push, List.append_assoc]
    exact (eraseIdx_perm _ _ hi).append_left _
theorem pickOrder_perm {α : Type} (next : Nat → Nat) (xs : Array α) : (pickOrder next xs).toList.Perm xs.toList := by
  have := pickGo_perm next xs.size 0 xs.toList #[] (by simp)
  simpa [pickOrder] using this
end
end PySem

end
section
set_option Elab.async false
set_option linter.all false
set_option maxRecDepth 100000
set_option maxHeartbeats 4000000
namespace PySem
open PyProof.Rows (StrsAre)
theorem entry_setIter : entryFor table "set.__iter__" = some Builtin.«frozenset.__iter__» :=
  entryFor_alias (id' := "frozenset.__iter__") (by kernel_rfl) rfl (by decide +kernel) (by kernel_rfl)
theorem args_setIter (v : Value) : argsOk "set.__iter__" ⟨[v], []⟩ := by unfold argsOk; kernel_rfl
theorem slot_setNext : Slot "set_iterator" "__next__" "set_iterator.__next__" := by
  refine .of (owner := "set_iterator") (n := "__next__") ?_ ?_ ?_ ?_ ?_ ?_
  · rw [typeLookup_type, builtinLookup_eq_fast]; kernel_rfl
  · decide +kernel
  · decide +kernel
  · decide +kernel
  · first
      | exact .inl (by decide +kernel)
      | exact .inr (by decide +kernel)
  · rw [isSubtype_type]; kernel_rfl
theorem slot_setIterIter : Slot "set_iterator" "__iter__" "set_iterator.__iter__" := by
  refine .of (owner := "set_iterator") (n := "__iter__") ?_ ?_ ?_ ?_ ?_ ?_
  · rw [typeLookup_type, builtinLookup_eq_fast]; kernel_rfl
  · decide +kernel
  · decide +kernel
  · decide +kernel
  · first
      | exact .inl (by decide +kernel)
      | exact .inr (by decide +kernel)
  · rw [isSubtype_type]; kernel_rfl
theorem entry_setNext : entryFor table "set_iterator.__next__" = some Builtin.«set_iterator.__next__» := by
  refine entryFor_of_tree ?_
  kernel_rfl
theorem args_setNext (v : Value) : argsOk "set_iterator.__next__" ⟨[v], []⟩ := by unfold argsOk; kernel_rfl
section
variable {prog : Program} {w : World} {A : Around} {E : Value → Shared → Prop} {s : Shared}

theorem wpAny_setsByText {Q : Bool → Shared → Prop} (h : Q (w.params.followText "set-order") s) :
    wpAny (model prog w) A setsByText Q E s := by
  unfold setsByText
  exact wpAny_bind (wpAny_askSetting (wpAny_pure h))

abbrev setIterObj (first : Value) (i : Nat) (a : Addr) (n ep : Nat) : Obj :=
  { cls := .type "set_iterator", data := .fields #[first, .int i 0, .ref a, .int n 0, .int ep 0] }

theorem setIter_ok {a : Addr} {o : Obj} {es : Array (Int × Value)} {ep : Nat} {t : SetTable} {Q : Value → Shared → Prop}
    (ho : s.heap.get? a = some o) (hx : o.ExactSet) (hd : o.data = .set es ep t) (hf : t.fits es.size = true) (hb : es.size < scanBound)
    (hdrawn : w.params.followText "set-order" = false → t.plain = false → es.size > 1 → ∀ (ps : List Nat) d, ps.Perm (List.range es.size) →
      Q (.ref (s.heap.objs.size + 1)) { s with
        heap := (s.heap.push { cls := .type "tuple", data := .seq (ps.map fun (i : Nat) => rawInt i).toArray }).push (setIterObj (.ref s.heap.objs.size) 0 a es.size ep), drawn := d })
    (hplace : (w.params.followText "set-order" = true ∨ t.plain = true ∨ es.size ≤ 1) →
      Q (.ref s.heap.objs.size) { s with heap := s.heap.push (setIterObj (.int 0 0) 0 a es.size ep) }) :
    wpAny (model prog w) A (pyIter (.ref a)) Q E s := by
  have ty : s.TypeIs (.ref a) "set" := ⟨o, ho, hx.1⟩
  refine wpAny_pyIter_slot ty F.slot_set_iter (wpAny_call_entry F.slot_set_iter ty entry_setIter ?_ (args_setIter _))
  unfold Builtin.«frozenset.__iter__» Builtin.Frozenset.slot0 slotArgs
  simp only [List.isEmpty_nil, Bool.not_true, Bool.false_eq_true, ↓reduceIte, bind_assoc, List.length_nil, bne_self_eq_false]
  unfold Builtin.Frozenset.addrOf Builtin.Frozenset.sizeOf setDrawn
  refine wpAny_bind (wpAny_pure ?_)
  dsimp only
  refine wpAny_bind (wpAny_pure ?_)
  refine wpAny_bind (wpAny_bind (wpAny_setEntries_of ho hd hf (wpAny_pure ?_)))
  refine wpAny_bind (wpAny_bind (wpAny_setState_of ho hd hf ?_))
  dsimp only
  refine wpAny_bind (wpAny_setsByText (wpAny_pure ?_))
  have look := slot_setNext.lookup
  by_cases c : (!w.params.followText "set-order" && (!t.plain && decide (es.size > 1))) = true
  · refine (?_ : wpAny _ _ (if (!w.params.followText "set-order" && (!t.plain && decide (es.size > 1))) = true then _ else _) _ _ _)
    rw [if_pos c]
    simp only [Bool.and_eq_true, Bool.not_eq_true', decide_eq_true_eq] at c
    refine wpAny_bind (wpAny_drawOrder _ _ (by simp) fun ps d pr => ?_)
    unfold newTuple
    refine wpAny_bind (wpAny_newObj_type ?_ (by
      have l := fits_of_scanBound hb
      have z := pr.length_eq
      simp only [List.length_range] at z
      show _ ≤ sizeLine
      simp only [List.size_toArray, List.length_map]
      omega))
    refine wpAny_bind (wpAny_setEpoch_of (Heap.get?_push_of_some _ ho) hd hf ?_)
    unfold newFields
    refine wpAny_bind (wpAny_newObj_type (wpAny_pure ⟨_, rfl, "set_iterator", _, ⟨_, Heap.get?_push_size _ rfl, rfl⟩, look, ?_⟩))
    have := hdrawn c.1 c.2.1 c.2.2 ps d pr
    rw [Heap.size_push]
    exact this
  · refine (?_ : wpAny _ _ (if (!w.params.followText "set-order" && (!t.plain && decide (es.size > 1))) = true then _ else _) _ _ _)
    rw [if_neg c]
    refine wpAny_bind (wpAny_pure ?_)
    refine wpAny_bind (wpAny_setEpoch_of ho hd hf ?_)
    unfold newFields
    refine wpAny_bind (wpAny_newObj_type (wpAny_pure ⟨_, rfl, "set_iterator", _, ⟨_, Heap.get?_push_size _ rfl, rfl⟩, look, ?_⟩))
    refine hplace ?_
    cases hb : w.params.followText "set-order" with
    | true => exact .inl rfl
    | false =>
      cases hp : t.plain with
      | true => exact .inr (.inl rfl)
      | false =>
        refine .inr (.inr ?_)
        rw [hb, hp] at c; simp at c; omega

/-- an iterator over a set, at its object -/
def SetIterAt (h : Heap) (I : Addr) (first : Value) (i : Nat) (a : Addr) (n ep : Nat) : Prop :=
  ∃ o, h.get? I = some o ∧ o.cls = .type "set_iterator" ∧ o.data = .fields #[first, .int i 0, .ref a, .int n 0, .int ep 0]

theorem setNext_drawn {I T a : Addr} {i : Nat} {o oT : Obj} {es : Array (Int × Value)} {ep : Nat} {t : SetTable} {ps : List Nat} {nT : Nat} {Q : Option Value → Shared → Prop}
    (ho : s.heap.get? a = some o) (hd : o.data = .set es ep t) (hf : t.fits es.size = true)
    (hi : SetIterAt s.heap I (.ref T) i a es.size ep) (gT : s.heap.get? T = some oT) (dT : oT.data = .seq (ps.map fun (i : Nat) => rawInt i).toArray nT)
    {p : Nat} {e : Int × Value} (hp : ps[i]? = some p) (he : es[p]? = some e)
    (h : ∀ h', SetIterAt h' I (.ref T) (i + 1) a es.size ep → Heap.SameBut I s.heap h' → Q (some e.2) { s with heap := h' }) :
    wpAny (model prog w) A (pyNext (.ref I)) Q E s := by
  obtain ⟨oI, gI, cI, dI⟩ := hi
  have ty : s.TypeIs (.ref I) "set_iterator" := ⟨oI, gI, cI⟩
  unfold pyNext
  refine wpAny_bind (wpAny_attempt (wpAny_callSpecial?_slot (name := Str.ofString "__next__") ty slot_setNext
    (wpAny_call_entry slot_setNext ty entry_setNext ?_ (args_setNext _))))
  unfold Builtin.«set_iterator.__next__» slotArgs
  simp only [List.isEmpty_nil, Bool.not_true, Bool.false_eq_true, ↓reduceIte, bind_assoc, List.length_nil, bne_self_eq_false]
  refine wpAny_bind (wpAny_pure ?_)
  dsimp only
  refine wpAny_bind (wpAny_fieldsOf gI dI ?_)
  dsimp only
  refine wpAny_bind (wpAny_setEntries_of ho hd hf ?_)
  rw [if_neg (show ¬ ((((es.size : Nat) : Int) != ((es.size : Nat) : Int)) = true) by simp)]
  refine wpAny_bind (wpAny_seqItems gT dT ?_)
  have look : (ps.map fun (i : Nat) => rawInt i).toArray[(↑i : Int).toNat]? = some (.int p 0) := by
    simp [hp, rawInt]
  dsimp only
  rw [look]
  dsimp only
  unfold setNextDrawn
  refine wpAny_bind (wpAny_bind (wpAny_setState_of ho hd hf ?_))
  dsimp only
  rw [if_neg (show ¬ ((ep != (↑ep : Int).toNat) = true) by simp)]
  have look2 : es[(↑p : Int).toNat]? = some e := by simpa using he
  rw [look2]
  dsimp only
  refine wpAny_pure ?_
  refine wpAny_bind (wpAny_setField gI dI (by simp) (wpAny_pure ⟨e.2, rfl, wpAny_pure (h _ ?_ (Heap.SameBut.update ..))⟩))
  refine ⟨_, Heap.get?_update_self _ gI (Obj.isFreed_of_fields (Obj.data_mapFields dI _)), (Obj.cls_mapFields ..).trans cI, ?_⟩
  rw [Obj.data_mapFields dI]
  simp [rawInt]
end
end PySem

end
section
set_option Elab.async false
set_option linter.all false
set_option maxRecDepth 100000
set_option maxHeartbeats 4000000
namespace PySem
open PyProof.Rows (StrsAre)
section
variable {prog : Program} {w : World} {A : Around} {E : Value → Shared → Prop} {s : Shared}

theorem setNext_drawn_end {I T a : Addr} {i : Nat} {o oT : Obj} {es : Array (Int × Value)} {ep : Nat} {t : SetTable} {ps : List Nat} {nT : Nat} {Q : Option Value → Shared → Prop}
    (hh : A.handled = none) (ho : s.heap.get? a = some o) (hd : o.data = .set es ep t) (hf : t.fits es.size = true)
    (hi : SetIterAt s.heap I (.ref T) i a es.size ep) (gT : s.heap.get? T = some oT) (dT : oT.data = .seq (ps.map fun (i : Nat) => rawInt i).toArray nT)
    (hp : ps[i]? = none) (h : ∀ h', Heap.ExtBut I s.heap h' → Q none { s with heap := h' }) :
    wpAny (model prog w) A (pyNext (.ref I)) Q E s := by
  obtain ⟨oI, gI, cI, dI⟩ := hi
  have ty : s.TypeIs (.ref I) "set_iterator" := ⟨oI, gI, cI⟩
  unfold pyNext
  refine wpAny_bind (wpAny_attempt (wpAny_callSpecial?_slot (name := Str.ofString "__next__") ty slot_setNext
    (wpAny_call_entry slot_setNext ty entry_setNext ?_ (args_setNext _))))
  unfold Builtin.«set_iterator.__next__» slotArgs
  simp only [List.isEmpty_nil, Bool.not_true, Bool.false_eq_true, ↓reduceIte, bind_assoc, List.length_nil, bne_self_eq_false]
  refine wpAny_bind (wpAny_pure ?_)
  dsimp only
  refine wpAny_bind (wpAny_fieldsOf gI dI ?_)
  dsimp only
  refine wpAny_bind (wpAny_setEntries_of ho hd hf ?_)
  rw [if_neg (show ¬ ((((es.size : Nat) : Int) != ((es.size : Nat) : Int)) = true) by simp)]
  refine wpAny_bind (wpAny_seqItems gT dT ?_)
  have look : (ps.map fun (i : Nat) => rawInt i).toArray[(↑i : Int).toNat]? = none := by
    simp at hp; simp [hp]
  dsimp only
  rw [look]
  dsimp only
  refine wpAny_bind (wpAny_setField gI dI (by simp) ?_)
  have g2 := Heap.get?_update_self (Obj.mapFields (·.setIfInBounds 0 (rawInt 0))) gI (Obj.isFreed_of_fields (Obj.data_mapFields dI _))
  refine wpAny_bind (wpAny_setField g2 (Obj.data_mapFields dI _) (by simp) ?_)
  refine wpAny_bind ?_
  simp only [newExc, newTuple]
  refine wpAny_bind (wpAny_newObj_type ?_ (by size_fits))
  refine wpAny_bind (m := firstArgMember _ _) (wpAny_of_eq (a := Value.none) (by simp only [firstArgMember]; rfl) ?_)
  refine wpAny_newObj_type ?_ (by size_fits)
  simp only [raiseNew]
  refine wpAny_bind (wpAny_handled ?_)
  rw [show A.in1.handled = none from hh]
  refine wpAny_bind (wpAny_pure (wpAny_throw ?_))
  refine wpAny_bind (wpAny_isInstance (T := "StopIteration") (b := true) ⟨_, Heap.get?_push_size _ rfl, rfl⟩ isSubtype_stop ?_)
  exact wpAny_pure (h _ ((((Heap.SameBut.update ..).trans (Heap.SameBut.update ..)).extBut.push _).push _))

/-- what a set's own order gives at a place -/
theorem setNext_text {a : Addr} {o : Obj} {es : Array (Int × Value)} {ep : Nat} {t : SetTable} {slot i : Nat} {Q : Option (Value × Nat) → Shared → Prop}
    (hw : w.params.followText "set-order" = true) (ho : s.heap.get? a = some o) (hd : o.data = .set es ep t) (hf : t.fits es.size = true)
    (h : Q (((pickOrder (w.params.setOrder a ep) es)[i]?).map fun e => (e.2, slot)) s) : wpAny (model prog w) A (setNext a slot i ep) Q E s := by
  unfold setNext
  refine wpAny_bind (wpAny_setState_of ho hd hf ?_)
  dsimp only
  refine wpAny_bind (wpAny_setsByText ?_)
  rw [hw]
  simp only [↓reduceIte, bne_self_eq_false, Bool.false_eq_true]
  unfold setWalk
  refine wpAny_bind (wpAny_bind (wpAny_setState_of ho hd hf ?_))
  dsimp only
  refine wpAny_bind (wpAny_setsByText ?_)
  rw [hw]
  simp only [↓reduceIte]
  refine wpAny_bind (wpAny_askSetting (wpAny_pure ?_))
  exact wpAny_pure h

theorem setNext_one {a : Addr} {o : Obj} {es : Array (Int × Value)} {ep : Nat} {t : SetTable} {slot i : Nat} {Q : Option (Value × Nat) → Shared → Prop}
    (hw : w.params.followText "set-order" = false) (ho : s.heap.get? a = some o) (hd : o.data = .set es ep t) (hf : t.fits es.size = true)
    (hn : es.size ≤ 1) (hl : t.led = true)
    (h : Q (match es[SetTable.below t.place slot]?, t.place[SetTable.below t.place slot]? with
      | some (_, x), some j => some (x, j + 1)
      | _, _ => none) s) : wpAny (model prog w) A (setNext a slot i ep) Q E s := by
  unfold setNext
  refine wpAny_bind (wpAny_setState_of ho hd hf ?_)
  dsimp only
  refine wpAny_bind (wpAny_setsByText ?_)
  rw [hw]
  simp only [Bool.false_eq_true, ↓reduceIte]
  refine (?_ : wpAny _ _ (if (!t.plain && decide (es.size > 1)) = true then _ else _) _ _ _)
  rw [if_neg (by simp; omega)]
  refine wpAny_bind (m := if (!t.led && !es.isEmpty) = true then unsupported "set:maker-not-led" else pure ()) ?_
  rw [if_neg (by simp [hl])]
  exact wpAny_pure (wpAny_pure h)
end
end PySem

end
section
set_option Elab.async false
set_option linter.all false
set_option maxRecDepth 100000
set_option maxHeartbeats 4000000
namespace PySem
open PyProof.Rows (StrsAre)
section
variable {prog : Program} {w : World} {A : Around} {E : Value → Shared → Prop} {s : Shared}

theorem setNext_slot {I a : Addr} {slot i next : Nat} {x : Value} {o : Obj} {es : Array (Int × Value)} {ep : Nat} {t : SetTable} {Q : Option Value → Shared → Prop}
    (ho : s.heap.get? a = some o) (hd : o.data = .set es ep t) (hf : t.fits es.size = true)
    (hi : SetIterAt s.heap I (.int slot 0) i a es.size ep)
    (hs : ∀ (A : Around) (E : Value → Shared → Prop) (Q : Option (Value × Nat) → Shared → Prop), Q (some (x, next)) s → wpAny (model prog w) A (setNext a slot i ep) Q E s)
    (h : ∀ h', SetIterAt h' I (.int next 0) (i + 1) a es.size ep → Heap.SameBut I s.heap h' → Q (some x) { s with heap := h' }) :
    wpAny (model prog w) A (pyNext (.ref I)) Q E s := by
  obtain ⟨oI, gI, cI, dI⟩ := hi
  have ty : s.TypeIs (.ref I) "set_iterator" := ⟨oI, gI, cI⟩
  unfold pyNext
  refine wpAny_bind (wpAny_attempt (wpAny_callSpecial?_slot (name := Str.ofString "__next__") ty slot_setNext
    (wpAny_call_entry slot_setNext ty entry_setNext ?_ (args_setNext _))))
  unfold Builtin.«set_iterator.__next__» slotArgs
  simp only [List.isEmpty_nil, Bool.not_true, Bool.false_eq_true, ↓reduceIte, bind_assoc, List.length_nil, bne_self_eq_false]
  refine wpAny_bind (wpAny_pure ?_)
  dsimp only
  refine wpAny_bind (wpAny_fieldsOf gI dI ?_)
  dsimp only
  refine wpAny_bind (wpAny_setEntries_of ho hd hf ?_)
  rw [if_neg (show ¬ ((((es.size : Nat) : Int) != ((es.size : Nat) : Int)) = true) by simp)]
  simp only [Int.toNat_natCast]
  refine wpAny_bind (hs _ _ _ ?_)
  dsimp only
  refine wpAny_bind (wpAny_setField gI dI (by simp) ?_)
  have d2 := Obj.data_mapFields dI (·.setIfInBounds 0 (rawInt next))
  have g2 := Heap.get?_update_self (Obj.mapFields (·.setIfInBounds 0 (rawInt next))) gI (Obj.isFreed_of_fields d2)
  refine wpAny_bind (wpAny_setField g2 d2 (by simp) (wpAny_pure ⟨x, rfl, wpAny_pure (h _ ?_ ((Heap.SameBut.update ..).trans (Heap.SameBut.update ..)))⟩))
  refine ⟨_, Heap.get?_update_self _ g2 (Obj.isFreed_of_fields (Obj.data_mapFields d2 _)), ?_, ?_⟩
  · exact (Obj.cls_mapFields ..).trans ((Obj.cls_mapFields ..).trans cI)
  · rw [Obj.data_mapFields d2]
    simp [rawInt]

theorem setNext_slot_end {I a : Addr} {slot i : Nat} {o : Obj} {es : Array (Int × Value)} {ep : Nat} {t : SetTable} {Q : Option Value → Shared → Prop}
    (hh : A.handled = none) (ho : s.heap.get? a = some o) (hd : o.data = .set es ep t) (hf : t.fits es.size = true)
    (hi : SetIterAt s.heap I (.int slot 0) i a es.size ep)
    (hs : ∀ (A : Around) (E : Value → Shared → Prop) (Q : Option (Value × Nat) → Shared → Prop), Q none s → wpAny (model prog w) A (setNext a slot i ep) Q E s)
    (h : ∀ h', Heap.ExtBut I s.heap h' → Q none { s with heap := h' }) :
    wpAny (model prog w) A (pyNext (.ref I)) Q E s := by
  obtain ⟨oI, gI, cI, dI⟩ := hi
  have ty : s.TypeIs (.ref I) "set_iterator" := ⟨oI, gI, cI⟩
  unfold pyNext
  refine wpAny_bind (wpAny_attempt (wpAny_callSpecial?_slot (name := Str.ofString "__next__") ty slot_setNext
    (wpAny_call_entry slot_setNext ty entry_setNext ?_ (args_setNext _))))
  unfold Builtin.«set_iterator.__next__» slotArgs
  simp only [List.isEmpty_nil, Bool.not_true, Bool.false_eq_true, ↓reduceIte, bind_assoc, List.length_nil, bne_self_eq_false]
  refine wpAny_bind (wpAny_pure ?_)
  dsimp only
  refine wpAny_bind (wpAny_fieldsOf gI dI ?_)
  dsimp only
  refine wpAny_bind (wpAny_setEntries_of ho hd hf ?_)
  rw [if_neg (show ¬ ((((es.size : Nat) : Int) != ((es.size : Nat) : Int)) = true) by simp)]
  simp only [Int.toNat_natCast]
  refine wpAny_bind (hs _ _ _ ?_)
  dsimp only
  refine wpAny_bind (wpAny_setField gI dI (by simp) ?_)
  refine wpAny_bind ?_
  simp only [newExc, newTuple]
  refine wpAny_bind (wpAny_newObj_type ?_ (by size_fits))
  refine wpAny_bind (m := firstArgMember _ _) (wpAny_of_eq (a := Value.none) (by simp only [firstArgMember]; rfl) ?_)
  refine wpAny_newObj_type ?_ (by size_fits)
  simp only [raiseNew]
  refine wpAny_bind (wpAny_handled ?_)
  rw [show A.in1.handled = none from hh]
  refine wpAny_bind (wpAny_pure (wpAny_throw ?_))
  refine wpAny_bind (wpAny_isInstance (T := "StopIteration") (b := true) ⟨_, Heap.get?_push_size _ rfl, rfl⟩ isSubtype_stop ?_)
  exact wpAny_pure (h _ (((Heap.SameBut.update ..).extBut.push _).push _))

theorem below_one_zero (p : Nat) : SetTable.below #[p] 0 = 0 := by
  simp [SetTable.below, SetTable.below.go]
theorem below_one_next (p : Nat) : SetTable.below #[p] (p + 1) = 1 := by
  simp [SetTable.below, SetTable.below.go]
end
end PySem

end
section
set_option Elab.async false
set_option linter.all false
set_option maxRecDepth 100000
set_option maxHeartbeats 4000000
namespace PySem
open PyProof.Rows (StrsAre)
theorem entry_setIterIter : entryFor table "set_iterator.__iter__" = some Builtin.«dict_keyiterator.__iter__» :=
  entryFor_alias (id' := "dict_keyiterator.__iter__") (by kernel_rfl) rfl (by decide +kernel) (by kernel_rfl)
theorem args_setIterIter (v : Value) : argsOk "set_iterator.__iter__" ⟨[v], []⟩ := by unfold argsOk; kernel_rfl
section
variable {prog : Program} {w : World} {A : Around} {E : Value → Shared → Prop} {s : Shared}

theorem setIter_self {I a : Addr} {first : Value} {i n ep : Nat} {Q : Value → Shared → Prop} (hi : SetIterAt s.heap I first i a n ep)
    (h : Q (.ref I) s) : wpAny (model prog w) A (pyIter (.ref I)) Q E s := by
  obtain ⟨o, g, c, d⟩ := hi
  have ty : s.TypeIs (.ref I) "set_iterator" := ⟨o, g, c⟩
  refine wpAny_pyIter_slot ty slot_setIterIter (wpAny_call_entry slot_setIterIter ty entry_setIterIter ?_ (args_setIterIter _))
  show wpAny _ _ (ret (.ref I)) _ _ s
  exact wpAny_pure ⟨_, rfl, "set_iterator", _, ty, slot_setNext.lookup, h⟩

theorem SetIterAt.keep {h h' : Heap} {I a : Addr} {first : Value} {i n ep : Nat} (t : SetIterAt h I first i a n ep)
    (e : ∀ o, h.get? I = some o → h'.get? I = some o) : SetIterAt h' I first i a n ep := by
  obtain ⟨o, g, r⟩ := t
  exact ⟨o, e o g, r⟩

theorem walks_drawn (hh : A.handled = none) {I T a : Addr} {o oT : Obj} {es : Array (Int × Value)} {ep : Nat} {t : SetTable} {ps : List Nat} {nT : Nat}
    (hd : o.data = .set es ep t) (hf : t.fits es.size = true) (dT : oT.data = .seq (ps.map fun (i : Nat) => rawInt i).toArray nT)
    (hI : a ≠ I) (hT : T ≠ I) (pr : ps.Perm (List.range es.size)) :
    WalksS prog w A I [I, a, T] [I] (fun x y => x = y) es.size (fun i v => ∃ p e, ps[i]? = some p ∧ es[p]? = some e ∧ v = e.2)
      (fun i s => SetIterAt s.heap I (.ref T) i a es.size ep ∧ s.heap.get? a = some o ∧ s.heap.get? T = some oT) where
  sub := fun b hb => by simp at hb; simp [hb]
  grefl := fun _ => rfl
  gtrans := fun _ _ _ p q => p.trans q
  frame := fun i s h' tk st _ k => ⟨st.1.keep (k I (by simp)), k a (by simp) _ st.2.1, k T (by simp) _ st.2.2⟩
  item := fun i s Q E lt st hQ => by
    have len : ps.length = es.size := by simpa using pr.length_eq
    have hp : ps[i]? = some ps[i] := List.getElem?_eq_getElem (by omega)
    have mem : ps[i] < es.size := List.mem_range.mp (pr.mem_iff.mp (List.getElem_mem _))
    have he : es[ps[i]]? = some es[ps[i]] := Array.getElem?_eq_getElem mem
    refine setNext_drawn st.2.1 hd hf st.1 st.2.2 dT hp he fun h' si sb => ?_
    refine hQ _ _ ⟨_, _, hp, he, rfl⟩ ⟨si, ?_, ?_⟩ ⟨fun b o' hb e => ?_, rfl, rfl, rfl, Nat.le_refl _⟩
    · exact (sb.2 a hI).trans st.2.1
    · exact (sb.2 T hT).trans st.2.2
    · exact (sb.2 b (by simpa using hb)).trans e
  done := fun s Q E st hQ => by
    have len : ps.length = es.size := by simpa using pr.length_eq
    refine setNext_drawn_end hh st.2.1 hd hf st.1 st.2.2 dT (List.getElem?_eq_none (by omega)) fun h' xb => ?_
    exact hQ _ ⟨fun b o' hb e => xb b o' (by simpa using hb) e, rfl, rfl, rfl, Nat.le_refl _⟩
  self := fun i s Q E st h => setIter_self st.1 h

theorem walks_text (hh : A.handled = none) (hw : w.params.followText "set-order" = true) {I a : Addr} {o : Obj} {es : Array (Int × Value)} {ep : Nat} {t : SetTable}
    (hd : o.data = .set es ep t) (hf : t.fits es.size = true) (hI : a ≠ I) :
    WalksS prog w A I [I, a] [I] (fun x y => x = y) es.size (fun i v => ∃ e, (pickOrder (w.params.setOrder a ep) es)[i]? = some e ∧ v = e.2)
      (fun i s => SetIterAt s.heap I (.int (0 : Nat) 0) i a es.size ep ∧ s.heap.get? a = some o) where
  sub := fun b hb => by simp at hb; simp [hb]
  grefl := fun _ => rfl
  gtrans := fun _ _ _ p q => p.trans q
  frame := fun i s h' tk st _ k => ⟨st.1.keep (k I (by simp)), k a (by simp) _ st.2⟩
  item := fun i s Q E lt st hQ => by
    have len : (pickOrder (w.params.setOrder a ep) es).size = es.size := by
      rw [← Array.length_toList, (pickOrder_perm _ _).length_eq, Array.length_toList]
    have he : (pickOrder (w.params.setOrder a ep) es)[i]? = some (pickOrder (w.params.setOrder a ep) es)[i] := Array.getElem?_eq_getElem (by omega)
    refine setNext_slot (next := 0) (x := (pickOrder (w.params.setOrder a ep) es)[i].2) st.2 hd hf st.1 (fun A' E' Q' q => setNext_text hw st.2 hd hf (by rw [he]; exact q)) fun h' si sb => ?_
    refine hQ _ _ ⟨_, he, rfl⟩ ⟨si, (sb.2 a hI).trans st.2⟩ ⟨fun b o' hb e => ?_, rfl, rfl, rfl, Nat.le_refl _⟩
    exact (sb.2 b (by simpa using hb)).trans e
  done := fun s Q E st hQ => by
    have len : (pickOrder (w.params.setOrder a ep) es).size = es.size := by
      rw [← Array.length_toList, (pickOrder_perm _ _).length_eq, Array.length_toList]
    have he : (pickOrder (w.params.setOrder a ep) es)[es.size]? = none := Array.getElem?_eq_none (by omega)
    refine setNext_slot_end hh st.2 hd hf st.1 (fun A' E' Q' q => setNext_text hw st.2 hd hf (by rw [he]; exact q)) fun h' xb => ?_
    exact hQ _ ⟨fun b o' hb e => xb b o' (by simpa using hb) e, rfl, rfl, rfl, Nat.le_refl _⟩
  self := fun i s Q E st h => setIter_self st.1 h
end
end PySem

end
section
set_option Elab.async false
set_option linter.all false
set_option maxRecDepth 100000
set_option maxHeartbeats 4000000
namespace PySem
open PyProof.Rows (StrsAre)
section
variable {prog : Program} {w : World} {A : Around} {E : Value → Shared → Prop} {s : Shared}

theorem fits_place {t : SetTable} {n : Nat} (h : t.fits n = true) : t.place.size = n := by
  unfold SetTable.fits at h
  simp only [Bool.and_eq_true, beq_iff_eq] at h
  exact h.1

def walkSlot (t : SetTable) (i : Nat) : Nat := if i = 0 then 0 else t.place.getD 0 0 + 1

theorem walkSlot_step {t : SetTable} {es : Array (Int × Value)} (hf : t.fits es.size = true) (hn : es.size ≤ 1) {i : Nat} (lt : i < es.size) :
    (match es[SetTable.below t.place (walkSlot t i)]?, t.place[SetTable.below t.place (walkSlot t i)]? with
      | some (_, x), some j => some (x, j + 1)
      | _, _ => none) = some (es[i].2, walkSlot t (i + 1)) := by
  have sz := fits_place hf
  obtain rfl : i = 0 := by omega
  have one : t.place.size = 1 := by omega
  obtain ⟨p, hp⟩ : ∃ p, t.place = #[p] := ⟨t.place[0], by
    apply Array.ext
    · simpa using one
    · intro k h1 h2
      simp at h2
      subst h2; rfl⟩
  simp only [walkSlot, hp, if_true, below_one_zero]
  rw [Array.getElem?_eq_getElem lt]
  simp
theorem walkSlot_end {t : SetTable} {es : Array (Int × Value)} (hf : t.fits es.size = true) (hn : es.size ≤ 1) :
    (match es[SetTable.below t.place (walkSlot t es.size)]?, t.place[SetTable.below t.place (walkSlot t es.size)]? with
      | some (_, x), some j => some (x, j + 1)
      | _, _ => none) = (none : Option (Value × Nat)) := by
  have sz := fits_place hf
  by_cases z : es.size = 0
  · have e : es = #[] := Array.eq_empty_of_size_eq_zero z
    subst e; simp
  · have one : t.place.size = 1 := by omega
    obtain ⟨p, hp⟩ : ∃ p, t.place = #[p] := ⟨t.place[0], by
      apply Array.ext
      · simpa using one
      · intro k h1 h2
        simp at h2
        subst h2; rfl⟩
    have e1 : es.size = 1 := by omega
    have hs : walkSlot t es.size = p + 1 := by simp [walkSlot, e1, hp]
    rw [hs, hp, below_one_next]
    have : es[1]? = none := Array.getElem?_eq_none (by omega)
    rw [this]

theorem walks_one (hh : A.handled = none) (hw : w.params.followText "set-order" = false) {I a : Addr} {o : Obj} {es : Array (Int × Value)} {ep : Nat} {t : SetTable}
    (hd : o.data = .set es ep t) (hf : t.fits es.size = true) (hn : es.size ≤ 1) (hl : t.led = true) (hI : a ≠ I) :
    WalksS prog w A I [I, a] [I] (fun x y => x = y) es.size (fun i v => ∃ e, es[i]? = some e ∧ v = e.2)
      (fun i s => SetIterAt s.heap I (.int (walkSlot t i) 0) i a es.size ep ∧ s.heap.get? a = some o) where
  sub := fun b hb => by simp at hb; simp [hb]
  grefl := fun _ => rfl
  gtrans := fun _ _ _ p q => p.trans q
  frame := fun i s h' tk st _ k => ⟨st.1.keep (k I (by simp)), k a (by simp) _ st.2⟩
  item := fun i s Q E lt st hQ => by
    refine setNext_slot (next := walkSlot t (i + 1)) (x := es[i].2) st.2 hd hf st.1
      (fun A' E' Q' q => setNext_one hw st.2 hd hf hn hl ((congrArg (fun z => Q' z s) (walkSlot_step hf hn lt)).mpr q)) fun h' si sb => ?_
    refine hQ _ _ ⟨_, Array.getElem?_eq_getElem lt, rfl⟩ ⟨si, (sb.2 a hI).trans st.2⟩ ⟨fun b o' hb e => ?_, rfl, rfl, rfl, Nat.le_refl _⟩
    exact (sb.2 b (by simpa using hb)).trans e
  done := fun s Q E st hQ => by
    refine setNext_slot_end hh st.2 hd hf st.1
      (fun A' E' Q' q => setNext_one hw st.2 hd hf hn hl ((congrArg (fun z => Q' z s) (walkSlot_end hf hn)).mpr q)) fun h' xb => ?_
    exact hQ _ ⟨fun b o' hb e => xb b o' (by simpa using hb) e, rfl, rfl, rfl, Nat.le_refl _⟩
  self := fun i s Q E st h => setIter_self st.1 h
end
end PySem

end
section
set_option Elab.async false
set_option linter.all false
set_option maxRecDepth 100000
set_option maxHeartbeats 4000000
namespace PySem
open PyProof.Rows (StrsAre)
section
variable {prog : Program} {w : World} {A : Around} {E : Value → Shared → Prop} {s : Shared}

theorem hint_set {a : Addr} {Q : Bool → Shared → Prop} (ty : s.TypeIs (.ref a) "set") (h : Q false s) :
    wpAny (model prog w) A (Builtin.List.listLengthHint (.ref a)) Q E s := by
  unfold Builtin.List.listLengthHint
  refine wpAny_bind (wpAny_specialOf ty F.slot_set_len.lookup ?_)
  generalize e : ("set.__len__" : String) = id
  wp_delta
  have sp : splitId id = some ("set", "__len__") := by subst e; decide +kernel
  rw [sp]
  subst e
  refine wpAny_bind (wpAny_isInstance (b := true) ty sub_set_self ?_)
  refine wpAny_ite_split (fun z => absurd z (by decide)) (fun _ => ?_)
  refine wpAny_ite_split (fun _ => ?_) (fun z => absurd (by decide +kernel) z)
  exact wpAny_bind (wpAny_typeOf ty (wpAny_pure h))

theorem set_extend_tail {R : Result → Shared → Prop} {a I S : Addr} {fp : List Addr} {n c : Nat} {P : Nat → Value → Prop} {St : Nat → Shared → Prop} {res : Value} {b : Bool}
    (W : WalksS prog w A.in1 I fp [I] (fun x y => x = y) n P St) (hn : n ≤ sizeLine) (hS : S ∉ fp) (st : St 0 s)
    (gS : s.heap.get? S = some { cls := .type "list", data := .seq #[] c }) (ty : s.TypeIs (.ref a) "set")
    (hR : ∀ s' acc c', Moved (S :: [I]) (fun x y => x = y) s s' → s'.heap.get? S = some { cls := .type "list", dict := none, data := .seq acc c', slots := #[] } → ItemsOf P acc n → R (.ok (.ret res)) s') :
    wpAny (model prog w) A.in1 (do
      let room ← holding [.ref I] (Builtin.List.listLengthHint (.ref a))
      if (room || b) = true then do
        rule "list.extend.makes-room"
        Builtin.List.listTouch (.ref S)
        again (.builtin "list.extend.loop" ⟨[.ref S, .ref I, res], []⟩)
      else again (.builtin "list.extend.loop" ⟨[.ref S, .ref I, res], []⟩))
      (fun fin s' => match fin with | .done f => R (.ok f) s' | .again c' => c'.quiet = true ∧ codeAny (model prog w) A c' R s') (fun e s' => R (.error e) s') s := by
  refine wpAny_bind (wpAny_holding (hint_set ty ?_))
  refine wpAny_ite_split (fun _ => ?_) (fun _ => wpAny_pure ⟨plainId_quiet F.plain_extend_loop _, codeAny_extend_loopS W hn S hS res n 0 _ #[] c rfl (Nat.zero_le _) st gS (ItemsOf.nil _) hR⟩)
  refine wpAny_bind (wpAny_rule ?_)
  refine wpAny_bind ?_
  show wpAny _ _ (updateSeq S (·.push .none) >>= fun _ => updateSeq S (·.pop)) _ _ _
  refine wpAny_bind (wpAny_updateSeq gS rfl ?_)
  have g2 := Heap.get?_update_self (Obj.mapSeq (·.push Value.none)) gS rfl
  refine wpAny_updateSeq (hz := by seq_fits) g2 rfl ?_
  have g3 := Heap.get?_update_self (Obj.mapSeq (·.pop)) g2 rfl
  have oth : ∀ q o, q ≠ S → s.heap.get? q = some o → ((s.heap.update S (Obj.mapSeq (·.push Value.none))).update S (Obj.mapSeq (·.pop))).get? q = some o :=
    fun q o hq e => (Heap.get?_update_other _ _ (Ne.symm hq)).trans ((Heap.get?_update_other _ _ (Ne.symm hq)).trans e)
  refine wpAny_pure ⟨plainId_quiet F.plain_extend_loop _, codeAny_extend_loopS W hn S hS res n 0 _ _ _ rfl (Nat.zero_le _) ?_ g3 (ItemsOf.nil _) fun s' acc c' mv g ii => ?_⟩
  · exact W.frame 0 s _ s.toks st (Nat.le_refl _) fun q hq o e => oth q o (fun z => hS (z ▸ hq)) e
  · refine hR s' acc c' (Moved.trans W.gtrans ((Moved.refl W.grefl).then_heap (Nat.le_refl _) fun q o hq e => ?_) mv) g ii
    exact oth q o (fun z => hq (z ▸ .head _)) e
end
end PySem

end
section
set_option Elab.async false
set_option linter.all false
set_option maxRecDepth 100000
set_option maxHeartbeats 4000000
namespace PySem
open PyProof.Rows (StrsAre)
theorem perm_of_all {α : Type} [BEq α] [LawfulBEq α] : ∀ (D ks : List α), D.Nodup → (∀ x ∈ D, x ∈ ks) → ks.length = D.length → ks.Perm D
  | [], ks, _, _, h => by rw [List.length_eq_zero_iff.mp h]
  | x :: D, ks, nd, sub, h => by
    have xin := sub x (.head _)
    have pe := List.perm_cons_erase xin
    refine pe.trans ((perm_of_all D (ks.erase x) (List.nodup_cons.mp nd).2 (fun y hy => ?_) ?_).cons x)
    · have ne : y ≠ x := fun e => (List.nodup_cons.mp nd).1 (e ▸ hy)
      exact (List.mem_erase_of_ne ne).mpr (sub y (.tail _ hy))
    · have := pe.length_eq
      simp only [List.length_cons] at this h
      omega

theorem items_map {P : Nat → Value → Prop} {L : List (Int × Value)} {acc : Array Value} (h : ItemsOf P acc L.length)
    (hP : ∀ i v, P i v → ∃ e, L[i]? = some e ∧ v = e.2) : acc.toList = L.map (·.2) := by
  apply List.ext_getElem?
  intro i
  by_cases lt : i < L.length
  · have lt' : i < acc.size := by rw [h.1]; exact lt
    obtain ⟨e, he, hv⟩ := hP i acc[i] (h.2 i acc[i] (Array.getElem?_eq_getElem lt'))
    rw [Array.getElem?_toList, Array.getElem?_eq_getElem lt', List.getElem?_map, he, hv]
    rfl
  · rw [List.getElem?_eq_none (by rw [Array.length_toList, h.1]; omega), List.getElem?_eq_none (by rw [List.length_map]; omega)]

section
variable {prog : Program} {w : World} {A : Around} {E : Value → Shared → Prop} {s : Shared}
theorem texts_of {L : List (Int × Value)} {D : List Str} (he : ElemsOf (strKind prog w) L) (nd : D.Nodup)
    (hm : ∀ k, decide (k ∈ D) = true ↔ ∃ e ∈ L, (strKind prog w).is k e.2 = true) (hn : L.length = D.length) :
    ∃ ks, StrsAre (L.map (·.2)) ks ∧ ks.Perm D := by
  have is : ∀ (k : Str) (v : Value), (strKind prog w).is k v = true → ∃ t, v = .str k t := fun k v z => by
    cases v <;> first
      | (obtain rfl := (by simpa [strKind, Value.isInt, Value.isStrOf] using z : _ = k); exact ⟨_, rfl⟩)
      | cases z
  have ex : ∀ L : List (Int × Value), ElemsOf (strKind prog w) L → ∃ ks, StrsAre (L.map (·.2)) ks ∧ ∀ k e, e ∈ L → (strKind prog w).is k e.2 = true → k ∈ ks := by
    intro L
    induction L with
    | nil => exact fun _ => ⟨[], .nil, fun _ _ z => nomatch z⟩
    | cons e L ih =>
      intro he
      obtain ⟨ks, h1, h2⟩ := ih he.tail
      obtain ⟨k, hk, _⟩ := he.head.1
      obtain ⟨t, ht⟩ := is k e.2 hk
      refine ⟨k :: ks, ?_, fun k' e' m z => ?_⟩
      · rw [List.map_cons, ht]; exact .cons k t h1
      · rcases List.mem_cons.mp m with rfl | m
        · rw [(strKind prog w).inj _ k' k z hk]; exact .head _
        · exact .tail _ (h2 k' e' m z)
  obtain ⟨ks, h1, h2⟩ := ex L he
  refine ⟨ks, h1, perm_of_all D ks nd (fun k hk => ?_) ?_⟩
  · obtain ⟨e, m, z⟩ := (hm k).mp (decide_eq_true hk)
    exact h2 k e m z
  · have := h1.length
    rw [List.length_map] at this
    omega
end
end PySem

end
section
set_option Elab.async false
set_option linter.all false
set_option maxRecDepth 100000
set_option maxHeartbeats 4000000
namespace PySem
open PyProof.Rows (StrsAre)
section
variable {prog : Program} {w : World} {A : Around} {E : Value → Shared → Prop} {s : Shared}

theorem collect_texts {a : Addr} {D : List Str} {Q : List Value → Shared → Prop} (hh : A.handled = none) (nd : D.Nodup)
    (T : TextSet prog w s.heap a D (ledHere w))
    (h : ∀ s' vs ks, StrsAre vs ks → ks.Perm D → (∀ b o, s.heap.get? b = some o → s'.heap.get? b = some o) → s'.gens = s.gens → s'.os = s.os →
      s.toks ≤ s'.toks → Q vs s') : wpAny (model prog w) A (collect (.ref a)) Q E s := by
  obtain ⟨o, es, ep, t, ho, hx, hd, he, hm, hb, hf, hn, hl, hp⟩ := T
  have la := Heap.lt_size ho
  unfold collect
  refine wpAny_bind (wpAny_runValue (codeAny_builtin F.entry_proto_collect ?_))
  rw [Around.under_plainId F.plain_proto_collect _]
  refine wpAny_bind (m := newList []) (wpAny_newObj_type ?_)
  refine wpAny_pure ⟨plainId_quiet F.plain_list_iadd _, codeAny_builtin F.entry_list_iadd ?_⟩
  rw [Around.under_plainId F.plain_list_iadd _]
  show wpAny _ A.in1 (Builtin.List.listExtendWith (.ref s.heap.objs.size) (.ref a) (.ref s.heap.objs.size)) _ _ _
  unfold Builtin.List.listExtendWith
  generalize hH : s.heap.push { cls := .type "list", data := .seq ([] : List Value).toArray } = H
  have ho1 : H.get? a = some o := by rw [← hH]; exact Heap.get?_push_of_some _ ho
  have gS : H.get? s.heap.objs.size = some { cls := .type "list", data := .seq #[] } := by rw [← hH]; exact Heap.get?_push_size _ rfl
  have zH : H.objs.size = s.heap.objs.size + 1 := by rw [← hH, Heap.size_push]
  have ty : Shared.TypeIs { s with heap := H } (.ref a) "set" := ⟨o, ho1, hx.1⟩
  refine wpAny_bind (wpAny_typeOf ty ?_)
  have h1 : Builtin.List.listSameRef (.ref s.heap.objs.size) (.ref a) = false := by
    simp only [Builtin.List.listSameRef, beq_eq_false_iff_ne]; exact Nat.ne_of_gt la
  have h2 : (Value.type "set" == Value.type "list") = false := by decide
  have h3 : (Value.type "set" == Value.type "tuple") = false := by decide
  simp only [h1, h2, h3, Bool.or_false, Bool.false_eq_true, if_false]
  have hz := fits_of_scanBound hb
  have fin : ∀ (s1 s' : Shared) (I : Addr) (P : Nat → Value → Prop) (L : List (Int × Value)) (acc : Array Value) (c : Nat),
      (∀ b o, H.get? b = some o → s1.heap.get? b = some o) → s1.gens = s.gens → s1.os = s.os → s1.toks = s.toks → s.heap.objs.size < I →
      L.Perm es.toList → (∀ i v, P i v → ∃ e, L[i]? = some e ∧ v = e.2) →
      Moved (s.heap.objs.size :: [I]) (fun x y => x = y) s1 s' → ItemsOf P acc es.size → Q acc.toList s' := by
    intro s1 s' I P L acc c k0 k1 k2 k3 k4 pr hP mv ii
    have len : L.length = es.size := by rw [pr.length_eq, Array.length_toList]
    rw [← len] at ii
    rw [items_map ii hP]
    have hm2 : ∀ k, decide (k ∈ D) = true ↔ ∃ e ∈ L, (strKind prog w).is k e.2 = true := fun k =>
      (hm k).trans ⟨fun ⟨e, q, z⟩ => ⟨e, pr.mem_iff.mpr q, z⟩, fun ⟨e, q, z⟩ => ⟨e, pr.mem_iff.mp q, z⟩⟩
    obtain ⟨ks, t1, t2⟩ := texts_of (he.perm pr) nd hm2 (len.trans hn)
    refine h s' _ ks t1 t2 (fun b o' e => ?_) (mv.gens.symm.trans k1) (mv.os.trans k2) (k3 ▸ mv.toks)
    have lb := Heap.lt_size e
    refine mv.heap b o' (fun m => ?_) (k0 b o' (by rw [← hH]; exact Heap.get?_push_of_some _ e))
    rcases List.mem_cons.mp m with q | m
    · exact Nat.ne_of_lt lb q
    · exact Nat.ne_of_lt (Nat.lt_trans lb k4) (List.mem_singleton.mp m)
  have h4 : A.in1.handled = none := by simp [hh]
  let K : Value → Shared → Prop := fun v s' => wpAny (model prog w) A (match v with
    | .ref a => do
      match (← load a).data with
      | .seq xs _ => pure xs.toList
      | _ => unsupported "internal:collect"
    | _ => unsupported "internal:collect") Q E s'
  have aS : s.heap.objs.size ≠ a := Nat.ne_of_gt la
  have laH : a < H.objs.size := Heap.lt_size ho1
  refine wpAny_bind (setIter_ok ho1 hx hd hf hb ?_ ?_)
  · intro w1 w2 w3 ps d pr
    have len : ps.length = es.size := by simpa using pr.length_eq
    have gT : ((H.push { cls := .type "tuple", data := .seq (ps.map fun (i : Nat) => rawInt i).toArray }).push (setIterObj (.ref H.objs.size) 0 a es.size ep)).get? H.objs.size
        = some { cls := .type "tuple", data := .seq (ps.map fun (i : Nat) => rawInt i).toArray } := Heap.get?_push_of_some _ (Heap.get?_push_size _ rfl)
    have gI : ((H.push { cls := .type "tuple", data := .seq (ps.map fun (i : Nat) => rawInt i).toArray }).push (setIterObj (.ref H.objs.size) 0 a es.size ep)).get? (H.objs.size + 1)
        = some (setIterObj (.ref H.objs.size) 0 a es.size ep) := by
      have z2 : (H.push { cls := .type "tuple", data := .seq (ps.map fun (i : Nat) => rawInt i).toArray }).objs.size = H.objs.size + 1 := Heap.size_push ..
      rw [← z2]
      exact Heap.get?_push_size _ rfl
    have two : ∀ b o', H.get? b = some o' → ((H.push { cls := .type "tuple", data := .seq (ps.map fun (i : Nat) => rawInt i).toArray }).push (setIterObj (.ref H.objs.size) 0 a es.size ep)).get? b = some o' :=
      fun b o' e => Heap.get?_push_of_some _ (Heap.get?_push_of_some _ e)
    have W := walks_drawn (prog := prog) (w := w) (A := A.in1) h4 (I := H.objs.size + 1) (T := H.objs.size) (a := a) (o := o) (ps := ps) (nT := 0)
      (oT := { cls := .type "tuple", data := .seq (ps.map fun (i : Nat) => rawInt i).toArray }) hd hf rfl
      (Nat.ne_of_lt (Nat.lt_succ_of_lt laH)) (Nat.ne_of_lt (Nat.lt_succ_self _)) pr
    have out : s.heap.objs.size ∉ [H.objs.size + 1, a, H.objs.size] := by
      rw [zH]; intro m
      rcases List.mem_cons.mp m with q | m
      · exact Nat.ne_of_lt (Nat.lt_succ_of_lt (Nat.lt_succ_self _)) q
      · rcases List.mem_cons.mp m with q | m
        · exact aS q
        · exact Nat.ne_of_lt (Nat.lt_succ_self _) (List.mem_singleton.mp m)
    refine set_extend_tail (a := a) (R := wants K E) (b := _) W hz out ?_ (c := 0) ?_ ?_ ?_
    · exact ⟨⟨_, gI, rfl, rfl⟩, two _ _ ho1, gT⟩
    · exact two _ _ gS
    · exact ⟨o, two _ _ ho1, hx.1⟩
    intro s' acc c' mv g ii
    show wpAny _ _ (load _ >>= _) _ _ _
    refine wpAny_bind (wpAny_load g (wpAny_pure ?_))
    refine fin { s with heap := (H.push { cls := .type "tuple", data := .seq (ps.map fun (i : Nat) => rawInt i).toArray }).push (setIterObj (.ref H.objs.size) 0 a es.size ep), drawn := d } s' (H.objs.size + 1) _ (ps.map fun p => es.getD p default) acc c' two rfl rfl rfl (by rw [zH]; exact Nat.lt_succ_of_lt (Nat.lt_succ_self _)) ?_ ?_ mv ii
    · refine (pr.map _).trans ?_
      have : (List.range es.size).map (fun p => es.getD p default) = es.toList := by
        apply List.ext_getElem?
        intro i
        by_cases lt : i < es.size
        · simp [lt]
        · simp [lt]
      rw [this]
    · rintro i v ⟨p, e, hp', he', rfl⟩
      refine ⟨e, ?_, rfl⟩
      rw [List.getElem?_map, hp']
      obtain ⟨lt, q⟩ := Array.getElem?_eq_some_iff.mp he'
      simp [lt, q]
  · intro w1
    have gI : (H.push (setIterObj (.int 0 0) 0 a es.size ep)).get? H.objs.size = some (setIterObj (.int 0 0) 0 a es.size ep) := Heap.get?_push_size _ rfl
    have one : ∀ b o', H.get? b = some o' → (H.push (setIterObj (.int 0 0) 0 a es.size ep)).get? b = some o' := fun b o' e => Heap.get?_push_of_some _ e
    have out : s.heap.objs.size ∉ [H.objs.size, a] := by
      rw [zH]; intro m
      rcases List.mem_cons.mp m with q | m
      · exact Nat.ne_of_lt (Nat.lt_succ_self _) q
      · exact aS (List.mem_singleton.mp m)
    have lI : s.heap.objs.size < H.objs.size := by rw [zH]; exact Nat.lt_succ_self _
    cases hw : w.params.followText "set-order" with
    | true =>
      have W := walks_text (prog := prog) (A := A.in1) h4 hw (I := H.objs.size) (a := a) (o := o) hd hf (Nat.ne_of_lt laH)
      refine set_extend_tail (a := a) (R := wants K E) (b := _) W hz out ?_ (c := 0) ?_ ?_ ?_
      · exact ⟨⟨_, gI, rfl, rfl⟩, one _ _ ho1⟩
      · exact one _ _ gS
      · exact ⟨o, one _ _ ho1, hx.1⟩
      intro s' acc c' mv g ii
      show wpAny _ _ (load _ >>= _) _ _ _
      refine wpAny_bind (wpAny_load g (wpAny_pure ?_))
      refine fin { s with heap := H.push (setIterObj (.int 0 0) 0 a es.size ep) } s' H.objs.size _ (pickOrder (w.params.setOrder a ep) es).toList acc c' one rfl rfl rfl lI (pickOrder_perm _ _) ?_ mv ii
      rintro i v ⟨e, q, rfl⟩
      exact ⟨e, by rw [Array.getElem?_toList]; exact q, rfl⟩
    | false =>
      have small : es.size ≤ 1 := by
        rcases w1 with q | q | q
        · rw [hw] at q; cases q
        · by_cases z : es.size = 0
          · omega
          · rw [hp z] at q; cases q
        · exact q
      have W := walks_one (prog := prog) (A := A.in1) h4 hw (I := H.objs.size) (a := a) (o := o) hd hf small (hl.trans (by simp [ledHere, hw])) (Nat.ne_of_lt laH)
      refine set_extend_tail (a := a) (R := wants K E) (b := _) W hz out ?_ (c := 0) ?_ ?_ ?_
      · exact ⟨⟨_, gI, rfl, rfl⟩, one _ _ ho1⟩
      · exact one _ _ gS
      · exact ⟨o, one _ _ ho1, hx.1⟩
      intro s' acc c' mv g ii
      show wpAny _ _ (load _ >>= _) _ _ _
      refine wpAny_bind (wpAny_load g (wpAny_pure ?_))
      refine fin { s with heap := H.push (setIterObj (.int 0 0) 0 a es.size ep) } s' H.objs.size _ es.toList acc c' one rfl rfl rfl lI (.refl _) ?_ mv ii
      rintro i v ⟨e, q, rfl⟩
      exact ⟨e, by rw [Array.getElem?_toList]; exact q, rfl⟩
end
end PySem

end
section
set_option Elab.async false
set_option linter.all false
set_option maxRecDepth 100000
set_option maxHeartbeats 4000000
namespace PySem
open PyProof.Rows
section
variable {prog : Program} {w : World} {A : Around} {E : Value → Shared → Prop} {s : Shared}

theorem sorted_textSet {a : Addr} {D : List Str} {Q : Value → Shared → Prop} (hh : A.handled = none) (nd : D.Nodup) (h64 : D.length < 64)
    (T : TextSet prog w s.heap a D (ledHere w))
    (h : ∀ s' l vs ks e, StrsAre vs ks → ks.Perm D → sortedS ks = true → (∀ b o, s.heap.get? b = some o → s'.heap.get? b = some o ∧ b ≠ l) →
      s'.heap.get? l = some (seqObj "list" vs.toArray e) → s.heap.get? l = none → s'.gens = s.gens → s'.os = s.os → s.toks ≤ s'.toks → Q (.ref l) s') :
    wpAny (model prog w) A (call (.builtin "sorted") [.ref a]) Q E s := by
  refine Calls.call_function_entry kind_sorted plain_sorted entry_sorted (args_sorted1 _) ?_
  unfold Builtin.«sorted»
  refine wpAny_bind (m := checkCount "sorted" 1 1 _) (wpAny_pure ?_)
  refine wpAny_bind (collect_texts (by simpa using hh) nd T fun s1 vs ks t1 t2 k0 k1 k2 k3 => ?_)
  have v64 : vs.length < 64 := by rw [t1.length, t2.length_eq]; exact h64
  have fit : vs.length ≤ sizeLine := Nat.le_trans (Nat.le_of_lt v64) (by decide)
  refine wpAny_bind (wpAny_newList ?_ fit)
  have hS := Heap.get?_push_size (h := s1.heap) (o := seqObj "list" vs.toArray 0) rfl
  refine wpAny_bind (wpAny_holding (wpAny_call_entry slot_list_sort ⟨_, hS, rfl⟩ entry_list_sort
    (list_sort_treeK strKind_oneLt hS t1.keysOf (fun v₁ v₂ rest e => keyKind_strs (by rw [← e]; exact t1)) v64 fun st' a1 a2 => ⟨_, rfl, ?_⟩) (args_list_sort _)))
  obtain ⟨ks', u1, u2, u3⟩ := sorted_out_str t1 a1 a2
  refine wpAny_pure ⟨_, rfl, ?_⟩
  obtain ⟨e, ge⟩ := sortedHeap_at (out := (arrOf st').map (·.2)) hS
  refine h _ s1.heap.objs.size ((arrOf st').map (·.2)).toList ks' e u1 (u2.trans t2) u3 (fun b o q => ?_) ?_ ?_ k1 k2 k3
  · have lb := Heap.lt_size (k0 b o q)
    refine ⟨?_, Nat.ne_of_lt lb⟩
    refine (sortedHeap_old (Nat.ne_of_lt lb) ?_).trans (Heap.get?_push_of_some _ (k0 b o q))
    rw [Heap.size_push]; exact Nat.lt_succ_of_lt lb
  · exact ge
  · cases z : s.heap.get? s1.heap.objs.size with
    | none => rfl
    | some o => exact absurd (Heap.lt_size (k0 _ o z)) (Nat.lt_irrefl _)
end
end PySem

end
section
set_option Elab.async false
set_option linter.all false
set_option maxRecDepth 100000
set_option maxHeartbeats 4000000
namespace L2
open PySem PySem.Spec PyProof.Rows
/-- a set of texts at a -/
def tso (P : Program) (w : World) (a : Addr) (D : List Str) : HO := .ext fun h => TextSet P w h a D (ledHere w)
theorem tso_ok {P : Program} {w : World} {H : Hp} {h : Heap} {a : Addr} {D : List Str} (T : TextSet P w h a D (ledHere w)) : ObjOk P w H h a (tso P w a D) := by
  refine ⟨T, ?_, fun h1 h2 t k => TextSet.keep t k⟩
  obtain ⟨o, es, ep, t, ho, _⟩ := T
  exact ⟨o, ho⟩
theorem strs_of : ∀ {ss : List Str} {us : List Value}, Vals (ss.map V.str) us → StrsAre us ss
  | [], _, h => by cases h; exact .nil
  | s :: ss, _, h => by
    cases h with
    | cons h1 t =>
      obtain ⟨k, rfl⟩ := h1
      exact .cons s k (strs_of t)
theorem strs_to : ∀ {us : List Value} {ss : List Str}, StrsAre us ss → Vals (ss.map V.str) us
  | _, _, .nil => .nil
  | _, _, .cons y t r => .cons ⟨t, rfl⟩ (strs_to r)
theorem objOk_there {P : Program} {w : World} {H : Hp} {h : Heap} {a : Addr} {o : HO} (x : ObjOk P w H h a o) : ∃ u, h.get? a = some u := by
  cases o with
  | lst xs => obtain ⟨_, _, _, _, e⟩ := x; exact ⟨_, e⟩
  | tup xs => obtain ⟨_, _, _, _, e, _⟩ := x; exact ⟨_, e⟩
  | dK kvs => obtain ⟨_, _, _, _, _, _, _, e, _⟩ := x; exact ⟨_, e⟩
  | dT kvs => obtain ⟨_, _, _, _, _, _, _, e, _⟩ := x; exact ⟨_, e⟩
  | set S n => obtain ⟨_, _, _, _, e, _⟩ := x; exact ⟨_, e⟩
  | ins C dx fs => obtain ⟨_, _, _, e, _⟩ := x; exact ⟨_, e⟩
  | own y => obtain ⟨_, e⟩ := x; exact ⟨_, e⟩
  | xd fs => obtain ⟨_, ⟨_, _, _, e, _⟩, _⟩ := x; exact ⟨_, e⟩
  | rng lo hi => obtain ⟨_, _, _, e⟩ := x; exact ⟨_, e⟩
  | frz ob u => obtain ⟨e, _⟩ := x; exact ⟨_, e⟩
  | tbl ps => exact ⟨_, show h.get? a = some _ from x⟩
  | met f y => exact ⟨_, show h.get? a = some _ from x⟩
  | ext φ => obtain ⟨_, ⟨_, e⟩, _⟩ := x; exact ⟨_, e⟩
section
variable {X : Cx}
/-- set(list of texts) -/
theorem call_setT (hc : X.calm = true) : CallR X (.type "set") (fun xs H Q => ∃ p ss, xs = [.ref p] ∧ SqL X.K H p ((ss : List Str).map V.str) ∧ ss.length + 1 < scanBound ∧ ∀ d, H d = none → Q (.ref d) (upd H d (tso X.prog X.w d (metAll ss)))) := by
  intro pins s σ H xs us Q I r h
  obtain ⟨p, ss, rfl, hp, hb, q⟩ := h
  obtain ⟨u, rfl, ru⟩ := vals1 r
  cases ru
  obtain ⟨its, r1, pl, hz⟩ := I.list hp
  refine call_set_texts (ss := ss) (I.ok.hd hc) pl.isList (by simpa using strs_of r1) hb fun h' tk T ht hk => ?_
  exact ⟨.ref _, _, I.laid (t' := tk) hk (Nat.le_refl _) (tso_ok T), rfl, q _ I.fresh⟩
/-- sorted(set of texts) -/
theorem call_sortedT (hc : X.calm = true) : CallR X (.builtin "sorted") (fun xs H Q => ∃ a D, xs = [.ref a] ∧ H a = some (tso X.prog X.w a D) ∧ D.Nodup ∧ D.length < 64 ∧ ∀ l ks, H l = none → ks.Perm D → sortedS ks = true → Q (.ref l) (upd H l (.lst ((ks : List Str).map V.str)))) := by
  intro pins s σ H xs us Q I r h
  obtain ⟨a, D, rfl, ha, nd, h64, q⟩ := h
  obtain ⟨u, rfl, ru⟩ := vals1 r
  cases ru
  obtain ⟨T, -, -⟩ := (show ObjOk X.prog X.w H s.heap a (tso X.prog X.w a D) from I.hok a _ ha)
  refine sorted_textSet (I.ok.hd hc) nd h64 T fun s' l vs ks e t1 t2 t3 hk hl hn hg ho ht => ?_
  have hz : (ks.map V.str).length ≤ sizeLine := by
    rw [List.length_map, t2.length_eq]; exact Nat.le_trans (Nat.le_of_lt h64) (by decide)
  have k : ∀ b u, s.heap.get? b = some u → s'.heap.get? b = some u := fun b u e => (hk b u e).1
  have hHl : H l = none := by
    cases z : H l with
    | none => rfl
    | some o =>
      obtain ⟨u, hu⟩ := objOk_there (I.hok l o z)
      exact absurd rfl (hk l u hu).2
  have un : Un (frs X.stack) [] H (upd H l (.lst (ks.map V.str))) s.heap s'.heap := by
    refine ⟨fun b u z _ _ _ => k b u z, fun b u z _ _ _ => ⟨u.slots, k b u z⟩, fun b u z n _ => ?_, fun b u z _ => ⟨u, k b u z⟩, fun b ys z => ?_, fun b u ys z => ?_, fun b ps z => ⟨#[], ?_⟩⟩
    · rw [upd_ne (hk b u z).2]; exact n
    · rw [upd_ne (ne_of_none z hHl)]; exact z
    · rw [upd_ne (ne_of_none z hHl)]; exact z
    · rw [upd_ne (ne_of_none z hHl), z]; simp
  have hok : HOk X.prog X.w (upd H l (.lst (ks.map V.str))) s'.heap := fun b u e' => by
    by_cases hb : b = l
    · subst hb; rw [upd_same] at e'; cases e'
      exact ⟨hz, vs, e, strs_to t1, hl⟩
    · rw [upd_ne hb] at e'
      exact (I.hok b u e').stay (fun c v _ q => k c v q) (fun c q => by rw [upd_ne (ne_of_none q hHl)]; exact q) fun c xs q => by rw [upd_ne (ne_of_none q hHl)]; exact q
  exact ⟨.ref l, _, I.call' ho un hok (by rw [hg]; exact I.bare) (fun b z => absurd z (by simp)), rfl, q l ks hHl t2 t3⟩
end
end L2

end
section
set_option Elab.async false
set_option linter.all false
set_option maxRecDepth 100000
set_option maxHeartbeats 4000000
namespace L2
open PySem PySem.Spec PyProof.Rows
/-- a method that may raise, called where it does not -/
theorem MHas.never {P : Program} {w : World} {K : PySem.W.Frag} {mg : Str → Option Value} {base : Heap} {k : Nat} {C : Addr} {m : Str} {ps : List Str} {sp : Sp} (G : MHas P w K mg base (CX1 P w) k C m ps sp) : MHas P w K mg base CX0 k C m ps (fun vs H Q _ => sp vs H Q E0) := by
  obtain ⟨f, fd, F, hm, hb⟩ := G
  refine ⟨f, fd, ⟨fun vs H Q E h => F.len vs H Q E0 h, fun A outer s H args us vs Q E hr he hb hv hs => codeAny_mono (F.run A outer s H args us vs Q E0 hr he hb hv hs) fun r s' h => ?_⟩, hm, hb⟩
  cases r with
  | error e =>
    obtain ⟨_, _, _, _, _, _, _, _, _, _, _, _, _, z⟩ := h
    exact z
  | ok fl => cases fl <;> exact h
section
variable {X : Cx}
theorem PS.nox {st : Stmt} {t : TS} (h : PS X.nox st t) : PS X st t := fun pins s σ H D I hw =>
  wpAny_mono (h pins s σ H D (I.wish _) hw) (fun _ _ q => q.unwish) fun _ _ z => False.elim z
end
end L2

end
section
set_option Elab.async false
set_option linter.all false
set_option maxRecDepth 100000
set_option maxHeartbeats 4000000
namespace L2
open PySem PySem.Spec PyProof.Rows
section
variable {X : Cx}
/-- one of the frame's names was written: nothing is known of it any more -/
theorem Inv.gone {pins : List (Addr × Obj)} {σ : St} {H : Hp} {s : Shared} {h' : Heap} {m : Str → Option Value} {u0 : Option Value} {t' i : Nat} {n : Str} (I : Inv X pins σ H s) (hN : X.N.Nodup) (hi : X.N[i]? = some n) (h0 : s.heap.Ns X.env.locals m)
    (hm : ∀ (i : Nat) (x : Str) (v : V), X.N[i]? = some x → σ[i]? = some (some v) → Vis X.env.scope x → ∃ u, RelV v u ∧ Look X.env s.heap m x u)
    (hn : h'.Ns X.env.locals (fun x => if x = n then u0 else m x)) (hs : Heap.SameBut X.env.locals s.heap h') :
    Inv X pins (σ.set i none) H { s with heap := h', toks := t' } := by
  have old : ∀ b o, X.s₀.heap.get? b = some o → b ≠ X.env.locals := fun b o e => Nat.ne_of_lt (Nat.lt_of_lt_of_le (Heap.lt_size e) I.ok.above)
  refine ⟨I.ok, I.os, I.bare, ⟨fun b o e n hb hx => ?_, fun b o e n hb hx => ?_, I.base.free, fun b o e hx => ?_, I.base.tups, I.base.frzs, I.base.tbls⟩, ⟨_, hn, fun j y v e1 e2 vis => ?_⟩, fun y c e => ?_, I.free, I.freeC, fun p hp => ?_, fun b ob e => ?_, by rw [List.length_set]; exact I.len⟩
  · rw [hs.2 b (old b o e)]
    exact I.base.keep b o e n hb hx
  · obtain ⟨sl, q⟩ := I.base.slot b o e n hb hx
    exact ⟨sl, by rw [hs.2 b (old b o e)]; exact q⟩
  · obtain ⟨o2, q⟩ := I.base.there b o e hx
    exact ⟨o2, by rw [hs.2 b (old b o e)]; exact q⟩
  · by_cases hji : j = i
    · subst hji
      rw [List.getElem?_set] at e2
      simp only [if_true] at e2
      split at e2
      · cases e2
      · cases e2
    · rw [List.getElem?_set_ne (Ne.symm hji)] at e2
      have hyn : y ≠ n := fun z => by
        subst z
        have hjl := (List.getElem?_eq_some_iff.mp e1).1
        exact hji ((List.getElem?_inj hjl hN).mp (e1.trans hi.symm))
      obtain ⟨u, ru, lk⟩ := hm j y v e1 e2 vis
      refine ⟨u, ru, ?_⟩
      rcases lk with ⟨k1, k2⟩ | ⟨k1, c, k2, k3⟩
      · exact .inl ⟨k1, by show (if y = n then u0 else m y) = some u; rw [if_neg hyn]; exact k2⟩
      · exact .inr ⟨k1, c, k2, k3.sameBut hs (I.cne y c k2)⟩
  · obtain ⟨u, z⟩ := I.cell y c e
    exact ⟨u, z.sameBut hs (I.cne y c e)⟩
  · obtain ⟨a1, a2, a3, a4⟩ := I.pin p hp
    exact ⟨by rw [hs.2 p.1 a3]; exact a1, a2, a3, a4⟩
  · have hf := I.free
    refine (I.hok b ob e).stay (fun c u hc q => ?_) (fun _ q => q) fun _ _ q => q
    have ne : c ≠ X.env.locals := by
      rintro rfl
      rcases hc with hc | hc
      · rw [hc] at hf
        rw [hf] at e
        cases e
      · rw [hf] at hc
        cases hc
    rw [hs.2 c ne]
    exact q
def hAsN (K : PySem.W.Frag) (D : Addr) (i : Nat) (tb : TS) (th : TH) : TH := fun cls En σ H =>
  ∃ b, PySem.W.subIn K cls (.ref D) = some b ∧ if b = true then (∀ x C, cls = .ref C → H x = none → tb { nx := fun σ' H' => En.nx (σ'.set i none) H', rt := En.rt } (σ.set i (some (.ref x))) (upd H x (exo x C))) else th cls En σ H
/-- except D as n: the suite returns or ends -/
theorem ph_asN {cn n : Str} {i : Nat} {D : Addr} {b0 : Stmt} {suite : List Stmt} {rest : List ExceptHandler} {np hpos : Pos} {tb : TS} {th : TH} {bmB : List Value} {nid : String} (hg : Gl X cn) (hm : X.mg cn = some (.ref D)) (ex : PySem.W.excIn X.K D bmB nid = true) (hb : bmB.contains (.type "BaseException") = true)
    (hN : X.N.Nodup) (hi : X.N[i]? = some n) (hl : X.env.scope.names.lookup n = some .local) (hst : X.stack = X.env :: X.outer) (hfr : X.env.frame = some X.env.locals)
    (hs : ∀ ev, PSs (cxMark X ev) (b0 :: suite) tb) (hr : PH X rest th) (hdb : (cn == ("__debug__" : Str)) = false := by decide) : PH X (.ExceptHandler (some (.Name cn np)) (some n) (b0 :: suite) hpos :: rest) (hAsN X.K D i tb th) := by
  intro pins s σ H En x C t B F h
  obtain ⟨b, sb, h⟩ := h
  have I := F.inv
  obtain ⟨oe, hoe, hcl⟩ := F.fly.there
  refine wpAny_handleBy_cons (codeAny_handlers_test (ld_glob (X := cxMark X (.ref x)) (I.mark _) hg hm ?_ hdb)) (by intro q; cases q)
  refine exc_match I.kIn hoe hcl ex hb sb ?_
  cases b with
  | false => exact hr pins s σ H En x C t B F h
  | true =>
    refine codeAny_handlers_suite_as (lands_againW F.fly fun h2 fl2 up2 => ?_)
    have F2 := F.on fl2 up2
    obtain ⟨oe2, hoe2, hcl2⟩ := F2.fly.there
    have hx0 : H x = none := by
      cases e : H x with
      | none => rfl
      | some u =>
        obtain ⟨o, q⟩ := F.tr x u e
        have z := F.fly.2.1
        rw [q] at z
        cases z
    have hmine : ¬ Mine X pins x := fun hm => by
      rcases F.mine x hm with z | ⟨o, z⟩
      · obtain ⟨_, _, _, oe3, vs, _, _, _, q1, _, q3, _⟩ := F.fly
        obtain ⟨_, o2, e2, d2⟩ := I.stack.mem z
        rw [q1] at e2
        cases e2
        exact d2 vs q3
      · have q := F.fly.2.1
        rw [z] at q
        cases q
    have ok : ObjOk X.prog X.w (upd H x (exo x C)) h2 x (exo x C) := ⟨⟨oe2, hoe2, hcl2⟩, ⟨oe2, hoe2⟩, fun h3 h4 ⟨o, q1, q2⟩ k => ⟨o, k o q1, q2⟩⟩
    have I2 := F2.inv.also hx0 hmine ok
    have body := h x C rfl hx0
    refine store_ok (X := cxMark X (.ref x)) (I2.mark _) hN hi (.inl hl) (v := .ref x) rfl (fun s3 I3 => ?_) (.inr hl)
    refine wpAny_mono (hs (.ref x) pins _ _ _ _ I3 body) (fun f s4 q => ?_) fun _ _ z => z.elim
    have hk : (X.env.scope.kind == .class || (X.env.scope.kind == .module && X.env.locals != X.env.globals)) = false := by
      rw [I.ok.kind]
      rfl
    cases f with
    | next =>
      obtain ⟨σ2, H2, I4, z⟩ := q
      have I5 := I4.unmark I.ok
      obtain ⟨m, hn, hm5⟩ := id I5.loc
      exact wpAny_nameGoes_keeps hl hn hk fun h5 v5 hn5 hs5 => ⟨_, H2, I5.gone hN hi hn hm5 hn5 hs5, z⟩
    | brk => obtain ⟨_, _, _, z⟩ := q; exact z.elim
    | cont => obtain ⟨_, _, _, z⟩ := q; exact z.elim
    | ret u =>
      obtain ⟨v, σ2, H2, I4, rv, z⟩ := q
      have I5 := I4.unmark I.ok
      obtain ⟨m, hn, _⟩ := id I5.loc
      exact wpAny_nameGoes hl hn hk fun h5 m5 hn5 hs5 => ⟨v, _, H2, I5.blank hn5 hs5, rv, z⟩
end
section
variable {X : Cx} {sc : Scope} {x y2 : Str} {cap : List Str} {js : List Nat} {tg elt iter : Expr} {ifs : List Expr} {g2 : TG} {tc : TT} {te : TE} {pos : Pos}
/-- y = [elt for x, y2 in iter if ..] -/
theorem ps_setcomp2 {wi : TI} {i : Nat} {y : Str} {py spos : Pos} (hcalm : X.calm = true) (S : CompScope2 X sc x y2 cap js) (hgt : ∀ s H C fp, PG (cxComp X sc (x :: y2 :: cap) s H C fp) tg g2) (hN : X.N.Nodup) (hi' : X.N[i]? = some y) (hx : Loc X.env.scope y) (hi : PI X tg iter wi) (hc : ∀ s H C fp, PIf (cxComp X sc (x :: y2 :: cap) s H C fp) ifs tc) (he : ∀ s H C fp, PE (cxComp X sc (x :: y2 :: cap) s H C fp) elt te)
    (hsw : swapsWith (.ListComp elt [⟨tg, iter, ifs, 0⟩] sc pos) (some (.Name y py)) spos.line X.env = pure true := by rfl) (hs : ∀ x, foldedSetIterable iter X.env x = pure x := by intro _; rfl)
    (hf : X.fn y = true ∨ X.env.scope.names.lookup y = some .local := by first | exact .inl rfl | exact .inr rfl | assumption) : PS X (.Assign [.Name y py] (.ListComp elt [⟨tg, iter, ifs, 0⟩] sc pos) spos) (tAsg (tComp2 wi g2 tc te js) (gName i)) := by
  intro pins s σ H D I h
  rw [exec_Assign_Name_used _ _ _ _ hsw]
  refine wpAny_bind (wpAny_standAt (wpAny_bind ?_))
  show wpAny _ X.A (do let _ ← comprehension (.ListComp elt [⟨tg, iter, ifs, 0⟩] sc pos) sc X.env _ (newList []) false (eval iter X.env) (some (assign (.Name y py) X.env))) _ _ s
  refine wpAny_bind (wpAny_mono (wpAny_comprehension_free (use := some (assign (.Name y py) X.env)) (Q := fun _ s' => SP X pins D .next s') rfl hs (closure_eq (S.cells I)) S.kind S.names (thn (hi pins s σ H _ I h) fun v s1 h1 => thn h1 fun itv s2 h2 => ?_)) (fun _ s' hq => wpAny_pure (wpAny_pure hq)) fun _ _ e => e)
  obtain ⟨it, fp, tn, J, H2, e, I2, T, st2, f2, go⟩ := h2
  subst e
  refine comp_block2 S hgt hcalm hc he I2 T st2 f2 go fun D' C HB sB σB acc its n hD hC hDC IB hHD hd rv hz q => ?_
  obtain ⟨m, hn, _⟩ := IB.loc
  have IE : Inv X pins σ (upd HB D' (.lst acc)) sB := comp_end (hB := sB.heap) (sc := sc) (x := x) (cap := y2 :: cap) I2 f2 IB hC hD hDC hHD hd rv hz fun b o hb e => e
  refine wpAny_assign_Name (store_ok2 IE hN hi' hx (v := .ref D') rfl (fun s3 I3 hsb => ?_) hf)
  obtain ⟨a, sba, ha⟩ := hsb
  have aC : C ≠ a := by
    rcases ha with z | z
    · rw [z]; exact Nat.ne_of_gt (Nat.lt_of_lt_of_le I2.lt hC)
    · obtain ⟨v, o, ho, _⟩ := I2.cell y a z
      exact Nat.ne_of_gt (Nat.lt_of_lt_of_le (Heap.lt_size ho) hC)
  refine ⟨m, hn.sameBut sba aC, fun h' sb => ?_⟩
  refine ⟨σ.set i (some (.ref D')), upd HB D' (.lst acc), I3.turned (it := C) (t' := s3.toks) (fun b o hb e => sb.extBut b o hb e) (by rw [upd_ne (Ne.symm hDC)]; exact IB.free) (Nat.ne_of_gt (Nat.lt_of_lt_of_le I2.lt hC)) (.inr (Nat.le_trans I2.sz hC)) (fun y' c e => ?_) (fun p hp => ?_), q D' hHD⟩
  · obtain ⟨v, o, ho, _⟩ := I2.cell y' c e
    exact Nat.ne_of_lt (Nat.lt_of_lt_of_le (Heap.lt_size ho) hC)
  · exact Nat.ne_of_lt (Nat.lt_of_lt_of_le (Heap.lt_size (I2.pin p hp).1) hC)
end
end L2

end
set_option Elab.async false
set_option linter.all false
set_option maxRecDepth 100000
set_option maxHeartbeats 4000000
namespace Fg
open PySem L2
local macro_rules | `(tactic| walk_at "rd") => `(tactic| simp only [cxOf, L2.start, tSeq, tNext, tAsg, tBM, tBM0, gName, gSub, gNil, gCons, tRet, tRetN, tIfS, tDrop, tOp, tUn, tSl, tPart, tNoPart, tNever, tIsN, tCB, tCons, tNil, tTup, tLst, tVar, tC, tTest, tB, tAnd, tOr, tNot, tAndV, tOrV, tNotV, tIf, tChain, tCall, tFld, sFld, tMeth, tMethX, tMake, tRaise, tTry, hCons, hAs, hAsN, clsV, hNever, gTup, tFor_def, iRng1_def, iRng2_def, iList, iStr, iTup, tComp_def, tComp2_def, iEnum_def, tIfX, tYes, capt, rI, rI0, rU, rEq, rNe, tyV, scal,
  Option.join_some, List.map_cons, List.map_nil, List.cons_append, List.nil_append, List.append_nil, List.replicate, List.length_cons, List.length_nil, Nat.reduceAdd, Nat.reduceSub, List.getElem?_cons_zero, List.getElem?_cons_succ, List.set_cons_zero, List.set_cons_succ,
  Option.some.injEq, V.str.injEq, V.int.injEq, V.bl.injEq, V.ref.injEq, V.ty.injEq, List.cons.injEq, exists_eq_left', exists_eq_left, exists_and_left, and_true, true_and, reduceCtorEq, if_true, if_false])
def top (i : Nat) : Stmt := PySem.Challenge.pw_fencegate_k10_council_second.main.body.getD i (.Pass ⟨0, 0, 0, 0⟩)
abbrev s_within : Stmt := top 9
abbrev s_on_line : Stmt := top 10
abbrev s_in_way : Stmt := top 11
abbrev s_Keeper___init__ : Stmt := inClass (top 13) 0
abbrev s_Keeper_fall : Stmt := inClass (top 13) 1
abbrev s_Keeper_rise : Stmt := inClass (top 13) 2
abbrev s_Keeper_live : Stmt := inClass (top 13) 3
abbrev s_Keeper_names_in_way : Stmt := inClass (top 13) 4
abbrev s_Keeper_says_free : Stmt := inClass (top 13) 5
abbrev s_Keeper_take : Stmt := inClass (top 13) 6
abbrev s_Council___init__ : Stmt := inClass (top 15) 0
abbrev s_Council_keeper_at : Stmt := inClass (top 15) 1
abbrev s_Council_up_keepers : Stmt := inClass (top 15) 2
abbrev s_Council_fall : Stmt := inClass (top 15) 3
abbrev s_Council_rise : Stmt := inClass (top 15) 4
abbrev s_Council_notes : Stmt := inClass (top 15) 6
abbrev s_Council_sayers : Stmt := inClass (top 15) 7
abbrev s_Council_give : Stmt := inClass (top 15) 8
abbrev s__law_at : Stmt := top 17
abbrev s__law_same : Stmt := top 18
abbrev s__law_name : Stmt := top 19
abbrev s__law_names : Stmt := top 20
abbrev s__law_line : Stmt := top 21
abbrev s__law_way : Stmt := top 22
abbrev s__law_given : Stmt := top 23
abbrev s__law_stand : Stmt := top 24
abbrev s__law_noted : Stmt := top 25
abbrev s_law : Stmt := top 26
structure Txt (K : PySem.W.Frag) (mg : Str → Option Value) (C_Council C_Down C_GateError C_InTheWay C_Keeper C_NotFree C_OldNumber C_UnknownKeeper : Addr) : Prop where
  z : True
  b_ValueError : mg "ValueError" = none
  b_all : mg "all" = none
  b_bool : mg "bool" = none
  b_enumerate : mg "enumerate" = none
  b_int : mg "int" = none
  b_isinstance : mg "isinstance" = none
  b_len : mg "len" = none
  b_list : mg "list" = none
  b_max : mg "max" = none
  b_min : mg "min" = none
  b_range : mg "range" = none
  b_set : mg "set" = none
  b_sorted : mg "sorted" = none
  b_str : mg "str" = none
  b_tuple : mg "tuple" = none
  g_Council : mg "Council" = some (.ref C_Council)
  g_Down : mg "Down" = some (.ref C_Down)
  g_GateError : mg "GateError" = some (.ref C_GateError)
  g_InTheWay : mg "InTheWay" = some (.ref C_InTheWay)
  g_Keeper : mg "Keeper" = some (.ref C_Keeper)
  g_NotFree : mg "NotFree" = some (.ref C_NotFree)
  g_OldNumber : mg "OldNumber" = some (.ref C_OldNumber)
  g_UnknownKeeper : mg "UnknownKeeper" = some (.ref C_UnknownKeeper)
  pg_Council : PySem.W.plainGet K C_Council Str.empty = true
  hd_Council : PySem.W.hasDictIn K C_Council = true
  po_Council : PySem.W.plainOver K C_Council = true
  sa_Council : PySem.W.findIn K (.ref C_Council) "__setattr__" = some (some (.builtin "object.__setattr__"))
  n_Council_keepers : NoAttr K C_Council "keepers"
  n_Council_most : NoAttr K C_Council "most"
  pg_Keeper : PySem.W.plainGet K C_Keeper Str.empty = true
  hd_Keeper : PySem.W.hasDictIn K C_Keeper = true
  po_Keeper : PySem.W.plainOver K C_Keeper = true
  sa_Keeper : PySem.W.findIn K (.ref C_Keeper) "__setattr__" = some (some (.builtin "object.__setattr__"))
  n_Keeper_up : NoAttr K C_Keeper "up"
  n_Keeper_top : NoAttr K C_Keeper "top"
  n_Keeper_kept : NoAttr K C_Keeper "kept"
  x_Down : PySem.W.excIn K C_Down [.type "ValueError", .type "Exception", .type "BaseException", .type "object"] "ValueError.__new__" = true
  x_GateError : PySem.W.excIn K C_GateError [.type "ValueError", .type "Exception", .type "BaseException", .type "object"] "ValueError.__new__" = true
  x_InTheWay : PySem.W.excIn K C_InTheWay [.type "ValueError", .type "Exception", .type "BaseException", .type "object"] "ValueError.__new__" = true
  x_NotFree : PySem.W.excIn K C_NotFree [.type "ValueError", .type "Exception", .type "BaseException", .type "object"] "ValueError.__new__" = true
  x_OldNumber : PySem.W.excIn K C_OldNumber [.type "ValueError", .type "Exception", .type "BaseException", .type "object"] "ValueError.__new__" = true
  x_UnknownKeeper : PySem.W.excIn K C_UnknownKeeper [.type "ValueError", .type "Exception", .type "BaseException", .type "object"] "ValueError.__new__" = true
  sb_Down_GateError : PySem.W.subIn K (.ref C_Down) (.ref C_GateError) = some true
  sb_InTheWay_GateError : PySem.W.subIn K (.ref C_InTheWay) (.ref C_GateError) = some true
  sb_NotFree_GateError : PySem.W.subIn K (.ref C_NotFree) (.ref C_GateError) = some true
  sb_OldNumber_GateError : PySem.W.subIn K (.ref C_OldNumber) (.ref C_GateError) = some true
  sb_UnknownKeeper_GateError : PySem.W.subIn K (.ref C_UnknownKeeper) (.ref C_GateError) = some true
  ec_NotFree : PySem.W.ErrCls K C_NotFree
  ko_NotFree_NotFree : PySem.W.kitOne K (.ref C_NotFree) (.ref C_NotFree) = some true
  ko_NotFree_ValueError : PySem.W.kitOne K (.ref C_NotFree) (.type "ValueError") = some true
theorem Txt.cl_Council {K : PySem.W.Frag} {mg : Str → Option Value} {C_Council C_Down C_GateError C_InTheWay C_Keeper C_NotFree C_OldNumber C_UnknownKeeper : Addr} (T : Txt K mg C_Council C_Down C_GateError C_InTheWay C_Keeper C_NotFree C_OldNumber C_UnknownKeeper) : Cls K C_Council := ⟨T.pg_Council, T.hd_Council, T.po_Council, T.sa_Council⟩
theorem Txt.cl_Keeper {K : PySem.W.Frag} {mg : Str → Option Value} {C_Council C_Down C_GateError C_InTheWay C_Keeper C_NotFree C_OldNumber C_UnknownKeeper : Addr} (T : Txt K mg C_Council C_Down C_GateError C_InTheWay C_Keeper C_NotFree C_OldNumber C_UnknownKeeper) : Cls K C_Keeper := ⟨T.pg_Keeper, T.hd_Keeper, T.po_Keeper, T.sa_Keeper⟩
theorem sc_within : FnScope ["inner", "outer", "outer_names"] ["inner", "outer"] (defScope s_within) := ⟨rfl, rfl, rfl, by decide +kernel, rfl, by decide +kernel, by decide +kernel⟩
theorem sc_on_line : FnScope ["one", "other"] ["one", "other"] (defScope s_on_line) := ⟨rfl, rfl, rfl, by decide +kernel, rfl, by decide +kernel, by decide +kernel⟩
theorem sc_in_way : FnScope ["lock", "shared", "other", "other_shared"] ["lock", "shared", "other", "other_shared"] (defScope s_in_way) := ⟨rfl, rfl, rfl, by decide +kernel, rfl, by decide +kernel, by decide +kernel⟩
theorem sc_Keeper___init__ : FnScope ["self"] ["self"] (defScope s_Keeper___init__) := ⟨rfl, rfl, rfl, by decide +kernel, rfl, by decide +kernel, by decide +kernel⟩
theorem sc_Keeper_fall : FnScope ["self"] ["self"] (defScope s_Keeper_fall) := ⟨rfl, rfl, rfl, by decide +kernel, rfl, by decide +kernel, by decide +kernel⟩
theorem sc_Keeper_rise : FnScope ["self"] ["self"] (defScope s_Keeper_rise) := ⟨rfl, rfl, rfl, by decide +kernel, rfl, by decide +kernel, by decide +kernel⟩
theorem sc_Keeper_live : FnScope ["self", "tick"] ["self", "tick"] (defScope s_Keeper_live) := ⟨rfl, rfl, rfl, by decide +kernel, rfl, by decide +kernel, by decide +kernel⟩
theorem sc_Keeper_names_in_way : FnScope ["self", "holder", "lock", "shared", "tick", "others"] ["self", "holder", "lock", "shared", "tick"] (defScope s_Keeper_names_in_way) := ⟨rfl, rfl, rfl, by decide +kernel, rfl, by decide +kernel, by decide +kernel⟩
theorem sc_Keeper_says_free : FnScope ["self", "holder", "lock", "shared", "tick"] ["self", "holder", "lock", "shared", "tick"] (defScope s_Keeper_says_free) := ⟨rfl, rfl, rfl, by decide +kernel, rfl, by decide +kernel, by decide +kernel⟩
theorem sc_Keeper_take : FnScope ["self", "number", "holder", "lock", "shared", "tick", "time", "others"] ["self", "number", "holder", "lock", "shared", "tick", "time"] (defScope s_Keeper_take) := ⟨rfl, rfl, rfl, by decide +kernel, rfl, by decide +kernel, by decide +kernel⟩
theorem sc_Council___init__ : FnScope ["self", "many"] ["self", "many"] (defScope s_Council___init__) := ⟨rfl, rfl, rfl, by decide +kernel, rfl, by decide +kernel, by decide +kernel⟩
theorem sc_Council_keeper_at : FnScope ["self", "place"] ["self", "place"] (defScope s_Council_keeper_at) := ⟨rfl, rfl, rfl, by decide +kernel, rfl, by decide +kernel, by decide +kernel⟩
theorem sc_Council_up_keepers : FnScope ["self"] ["self"] (defScope s_Council_up_keepers) := ⟨rfl, rfl, rfl, by decide +kernel, rfl, by decide +kernel, by decide +kernel⟩
theorem sc_Council_fall : FnScope ["self", "keeper", "chosen", "was_up"] ["self", "keeper"] (defScope s_Council_fall) := ⟨rfl, rfl, rfl, by decide +kernel, rfl, by decide +kernel, by decide +kernel⟩
theorem sc_Council_rise : FnScope ["self", "keeper", "chosen", "was_up"] ["self", "keeper"] (defScope s_Council_rise) := ⟨rfl, rfl, rfl, by decide +kernel, rfl, by decide +kernel, by decide +kernel⟩
theorem sc_Council_notes : FnScope ["self", "keeper", "tick"] ["self", "keeper", "tick"] (defScope s_Council_notes) := ⟨rfl, rfl, rfl, by decide +kernel, rfl, by decide +kernel, by decide +kernel⟩
theorem sc_Council_sayers : FnScope ["self", "holder", "lock", "shared", "tick"] ["self", "holder", "lock", "shared", "tick"] (defScope s_Council_sayers) := ⟨rfl, rfl, rfl, by decide +kernel, rfl, by decide +kernel, by decide +kernel⟩
theorem sc_Council_give : FnScope ["self", "holder", "lock", "shared", "tick", "time", "sayers", "number", "place"] ["self", "holder", "lock", "shared", "tick", "time"] (defScope s_Council_give) := ⟨rfl, rfl, rfl, by decide +kernel, rfl, by decide +kernel, by decide +kernel⟩
theorem sc__law_at : FnScope ["_law_script", "_law_k"] ["_law_script", "_law_k"] (defScope s__law_at) := ⟨rfl, rfl, rfl, by decide +kernel, rfl, by decide +kernel, by decide +kernel⟩
theorem sc__law_same : FnScope ["_law_found", "_law_due"] ["_law_found", "_law_due"] (defScope s__law_same) := ⟨rfl, rfl, rfl, by decide +kernel, rfl, by decide +kernel, by decide +kernel⟩
theorem sc__law_name : FnScope ["_law_cell", "_law_k", "_law_signs", "_law_rest", "_law_many", "_law_spot", "_law_made", "_law_j", "_law_place"] ["_law_cell", "_law_k"] (defScope s__law_name) := ⟨rfl, rfl, rfl, by decide +kernel, rfl, by decide +kernel, by decide +kernel⟩
theorem sc__law_names : FnScope ["_law_cell", "_law_many"] ["_law_cell", "_law_many"] (defScope s__law_names) := ⟨rfl, rfl, rfl, by decide +kernel, rfl, by decide +kernel, by decide +kernel⟩
theorem sc__law_line : FnScope ["_law_one", "_law_other", "_law_first", "_law_second", "_law_many"] ["_law_one", "_law_other"] (defScope s__law_line) := ⟨rfl, rfl, rfl, by decide +kernel, rfl, by decide +kernel, by decide +kernel⟩
theorem sc__law_way : FnScope ["_law_lock", "_law_shared", "_law_other", "_law_other_shared"] ["_law_lock", "_law_shared", "_law_other", "_law_other_shared"] (defScope s__law_way) := ⟨rfl, rfl, rfl, by decide +kernel, rfl, by decide +kernel, by decide +kernel⟩
theorem sc__law_given : FnScope ["_law_council", "_law_asking", "_law_tick", "e", "_law_right"] ["_law_council", "_law_asking", "_law_tick"] (defScope s__law_given) := ⟨rfl, rfl, rfl, by decide +kernel, rfl, by decide +kernel, by decide +kernel⟩
theorem sc__law_stand : FnScope ["_law_council", "_law_keepers", "_law_cell", "_law_ups", "_law_k"] ["_law_council", "_law_keepers", "_law_cell"] (defScope s__law_stand) := ⟨rfl, rfl, rfl, by decide +kernel, rfl, by decide +kernel, by decide +kernel⟩
theorem sc__law_noted : FnScope ["_law_council", "_law_keepers", "_law_tick", "_law_rows", "_law_k", "_law_due"] ["_law_council", "_law_keepers", "_law_tick", "_law_rows"] (defScope s__law_noted) := ⟨rfl, rfl, rfl, by decide +kernel, rfl, by decide +kernel, by decide +kernel⟩
theorem sc_law : FnScope ["_law_script", "_law_keepers", "_law_names_here", "_law_locks", "_law_time", "_law_council", "_law_ups", "_law_first", "_law_rows", "_law_found", "_law_due", "_law_cell", "_law_tick", "_law_lock", "_law_second", "_law_by"] ["_law_script"] (defScope s_law) := ⟨rfl, rfl, rfl, by decide +kernel, rfl, by decide +kernel, by decide +kernel⟩
variable {C_Council C_Down C_GateError C_InTheWay C_Keeper C_NotFree C_OldNumber C_UnknownKeeper : Addr}
section
variable {P : Program} {w : World} {K : PySem.W.Frag} {mg : Str → Option Value} {base : Heap}
/-- the names of a path -/
def sp (a : Str) : List Str := Txt.split a "/"
def inside (a b : Str) : Bool := decide ((sp a).take (sp b).length = sp b)
def spWithin : Sp := fun vs H Q _ => ∃ a b : Str, vs = [.str a, .str b] ∧ a.length ≤ 1000 ∧ b.length ≤ 1000 ∧ Keeps H Q (.bl (inside a b))
theorem ok_within (F : Def K mg "within" s_within ["inner", "outer"]) (T : Txt K mg C_Council C_Down C_GateError C_InTheWay C_Keeper C_NotFree C_OldNumber C_UnknownKeeper) : Has P w K mg base 1 "within" ["inner", "outer"] (spWithin) := by
  refine F.ok sc_within (fun vs H Q E h => ?_) (fun f cdv A outer s H vs Q E hr h => ?_)
  · obtain ⟨a, b, rfl, _⟩ := h
    rfl
  · obtain ⟨a, b, rfl, ha, hb, k⟩ := h
    have hu := hr.units0
    refine ⟨_, (pss_cons (ps_set (i := 2) sc_within.nd rfl (Or.inl rfl) (pe_bm PySem.F.plainAttrs_str PySem.F.slot_str_split PySem.F.type_str_split mt_split (pv 1) (pa_cons pe_str pa_nil)))
      (pss_one (ps_ret (pe_cmpR (op_eqL hu) (pe_slice sl_list (pe_bm PySem.F.plainAttrs_str PySem.F.slot_str_split PySem.F.type_str_split mt_split (pv 0) (pa_cons pe_str pa_nil)) po_none (po_some (pe_callB call_len_seq rfl T.b_len (by decide +kernel) (pa_cons (pv 2) pa_nil)))) (pv 2) (nomark _))))), ?_⟩
    walk_at "rd"
    refine split_i rfl (by omega) fun p hp => split_i rfl (by omega) fun q hq => ?_
    have npq : p ≠ q := ne_of_none upd_same hq
    refine ⟨_, rfl, _, .inl (SqL.of (by rw [upd_ne npq, upd_same])), _, _, rfl, SqL.of upd_same, fun r hr' => ?_⟩
    have nr : ∀ b, b = p ∨ b = q → b ≠ r := fun b hb z => by
      subst z
      rcases hb with rfl | rfl
      · rw [upd_ne npq, upd_same] at hr'; cases hr'
      · rw [upd_same] at hr'; cases hr'
    refine ⟨_, _, _, _, rfl, rfl, SqL.of upd_same, SqL.of (by rw [upd_ne (nr p (.inl rfl)), upd_ne npq, upd_same]), ?_, all_flat_str _, ?_⟩
    · rw [List.length_map, cut_to, ← List.map_take]
      exact all_flat_str _
    · rw [List.length_map, cut_to, ← List.map_take]
      have e : eqVs (List.map V.str (List.take (sp b).length (sp a))) (List.map V.str (sp b)) = inside a b := eqVs_str _ _
      show Q (.bl (eqVs (List.map V.str (List.take (sp b).length (sp a))) (List.map V.str (sp b)))) _
      rw [e]
      exact k _ (((Same.upd hp).trans (Same.upd hq)).trans (Same.upd hr'))
def onl (a b : Str) : Bool := inside a b || inside b a
def spOn : Sp := fun vs H Q _ => ∃ a b : Str, vs = [.str a, .str b] ∧ a.length ≤ 1000 ∧ b.length ≤ 1000 ∧ Keeps H Q (.bl (onl a b))
theorem ok_on_line (F : Def K mg "on_line" s_on_line ["one", "other"]) (T : Txt K mg C_Council C_Down C_GateError C_InTheWay C_Keeper C_NotFree C_OldNumber C_UnknownKeeper) (G_within : Has P w K mg base 1 "within" ["inner", "outer"] (spWithin)) : Has P w K mg base 2 "on_line" ["one", "other"] (spOn) := by
  refine F.ok sc_on_line (fun vs H Q E h => ?_) (fun f cdv A outer s H vs Q E hr h => ?_)
  · obtain ⟨a, b, rfl, _⟩ := h
    rfl
  · obtain ⟨a, b, rfl, ha, hb, k⟩ := h
    refine ⟨_, (pss_one (ps_ret (pe_or (pe_fn G_within (hr.mono (by decide)) rfl (pa_cons (pv 0) (pa_cons (pv 1) pa_nil))) (pe_one (pe_fn G_within (hr.mono (by decide)) rfl (pa_cons (pv 1) (pa_cons (pv 0) pa_nil))))))), ?_⟩
    walk_at "rd"
    refine ⟨a, b, rfl, ha, hb, fun H1 s1 => ⟨_, rfl, ?_⟩⟩
    cases e : inside a b with
    | true =>
      rw [if_pos rfl]
      have := k H1 s1
      simpa [onl, e] using this
    | false =>
      rw [if_neg Bool.false_ne_true]
      refine ⟨b, a, rfl, hb, ha, fun H2 s2 => ?_⟩
      have := k H2 (s1.trans s2)
      simpa [onl, e] using this
def spWay : Sp := fun vs H Q _ => ∃ (a b : Str) (x y : Bool), vs = [.str a, .bl x, .str b, .bl y] ∧ a.length ≤ 1000 ∧ b.length ≤ 1000 ∧ Keeps H Q (.bl (onl a b && !(x && y)))
theorem ok_in_way (F : Def K mg "in_way" s_in_way ["lock", "shared", "other", "other_shared"]) (T : Txt K mg C_Council C_Down C_GateError C_InTheWay C_Keeper C_NotFree C_OldNumber C_UnknownKeeper) (G_on_line : Has P w K mg base 2 "on_line" ["one", "other"] (spOn)) : Has P w K mg base 3 "in_way" ["lock", "shared", "other", "other_shared"] (spWay) := by
  refine F.ok sc_in_way (fun vs H Q E h => ?_) (fun f cdv A outer s H vs Q E hr h => ?_)
  · obtain ⟨a, b, x, y, rfl, _⟩ := h
    rfl
  · obtain ⟨a, b, x, y, rfl, ha, hb, k⟩ := h
    refine ⟨_, (pss_one (ps_ret (pe_and (pe_fn G_on_line (hr.mono (by decide)) rfl (pa_cons (pv 0) (pa_cons (pv 2) pa_nil))) (pe_one (pe_not (pe_and (pv 1) (pe_one (pv 3)))))))), ?_⟩
    walk_at "rd"
    refine ⟨a, b, rfl, ha, hb, fun H1 s1 => ⟨_, rfl, ?_⟩⟩
    have := k H1 s1
    cases e : onl a b <;> cases x <;> simp_all
/-- a note -/
structure Nt where
  n : Int
  h : Str
  l : Str
  sh : Bool
  e : Int
def Nt.vals (x : Nt) : List V := [.int x.n, .str x.h, .str x.l, .bl x.sh, .int x.e]
abbrev NL := List (Addr × Nt)
def refs (L : NL) : List V := L.map fun q => V.ref q.1
structure NotesAt (H : Hp) (L : NL) : Prop where
  tu : ∀ q ∈ L, H q.1 = some (.tup q.2.vals)
  sm : ∀ q ∈ L, q.2.h.length ≤ 1000 ∧ q.2.l.length ≤ 1000
theorem NotesAt.mono {H H' : Hp} {L : NL} (h : NotesAt H L) (s : Same H H') : NotesAt H' L := ⟨fun q hq => s _ _ (h.tu q hq), h.sm⟩
theorem NotesAt.sub {H : Hp} {L L' : NL} (h : NotesAt H L) (s : ∀ q ∈ L', q ∈ L) : NotesAt H L' := ⟨fun q hq => h.tu q (s q hq), fun q hq => h.sm q (s q hq)⟩
theorem n1 : ¬ (("up" : Str) = "top") := by decide +kernel
theorem n2 : ¬ (("up" : Str) = "kept") := by decide +kernel
theorem n3 : ¬ (("top" : Str) = "kept") := by decide +kernel
/-- a keeper's attributes, as __init__ stores them -/
def kf (u : Bool) (t : Int) (l : Addr) : List (Str × V) := [("up", .bl u), ("top", .int t), ("kept", .ref l)]
theorem kf_up (u : Bool) (t : Int) (l : Addr) : (kf u t l).lookup ("up" : Str) = some (.bl u) := by simp [kf, List.lookup_cons]
theorem kf_top (u : Bool) (t : Int) (l : Addr) : (kf u t l).lookup ("top" : Str) = some (.int t) := by
  have e : (("top" : Str) == "up") = false := by decide +kernel
  simp [kf, List.lookup_cons, e]
theorem kf_kept (u : Bool) (t : Int) (l : Addr) : (kf u t l).lookup ("kept" : Str) = some (.ref l) := by
  have e : (("kept" : Str) == "up") = false := by decide +kernel
  have e' : (("kept" : Str) == "top") = false := by decide +kernel
  simp [kf, List.lookup_cons, e, e']
theorem kf_no (u : Bool) (t : Int) (l : Addr) {m : Str} (h1 : (m == "up") = false) (h2 : (m == "top") = false) (h3 : (m == "kept") = false) : (kf u t l).lookup m = none := by
  simp [kf, List.lookup_cons, h1, h2, h3]
theorem kf_mk (u : Bool) (t : Int) (l : Addr) : putF "kept" (.ref l) (putF "top" (.int t) (putF "up" (.bl u) [])) = kf u t l := by
  simp [putF, kf, n1, n2, n3]
theorem kf_put_up (u u' : Bool) (t : Int) (l : Addr) : putF "up" (.bl u') (kf u t l) = kf u' t l := by simp [putF, kf]
theorem kf_put_top (u : Bool) (t t' : Int) (l : Addr) : putF "top" (.int t') (kf u t l) = kf u t' l := by simp [putF, kf, n1]
theorem kf_put_kept (u : Bool) (t : Int) (l l' : Addr) : putF "kept" (.ref l') (kf u t l) = kf u t l' := by simp [putF, kf, n2, n3]
/-- a keeper stands at k -/
structure KeeperAt (C : Addr) (H : Hp) (k : Addr) (u : Bool) (t : Int) (L : NL) : Prop where
  ob : ∃ dx l, H k = some (.ins C dx (kf u t l)) ∧ H l = some (.lst (refs L))
  nt : NotesAt H L
  len : L.length ≤ 1000
theorem KeeperAt.mono {C : Addr} {H H' : Hp} {k : Addr} {u : Bool} {t : Int} {L : NL} (h : KeeperAt C H k u t L) (s : Same H H') : KeeperAt C H' k u t L := by
  obtain ⟨⟨dx, l, h1, h2⟩, h3, h4⟩ := h
  exact ⟨⟨dx, l, s _ _ h1, s _ _ h2⟩, h3.mono s, h4⟩
/-- all but what stands at k is as it was -/
def But (k : Addr) (H H' : Hp) : Prop := ∀ b o, H b = some o → b ≠ k → H' b = some o
theorem But.of {k : Addr} {H H' : Hp} (s : Same H H') : But k H H' := fun b o e _ => s b o e
theorem refs_get {L : NL} {i : Nat} {x : V} (h : (refs L)[i]? = some x) : ∃ q, L[i]? = some q ∧ x = .ref q.1 := by
  unfold refs at h
  rw [List.getElem?_map] at h
  cases e : L[i]? with
  | none => rw [e] at h; cases h
  | some q => rw [e] at h; exact ⟨q, rfl, (Option.some.inj h).symm⟩
theorem refs_len (L : NL) : (refs L).length = L.length := List.length_map _
theorem filt_step {α : Type} (p : α → Bool) {L : List α} {i : Nat} {x : α} (h : L[i]? = some x) : (L.take (i + 1)).filter p = (L.take i).filter p ++ (if p x = true then [x] else []) := by
  rw [List.take_succ, h, List.filter_append]
  simp [List.filter_cons]
theorem none_back {H H' : Hp} {p : Addr} (s : Same H H') (h : H' p = none) : H p = none := by
  cases e : H p with
  | none => rfl
  | some o => rw [s _ _ e] at h; cases h
def spInit (C : Addr) : Sp := fun vs H Q _ => ∃ (k dx : Addr), vs = [.ref k] ∧ H k = some (.ins C dx []) ∧ ∀ (H' : Hp), KeeperAt C H' k true 0 [] → (∃ dx l, H' k = some (.ins C dx (kf true 0 l)) ∧ H l = none) → But k H H' → Q .non H'
theorem ok_Keeper___init__ (F : KDef K C_Keeper "Keeper.__init__" s_Keeper___init__ ["self"]) (T : Txt K mg C_Council C_Down C_GateError C_InTheWay C_Keeper C_NotFree C_OldNumber C_UnknownKeeper) : KHas P w K mg base 1 C_Keeper ["self"] (spInit C_Keeper) := by
  refine F.ok sc_Keeper___init__ (fun vs H Q E h => ?_) (fun f cdv A outer s H vs Q E hr h => ?_)
  · obtain ⟨k, dx, rfl, _⟩ := h
    rfl
  · obtain ⟨k, dx, rfl, hk, q⟩ := h
    refine ⟨_, (pss_cons (ps_fld (pv 0) pe_bl rfl)
      (pss_cons (ps_fld (pv 0) pe_int rfl)
      (pss_one (ps_fld (pv 0) (pe_lst pa_nil) rfl)))), ?_⟩
    walk_at "rd"
    refine ⟨_, _, _, hk, T.cl_Keeper, T.n_Keeper_up, by decide, _, _, _, upd_same, T.cl_Keeper, T.n_Keeper_top, by show (1 : Nat) < 1000; decide, Nat.zero_le _, fun p hp => ?_⟩
    have nkp : k ≠ p := ne_of_none upd_same hp
    refine ⟨_, _, _, by rw [upd_ne nkp, upd_same], T.cl_Keeper, T.n_Keeper_kept, by simp [putF, n1], ?_⟩
    rw [kf_mk]
    refine q _ ⟨⟨dx, p, upd_same, by rw [upd_ne nkp.symm, upd_same]; rfl⟩, ⟨by simp, by simp⟩, by simp⟩ ⟨dx, p, upd_same, ?_⟩ fun b o e nb => ?_
    · rw [upd_ne nkp.symm, upd_ne nkp.symm] at hp
      exact hp
    have nbp : b ≠ p := fun z => by
      subst z
      rw [upd_ne nb, upd_ne nb, e] at hp
      cases hp
    rw [upd_ne nb, upd_ne nbp, upd_ne nb, upd_ne nb]
    exact e
def livef (tick : Int) (L : NL) : NL := L.filter fun q => decide (tick < q.2.e)
def spLive (C : Addr) : Sp := fun vs H Q _ => ∃ (k : Addr) (u : Bool) (t : Int) (L : NL) (tick : Int), vs = [.ref k, .int tick] ∧ KeeperAt C H k u t L ∧ ∀ (r : Addr) (H' : Hp), H r = none → H' r = some (.lst (refs (livef tick L))) → Same H H' → Q (.ref r) H'
theorem ok_Keeper_live (F : MDef K C_Keeper "live" "Keeper.live" s_Keeper_live ["self", "tick"]) (T : Txt K mg C_Council C_Down C_GateError C_InTheWay C_Keeper C_NotFree C_OldNumber C_UnknownKeeper) : MHas P w K mg base CX0 1 C_Keeper "live" ["self", "tick"] (spLive C_Keeper) := by
  refine F.ok sc_Keeper_live (fun vs H Q E h => ?_) (fun f cdv A outer s H vs Q E hr h => ?_)
  · obtain ⟨k, u, t, L, tick, rfl, _⟩ := h
    rfl
  · obtain ⟨k, u, t, L, tick, rfl, hk, q⟩ := h
    refine ⟨_, (pss_one (ps_ret (pe_comp (x := "note") (cap := ["tick"]) (js := [1]) rfl ⟨rfl, by decide +kernel, by decide +kernel, rfl, freeOk_free rfl, by decide +kernel, ⟨⟨rfl, Or.inl rfl, rfl⟩, trivial⟩⟩ (pi_list (pe_fld (pv 0) rfl)) (fun _ _ _ _ => (pif_one (pt_cmpR op_lt (pv 1) (pe_ix (ix_tup_k (K := K)) (pv 0) pe_int (fun _ _ => rfl)) (nomark _)))) (fun _ _ _ _ => (pv 0))))), ?_⟩
    walk_at "rd"
    obtain ⟨⟨dx, l, h1, h2⟩, hn, hlen⟩ := hk
    refine ⟨_, _, _, h1, T.cl_Keeper, T.n_Keeper_kept, _, kf_kept u t l, l, rfl, ⟨_, SqL.of h2⟩, ?_⟩
    refine compgo_list (xs := refs L) (by rw [refs_len]; exact small_size' (by omega)) (fun i acc H' => acc = refs (livef tick (L.take i)) ∧ H' = H) ⟨by simp [livef, refs], rfl⟩ ?_ ?_ ?_ ?_
    · rintro i acc H' ⟨rfl, -⟩
      rw [refs_len]
      exact Nat.le_trans (List.length_filter_le _ _) (by rw [List.length_take]; omega)
    · rintro i acc H' ⟨-, rfl⟩
      exact SqL.of h2
    · rintro Nn i acc H' x hN hx hi ⟨rfl, rfl⟩
      obtain ⟨y, hy, rfl⟩ := refs_get hx
      walk_at "rd"
      refine ⟨_, _, _, _, rfl, rfl, SqT.of (hn.tu _ (List.mem_of_getElem? hy)), atI_nat (j := 4) rfl, ?_⟩
      have st := filt_step (fun q : Addr × Nt => decide (tick < q.2.e)) hy
      by_cases hc : tick < y.2.e
      · refine ⟨_, rfl, ?_⟩
        simp only [hc, decide_true, if_true]
        refine hN _ _ ⟨?_, rfl⟩
        unfold livef
        rw [st]
        simp [hc, refs]
      · refine ⟨_, rfl, ?_⟩
        simp only [hc, decide_false, Bool.false_eq_true, if_false]
        refine hN _ _ ⟨?_, rfl⟩
        unfold livef
        rw [st]
        simp [hc, refs]
    · rintro acc H' ⟨rfl, rfl⟩ p hp
      rw [refs_len, List.take_length]
      exact q p _ hp upd_same (Same.upd hp)
def blocks (hd lk : Str) (sh : Bool) (x : Nt) : Bool := decide (x.h ≠ hd) && (onl lk x.l && !(sh && x.sh))
def freeOf (L : NL) (hd lk : Str) (sh : Bool) (tick : Int) : Bool := !((livef tick L).any fun q => blocks hd lk sh q.2)
def othf (hd : Str) (L : NL) : NL := L.filter fun q => decide (q.2.h ≠ hd)
def wayf (lk : Str) (sh : Bool) (L : NL) : List Str := (L.filter fun q => onl lk q.2.l && !(sh && q.2.sh)).map fun q => q.2.h
/-- the names that stand in the way, as they come -/
def inWay (L : NL) (hd lk : Str) (sh : Bool) (tick : Int) : List Str := wayf lk sh (othf hd (livef tick L))
theorem metFold_len : ∀ (ss D : List Str), (ss.foldl metStep D).length ≤ D.length + ss.length
  | [], D => Nat.le_refl _
  | v :: ss, D => by
    rw [List.foldl_cons]
    refine Nat.le_trans (metFold_len ss _) ?_
    unfold metStep
    split
    · simp only [List.length_cons]; omega
    · simp only [List.length_append, List.length_cons, List.length_nil]; omega
theorem met_len (ss : List Str) : (metAll ss).length ≤ ss.length := by
  have := metFold_len ss []
  simpa [metAll] using this
theorem met_nil {ss ks : List Str} (h : ks.Perm (metAll ss)) : ks = [] ↔ ss = [] := by
  constructor
  · rintro rfl
    cases ss with
    | nil => rfl
    | cons v ss =>
      have : v ∈ metAll (v :: ss) := (metFold_mem (v :: ss) [] v).mpr (.inr (by simp))
      rw [← h.mem_iff] at this
      cases this
  · rintro rfl
    exact List.Perm.eq_nil h
theorem inWay_nil (L : NL) (hd lk : Str) (sh : Bool) (tick : Int) : decide (inWay L hd lk sh tick = []) = freeOf L hd lk sh tick := by
  unfold inWay wayf othf freeOf
  rw [Bool.eq_iff_iff]
  simp only [decide_eq_true_eq, List.map_eq_nil_iff, List.filter_eq_nil_iff, List.mem_filter, Bool.not_eq_true', List.any_eq_false, blocks, Bool.and_eq_true, and_imp]
  constructor
  · intro h x hx h1
    exact h x hx h1.1 h1.2
  · intro h x hx h1 h2
    exact h x hx ⟨h1, h2⟩
def spKNames (C : Addr) : Sp := fun vs H Q _ => ∃ (k : Addr) (u : Bool) (t : Int) (L : NL) (hd lk : Str) (sh : Bool) (tick : Int), vs = [.ref k, .str hd, .str lk, .bl sh, .int tick] ∧ KeeperAt C H k u t L ∧ L.length ≤ 63 ∧ lk.length ≤ 1000 ∧
  ∀ (r : Addr) (ks : List Str) (H' : Hp), H r = none → H' r = some (.lst (ks.map V.str)) → ks.Perm (metAll (inWay L hd lk sh tick)) → PyProof.Rows.sortedS ks = true → Same H H' → Q (.ref r) H'
theorem ok_Keeper_names_in_way (F : MDef K C_Keeper "names_in_way" "Keeper.names_in_way" s_Keeper_names_in_way ["self", "holder", "lock", "shared", "tick"]) (T : Txt K mg C_Council C_Down C_GateError C_InTheWay C_Keeper C_NotFree C_OldNumber C_UnknownKeeper) (G_in_way : Has P w K mg base 3 "in_way" ["lock", "shared", "other", "other_shared"] (spWay)) (G_Keeper_live : MHas P w K mg base CX0 1 C_Keeper "live" ["self", "tick"] (spLive C_Keeper)) : MHas P w K mg base CX0 4 C_Keeper "names_in_way" ["self", "holder", "lock", "shared", "tick"] (spKNames C_Keeper) := by
  refine F.ok sc_Keeper_names_in_way (fun vs H Q E h => ?_) (fun f cdv A outer s H vs Q E hr h => ?_)
  · obtain ⟨k, u, t, L, hd, lk, sh, tick, rfl, _⟩ := h
    rfl
  · obtain ⟨k, u, t, L, hd, lk, sh, tick, rfl, hk, h63, hl, q⟩ := h
    have hu := hr.units0
    refine ⟨_, (pss_cons (ps_setcomp (x := "note") (cap := ["holder"]) (js := [1]) (i := 5) rfl ⟨rfl, by decide +kernel, by decide +kernel, rfl, freeOk_free rfl, by decide +kernel, ⟨⟨rfl, Or.inl rfl, rfl⟩, trivial⟩⟩ sc_Keeper_names_in_way.nd rfl (Or.inl rfl) (pi_list (pe_mth G_Keeper_live T.cl_Keeper (hr.mono (by decide)) (pv 0) (pa_cons (pv 4) pa_nil))) (fun _ _ _ _ => (pif_one (pt_cmpR op_ne (pe_ix (ix_tup_k (K := K)) (pv 0) pe_int (fun _ _ => rfl)) (pv 1) (nomark _)))) (fun _ _ _ _ => (pv 0)))
      (pss_one (ps_ret (pe_callB (call_sortedT rfl) rfl T.b_sorted (by decide +kernel) (pa_cons (pe_callTy (call_setT rfl) rfl T.b_set (by decide +kernel) (pa_cons (pe_comp (x := "note") (cap := ["lock", "shared"]) (js := [2, 3]) rfl ⟨rfl, by decide +kernel, by decide +kernel, rfl, freeOk_free rfl, by decide +kernel, ⟨⟨rfl, Or.inl rfl, rfl⟩, ⟨⟨rfl, Or.inl rfl, rfl⟩, trivial⟩⟩⟩ (pi_list (pv 5)) (fun _ _ _ _ => (pif_one (pt_val (pe_fn G_in_way (hr.mono (by decide)) rfl (pa_cons (pv 1) (pa_cons (pv 2) (pa_cons (pe_ix (ix_tup_k (K := K)) (pv 0) pe_int (fun _ _ => rfl)) (pa_cons (pe_ix (ix_tup_k (K := K)) (pv 0) pe_int (fun _ _ => rfl)) pa_nil)))))))) (fun _ _ _ _ => (pe_ix (ix_tup_k (K := K)) (pv 0) pe_int (fun _ _ => rfl)))) pa_nil)) pa_nil))))), ?_⟩
    walk_at "rd"
    obtain ⟨⟨dx, l, h1, h2⟩, hn, hlen⟩ := id hk
    refine ⟨_, _, h1, kf_no u t l (by decide +kernel) (by decide +kernel) (by decide +kernel), k, u, t, L, tick, rfl, hk, fun r H1 hr0 hr1 hs1 => ⟨r, rfl, ⟨_, SqL.of hr1⟩, ?_⟩⟩
    have hn1 : NotesAt H1 (livef tick L) := (hn.mono hs1).sub fun q h => (List.mem_filter.mp h).1
    have l1 : (livef tick L).length ≤ 63 := Nat.le_trans (List.length_filter_le _ _) h63
    refine compgo_list (xs := refs (livef tick L)) (by rw [refs_len]; exact small_size' (by omega)) (fun i acc H' => acc = refs (othf hd ((livef tick L).take i)) ∧ H' = H1) ⟨by simp [othf, refs], rfl⟩ ?_ ?_ ?_ ?_
    · rintro i acc H' ⟨rfl, -⟩
      rw [refs_len]
      exact Nat.le_trans (List.length_filter_le _ _) (by rw [List.length_take]; omega)
    · rintro i acc H' ⟨-, rfl⟩
      exact SqL.of hr1
    · rintro Nn i acc H' x hN hx hi ⟨rfl, rfl⟩
      obtain ⟨y, hy, rfl⟩ := refs_get hx
      walk_at "rd"
      have st := filt_step (fun q : Addr × Nt => decide (q.2.h ≠ hd)) hy
      refine ⟨_, _, _, _, rfl, rfl, SqT.of (hn1.tu _ (List.mem_of_getElem? hy)), atI_nat (j := 1) rfl, ?_⟩
      by_cases hc : y.2.h = hd
      · refine ⟨rfl, ?_⟩
        simp only [V.str.injEq, hc, decide_true, Bool.not_true, Bool.false_eq_true, if_false]
        refine hN _ _ ⟨?_, rfl⟩
        unfold othf
        rw [st]
        simp [hc]
      · refine ⟨rfl, ?_⟩
        simp only [V.str.injEq, hc, decide_false, Bool.not_false, if_true]
        refine hN _ _ ⟨?_, rfl⟩
        unfold othf
        rw [st]
        simp [hc, refs]
    rintro acc H' ⟨rfl, rfl⟩ p hp
    rw [refs_len, List.take_length]
    refine ⟨p, rfl, ⟨_, SqL.of upd_same⟩, ?_⟩
    have s2 := hs1.trans (Same.upd (o := .lst (refs (othf hd (livef tick L)))) hp)
    have gp : upd H' p (.lst (refs (othf hd (livef tick L)))) p = some (.lst (refs (othf hd (livef tick L)))) := upd_same
    generalize upd H' p (.lst (refs (othf hd (livef tick L)))) = H2 at s2 gp ⊢
    have hn2 : NotesAt H2 (othf hd (livef tick L)) := (hn.mono s2).sub fun q h => (List.mem_filter.mp (List.mem_filter.mp h).1).1
    have l2 : (othf hd (livef tick L)).length ≤ 63 := Nat.le_trans (List.length_filter_le _ _) l1
    have eW : inWay L hd lk sh tick = wayf lk sh (othf hd (livef tick L)) := rfl
    generalize othf hd (livef tick L) = O at gp hn2 l2 eW ⊢
    refine compgo_list (xs := refs O) (by rw [refs_len]; exact small_size' (by omega)) (fun i acc H' => acc = (wayf lk sh (O.take i)).map V.str ∧ Same H2 H') ⟨by simp [wayf], Same.refl _⟩ ?_ ?_ ?_ ?_
    · rintro i acc H' ⟨rfl, -⟩
      rw [List.length_map]
      unfold wayf
      rw [List.length_map]
      exact Nat.le_trans (List.length_filter_le _ _) (by rw [List.length_take]; omega)
    · rintro i acc H' ⟨-, s3⟩
      exact SqL.of (s3 _ _ gp)
    · rintro Nn i acc H' x hN hx hi ⟨rfl, s3⟩
      obtain ⟨y, hy, rfl⟩ := refs_get hx
      walk_at "rd"
      have st := filt_step (fun q : Addr × Nt => onl lk q.2.l && !(sh && q.2.sh)) hy
      have ty := hn2.tu _ (List.mem_of_getElem? hy)
      have sm := hn2.sm _ (List.mem_of_getElem? hy)
      refine ⟨_, _, _, _, rfl, rfl, SqT.of (s3 _ _ ty), atI_nat (j := 2) rfl, ?_⟩
      refine ⟨_, _, _, _, rfl, rfl, SqT.of (s3 _ _ ty), atI_nat (j := 3) rfl, ?_⟩
      refine ⟨_, _, _, _, rfl, hl, sm.2, fun H4 s4 => ⟨_, rfl, ?_⟩⟩
      cases hw : (onl lk y.2.l && !(sh && y.2.sh)) with
      | true =>
        rw [if_pos rfl]
        refine ⟨_, _, _, _, rfl, rfl, SqT.of (s4 _ _ (s3 _ _ ty)), atI_nat (j := 1) rfl, hN _ _ ⟨?_, s3.trans s4⟩⟩
        unfold wayf
        rw [st, hw]
        simp
      | false =>
        rw [if_neg Bool.false_ne_true]
        refine hN _ _ ⟨?_, s3.trans s4⟩
        unfold wayf
        rw [st, hw]
        simp
    rintro acc H' ⟨rfl, s3⟩ p2 hp2
    rw [refs_len, List.take_length, ← eW]
    have l3 : (inWay L hd lk sh tick).length ≤ 63 := by
      rw [eW]
      unfold wayf
      rw [List.length_map]
      exact Nat.le_trans (List.length_filter_le _ _) l2
    refine ⟨p2, rfl, _, SqL.of upd_same, Nat.lt_of_le_of_lt (Nat.succ_le_succ l3) (by decide +kernel), fun d hd' => ⟨_, upd_same, metFold_nodup _ _ List.nodup_nil, Nat.lt_of_le_of_lt (met_len _) (by omega), fun l' ks hl' hperm hsort => ?_⟩⟩
    have s5 := ((s2.trans s3).trans (Same.upd (o := .lst ((inWay L hd lk sh tick).map V.str)) hp2)).trans (Same.upd (o := tso P w d (metAll (inWay L hd lk sh tick))) hd')
    exact q l' ks _ (none_back s5 hl') upd_same hperm hsort (s5.trans (Same.upd hl'))
def spFree (C : Addr) : Sp := fun vs H Q _ => ∃ (k : Addr) (u : Bool) (t : Int) (L : NL) (hd lk : Str) (sh : Bool) (tick : Int), vs = [.ref k, .str hd, .str lk, .bl sh, .int tick] ∧ KeeperAt C H k u t L ∧ L.length ≤ 63 ∧ lk.length ≤ 1000 ∧ Keeps H Q (.bl (freeOf L hd lk sh tick))
theorem ok_Keeper_says_free (F : MDef K C_Keeper "says_free" "Keeper.says_free" s_Keeper_says_free ["self", "holder", "lock", "shared", "tick"]) (T : Txt K mg C_Council C_Down C_GateError C_InTheWay C_Keeper C_NotFree C_OldNumber C_UnknownKeeper) (G_Keeper_names_in_way : MHas P w K mg base CX0 4 C_Keeper "names_in_way" ["self", "holder", "lock", "shared", "tick"] (spKNames C_Keeper)) : MHas P w K mg base CX0 5 C_Keeper "says_free" ["self", "holder", "lock", "shared", "tick"] (spFree C_Keeper) := by
  refine F.ok sc_Keeper_says_free (fun vs H Q E h => ?_) (fun f cdv A outer s H vs Q E hr h => ?_)
  · obtain ⟨k, u, t, L, hd, lk, sh, tick, rfl, _⟩ := h
    rfl
  · obtain ⟨k, u, t, L, hd, lk, sh, tick, rfl, hk, h63, hl, q⟩ := h
    have hu := hr.units0
    refine ⟨_, (pss_one (ps_ret (pe_cmpR (op_eqNil hu) (pe_mth G_Keeper_names_in_way T.cl_Keeper (hr.mono (by decide)) (pv 0) (pa_cons (pv 1) (pa_cons (pv 2) (pa_cons (pv 3) (pa_cons (pv 4) pa_nil))))) (pe_lst pa_nil) (nomark _)))), ?_⟩
    walk_at "rd"
    obtain ⟨⟨dx, l, h1, h2⟩, hn, hlen⟩ := id hk
    refine ⟨_, _, h1, kf_no u t l (by decide +kernel) (by decide +kernel) (by decide +kernel), k, u, t, L, hd, lk, sh, tick, rfl, hk, h63, hl, fun r ks H1 hr0 hr1 hp hs s1 => ⟨Nat.zero_le _, fun p hp0 => ⟨r, rfl, _, SqL.of (Same.upd hp0 _ _ hr1), SqL.of upd_same, ?_⟩⟩⟩
    have e : (ks.map V.str).isEmpty = freeOf L hd lk sh tick := by
      rw [← inWay_nil, Bool.eq_iff_iff]
      simp only [List.isEmpty_iff, List.map_eq_nil_iff, decide_eq_true_eq]
      exact met_nil hp
    rw [e]
    exact q _ (s1.trans (Same.upd hp0))
def keptf (hd lk : Str) (L : NL) : NL := L.filter fun q => !(decide (q.2.h = hd) && decide (q.2.l = lk))
/-- a take: what comes of it -/
def spTake (C CD CO CI : Addr) : Sp := fun vs H Q E => ∃ (k : Addr) (u : Bool) (t : Int) (L : NL) (n : Int) (hd lk : Str) (sh : Bool) (tick time : Int), vs = [.ref k, .int n, .str hd, .str lk, .bl sh, .int tick, .int time] ∧ KeeperAt C H k u t L ∧ L.length ≤ 62 ∧ hd.length ≤ 1000 ∧ lk.length ≤ 1000 ∧
  (u = false → E (.ref CD) none H) ∧ (u = true → n ≤ t → E (.ref CO) none H) ∧ (u = true → t < n → freeOf L hd lk sh tick = false → ∀ H', Same H H' → E (.ref CI) none H') ∧
  (u = true → t < n → freeOf L hd lk sh tick = true → ∀ (p : Addr) (H' : Hp), H p = none → KeeperAt C H' k u n (keptf hd lk L ++ [(p, ⟨n, hd, lk, sh, tick + time⟩)]) → (∃ dx l, H' k = some (.ins C dx (kf u n l)) ∧ H l = none) → But k H H' → Q .non H')
theorem ok_Keeper_take (F : MDef K C_Keeper "take" "Keeper.take" s_Keeper_take ["self", "number", "holder", "lock", "shared", "tick", "time"]) (T : Txt K mg C_Council C_Down C_GateError C_InTheWay C_Keeper C_NotFree C_OldNumber C_UnknownKeeper) (G_Keeper_says_free : MHas P w K mg base CX0 5 C_Keeper "says_free" ["self", "holder", "lock", "shared", "tick"] (spFree C_Keeper)) : MHas P w K mg base (CX1 P w) 6 C_Keeper "take" ["self", "number", "holder", "lock", "shared", "tick", "time"] (spTake C_Keeper C_Down C_OldNumber C_InTheWay) := by
  refine F.okx sc_Keeper_take (fun vs H Q E h => ?_) (fun f cdv A outer s H vs Q E hr h => ?_)
  · obtain ⟨k, u, t, L, n, hd, lk, sh, tick, time, rfl, _⟩ := h
    rfl
  · obtain ⟨k, u, t, L, n, hd, lk, sh, tick, time, rfl, hk, h900, hh, hl, e1, e2, e3, q⟩ := h
    have hu := hr.units0
    refine ⟨_, (pss_cons (ps_if (pt_not (pt_val (pe_fld (pv 0) rfl))) (pss_one (ps_raise throws_cx rfl PySem.F.excBase_ValueError T.x_Down rfl T.g_Down (pa_cons pe_str pa_nil))) pss_nil)
      (pss_cons (ps_if (pt_cmpR op_le (pv 1) (pe_fld (pv 0) rfl) (nomark _)) (pss_one (ps_raise throws_cx rfl PySem.F.excBase_ValueError T.x_OldNumber rfl T.g_OldNumber (pa_cons pe_str pa_nil))) pss_nil)
      (pss_cons (ps_if (pt_not (pt_val (pe_mth G_Keeper_says_free T.cl_Keeper (hr.mono (by decide)) (pv 0) (pa_cons (pv 2) (pa_cons (pv 3) (pa_cons (pv 4) (pa_cons (pv 5) pa_nil))))))) (pss_one (ps_raise throws_cx rfl PySem.F.excBase_ValueError T.x_InTheWay rfl T.g_InTheWay (pa_cons pe_str pa_nil))) pss_nil)
      (pss_cons (ps_setcomp (x := "note") (cap := ["holder", "lock"]) (js := [2, 3]) (i := 7) rfl ⟨rfl, by decide +kernel, by decide +kernel, rfl, freeOk_free rfl, by decide +kernel, ⟨⟨rfl, Or.inl rfl, rfl⟩, ⟨⟨rfl, Or.inl rfl, rfl⟩, trivial⟩⟩⟩ sc_Keeper_take.nd rfl (Or.inl rfl) (pi_list (pe_fld (pv 0) rfl)) (fun _ _ _ _ => (pif_one (pt_cmpR (op_neT_k (K := K) hu) (pe_tup (pa_cons (pe_ix (ix_tup_k (K := K)) (pv 0) pe_int (fun _ _ => rfl)) (pa_cons (pe_ix (ix_tup_k (K := K)) (pv 0) pe_int (fun _ _ => rfl)) pa_nil))) (pe_tup (pa_cons (pv 1) (pa_cons (pv 2) pa_nil))) (nomark _)))) (fun _ _ _ _ => (pv 0)))
      (pss_cons (ps_fld (pv 0) (pe_op op_cat (pv 7) (pe_lst (pa_cons (pe_tup (pa_cons (pv 1) (pa_cons (pv 2) (pa_cons (pv 3) (pa_cons (pv 4) (pa_cons (pe_op op_add (pv 5) (pv 6)) pa_nil)))))) pa_nil))) rfl)
      (pss_one (ps_fld (pv 0) (pv 1) rfl))))))), ?_⟩
    walk_at "rd"
    obtain ⟨⟨dx, l, h1, h2⟩, hn, hlen⟩ := id hk
    refine ⟨_, _, _, h1, T.cl_Keeper, T.n_Keeper_up, _, kf_up u t l, u, rfl, ?_⟩
    cases hup : u with
    | false => exact ⟨small_size' (by decide), e1 hup⟩
    | true =>
    rw [if_neg (by decide)]
    refine ⟨_, _, _, h1, T.cl_Keeper, T.n_Keeper_top, _, kf_top u t l, t, rfl, ?_⟩
    by_cases hnt : n ≤ t
    · rw [if_pos (decide_eq_true hnt)]
      exact ⟨small_size' (by decide), e2 hup hnt⟩
    rw [if_neg (by simpa using hnt)]
    refine ⟨_, _, h1, kf_no u t l (by decide +kernel) (by decide +kernel) (by decide +kernel), k, u, t, L, hd, lk, sh, tick, rfl, hk, by omega, hl, fun H1 s1 => ⟨_, rfl, ?_⟩⟩
    cases hf : freeOf L hd lk sh tick with
    | false => exact ⟨small_size' (by decide), e3 hup (by omega) hf H1 s1⟩
    | true =>
    rw [if_neg (by decide)]
    have hn1 := hn.mono s1
    refine ⟨_, _, _, s1 _ _ h1, T.cl_Keeper, T.n_Keeper_kept, _, kf_kept u t l, l, rfl, ⟨_, SqL.of (s1 _ _ h2)⟩, ?_⟩
    refine compgo_list (xs := refs L) (by rw [refs_len]; exact small_size' (by omega)) (fun i acc H' => acc = refs (keptf hd lk (L.take i)) ∧ Same H1 H') ⟨by simp [keptf, refs], Same.refl _⟩ ?_ ?_ ?_ ?_
    · rintro i acc H' ⟨rfl, -⟩
      rw [refs_len]
      exact Nat.le_trans (List.length_filter_le _ _) (by rw [List.length_take]; omega)
    · rintro i acc H' ⟨-, s2⟩
      exact SqL.of (s2 _ _ (s1 _ _ h2))
    · rintro Nn i acc H' x hN hx hi ⟨rfl, s2⟩
      obtain ⟨y, hy, rfl⟩ := refs_get hx
      walk_at "rd"
      have ty := hn1.tu _ (List.mem_of_getElem? hy)
      refine ⟨_, _, _, _, rfl, rfl, SqT.of (s2 _ _ ty), atI_nat (j := 1) rfl, ?_⟩
      refine ⟨_, _, _, _, rfl, rfl, SqT.of (s2 _ _ ty), atI_nat (j := 2) rfl, ?_⟩
      refine ⟨small_size' (by decide), fun p hp => ⟨small_size' (by decide), fun r hr' => ?_⟩⟩
      have npr : p ≠ r := ne_of_none upd_same hr'
      refine ⟨_, _, _, _, rfl, rfl, SqT.of (by rw [upd_ne npr, upd_same]), SqT.of upd_same, rfl, rfl, ?_⟩
      have st := filt_step (fun q : Addr × Nt => !(decide (q.2.h = hd) && decide (q.2.l = lk))) hy
      have s3 : Same H1 (upd (upd H' p (.tup [V.str y.2.h, V.str y.2.l])) r (.tup [V.str hd, V.str lk])) := (s2.trans (Same.upd hp)).trans (Same.upd hr')
      have ev : eqVs [V.str y.2.h, V.str y.2.l] [V.str hd, V.str lk] = (decide (y.2.h = hd) && decide (y.2.l = lk)) := by
        have := eqVs_str [y.2.h, y.2.l] [hd, lk]
        simp only [List.map_cons, List.map_nil] at this
        rw [this]
        simp [Bool.decide_and]
      simp only [ev, if_true]
      cases hc : (decide (y.2.h = hd) && decide (y.2.l = lk)) with
      | true =>
        refine ⟨_, rfl, ?_⟩
        rw [if_neg (by decide)]
        refine hN _ _ ⟨?_, s3⟩
        unfold keptf
        rw [st, hc]
        simp
      | false =>
        refine ⟨_, rfl, ?_⟩
        rw [if_pos (by decide)]
        refine hN _ _ ⟨?_, s3⟩
        unfold keptf
        rw [st, hc]
        simp [refs]
    · rintro acc H2 ⟨rfl, s2⟩ p hp
      rw [refs_len, List.take_length]
      refine ⟨small_size' (by decide), fun p1 hp1 => ⟨small_size' (by decide), fun p2 hp2 => ?_⟩⟩
      have n01 : p ≠ p1 := ne_of_none upd_same hp1
      have n12 : p1 ≠ p2 := ne_of_none upd_same hp2
      have n02 : p ≠ p2 := ne_of_none (by rw [upd_ne n01]; exact upd_same) hp2
      have kl : (keptf hd lk L).length ≤ L.length := List.length_filter_le _ _
      refine ⟨_, _, _, _, rfl, rfl, by rw [upd_ne n02, upd_ne n01, upd_same], upd_same, small_size' (by rw [refs_len]; show _ + 1 ≤ _; omega), fun p3 hp3 => ?_⟩
      have n13 : p1 ≠ p3 := ne_of_none (by rw [upd_ne n12]; exact upd_same) hp3
      have s3 := (((s1.trans s2).trans (Same.upd (o := .lst (refs (keptf hd lk L))) hp)).trans (Same.upd (o := .tup [V.int n, V.str hd, V.str lk, V.bl sh, V.int (tick + time)]) hp1)).trans (Same.upd (o := .lst [V.ref p1]) hp2)
      have s4 := s3.trans (Same.upd (o := .lst (refs (keptf hd lk L) ++ [V.ref p1])) hp3)
      have nk3 : k ≠ p3 := ne_of_none (s3 _ _ h1) hp3
      refine ⟨_, _, _, s4 _ _ h1, T.cl_Keeper, T.n_Keeper_kept, by show (3 : Nat) < 1000; decide, _, _, _, upd_same, T.cl_Keeper, T.n_Keeper_top, by rw [kf_put_kept]; show (3 : Nat) < 1000; decide, ?_⟩
      rw [kf_put_kept, kf_put_top]
      have hp1' : H p1 = none := none_back ((s1.trans s2).trans (Same.upd hp)) hp1
      have nk1 : p1 ≠ k := fun z => by rw [z, h1] at hp1'; cases hp1'
      refine q hup (by omega) hf p1 _ hp1' ⟨⟨dx, p3, upd_same, ?_⟩, ⟨fun x hx => ?_, fun x hx => ?_⟩, ?_⟩ ⟨dx, p3, upd_same, none_back s3 hp3⟩ fun b o e nb => ?_
      · rw [upd_ne nk3.symm, upd_ne nk3.symm, upd_same]
        simp [refs]
      · rcases List.mem_append.mp hx with z | z
        · have tz := hn.tu _ (List.mem_filter.mp z).1
          have nz : x.1 ≠ k := fun e => by rw [e, h1] at tz; cases tz
          rw [upd_ne nz, upd_ne nz]
          exact s4 _ _ tz
        · have : x = (p1, ⟨n, hd, lk, sh, tick + time⟩) := by simpa using z
          subst this
          show upd _ k _ p1 = _
          rw [upd_ne nk1, upd_ne nk1, upd_ne n13, upd_ne n12, upd_same]
          rfl
      · rcases List.mem_append.mp hx with z | z
        · exact hn.sm _ (List.mem_filter.mp z).1
        · have : x = (p1, ⟨n, hd, lk, sh, tick + time⟩) := by simpa using z
          subst this
          exact ⟨hh, hl⟩
      · rw [List.length_append]
        show _ + 1 ≤ _
        omega
      · rw [upd_ne nb, upd_ne nb]
        exact s4 _ _ e
def spFall (C : Addr) (b : Bool) : Sp := fun vs H Q _ => ∃ (k : Addr) (u : Bool) (t : Int) (L : NL), vs = [.ref k] ∧ KeeperAt C H k u t L ∧ ∀ (H' : Hp), KeeperAt C H' k b t L → (∀ dx l, H k = some (.ins C dx (kf u t l)) → H' k = some (.ins C dx (kf b t l))) → But k H H' → Q .non H'
theorem fallen {C : Addr} {H : Hp} {k : Addr} {u b : Bool} {t : Int} {L : NL} {dx l : Addr} (hk : KeeperAt C H k u t L) (h1 : H k = some (.ins C dx (kf u t l))) (h2 : H l = some (.lst (refs L))) : KeeperAt C (upd H k (.ins C dx (kf b t l))) k b t L := by
  have nl : l ≠ k := fun z => by rw [z, h1] at h2; cases h2
  refine ⟨⟨dx, l, upd_same, by rw [upd_ne nl]; exact h2⟩, ⟨fun x hx => ?_, hk.nt.sm⟩, hk.len⟩
  have tz := hk.nt.tu _ hx
  have nz : x.1 ≠ k := fun e => by rw [e, h1] at tz; cases tz
  rw [upd_ne nz]
  exact tz
theorem ok_Keeper_fall (F : MDef K C_Keeper "fall" "Keeper.fall" s_Keeper_fall ["self"]) (T : Txt K mg C_Council C_Down C_GateError C_InTheWay C_Keeper C_NotFree C_OldNumber C_UnknownKeeper) : MHas P w K mg base CX0 1 C_Keeper "fall" ["self"] (spFall C_Keeper false) := by
  refine F.ok sc_Keeper_fall (fun vs H Q E h => ?_) (fun f cdv A outer s H vs Q E hr h => ?_)
  · obtain ⟨k, u, t, L, rfl, _⟩ := h
    rfl
  · obtain ⟨k, u, t, L, rfl, hk, q⟩ := h
    refine ⟨_, (pss_one (ps_fld (pv 0) pe_bl rfl)), ?_⟩
    walk_at "rd"
    obtain ⟨⟨dx, l, h1, h2⟩, hn, hlen⟩ := id hk
    refine ⟨_, _, _, h1, T.cl_Keeper, T.n_Keeper_up, by show (3 : Nat) < 1000; decide, ?_⟩
    rw [kf_put_up]
    exact q _ (fallen hk h1 h2) (fun dx' l' e => by rw [h1] at e; injection e with e; injection e with e1 e2 e3; rw [upd_same, e2]; have := congrArg (List.lookup ("kept" : Str)) e3; rw [kf_kept, kf_kept] at this; injection this with this; injection this with this; rw [this]) fun b o e nb => by rw [upd_ne nb]; exact e
theorem ok_Keeper_rise (F : MDef K C_Keeper "rise" "Keeper.rise" s_Keeper_rise ["self"]) (T : Txt K mg C_Council C_Down C_GateError C_InTheWay C_Keeper C_NotFree C_OldNumber C_UnknownKeeper) : MHas P w K mg base CX0 1 C_Keeper "rise" ["self"] (spFall C_Keeper true) := by
  refine F.ok sc_Keeper_rise (fun vs H Q E h => ?_) (fun f cdv A outer s H vs Q E hr h => ?_)
  · obtain ⟨k, u, t, L, rfl, _⟩ := h
    rfl
  · obtain ⟨k, u, t, L, rfl, hk, q⟩ := h
    refine ⟨_, (pss_one (ps_fld (pv 0) pe_bl rfl)), ?_⟩
    walk_at "rd"
    obtain ⟨⟨dx, l, h1, h2⟩, hn, hlen⟩ := id hk
    refine ⟨_, _, _, h1, T.cl_Keeper, T.n_Keeper_up, by show (3 : Nat) < 1000; decide, ?_⟩
    rw [kf_put_up]
    exact q _ (fallen hk h1 h2) (fun dx' l' e => by rw [h1] at e; injection e with e; injection e with e1 e2 e3; rw [upd_same, e2]; have := congrArg (List.lookup ("kept" : Str)) e3; rw [kf_kept, kf_kept] at this; injection this with this; injection this with this; rw [this]) fun b o e nb => by rw [upd_ne nb]; exact e
/-! notes without their places -/
def liveN (tick : Int) (N : List Nt) : List Nt := N.filter fun x => decide (tick < x.e)
def freeN (N : List Nt) (hd lk : Str) (sh : Bool) (tick : Int) : Bool := !((liveN tick N).any fun x => blocks hd lk sh x)
def keptN (hd lk : Str) (N : List Nt) : List Nt := N.filter fun x => !(decide (x.h = hd) && decide (x.l = lk))
theorem livef_map (tick : Int) (L : NL) : (livef tick L).map (·.2) = liveN tick (L.map (·.2)) := by
  unfold livef liveN
  rw [List.filter_map]
  rfl
theorem freeOf_map (L : NL) (hd lk : Str) (sh : Bool) (tick : Int) : freeOf L hd lk sh tick = freeN (L.map (·.2)) hd lk sh tick := by
  unfold freeOf freeN
  rw [← livef_map, List.any_map]
  rfl
theorem keptf_map (hd lk : Str) (L : NL) : (keptf hd lk L).map (·.2) = keptN hd lk (L.map (·.2)) := by
  unfold keptf keptN
  rw [List.filter_map]
  rfl
/-- a keeper's state, without places -/
structure KN where
  u : Bool
  t : Int
  N : List Nt
theorem KeeperAt.but {C k k2 dx : Addr} {fs : List (Str × V)} {H H' : Hp} {u : Bool} {t : Int} {L : NL} (h : KeeperAt C H k2 u t L) (b : But k H H') (hk : H k = some (.ins C dx fs)) (ne : k2 ≠ k) : KeeperAt C H' k2 u t L := by
  obtain ⟨⟨dx2, l, h1, h2⟩, hn, hl⟩ := h
  have nl : l ≠ k := fun z => by rw [z, hk] at h2; cases h2
  refine ⟨⟨dx2, l, b _ _ h1 ne, b _ _ h2 nl⟩, ⟨fun q hq => b _ _ (hn.tu q hq) fun z => ?_, hn.sm⟩, hl⟩
  have := hn.tu q hq
  rw [z, hk] at this
  cases this
theorem n5 : ¬ (("keepers" : Str) = "most") := by decide +kernel
def cf (l : Addr) (m : Int) : List (Str × V) := [("keepers", .ref l), ("most", .int m)]
theorem cf_keepers (l : Addr) (m : Int) : (cf l m).lookup ("keepers" : Str) = some (.ref l) := by simp [cf, List.lookup_cons]
theorem cf_most (l : Addr) (m : Int) : (cf l m).lookup ("most" : Str) = some (.int m) := by
  have e : (("most" : Str) == "keepers") = false := by decide +kernel
  simp [cf, List.lookup_cons, e]
theorem cf_no (l : Addr) (m : Int) {x : Str} (h1 : (x == "keepers") = false) (h2 : (x == "most") = false) : (cf l m).lookup x = none := by
  simp [cf, List.lookup_cons, h1, h2]
theorem cf_mk (l : Addr) (m : Int) : putF "most" (.int m) (putF "keepers" (.ref l) []) = cf l m := by simp [putF, cf, n5]
/-- a keeper of a state stands at k, its notes at l -/
def KAt (C : Addr) (H : Hp) (k l : Addr) (s : KN) : Prop := (∃ dx, H k = some (.ins C dx (kf s.u s.t l))) ∧ ∃ L : NL, L.map (·.2) = s.N ∧ KeeperAt C H k s.u s.t L
theorem KAt.mono {C : Addr} {H H' : Hp} {k l : Addr} {s : KN} (h : KAt C H k l s) (e : Same H H') : KAt C H' k l s := let ⟨⟨dx, z⟩, L, a, b⟩ := h; ⟨⟨dx, e _ _ z⟩, L, a, b.mono e⟩
theorem KAt.ob {C : Addr} {H : Hp} {k l : Addr} {s : KN} (h : KAt C H k l s) : ∃ dx fs, H k = some (.ins C dx fs) := let ⟨⟨dx, z⟩, _⟩ := h; ⟨dx, _, z⟩
theorem kf_inj {u u' : Bool} {t t' : Int} {l l' : Addr} (h : kf u t l = kf u' t' l') : l = l' := by
  have := congrArg (List.lookup ("kept" : Str)) h
  rw [kf_kept, kf_kept] at this
  injection this with this
  injection this
theorem KAt.list {C : Addr} {H : Hp} {k l : Addr} {s : KN} (h : KAt C H k l s) : ∃ xs, H l = some (.lst xs) := by
  obtain ⟨⟨dx, z⟩, L, -, ⟨dx', l', h1, h2⟩, -, -⟩ := h
  rw [z] at h1
  injection h1 with h1
  injection h1 with a b c
  rw [kf_inj c]
  exact ⟨_, h2⟩
/-- another list is changed -/
theorem KAt.upd {C : Addr} {H : Hp} {k l p : Addr} {s : KN} {xs : List V} {o : HO} (h : KAt C H k l s) (hp : H p = some (.lst xs)) (hn : l ≠ p) : KAt C (upd H p o) k l s := by
  obtain ⟨⟨dx, z⟩, L, e, ⟨dx', l', h1, h2⟩, hn', hl⟩ := h
  have el : l' = l := by
    rw [z] at h1
    injection h1 with h1
    injection h1 with a b c
    exact (kf_inj c).symm
  have nk : k ≠ p := fun q => by rw [q, hp] at z; cases z
  refine ⟨⟨dx, by rw [upd_ne nk]; exact z⟩, L, e, ⟨dx', l', by rw [upd_ne nk]; exact h1, by rw [upd_ne (by rw [el]; exact hn)]; exact h2⟩, ⟨fun q hq => ?_, hn'.sm⟩, hl⟩
  have nq : q.1 ≠ p := fun y => by have := hn'.tu q hq; rw [y, hp] at this; cases this
  rw [upd_ne nq]
  exact hn'.tu q hq
structure CAt (CC CK : Addr) (H : Hp) (c l : Addr) (ks ls : List Addr) (ss : List KN) : Prop where
  ob : ∃ dx, H c = some (.ins CC dx (cf l ((ks.length : Int) / 2 + 1)))
  li : H l = some (.lst (ks.map V.ref))
  kp : ∀ (i : Nat) (k : Addr), ks[i]? = some k → ∃ s l', ss[i]? = some s ∧ ls[i]? = some l' ∧ KAt CK H k l' s
  nd : ks.Nodup
  ln : ss.length = ks.length
  l2 : ls.length = ks.length
  sz : ks.length ≤ 100
theorem CAt.mono {CC CK : Addr} {H H' : Hp} {c l : Addr} {ks ls : List Addr} {ss : List KN} (h : CAt CC CK H c l ks ls ss) (s : Same H H') : CAt CC CK H' c l ks ls ss := by
  obtain ⟨⟨dx, h1⟩, h2, h3, h4, h5, h6, h7⟩ := h
  exact ⟨⟨dx, s _ _ h1⟩, s _ _ h2, fun i k e => (let ⟨u, l', e1, e2, e3⟩ := h3 i k e; ⟨u, l', e1, e2, e3.mono s⟩), h4, h5, h6, h7⟩
/-- a list that is none of the council's is changed -/
theorem CAt.upd {CC CK : Addr} {H : Hp} {c l p : Addr} {ks ls : List Addr} {ss : List KN} {xs : List V} {o : HO} (h : CAt CC CK H c l ks ls ss) (hp : H p = some (.lst xs)) (n1 : l ≠ p) (n2 : p ∉ ls) : CAt CC CK (upd H p o) c l ks ls ss := by
  obtain ⟨⟨dx, h1⟩, h2, h3, h4, h5, h6, h7⟩ := h
  refine ⟨⟨dx, by rw [upd_ne (fun q => by rw [q, hp] at h1; cases h1)]; exact h1⟩, by rw [upd_ne n1]; exact h2, fun i k e => ?_, h4, h5, h6, h7⟩
  obtain ⟨u, l', e1, e2, e3⟩ := h3 i k e
  exact ⟨u, l', e1, e2, e3.upd hp fun q => n2 (q ▸ List.mem_of_getElem? e2)⟩
/-- the notes' lists: as they were, or new -/
def LsOk (H : Hp) (ls ls' : List Addr) : Prop := ∀ x ∈ ls', x ∈ ls ∨ H x = none
theorem LsOk.refl (H : Hp) (ls : List Addr) : LsOk H ls ls := fun x hx => .inl hx
/-- all but the keepers themselves is as it was -/
def ButK (ks : List Addr) (H H' : Hp) : Prop := ∀ b o, H b = some o → b ∉ ks → H' b = some o
theorem ButK.of {ks : List Addr} {H H' : Hp} (s : Same H H') : ButK ks H H' := fun b o e _ => s b o e
theorem ButK.trans {ks : List Addr} {H H1 H2 : Hp} (a : ButK ks H H1) (b : ButK ks H1 H2) : ButK ks H H2 := fun c o e n => b c o (a c o e n) n
theorem ButK.but {ks : List Addr} {H H' : Hp} {k : Addr} (b : But k H H') (h : k ∈ ks) : ButK ks H H' := fun c o e n => b c o e fun z => n (z ▸ h)
theorem CAt.mem {CC CK : Addr} {H : Hp} {c l : Addr} {ks ls : List Addr} {ss : List KN} (h : CAt CC CK H c l ks ls ss) {k : Addr} (hk : k ∈ ks) : ∃ dx fs, H k = some (.ins CK dx fs) := by
  obtain ⟨j, hj, e⟩ := List.getElem_of_mem hk
  obtain ⟨s, l', -, -, hs⟩ := h.kp j k (by rw [List.getElem?_eq_getElem hj, e])
  exact hs.ob
theorem CAt.lsome {CC CK : Addr} {H : Hp} {c l : Addr} {ks ls : List Addr} {ss : List KN} (h : CAt CC CK H c l ks ls ss) {x : Addr} (hx : x ∈ ls) : ∃ xs, H x = some (.lst xs) := by
  obtain ⟨j, hj, e⟩ := List.getElem_of_mem hx
  obtain ⟨s, l', -, e2, hs⟩ := h.kp j _ (List.getElem?_eq_getElem (by rw [← h.l2]; exact hj))
  rw [List.getElem?_eq_getElem hj] at e2
  injection e2 with e2
  rw [← e, e2]
  exact hs.list
theorem set_same {α : Type} {xs : List α} {i : Nat} {x : α} (h : xs[i]? = some x) : xs.set i x = xs := by
  apply List.ext_getElem?
  intro j
  by_cases hj : j = i
  · subst hj
    rw [List.getElem?_set_self (List.getElem?_eq_some_iff.mp h).1, h]
  · rw [List.getElem?_set_ne (Ne.symm hj)]
theorem CAt.set {CC CK : Addr} {H H' : Hp} {c l k l1 : Addr} {ks ls : List Addr} {ss : List KN} {j : Nat} {s : KN} (h : CAt CC CK H c l ks ls ss) (hj : ks[j]? = some k) (hk : KAt CK H' k l1 s) (hb : But k H H') : CAt CC CK H' c l ks (ls.set j l1) (ss.set j s) := by
  obtain ⟨s0, l0, hu, hl0, hku⟩ := h.kp j k hj
  obtain ⟨dxk, fk, h1⟩ := hku.ob
  obtain ⟨dx, hob⟩ := h.ob
  have hjl : j < ks.length := (List.getElem?_eq_some_iff.mp hj).1
  refine ⟨⟨dx, hb _ _ hob fun z => ?_⟩, hb _ _ h.li fun z => ?_, fun i k2 e => ?_, h.nd, by rw [List.length_set]; exact h.ln, by rw [List.length_set]; exact h.l2, h.sz⟩
  · rw [z, h1] at hob
    injection hob with hob
    injection hob with a1 a2 a3
    subst a1
    obtain ⟨⟨dy, g1⟩, -⟩ := hku
    rw [h1] at g1
    injection g1 with g1
    injection g1 with b1 b2 b3
    rw [b3] at a3
    have := congrArg (List.lookup ("up" : Str)) a3
    rw [kf_up, cf_no _ _ (by decide +kernel) (by decide +kernel)] at this
    cases this
  · have := h.li
    rw [z, h1] at this
    cases this
  · by_cases hij : i = j
    · subst hij
      rw [hj] at e
      cases e
      exact ⟨s, l1, by rw [List.getElem?_set_self (by rw [h.ln]; exact hjl)], by rw [List.getElem?_set_self (by rw [h.l2]; exact hjl)], hk⟩
    · obtain ⟨u2, l2', e2, e2', ⟨dx2, z2⟩, L2, e3, hk2⟩ := h.kp i k2 e
      have nk2 : k2 ≠ k := fun z => hij ?_
      · exact ⟨u2, l2', by rw [List.getElem?_set_ne (Ne.symm hij)]; exact e2, by rw [List.getElem?_set_ne (Ne.symm hij)]; exact e2', ⟨dx2, hb _ _ z2 nk2⟩, L2, e3, hk2.but hb h1 nk2⟩
      have hil : i < ks.length := (List.getElem?_eq_some_iff.mp e).1
      have ei : ks[i] = k := by rw [← z]; exact (List.getElem?_eq_some_iff.mp e).2
      have ej : ks[j] = k := (List.getElem?_eq_some_iff.mp hj).2
      rcases Nat.lt_trichotomy i j with y | y | y
      · exact absurd (ei.trans ej.symm) (List.pairwise_iff_getElem.mp h.nd i j hil hjl y)
      · exact y
      · exact absurd (ej.trans ei.symm) (List.pairwise_iff_getElem.mp h.nd j i hjl hil y)
def fresh0 (n : Nat) : List KN := List.replicate n ⟨true, 0, []⟩
def spCInit (CC CK : Addr) : Sp := fun vs H Q _ => ∃ (c dx : Addr) (n : Nat), vs = [.ref c, .int n] ∧ n ≤ 100 ∧ H c = some (.ins CC dx []) ∧ ∀ (l : Addr) (ks ls : List Addr) (H' : Hp), ks.length = n → CAt CC CK H' c l ks ls (fresh0 n) → (∀ b o, H b = some o → b ≠ c → H' b = some o) → (∀ k ∈ ks, H k = none) → (∀ x ∈ ls, H x = none) → H l = none → Q .non H'
theorem ok_Council___init__ (F : KDef K C_Council "Council.__init__" s_Council___init__ ["self", "many"]) (T : Txt K mg C_Council C_Down C_GateError C_InTheWay C_Keeper C_NotFree C_OldNumber C_UnknownKeeper) (G_Keeper___init__ : KHas P w K mg base 1 C_Keeper ["self"] (spInit C_Keeper)) : KHas P w K mg base 3 C_Council ["self", "many"] (spCInit C_Council C_Keeper) := by
  refine F.ok sc_Council___init__ (fun vs H Q E h => ?_) (fun f cdv A outer s H vs Q E hr h => ?_)
  · obtain ⟨c, dx, n, rfl, _⟩ := h
    rfl
  · obtain ⟨c, dx, n, rfl, hn, hc, q⟩ := h
    refine ⟨_, (pss_cons (ps_fld (pv 0) (pe_comp (x := "place") (cap := []) (js := []) rfl ⟨rfl, by decide +kernel, by decide +kernel, rfl, freeOk_free rfl, by decide +kernel, trivial⟩ (pi_range1 rfl T.b_range (pa_cons (pv 1) pa_nil)) (fun _ _ _ _ => pif_nil) (fun _ _ _ _ => (pe_new0 G_Keeper___init__ (hr.mono (by decide)) rfl T.g_Keeper))) rfl)
      (pss_one (ps_fld (pv 0) (pe_op op_add (pe_op op_fdiv (pe_callB call_len_seq rfl T.b_len (by decide +kernel) (pa_cons (pe_fld (pv 0) rfl) pa_nil)) pe_int) pe_int) rfl))), ?_⟩
    walk_at "rd"
    refine ⟨⟨by omega, by omega⟩, ?_⟩
    rw [Int.toNat_natCast]
    refine compgo_range (small_size' (by omega)) (fun i acc H' => ∃ ks : List Addr, acc = ks.map V.ref ∧ ks.length = i ∧ ks.Nodup ∧ (∀ k ∈ ks, H k = none ∧ ∃ l1, H l1 = none ∧ KAt C_Keeper H' k l1 ⟨true, 0, []⟩) ∧ Same H H') ⟨[], rfl, rfl, List.nodup_nil, fun k hk => (by cases hk), Same.refl _⟩ ?_ ?_ ?_
    · rintro i acc H' ⟨ks, rfl, rfl, -⟩
      rw [List.length_map]
      exact Nat.le_refl _
    · rintro Nn i acc H' hN hi ⟨ks, rfl, hl, hnd, hks, sH⟩
      walk_at "rd"
      intro x d hx hd hne
      refine ⟨x, d, rfl, upd_same, fun H3 hk3 hz3 hb3 => ⟨rfl, hN _ _ ⟨ks ++ [x], by simp, by simp [hl], ?_, ?_, ?_⟩⟩⟩
      · rw [List.nodup_append]
        refine ⟨hnd, by simp, fun a ha b hb => ?_⟩
        have : b = x := by simpa using hb
        rw [this]
        rintro rfl
        obtain ⟨-, l1, -, ⟨_, e⟩, -⟩ := hks a ha
        rw [e] at hx
        cases hx
      · have s3 : Same H' H3 := fun b o e => by
          have n1 : b ≠ x := ne_of_none e hx
          have n2 : b ≠ d := ne_of_none e hd
          exact hb3 b o (by rw [upd_ne n1, upd_ne n2]; exact e) n1
        intro k hk
        rcases List.mem_append.mp hk with z | z
        · obtain ⟨a1, l1, a2, a3⟩ := hks k z
          exact ⟨a1, l1, a2, a3.mono s3⟩
        · have : k = x := by simpa using z
          subst this
          obtain ⟨dx3, l3, z3, n3⟩ := hz3
          have n3' : H' l3 = none := by
            cases e : H' l3 with
            | none => rfl
            | some o =>
              have na : l3 ≠ k := ne_of_none e hx
              have nb : l3 ≠ d := ne_of_none e hd
              rw [upd_ne na, upd_ne nb, e] at n3
              cases n3
          exact ⟨none_back sH hx, l3, none_back sH n3', ⟨dx3, z3⟩, [], rfl, hk3⟩
      · intro b o e
        have e1 := sH _ _ e
        have n1 : b ≠ x := ne_of_none e1 hx
        have n2 : b ≠ d := ne_of_none e1 hd
        exact hb3 b o (by rw [upd_ne n1, upd_ne n2]; exact e1) n1
    · rintro acc H' ⟨ks, rfl, hl, hnd, hks, sH⟩ p hp
      have s2 := sH.trans (Same.upd (o := .lst (ks.map V.ref)) hp)
      have gp : (upd H' p (.lst (ks.map V.ref))) p = some (.lst (ks.map V.ref)) := upd_same
      have hks2 : ∀ k ∈ ks, H k = none ∧ ∃ l1, H l1 = none ∧ KAt C_Keeper (upd H' p (.lst (ks.map V.ref))) k l1 ⟨true, 0, []⟩ := fun k hk => let ⟨a1, l1, a2, a3⟩ := hks k hk; ⟨a1, l1, a2, a3.mono (Same.upd hp)⟩
      have hp0 : H p = none := none_back sH hp
      generalize upd H' p (.lst (ks.map V.ref)) = H2 at s2 gp hks2 ⊢
      have nkc : ∀ k ∈ ks, k ≠ c := fun k hk z => by have := (hks2 k hk).1; rw [z, hc] at this; cases this
      have gc2 := s2 _ _ hc
      have ncp : c ≠ p := fun z => by rw [z, gp] at gc2; cases gc2
      refine ⟨_, _, _, gc2, T.cl_Council, T.n_Council_keepers, by decide, ?_⟩
      have kk : (putF (Str.ofString "keepers") (V.ref p) []).lookup (Str.ofString "keepers") = some (V.ref p) := by simp [putF, List.lookup_cons]
      have gp1 : (upd H2 c (HO.ins C_Council dx (putF (Str.ofString "keepers") (V.ref p) []))) p = some (.lst (ks.map V.ref)) := by rw [upd_ne ncp.symm]; exact gp
      refine ⟨_, _, _, upd_same, T.cl_Council, T.n_Council_keepers, _, kk, p, rfl, _, .inl (SqL.of gp1), cdiv (by decide) (by decide), _, _, _, upd_same, T.cl_Council, T.n_Council_most, by simp [putF], ?_⟩
      rw [cf_mk, List.length_map]
      have but2 : ∀ b o, H2 b = some o → b ≠ c → (upd (upd H2 c (HO.ins C_Council dx (putF (Str.ofString "keepers") (V.ref p) []))) c (HO.ins C_Council dx (cf p ((ks.length : Int) / 2 + 1)))) b = some o := fun b o e nb => by
        rw [upd_ne nb, upd_ne nb]
        exact e
      obtain ⟨lf, hlf⟩ : ∃ lf : Addr → Addr, ∀ k ∈ ks, H (lf k) = none ∧ KAt C_Keeper H2 k (lf k) ⟨true, 0, []⟩ := by
        refine ⟨fun k => if h : k ∈ ks then Classical.choose (hks2 k h).2 else k, fun k hk => ?_⟩
        simp only [hk, dite_true]
        exact Classical.choose_spec (hks2 k hk).2
      refine q p ks (ks.map lf) _ hl ⟨⟨dx, upd_same⟩, but2 _ _ gp ncp.symm, fun i k e => ⟨⟨true, 0, []⟩, lf k, ?_, by rw [List.getElem?_map, e]; rfl, ?_⟩, hnd, by unfold fresh0; rw [List.length_replicate, hl], List.length_map _, by omega⟩ (fun b o e nb => but2 b o (s2 _ _ e) nb) (fun k hk => (hks2 k hk).1) (fun x hx => ?_) hp0
      · have := (List.getElem?_eq_some_iff.mp e).1
        unfold fresh0
        rw [List.getElem?_replicate, if_pos (by omega)]
      · obtain ⟨⟨dz, z⟩, L, eL, ⟨dk, lk, a1, a2⟩, a3, a4⟩ := (hlf k (List.mem_of_getElem? e)).2
        have nk := nkc k (List.mem_of_getElem? e)
        have eL0 : L = [] := List.map_eq_nil_iff.mp eL
        subst eL0
        exact ⟨⟨dz, but2 _ _ z nk⟩, [], rfl, ⟨dk, lk, but2 _ _ a1 nk, but2 _ _ a2 fun z => by rw [z, gc2] at a2; cases a2⟩, ⟨fun y hy => (by cases hy), fun y hy => (by cases hy)⟩, a4⟩
      · obtain ⟨k, hk, rfl⟩ := List.mem_map.mp hx
        exact (hlf k hk).1
def spAtK (CC CK CU : Addr) : Sp := fun vs H Q E => ∃ (c l : Addr) (ks ls : List Addr) (ss : List KN) (p : Int), vs = [.ref c, .int p] ∧ CAt CC CK H c l ks ls ss ∧ (¬ (1 ≤ p ∧ p ≤ (ks.length : Int)) → E (.ref CU) none H) ∧ (∀ (j : Nat) (k : Addr), p = (j : Int) + 1 → ks[j]? = some k → Q (.ref k) H)
theorem ok_Council_keeper_at (F : MDef K C_Council "keeper_at" "Council.keeper_at" s_Council_keeper_at ["self", "place"]) (T : Txt K mg C_Council C_Down C_GateError C_InTheWay C_Keeper C_NotFree C_OldNumber C_UnknownKeeper) : MHas P w K mg base (CX1 P w) 1 C_Council "keeper_at" ["self", "place"] (spAtK C_Council C_Keeper C_UnknownKeeper) := by
  refine F.okx sc_Council_keeper_at (fun vs H Q E h => ?_) (fun f cdv A outer s H vs Q E hr h => ?_)
  · obtain ⟨c, l, ks, ls, us, p, rfl, _⟩ := h
    rfl
  · obtain ⟨c, l, ks, ls, us, p, rfl, hc, e1, q⟩ := h
    refine ⟨_, (pss_cons (ps_if (pt_not (pt_chain op_le op_le pe_int (pv 1) (pe_callB call_len_seq rfl T.b_len (by decide +kernel) (pa_cons (pe_fld (pv 0) rfl) pa_nil)))) (pss_one (ps_raise throws_cx rfl PySem.F.excBase_ValueError T.x_UnknownKeeper rfl T.g_UnknownKeeper (pa_cons pe_str pa_nil))) pss_nil)
      (pss_one (ps_ret (pe_ix ix_list (pe_fld (pv 0) rfl) (pe_op op_sub (pv 1) pe_int) (fun _ _ => rfl))))), ?_⟩
    walk_at "rd"
    obtain ⟨dx, hob⟩ := hc.ob
    by_cases h1 : 1 ≤ p
    · rw [if_pos (by simpa using h1)]
      refine ⟨_, _, _, hob, T.cl_Council, T.n_Council_keepers, _, cf_keepers _ _, l, rfl, _, .inl (SqL.of hc.li), ?_⟩
      rw [List.length_map]
      by_cases h2 : p ≤ (ks.length : Int)
      · rw [if_neg (by simpa using h2)]
        obtain ⟨j, ej⟩ := Int.eq_ofNat_of_zero_le (show 0 ≤ p - 1 by omega)
        have hj : j < ks.length := by omega
        refine ⟨_, _, _, hob, T.cl_Council, T.n_Council_keepers, _, cf_keepers _ _, l, _, _, _, rfl, rfl, SqL.of hc.li, by rw [ej]; exact atI_nat (v := V.ref ks[j]) (by rw [List.getElem?_map, List.getElem?_eq_getElem hj]; rfl), q j _ (by omega) (List.getElem?_eq_getElem hj)⟩
      · rw [if_pos (by simpa using h2)]
        exact ⟨small_size' (by decide), e1 fun z => h2 z.2⟩
    · rw [if_neg (by simpa using h1), if_pos (by decide)]
      exact ⟨small_size' (by decide), e1 fun z => h1 z.1⟩
def ptup (L : List (Addr × Nat × Addr)) : List V := L.map fun q => V.ref q.1
theorem ptup_len (L : List (Addr × Nat × Addr)) : (ptup L).length = L.length := List.length_map _
theorem ptup_get {L : List (Addr × Nat × Addr)} {i : Nat} {x : V} (hx : (ptup L)[i]? = some x) : ∃ y, L[i]? = some y ∧ x = V.ref y.1 := by
  unfold ptup at hx
  rw [List.getElem?_map] at hx
  cases e : L[i]? with
  | none => rw [e] at hx; cases hx
  | some y => rw [e] at hx; exact ⟨y, rfl, (Option.some.inj hx).symm⟩
def upAt (ss : List KN) (j : Nat) : Bool := match ss[j]? with | some s => s.u | none => false
def upl (ss : List KN) (n : Nat) : List Nat := (List.range n).filter (upAt ss)
theorem upl_len (ss : List KN) (n : Nat) : (upl ss n).length ≤ n := Nat.le_trans (List.length_filter_le _ _) (by rw [List.length_range]; exact Nat.le_refl _)
theorem upl_mem {ss : List KN} {n j : Nat} (h : j ∈ upl ss n) : j < n ∧ upAt ss j = true := ⟨List.mem_range.mp (List.mem_filter.mp h).1, (List.mem_filter.mp h).2⟩
theorem upl_nodup (ss : List KN) (n : Nat) : (upl ss n).Nodup := List.Nodup.sublist List.filter_sublist List.nodup_range
/-- the pairs (number, keeper) of those that are up -/
structure Pairs (H : Hp) (ks : List Addr) (ss : List KN) (L : List (Addr × Nat × Addr)) : Prop where
  mp : L.map (·.2.1) = upl ss ks.length
  tu : ∀ q ∈ L, H q.1 = some (.tup [.int ((q.2.1 : Int) + 1), .ref q.2.2])
  at_ : ∀ q ∈ L, ks[q.2.1]? = some q.2.2
theorem Pairs.mono {H H' : Hp} {ks : List Addr} {ss : List KN} {L : List (Addr × Nat × Addr)} (h : Pairs H ks ss L) (s : Same H H') : Pairs H' ks ss L := ⟨h.mp, fun q hq => s _ _ (h.tu q hq), h.at_⟩
theorem Pairs.len {H : Hp} {ks : List Addr} {ss : List KN} {L : List (Addr × Nat × Addr)} (h : Pairs H ks ss L) : L.length ≤ ks.length := by
  have := congrArg List.length h.mp
  rw [List.length_map] at this
  rw [this]
  exact upl_len _ _
theorem Pairs.take {H : Hp} {ks : List Addr} {ss : List KN} {L : List (Addr × Nat × Addr)} (h : Pairs H ks ss L) (i : Nat) : (L.take i).map (·.2.1) = (upl ss ks.length).take i := by rw [List.map_take, h.mp]
def spUpK (CC CK : Addr) : Sp := fun vs H Q _ => ∃ (c l : Addr) (ks ls : List Addr) (ss : List KN), vs = [.ref c] ∧ CAt CC CK H c l ks ls ss ∧ ∀ (r : Addr) (L : List (Addr × Nat × Addr)) (H' : Hp), Pairs H' ks ss L → H r = none → H' r = some (.lst (ptup L)) → Same H H' → Q (.ref r) H'
theorem ok_Council_up_keepers (F : MDef K C_Council "up_keepers" "Council.up_keepers" s_Council_up_keepers ["self"]) (T : Txt K mg C_Council C_Down C_GateError C_InTheWay C_Keeper C_NotFree C_OldNumber C_UnknownKeeper) : MHas P w K mg base CX0 1 C_Council "up_keepers" ["self"] (spUpK C_Council C_Keeper) := by
  refine F.ok sc_Council_up_keepers (fun vs H Q E h => ?_) (fun f cdv A outer s H vs Q E hr h => ?_)
  · obtain ⟨c, l, ks, ls, us, rfl, _⟩ := h
    rfl
  · obtain ⟨c, l, ks, ls, us, rfl, hc, q⟩ := h
    refine ⟨_, (pss_one (ps_ret (pe_comp2 (x := "place") (y2 := "keeper") (cap := []) (js := []) rfl ⟨rfl, by decide +kernel, by decide +kernel, rfl, rfl, freeOk_free rfl, by decide +kernel, trivial⟩ (fun _ _ _ _ => pg_pair_k (K := K) rfl (pgs_cons (pg_name (i := 0) (show List.Nodup [("place" : Str), ("keeper" : Str)] from by decide +kernel) rfl (Or.inl rfl)) (pgs_cons (pg_name (i := 1) (show List.Nodup [("place" : Str), ("keeper" : Str)] from by decide +kernel) rfl (Or.inl rfl)) pgs_nil))) (pi_enum1 rfl T.b_enumerate (pa_cons (pe_fld (pv 0) rfl) pa_nil) (pk_cons pe_int pk_nil)) (fun _ _ _ _ => (pif_one (pt_val (pe_fld_k (K := K) (pv 1) rfl)))) (fun _ _ _ _ => (pe_tup (pa_cons (pv 0) (pa_cons (pv 1) pa_nil))))))), ?_⟩
    walk_at "rd"
    obtain ⟨dx, hob⟩ := hc.ob
    have hsz := hc.sz
    refine ⟨_, _, _, hob, T.cl_Council, T.n_Council_keepers, _, cf_keepers _ _, l, rfl, _, SqL.of hc.li, ?_⟩
    refine compgo2_enum (xs := ks.map V.ref) (by rw [List.length_map]; exact small_size' (by omega)) (fun i acc H' => ∃ L : List (Addr × Nat × Addr), acc = ptup L ∧ L.map (·.2.1) = upl us i ∧ (∀ q ∈ L, H' q.1 = some (.tup [.int ((q.2.1 : Int) + 1), .ref q.2.2]) ∧ ks[q.2.1]? = some q.2.2) ∧ L.length ≤ i ∧ Same H H') ⟨[], rfl, rfl, fun q hq => (by cases hq), Nat.le_refl _, Same.refl _⟩ ?_ ?_ ?_ ?_
    · rintro i acc H' ⟨L, rfl, -, -, hl, -⟩
      unfold ptup
      rw [List.length_map]
      exact hl
    · rintro i acc H' ⟨L, rfl, -, -, -, sH⟩
      exact SqL.of (sH _ _ hc.li)
    · rintro Nn i acc H' x Ta hN hx hi ⟨L, rfl, hm, hT, hl, sH⟩ hTa
      obtain ⟨k, hk, rfl⟩ : ∃ k, ks[i]? = some k ∧ x = V.ref k := by
        rw [List.getElem?_map] at hx
        cases e : ks[i]? with
        | none => rw [e] at hx; cases hx
        | some k => rw [e] at hx; exact ⟨k, rfl, (Option.some.inj hx).symm⟩
      obtain ⟨s, l1, hu, hl1, -, Ls, -, hku⟩ := hc.kp i k hk
      have sT := Same.upd (o := .tup [V.int ((i : Int) + 1), V.ref k]) hTa
      obtain ⟨⟨dk, lk, a1, a2⟩, -, -⟩ := id (hku.mono (sH.trans sT))
      have eu : upAt us i = s.u := by unfold upAt; rw [hu]
      have step : upl us (i + 1) = upl us i ++ (if s.u = true then [i] else []) := by
        unfold upl
        rw [List.range_succ, List.filter_append]
        congr 1
        rw [List.filter_cons, eu]
        cases s.u <;> rfl
      have hT2 : ∀ q ∈ L, (upd H' Ta (.tup [V.int ((i : Int) + 1), V.ref k])) q.1 = some (.tup [.int ((q.2.1 : Int) + 1), .ref q.2.2]) ∧ ks[q.2.1]? = some q.2.2 := fun q hq => ⟨sT _ _ (hT q hq).1, (hT q hq).2⟩
      refine ⟨Ta, _, rfl, SqT.of upd_same, rfl, ?_⟩
      walk_at "rd"
      refine ⟨_, _, ⟨rfl, rfl⟩, _, _, rfl, rfl, ⟨_, rfl⟩, k, rfl, _, _, _, a1, T.cl_Keeper, T.n_Keeper_up, _, kf_up s.u s.t lk, s.u, rfl, ?_⟩
      cases hsu : s.u with
      | false =>
        rw [hsu] at step
        rw [if_neg Bool.false_ne_true]
        exact hN _ _ ⟨L, rfl, by rw [step, hm]; simp, hT2, by omega, sH.trans sT⟩
      | true =>
        rw [hsu] at step
        rw [if_pos rfl]
        refine ⟨small_size' (by decide), fun pt hpt => hN _ _ ⟨L ++ [(pt, i, k)], by simp [ptup], by rw [step, List.map_append, hm]; rfl, fun y hy => ?_, by rw [List.length_append]; show L.length + 1 ≤ _; omega, (sH.trans sT).trans (Same.upd hpt)⟩⟩
        rcases List.mem_append.mp hy with z | z
        · exact ⟨(Same.upd hpt) _ _ (hT2 y z).1, (hT2 y z).2⟩
        · have : y = (pt, i, k) := by simpa using z
          subst this
          exact ⟨upd_same, hk⟩
    · rintro acc H' ⟨L, rfl, hm, hT, hl, sH⟩ p hp
      rw [List.length_map] at hm
      exact q p L _ ⟨hm, fun y hy => (Same.upd hp) _ _ (hT y hy).1, fun y hy => (hT y hy).2⟩ (none_back sH hp) upd_same (sH.trans (Same.upd hp))
/-- fall and rise: j the place, s the keeper's state ahead of it -/
def spFR (CC CK CU : Addr) (b : Bool) : Sp := fun vs H Q E => ∃ (c l : Addr) (ks ls : List Addr) (ss : List KN) (p : Int), vs = [.ref c, .int p] ∧ CAt CC CK H c l ks ls ss ∧ (¬ (1 ≤ p ∧ p ≤ (ks.length : Int)) → E (.ref CU) none H) ∧
  (∀ (j : Nat) (k : Addr) (s : KN) (H' : Hp), p = (j : Int) + 1 → ks[j]? = some k → ss[j]? = some s → CAt CC CK H' c l ks ls (ss.set j ⟨b, s.t, s.N⟩) → But k H H' → Q (.bl (if b then !s.u else s.u)) H')
theorem ok_Council_fall (F : MDef K C_Council "fall" "Council.fall" s_Council_fall ["self", "keeper"]) (T : Txt K mg C_Council C_Down C_GateError C_InTheWay C_Keeper C_NotFree C_OldNumber C_UnknownKeeper) (G_Keeper_fall : MHas P w K mg base CX0 1 C_Keeper "fall" ["self"] (spFall C_Keeper false)) (G_Council_keeper_at : MHas P w K mg base (CX1 P w) 1 C_Council "keeper_at" ["self", "place"] (spAtK C_Council C_Keeper C_UnknownKeeper)) : MHas P w K mg base (CX1 P w) 2 C_Council "fall" ["self", "keeper"] (spFR C_Council C_Keeper C_UnknownKeeper false) := by
  refine F.okx sc_Council_fall (fun vs H Q E h => ?_) (fun f cdv A outer s H vs Q E hr h => ?_)
  · obtain ⟨c, l, ks, ls, us, p, rfl, _⟩ := h
    rfl
  · obtain ⟨c, l, ks, ls, us, p, rfl, hc, e1, q⟩ := h
    refine ⟨_, (pss_cons (ps_set (i := 2) sc_Council_fall.nd rfl (Or.inl rfl) (pe_mthx passes_cx G_Council_keeper_at T.cl_Council (hr.mono (by decide)) (pv 0) (pa_cons (pv 1) pa_nil)))
      (pss_cons (ps_set (i := 3) sc_Council_fall.nd rfl (Or.inl rfl) (pe_fld (pv 2) rfl))
      (pss_cons (ps_expr (pe_mth0 G_Keeper_fall T.cl_Keeper (hr.mono (by decide)) (pv 2)))
      (pss_one (ps_ret (pv 3)))))), ?_⟩
    walk_at "rd"
    obtain ⟨dx, hob⟩ := hc.ob
    refine ⟨_, _, hob, cf_no _ _ (by decide +kernel) (by decide +kernel), c, l, ks, ls, us, p, rfl, hc, e1, fun j k ej hj => ?_⟩
    obtain ⟨s, l1, hu, hl1, ⟨dk1, z1⟩, Ls, eL, hk⟩ := hc.kp j k hj
    obtain ⟨⟨dk, lk, a1, a2⟩, -, -⟩ := id hk
    refine ⟨k, rfl, _, _, _, a1, T.cl_Keeper, T.n_Keeper_up, _, kf_up s.u s.t lk, k, rfl, _, _, a1, kf_no s.u s.t lk (by decide +kernel) (by decide +kernel) (by decide +kernel), k, s.u, s.t, Ls, rfl, hk, fun H1 hk1 hz1 hb1 => ?_⟩
    have hset := hc.set hj (s := ⟨false, s.t, s.N⟩) ⟨⟨dk1, hz1 _ _ z1⟩, Ls, eL, hk1⟩ hb1
    rw [set_same hl1] at hset
    have := q j k s H1 ej hj hu hset hb1
    simpa using this
theorem ok_Council_rise (F : MDef K C_Council "rise" "Council.rise" s_Council_rise ["self", "keeper"]) (T : Txt K mg C_Council C_Down C_GateError C_InTheWay C_Keeper C_NotFree C_OldNumber C_UnknownKeeper) (G_Keeper_rise : MHas P w K mg base CX0 1 C_Keeper "rise" ["self"] (spFall C_Keeper true)) (G_Council_keeper_at : MHas P w K mg base (CX1 P w) 1 C_Council "keeper_at" ["self", "place"] (spAtK C_Council C_Keeper C_UnknownKeeper)) : MHas P w K mg base (CX1 P w) 2 C_Council "rise" ["self", "keeper"] (spFR C_Council C_Keeper C_UnknownKeeper true) := by
  refine F.okx sc_Council_rise (fun vs H Q E h => ?_) (fun f cdv A outer s H vs Q E hr h => ?_)
  · obtain ⟨c, l, ks, ls, us, p, rfl, _⟩ := h
    rfl
  · obtain ⟨c, l, ks, ls, us, p, rfl, hc, e1, q⟩ := h
    refine ⟨_, (pss_cons (ps_set (i := 2) sc_Council_rise.nd rfl (Or.inl rfl) (pe_mthx passes_cx G_Council_keeper_at T.cl_Council (hr.mono (by decide)) (pv 0) (pa_cons (pv 1) pa_nil)))
      (pss_cons (ps_set (i := 3) sc_Council_rise.nd rfl (Or.inl rfl) (pe_fld (pv 2) rfl))
      (pss_cons (ps_expr (pe_mth0 G_Keeper_rise T.cl_Keeper (hr.mono (by decide)) (pv 2)))
      (pss_one (ps_ret (pe_not (pv 3))))))), ?_⟩
    walk_at "rd"
    obtain ⟨dx, hob⟩ := hc.ob
    refine ⟨_, _, hob, cf_no _ _ (by decide +kernel) (by decide +kernel), c, l, ks, ls, us, p, rfl, hc, e1, fun j k ej hj => ?_⟩
    obtain ⟨s, l1, hu, hl1, ⟨dk1, z1⟩, Ls, eL, hk⟩ := hc.kp j k hj
    obtain ⟨⟨dk, lk, a1, a2⟩, -, -⟩ := id hk
    refine ⟨k, rfl, _, _, _, a1, T.cl_Keeper, T.n_Keeper_up, _, kf_up s.u s.t lk, k, rfl, _, _, a1, kf_no s.u s.t lk (by decide +kernel) (by decide +kernel) (by decide +kernel), k, s.u, s.t, Ls, rfl, hk, fun H1 hk1 hz1 hb1 => ?_⟩
    have hset := hc.set hj (s := ⟨true, s.t, s.N⟩) ⟨⟨dk1, hz1 _ _ z1⟩, Ls, eL, hk1⟩ hb1
    rw [set_same hl1] at hset
    have := q j k s H1 ej hj hu hset hb1
    simpa using this
def spNotes (CC CK CU : Addr) : Sp := fun vs H Q E => ∃ (c l : Addr) (ks ls : List Addr) (ss : List KN) (p tick : Int), vs = [.ref c, .int p, .int tick] ∧ CAt CC CK H c l ks ls ss ∧ (¬ (1 ≤ p ∧ p ≤ (ks.length : Int)) → E (.ref CU) none H) ∧
  (∀ (j : Nat) (s : KN), p = (j : Int) + 1 → ss[j]? = some s → ∀ (r : Addr) (L : NL) (H' : Hp), H r = none → H' r = some (.lst (refs L)) → NotesAt H' L → L.map (·.2) = liveN tick s.N → Same H H' → Q (.ref r) H')
theorem ok_Council_notes (F : MDef K C_Council "notes" "Council.notes" s_Council_notes ["self", "keeper", "tick"]) (T : Txt K mg C_Council C_Down C_GateError C_InTheWay C_Keeper C_NotFree C_OldNumber C_UnknownKeeper) (G_Keeper_live : MHas P w K mg base CX0 1 C_Keeper "live" ["self", "tick"] (spLive C_Keeper)) (G_Council_keeper_at : MHas P w K mg base (CX1 P w) 1 C_Council "keeper_at" ["self", "place"] (spAtK C_Council C_Keeper C_UnknownKeeper)) : MHas P w K mg base (CX1 P w) 2 C_Council "notes" ["self", "keeper", "tick"] (spNotes C_Council C_Keeper C_UnknownKeeper) := by
  refine F.okx sc_Council_notes (fun vs H Q E h => ?_) (fun f cdv A outer s H vs Q E hr h => ?_)
  · obtain ⟨c, l, ks, ls, us, p, tick, rfl, _⟩ := h
    rfl
  · obtain ⟨c, l, ks, ls, us, p, tick, rfl, hc, e1, q⟩ := h
    refine ⟨_, (pss_one (ps_ret (pe_mth G_Keeper_live T.cl_Keeper (hr.mono (by decide)) (pe_mthx passes_cx G_Council_keeper_at T.cl_Council (hr.mono (by decide)) (pv 0) (pa_cons (pv 1) pa_nil)) (pa_cons (pv 2) pa_nil)))), ?_⟩
    walk_at "rd"
    obtain ⟨dx, hob⟩ := hc.ob
    refine ⟨_, _, hob, cf_no _ _ (by decide +kernel) (by decide +kernel), c, l, ks, ls, us, p, rfl, hc, e1, fun j k ej hj => ?_⟩
    obtain ⟨s, l1, hu, hl1, ⟨dk1, z1⟩, Ls, eL, hk⟩ := hc.kp j k hj
    obtain ⟨⟨dk, lk, a1, a2⟩, hn, -⟩ := id hk
    exact ⟨k, rfl, _, _, a1, kf_no s.u s.t lk (by decide +kernel) (by decide +kernel) (by decide +kernel), k, s.u, s.t, Ls, tick, rfl, hk, fun r H1 hr0 hr1 s1 => q j s ej hu r (livef tick Ls) H1 hr0 hr1 ((hn.mono s1).sub fun q h => (List.mem_filter.mp h).1) (by rw [livef_map, eL]) s1⟩
def frAt (ss : List KN) (hd lk : Str) (sh : Bool) (tick : Int) (j : Nat) : Bool := match ss[j]? with | some s => freeN s.N hd lk sh tick | none => false
/-- the places of those that are up and say that it is free -/
def sayl (ss : List KN) (n : Nat) (hd lk : Str) (sh : Bool) (tick : Int) : List Nat := (upl ss n).filter (frAt ss hd lk sh tick)
def plus1 (js : List Nat) : List V := js.map fun (j : Nat) => V.int ((j : Int) + 1)
theorem sayl_len (ss : List KN) (n : Nat) (hd lk : Str) (sh : Bool) (tick : Int) : (sayl ss n hd lk sh tick).length ≤ n := Nat.le_trans (List.length_filter_le _ _) (upl_len _ _)
def Small (ss : List KN) : Prop := ∀ s ∈ ss, s.N.length ≤ 62
def spSayers (CC CK : Addr) : Sp := fun vs H Q _ => ∃ (c l : Addr) (ks ls : List Addr) (ss : List KN) (hd lk : Str) (sh : Bool) (tick : Int), vs = [.ref c, .str hd, .str lk, .bl sh, .int tick] ∧ CAt CC CK H c l ks ls ss ∧ Small ss ∧ lk.length ≤ 1000 ∧ ∀ (r : Addr) (H' : Hp), H r = none → H' r = some (.lst (plus1 (sayl ss ks.length hd lk sh tick))) → Same H H' → Q (.ref r) H'
theorem ok_Council_sayers (F : MDef K C_Council "sayers" "Council.sayers" s_Council_sayers ["self", "holder", "lock", "shared", "tick"]) (T : Txt K mg C_Council C_Down C_GateError C_InTheWay C_Keeper C_NotFree C_OldNumber C_UnknownKeeper) (G_Keeper_says_free : MHas P w K mg base CX0 5 C_Keeper "says_free" ["self", "holder", "lock", "shared", "tick"] (spFree C_Keeper)) (G_Council_up_keepers : MHas P w K mg base CX0 1 C_Council "up_keepers" ["self"] (spUpK C_Council C_Keeper)) : MHas P w K mg base CX0 6 C_Council "sayers" ["self", "holder", "lock", "shared", "tick"] (spSayers C_Council C_Keeper) := by
  refine F.ok sc_Council_sayers (fun vs H Q E h => ?_) (fun f cdv A outer s H vs Q E hr h => ?_)
  · obtain ⟨c, l, ks, ls, ss, hd, lk, sh, tick, rfl, _⟩ := h
    rfl
  · obtain ⟨c, l, ks, ls, ss, hd, lk, sh, tick, rfl, hc, hsm, hl, q⟩ := h
    refine ⟨_, (pss_one (ps_ret (pe_comp2 (x := "place") (y2 := "keeper") (cap := ["holder", "lock", "shared", "tick"]) (js := [1, 2, 3, 4]) rfl ⟨rfl, by decide +kernel, by decide +kernel, rfl, rfl, freeOk_free rfl, by decide +kernel, ⟨⟨rfl, Or.inl rfl, rfl⟩, ⟨⟨rfl, Or.inl rfl, rfl⟩, ⟨⟨rfl, Or.inl rfl, rfl⟩, ⟨⟨rfl, Or.inl rfl, rfl⟩, trivial⟩⟩⟩⟩⟩ (fun _ _ _ _ => pg_pair_k (K := K) rfl (pgs_cons (pg_name (i := 0) (show List.Nodup [("place" : Str), ("keeper" : Str), ("holder" : Str), ("lock" : Str), ("shared" : Str), ("tick" : Str)] from by decide +kernel) rfl (Or.inl rfl)) (pgs_cons (pg_name (i := 1) (show List.Nodup [("place" : Str), ("keeper" : Str), ("holder" : Str), ("lock" : Str), ("shared" : Str), ("tick" : Str)] from by decide +kernel) rfl (Or.inl rfl)) pgs_nil))) (pi_list (pe_mth0 G_Council_up_keepers T.cl_Council (hr.mono (by decide)) (pv 0))) (fun _ _ _ _ => (pif_one (pt_val (pe_mth G_Keeper_says_free T.cl_Keeper (hr.mono (by decide)) (pv 1) (pa_cons (pv 2) (pa_cons (pv 3) (pa_cons (pv 4) (pa_cons (pv 5) pa_nil)))))))) (fun _ _ _ _ => (pv 0))))), ?_⟩
    walk_at "rd"
    obtain ⟨dx, hob⟩ := hc.ob
    have hsz := hc.sz
    refine ⟨_, _, hob, cf_no _ _ (by decide +kernel) (by decide +kernel), c, l, ks, ls, ss, rfl, hc, fun r L H1 hL hr0 gr s1 => ⟨r, rfl, ⟨_, SqL.of gr⟩, ?_⟩⟩
    have hll := hL.len
    refine compgo2_list (xs := ptup L) (by rw [ptup_len]; exact small_size' (by omega)) (fun i acc H' => acc = plus1 (((upl ss ks.length).take i).filter (frAt ss hd lk sh tick)) ∧ Same H1 H') ⟨rfl, Same.refl _⟩ ?_ ?_ ?_ ?_
    · rintro i acc H' ⟨rfl, -⟩
      unfold plus1
      rw [List.length_map]
      exact Nat.le_trans (List.length_filter_le _ _) (by rw [List.length_take]; omega)
    · rintro i acc H' ⟨-, s2⟩
      exact SqL.of (s2 _ _ gr)
    · rintro Nn i acc H' x hN hx hi ⟨rfl, s2⟩
      obtain ⟨y, hy, rfl⟩ := ptup_get hx
      have my := List.mem_of_getElem? hy
      refine ⟨y.1, _, rfl, SqT.of (s2 _ _ (hL.tu y my)), rfl, ?_⟩
      walk_at "rd"
      obtain ⟨s, l1, hu, hl1, -, Ls, eL, hk⟩ := (hc.mono (s1.trans s2)).kp y.2.1 y.2.2 (hL.at_ y my)
      obtain ⟨⟨dk, lk', a1, a2⟩, hn, -⟩ := id hk
      have l62 : Ls.length ≤ 62 := by
        have := hsm s (List.mem_of_getElem? hu)
        rw [← eL, List.length_map] at this
        exact this
      have gi : (upl ss ks.length)[i]? = some y.2.1 := by rw [← hL.mp, List.getElem?_map, hy]; rfl
      have stp := filt_step (frAt ss hd lk sh tick) gi
      have ef : frAt ss hd lk sh tick y.2.1 = freeOf Ls hd lk sh tick := by
        unfold frAt
        rw [hu, freeOf_map, eL]
      refine ⟨_, _, ⟨rfl, rfl⟩, _, _, rfl, rfl, ⟨_, rfl⟩, _, rfl, _, _, a1, kf_no s.u s.t lk' (by decide +kernel) (by decide +kernel) (by decide +kernel), y.2.2, s.u, s.t, Ls, hd, lk, sh, tick, rfl, hk, by omega, hl, fun H3 s3 => ⟨_, rfl, ?_⟩⟩
      cases hf : freeOf Ls hd lk sh tick with
      | true =>
        rw [if_pos rfl]
        refine hN _ _ ⟨?_, s2.trans s3⟩
        rw [stp, ef, hf]
        simp [plus1]
      | false =>
        rw [if_neg Bool.false_ne_true]
        refine hN _ _ ⟨?_, s2.trans s3⟩
        rw [stp, ef, hf]
        simp
    · rintro acc H' ⟨rfl, s2⟩ p hp
      have e : (upl ss ks.length).take (ptup L).length = upl ss ks.length := by
        rw [ptup_len, ← hL.take, List.take_length, hL.mp]
      rw [e]
      exact q p _ (none_back (s1.trans s2) hp) upd_same ((s1.trans s2).trans (Same.upd hp))
/-- m is the greatest top of those that are up -/
def IsTop (ss : List KN) (m : Int) : Prop := (∃ s ∈ ss, s.u = true ∧ s.t = m) ∧ ∀ s ∈ ss, s.u = true → s.t ≤ m
/-- the note x is taken by those at the places of sl -/
def giveN (ss : List KN) (sl : List Nat) (x : Nt) : List KN := ss.mapIdx fun j s => if j ∈ sl then ⟨s.u, x.n, keptN x.h x.l s.N ++ [x]⟩ else s
theorem giveN_nil (ss : List KN) (x : Nt) : giveN ss [] x = ss := by
  unfold giveN
  apply List.ext_getElem?
  intro i
  rw [List.getElem?_mapIdx]
  simp
theorem giveN_succ {ss : List KN} {sl : List Nat} {x : Nt} {i j : Nat} {s : KN} (hj : sl[i]? = some j) (hs : ss[j]? = some s) (nd : sl.Nodup) : giveN ss (sl.take (i + 1)) x = (giveN ss (sl.take i) x).set j ⟨s.u, x.n, keptN x.h x.l s.N ++ [x]⟩ ∧ (giveN ss (sl.take i) x)[j]? = some s := by
  have nj : j ∉ sl.take i := fun h => by
    obtain ⟨k, hk, e⟩ := List.getElem_of_mem h
    rw [List.length_take] at hk
    have e2 : sl[k]? = some j := by rw [List.getElem_take] at e; rw [List.getElem?_eq_getElem (by omega), e]
    have := (List.getElem?_inj (by omega) nd).mp (e2.trans hj.symm)
    omega
  constructor
  · unfold giveN
    apply List.ext_getElem?
    intro k
    rw [List.getElem?_mapIdx, List.take_succ, hj]
    by_cases hk : k = j
    · subst hk
      have hl : k < ss.length := (List.getElem?_eq_some_iff.mp hs).1
      rw [List.getElem?_set_self (by rw [List.length_mapIdx]; exact hl), hs]
      simp
    · rw [List.getElem?_set_ne (Ne.symm hk), List.getElem?_mapIdx]
      simp [hk]
  · unfold giveN
    rw [List.getElem?_mapIdx, hs]
    simp [nj]
def spGive (CC CK CN : Addr) : Sp := fun vs H Q E => ∃ (c l : Addr) (ks ls : List Addr) (ss : List KN) (hd lk : Str) (sh : Bool) (tick time : Int), vs = [.ref c, .str hd, .str lk, .bl sh, .int tick, .int time] ∧ CAt CC CK H c l ks ls ss ∧ Small ss ∧ hd.length ≤ 1000 ∧ lk.length ≤ 1000 ∧
  (((sayl ss ks.length hd lk sh tick).length : Int) < (ks.length : Int) / 2 + 1 → ∀ H', Same H H' → E (.ref CN) none H') ∧
  (¬ ((sayl ss ks.length hd lk sh tick).length : Int) < (ks.length : Int) / 2 + 1 → ∀ (m : Int), IsTop ss m → ∀ (r p : Addr) (ls' : List Addr) (H' : Hp), LsOk H ls ls' → CAt CC CK H' c l ks ls' (giveN ss (sayl ss ks.length hd lk sh tick) ⟨1 + m, hd, lk, sh, tick + time⟩) →
    H' r = some (.tup [.int (1 + m), .ref p]) → H' p = some (.lst (plus1 (sayl ss ks.length hd lk sh tick))) → H r = none → H p = none → ButK ks H H' → Q (.ref r) H')
theorem ok_Council_give (F : MDef K C_Council "give" "Council.give" s_Council_give ["self", "holder", "lock", "shared", "tick", "time"]) (T : Txt K mg C_Council C_Down C_GateError C_InTheWay C_Keeper C_NotFree C_OldNumber C_UnknownKeeper) (G_Keeper_take : MHas P w K mg base (CX1 P w) 6 C_Keeper "take" ["self", "number", "holder", "lock", "shared", "tick", "time"] (spTake C_Keeper C_Down C_OldNumber C_InTheWay)) (G_Council_keeper_at : MHas P w K mg base (CX1 P w) 1 C_Council "keeper_at" ["self", "place"] (spAtK C_Council C_Keeper C_UnknownKeeper)) (G_Council_up_keepers : MHas P w K mg base CX0 1 C_Council "up_keepers" ["self"] (spUpK C_Council C_Keeper)) (G_Council_sayers : MHas P w K mg base CX0 6 C_Council "sayers" ["self", "holder", "lock", "shared", "tick"] (spSayers C_Council C_Keeper)) : MHas P w K mg base (CX1 P w) 7 C_Council "give" ["self", "holder", "lock", "shared", "tick", "time"] (spGive C_Council C_Keeper C_NotFree) := by
  refine F.okx sc_Council_give (fun vs H Q E h => ?_) (fun f cdv A outer s H vs Q E hr h => ?_)
  · obtain ⟨c, l, ks, ls, ss, hd, lk, sh, tick, time, rfl, _⟩ := h
    rfl
  · obtain ⟨c, l, ks, ls, ss, hd, lk, sh, tick, time, rfl, hc, hsm, hh, hl, e1, q⟩ := h
    refine ⟨_, (pss_cons (ps_set (i := 6) sc_Council_give.nd rfl (Or.inl rfl) (pe_mth G_Council_sayers T.cl_Council (hr.mono (by decide)) (pv 0) (pa_cons (pv 1) (pa_cons (pv 2) (pa_cons (pv 3) (pa_cons (pv 4) pa_nil))))))
      (pss_cons (ps_if (pt_cmpR op_lt (pe_callB call_len_seq rfl T.b_len (by decide +kernel) (pa_cons (pv 6) pa_nil)) (pe_fld (pv 0) rfl) (nomark _)) (pss_one (ps_raise throws_cx rfl PySem.F.excBase_ValueError T.x_NotFree rfl T.g_NotFree (pa_cons pe_str pa_nil))) pss_nil)
      (pss_cons (ps_set (i := 7) sc_Council_give.nd rfl (Or.inl rfl) (pe_op op_add pe_int (pe_callB (call_max1 rfl) rfl T.b_max (by decide +kernel) (pa_cons (pe_comp2 (x := "place") (y2 := "keeper") (cap := []) (js := []) rfl ⟨rfl, by decide +kernel, by decide +kernel, rfl, rfl, freeOk_free rfl, by decide +kernel, trivial⟩ (fun _ _ _ _ => pg_pair_k (K := K) rfl (pgs_cons (pg_name (i := 0) (show List.Nodup [("place" : Str), ("keeper" : Str)] from by decide +kernel) rfl (Or.inl rfl)) (pgs_cons (pg_name (i := 1) (show List.Nodup [("place" : Str), ("keeper" : Str)] from by decide +kernel) rfl (Or.inl rfl)) pgs_nil))) (pi_list (pe_mth0 G_Council_up_keepers T.cl_Council (hr.mono (by decide)) (pv 0))) (fun _ _ _ _ => pif_nil) (fun _ _ _ _ => (pe_fld_k (K := K) (pv 1) rfl))) pa_nil))))
      (pss_cons (PS.nox (ps_for PassesOwn.never rfl (pi_list (pv 6)) (pg_name (i := 8) sc_Council_give.nd rfl (Or.inl rfl)) (pss_one (ps_expr (pe_mth (MHas.never G_Keeper_take) T.cl_Keeper (hr.mono (by decide)) (pe_mth (MHas.never G_Council_keeper_at) T.cl_Council (hr.mono (by decide)) (pv 0) (pa_cons (pv 8) pa_nil)) (pa_cons (pv 7) (pa_cons (pv 1) (pa_cons (pv 2) (pa_cons (pv 3) (pa_cons (pv 4) (pa_cons (pv 5) pa_nil)))))))))))
      (pss_one (ps_ret (pe_tup (pa_cons (pv 7) (pa_cons (pv 6) pa_nil))))))))), ?_⟩
    walk_at "rd"
    obtain ⟨dx, hob⟩ := hc.ob
    have hsz := hc.sz
    have hsl := sayl_len ss ks.length hd lk sh tick
    refine ⟨_, _, hob, cf_no _ _ (by decide +kernel) (by decide +kernel), c, l, ks, ls, ss, hd, lk, sh, tick, rfl, hc, hsm, hl, fun r H1 hr0 gr s1 => ?_⟩
    have snd : (sayl ss ks.length hd lk sh tick).Nodup := List.Nodup.sublist List.filter_sublist (upl_nodup _ _)
    have smem : ∀ j ∈ sayl ss ks.length hd lk sh tick, j < ks.length ∧ upAt ss j = true ∧ frAt ss hd lk sh tick j = true := fun j hj => by
      obtain ⟨a, b⟩ := List.mem_filter.mp hj
      exact ⟨(upl_mem a).1, (upl_mem a).2, b⟩
    generalize sayl ss ks.length hd lk sh tick = sl at e1 q gr hsl snd smem
    refine ⟨r, rfl, _, .inl (SqL.of gr), _, _, _, s1 _ _ hob, T.cl_Council, T.n_Council_most, _, cf_most _ _, _, rfl, ?_⟩
    have epl : (plus1 sl).length = sl.length := List.length_map _
    rw [epl]
    by_cases hlt : (sl.length : Int) < (ks.length : Int) / 2 + 1
    · rw [if_pos (decide_eq_true hlt)]
      exact ⟨small_size' (by decide), e1 hlt H1 s1⟩
    rw [if_neg (by simpa using hlt)]
    have q := q hlt
    have hc1 := hc.mono s1
    refine ⟨_, _, s1 _ _ hob, cf_no _ _ (by decide +kernel) (by decide +kernel), c, l, ks, ls, ss, rfl, hc1, fun r2 L H2 hL hr2 gr2 s2 => ⟨r2, rfl, ⟨_, SqL.of gr2⟩, ?_⟩⟩
    have hll := hL.len
    have hc2 := hc1.mono s2
    have stAt : ∀ y ∈ L, ∃ s, ss[y.2.1]? = some s ∧ s.u = true ∧ ∃ dx lk', H2 y.2.2 = some (.ins C_Keeper dx (kf s.u s.t lk')) := fun y hy => by
      obtain ⟨s, l1, hu, hl1, -, Ls, eL, ⟨dk, lk', a1, a2⟩, -, -⟩ := hc2.kp y.2.1 y.2.2 (hL.at_ y hy)
      have hm : y.2.1 ∈ upl ss ks.length := by rw [← hL.mp]; exact List.mem_map_of_mem hy
      have := (upl_mem hm).2
      unfold upAt at this
      rw [hu] at this
      exact ⟨s, hu, this, dk, lk', a1⟩
    refine compgo2_list (xs := ptup L) (by rw [ptup_len]; exact small_size' (by omega)) (fun i acc H' => H2 = H' ∧ ∃ ns : List Int, acc = ns.map V.int ∧ ns.length = (L.take i).length ∧ (∀ x ∈ ns, ∃ s ∈ ss, s.u = true ∧ s.t = x) ∧ ∀ y ∈ L.take i, ∀ s, ss[y.2.1]? = some s → s.t ∈ ns) ⟨rfl, [], rfl, rfl, (fun x hx => by cases hx), (fun y hy => by cases hy)⟩ ?_ ?_ ?_ ?_
    · rintro i acc H' ⟨-, ns, rfl, en, -⟩
      rw [List.length_map, en, List.length_take]
      omega
    · rintro i acc H' ⟨rfl, -⟩
      exact SqL.of gr2
    · rintro Nn i acc H' x hN hx hi ⟨rfl, ns, rfl, en, hn1, hn2⟩
      obtain ⟨y, hy, rfl⟩ := ptup_get hx
      have my := List.mem_of_getElem? hy
      refine ⟨y.1, _, rfl, SqT.of (hL.tu y my), rfl, ?_⟩
      walk_at "rd"
      obtain ⟨s, hu, hup, dk, lk', a1⟩ := stAt y my
      refine ⟨_, _, ⟨rfl, rfl⟩, _, _, rfl, rfl, ⟨_, rfl⟩, y.2.2, rfl, _, _, _, a1, T.cl_Keeper, T.n_Keeper_top, _, kf_top s.u s.t lk', hN _ _ ⟨rfl, ns ++ [s.t], by simp, ?_, fun x hx => ?_, fun z hz s' hs' => ?_⟩⟩
      · rw [List.length_append, en, List.take_succ, hy]
        simp
      · rcases List.mem_append.mp hx with hx | hx
        · exact hn1 x hx
        · have : x = s.t := by simpa using hx
          exact ⟨s, List.mem_of_getElem? hu, hup, this.symm⟩
      · rw [List.take_succ, hy] at hz
        rcases List.mem_append.mp hz with hz | hz
        · exact List.mem_append_left _ (hn2 z hz s' hs')
        · have : z = y := by simpa using hz
          rw [this, hu] at hs'
          cases hs'
          simp
    rintro acc H' ⟨rfl, ns, rfl, en, hn1, hn2⟩ p hp
    rw [ptup_len, List.take_length] at en hn2
    have lsl : 0 < sl.length := by
      have : (0 : Int) ≤ (ks.length : Int) / 2 := Int.ediv_nonneg (by omega) (by decide)
      omega
    obtain ⟨j0, hj0⟩ : ∃ j, j ∈ sl := ⟨sl[0], List.getElem_mem lsl⟩
    have memL : ∀ j, j < ks.length → upAt ss j = true → ∃ y ∈ L, y.2.1 = j := fun j hj hu => by
      have : j ∈ upl ss ks.length := List.mem_filter.mpr ⟨List.mem_range.mpr hj, hu⟩
      rw [← hL.mp] at this
      obtain ⟨y, hy, e⟩ := List.mem_map.mp this
      exact ⟨y, hy, e⟩
    have nne : ns ≠ [] := by
      obtain ⟨a, b, -⟩ := smem j0 hj0
      obtain ⟨y, hy, -⟩ := memL j0 a b
      intro z
      rw [z] at en
      have : L = [] := List.length_eq_zero_iff.mp en.symm
      rw [this] at hy
      cases hy
    have s3 := s2.trans (Same.upd (o := .lst (ns.map V.int)) hp)
    refine ⟨p, rfl, ns, SqL.of upd_same, nne, fun m hm hmax => ⟨r, rfl, ⟨_, SqL.of (s3 _ _ gr)⟩, ?_⟩⟩
    have top : IsTop ss m := ⟨hn1 m hm, fun s hs hup => by
      obtain ⟨j, hj, e⟩ := List.getElem_of_mem hs
      have ej : ss[j]? = some s := by rw [List.getElem?_eq_getElem hj, e]
      obtain ⟨y, hy, e2⟩ := memL j (by rw [← hc.ln]; exact hj) (by unfold upAt; rw [ej]; exact hup)
      exact hmax _ (hn2 y hy s (by rw [e2]; exact ej))⟩
    generalize upd H2 p (.lst (ns.map V.int)) = H3 at s3 ⊢
    have hc3 := hc1.mono s3
    have gr3 := s3 _ _ gr
    refine forgo_list (xs := plus1 sl) (fun i σ H' => ∃ (v8 : Option V) (ls' : List Addr), σ = [some (V.ref c), some (V.str hd), some (V.str lk), some (V.bl sh), some (V.int tick), some (V.int time), some (V.ref r), some (V.int (1 + m)), v8] ∧ LsOk H ls ls' ∧ CAt C_Council C_Keeper H' c l ks ls' (giveN ss (sl.take i) ⟨1 + m, hd, lk, sh, tick + time⟩) ∧ ButK ks H3 H') ⟨_, ls, rfl, LsOk.refl _ _, by rw [List.take_zero, giveN_nil]; exact hc3, fun b o e _ => e⟩ ?_ ?_ ?_
    · rintro i σ H' - ⟨v8, ls', rfl, -, -, b⟩
      refine SqL.of (b _ _ gr3 fun z => ?_)
      obtain ⟨_, _, e⟩ := hc3.mem z
      rw [gr3] at e
      cases e
    · rintro Pv hP i x σ H' hx ⟨v8, ls', rfl, hls, hci, b⟩
      unfold plus1 at hx
      rw [List.getElem?_map] at hx
      cases ej : sl[i]? with
      | none => rw [ej] at hx; cases hx
      | some j =>
      rw [ej] at hx
      cases hx
      walk_at "rd"
      obtain ⟨hjl, hju, hjf⟩ := smem j (List.mem_of_getElem? ej)
      have hjk : ks[j]? = some ks[j] := List.getElem?_eq_getElem hjl
      obtain ⟨s, l1, hs, -, -⟩ := hc3.kp j _ hjk
      obtain ⟨eg, eg2⟩ := giveN_succ (x := ⟨1 + m, hd, lk, sh, tick + time⟩) ej hs snd
      obtain ⟨dxi, hobi⟩ := hci.ob
      refine ⟨_, _, hobi, cf_no _ _ (by decide +kernel) (by decide +kernel), c, l, ks, ls', _, _, rfl, hci, fun z => absurd ⟨by omega, by omega⟩ z, fun j' k' ej' hk' => ?_⟩
      have ejj : j' = j := by omega
      subst ejj
      obtain ⟨s', l2, hs', hl2, -, Ls, eL, hk⟩ := hci.kp j' k' hk'
      rw [eg2] at hs'
      cases hs'
      obtain ⟨⟨dk, lk', a1, a2⟩, hn, -⟩ := id hk
      have l62 : Ls.length ≤ 62 := by
        have := hsm s (List.mem_of_getElem? hs)
        rw [← eL, List.length_map] at this
        exact this
      have hup : s.u = true := by unfold upAt at hju; rw [hs] at hju; exact hju
      have hfr : freeOf Ls hd lk sh tick = true := by unfold frAt at hjf; rw [hs] at hjf; rw [freeOf_map, eL]; exact hjf
      have hlt2 : s.t < 1 + m := by have := top.2 s (List.mem_of_getElem? hs) hup; omega
      refine ⟨k', rfl, _, _, a1, kf_no s.u s.t lk' (by decide +kernel) (by decide +kernel) (by decide +kernel), k', s.u, s.t, Ls, 1 + m, hd, lk, sh, tick, time, rfl, hk, l62, hh, hl, fun z => (by rw [hup] at z; cases z), fun _ z => (by omega), fun _ _ z => (by rw [hfr] at z; cases z), fun _ _ _ pn H5 hpn hk5 hz5 hb5 => ?_⟩
      obtain ⟨dx5, l5, z5, n5'⟩ := hz5
      have n50 : H l5 = none := by
        cases e : H l5 with
        | none => rfl
        | some o =>
          by_cases z : l5 ∈ ks
          · obtain ⟨_, _, e2⟩ := hci.mem z
            rw [n5'] at e2
            cases e2
          · rw [((ButK.of (s1.trans s3)).trans b) _ _ e z] at n5'
            cases n5'
      refine hP _ _ _ ⟨_, ls'.set j' l5, rfl, fun x hx => ?_, ?_, b.trans (ButK.but hb5 (List.mem_of_getElem? hk'))⟩
      · rcases List.mem_or_eq_of_mem_set hx with z | z
        · exact hls x z
        · exact .inr (z ▸ n50)
      rw [eg]
      refine hci.set hk' ⟨⟨dx5, z5⟩, _, ?_, hk5⟩ hb5
      rw [List.map_append, keptf_map, eL]
      rfl
    · rintro σ H' ⟨v8, ls', rfl, hls, hci, b⟩
      walk_at "rd"
      have epl' : (plus1 sl).length = sl.length := List.length_map _
      rw [epl', List.take_length] at hci
      refine ⟨small_size' (by decide), fun pr hpr => ?_⟩
      have nrk : r ∉ ks := fun z => by
        obtain ⟨_, _, e⟩ := hc3.mem z
        rw [gr3] at e
        cases e
      have b0 : ButK ks H H' := (ButK.of (s1.trans s3)).trans b
      have hpr0 : H pr = none := by
        cases e : H pr with
        | none => rfl
        | some o =>
          by_cases z : pr ∈ ks
          · obtain ⟨_, _, e2⟩ := hci.mem z
            rw [hpr] at e2
            cases e2
          · rw [b0 _ _ e z] at hpr
            cases hpr
      exact q m top pr r ls' _ hls (hci.mono (Same.upd hpr)) upd_same (Same.upd hpr _ _ (b _ _ gr3 nrk)) hpr0 hr0 (b0.trans (ButK.of (Same.upd hpr)))
def spAt (K : PySem.W.Frag) : Sp := fun vs H Q _ => ∃ (p : Addr) (ns : List Int) (k : Nat), vs = [.ref p, .int k] ∧ SqL K H p (ns.map V.int) ∧ ns.length ≤ 1000 ∧ Q (.int (ns.getD k 0)) H
theorem ok__law_at (F : Def K mg "_law_at" s__law_at ["_law_script", "_law_k"]) (T : Txt K mg C_Council C_Down C_GateError C_InTheWay C_Keeper C_NotFree C_OldNumber C_UnknownKeeper) : Has P w K mg base 1 "_law_at" ["_law_script", "_law_k"] (spAt K) := by
  refine F.ok sc__law_at (fun vs H Q E h => ?_) (fun f cdv A outer s H vs Q E hr h => ?_)
  · obtain ⟨p, ns, k, rfl, _⟩ := h
    rfl
  · obtain ⟨p, ns, k, rfl, hp, hl, q⟩ := h
    refine ⟨_, (pss_cons (ps_if (pt_cmpR op_lt (pv 1) (pe_callB call_len_seq rfl T.b_len (by decide +kernel) (pa_cons (pv 0) pa_nil)) (nomark _)) (pss_one (ps_ret (pe_ix ix_list (pv 0) (pv 1) (fun _ _ => rfl)))) pss_nil)
      (pss_one (ps_ret pe_int))), ?_⟩
    walk_at "rd"
    refine ⟨_, .inl hp, ?_⟩
    rw [List.length_map]
    by_cases hk : k < ns.length
    · rw [if_pos (by simpa using hk)]
      refine ⟨p, _, _, _, rfl, rfl, hp, atI_nat (v := .int (ns.getD k 0)) ?_, q⟩
      rw [List.getElem?_map, List.getD_eq_getElem?_getD, List.getElem?_eq_getElem hk]
      rfl
    · rw [if_neg (by simpa using hk)]
      have e : ns.getD k 0 = 0 := by rw [List.getD_eq_getElem?_getD, List.getElem?_eq_none (by omega)]; rfl
      rw [← e]
      exact q
def abc : Str := "abcdefghijklmnopqrstuvwxyz0123456789"
theorem abc_all : ∀ n, n < 36 → ∃ c, abc.cps.toList[n]? = some c := by
  intro n hn
  have l : abc.cps.toList.length = 36 := by decide +kernel
  exact ⟨_, List.getElem?_eq_getElem (by omega)⟩
theorem mul_ok {d : Nat} {n : Nat} (h : n ≤ 100) : MulOk ⟨#[d]⟩ (n : Int) := by
  have f : ∀ m : _root_.Fin 101, (decide ((m.val : Int) < 1) || (decide (¬ ((1 : Int) > (2 ^ 63 - 1) / (m.val : Int))) && (Builtin.Str.tooLong (1 * m.val) == false))) = true := by decide +kernel
  have g := f ⟨n, by omega⟩
  dsimp only at g
  rw [Bool.or_eq_true, Bool.and_eq_true] at g
  have l : (⟨#[d]⟩ : Str).length = 1 := rfl
  refine ⟨?_, fun h1 _ => ?_, fun h1 _ => ?_⟩
  · rw [Bool.or_eq_false_iff]
    exact ⟨decide_eq_false (by omega), decide_eq_false (by omega)⟩
  · rcases g with g | g
    · exact absurd (of_decide_eq_true g) h1
    · rw [l]
      exact of_decide_eq_true g.1
  · rcases g with g | g
    · exact absurd (of_decide_eq_true g) h1
    · rw [l, Int.toNat_natCast]
      exact eq_of_beq g.2
theorem fold_rep (d : Nat) : ∀ (m : Nat) (acc : Array Nat), ((List.replicate m #[d]).foldl (· ++ ·) acc).size = acc.size + m
  | 0, acc => rfl
  | m + 1, acc => by
    rw [List.replicate_succ, List.foldl_cons, fold_rep d m, Array.size_append]
    show acc.size + 1 + m = _
    omega
theorem mul_len (d n : Nat) : (Txt.mul ⟨#[d]⟩ (n : Int)).length = n := by
  unfold Txt.mul
  by_cases h1 : (n : Int) < 1
  · rw [if_pos h1]
    have : n = 0 := by omega
    subst this
    rfl
  · rw [if_neg h1]
    by_cases h2 : n = 1
    · subst h2
      rfl
    · rw [if_neg (by simp; exact ⟨by omega, by show ¬ (1 = 0); decide⟩)]
      show ((List.replicate (n : Int).toNat #[d]).foldl (· ++ ·) #[]).size = n
      rw [fold_rep, Int.toNat_natCast]
      show 0 + n = n
      omega
/-- the sign of the alphabet at a place -/
def sgc (j : Int) : Nat := abc.cps.toList.getD (j % 36).toNat 0
theorem sgc_at (j : Int) : atI abc.cps.toList (j % 36) = some (sgc j) := by
  have h0 : 0 ≤ j % 36 := by omega
  have h1 : j % 36 < 36 := by omega
  have e : (((j % 36).toNat : Nat) : Int) = j % 36 := by omega
  obtain ⟨c, hc⟩ := abc_all (j % 36).toNat (by omega)
  have := atI_nat hc
  rw [e] at this
  rw [this]
  unfold sgc
  rw [List.getD_eq_getElem?_getD, hc]
  rfl
theorem sgc_inj {i j : Int} (h : sgc i = sgc j) : i % 36 = j % 36 := by
  have f : ∀ a b : _root_.Fin 36, (abc.cps.toList.getD a.val 0 == abc.cps.toList.getD b.val 0) = (a.val == b.val) := by decide +kernel
  have g := f ⟨(i % 36).toNat, by omega⟩ ⟨(j % 36).toNat, by omega⟩
  dsimp only at g
  unfold sgc at h
  rw [h] at g
  have e : (i % 36).toNat = (j % 36).toNat := by
    have : ((i % 36).toNat == (j % 36).toNat) = true := by rw [← g]; simp
    exact eq_of_beq this
  omega
theorem sgc_no (j : Int) : sgc j ≠ 47 := by
  have f : ∀ a : _root_.Fin 36, (abc.cps.toList.getD a.val 0 == 47) = false := by decide +kernel
  have g := f ⟨(j % 36).toNat, by omega⟩
  intro z
  unfold sgc at z
  dsimp only at g
  rw [z] at g
  cases g
/-- what tells the k-th name of a cell from the others -/
def Tag (c : Int) (k : Nat) (z : Str) : Prop :=
  (c % 3 = 2 ∧ k < 8 ∧ z.length = k + 1 ∧ z.cps.toList[0]? = some (sgc (c / 3))) ∨
  (c % 3 = 2 ∧ 8 ≤ k ∧ z.length = k - 6 ∧ z.cps.toList[0]? = some (sgc (c / 3 + 1))) ∨
  (c % 3 = 1 ∧ z.cps.toList[0]? = some (sgc (c / 3 + 7 * k))) ∨
  (c % 3 = 0 ∧ z.cps.toList[(c / 3 / 8 % (1 + c / 3 % 8)).toNat]? = some (sgc (c / 3 / 2304 + 7 * k)))
theorem Tag.ne {c : Int} {k k' : Nat} {z : Str} (h : Tag c k z) (h' : Tag c k' z) (b : k ≤ 9) (b' : k' ≤ 9) : k = k' := by
  have key : ∀ i j : Int, sgc i = sgc j → i % 36 = j % 36 := fun _ _ e => sgc_inj e
  rcases h with ⟨m, h1, h2, h3⟩ | ⟨m, h1, h2, h3⟩ | ⟨m, h3⟩ | ⟨m, h3⟩ <;> rcases h' with ⟨m', g1, g2, g3⟩ | ⟨m', g1, g2, g3⟩ | ⟨m', g3⟩ | ⟨m', g3⟩ <;>
    first
    | omega
    | (rw [h3] at g3
       have e := key _ _ (Option.some.inj g3)
       omega)
theorem mul_cps (d n : Nat) : (Txt.mul ⟨#[d]⟩ (n : Int)).cps.toList = List.replicate n d := by
  unfold Txt.mul
  by_cases h1 : (n : Int) < 1
  · rw [if_pos h1]
    have : n = 0 := by omega
    subst this
    rfl
  · rw [if_neg h1]
    by_cases h2 : n = 1
    · subst h2
      rfl
    · rw [if_neg (by simp; exact ⟨by omega, by show ¬ (1 = 0); decide⟩)]
      show ((List.replicate (n : Int).toNat #[d]).foldl (· ++ ·) #[]).toList = _
      rw [Int.toNat_natCast]
      have f : ∀ (m : Nat) (acc : Array Nat), ((List.replicate m #[d]).foldl (· ++ ·) acc).toList = acc.toList ++ List.replicate m d := by
        intro m
        induction m with
        | zero => intro acc; simp
        | succ m ih =>
          intro acc
          rw [List.replicate_succ, List.foldl_cons, ih, Array.toList_append, List.replicate_succ]
          simp
      rw [f]
      simp
theorem slice_no (z : Str) (u : Option Int) (h : 47 ∉ z.cps.toList) : 47 ∉ (Txt.slice z none u).cps.toList := by
  unfold Txt.slice
  split
  · exact h
  · intro m
    have m' : 47 ∈ List.filterMap (fun i => z.cps[i]?) (Builtin.Str.strSliceIndices none u 1 z.length) := by simpa using m
    obtain ⟨i, _, hi⟩ := List.mem_filterMap.mp m'
    exact h (Array.mem_toList_iff.mpr (Array.mem_of_getElem? hi))
theorem app_cps (a b : Str) : (a ++ b).cps.toList = a.cps.toList ++ b.cps.toList := by rw [PySem.Str.cps_append, Array.toList_append]
def spName : Sp := fun vs H Q _ => ∃ (c : Int) (k : Nat), vs = [.int c, .int k] ∧ k ≤ 1 ∧ ∀ z : Str, z.length ≤ 16 → Tag c k z → 47 ∉ z.cps.toList → Q (.str z) H
theorem ok__law_name (F : Def K mg "_law_name" s__law_name ["_law_cell", "_law_k"]) (T : Txt K mg C_Council C_Down C_GateError C_InTheWay C_Keeper C_NotFree C_OldNumber C_UnknownKeeper) : Has P w K mg base 1 "_law_name" ["_law_cell", "_law_k"] (spName) := by
  refine F.ok sc__law_name (fun vs H Q E h => ?_) (fun f cdv A outer s H vs Q E hr h => ?_)
  · obtain ⟨c, k, rfl, _⟩ := h
    rfl
  · obtain ⟨c, k, rfl, hk, q⟩ := h
    have hu := hr.units0
    refine ⟨_, (pss_cons (ps_set (i := 2) sc__law_name.nd rfl (Or.inl rfl) pe_str)
      (pss_cons (ps_set (i := 3) sc__law_name.nd rfl (Or.inl rfl) (pe_op op_fdiv (pv 0) pe_int))
      (pss_cons (ps_if (pt_cmpR op_eq (pe_op op_mod (pv 0) pe_int) pe_int (nomark _)) (pss_one (ps_ret (pe_op op_rep_str (pe_ix ix_str (pv 2) (pe_op op_mod (pv 3) pe_int) (fun _ _ => rfl)) (pe_op op_add (pv 1) pe_int)))) pss_nil)
      (pss_cons (ps_if (pt_cmpR op_eq (pe_op op_mod (pv 0) pe_int) pe_int (nomark _)) (pss_one (ps_ret (pe_op op_add_str (pe_ix ix_str (pv 2) (pe_op op_mod (pe_op op_add (pv 3) (pe_op op_mul pe_int (pv 1))) pe_int) (fun _ _ => rfl)) (pe_slice sl_str pe_str po_none (po_some (pe_op op_mod (pe_op op_add (pe_op op_fdiv (pv 3) pe_int) (pe_op op_mul pe_int (pv 1))) pe_int)))))) pss_nil)
      (pss_cons (ps_set (i := 4) sc__law_name.nd rfl (Or.inl rfl) (pe_op op_add pe_int (pe_op op_mod (pv 3) pe_int)))
      (pss_cons (ps_set (i := 5) sc__law_name.nd rfl (Or.inl rfl) (pe_op op_mod (pe_op op_fdiv (pv 3) pe_int) (pv 4)))
      (pss_cons (ps_set (i := 6) sc__law_name.nd rfl (Or.inl rfl) pe_str)
      (pss_cons (ps_for PassesOwn.never rfl (pi_range1 rfl T.b_range (pa_cons (pv 4) pa_nil)) (pg_name (i := 7) sc__law_name.nd rfl (Or.inl rfl)) (pss_cons (ps_set (i := 8) sc__law_name.nd rfl (Or.inl rfl) (pe_op op_add (pe_op op_fdiv (pv 3) pe_int) (pe_op op_mul pe_int (pv 7))))
      (pss_cut (ps_if (pt_cmpR op_eq (pv 7) (pv 5) (nomark _)) (pss_one (ps_set (i := 8) sc__law_name.nd rfl (Or.inl rfl) (pe_op op_add (pe_op op_fdiv (pv 3) pe_int) (pe_op op_mul pe_int (pv 1))))) pss_nil)
      (pss_one (ps_set (i := 6) sc__law_name.nd rfl (Or.inl rfl) (pe_op op_add_str (pv 6) (pe_ix ix_str (pv 2) (pe_op op_mod (pv 8) pe_int) (fun _ _ => rfl))))))))
      (pss_one (ps_ret (pv 6))))))))))), ?_⟩
    walk_at "rd"
    have sgn : ∀ (j : Int) (R : VK), R (.str ⟨#[sgc j]⟩) H → rIxS (V.str "abcdefghijklmnopqrstuvwxyz0123456789") (V.int (j % 36)) H R := fun j R k => ⟨abc, _, _, rfl, rfl, by decide, sgc_at j, k⟩
    refine ⟨cdiv (by decide) (by decide), by decide, ite2 (fun m2 => ?_) (fun m2 => ⟨by decide, ite2 (fun m1 => ?_) (fun m1 => ?_)⟩)⟩
    · have e7 : (k : Int) + 1 = ((k + 1 : Nat) : Int) := by omega
      have h8' : k < 8 := by omega
      rw [e7]
      refine ⟨by decide, sgn _ _ ⟨_, rfl, mul_ok (by omega), q _ ?_ (.inl ⟨of_decide_eq_true m2, h8', ?_, ?_⟩) ?_⟩⟩
      · rw [mul_len]
        omega
      · rw [mul_len]
      · rw [mul_cps]
        rfl
      · rw [mul_cps]
        intro h
        exact sgc_no _ (List.eq_of_mem_replicate h).symm
    · have l7 : ∀ u, (Txt.slice ("k0stemz" : Str) none u).length ≤ 7 := fun u => Txt.slice_le _ _ _
      have n7 : 47 ∉ ("k0stemz" : Str).cps.toList := by decide +kernel
      refine ⟨.inl ⟨by decide, by decide⟩, by decide, sgn _ _ ⟨cdiv (by decide) (by decide), .inl ⟨by decide, by decide⟩, by decide, by decide, _, rfl, ?_, q _ ?_ (.inr (.inr (.inl ⟨of_decide_eq_true m1, ?_⟩))) ?_⟩⟩
      · have := l7 (some ((c / 3 / 36 + 3 * (k : Int)) % 8))
        exact small_size' (by show 1 + _ ≤ _; omega)
      · have := l7 (some ((c / 3 / 36 + 3 * (k : Int)) % 8))
        rw [PySem.Str.length_append]
        show 1 + _ ≤ _
        omega
      · rw [app_cps]
        rfl
      · rw [app_cps]
        intro h
        rcases List.mem_append.mp h with z | z
        · have : 47 = sgc (c / 3 + 7 * (k : Int)) := by simpa using z
          exact sgc_no _ this.symm
        · exact slice_no _ _ n7 z
    · have hm0 : c % 3 = 0 := by
        have a2 : ¬ c % 3 = 2 := by simpa using m2
        have a1 : ¬ c % 3 = 1 := by simpa using m1
        omega
      have hs0 := Int.emod_nonneg (c / 3 / 8) (b := 1 + c / 3 % 8) (by omega)
      have hs1 := Int.emod_lt_of_pos (c / 3 / 8) (b := 1 + c / 3 % 8) (by omega)
      refine ⟨by decide, cdiv (by decide) (by decide), by omega, ⟨by omega, by omega⟩, ?_⟩
      generalize hspot : c / 3 / 8 % (1 + c / 3 % 8) = spot at hs0 hs1
      refine forgo_range (fun i σ H' => H' = H ∧ ∃ (z : Str) (v v' : Option V), σ = [some (V.int c), some (V.int k), some (V.str "abcdefghijklmnopqrstuvwxyz0123456789"), some (V.int (c / 3)), some (V.int (1 + c / 3 % 8)), some (V.int spot), some (V.str z), v, v'] ∧ z.length = i ∧ 47 ∉ z.cps.toList ∧ (spot < i → z.cps.toList[spot.toNat]? = some (sgc (c / 3 / 2304 + 7 * k)))) ⟨rfl, _, _, _, rfl, rfl, (by intro h; cases h), fun h => by omega⟩ ?_ ?_
      · rintro Pv hP i σ H' hi ⟨rfl, z, v, v', rfl, hz, h47, hsp⟩
        walk_at "rd"
        refine ⟨cdiv (by decide) (by decide), .inl ⟨by decide, by decide⟩, ?_⟩
        refine cut_i (fun σ H2 => H' = H2 ∧ ∃ (r : Int), (spot = i → r = c / 3 / 2304 + 7 * k) ∧ σ = [some (V.int c), some (V.int k), some (V.str "abcdefghijklmnopqrstuvwxyz0123456789"), some (V.int (c / 3)), some (V.int (1 + c / 3 % 8)), some (V.int spot), some (V.str z), some (V.int (0 + i)), some (V.int r)]) (fun Mid hM => ?_) ?_
        · walk_at "rd"
          exact ite2 (fun _ => ⟨cdiv (by decide) (by decide), .inl ⟨by decide, by decide⟩, hM _ _ ⟨rfl, _, fun _ => rfl, rfl⟩⟩) (fun e => hM _ _ ⟨rfl, _, fun z => absurd (by rw [z]; simp) e, rfl⟩)
        · rintro σ H2 ⟨rfl, r, hrr, rfl⟩
          walk_at "rd"
          have lz : z.cps.toList.length = i := by rw [← hz]; rfl
          refine ⟨by decide, sgn _ _ ⟨_, rfl, small_size' (by show _ + 1 ≤ _; omega), hP _ _ _ ⟨rfl, _, _, _, rfl, ?_, ?_, ?_⟩⟩⟩
          · rw [PySem.Str.length_append]
            show _ + 1 = _
            omega
          · rw [app_cps]
            intro h
            rcases List.mem_append.mp h with y | y
            · exact h47 y
            · have : 47 = sgc r := by simpa using y
              exact sgc_no _ this.symm
          · intro hlt
            rw [app_cps]
            by_cases he : spot = i
            · have e2 : spot.toNat = z.cps.toList.length := by omega
              rw [e2, List.getElem?_append_right (Nat.le_refl _), Nat.sub_self, hrr he]
              rfl
            · rw [List.getElem?_append_left (by omega)]
              exact hsp (by omega)
      · rintro σ H' ⟨rfl, z, v, v', rfl, hz, h47, hsp⟩
        walk_at "rd"
        refine q z (by omega) (.inr (.inr (.inr ⟨hm0, ?_⟩))) h47
        rw [hspot]
        exact hsp (by omega)
/-- the names of a cell, one for each of the first places -/
def NamesOf (c : Int) (zs : List Str) : Prop := ∀ i z, zs[i]? = some z → z.length ≤ 16 ∧ Tag c i z ∧ 47 ∉ z.cps.toList
def spNames : Sp := fun vs H Q _ => ∃ (c : Int) (m : Nat), vs = [.int c, .int m] ∧ m ≤ 2 ∧ ∀ (r : Addr) (zs : List Str) (H' : Hp), zs.length = m → NamesOf c zs → H r = none → H' r = some (.lst (zs.map V.str)) → Same H H' → Q (.ref r) H'
theorem ok__law_names (F : Def K mg "_law_names" s__law_names ["_law_cell", "_law_many"]) (T : Txt K mg C_Council C_Down C_GateError C_InTheWay C_Keeper C_NotFree C_OldNumber C_UnknownKeeper) (G__law_name : Has P w K mg base 1 "_law_name" ["_law_cell", "_law_k"] (spName)) : Has P w K mg base 2 "_law_names" ["_law_cell", "_law_many"] (spNames) := by
  refine F.ok sc__law_names (fun vs H Q E h => ?_) (fun f cdv A outer s H vs Q E hr h => ?_)
  · obtain ⟨c, m, rfl, _⟩ := h
    rfl
  · obtain ⟨c, m, rfl, hm, q⟩ := h
    have hu := hr.units0
    refine ⟨_, (pss_one (ps_ret (pe_comp (x := "_law_k") (cap := ["_law_cell"]) (js := [0]) rfl ⟨rfl, by decide +kernel, by decide +kernel, rfl, freeOk_free rfl, by decide +kernel, ⟨⟨rfl, Or.inl rfl, rfl⟩, trivial⟩⟩ (pi_range1 rfl T.b_range (pa_cons (pv 1) pa_nil)) (fun _ _ _ _ => pif_nil) (fun _ _ _ _ => (pe_fn G__law_name (hr.mono (by decide)) rfl (pa_cons (pv 1) (pa_cons (pv 0) pa_nil))))))), ?_⟩
    walk_at "rd"
    refine ⟨⟨by omega, by omega⟩, ?_⟩
    rw [Int.toNat_natCast]
    refine compgo_range (small_size' (by omega)) (fun i acc H' => H' = H ∧ ∃ zs : List Str, acc = zs.map V.str ∧ zs.length = i ∧ NamesOf c zs) ⟨rfl, [], rfl, rfl, fun i z h => by cases h⟩ ?_ ?_ ?_
    · rintro i acc H' ⟨-, zs, rfl, rfl, -⟩
      rw [List.length_map]
      exact Nat.le_refl _
    · rintro Nn i acc H' hN hi ⟨rfl, zs, rfl, hl, hz⟩
      walk_at "rd"
      refine ⟨c, i, by simp, by omega, fun z h1 h2 h3 => hN _ _ ⟨rfl, zs ++ [z], by simp, by simp [hl], ?_⟩⟩
      intro j y hy
      by_cases hj : j < zs.length
      · rw [List.getElem?_append_left hj] at hy
        exact hz j y hy
      · have hj2 : j = i := by
          have := (List.getElem?_eq_some_iff.mp hy).1
          rw [List.length_append] at this
          have : j < zs.length + 1 := this
          omega
        subst hj2
        rw [List.getElem?_append_right (by omega), hl, Nat.sub_self] at hy
        have : y = z := by simpa using hy.symm
        rw [this]
        exact ⟨h1, h2, h3⟩
    · rintro acc H' ⟨rfl, zs, rfl, hl, hz⟩ p hp
      exact q p zs _ hl hz hp upd_same (Same.upd hp)
def lineq (a b : Str) : Bool := decide ((sp a).take (min (sp a).length (sp b).length) = (sp b).take (min (sp a).length (sp b).length))
def spLine : Sp := fun vs H Q _ => ∃ a b : Str, vs = [.str a, .str b] ∧ a.length ≤ 1000 ∧ b.length ≤ 1000 ∧ Keeps H Q (.bl (lineq a b))
theorem ok__law_line (F : Def K mg "_law_line" s__law_line ["_law_one", "_law_other"]) (T : Txt K mg C_Council C_Down C_GateError C_InTheWay C_Keeper C_NotFree C_OldNumber C_UnknownKeeper) : Has P w K mg base 1 "_law_line" ["_law_one", "_law_other"] (spLine) := by
  refine F.ok sc__law_line (fun vs H Q E h => ?_) (fun f cdv A outer s H vs Q E hr h => ?_)
  · obtain ⟨a, b, rfl, _⟩ := h
    rfl
  · obtain ⟨a, b, rfl, ha, hb, k⟩ := h
    have hu := hr.units0
    refine ⟨_, (pss_cons (ps_set (i := 2) sc__law_line.nd rfl (Or.inl rfl) (pe_bm PySem.F.plainAttrs_str PySem.F.slot_str_split PySem.F.type_str_split mt_split (pv 0) (pa_cons pe_str pa_nil)))
      (pss_cons (ps_set (i := 3) sc__law_line.nd rfl (Or.inl rfl) (pe_bm PySem.F.plainAttrs_str PySem.F.slot_str_split PySem.F.type_str_split mt_split (pv 1) (pa_cons pe_str pa_nil)))
      (pss_cons (ps_set (i := 4) sc__law_line.nd rfl (Or.inl rfl) (pe_callB (call_min2 rfl) rfl T.b_min (by decide +kernel) (pa_cons (pe_callB call_len_seq rfl T.b_len (by decide +kernel) (pa_cons (pv 2) pa_nil)) (pa_cons (pe_callB call_len_seq rfl T.b_len (by decide +kernel) (pa_cons (pv 3) pa_nil)) pa_nil))))
      (pss_one (ps_ret (pe_cmpR (op_eqL hu) (pe_slice sl_list (pv 2) po_none (po_some (pv 4))) (pe_slice sl_list (pv 3) po_none (po_some (pv 4))) (nomark _))))))), ?_⟩
    walk_at "rd"
    refine split_i rfl (by omega) fun p hp => split_i rfl (by omega) fun q hq => ?_
    have npq : p ≠ q := ne_of_none upd_same hq
    have gp : (upd (upd H p (.lst ((Txt.split a "/").map V.str))) q (.lst ((Txt.split b "/").map V.str))) p = some (.lst ((Txt.split a "/").map V.str)) := by rw [upd_ne npq, upd_same]
    refine ⟨_, rfl, _, .inl (SqL.of gp), _, rfl, _, .inl (SqL.of upd_same), _, _, ⟨rfl, rfl⟩, _, _, rfl, SqL.of gp, fun r hr' => ?_⟩
    have nr : ∀ b, b = p ∨ b = q → b ≠ r := fun b hb z => by
      subst z
      rcases hb with rfl | rfl
      · rw [gp] at hr'; cases hr'
      · rw [upd_same] at hr'; cases hr'
    have em : (if ((List.map V.str (Txt.split b "/")).length : Int) < ((List.map V.str (Txt.split a "/")).length : Int) then ((List.map V.str (Txt.split b "/")).length : Int) else ((List.map V.str (Txt.split a "/")).length : Int)) = ((min (sp a).length (sp b).length : Nat) : Int) := by
      rw [List.length_map, List.length_map]
      show (if ((sp b).length : Int) < ((sp a).length : Int) then ((sp b).length : Int) else ((sp a).length : Int)) = _
      split <;> omega
    rw [em]
    refine ⟨_, _, rfl, SqL.of (by rw [upd_ne (nr q (.inr rfl)), upd_same]), fun t ht => ?_⟩
    have nrt : r ≠ t := ne_of_none upd_same ht
    have c1 : cutV (List.map V.str (Txt.split a "/")) none (some ((min (sp a).length (sp b).length : Nat) : Int)) = ((sp a).take (min (sp a).length (sp b).length)).map V.str := by rw [cut_to, ← List.map_take]; rfl
    have c2 : cutV (List.map V.str (Txt.split b "/")) none (some ((min (sp a).length (sp b).length : Nat) : Int)) = ((sp b).take (min (sp a).length (sp b).length)).map V.str := by rw [cut_to, ← List.map_take]; rfl
    refine ⟨_, _, _, _, rfl, rfl, SqL.of (by rw [upd_ne nrt, upd_same]), SqL.of upd_same, by rw [c1]; exact all_flat_str _, by rw [c2]; exact all_flat_str _, ?_⟩
    have e : eqVs (cutV (List.map V.str (Txt.split a "/")) none (some ((min (sp a).length (sp b).length : Nat) : Int))) (cutV (List.map V.str (Txt.split b "/")) none (some ((min (sp a).length (sp b).length : Nat) : Int))) = lineq a b := by
      rw [c1, c2, eqVs_str]
      rfl
    show Q (.bl (eqVs _ _)) _
    rw [e]
    exact k _ ((((Same.upd hp).trans (Same.upd hq)).trans (Same.upd hr')).trans (Same.upd ht))
theorem onl_comm (a b : Str) : onl a b = onl b a := by unfold onl; rw [Bool.or_comm]
theorem take_min {α : Type} [DecidableEq α] (A B : List α) : (decide (A.take B.length = B) || decide (B.take A.length = A)) = decide (A.take (min A.length B.length) = B.take (min A.length B.length)) := by
  rw [Bool.eq_iff_iff]
  simp only [Bool.or_eq_true, decide_eq_true_eq]
  constructor
  · rintro (h | h)
    · have hl : B.length ≤ A.length := by have := congrArg List.length h; rw [List.length_take] at this; omega
      rw [Nat.min_eq_right hl, h, List.take_length]
    · have hl : A.length ≤ B.length := by have := congrArg List.length h; rw [List.length_take] at this; omega
      rw [Nat.min_eq_left hl, h, List.take_length]
  · intro h
    by_cases hl : B.length ≤ A.length
    · rw [Nat.min_eq_right hl, List.take_length] at h
      exact .inl h
    · rw [Nat.min_eq_left (by omega), List.take_length] at h
      exact .inr h.symm
theorem line_eq (a b : Str) : onl a b = lineq a b := take_min (sp a) (sp b)
def spLWay : Sp := fun vs H Q _ => ∃ (a b : Str) (x y : Bool), vs = [.str a, .bl x, .str b, .bl y] ∧ a.length ≤ 1000 ∧ b.length ≤ 1000 ∧ Keeps H Q (.bl (onl a b && !(x && y)))
theorem ok__law_way (F : Def K mg "_law_way" s__law_way ["_law_lock", "_law_shared", "_law_other", "_law_other_shared"]) (T : Txt K mg C_Council C_Down C_GateError C_InTheWay C_Keeper C_NotFree C_OldNumber C_UnknownKeeper) (G__law_line : Has P w K mg base 1 "_law_line" ["_law_one", "_law_other"] (spLine)) : Has P w K mg base 2 "_law_way" ["_law_lock", "_law_shared", "_law_other", "_law_other_shared"] (spLWay) := by
  refine F.ok sc__law_way (fun vs H Q E h => ?_) (fun f cdv A outer s H vs Q E hr h => ?_)
  · obtain ⟨a, b, x, y, rfl, _⟩ := h
    rfl
  · obtain ⟨a, b, x, y, rfl, ha, hb, q⟩ := h
    have hu := hr.units0
    refine ⟨_, (pss_one (ps_ret (pe_and (pe_not (pe_and (pv 1) (pe_one (pv 3)))) (pe_one (pe_fn G__law_line (hr.mono (by decide)) rfl (pa_cons (pv 0) (pa_cons (pv 2) pa_nil))))))), ?_⟩
    walk_at "rd"
    have e := line_eq a b
    cases x <;> cases y <;> simp only [Bool.not_true, Bool.not_false, if_true, if_false, Bool.false_eq_true] <;>
    first
    | (refine ⟨a, b, rfl, ha, hb, fun H' s' => ?_⟩
       have := q H' s'
       rw [e] at this
       simpa using this)
    | (have := q H (Same.refl _)
       simpa using this)
/-- a plain value -/
def Plain (v : V) : Prop := (∃ i, v = .int i) ∨ (∃ z, v = .str z) ∨ (∃ b, v = .bl b)
/-- two values, alike down to a depth -/
def Alike (H : Hp) : Nat → V → V → Prop
  | 0, v, v' => v = v' ∧ Plain v
  | n + 1, v, v' => (v = v' ∧ Plain v) ∨ ∃ (a b : Addr) (xs ys : List V), v = .ref a ∧ v' = .ref b ∧ ((H a = some (.lst xs) ∧ H b = some (.lst ys)) ∨ (H a = some (.tup xs) ∧ H b = some (.tup ys))) ∧ xs.length = ys.length ∧ xs.length ≤ 1000 ∧
      ∀ (i : Nat) (x y : V), xs[i]? = some x → ys[i]? = some y → Alike H n x y
theorem Alike.mono {H H' : Hp} (s : Same H H') : ∀ {n : Nat} {v v' : V}, Alike H n v v' → Alike H' n v v'
  | 0, _, _, h => h
  | n + 1, _, _, .inl h => .inl h
  | n + 1, _, _, .inr ⟨a, b, xs, ys, e1, e2, h, hl, hz, k⟩ => .inr ⟨a, b, xs, ys, e1, e2, h.elim (fun z => .inl ⟨s _ _ z.1, s _ _ z.2⟩) (fun z => .inr ⟨s _ _ z.1, s _ _ z.2⟩), hl, hz, fun i x y hx hy => Alike.mono s (k i x y hx hy)⟩
theorem Alike.up {H : Hp} : ∀ {n : Nat} {v v' : V}, Alike H n v v' → Alike H (n + 1) v v'
  | 0, _, _, h => .inl h
  | n + 1, _, _, .inl h => .inl h
  | n + 1, _, _, .inr ⟨a, b, xs, ys, e1, e2, h, hl, hz, k⟩ => .inr ⟨a, b, xs, ys, e1, e2, h, hl, hz, fun i x y hx hy => (k i x y hx hy).up⟩
def spSameD (n : Nat) : Sp := fun vs H Q _ => ∃ v v', vs = [v, v'] ∧ Alike H n v v' ∧ Keeps H Q (.bl true)
theorem ok_same0 (F : Def K mg "_law_same" s__law_same ["_law_found", "_law_due"]) (T : Txt K mg C_Council C_Down C_GateError C_InTheWay C_Keeper C_NotFree C_OldNumber C_UnknownKeeper) (G__law_same : Has P w K mg base 0 "_law_same" ["_law_found", "_law_due"] (spNever)) : Has P w K mg base 1 "_law_same" ["_law_found", "_law_due"] (spSameD 0) := by
  refine F.ok sc__law_same (fun vs H Q E h => ?_) (fun f cdv A outer s H vs Q E hr h => ?_)
  · obtain ⟨v, v', rfl, _⟩ := h
    rfl
  · have hu := hr.units0
    obtain ⟨v, v', rfl, pv', q⟩ := h
    replace pv' : v = v' ∧ Plain v := pv'
    · obtain ⟨rfl, pv'⟩ := pv'
      refine ⟨_, (pss_cons (ps_if (pt_val (pe_callB call_isi2 rfl T.b_isinstance (by decide +kernel) (pa_cons (pv 1) (pa_cons (pe_tup (pa_cons (pe_bltn (v := .ty "list") rfl T.b_list (by decide +kernel) rfl) (pa_cons (pe_bltn (v := .ty "tuple") rfl T.b_tuple (by decide +kernel) rfl) pa_nil))) pa_nil)))) (pss_cons (ps_if (PW.pt (pw_or (pt_cmpR op_ne (pe_callB call_isi rfl T.b_isinstance (by decide +kernel) (pa_cons (pv 0) (pa_cons (pe_bltn (v := .ty "list") rfl T.b_list (by decide +kernel) rfl) pa_nil))) (pe_callB call_isi rfl T.b_isinstance (by decide +kernel) (pa_cons (pv 1) (pa_cons (pe_bltn (v := .ty "list") rfl T.b_list (by decide +kernel) rfl) pa_nil))) (nomark _)) (pw_or1 (pt_cmpR op_ne (pe_callB call_isi rfl T.b_isinstance (by decide +kernel) (pa_cons (pv 0) (pa_cons (pe_bltn (v := .ty "tuple") rfl T.b_tuple (by decide +kernel) rfl) pa_nil))) (pe_callB call_isi rfl T.b_isinstance (by decide +kernel) (pa_cons (pv 1) (pa_cons (pe_bltn (v := .ty "tuple") rfl T.b_tuple (by decide +kernel) rfl) pa_nil))) (nomark _))))) (pss_one (ps_ret pe_bl)) pss_nil)
      (pss_one (ps_ret (pe_and (pe_cmpR op_eq (pe_callB call_len_seq rfl T.b_len (by decide +kernel) (pa_cons (pv 0) pa_nil)) (pe_callB call_len_seq rfl T.b_len (by decide +kernel) (pa_cons (pv 1) pa_nil)) (nomark _)) (pe_one (pe_callB (call_all_bl rfl) rfl T.b_all (by decide +kernel) (pa_cons (pe_comp (x := "_law_k") (cap := ["_law_found", "_law_due"]) (js := [0, 1]) rfl ⟨rfl, by decide +kernel, by decide +kernel, rfl, freeOk_free rfl, by decide +kernel, ⟨⟨rfl, Or.inl rfl, rfl⟩, ⟨⟨rfl, Or.inl rfl, rfl⟩, trivial⟩⟩⟩ (pi_range1 rfl T.b_range (pa_cons (pe_callB call_len_seq rfl T.b_len (by decide +kernel) (pa_cons (pv 1) pa_nil)) pa_nil)) (fun _ _ _ _ => pif_nil) (fun _ _ _ _ => (pe_fn G__law_same (hr.mono (by decide)) rfl (pa_cons (pe_ix (ix_seq_k (K := K)) (pv 1) (pv 0) (fun _ _ => rfl)) (pa_cons (pe_ix (ix_seq_k (K := K)) (pv 2) (pv 0) (fun _ _ => rfl)) pa_nil))))) pa_nil))))))) pss_nil)
      (pss_cons (ps_if (pt_cmpR op_ne (pe_callB call_isi rfl T.b_isinstance (by decide +kernel) (pa_cons (pv 0) (pa_cons (pe_bltn (v := .ty "bool") rfl T.b_bool (by decide +kernel) rfl) pa_nil))) (pe_callB call_isi rfl T.b_isinstance (by decide +kernel) (pa_cons (pv 1) (pa_cons (pe_bltn (v := .ty "bool") rfl T.b_bool (by decide +kernel) rfl) pa_nil))) (nomark _)) (pss_one (ps_ret pe_bl)) pss_nil)
      (pss_cons (ps_if (pt_val (pe_callB call_isi rfl T.b_isinstance (by decide +kernel) (pa_cons (pv 1) (pa_cons (pe_bltn (v := .ty "int") rfl T.b_int (by decide +kernel) rfl) pa_nil)))) (pss_one (ps_ret (pe_and (pe_callB call_isi rfl T.b_isinstance (by decide +kernel) (pa_cons (pv 0) (pa_cons (pe_bltn (v := .ty "int") rfl T.b_int (by decide +kernel) rfl) pa_nil))) (pe_one (pe_cmpR op_eq (pv 0) (pv 1) (nomark _)))))) pss_nil)
      (pss_one (ps_ret (pe_and (pe_callB call_isi rfl T.b_isinstance (by decide +kernel) (pa_cons (pv 0) (pa_cons (pe_bltn (v := .ty "str") rfl T.b_str (by decide +kernel) rfl) pa_nil))) (pe_one (pe_cmpR op_eq (pv 0) (pv 1) (nomark _))))))))), ?_⟩
      walk_at "rd"
      refine ⟨small_size' (by decide), fun p hp => ?_⟩
      have s1 := q _ (Same.upd (o := .tup [V.ty "list", V.ty "tuple"]) hp)
      rcases pv' with ⟨i, rfl⟩ | ⟨z, rfl⟩ | ⟨b, rfl⟩
      · refine ⟨_, _, ⟨rfl, rfl⟩, _, _, SqT.of upd_same, _, .int i, _, (kit_any K).1, ?_⟩
        rw [if_neg Bool.false_ne_true]
        refine ⟨_, _, ⟨rfl, rfl⟩, _, .int i, _, kit_int_bool K, _, _, ⟨rfl, rfl⟩, _, .int i, _, kit_int_bool K, ?_⟩
        rw [if_neg (by decide)]
        refine ⟨_, _, ⟨rfl, rfl⟩, _, .int i, _, (kit_ty K).1, ?_⟩
        rw [if_pos rfl]
        refine ⟨_, _, ⟨rfl, rfl⟩, _, .int i, _, (kit_ty K).1, ?_⟩
        rw [if_pos rfl]
        exact ⟨rfl, by simpa using s1⟩
      · refine ⟨_, _, ⟨rfl, rfl⟩, _, _, SqT.of upd_same, _, .str z, _, (kit_any K).2.2.1, ?_⟩
        rw [if_neg Bool.false_ne_true]
        refine ⟨_, _, ⟨rfl, rfl⟩, _, .str z, _, (kit_ty K).2.2.2.2.2.1, _, _, ⟨rfl, rfl⟩, _, .str z, _, (kit_ty K).2.2.2.2.2.1, ?_⟩
        rw [if_neg (by decide)]
        refine ⟨_, _, ⟨rfl, rfl⟩, _, .str z, _, (kit_ty K).2.2.1, ?_⟩
        rw [if_neg Bool.false_ne_true]
        refine ⟨_, _, ⟨rfl, rfl⟩, _, .str z, _, (kit_ty K).2.2.2.1, ?_⟩
        rw [if_pos rfl]
        exact ⟨rfl, by simpa using s1⟩
      · refine ⟨_, _, ⟨rfl, rfl⟩, _, _, SqT.of upd_same, _, .bl b, _, (kit_any K).2.1, ?_⟩
        rw [if_neg Bool.false_ne_true]
        refine ⟨_, _, ⟨rfl, rfl⟩, _, .bl b, _, kit_bool_bool K, _, _, ⟨rfl, rfl⟩, _, .bl b, _, kit_bool_bool K, ?_⟩
        rw [if_neg (by decide)]
        refine ⟨_, _, ⟨rfl, rfl⟩, _, .bl b, _, (kit_ty K).2.1, ?_⟩
        rw [if_pos rfl]
        refine ⟨_, _, ⟨rfl, rfl⟩, _, .bl b, _, (kit_ty K).2.1, ?_⟩
        rw [if_pos rfl]
        exact ⟨rfl, by simpa using s1⟩
theorem ok_same1 (F : Def K mg "_law_same" s__law_same ["_law_found", "_law_due"]) (T : Txt K mg C_Council C_Down C_GateError C_InTheWay C_Keeper C_NotFree C_OldNumber C_UnknownKeeper) (G__law_same : Has P w K mg base 1 "_law_same" ["_law_found", "_law_due"] (spSameD 0)) : Has P w K mg base 2 "_law_same" ["_law_found", "_law_due"] (spSameD 1) := by
  refine F.ok sc__law_same (fun vs H Q E h => ?_) (fun f cdv A outer s H vs Q E hr h => ?_)
  · obtain ⟨v, v', rfl, _⟩ := h
    rfl
  · have hu := hr.units0
    obtain ⟨v, v', rfl, pv', q⟩ := h
    rcases pv' with pv' | ⟨a, b, xs, ys, rfl, rfl, hab, hlm, hz, kk⟩
    · obtain ⟨rfl, pv'⟩ := pv'
      refine ⟨_, (pss_cons (ps_if (pt_val (pe_callB call_isi2 rfl T.b_isinstance (by decide +kernel) (pa_cons (pv 1) (pa_cons (pe_tup (pa_cons (pe_bltn (v := .ty "list") rfl T.b_list (by decide +kernel) rfl) (pa_cons (pe_bltn (v := .ty "tuple") rfl T.b_tuple (by decide +kernel) rfl) pa_nil))) pa_nil)))) (pss_cons (ps_if (PW.pt (pw_or (pt_cmpR op_ne (pe_callB call_isi rfl T.b_isinstance (by decide +kernel) (pa_cons (pv 0) (pa_cons (pe_bltn (v := .ty "list") rfl T.b_list (by decide +kernel) rfl) pa_nil))) (pe_callB call_isi rfl T.b_isinstance (by decide +kernel) (pa_cons (pv 1) (pa_cons (pe_bltn (v := .ty "list") rfl T.b_list (by decide +kernel) rfl) pa_nil))) (nomark _)) (pw_or1 (pt_cmpR op_ne (pe_callB call_isi rfl T.b_isinstance (by decide +kernel) (pa_cons (pv 0) (pa_cons (pe_bltn (v := .ty "tuple") rfl T.b_tuple (by decide +kernel) rfl) pa_nil))) (pe_callB call_isi rfl T.b_isinstance (by decide +kernel) (pa_cons (pv 1) (pa_cons (pe_bltn (v := .ty "tuple") rfl T.b_tuple (by decide +kernel) rfl) pa_nil))) (nomark _))))) (pss_one (ps_ret pe_bl)) pss_nil)
      (pss_one (ps_ret (pe_and (pe_cmpR op_eq (pe_callB call_len_seq rfl T.b_len (by decide +kernel) (pa_cons (pv 0) pa_nil)) (pe_callB call_len_seq rfl T.b_len (by decide +kernel) (pa_cons (pv 1) pa_nil)) (nomark _)) (pe_one (pe_callB (call_all_bl rfl) rfl T.b_all (by decide +kernel) (pa_cons (pe_comp (x := "_law_k") (cap := ["_law_found", "_law_due"]) (js := [0, 1]) rfl ⟨rfl, by decide +kernel, by decide +kernel, rfl, freeOk_free rfl, by decide +kernel, ⟨⟨rfl, Or.inl rfl, rfl⟩, ⟨⟨rfl, Or.inl rfl, rfl⟩, trivial⟩⟩⟩ (pi_range1 rfl T.b_range (pa_cons (pe_callB call_len_seq rfl T.b_len (by decide +kernel) (pa_cons (pv 1) pa_nil)) pa_nil)) (fun _ _ _ _ => pif_nil) (fun _ _ _ _ => (pe_fn G__law_same (hr.mono (by decide)) rfl (pa_cons (pe_ix (ix_seq_k (K := K)) (pv 1) (pv 0) (fun _ _ => rfl)) (pa_cons (pe_ix (ix_seq_k (K := K)) (pv 2) (pv 0) (fun _ _ => rfl)) pa_nil))))) pa_nil))))))) pss_nil)
      (pss_cons (ps_if (pt_cmpR op_ne (pe_callB call_isi rfl T.b_isinstance (by decide +kernel) (pa_cons (pv 0) (pa_cons (pe_bltn (v := .ty "bool") rfl T.b_bool (by decide +kernel) rfl) pa_nil))) (pe_callB call_isi rfl T.b_isinstance (by decide +kernel) (pa_cons (pv 1) (pa_cons (pe_bltn (v := .ty "bool") rfl T.b_bool (by decide +kernel) rfl) pa_nil))) (nomark _)) (pss_one (ps_ret pe_bl)) pss_nil)
      (pss_cons (ps_if (pt_val (pe_callB call_isi rfl T.b_isinstance (by decide +kernel) (pa_cons (pv 1) (pa_cons (pe_bltn (v := .ty "int") rfl T.b_int (by decide +kernel) rfl) pa_nil)))) (pss_one (ps_ret (pe_and (pe_callB call_isi rfl T.b_isinstance (by decide +kernel) (pa_cons (pv 0) (pa_cons (pe_bltn (v := .ty "int") rfl T.b_int (by decide +kernel) rfl) pa_nil))) (pe_one (pe_cmpR op_eq (pv 0) (pv 1) (nomark _)))))) pss_nil)
      (pss_one (ps_ret (pe_and (pe_callB call_isi rfl T.b_isinstance (by decide +kernel) (pa_cons (pv 0) (pa_cons (pe_bltn (v := .ty "str") rfl T.b_str (by decide +kernel) rfl) pa_nil))) (pe_one (pe_cmpR op_eq (pv 0) (pv 1) (nomark _))))))))), ?_⟩
      walk_at "rd"
      refine ⟨small_size' (by decide), fun p hp => ?_⟩
      have s1 := q _ (Same.upd (o := .tup [V.ty "list", V.ty "tuple"]) hp)
      rcases pv' with ⟨i, rfl⟩ | ⟨z, rfl⟩ | ⟨b, rfl⟩
      · refine ⟨_, _, ⟨rfl, rfl⟩, _, _, SqT.of upd_same, _, .int i, _, (kit_any K).1, ?_⟩
        rw [if_neg Bool.false_ne_true]
        refine ⟨_, _, ⟨rfl, rfl⟩, _, .int i, _, kit_int_bool K, _, _, ⟨rfl, rfl⟩, _, .int i, _, kit_int_bool K, ?_⟩
        rw [if_neg (by decide)]
        refine ⟨_, _, ⟨rfl, rfl⟩, _, .int i, _, (kit_ty K).1, ?_⟩
        rw [if_pos rfl]
        refine ⟨_, _, ⟨rfl, rfl⟩, _, .int i, _, (kit_ty K).1, ?_⟩
        rw [if_pos rfl]
        exact ⟨rfl, by simpa using s1⟩
      · refine ⟨_, _, ⟨rfl, rfl⟩, _, _, SqT.of upd_same, _, .str z, _, (kit_any K).2.2.1, ?_⟩
        rw [if_neg Bool.false_ne_true]
        refine ⟨_, _, ⟨rfl, rfl⟩, _, .str z, _, (kit_ty K).2.2.2.2.2.1, _, _, ⟨rfl, rfl⟩, _, .str z, _, (kit_ty K).2.2.2.2.2.1, ?_⟩
        rw [if_neg (by decide)]
        refine ⟨_, _, ⟨rfl, rfl⟩, _, .str z, _, (kit_ty K).2.2.1, ?_⟩
        rw [if_neg Bool.false_ne_true]
        refine ⟨_, _, ⟨rfl, rfl⟩, _, .str z, _, (kit_ty K).2.2.2.1, ?_⟩
        rw [if_pos rfl]
        exact ⟨rfl, by simpa using s1⟩
      · refine ⟨_, _, ⟨rfl, rfl⟩, _, _, SqT.of upd_same, _, .bl b, _, (kit_any K).2.1, ?_⟩
        rw [if_neg Bool.false_ne_true]
        refine ⟨_, _, ⟨rfl, rfl⟩, _, .bl b, _, kit_bool_bool K, _, _, ⟨rfl, rfl⟩, _, .bl b, _, kit_bool_bool K, ?_⟩
        rw [if_neg (by decide)]
        refine ⟨_, _, ⟨rfl, rfl⟩, _, .bl b, _, (kit_ty K).2.1, ?_⟩
        rw [if_pos rfl]
        refine ⟨_, _, ⟨rfl, rfl⟩, _, .bl b, _, (kit_ty K).2.1, ?_⟩
        rw [if_pos rfl]
        exact ⟨rfl, by simpa using s1⟩
    · skip
      refine ⟨_, (pss_cons (ps_if (pt_val (pe_callB call_isi2 rfl T.b_isinstance (by decide +kernel) (pa_cons (pv 1) (pa_cons (pe_tup (pa_cons (pe_bltn (v := .ty "list") rfl T.b_list (by decide +kernel) rfl) (pa_cons (pe_bltn (v := .ty "tuple") rfl T.b_tuple (by decide +kernel) rfl) pa_nil))) pa_nil)))) (pss_cons (ps_if (PW.pt (pw_or (pt_cmpR op_ne (pe_callB call_isi rfl T.b_isinstance (by decide +kernel) (pa_cons (pv 0) (pa_cons (pe_bltn (v := .ty "list") rfl T.b_list (by decide +kernel) rfl) pa_nil))) (pe_callB call_isi rfl T.b_isinstance (by decide +kernel) (pa_cons (pv 1) (pa_cons (pe_bltn (v := .ty "list") rfl T.b_list (by decide +kernel) rfl) pa_nil))) (nomark _)) (pw_or1 (pt_cmpR op_ne (pe_callB call_isi rfl T.b_isinstance (by decide +kernel) (pa_cons (pv 0) (pa_cons (pe_bltn (v := .ty "tuple") rfl T.b_tuple (by decide +kernel) rfl) pa_nil))) (pe_callB call_isi rfl T.b_isinstance (by decide +kernel) (pa_cons (pv 1) (pa_cons (pe_bltn (v := .ty "tuple") rfl T.b_tuple (by decide +kernel) rfl) pa_nil))) (nomark _))))) (pss_one (ps_ret pe_bl)) pss_nil)
      (pss_one (ps_ret (pe_and (pe_cmpR op_eq (pe_callB call_len_seq rfl T.b_len (by decide +kernel) (pa_cons (pv 0) pa_nil)) (pe_callB call_len_seq rfl T.b_len (by decide +kernel) (pa_cons (pv 1) pa_nil)) (nomark _)) (pe_one (pe_callB (call_all_bl rfl) rfl T.b_all (by decide +kernel) (pa_cons (pe_comp (x := "_law_k") (cap := ["_law_found", "_law_due"]) (js := [0, 1]) rfl ⟨rfl, by decide +kernel, by decide +kernel, rfl, freeOk_free rfl, by decide +kernel, ⟨⟨rfl, Or.inl rfl, rfl⟩, ⟨⟨rfl, Or.inl rfl, rfl⟩, trivial⟩⟩⟩ (pi_range1 rfl T.b_range (pa_cons (pe_callB call_len_seq rfl T.b_len (by decide +kernel) (pa_cons (pv 1) pa_nil)) pa_nil)) (fun _ _ _ _ => pif_nil) (fun _ _ _ _ => (pe_fn G__law_same (hr.mono (by decide)) rfl (pa_cons (pe_ix (ix_seq_k (K := K)) (pv 1) (pv 0) (fun _ _ => rfl)) (pa_cons (pe_ix (ix_seq_k (K := K)) (pv 2) (pv 0) (fun _ _ => rfl)) pa_nil))))) pa_nil))))))) pss_nil)
      (pss_cons (ps_if (pt_cmpR op_ne (pe_callB call_isi rfl T.b_isinstance (by decide +kernel) (pa_cons (pv 0) (pa_cons (pe_bltn (v := .ty "bool") rfl T.b_bool (by decide +kernel) rfl) pa_nil))) (pe_callB call_isi rfl T.b_isinstance (by decide +kernel) (pa_cons (pv 1) (pa_cons (pe_bltn (v := .ty "bool") rfl T.b_bool (by decide +kernel) rfl) pa_nil))) (nomark _)) (pss_one (ps_ret pe_bl)) pss_nil)
      (pss_cons (ps_if (pt_val (pe_callB call_isi rfl T.b_isinstance (by decide +kernel) (pa_cons (pv 1) (pa_cons (pe_bltn (v := .ty "int") rfl T.b_int (by decide +kernel) rfl) pa_nil)))) (pss_one (ps_ret (pe_and (pe_callB call_isi rfl T.b_isinstance (by decide +kernel) (pa_cons (pv 0) (pa_cons (pe_bltn (v := .ty "int") rfl T.b_int (by decide +kernel) rfl) pa_nil))) (pe_one (pe_cmpR op_eq (pv 0) (pv 1) (nomark _)))))) pss_nil)
      (pss_one (ps_ret (pe_and (pe_callB call_isi rfl T.b_isinstance (by decide +kernel) (pa_cons (pv 0) (pa_cons (pe_bltn (v := .ty "str") rfl T.b_str (by decide +kernel) rfl) pa_nil))) (pe_one (pe_cmpR op_eq (pv 0) (pv 1) (nomark _))))))))), ?_⟩
      walk_at "rd"
      refine ⟨small_size' (by decide), fun p hp => ?_⟩
      have s1 := Same.upd (o := .tup [V.ty "list", V.ty "tuple"]) hp
      rcases hab with ⟨ha, hb⟩ | ⟨ha, hb⟩
      · have ha1 := s1 _ _ ha
        have hb1 := s1 _ _ hb
        refine ⟨_, _, ⟨rfl, rfl⟩, _, _, SqT.of upd_same, _, .lst hb1, _, (kit_any K).2.2.2.1, ?_⟩
        rw [if_pos rfl]
        refine ⟨_, _, ⟨rfl, rfl⟩, _, .lst ha1, _, kit_list_list K, _, _, ⟨rfl, rfl⟩, _, .lst hb1, _, kit_list_list K, ?_⟩
        rw [if_neg (by decide)]
        refine ⟨_, _, ⟨rfl, rfl⟩, _, .lst ha1, _, (kit_ty K).2.2.2.2.2.2.2.2, _, _, ⟨rfl, rfl⟩, _, .lst hb1, _, (kit_ty K).2.2.2.2.2.2.2.2, ?_⟩
        rw [if_neg (by decide)]
        refine ⟨xs, .inl (SqL.of ha1), ys, .inl (SqL.of hb1), ?_⟩
        rw [if_pos (by rw [hlm]; simp)]
        refine ⟨ys, .inl (SqL.of hb1), ⟨by omega, by omega⟩, ?_⟩
        rw [Int.toNat_natCast, ← hlm]
        refine compgo_range (small_size' (by omega)) (fun i acc H' => acc = (List.replicate i true).map V.bl ∧ Same (upd H p (.tup [V.ty "list", V.ty "tuple"])) H') ⟨rfl, Same.refl _⟩ ?_ ?_ ?_
        · rintro i acc H' ⟨rfl, -⟩
          simp
        · rintro Nn i acc H' hN hi ⟨rfl, s2⟩
          walk_at "rd"
          have ei : ((0 : Int) + (i : Int)) = (i : Int) := by omega
          rw [ei]
          have gx : xs[i]? = some xs[i] := List.getElem?_eq_getElem hi
          have gy : ys[i]? = some (ys[i]'(by omega)) := List.getElem?_eq_getElem (by omega)
          refine (.inl ⟨_, _, _, _, rfl, rfl, SqL.of (s2 _ _ ha1), atI_nat gx, ?_⟩)
          refine (.inl ⟨_, _, _, _, rfl, rfl, SqL.of (s2 _ _ hb1), atI_nat gy, ?_⟩)
          refine ⟨_, _, rfl, (kk i _ _ gx gy).mono (s1.trans s2), fun H3 s3 => hN _ _ ⟨?_, s2.trans s3⟩⟩
          rw [List.replicate_succ', List.map_append]
          rfl
        · rintro acc H' ⟨rfl, s2⟩ r hr'
          refine ⟨_, rfl, _, SqL.of upd_same, ?_⟩
          have e : (List.replicate xs.length true).all id = true := by simp
          rw [e]
          exact q _ ((s1.trans s2).trans (Same.upd hr'))
      · have ha1 := s1 _ _ ha
        have hb1 := s1 _ _ hb
        refine ⟨_, _, ⟨rfl, rfl⟩, _, _, SqT.of upd_same, _, .tup hb1, _, (kit_any K).2.2.2.2, ?_⟩
        rw [if_pos rfl]
        refine ⟨_, _, ⟨rfl, rfl⟩, _, .tup ha1, _, (kit_ty K).2.2.2.2.2.2.2.1, _, _, ⟨rfl, rfl⟩, _, .tup hb1, _, (kit_ty K).2.2.2.2.2.2.2.1, ?_⟩
        rw [if_neg (by decide)]
        refine ⟨_, _, ⟨rfl, rfl⟩, _, .tup ha1, _, (kit_ty K).2.2.2.2.2.2.1, _, _, ⟨rfl, rfl⟩, _, .tup hb1, _, (kit_ty K).2.2.2.2.2.2.1, ?_⟩
        rw [if_neg (by decide)]
        refine ⟨xs, .inr (SqT.of ha1), ys, .inr (SqT.of hb1), ?_⟩
        rw [if_pos (by rw [hlm]; simp)]
        refine ⟨ys, .inr (SqT.of hb1), ⟨by omega, by omega⟩, ?_⟩
        rw [Int.toNat_natCast, ← hlm]
        refine compgo_range (small_size' (by omega)) (fun i acc H' => acc = (List.replicate i true).map V.bl ∧ Same (upd H p (.tup [V.ty "list", V.ty "tuple"])) H') ⟨rfl, Same.refl _⟩ ?_ ?_ ?_
        · rintro i acc H' ⟨rfl, -⟩
          simp
        · rintro Nn i acc H' hN hi ⟨rfl, s2⟩
          walk_at "rd"
          have ei : ((0 : Int) + (i : Int)) = (i : Int) := by omega
          rw [ei]
          have gx : xs[i]? = some xs[i] := List.getElem?_eq_getElem hi
          have gy : ys[i]? = some (ys[i]'(by omega)) := List.getElem?_eq_getElem (by omega)
          refine (.inr (.inl ⟨_, _, _, _, rfl, rfl, SqT.of (s2 _ _ ha1), atI_nat gx, ?_⟩))
          refine (.inr (.inl ⟨_, _, _, _, rfl, rfl, SqT.of (s2 _ _ hb1), atI_nat gy, ?_⟩))
          refine ⟨_, _, rfl, (kk i _ _ gx gy).mono (s1.trans s2), fun H3 s3 => hN _ _ ⟨?_, s2.trans s3⟩⟩
          rw [List.replicate_succ', List.map_append]
          rfl
        · rintro acc H' ⟨rfl, s2⟩ r hr'
          refine ⟨_, rfl, _, SqL.of upd_same, ?_⟩
          have e : (List.replicate xs.length true).all id = true := by simp
          rw [e]
          exact q _ ((s1.trans s2).trans (Same.upd hr'))
theorem ok_same2 (F : Def K mg "_law_same" s__law_same ["_law_found", "_law_due"]) (T : Txt K mg C_Council C_Down C_GateError C_InTheWay C_Keeper C_NotFree C_OldNumber C_UnknownKeeper) (G__law_same : Has P w K mg base 2 "_law_same" ["_law_found", "_law_due"] (spSameD 1)) : Has P w K mg base 3 "_law_same" ["_law_found", "_law_due"] (spSameD 2) := by
  refine F.ok sc__law_same (fun vs H Q E h => ?_) (fun f cdv A outer s H vs Q E hr h => ?_)
  · obtain ⟨v, v', rfl, _⟩ := h
    rfl
  · have hu := hr.units0
    obtain ⟨v, v', rfl, pv', q⟩ := h
    rcases pv' with pv' | ⟨a, b, xs, ys, rfl, rfl, hab, hlm, hz, kk⟩
    · obtain ⟨rfl, pv'⟩ := pv'
      refine ⟨_, (pss_cons (ps_if (pt_val (pe_callB call_isi2 rfl T.b_isinstance (by decide +kernel) (pa_cons (pv 1) (pa_cons (pe_tup (pa_cons (pe_bltn (v := .ty "list") rfl T.b_list (by decide +kernel) rfl) (pa_cons (pe_bltn (v := .ty "tuple") rfl T.b_tuple (by decide +kernel) rfl) pa_nil))) pa_nil)))) (pss_cons (ps_if (PW.pt (pw_or (pt_cmpR op_ne (pe_callB call_isi rfl T.b_isinstance (by decide +kernel) (pa_cons (pv 0) (pa_cons (pe_bltn (v := .ty "list") rfl T.b_list (by decide +kernel) rfl) pa_nil))) (pe_callB call_isi rfl T.b_isinstance (by decide +kernel) (pa_cons (pv 1) (pa_cons (pe_bltn (v := .ty "list") rfl T.b_list (by decide +kernel) rfl) pa_nil))) (nomark _)) (pw_or1 (pt_cmpR op_ne (pe_callB call_isi rfl T.b_isinstance (by decide +kernel) (pa_cons (pv 0) (pa_cons (pe_bltn (v := .ty "tuple") rfl T.b_tuple (by decide +kernel) rfl) pa_nil))) (pe_callB call_isi rfl T.b_isinstance (by decide +kernel) (pa_cons (pv 1) (pa_cons (pe_bltn (v := .ty "tuple") rfl T.b_tuple (by decide +kernel) rfl) pa_nil))) (nomark _))))) (pss_one (ps_ret pe_bl)) pss_nil)
      (pss_one (ps_ret (pe_and (pe_cmpR op_eq (pe_callB call_len_seq rfl T.b_len (by decide +kernel) (pa_cons (pv 0) pa_nil)) (pe_callB call_len_seq rfl T.b_len (by decide +kernel) (pa_cons (pv 1) pa_nil)) (nomark _)) (pe_one (pe_callB (call_all_bl rfl) rfl T.b_all (by decide +kernel) (pa_cons (pe_comp (x := "_law_k") (cap := ["_law_found", "_law_due"]) (js := [0, 1]) rfl ⟨rfl, by decide +kernel, by decide +kernel, rfl, freeOk_free rfl, by decide +kernel, ⟨⟨rfl, Or.inl rfl, rfl⟩, ⟨⟨rfl, Or.inl rfl, rfl⟩, trivial⟩⟩⟩ (pi_range1 rfl T.b_range (pa_cons (pe_callB call_len_seq rfl T.b_len (by decide +kernel) (pa_cons (pv 1) pa_nil)) pa_nil)) (fun _ _ _ _ => pif_nil) (fun _ _ _ _ => (pe_fn G__law_same (hr.mono (by decide)) rfl (pa_cons (pe_ix (ix_seq_k (K := K)) (pv 1) (pv 0) (fun _ _ => rfl)) (pa_cons (pe_ix (ix_seq_k (K := K)) (pv 2) (pv 0) (fun _ _ => rfl)) pa_nil))))) pa_nil))))))) pss_nil)
      (pss_cons (ps_if (pt_cmpR op_ne (pe_callB call_isi rfl T.b_isinstance (by decide +kernel) (pa_cons (pv 0) (pa_cons (pe_bltn (v := .ty "bool") rfl T.b_bool (by decide +kernel) rfl) pa_nil))) (pe_callB call_isi rfl T.b_isinstance (by decide +kernel) (pa_cons (pv 1) (pa_cons (pe_bltn (v := .ty "bool") rfl T.b_bool (by decide +kernel) rfl) pa_nil))) (nomark _)) (pss_one (ps_ret pe_bl)) pss_nil)
      (pss_cons (ps_if (pt_val (pe_callB call_isi rfl T.b_isinstance (by decide +kernel) (pa_cons (pv 1) (pa_cons (pe_bltn (v := .ty "int") rfl T.b_int (by decide +kernel) rfl) pa_nil)))) (pss_one (ps_ret (pe_and (pe_callB call_isi rfl T.b_isinstance (by decide +kernel) (pa_cons (pv 0) (pa_cons (pe_bltn (v := .ty "int") rfl T.b_int (by decide +kernel) rfl) pa_nil))) (pe_one (pe_cmpR op_eq (pv 0) (pv 1) (nomark _)))))) pss_nil)
      (pss_one (ps_ret (pe_and (pe_callB call_isi rfl T.b_isinstance (by decide +kernel) (pa_cons (pv 0) (pa_cons (pe_bltn (v := .ty "str") rfl T.b_str (by decide +kernel) rfl) pa_nil))) (pe_one (pe_cmpR op_eq (pv 0) (pv 1) (nomark _))))))))), ?_⟩
      walk_at "rd"
      refine ⟨small_size' (by decide), fun p hp => ?_⟩
      have s1 := q _ (Same.upd (o := .tup [V.ty "list", V.ty "tuple"]) hp)
      rcases pv' with ⟨i, rfl⟩ | ⟨z, rfl⟩ | ⟨b, rfl⟩
      · refine ⟨_, _, ⟨rfl, rfl⟩, _, _, SqT.of upd_same, _, .int i, _, (kit_any K).1, ?_⟩
        rw [if_neg Bool.false_ne_true]
        refine ⟨_, _, ⟨rfl, rfl⟩, _, .int i, _, kit_int_bool K, _, _, ⟨rfl, rfl⟩, _, .int i, _, kit_int_bool K, ?_⟩
        rw [if_neg (by decide)]
        refine ⟨_, _, ⟨rfl, rfl⟩, _, .int i, _, (kit_ty K).1, ?_⟩
        rw [if_pos rfl]
        refine ⟨_, _, ⟨rfl, rfl⟩, _, .int i, _, (kit_ty K).1, ?_⟩
        rw [if_pos rfl]
        exact ⟨rfl, by simpa using s1⟩
      · refine ⟨_, _, ⟨rfl, rfl⟩, _, _, SqT.of upd_same, _, .str z, _, (kit_any K).2.2.1, ?_⟩
        rw [if_neg Bool.false_ne_true]
        refine ⟨_, _, ⟨rfl, rfl⟩, _, .str z, _, (kit_ty K).2.2.2.2.2.1, _, _, ⟨rfl, rfl⟩, _, .str z, _, (kit_ty K).2.2.2.2.2.1, ?_⟩
        rw [if_neg (by decide)]
        refine ⟨_, _, ⟨rfl, rfl⟩, _, .str z, _, (kit_ty K).2.2.1, ?_⟩
        rw [if_neg Bool.false_ne_true]
        refine ⟨_, _, ⟨rfl, rfl⟩, _, .str z, _, (kit_ty K).2.2.2.1, ?_⟩
        rw [if_pos rfl]
        exact ⟨rfl, by simpa using s1⟩
      · refine ⟨_, _, ⟨rfl, rfl⟩, _, _, SqT.of upd_same, _, .bl b, _, (kit_any K).2.1, ?_⟩
        rw [if_neg Bool.false_ne_true]
        refine ⟨_, _, ⟨rfl, rfl⟩, _, .bl b, _, kit_bool_bool K, _, _, ⟨rfl, rfl⟩, _, .bl b, _, kit_bool_bool K, ?_⟩
        rw [if_neg (by decide)]
        refine ⟨_, _, ⟨rfl, rfl⟩, _, .bl b, _, (kit_ty K).2.1, ?_⟩
        rw [if_pos rfl]
        refine ⟨_, _, ⟨rfl, rfl⟩, _, .bl b, _, (kit_ty K).2.1, ?_⟩
        rw [if_pos rfl]
        exact ⟨rfl, by simpa using s1⟩
    · skip
      refine ⟨_, (pss_cons (ps_if (pt_val (pe_callB call_isi2 rfl T.b_isinstance (by decide +kernel) (pa_cons (pv 1) (pa_cons (pe_tup (pa_cons (pe_bltn (v := .ty "list") rfl T.b_list (by decide +kernel) rfl) (pa_cons (pe_bltn (v := .ty "tuple") rfl T.b_tuple (by decide +kernel) rfl) pa_nil))) pa_nil)))) (pss_cons (ps_if (PW.pt (pw_or (pt_cmpR op_ne (pe_callB call_isi rfl T.b_isinstance (by decide +kernel) (pa_cons (pv 0) (pa_cons (pe_bltn (v := .ty "list") rfl T.b_list (by decide +kernel) rfl) pa_nil))) (pe_callB call_isi rfl T.b_isinstance (by decide +kernel) (pa_cons (pv 1) (pa_cons (pe_bltn (v := .ty "list") rfl T.b_list (by decide +kernel) rfl) pa_nil))) (nomark _)) (pw_or1 (pt_cmpR op_ne (pe_callB call_isi rfl T.b_isinstance (by decide +kernel) (pa_cons (pv 0) (pa_cons (pe_bltn (v := .ty "tuple") rfl T.b_tuple (by decide +kernel) rfl) pa_nil))) (pe_callB call_isi rfl T.b_isinstance (by decide +kernel) (pa_cons (pv 1) (pa_cons (pe_bltn (v := .ty "tuple") rfl T.b_tuple (by decide +kernel) rfl) pa_nil))) (nomark _))))) (pss_one (ps_ret pe_bl)) pss_nil)
      (pss_one (ps_ret (pe_and (pe_cmpR op_eq (pe_callB call_len_seq rfl T.b_len (by decide +kernel) (pa_cons (pv 0) pa_nil)) (pe_callB call_len_seq rfl T.b_len (by decide +kernel) (pa_cons (pv 1) pa_nil)) (nomark _)) (pe_one (pe_callB (call_all_bl rfl) rfl T.b_all (by decide +kernel) (pa_cons (pe_comp (x := "_law_k") (cap := ["_law_found", "_law_due"]) (js := [0, 1]) rfl ⟨rfl, by decide +kernel, by decide +kernel, rfl, freeOk_free rfl, by decide +kernel, ⟨⟨rfl, Or.inl rfl, rfl⟩, ⟨⟨rfl, Or.inl rfl, rfl⟩, trivial⟩⟩⟩ (pi_range1 rfl T.b_range (pa_cons (pe_callB call_len_seq rfl T.b_len (by decide +kernel) (pa_cons (pv 1) pa_nil)) pa_nil)) (fun _ _ _ _ => pif_nil) (fun _ _ _ _ => (pe_fn G__law_same (hr.mono (by decide)) rfl (pa_cons (pe_ix (ix_seq_k (K := K)) (pv 1) (pv 0) (fun _ _ => rfl)) (pa_cons (pe_ix (ix_seq_k (K := K)) (pv 2) (pv 0) (fun _ _ => rfl)) pa_nil))))) pa_nil))))))) pss_nil)
      (pss_cons (ps_if (pt_cmpR op_ne (pe_callB call_isi rfl T.b_isinstance (by decide +kernel) (pa_cons (pv 0) (pa_cons (pe_bltn (v := .ty "bool") rfl T.b_bool (by decide +kernel) rfl) pa_nil))) (pe_callB call_isi rfl T.b_isinstance (by decide +kernel) (pa_cons (pv 1) (pa_cons (pe_bltn (v := .ty "bool") rfl T.b_bool (by decide +kernel) rfl) pa_nil))) (nomark _)) (pss_one (ps_ret pe_bl)) pss_nil)
      (pss_cons (ps_if (pt_val (pe_callB call_isi rfl T.b_isinstance (by decide +kernel) (pa_cons (pv 1) (pa_cons (pe_bltn (v := .ty "int") rfl T.b_int (by decide +kernel) rfl) pa_nil)))) (pss_one (ps_ret (pe_and (pe_callB call_isi rfl T.b_isinstance (by decide +kernel) (pa_cons (pv 0) (pa_cons (pe_bltn (v := .ty "int") rfl T.b_int (by decide +kernel) rfl) pa_nil))) (pe_one (pe_cmpR op_eq (pv 0) (pv 1) (nomark _)))))) pss_nil)
      (pss_one (ps_ret (pe_and (pe_callB call_isi rfl T.b_isinstance (by decide +kernel) (pa_cons (pv 0) (pa_cons (pe_bltn (v := .ty "str") rfl T.b_str (by decide +kernel) rfl) pa_nil))) (pe_one (pe_cmpR op_eq (pv 0) (pv 1) (nomark _))))))))), ?_⟩
      walk_at "rd"
      refine ⟨small_size' (by decide), fun p hp => ?_⟩
      have s1 := Same.upd (o := .tup [V.ty "list", V.ty "tuple"]) hp
      rcases hab with ⟨ha, hb⟩ | ⟨ha, hb⟩
      · have ha1 := s1 _ _ ha
        have hb1 := s1 _ _ hb
        refine ⟨_, _, ⟨rfl, rfl⟩, _, _, SqT.of upd_same, _, .lst hb1, _, (kit_any K).2.2.2.1, ?_⟩
        rw [if_pos rfl]
        refine ⟨_, _, ⟨rfl, rfl⟩, _, .lst ha1, _, kit_list_list K, _, _, ⟨rfl, rfl⟩, _, .lst hb1, _, kit_list_list K, ?_⟩
        rw [if_neg (by decide)]
        refine ⟨_, _, ⟨rfl, rfl⟩, _, .lst ha1, _, (kit_ty K).2.2.2.2.2.2.2.2, _, _, ⟨rfl, rfl⟩, _, .lst hb1, _, (kit_ty K).2.2.2.2.2.2.2.2, ?_⟩
        rw [if_neg (by decide)]
        refine ⟨xs, .inl (SqL.of ha1), ys, .inl (SqL.of hb1), ?_⟩
        rw [if_pos (by rw [hlm]; simp)]
        refine ⟨ys, .inl (SqL.of hb1), ⟨by omega, by omega⟩, ?_⟩
        rw [Int.toNat_natCast, ← hlm]
        refine compgo_range (small_size' (by omega)) (fun i acc H' => acc = (List.replicate i true).map V.bl ∧ Same (upd H p (.tup [V.ty "list", V.ty "tuple"])) H') ⟨rfl, Same.refl _⟩ ?_ ?_ ?_
        · rintro i acc H' ⟨rfl, -⟩
          simp
        · rintro Nn i acc H' hN hi ⟨rfl, s2⟩
          walk_at "rd"
          have ei : ((0 : Int) + (i : Int)) = (i : Int) := by omega
          rw [ei]
          have gx : xs[i]? = some xs[i] := List.getElem?_eq_getElem hi
          have gy : ys[i]? = some (ys[i]'(by omega)) := List.getElem?_eq_getElem (by omega)
          refine (.inl ⟨_, _, _, _, rfl, rfl, SqL.of (s2 _ _ ha1), atI_nat gx, ?_⟩)
          refine (.inl ⟨_, _, _, _, rfl, rfl, SqL.of (s2 _ _ hb1), atI_nat gy, ?_⟩)
          refine ⟨_, _, rfl, (kk i _ _ gx gy).mono (s1.trans s2), fun H3 s3 => hN _ _ ⟨?_, s2.trans s3⟩⟩
          rw [List.replicate_succ', List.map_append]
          rfl
        · rintro acc H' ⟨rfl, s2⟩ r hr'
          refine ⟨_, rfl, _, SqL.of upd_same, ?_⟩
          have e : (List.replicate xs.length true).all id = true := by simp
          rw [e]
          exact q _ ((s1.trans s2).trans (Same.upd hr'))
      · have ha1 := s1 _ _ ha
        have hb1 := s1 _ _ hb
        refine ⟨_, _, ⟨rfl, rfl⟩, _, _, SqT.of upd_same, _, .tup hb1, _, (kit_any K).2.2.2.2, ?_⟩
        rw [if_pos rfl]
        refine ⟨_, _, ⟨rfl, rfl⟩, _, .tup ha1, _, (kit_ty K).2.2.2.2.2.2.2.1, _, _, ⟨rfl, rfl⟩, _, .tup hb1, _, (kit_ty K).2.2.2.2.2.2.2.1, ?_⟩
        rw [if_neg (by decide)]
        refine ⟨_, _, ⟨rfl, rfl⟩, _, .tup ha1, _, (kit_ty K).2.2.2.2.2.2.1, _, _, ⟨rfl, rfl⟩, _, .tup hb1, _, (kit_ty K).2.2.2.2.2.2.1, ?_⟩
        rw [if_neg (by decide)]
        refine ⟨xs, .inr (SqT.of ha1), ys, .inr (SqT.of hb1), ?_⟩
        rw [if_pos (by rw [hlm]; simp)]
        refine ⟨ys, .inr (SqT.of hb1), ⟨by omega, by omega⟩, ?_⟩
        rw [Int.toNat_natCast, ← hlm]
        refine compgo_range (small_size' (by omega)) (fun i acc H' => acc = (List.replicate i true).map V.bl ∧ Same (upd H p (.tup [V.ty "list", V.ty "tuple"])) H') ⟨rfl, Same.refl _⟩ ?_ ?_ ?_
        · rintro i acc H' ⟨rfl, -⟩
          simp
        · rintro Nn i acc H' hN hi ⟨rfl, s2⟩
          walk_at "rd"
          have ei : ((0 : Int) + (i : Int)) = (i : Int) := by omega
          rw [ei]
          have gx : xs[i]? = some xs[i] := List.getElem?_eq_getElem hi
          have gy : ys[i]? = some (ys[i]'(by omega)) := List.getElem?_eq_getElem (by omega)
          refine (.inr (.inl ⟨_, _, _, _, rfl, rfl, SqT.of (s2 _ _ ha1), atI_nat gx, ?_⟩))
          refine (.inr (.inl ⟨_, _, _, _, rfl, rfl, SqT.of (s2 _ _ hb1), atI_nat gy, ?_⟩))
          refine ⟨_, _, rfl, (kk i _ _ gx gy).mono (s1.trans s2), fun H3 s3 => hN _ _ ⟨?_, s2.trans s3⟩⟩
          rw [List.replicate_succ', List.map_append]
          rfl
        · rintro acc H' ⟨rfl, s2⟩ r hr'
          refine ⟨_, rfl, _, SqL.of upd_same, ?_⟩
          have e : (List.replicate xs.length true).all id = true := by simp
          rw [e]
          exact q _ ((s1.trans s2).trans (Same.upd hr'))
theorem ok_same3 (F : Def K mg "_law_same" s__law_same ["_law_found", "_law_due"]) (T : Txt K mg C_Council C_Down C_GateError C_InTheWay C_Keeper C_NotFree C_OldNumber C_UnknownKeeper) (G__law_same : Has P w K mg base 3 "_law_same" ["_law_found", "_law_due"] (spSameD 2)) : Has P w K mg base 4 "_law_same" ["_law_found", "_law_due"] (spSameD 3) := by
  refine F.ok sc__law_same (fun vs H Q E h => ?_) (fun f cdv A outer s H vs Q E hr h => ?_)
  · obtain ⟨v, v', rfl, _⟩ := h
    rfl
  · have hu := hr.units0
    obtain ⟨v, v', rfl, pv', q⟩ := h
    rcases pv' with pv' | ⟨a, b, xs, ys, rfl, rfl, hab, hlm, hz, kk⟩
    · obtain ⟨rfl, pv'⟩ := pv'
      refine ⟨_, (pss_cons (ps_if (pt_val (pe_callB call_isi2 rfl T.b_isinstance (by decide +kernel) (pa_cons (pv 1) (pa_cons (pe_tup (pa_cons (pe_bltn (v := .ty "list") rfl T.b_list (by decide +kernel) rfl) (pa_cons (pe_bltn (v := .ty "tuple") rfl T.b_tuple (by decide +kernel) rfl) pa_nil))) pa_nil)))) (pss_cons (ps_if (PW.pt (pw_or (pt_cmpR op_ne (pe_callB call_isi rfl T.b_isinstance (by decide +kernel) (pa_cons (pv 0) (pa_cons (pe_bltn (v := .ty "list") rfl T.b_list (by decide +kernel) rfl) pa_nil))) (pe_callB call_isi rfl T.b_isinstance (by decide +kernel) (pa_cons (pv 1) (pa_cons (pe_bltn (v := .ty "list") rfl T.b_list (by decide +kernel) rfl) pa_nil))) (nomark _)) (pw_or1 (pt_cmpR op_ne (pe_callB call_isi rfl T.b_isinstance (by decide +kernel) (pa_cons (pv 0) (pa_cons (pe_bltn (v := .ty "tuple") rfl T.b_tuple (by decide +kernel) rfl) pa_nil))) (pe_callB call_isi rfl T.b_isinstance (by decide +kernel) (pa_cons (pv 1) (pa_cons (pe_bltn (v := .ty "tuple") rfl T.b_tuple (by decide +kernel) rfl) pa_nil))) (nomark _))))) (pss_one (ps_ret pe_bl)) pss_nil)
      (pss_one (ps_ret (pe_and (pe_cmpR op_eq (pe_callB call_len_seq rfl T.b_len (by decide +kernel) (pa_cons (pv 0) pa_nil)) (pe_callB call_len_seq rfl T.b_len (by decide +kernel) (pa_cons (pv 1) pa_nil)) (nomark _)) (pe_one (pe_callB (call_all_bl rfl) rfl T.b_all (by decide +kernel) (pa_cons (pe_comp (x := "_law_k") (cap := ["_law_found", "_law_due"]) (js := [0, 1]) rfl ⟨rfl, by decide +kernel, by decide +kernel, rfl, freeOk_free rfl, by decide +kernel, ⟨⟨rfl, Or.inl rfl, rfl⟩, ⟨⟨rfl, Or.inl rfl, rfl⟩, trivial⟩⟩⟩ (pi_range1 rfl T.b_range (pa_cons (pe_callB call_len_seq rfl T.b_len (by decide +kernel) (pa_cons (pv 1) pa_nil)) pa_nil)) (fun _ _ _ _ => pif_nil) (fun _ _ _ _ => (pe_fn G__law_same (hr.mono (by decide)) rfl (pa_cons (pe_ix (ix_seq_k (K := K)) (pv 1) (pv 0) (fun _ _ => rfl)) (pa_cons (pe_ix (ix_seq_k (K := K)) (pv 2) (pv 0) (fun _ _ => rfl)) pa_nil))))) pa_nil))))))) pss_nil)
      (pss_cons (ps_if (pt_cmpR op_ne (pe_callB call_isi rfl T.b_isinstance (by decide +kernel) (pa_cons (pv 0) (pa_cons (pe_bltn (v := .ty "bool") rfl T.b_bool (by decide +kernel) rfl) pa_nil))) (pe_callB call_isi rfl T.b_isinstance (by decide +kernel) (pa_cons (pv 1) (pa_cons (pe_bltn (v := .ty "bool") rfl T.b_bool (by decide +kernel) rfl) pa_nil))) (nomark _)) (pss_one (ps_ret pe_bl)) pss_nil)
      (pss_cons (ps_if (pt_val (pe_callB call_isi rfl T.b_isinstance (by decide +kernel) (pa_cons (pv 1) (pa_cons (pe_bltn (v := .ty "int") rfl T.b_int (by decide +kernel) rfl) pa_nil)))) (pss_one (ps_ret (pe_and (pe_callB call_isi rfl T.b_isinstance (by decide +kernel) (pa_cons (pv 0) (pa_cons (pe_bltn (v := .ty "int") rfl T.b_int (by decide +kernel) rfl) pa_nil))) (pe_one (pe_cmpR op_eq (pv 0) (pv 1) (nomark _)))))) pss_nil)
      (pss_one (ps_ret (pe_and (pe_callB call_isi rfl T.b_isinstance (by decide +kernel) (pa_cons (pv 0) (pa_cons (pe_bltn (v := .ty "str") rfl T.b_str (by decide +kernel) rfl) pa_nil))) (pe_one (pe_cmpR op_eq (pv 0) (pv 1) (nomark _))))))))), ?_⟩
      walk_at "rd"
      refine ⟨small_size' (by decide), fun p hp => ?_⟩
      have s1 := q _ (Same.upd (o := .tup [V.ty "list", V.ty "tuple"]) hp)
      rcases pv' with ⟨i, rfl⟩ | ⟨z, rfl⟩ | ⟨b, rfl⟩
      · refine ⟨_, _, ⟨rfl, rfl⟩, _, _, SqT.of upd_same, _, .int i, _, (kit_any K).1, ?_⟩
        rw [if_neg Bool.false_ne_true]
        refine ⟨_, _, ⟨rfl, rfl⟩, _, .int i, _, kit_int_bool K, _, _, ⟨rfl, rfl⟩, _, .int i, _, kit_int_bool K, ?_⟩
        rw [if_neg (by decide)]
        refine ⟨_, _, ⟨rfl, rfl⟩, _, .int i, _, (kit_ty K).1, ?_⟩
        rw [if_pos rfl]
        refine ⟨_, _, ⟨rfl, rfl⟩, _, .int i, _, (kit_ty K).1, ?_⟩
        rw [if_pos rfl]
        exact ⟨rfl, by simpa using s1⟩
      · refine ⟨_, _, ⟨rfl, rfl⟩, _, _, SqT.of upd_same, _, .str z, _, (kit_any K).2.2.1, ?_⟩
        rw [if_neg Bool.false_ne_true]
        refine ⟨_, _, ⟨rfl, rfl⟩, _, .str z, _, (kit_ty K).2.2.2.2.2.1, _, _, ⟨rfl, rfl⟩, _, .str z, _, (kit_ty K).2.2.2.2.2.1, ?_⟩
        rw [if_neg (by decide)]
        refine ⟨_, _, ⟨rfl, rfl⟩, _, .str z, _, (kit_ty K).2.2.1, ?_⟩
        rw [if_neg Bool.false_ne_true]
        refine ⟨_, _, ⟨rfl, rfl⟩, _, .str z, _, (kit_ty K).2.2.2.1, ?_⟩
        rw [if_pos rfl]
        exact ⟨rfl, by simpa using s1⟩
      · refine ⟨_, _, ⟨rfl, rfl⟩, _, _, SqT.of upd_same, _, .bl b, _, (kit_any K).2.1, ?_⟩
        rw [if_neg Bool.false_ne_true]
        refine ⟨_, _, ⟨rfl, rfl⟩, _, .bl b, _, kit_bool_bool K, _, _, ⟨rfl, rfl⟩, _, .bl b, _, kit_bool_bool K, ?_⟩
        rw [if_neg (by decide)]
        refine ⟨_, _, ⟨rfl, rfl⟩, _, .bl b, _, (kit_ty K).2.1, ?_⟩
        rw [if_pos rfl]
        refine ⟨_, _, ⟨rfl, rfl⟩, _, .bl b, _, (kit_ty K).2.1, ?_⟩
        rw [if_pos rfl]
        exact ⟨rfl, by simpa using s1⟩
    · skip
      refine ⟨_, (pss_cons (ps_if (pt_val (pe_callB call_isi2 rfl T.b_isinstance (by decide +kernel) (pa_cons (pv 1) (pa_cons (pe_tup (pa_cons (pe_bltn (v := .ty "list") rfl T.b_list (by decide +kernel) rfl) (pa_cons (pe_bltn (v := .ty "tuple") rfl T.b_tuple (by decide +kernel) rfl) pa_nil))) pa_nil)))) (pss_cons (ps_if (PW.pt (pw_or (pt_cmpR op_ne (pe_callB call_isi rfl T.b_isinstance (by decide +kernel) (pa_cons (pv 0) (pa_cons (pe_bltn (v := .ty "list") rfl T.b_list (by decide +kernel) rfl) pa_nil))) (pe_callB call_isi rfl T.b_isinstance (by decide +kernel) (pa_cons (pv 1) (pa_cons (pe_bltn (v := .ty "list") rfl T.b_list (by decide +kernel) rfl) pa_nil))) (nomark _)) (pw_or1 (pt_cmpR op_ne (pe_callB call_isi rfl T.b_isinstance (by decide +kernel) (pa_cons (pv 0) (pa_cons (pe_bltn (v := .ty "tuple") rfl T.b_tuple (by decide +kernel) rfl) pa_nil))) (pe_callB call_isi rfl T.b_isinstance (by decide +kernel) (pa_cons (pv 1) (pa_cons (pe_bltn (v := .ty "tuple") rfl T.b_tuple (by decide +kernel) rfl) pa_nil))) (nomark _))))) (pss_one (ps_ret pe_bl)) pss_nil)
      (pss_one (ps_ret (pe_and (pe_cmpR op_eq (pe_callB call_len_seq rfl T.b_len (by decide +kernel) (pa_cons (pv 0) pa_nil)) (pe_callB call_len_seq rfl T.b_len (by decide +kernel) (pa_cons (pv 1) pa_nil)) (nomark _)) (pe_one (pe_callB (call_all_bl rfl) rfl T.b_all (by decide +kernel) (pa_cons (pe_comp (x := "_law_k") (cap := ["_law_found", "_law_due"]) (js := [0, 1]) rfl ⟨rfl, by decide +kernel, by decide +kernel, rfl, freeOk_free rfl, by decide +kernel, ⟨⟨rfl, Or.inl rfl, rfl⟩, ⟨⟨rfl, Or.inl rfl, rfl⟩, trivial⟩⟩⟩ (pi_range1 rfl T.b_range (pa_cons (pe_callB call_len_seq rfl T.b_len (by decide +kernel) (pa_cons (pv 1) pa_nil)) pa_nil)) (fun _ _ _ _ => pif_nil) (fun _ _ _ _ => (pe_fn G__law_same (hr.mono (by decide)) rfl (pa_cons (pe_ix (ix_seq_k (K := K)) (pv 1) (pv 0) (fun _ _ => rfl)) (pa_cons (pe_ix (ix_seq_k (K := K)) (pv 2) (pv 0) (fun _ _ => rfl)) pa_nil))))) pa_nil))))))) pss_nil)
      (pss_cons (ps_if (pt_cmpR op_ne (pe_callB call_isi rfl T.b_isinstance (by decide +kernel) (pa_cons (pv 0) (pa_cons (pe_bltn (v := .ty "bool") rfl T.b_bool (by decide +kernel) rfl) pa_nil))) (pe_callB call_isi rfl T.b_isinstance (by decide +kernel) (pa_cons (pv 1) (pa_cons (pe_bltn (v := .ty "bool") rfl T.b_bool (by decide +kernel) rfl) pa_nil))) (nomark _)) (pss_one (ps_ret pe_bl)) pss_nil)
      (pss_cons (ps_if (pt_val (pe_callB call_isi rfl T.b_isinstance (by decide +kernel) (pa_cons (pv 1) (pa_cons (pe_bltn (v := .ty "int") rfl T.b_int (by decide +kernel) rfl) pa_nil)))) (pss_one (ps_ret (pe_and (pe_callB call_isi rfl T.b_isinstance (by decide +kernel) (pa_cons (pv 0) (pa_cons (pe_bltn (v := .ty "int") rfl T.b_int (by decide +kernel) rfl) pa_nil))) (pe_one (pe_cmpR op_eq (pv 0) (pv 1) (nomark _)))))) pss_nil)
      (pss_one (ps_ret (pe_and (pe_callB call_isi rfl T.b_isinstance (by decide +kernel) (pa_cons (pv 0) (pa_cons (pe_bltn (v := .ty "str") rfl T.b_str (by decide +kernel) rfl) pa_nil))) (pe_one (pe_cmpR op_eq (pv 0) (pv 1) (nomark _))))))))), ?_⟩
      walk_at "rd"
      refine ⟨small_size' (by decide), fun p hp => ?_⟩
      have s1 := Same.upd (o := .tup [V.ty "list", V.ty "tuple"]) hp
      rcases hab with ⟨ha, hb⟩ | ⟨ha, hb⟩
      · have ha1 := s1 _ _ ha
        have hb1 := s1 _ _ hb
        refine ⟨_, _, ⟨rfl, rfl⟩, _, _, SqT.of upd_same, _, .lst hb1, _, (kit_any K).2.2.2.1, ?_⟩
        rw [if_pos rfl]
        refine ⟨_, _, ⟨rfl, rfl⟩, _, .lst ha1, _, kit_list_list K, _, _, ⟨rfl, rfl⟩, _, .lst hb1, _, kit_list_list K, ?_⟩
        rw [if_neg (by decide)]
        refine ⟨_, _, ⟨rfl, rfl⟩, _, .lst ha1, _, (kit_ty K).2.2.2.2.2.2.2.2, _, _, ⟨rfl, rfl⟩, _, .lst hb1, _, (kit_ty K).2.2.2.2.2.2.2.2, ?_⟩
        rw [if_neg (by decide)]
        refine ⟨xs, .inl (SqL.of ha1), ys, .inl (SqL.of hb1), ?_⟩
        rw [if_pos (by rw [hlm]; simp)]
        refine ⟨ys, .inl (SqL.of hb1), ⟨by omega, by omega⟩, ?_⟩
        rw [Int.toNat_natCast, ← hlm]
        refine compgo_range (small_size' (by omega)) (fun i acc H' => acc = (List.replicate i true).map V.bl ∧ Same (upd H p (.tup [V.ty "list", V.ty "tuple"])) H') ⟨rfl, Same.refl _⟩ ?_ ?_ ?_
        · rintro i acc H' ⟨rfl, -⟩
          simp
        · rintro Nn i acc H' hN hi ⟨rfl, s2⟩
          walk_at "rd"
          have ei : ((0 : Int) + (i : Int)) = (i : Int) := by omega
          rw [ei]
          have gx : xs[i]? = some xs[i] := List.getElem?_eq_getElem hi
          have gy : ys[i]? = some (ys[i]'(by omega)) := List.getElem?_eq_getElem (by omega)
          refine (.inl ⟨_, _, _, _, rfl, rfl, SqL.of (s2 _ _ ha1), atI_nat gx, ?_⟩)
          refine (.inl ⟨_, _, _, _, rfl, rfl, SqL.of (s2 _ _ hb1), atI_nat gy, ?_⟩)
          refine ⟨_, _, rfl, (kk i _ _ gx gy).mono (s1.trans s2), fun H3 s3 => hN _ _ ⟨?_, s2.trans s3⟩⟩
          rw [List.replicate_succ', List.map_append]
          rfl
        · rintro acc H' ⟨rfl, s2⟩ r hr'
          refine ⟨_, rfl, _, SqL.of upd_same, ?_⟩
          have e : (List.replicate xs.length true).all id = true := by simp
          rw [e]
          exact q _ ((s1.trans s2).trans (Same.upd hr'))
      · have ha1 := s1 _ _ ha
        have hb1 := s1 _ _ hb
        refine ⟨_, _, ⟨rfl, rfl⟩, _, _, SqT.of upd_same, _, .tup hb1, _, (kit_any K).2.2.2.2, ?_⟩
        rw [if_pos rfl]
        refine ⟨_, _, ⟨rfl, rfl⟩, _, .tup ha1, _, (kit_ty K).2.2.2.2.2.2.2.1, _, _, ⟨rfl, rfl⟩, _, .tup hb1, _, (kit_ty K).2.2.2.2.2.2.2.1, ?_⟩
        rw [if_neg (by decide)]
        refine ⟨_, _, ⟨rfl, rfl⟩, _, .tup ha1, _, (kit_ty K).2.2.2.2.2.2.1, _, _, ⟨rfl, rfl⟩, _, .tup hb1, _, (kit_ty K).2.2.2.2.2.2.1, ?_⟩
        rw [if_neg (by decide)]
        refine ⟨xs, .inr (SqT.of ha1), ys, .inr (SqT.of hb1), ?_⟩
        rw [if_pos (by rw [hlm]; simp)]
        refine ⟨ys, .inr (SqT.of hb1), ⟨by omega, by omega⟩, ?_⟩
        rw [Int.toNat_natCast, ← hlm]
        refine compgo_range (small_size' (by omega)) (fun i acc H' => acc = (List.replicate i true).map V.bl ∧ Same (upd H p (.tup [V.ty "list", V.ty "tuple"])) H') ⟨rfl, Same.refl _⟩ ?_ ?_ ?_
        · rintro i acc H' ⟨rfl, -⟩
          simp
        · rintro Nn i acc H' hN hi ⟨rfl, s2⟩
          walk_at "rd"
          have ei : ((0 : Int) + (i : Int)) = (i : Int) := by omega
          rw [ei]
          have gx : xs[i]? = some xs[i] := List.getElem?_eq_getElem hi
          have gy : ys[i]? = some (ys[i]'(by omega)) := List.getElem?_eq_getElem (by omega)
          refine (.inr (.inl ⟨_, _, _, _, rfl, rfl, SqT.of (s2 _ _ ha1), atI_nat gx, ?_⟩))
          refine (.inr (.inl ⟨_, _, _, _, rfl, rfl, SqT.of (s2 _ _ hb1), atI_nat gy, ?_⟩))
          refine ⟨_, _, rfl, (kk i _ _ gx gy).mono (s1.trans s2), fun H3 s3 => hN _ _ ⟨?_, s2.trans s3⟩⟩
          rw [List.replicate_succ', List.map_append]
          rfl
        · rintro acc H' ⟨rfl, s2⟩ r hr'
          refine ⟨_, rfl, _, SqL.of upd_same, ?_⟩
          have e : (List.replicate xs.length true).all id = true := by simp
          rw [e]
          exact q _ ((s1.trans s2).trans (Same.upd hr'))
/-- what the law is told of a giving -/
def spGiven (CC CK : Addr) : Sp := fun vs H Q _ => ∃ (c a l : Addr) (ks ls : List Addr) (ss : List KN) (z : Int) (hd lk : Str) (sh : Bool) (tick time : Int), vs = [.ref c, .ref a, .int tick] ∧ H a = some (.tup [.int z, .str hd, .str lk, .bl sh, .int time]) ∧ CAt CC CK H c l ks ls ss ∧ Small ss ∧ hd.length ≤ 1000 ∧ lk.length ≤ 1000 ∧
  (((sayl ss ks.length hd lk sh tick).length : Int) < (ks.length : Int) / 2 + 1 → ∀ (r : Addr) (H' : Hp), H' r = some (.tup [.str "refused"]) → Same H H' → Q (.ref r) H') ∧
  (¬ ((sayl ss ks.length hd lk sh tick).length : Int) < (ks.length : Int) / 2 + 1 → ∀ (m : Int), IsTop ss m → ∀ (r p : Addr) (ls' : List Addr) (H' : Hp), LsOk H ls ls' → CAt CC CK H' c l ks ls' (giveN ss (sayl ss ks.length hd lk sh tick) ⟨1 + m, hd, lk, sh, tick + time⟩) →
    H' r = some (.tup [.int (1 + m), .ref p]) → H' p = some (.lst (plus1 (sayl ss ks.length hd lk sh tick))) → ButK ks H H' → Q (.ref r) H')
theorem ok__law_given (F : Def K mg "_law_given" s__law_given ["_law_council", "_law_asking", "_law_tick"]) (T : Txt K mg C_Council C_Down C_GateError C_InTheWay C_Keeper C_NotFree C_OldNumber C_UnknownKeeper) (G_Council_give : MHas P w K mg base (CX1 P w) 7 C_Council "give" ["self", "holder", "lock", "shared", "tick", "time"] (spGive C_Council C_Keeper C_NotFree)) : Has P w K mg base 8 "_law_given" ["_law_council", "_law_asking", "_law_tick"] (spGiven C_Council C_Keeper) := by
  refine F.ok sc__law_given (fun vs H Q E h => ?_) (fun f cdv A outer s H vs Q E hr h => ?_)
  · obtain ⟨c, a, l, ks, ls, ss, z, hd, lk, sh, tick, time, rfl, _⟩ := h
    rfl
  · obtain ⟨c, a, l, ks, ls, ss, z, hd, lk, sh, tick, time, rfl, ha, hc, hsm, hh, hl, q1, q2⟩ := h
    refine ⟨_, (pss_cons (ps_try (psx_ret (px_mth G_Council_give T.cl_Council (hr.mono (by decide)) (pv 0) (pa_cons (pe_ix ix_tup (pv 1) pe_int (fun _ _ => rfl)) (pa_cons (pe_ix ix_tup (pv 1) pe_int (fun _ _ => rfl)) (pa_cons (pe_ix ix_tup (pv 1) pe_int (fun _ _ => rfl)) (pa_cons (pv 2) (pa_cons (pe_ix ix_tup (pv 1) pe_int (fun _ _ => rfl)) pa_nil))))))) (ph_asN (i := 3) rfl T.g_GateError T.x_GateError (by decide +kernel) sc__law_given.nd rfl rfl rfl rfl (fun _ => (pss_one (ps_set (i := 4) sc__law_given.nd rfl (Or.inl rfl) (pe_and (pe_callB (call_isiE_k (K := K)) rfl T.b_isinstance (by decide +kernel) (pa_cons (pv 3) (pa_cons (pe_glob (v := .ref C_NotFree) rfl T.g_NotFree rfl) pa_nil))) (pe_one (pe_callB (call_isiE_k (K := K)) rfl T.b_isinstance (by decide +kernel) (pa_cons (pv 3) (pa_cons (pe_bltn (v := .ty "ValueError") rfl T.b_ValueError (by decide +kernel) rfl) pa_nil)))))))) ph_nil))
      (pss_one (ps_ret (pe_ix ix_list (pe_lst (pa_cons (pe_tup (pa_cons pe_str pa_nil)) (pa_cons (pe_tup (pa_cons pe_str pa_nil)) pa_nil))) (pe_callTy call_int1 rfl T.b_int (by decide +kernel) (pa_cons (pv 4) pa_nil)) (fun _ _ => rfl))))), ?_⟩
    walk_at "rd"
    obtain ⟨dx, hob⟩ := hc.ob
    refine ⟨_, _, hob, cf_no _ _ (by decide +kernel) (by decide +kernel), ?_⟩
    refine ⟨_, _, _, _, rfl, rfl, SqT.of ha, atI_nat (j := 1) rfl, ?_⟩
    refine ⟨_, _, _, _, rfl, rfl, SqT.of ha, atI_nat (j := 2) rfl, ?_⟩
    refine ⟨_, _, _, _, rfl, rfl, SqT.of ha, atI_nat (j := 3) rfl, ?_⟩
    refine ⟨_, _, _, _, rfl, rfl, SqT.of ha, atI_nat (j := 4) rfl, ?_⟩
    refine ⟨c, l, ks, ls, ss, hd, lk, sh, tick, time, rfl, hc, hsm, hh, hl, fun hlt H1 s1 => ?_, fun hlt m hm r p ls' H1 h1 h2 h3 h4 _ _ h5 => q2 hlt m hm r p ls' H1 h1 h2 h3 h4 h5⟩
    refine ⟨true, T.sb_NotFree_GateError, ?_⟩
    rw [if_pos rfl]
    intro x C hC hx
    cases hC
    refine ⟨_, _, _, ⟨rfl, rfl⟩, upd_same, T.ec_NotFree, _, rfl, _, T.ko_NotFree_NotFree, ?_⟩
    rw [if_pos rfl]
    refine ⟨_, _, _, ⟨rfl, rfl⟩, upd_same, T.ec_NotFree, _, rfl, _, T.ko_NotFree_ValueError, small_size' (by decide), fun p0 hp0 => ⟨small_size' (by decide), fun p1 hp1 => ⟨small_size' (by decide), fun p2 hp2 => .inr ?_⟩⟩⟩
    rw [if_pos rfl]
    refine ⟨_, _, _, _, rfl, rfl, SqL.of upd_same, atI_nat (j := 1) rfl, q1 hlt p1 _ (Same.upd hp2 _ _ upd_same) (s1.trans ((Same.upd hx).trans ((Same.upd hp0).trans ((Same.upd hp1).trans (Same.upd hp2)))))⟩
def standN (ss : List KN) (f : Nat → Bool) : List KN := ss.mapIdx fun j s => ⟨f j, s.t, s.N⟩
theorem standN_get (ss : List KN) (f : Nat → Bool) (j : Nat) : (standN ss f)[j]? = (ss[j]?).map fun s => ⟨f j, s.t, s.N⟩ := by
  unfold standN
  rw [List.getElem?_mapIdx]
def spStand (CC CK : Addr) : Sp := fun vs H Q _ => ∃ (c l : Addr) (ks ls : List Addr) (ss : List KN) (cell : Int), vs = [.ref c, .int (ks.length : Int), .int cell] ∧ CAt CC CK H c l ks ls ss ∧
  ∀ (f : Nat → Bool) (r : Addr) (H' : Hp), CAt CC CK H' c l ks ls (standN ss f) → H' r = some (.lst (plus1 ((List.range ks.length).filter f))) → H r = none → ButK ks H H' → Q (.ref r) H'
theorem ok__law_stand (F : Def K mg "_law_stand" s__law_stand ["_law_council", "_law_keepers", "_law_cell"]) (T : Txt K mg C_Council C_Down C_GateError C_InTheWay C_Keeper C_NotFree C_OldNumber C_UnknownKeeper) (G_Council_fall : MHas P w K mg base (CX1 P w) 2 C_Council "fall" ["self", "keeper"] (spFR C_Council C_Keeper C_UnknownKeeper false)) (G_Council_rise : MHas P w K mg base (CX1 P w) 2 C_Council "rise" ["self", "keeper"] (spFR C_Council C_Keeper C_UnknownKeeper true)) : Has P w K mg base 3 "_law_stand" ["_law_council", "_law_keepers", "_law_cell"] (spStand C_Council C_Keeper) := by
  refine F.ok sc__law_stand (fun vs H Q E h => ?_) (fun f cdv A outer s H vs Q E hr h => ?_)
  · obtain ⟨c, l, ks, ls, ss, cell, rfl, _⟩ := h
    rfl
  · obtain ⟨c, l, ks, ls, ss, cell, rfl, hc, q⟩ := h
    refine ⟨_, (pss_cons (ps_set (i := 3) sc__law_stand.nd rfl (Or.inl rfl) (pe_lst pa_nil))
      (pss_cons (ps_for PassesOwn.never rfl (pi_range1 rfl T.b_range (pa_cons (pv 1) pa_nil)) (pg_name (i := 4) sc__law_stand.nd rfl (Or.inl rfl)) (pss_cut (ps_if (pt_cmpR op_eq (pe_op op_mod (pv 2) pe_int) pe_int (nomark _)) (pss_one (ps_expr (pe_mth (MHas.never G_Council_fall) T.cl_Council (hr.mono (by decide)) (pv 0) (pa_cons (pe_op op_add (pv 4) pe_int) pa_nil)))) (pss_cons (ps_expr (pe_mth (MHas.never G_Council_rise) T.cl_Council (hr.mono (by decide)) (pv 0) (pa_cons (pe_op op_add (pv 4) pe_int) pa_nil)))
      (pss_one (ps_expr (pe_bm PySem.F.plainAttrs_list PySem.F.slot_list_append PySem.F.type_list_append mt_append (pv 3) (pa_cons (pe_op op_add (pv 4) pe_int) pa_nil))))))
      (pss_one (ps_set (i := 2) sc__law_stand.nd rfl (Or.inl rfl) (pe_op op_fdiv (pv 2) pe_int)))))
      (pss_one (ps_ret (pv 3))))), ?_⟩
    walk_at "rd"
    have hsz := hc.sz
    refine ⟨Nat.zero_le _, fun p hp => ⟨⟨by omega, by omega⟩, ?_⟩⟩
    rw [Int.toNat_natCast]
    have npk : p ∉ ks := fun z => by
      obtain ⟨_, _, e⟩ := hc.mem z
      rw [hp] at e
      cases e
    have nlp : l ≠ p := ne_of_none hc.li hp
    have npl : p ∉ ls := fun z => by
      obtain ⟨_, e⟩ := hc.lsome z
      rw [hp] at e
      cases e
    have hc0 := hc.mono (Same.upd (o := .lst []) hp)
    have gp0 : upd H p (.lst []) p = some (.lst (plus1 [])) := upd_same
    have s0 := Same.upd (o := .lst []) hp
    generalize upd H p (.lst []) = H0 at hc0 gp0 s0 ⊢
    -- the first i keepers are set
    refine forgo_range (fun i σ H' => ∃ (f : Nat → Bool) (c2 : Int) (v4 : Option V), σ = [some (V.ref c), some (V.int ks.length), some (V.int c2), some (V.ref p), v4] ∧ CAt C_Council C_Keeper H' c l ks ls (ss.mapIdx fun j s => if j < i then ⟨f j, s.t, s.N⟩ else s) ∧ H' p = some (.lst (plus1 ((List.range i).filter f))) ∧ ButK ks H H') ⟨fun _ => true, cell, _, rfl, ?_, gp0, ButK.of s0⟩ ?_ ?_
    · have e : (ss.mapIdx fun j s => if j < 0 then (⟨true, s.t, s.N⟩ : KN) else s) = ss := by
        apply List.ext_getElem?
        intro i
        rw [List.getElem?_mapIdx]
        simp
      rw [e]
      exact hc0
    · rintro Pv hP i σ H' hi ⟨f, c2, v4, rfl, hci, gp, b⟩
      walk_at "rd"
      simp only [Int.zero_add]
      have hik : ks[i]? = some ks[i] := List.getElem?_eq_getElem hi
      obtain ⟨dxi, hobi⟩ := hci.ob
      -- one keeper is set to b0
      have one : ∀ (b0 : Bool) (s : KN) (H2 : Hp), (ss.mapIdx fun j s => if j < i then (⟨f j, s.t, s.N⟩ : KN) else s)[i]? = some s → CAt C_Council C_Keeper H2 c l ks ls ((ss.mapIdx fun j s => if j < i then (⟨f j, s.t, s.N⟩ : KN) else s).set i ⟨b0, s.t, s.N⟩) →
          CAt C_Council C_Keeper H2 c l ks ls (ss.mapIdx fun j s => if j < i + 1 then ⟨(fun j => if j = i then b0 else f j) j, s.t, s.N⟩ else s) := fun b0 s H2 es h2 => by
        have e : (ss.mapIdx fun j s => if j < i then (⟨f j, s.t, s.N⟩ : KN) else s).set i ⟨b0, s.t, s.N⟩ = ss.mapIdx fun j s => if j < i + 1 then ⟨(fun j => if j = i then b0 else f j) j, s.t, s.N⟩ else s := by
          rw [List.getElem?_mapIdx] at es
          have hil : i < ss.length := by rw [hc.ln]; exact hi
          rw [List.getElem?_eq_getElem hil] at es
          have es' : s = ss[i] := by simpa using es.symm
          apply List.ext_getElem?
          intro j
          by_cases hj : j = i
          · subst hj
            rw [List.getElem?_set_self (by rw [List.length_mapIdx]; exact hil), List.getElem?_mapIdx, List.getElem?_eq_getElem hil, es']
            simp
          · rw [List.getElem?_set_ne (Ne.symm hj), List.getElem?_mapIdx, List.getElem?_mapIdx]
            have : (j < i + 1) = (j < i) := by rw [eq_iff_iff]; omega
            simp [hj, this]
        rw [← e]
        exact h2
      have flt : ∀ b0 : Bool, (List.range (i + 1)).filter (fun j => if j = i then b0 else f j) = (List.range i).filter f ++ (if b0 = true then [i] else []) := fun b0 => by
        rw [List.range_succ, List.filter_append]
        congr 1
        · apply List.filter_congr
          intro j hj
          have := List.mem_range.mp hj
          rw [if_neg (by omega)]
        · cases b0 <;> simp
      refine cut_i (fun σ H2 => ∃ f', σ = [some (V.ref c), some (V.int ks.length), some (V.int c2), some (V.ref p), some (V.int i)] ∧ CAt C_Council C_Keeper H2 c l ks ls (ss.mapIdx fun j s => if j < i + 1 then ⟨f' j, s.t, s.N⟩ else s) ∧ H2 p = some (.lst (plus1 ((List.range (i + 1)).filter f'))) ∧ ButK ks H H2) (fun Mid hM => ?_) ?_
      · walk_at "rd"
        refine ⟨by decide, ite2 (fun _ => ?_) (fun _ => ?_)⟩
        · refine ⟨_, _, hobi, cf_no _ _ (by decide +kernel) (by decide +kernel), c, l, ks, ls, _, _, rfl, hci, fun z => absurd ⟨by omega, by omega⟩ z, fun j k s H2 ej hj hs h2 hb2 => ?_⟩
          have : j = i := by omega
          subst this
          refine hM _ _ ⟨fun x => if x = j then false else f x, rfl, one false s H2 hs h2, ?_, b.trans (ButK.but hb2 (List.mem_of_getElem? hj))⟩
          rw [flt false]
          simp only [Bool.false_eq_true, if_false, List.append_nil]
          exact hb2 _ _ gp fun z => npk (z ▸ List.mem_of_getElem? hj)
        · refine ⟨_, _, hobi, cf_no _ _ (by decide +kernel) (by decide +kernel), c, l, ks, ls, _, _, rfl, hci, fun z => absurd ⟨by omega, by omega⟩ z, fun j k s H2 ej hj hs h2 hb2 => ?_⟩
          have : j = i := by omega
          subst this
          have gp2 := hb2 _ _ gp fun z => npk (z ▸ List.mem_of_getElem? hj)
          have ll : (plus1 ((List.range j).filter f)).length ≤ 1000 := by
            unfold plus1
            rw [List.length_map]
            exact Nat.le_trans (List.length_filter_le _ _) (by rw [List.length_range]; omega)
          refine ⟨.inl ⟨_, SqL.of gp2⟩, _, _, _, rfl, rfl, gp2, small1000 ll, ?_⟩
          refine hM _ _ ⟨fun x => if x = j then true else f x, rfl, ?_, ?_, ?_⟩
          · exact (one true s H2 hs h2).upd gp2 nlp npl
          · rw [upd_same, flt true]
            simp [plus1]
          · intro b' o' e' n'
            by_cases z : b' = p
            · subst z
              rw [hp] at e'
              cases e'
            · rw [upd_ne z]
              exact (b.trans (ButK.but hb2 (List.mem_of_getElem? hj))) b' o' e' n'
      · rintro σ H2 ⟨f', rfl, h2, g2, b2⟩
        walk_at "rd"
        exact ⟨cdiv (by decide) (by decide), hP _ _ _ ⟨f', _, _, rfl, h2, g2, b2⟩⟩
    · rintro σ H' ⟨f, c2, v4, rfl, hci, gp, b⟩
      walk_at "rd"
      have e : (ss.mapIdx fun j s => if j < ks.length then (⟨f j, s.t, s.N⟩ : KN) else s) = standN ss f := by
        unfold standN
        apply List.ext_getElem?
        intro j
        rw [List.getElem?_mapIdx, List.getElem?_mapIdx]
        cases ej : ss[j]? with
        | none => rfl
        | some s =>
          have := (List.getElem?_eq_some_iff.mp ej).1
          rw [hc.ln] at this
          simp [this]
      rw [e] at hci
      exact q f p H' hci gp hp b
abbrev RL := List (Addr × Addr × Addr × List Nat × Nt)
def refr (R : RL) : List V := R.map fun q => V.ref q.1
/-- rows (by, note), each at its place -/
def RAt (H : Hp) (R : RL) : Prop := ∀ q ∈ R, H q.1 = some (.tup [.ref q.2.1, .ref q.2.2.1]) ∧ H q.2.1 = some (.lst (plus1 q.2.2.2.1)) ∧ H q.2.2.1 = some (.tup q.2.2.2.2.vals)
theorem RAt.mono {H H' : Hp} {R : RL} (h : RAt H R) (s : Same H H') : RAt H' R := fun q hq => ⟨s _ _ (h q hq).1, s _ _ (h q hq).2.1, s _ _ (h q hq).2.2⟩
theorem refr_len (R : RL) : (refr R).length = R.length := List.length_map _
theorem refr_get {R : RL} {i : Nat} {x : V} (h : (refr R)[i]? = some x) : ∃ q, R[i]? = some q ∧ x = .ref q.1 := by
  unfold refr at h
  rw [List.getElem?_map] at h
  cases e : R[i]? with
  | none => rw [e] at h; cases h
  | some q => rw [e] at h; exact ⟨q, rfl, (Option.some.inj h).symm⟩
theorem in_plus1 (j : Nat) (js : List Nat) : inV (V.int ((j : Int) + 1)) (plus1 js) = decide (j ∈ js) := by
  unfold inV plus1
  rw [List.any_map, Bool.eq_iff_iff]
  simp only [List.any_eq_true, decide_eq_true_eq, Function.comp]
  constructor
  · rintro ⟨x, hx, e⟩
    have : j = x := by
      simp [eqV] at e
      omega
    exact this ▸ hx
  · intro h
    exact ⟨j, h, by simp [eqV]⟩
theorem plus1_flat (js : List Nat) : (plus1 js).all flatV = true := by
  unfold plus1
  rw [List.all_map, List.all_eq_true]
  intro x _
  rfl
theorem nt_plain (x : Nt) : ∀ v ∈ x.vals, Plain v := by
  intro v hv
  simp only [Nt.vals, List.mem_cons, List.not_mem_nil, or_false] at hv
  rcases hv with rfl | rfl | rfl | rfl | rfl
  · exact .inl ⟨_, rfl⟩
  · exact .inr (.inl ⟨_, rfl⟩)
  · exact .inr (.inl ⟨_, rfl⟩)
  · exact .inr (.inr ⟨_, rfl⟩)
  · exact .inl ⟨_, rfl⟩
theorem notes_alike {H : Hp} {a b : Addr} {L M : NL} (ha : H a = some (.lst (refs L))) (hb : H b = some (.lst (refs M))) (hL : ∀ q ∈ L, H q.1 = some (.tup q.2.vals)) (hM : ∀ q ∈ M, H q.1 = some (.tup q.2.vals)) (e : L.map (·.2) = M.map (·.2)) (hl : L.length ≤ 1000) : Alike H 3 (.ref a) (.ref b) := by
  have hlm : L.length = M.length := by have := congrArg List.length e; simpa using this
  refine .inr ⟨a, b, _, _, rfl, rfl, .inl ⟨ha, hb⟩, by rw [refs_len, refs_len]; exact hlm, by rw [refs_len]; exact hl, fun i x y hx hy => ?_⟩
  obtain ⟨q, hq, rfl⟩ := refs_get hx
  obtain ⟨r, hr, rfl⟩ := refs_get hy
  have ee : q.2 = r.2 := by
    have h1 : (L.map (·.2))[i]? = (M.map (·.2))[i]? := by rw [e]
    rw [List.getElem?_map, List.getElem?_map, hq, hr] at h1
    simpa using h1
  have t1 := hL q (List.mem_of_getElem? hq)
  have t2 := hM r (List.mem_of_getElem? hr)
  rw [← ee] at t2
  refine .inr ⟨_, _, _, _, rfl, rfl, .inr ⟨t1, t2⟩, rfl, by show 5 ≤ 1000; decide, fun j x y hx hy => ?_⟩
  rw [hx] at hy
  cases hy
  exact .inl ⟨rfl, nt_plain _ _ (List.mem_of_getElem? hx)⟩
def noteF (R : RL) (tick : Int) (j : Nat) : List (Addr × Nt) := (R.filter fun q => decide (j ∈ q.2.2.2.1) && decide (tick < q.2.2.2.2.e)).map fun q => (q.2.2.1, q.2.2.2.2)
/-- what the keepers have noted is what the rows tell -/
def Noted (ss : List KN) (R : RL) (tick : Int) : Prop := ∀ j s, ss[j]? = some s → liveN tick s.N = (noteF R tick j).map (·.2)
def spNoted (CC CK : Addr) : Sp := fun vs H Q _ => ∃ (c l pr : Addr) (ks ls : List Addr) (ss : List KN) (tick : Int) (R : RL), vs = [.ref c, .int (ks.length : Int), .int tick, .ref pr] ∧ CAt CC CK H c l ks ls ss ∧ H pr = some (.lst (refr R)) ∧ RAt H R ∧ R.length ≤ 100 ∧ Noted ss R tick ∧ Keeps H Q (.bl true)
theorem ok__law_noted (F : Def K mg "_law_noted" s__law_noted ["_law_council", "_law_keepers", "_law_tick", "_law_rows"]) (T : Txt K mg C_Council C_Down C_GateError C_InTheWay C_Keeper C_NotFree C_OldNumber C_UnknownKeeper) (G_Council_notes : MHas P w K mg base (CX1 P w) 2 C_Council "notes" ["self", "keeper", "tick"] (spNotes C_Council C_Keeper C_UnknownKeeper)) (G__law_same : Has P w K mg base 4 "_law_same" ["_law_found", "_law_due"] (spSameD 3)) : Has P w K mg base 5 "_law_noted" ["_law_council", "_law_keepers", "_law_tick", "_law_rows"] (spNoted C_Council C_Keeper) := by
  refine F.ok sc__law_noted (fun vs H Q E h => ?_) (fun f cdv A outer s H vs Q E hr h => ?_)
  · obtain ⟨c, l, pr, ks, ls, ss, tick, R, rfl, _⟩ := h
    rfl
  · obtain ⟨c, l, pr, ks, ls, ss, tick, R, rfl, hc, hpr, hR, hl, hno, q⟩ := h
    have hu := hr.units0
    refine ⟨_, (pss_cons (ps_for PassesOwn.never rfl (pi_range1 rfl T.b_range (pa_cons (pv 1) pa_nil)) (pg_name (i := 4) sc__law_noted.nd rfl (Or.inr rfl)) (pss_cons (ps_setcomp2 (x := "_law_by") (y2 := "_law_note") (cap := ["_law_tick", "_law_k"]) (js := [2, 4]) (i := 5) rfl ⟨rfl, by decide +kernel, by decide +kernel, rfl, rfl, freeOk_free rfl, by decide +kernel, ⟨⟨rfl, Or.inl rfl, rfl⟩, ⟨⟨rfl, Or.inl rfl, rfl⟩, trivial⟩⟩⟩ (fun _ _ _ _ => pg_pair_k (K := K) rfl (pgs_cons (pg_name (i := 0) (show List.Nodup [("_law_by" : Str), ("_law_note" : Str), ("_law_tick" : Str), ("_law_k" : Str)] from by decide +kernel) rfl (Or.inl rfl)) (pgs_cons (pg_name (i := 1) (show List.Nodup [("_law_by" : Str), ("_law_note" : Str), ("_law_tick" : Str), ("_law_k" : Str)] from by decide +kernel) rfl (Or.inl rfl)) pgs_nil))) sc__law_noted.nd rfl (Or.inl rfl) (pi_list (pv 3)) (fun _ _ _ _ => (pif_one (PW.pt (pw_and (pt_cmpR (op_in_seq_k (K := K)) (pe_op op_add (pv 3) pe_int) (pv 0) (by with_unfolding_all rfl)) (pw_and1 (pt_cmpR op_gt (pe_ix (ix_tup_k (K := K)) (pv 1) pe_int (fun _ _ => rfl)) (pv 2) (nomark _))))))) (fun _ _ _ _ => (pv 1)))
      (pss_one (ps_if (pt_not (pt_val (pe_fn G__law_same (hr.mono (by decide)) rfl (pa_cons (pe_mth (MHas.never G_Council_notes) T.cl_Council (hr.mono (by decide)) (pv 0) (pa_cons (pe_op op_add (pv 4) pe_int) (pa_cons (pv 2) pa_nil))) (pa_cons (pv 5) pa_nil))))) (pss_one (ps_ret pe_bl)) pss_nil))))
      (pss_one (ps_ret pe_bl))), ?_⟩
    walk_at "rd"
    have hsz := hc.sz
    refine ⟨⟨by omega, by omega⟩, ?_⟩
    rw [Int.toNat_natCast]
    refine forgo_range (fun i σ H' => ∃ (v4 v5 : Option V), σ = [some (V.ref c), some (V.int ks.length), some (V.int tick), some (V.ref pr), v4, v5] ∧ Same H H') ⟨_, _, rfl, Same.refl _⟩ ?_ ?_
    · rintro Pv hP i σ H' hi ⟨v4, v5, rfl, s1⟩
      walk_at "rd"
      simp only [Int.zero_add]
      refine ⟨⟨_, SqL.of (s1 _ _ hpr)⟩, ?_⟩
      refine compgo2_list (xs := refr R) (by rw [refr_len]; exact small_size' (by omega)) (fun j acc H2 => H' = H2 ∧ acc = refs (noteF (R.take j) tick i)) ⟨rfl, rfl⟩ ?_ ?_ ?_ ?_
      · rintro j acc H2 ⟨-, rfl⟩
        rw [refs_len]
        unfold noteF
        rw [List.length_map]
        exact Nat.le_trans (List.length_filter_le _ _) (by rw [List.length_take]; omega)
      · rintro j acc H2 ⟨rfl, -⟩
        exact SqL.of (s1 _ _ hpr)
      · rintro Nn j acc H2 x hN hx hj ⟨rfl, rfl⟩
        obtain ⟨y, hy, rfl⟩ := refr_get hx
        obtain ⟨t1, t2, t3⟩ := (hR.mono s1) y (List.mem_of_getElem? hy)
        refine ⟨y.1, _, rfl, SqT.of t1, rfl, ?_⟩
        walk_at "rd"
        have stp := filt_step (fun q : Addr × Addr × Addr × List Nat × Nt => decide (i ∈ q.2.2.2.1) && decide (tick < q.2.2.2.2.e)) hy
        refine ⟨_, _, ⟨rfl, rfl⟩, _, _, rfl, rfl, ⟨_, rfl⟩, _, _, rfl, .inl (SqL.of t2), rfl, plus1_flat _, ?_⟩
        rw [if_neg Bool.false_ne_true, in_plus1]
        refine ⟨_, rfl, ?_⟩
        by_cases hm : i ∈ y.2.2.2.1
        · rw [if_pos (decide_eq_true hm)]
          refine ⟨_, _, _, _, rfl, rfl, SqT.of t3, atI_nat (j := 4) rfl, _, rfl, ?_⟩
          by_cases ht : tick < y.2.2.2.2.e
          · rw [if_pos (decide_eq_true ht)]
            refine hN _ _ ⟨rfl, ?_⟩
            unfold noteF
            rw [stp]
            simp [hm, ht, refs]
          · rw [if_neg (by simpa using ht)]
            refine hN _ _ ⟨rfl, ?_⟩
            unfold noteF
            rw [stp]
            simp [ht, refs]
        · rw [if_neg (by simpa using hm)]
          refine hN _ _ ⟨rfl, ?_⟩
          unfold noteF
          rw [stp]
          simp [hm, refs]
      rintro acc H2 ⟨rfl, rfl⟩ p hp
      rw [refr_len, List.take_length]
      have sP := Same.upd (o := .lst (refs (noteF R tick i))) hp
      have gP : upd H' p (.lst (refs (noteF R tick i))) p = some (.lst (refs (noteF R tick i))) := upd_same
      generalize upd H' p (.lst (refs (noteF R tick i))) = H3 at sP gP ⊢
      have hc3 := hc.mono (s1.trans sP)
      obtain ⟨dx, hob⟩ := hc3.ob
      refine ⟨_, _, hob, cf_no _ _ (by decide +kernel) (by decide +kernel), c, l, ks, ls, ss, _, tick, rfl, hc3, fun z => absurd ⟨by omega, by omega⟩ z, fun j s ej hj r L H4 hr0 gr hL eL s4 => ?_⟩
      have : j = i := by omega
      subst this
      have hM4 : ∀ z ∈ noteF R tick j, H4 z.1 = some (.tup z.2.vals) := fun z hz => by
        obtain ⟨y, hy, rfl⟩ := List.mem_map.mp hz
        exact ((hR.mono ((s1.trans sP).trans s4)) y (List.mem_filter.mp hy).1).2.2
      have eLM : L.map (·.2) = (noteF R tick j).map (·.2) := eL.trans (hno j s hj)
      have ll : L.length ≤ 1000 := by
        have := congrArg List.length eLM
        rw [List.length_map, List.length_map] at this
        unfold noteF at this
        rw [List.length_map] at this
        have h2 := List.length_filter_le (fun q : Addr × Addr × Addr × List Nat × Nt => decide (j ∈ q.2.2.2.1) && decide (tick < q.2.2.2.2.e)) R
        omega
      refine ⟨_, _, rfl, notes_alike gr (s4 _ _ gP) hL.tu hM4 eLM ll, fun H5 s5 => ⟨_, rfl, ?_⟩⟩
      rw [if_neg (by decide)]
      exact hP _ _ _ ⟨_, _, rfl, ((s1.trans sP).trans s4).trans s5⟩
    · rintro σ H' ⟨v4, v5, rfl, s1⟩
      walk_at "rd"
      exact q H' s1
-- part two
theorem upAt_stand {ss : List KN} {f : Nat → Bool} {j : Nat} (h : j < ss.length) : upAt (standN ss f) j = f j := by
  unfold upAt
  rw [standN_get, List.getElem?_eq_getElem h]
  rfl
theorem upl_stand {ss : List KN} {f : Nat → Bool} {n : Nat} (h : ss.length = n) : upl (standN ss f) n = (List.range n).filter f := by
  unfold upl
  apply List.filter_congr
  intro j hj
  exact upAt_stand (by rw [h]; exact List.mem_range.mp hj)
theorem standN_len (ss : List KN) (f : Nat → Bool) : (standN ss f).length = ss.length := List.length_mapIdx
/-- nothing was given, or one note by U -/
def Good (ss : List KN) (o : Option (List Nat × Nt)) : Prop := ∀ j s, ss[j]? = some s → match o with
  | none => s.N = [] ∧ s.t = 0
  | some (U, x) => if j ∈ U then s.N = [x] ∧ s.t = 1 else s.N = [] ∧ s.t = 0
theorem Good.stand {ss : List KN} {o : Option (List Nat × Nt)} (h : Good ss o) (f : Nat → Bool) : Good (standN ss f) o := by
  intro j s hs
  rw [standN_get] at hs
  cases e : ss[j]? with
  | none => rw [e] at hs; cases hs
  | some s0 =>
    rw [e] at hs
    have : s = ⟨f j, s0.t, s0.N⟩ := by simpa using hs.symm
    subst this
    have := h j s0 e
    cases o with
    | none => exact this
    | some p => obtain ⟨U, x⟩ := p; exact this
theorem Good.small {ss : List KN} {o : Option (List Nat × Nt)} (h : Good ss o) : Small ss := by
  intro s hs
  obtain ⟨j, hj, e⟩ := List.getElem_of_mem hs
  have := h j s (by rw [List.getElem?_eq_getElem hj, e])
  cases o with
  | none => rw [this.1]; decide
  | some p =>
    obtain ⟨U, x⟩ := p
    dsimp only at this
    split at this
    · rw [this.1]; exact Nat.le_of_ble_eq_true rfl
    · rw [this.1]; exact Nat.le_of_ble_eq_true rfl
theorem good_fresh (n : Nat) : Good (fresh0 n) none := by
  intro j s hs
  unfold fresh0 at hs
  rw [List.getElem?_replicate] at hs
  split at hs
  · cases hs
    exact ⟨rfl, rfl⟩
  · cases hs
theorem live1 (tick : Int) (x : Nt) : liveN tick [x] = if tick < x.e then [x] else [] := by
  unfold liveN
  rw [List.filter_cons]
  by_cases h : tick < x.e <;> simp [h]
theorem Good.noted0 {ss : List KN} (h : Good ss none) (tick : Int) : Noted ss [] tick := by
  intro j s hs
  rw [(h j s hs).1]
  rfl
theorem Good.noted1 {ss : List KN} {U : List Nat} {x : Nt} (h : Good ss (some (U, x))) (a b c : Addr) (tick : Int) : Noted ss [(a, b, c, U, x)] tick := by
  intro j s hs
  have := h j s hs
  dsimp only at this
  unfold noteF
  rw [List.filter_cons]
  split at this
  · rename_i hj
    rw [this.1, live1]
    by_cases ht : tick < x.e <;> simp [hj, ht]
  · rename_i hj
    rw [this.1]
    simp [hj]
    rfl
theorem free_nil (hd lk : Str) (sh : Bool) (tick : Int) : freeN [] hd lk sh tick = true := rfl
theorem free_one (x : Nt) (hd lk : Str) (sh : Bool) (tick : Int) : freeN [x] hd lk sh tick = !(decide (tick < x.e) && blocks hd lk sh x) := by
  unfold freeN
  rw [live1]
  by_cases h : tick < x.e <;> simp [h]
theorem frAt_none {ss : List KN} (h : Good ss none) {j : Nat} (hj : j < ss.length) (hd lk : Str) (sh : Bool) (tick : Int) : frAt ss hd lk sh tick j = true := by
  unfold frAt
  rw [List.getElem?_eq_getElem hj]
  dsimp only
  rw [(h j _ (List.getElem?_eq_getElem hj)).1]
  rfl
theorem frAt_some {ss : List KN} {U : List Nat} {x : Nt} (h : Good ss (some (U, x))) {j : Nat} (hj : j < ss.length) (hd lk : Str) (sh : Bool) (tick : Int) : frAt ss hd lk sh tick j = !(decide (j ∈ U) && (decide (tick < x.e) && blocks hd lk sh x)) := by
  unfold frAt
  rw [List.getElem?_eq_getElem hj]
  dsimp only
  have := h j _ (List.getElem?_eq_getElem hj)
  dsimp only at this
  split at this
  · rename_i hU
    rw [this.1, free_one]
    simp [hU]
  · rename_i hU
    rw [this.1, free_nil]
    simp [hU]
/-- who says that it is free -/
theorem say_none {ss : List KN} {n : Nat} {f : Nat → Bool} (h : Good ss none) (hn : ss.length = n) (hd lk : Str) (sh : Bool) (tick : Int) : sayl (standN ss f) n hd lk sh tick = (List.range n).filter f := by
  unfold sayl
  rw [upl_stand hn, List.filter_eq_self]
  intro j hj
  have := List.mem_range.mp (List.mem_filter.mp hj).1
  exact frAt_none (h.stand f) (by rw [standN_len, hn]; exact this) ..
theorem say_some {ss : List KN} {n : Nat} {f : Nat → Bool} {U : List Nat} {x : Nt} (h : Good ss (some (U, x))) (hn : ss.length = n) (hd lk : Str) (sh : Bool) (tick : Int) :
    sayl (standN ss f) n hd lk sh tick = if (decide (tick < x.e) && blocks hd lk sh x) = true then ((List.range n).filter f).filter fun j => !decide (j ∈ U) else (List.range n).filter f := by
  unfold sayl
  rw [upl_stand hn]
  by_cases hb : (decide (tick < x.e) && blocks hd lk sh x) = true
  · rw [if_pos hb]
    apply List.filter_congr
    intro j hj
    have := List.mem_range.mp (List.mem_filter.mp hj).1
    rw [frAt_some (h.stand f) (by rw [standN_len, hn]; exact this), hb, Bool.and_true]
  · rw [if_neg hb, List.filter_eq_self]
    intro j hj
    have := List.mem_range.mp (List.mem_filter.mp hj).1
    rw [frAt_some (h.stand f) (by rw [standN_len, hn]; exact this)]
    have : (decide (tick < x.e) && blocks hd lk sh x) = false := by simpa using hb
    rw [this, Bool.and_false]
    rfl
theorem nodup_len : ∀ (n : Nat) (l : List Nat), l.Nodup → (∀ x ∈ l, x < n) → l.length ≤ n
  | 0, l, _, h => by
    cases l with
    | nil => exact Nat.le_refl _
    | cons a l => exact absurd (h a (by simp)) (Nat.not_lt_zero _)
  | n + 1, l, hn, h => by
    by_cases hm : n ∈ l
    · have := nodup_len n (l.erase n) (hn.erase n) fun x hx => by
        have h1 := (hn.mem_erase_iff).mp hx
        have h2 := h x h1.2
        have h3 := h1.1
        omega
      rw [List.length_erase_of_mem hm] at this
      omega
    · have := nodup_len n l hn fun x hx => by
        have h2 := h x hx
        have h3 : x ≠ n := fun z => hm (z ▸ hx)
        omega
      omega
theorem meet {n : Nat} {A B : List Nat} (hA : A.Nodup) (hB : B.Nodup) (a : ∀ x ∈ A, x < n) (b : ∀ x ∈ B, x < n) (h : n < A.length + B.length) : ∃ x ∈ A, x ∈ B := by
  apply Classical.byContradiction
  intro hno
  have := nodup_len n (A ++ B) (List.nodup_append.mpr ⟨hA, hB, fun x hx y hy e => hno ⟨x, hx, e ▸ hy⟩⟩) fun x hx => (List.mem_append.mp hx).elim (a x) (b x)
  rw [List.length_append] at this
  omega
theorem tup2_alike {H : Hp} {r r' p p' : Addr} {i : Int} {js : List Nat} (h1 : H r = some (.tup [.int i, .ref p])) (h2 : H r' = some (.tup [.int i, .ref p'])) (h3 : H p = some (.lst (plus1 js))) (h4 : H p' = some (.lst (plus1 js))) (hl : js.length ≤ 1000) : Alike H 3 (.ref r) (.ref r') := by
  refine .inr ⟨r, r', _, _, rfl, rfl, .inr ⟨h1, h2⟩, rfl, by show 2 ≤ 1000; decide, fun k x y hx hy => ?_⟩
  match k with
  | 0 =>
    cases hx
    cases hy
    exact .inl ⟨rfl, .inl ⟨_, rfl⟩⟩
  | 1 =>
    cases hx
    cases hy
    refine .inr ⟨p, p', _, _, rfl, rfl, .inl ⟨h3, h4⟩, rfl, by unfold plus1; rw [List.length_map]; exact hl, fun k x y hx hy => ?_⟩
    rw [hx] at hy
    cases hy
    have := List.mem_of_getElem? hx
    unfold plus1 at this
    obtain ⟨z, _, rfl⟩ := List.mem_map.mp this
    exact .inl ⟨rfl, .inl ⟨_, rfl⟩⟩
  | k + 2 => simp at hx
theorem ref_alike {H : Hp} {r r' : Addr} (h1 : H r = some (.tup [.str "refused"])) (h2 : H r' = some (.tup [.str "refused"])) : Alike H 3 (.ref r) (.ref r') := by
  refine .inr ⟨r, r', _, _, rfl, rfl, .inr ⟨h1, h2⟩, rfl, by show 1 ≤ 1000; decide, fun k x y hx hy => ?_⟩
  rw [hx] at hy
  cases hy
  have := List.mem_of_getElem? hx
  have : x = .str "refused" := by simpa using this
  exact .inl ⟨rfl, .inr (.inl ⟨_, this⟩)⟩
/-- all but instances is as it was -/
def SameL (H H' : Hp) : Prop := ∀ b o, H b = some o → (∀ C dx fs, o ≠ .ins C dx fs) → H' b = some o
theorem SameL.of {H H' : Hp} (s : Same H H') : SameL H H' := fun b o e _ => s b o e
theorem SameL.trans {H H1 H2 : Hp} (a : SameL H H1) (b : SameL H1 H2) : SameL H H2 := fun c o e n => b c o (a c o e n) n
theorem ButK.sameL {CC CK : Addr} {H H' : Hp} {c l : Addr} {ks ls : List Addr} {ss : List KN} (b : ButK ks H H') (hc : CAt CC CK H c l ks ls ss) : SameL H H' := fun x o e n => b x o e fun z => by
  obtain ⟨dx, fs, e2⟩ := hc.mem z
  rw [e] at e2
  exact n _ _ _ (Option.some.inj e2)
theorem SameL.lst {H H' : Hp} (s : SameL H H') {a : Addr} {xs : List V} (h : H a = some (.lst xs)) : H' a = some (.lst xs) := s _ _ h fun _ _ _ z => nomatch z
theorem SameL.tup {H H' : Hp} (s : SameL H H') {a : Addr} {xs : List V} (h : H a = some (.tup xs)) : H' a = some (.tup xs) := s _ _ h fun _ _ _ z => nomatch z
theorem SameL.seq {K : PySem.W.Frag} {H H' : Hp} {a : Addr} {xs : List V} (e : SameL H H') (h : SqL K H a xs) : SqL K H' a xs := by
  rcases h with (h | ⟨o, h⟩) | h
  · exact .inl (.inl (e _ _ h fun _ _ _ z => nomatch z))
  · exact .inl (.inr ⟨o, e _ _ h fun _ _ _ z => nomatch z⟩)
  · exact .inr h
theorem SameL.rat {H H' : Hp} {R : RL} (h : RAt H R) (s : SameL H H') : RAt H' R := fun q hq => ⟨s.tup (h q hq).1, s.lst (h q hq).2.1, s.tup (h q hq).2.2⟩
/-- what is told of a giving, in one word -/
def Told (H8 : Hp) (fd : Addr) (g : Bool) (m : Int) (sl : List Nat) : Prop := if g = true then ∃ p, H8 fd = some (.tup [.int (1 + m), .ref p]) ∧ H8 p = some (.lst (plus1 sl)) else H8 fd = some (.tup [.str "refused"])
theorem given_uni {CC CK c a l : Addr} {ks ls : List Addr} {ss : List KN} {H : Hp} {z : Int} {hd lk : Str} {sh : Bool} {tick time : Int} {Q : VK} {E : XK} {sl : List Nat} (ha : H a = some (.tup [.int z, .str hd, .str lk, .bl sh, .int time])) (hc : CAt CC CK H c l ks ls ss) (hsm : Small ss) (h1 : hd.length ≤ 1000) (h2 : lk.length ≤ 1000)
    (hsl : sayl ss ks.length hd lk sh tick = sl)
    (k : ∀ (fd : Addr) (ls8 : List Addr) (H8 : Hp) (g : Bool) (m : Int), g = decide (¬ ((sl.length : Int) < (ks.length : Int) / 2 + 1)) → SameL H H8 → LsOk H ls ls8 → CAt CC CK H8 c l ks ls8 (if g = true then giveN ss sl ⟨1 + m, hd, lk, sh, tick + time⟩ else ss) → (g = true → IsTop ss m) → Told H8 fd g m sl → Q (.ref fd) H8) :
    spGiven CC CK [.ref c, .ref a, .int tick] H Q E := by
  subst hsl
  refine ⟨c, a, l, ks, ls, ss, z, hd, lk, sh, tick, time, rfl, ha, hc, hsm, h1, h2, fun hlt r H' hr s' => ?_, fun hlt m hm r p ls' H' hls hc' hr hp b => ?_⟩
  · refine k r ls H' false 0 ?_ (SameL.of s') (LsOk.refl _ _) ?_ (fun z => by cases z) ?_
    · rw [decide_eq_false (not_not_intro hlt)]
    · rw [if_neg Bool.false_ne_true]; exact hc.mono s'
    · unfold Told; rw [if_neg Bool.false_ne_true]; exact hr
  · refine k r ls' H' true m ?_ (b.sameL hc) hls ?_ (fun _ => hm) ?_
    · rw [decide_eq_true hlt]
    · rw [if_pos rfl]; exact hc'
    · unfold Told; rw [if_pos rfl]; exact ⟨p, hr, hp⟩
theorem good_give {ss : List KN} {n : Nat} {f : Nat → Bool} {x : Nt} (h : Good ss none) (hx : x.n = 1) : Good (giveN (standN ss f) ((List.range n).filter f) x) (some ((List.range n).filter f, x)) := by
  intro j s hs
  unfold giveN at hs
  rw [List.getElem?_mapIdx] at hs
  cases e : (standN ss f)[j]? with
  | none => rw [e] at hs; cases hs
  | some s0 =>
    rw [e] at hs
    have h0 := (h.stand f) j s0 e
    dsimp only at h0 ⊢
    by_cases hj : j ∈ (List.range n).filter f
    · rw [if_pos hj]
      have : s = ⟨s0.u, x.n, keptN x.h x.l s0.N ++ [x]⟩ := by
        have := hs.symm
        simp only [Option.map_some, Option.some.injEq, if_pos hj] at this
        exact this
      subst this
      dsimp only
      rw [h0.1, hx]
      exact ⟨rfl, rfl⟩
    · rw [if_neg hj]
      have : s = s0 := by
        have := hs.symm
        simp only [Option.map_some, Option.some.injEq, if_neg hj] at this
        exact this
      subst this
      exact h0
theorem top0 {ss : List KN} {f : Nat → Bool} {m : Int} (h : Good ss none) (t : IsTop (standN ss f) m) : m = 0 := by
  obtain ⟨⟨s, hs, -, e⟩, -⟩ := t
  obtain ⟨j, hj, e2⟩ := List.getElem_of_mem hs
  have := (h.stand f) j s (by rw [List.getElem?_eq_getElem hj, e2])
  rw [← e]
  exact this.2
theorem top1 {ss : List KN} {f : Nat → Bool} {m : Int} {n : Nat} {U B : List Nat} {x : Nt} (h : Good ss (some (U, x))) (hn : ss.length = n) (t : IsTop (standN ss f) m) (hU : U.Nodup) (hU2 : ∀ j ∈ U, j < n) (hB : B.Nodup) (hB2 : ∀ j ∈ B, j < n ∧ f j = true) (hm : n < U.length + B.length) : m = 1 := by
  obtain ⟨j, hj, hjB⟩ := meet hU hB hU2 (fun j hj => (hB2 j hj).1) hm
  obtain ⟨hjn, hjf⟩ := hB2 j hjB
  have hg := h.stand f
  have hjl : j < (standN ss f).length := by rw [standN_len, hn]; exact hjn
  have hs : (standN ss f)[j]? = some (standN ss f)[j] := List.getElem?_eq_getElem hjl
  have h1 := hg j _ hs
  dsimp only at h1
  rw [if_pos hj] at h1
  have hup : (standN ss f)[j].u = true := by
    have := upAt_stand (ss := ss) (f := f) (j := j) (by rw [hn]; exact hjn)
    unfold upAt at this
    rw [hs] at this
    exact this.trans hjf
  have le := t.2 _ (List.mem_of_getElem? hs) hup
  obtain ⟨⟨s, hs2, -, e⟩, -⟩ := t
  obtain ⟨i, hi, e2⟩ := List.getElem_of_mem hs2
  have h2 := hg i s (by rw [List.getElem?_eq_getElem hi, e2])
  dsimp only at h2
  split at h2 <;> omega
theorem seq_fresh {K : PySem.W.Frag} {H0 H : Hp} {a p : Addr} {xs ys : List V} {o : HO} (h : SqL K H0 a ys) (h' : SqL K H a xs) (hp : H0 p = none) (he : ys = xs) : SqL K (upd H p o) a xs := by
  subst he
  rcases h with h | h
  · have n : a ≠ p := by
      rcases h with h | ⟨o, h⟩
      · exact ne_of_none h hp
      · exact ne_of_none h hp
    rcases h' with (z | ⟨o, z⟩) | z
    · exact .inl (.inl (by rw [upd_ne n]; exact z))
    · exact .inl (.inr ⟨o, by rw [upd_ne n]; exact z⟩)
    · exact .inr z
  · exact .inr h
theorem noted_of {ss : List KN} {o : Option (List Nat × Nt)} {R : RL} {U : List Nat} {x : Nt} (h : Good ss o) (hR : (o = none ∧ R = []) ∨ ∃ a b c, o = some (U, x) ∧ R = [(a, b, c, U, x)]) (tick : Int) : Noted ss R tick := by
  rcases hR with ⟨rfl, rfl⟩ | ⟨a, b, c, rfl, rfl⟩
  · exact h.noted0 tick
  · exact h.noted1 a b c tick
theorem live_append (tick : Int) (A B : List Nt) : liveN tick (A ++ B) = liveN tick A ++ liveN tick B := by
  unfold liveN
  rw [List.filter_append]
theorem noted_second {ss : List KN} {R : RL} {B : List Nat} {x : Nt} {tick : Int} (h : ∀ j s, ss[j]? = some s → liveN tick (if j ∈ B then keptN x.h x.l s.N else s.N) = (noteF R tick j).map (·.2)) (a b c : Addr) : Noted (giveN ss B x) (R ++ [(a, b, c, B, x)]) tick := by
  intro j s hs
  unfold giveN at hs
  rw [List.getElem?_mapIdx] at hs
  have en : (noteF (R ++ [(a, b, c, B, x)]) tick j).map (·.2) = (noteF R tick j).map (·.2) ++ (if j ∈ B ∧ tick < x.e then [x] else []) := by
    unfold noteF
    rw [List.filter_append, List.map_append, List.map_append]
    congr 1
    rw [List.filter_cons]
    by_cases h1 : j ∈ B <;> by_cases h2 : tick < x.e <;> simp [h1, h2]
  cases e : ss[j]? with
  | none => rw [e] at hs; cases hs
  | some s0 =>
    rw [e] at hs
    have h0 := h j s0 e
    rw [en]
    by_cases hj : j ∈ B
    · have : s = ⟨s0.u, x.n, keptN x.h x.l s0.N ++ [x]⟩ := by
        have := hs.symm
        simp only [Option.map_some, Option.some.injEq, if_pos hj] at this
        exact this
      subst this
      rw [if_pos hj] at h0
      dsimp only
      rw [live_append, h0, live1]
      congr 1
      by_cases h2 : tick < x.e <;> simp [hj, h2]
    · have : s = s0 := by
        have := hs.symm
        simp only [Option.map_some, Option.some.injEq, if_neg hj] at this
        exact this
      subst this
      rw [if_neg hj] at h0
      rw [h0, if_neg (fun z => hj z.1), List.append_nil]
theorem kept_one (hd lk : Str) (x : Nt) : keptN hd lk [x] = if x.h = hd ∧ x.l = lk then [] else [x] := by
  unfold keptN
  rw [List.filter_cons]
  by_cases h1 : x.h = hd <;> by_cases h2 : x.l = lk <;> simp [h1, h2]
theorem notes_none {ss : List KN} (h : Good ss none) (B : List Nat) (hd lk : Str) (tick : Int) : ∀ j s, ss[j]? = some s → liveN tick (if j ∈ B then keptN hd lk s.N else s.N) = (noteF [] tick j).map (·.2) := by
  intro j s hs
  rw [(h j s hs).1]
  split <;> rfl
theorem notes_same {ss : List KN} {U : List Nat} {x : Nt} (h : Good ss (some (U, x))) (B : List Nat) {hd lk : Str} (hs : x.h = hd ∧ x.l = lk) (a b c : Addr) (tick : Int) : ∀ j s, ss[j]? = some s → liveN tick (if j ∈ B then keptN hd lk s.N else s.N) = (noteF [(a, b, c, U.filter fun j => !decide (j ∈ B), x)] tick j).map (·.2) := by
  intro j s hj
  have := h j s hj
  dsimp only at this
  unfold noteF
  rw [List.filter_cons]
  by_cases hB : j ∈ B
  · rw [if_pos hB]
    split at this
    · rw [this.1, kept_one, if_pos hs]
      simp [hB]
      rfl
    · rw [this.1]
      simp [hB]
      rfl
  · rw [if_neg hB]
    split at this
    · rename_i hU
      rw [this.1, live1]
      by_cases ht : tick < x.e <;> simp [hB, hU, ht]
    · rename_i hU
      rw [this.1]
      simp [hU]
      rfl
theorem notes_other {ss : List KN} {U : List Nat} {x : Nt} (h : Good ss (some (U, x))) (B : List Nat) {hd lk : Str} (hs : ¬ (x.h = hd ∧ x.l = lk)) (a b c : Addr) (tick : Int) : ∀ j s, ss[j]? = some s → liveN tick (if j ∈ B then keptN hd lk s.N else s.N) = (noteF [(a, b, c, U, x)] tick j).map (·.2) := by
  intro j s hj
  have := h j s hj
  dsimp only at this
  unfold noteF
  rw [List.filter_cons]
  have e : (if j ∈ B then keptN hd lk s.N else s.N) = s.N := by
    split
    · split at this
      · rw [this.1, kept_one, if_neg hs]
      · rw [this.1]; rfl
    · rfl
  rw [e]
  split at this
  · rename_i hU
    rw [this.1, live1]
    by_cases ht : tick < x.e <;> simp [hU, ht]
  · rename_i hU
    rw [this.1]
    simp [hU]
    rfl
def spLaw (K : PySem.W.Frag) : Sp := fun vs H Q _ => ∃ (a : Addr) (ns : List Int), vs = [.ref a] ∧ SqL K H a (ns.map V.int) ∧ ns.length ≤ 63 ∧ ∀ H', Q (.bl true) H'
theorem ok_law (F : Def K mg "law" s_law ["_law_script"]) (T : Txt K mg C_Council C_Down C_GateError C_InTheWay C_Keeper C_NotFree C_OldNumber C_UnknownKeeper) (G_Council___init__ : KHas P w K mg base 3 C_Council ["self", "many"] (spCInit C_Council C_Keeper)) (G__law_at : Has P w K mg base 1 "_law_at" ["_law_script", "_law_k"] (spAt K)) (G__law_same : Has P w K mg base 4 "_law_same" ["_law_found", "_law_due"] (spSameD 3)) (G__law_names : Has P w K mg base 2 "_law_names" ["_law_cell", "_law_many"] (spNames)) (G__law_way : Has P w K mg base 2 "_law_way" ["_law_lock", "_law_shared", "_law_other", "_law_other_shared"] (spLWay)) (G__law_given : Has P w K mg base 8 "_law_given" ["_law_council", "_law_asking", "_law_tick"] (spGiven C_Council C_Keeper)) (G__law_stand : Has P w K mg base 3 "_law_stand" ["_law_council", "_law_keepers", "_law_cell"] (spStand C_Council C_Keeper)) (G__law_noted : Has P w K mg base 5 "_law_noted" ["_law_council", "_law_keepers", "_law_tick", "_law_rows"] (spNoted C_Council C_Keeper)) : Has P w K mg base 9 "law" ["_law_script"] (spLaw K) := by
  refine F.ok sc_law (fun vs H Q E h => ?_) (fun f cdv A outer s H vs Q E hr h => ?_)
  · obtain ⟨a, ns, rfl, _⟩ := h
    rfl
  · obtain ⟨a, ns, rfl, ha, hns, q⟩ := h
    have hu := hr.units0
    refine ⟨_, (pss_cons (ps_set (i := 1) sc_law.nd rfl (Or.inl rfl) (pe_op op_add pe_int (pe_op op_mod (pe_op op_add (pe_fn G__law_at (hr.mono (by decide)) rfl (pa_cons (pv 0) (pa_cons pe_int pa_nil))) pe_int) pe_int)))
      (pss_cons (ps_set (i := 2) sc_law.nd rfl (Or.inl rfl) (pe_fn G__law_names (hr.mono (by decide)) rfl (pa_cons (pe_fn G__law_at (hr.mono (by decide)) rfl (pa_cons (pv 0) (pa_cons pe_int pa_nil))) (pa_cons pe_int pa_nil))))
      (pss_cons (ps_set (i := 3) sc_law.nd rfl (Or.inl rfl) (pe_fn G__law_names (hr.mono (by decide)) rfl (pa_cons (pe_fn G__law_at (hr.mono (by decide)) rfl (pa_cons (pv 0) (pa_cons pe_int pa_nil))) (pa_cons pe_int pa_nil))))
      (pss_cons (ps_set (i := 4) sc_law.nd rfl (Or.inl rfl) (pe_op op_add pe_int (pe_op op_mod (pe_fn G__law_at (hr.mono (by decide)) rfl (pa_cons (pv 0) (pa_cons pe_int pa_nil))) pe_int)))
      (pss_cons (ps_set (i := 5) sc_law.nd rfl (Or.inl rfl) (pe_new1 G_Council___init__ (hr.mono (by decide)) rfl T.g_Council (pa_cons (pv 1) pa_nil)))
      (pss_cons (ps_set (i := 6) sc_law.nd rfl (Or.inl rfl) (pe_fn G__law_stand (hr.mono (by decide)) rfl (pa_cons (pv 5) (pa_cons (pv 1) (pa_cons (pe_ix ix_list (pe_lst (pa_cons pe_int (pa_cons (pe_op op_fdiv (pe_fn G__law_at (hr.mono (by decide)) rfl (pa_cons (pv 0) (pa_cons pe_int pa_nil))) pe_int) pa_nil))) (pe_op op_mod (pe_fn G__law_at (hr.mono (by decide)) rfl (pa_cons (pv 0) (pa_cons pe_int pa_nil))) pe_int) (fun _ _ => rfl)) pa_nil)))))
      (pss_cons (ps_set (i := 7) sc_law.nd rfl (Or.inl rfl) (pe_tup (pa_cons pe_int (pa_cons (pe_ix ix_list (pv 2) pe_int (fun _ _ => rfl)) (pa_cons (pe_ix ix_list (pv 3) pe_int (fun _ _ => rfl)) (pa_cons (pe_cmpR op_eq (pe_op op_mod (pe_op op_fdiv (pe_fn G__law_at (hr.mono (by decide)) rfl (pa_cons (pv 0) (pa_cons pe_int pa_nil))) pe_int) pe_int) pe_int (nomark _)) (pa_cons (pv 4) pa_nil)))))))
      (pss_cons (ps_set (i := 8) sc_law.nd rfl (Or.inr rfl) (pe_lst pa_nil))
      (pss_cons (ps_set (i := 9) sc_law.nd rfl (Or.inl rfl) (pe_fn G__law_given (hr.mono (by decide)) rfl (pa_cons (pv 5) (pa_cons (pv 7) (pa_cons pe_int pa_nil)))))
      (pss_cons (ps_set (i := 10) sc_law.nd rfl (Or.inl rfl) (pe_tup (pa_cons pe_str pa_nil)))
      (pss_cut (ps_if (pt_cmpR op_gt (pe_op op_mul pe_int (pe_callB call_len_seq rfl T.b_len (by decide +kernel) (pa_cons (pv 6) pa_nil))) (pv 1) (nomark _)) (pss_cons (ps_set (i := 10) sc_law.nd rfl (Or.inl rfl) (pe_tup (pa_cons pe_int (pa_cons (pe_callTy call_list_of rfl T.b_list (by decide +kernel) (pa_cons (pv 6) pa_nil)) pa_nil))))
      (pss_one (ps_expr (pe_bm PySem.F.plainAttrs_list PySem.F.slot_list_append PySem.F.type_list_append mt_append (pv 8) (pa_cons (pe_tup (pa_cons (pv 6) (pa_cons (pe_tup (pa_cons pe_int (pa_cons (pe_ix ix_list (pv 2) pe_int (fun _ _ => rfl)) (pa_cons (pe_ix ix_list (pv 3) pe_int (fun _ _ => rfl)) (pa_cons (pe_ix ix_tup (pv 7) pe_int (fun _ _ => rfl)) (pa_cons (pv 4) pa_nil)))))) pa_nil))) pa_nil))))) pss_nil)
      (pss_cons (ps_if (PW.pt (pw_or (pt_not (pt_val (pe_fn G__law_same (hr.mono (by decide)) rfl (pa_cons (pv 9) (pa_cons (pv 10) pa_nil))))) (pw_or1 (pt_not (pt_val (pe_fn G__law_noted (hr.mono (by decide)) rfl (pa_cons (pv 5) (pa_cons (pv 1) (pa_cons pe_int (pa_cons (pv 8) pa_nil)))))))))) (pss_one (ps_ret pe_bl)) pss_nil)
      (pss_cons (ps_expr (pe_fn G__law_stand (hr.mono (by decide)) rfl (pa_cons (pv 5) (pa_cons (pv 1) (pa_cons (pe_fn G__law_at (hr.mono (by decide)) rfl (pa_cons (pv 0) (pa_cons pe_int pa_nil))) pa_nil)))))
      (pss_cons (ps_set (i := 6) sc_law.nd rfl (Or.inl rfl) (pe_fn G__law_stand (hr.mono (by decide)) rfl (pa_cons (pv 5) (pa_cons (pv 1) (pa_cons (pe_ix ix_list (pe_lst (pa_cons pe_int (pa_cons (pe_op op_fdiv (pe_fn G__law_at (hr.mono (by decide)) rfl (pa_cons (pv 0) (pa_cons pe_int pa_nil))) pe_int) pa_nil))) (pe_op op_mod (pe_fn G__law_at (hr.mono (by decide)) rfl (pa_cons (pv 0) (pa_cons pe_int pa_nil))) pe_int) (fun _ _ => rfl)) pa_nil)))))
      (pss_cons (ps_set (i := 11) sc_law.nd rfl (Or.inl rfl) (pe_fn G__law_at (hr.mono (by decide)) rfl (pa_cons (pv 0) (pa_cons pe_int pa_nil))))
      (pss_cons (ps_set (i := 12) sc_law.nd rfl (Or.inl rfl) (pe_op op_add (pe_op op_sub (pv 4) pe_int) (pe_op op_mod (pv 11) pe_int)))
      (pss_cons (ps_set (i := 13) sc_law.nd rfl (Or.inl rfl) (pe_ix ix_list (pe_lst (pa_cons (pe_ix ix_list (pv 3) pe_int (fun _ _ => rfl)) (pa_cons (pe_op op_add_str (pe_op op_add_str (pe_ix ix_list (pv 3) pe_int (fun _ _ => rfl)) pe_str) (pe_ix ix_list (pv 2) pe_int (fun _ _ => rfl))) (pa_cons (pe_ix ix_list (pv 3) pe_int (fun _ _ => rfl)) pa_nil)))) (pe_op op_mod (pe_op op_fdiv (pv 11) pe_int) pe_int) (fun _ _ => rfl)))
      (pss_cons (ps_set (i := 14) sc_law.nd rfl (Or.inl rfl) (pe_tup (pa_cons pe_int (pa_cons (pe_ix ix_list (pv 2) (pe_op op_mod (pe_op op_fdiv (pv 11) pe_int) pe_int) (fun _ _ => rfl)) (pa_cons (pv 13) (pa_cons (pe_cmpR op_eq (pe_op op_mod (pe_op op_fdiv (pv 11) pe_int) pe_int) pe_int (nomark _)) (pa_cons (pe_op op_add pe_int (pe_op op_mod (pe_op op_fdiv (pv 11) pe_int) pe_int)) pa_nil)))))))
      (pss_cons (ps_set (i := 15) sc_law.nd rfl (Or.inr rfl) (pe_callTy call_list_of rfl T.b_list (by decide +kernel) (pa_cons (pv 6) pa_nil)))
      (pss_cut (ps_if (PW.pt (pw_and (pt_cmpR (op_neNil hu) (pv 8) (pe_lst pa_nil) (nomark _)) (pw_and (pt_cmpR op_eq (pe_op op_mod (pe_op op_fdiv (pv 11) pe_int) pe_int) pe_int (nomark _)) (pw_and1 (pt_cmpR op_lt (pv 12) (pv 4) (nomark _)))))) (pss_one (ps_if (pt_val (pe_fn G__law_way (hr.mono (by decide)) rfl (pa_cons (pe_ix ix_tup (pv 7) pe_int (fun _ _ => rfl)) (pa_cons (pe_ix ix_tup (pv 7) pe_int (fun _ _ => rfl)) (pa_cons (pv 13) (pa_cons (pe_ix ix_tup (pv 14) pe_int (fun _ _ => rfl)) pa_nil)))))) (pss_one (ps_set (i := 15) sc_law.nd rfl (Or.inr rfl) (pe_comp (x := "_law_k") (cap := ["_law_rows"]) (js := [8]) rfl ⟨rfl, by decide +kernel, by decide +kernel, rfl, freeOk_free rfl, by decide +kernel, ⟨⟨rfl, Or.inl rfl, rfl⟩, trivial⟩⟩ (pi_list (pv 6)) (fun _ _ _ _ => (pif_one (pt_cmpR (op_notIn_seq_k (K := K)) (pv 0) (pe_ix (ix_tup_k (K := K)) (pe_ix (ix_list_k (K := K)) (pv 1) pe_int (fun _ _ => rfl)) pe_int (fun _ _ => rfl)) (by with_unfolding_all rfl)))) (fun _ _ _ _ => (pv 0))))) pss_nil)) pss_nil)
      (pss_cons (ps_set (i := 9) sc_law.nd rfl (Or.inl rfl) (pe_fn G__law_given (hr.mono (by decide)) rfl (pa_cons (pv 5) (pa_cons (pv 14) (pa_cons (pv 12) pa_nil)))))
      (pss_cons (ps_set (i := 10) sc_law.nd rfl (Or.inl rfl) (pe_tup (pa_cons pe_str pa_nil)))
      (pss_cut (ps_if (pt_cmpR op_gt (pe_op op_mul pe_int (pe_callB call_len_seq rfl T.b_len (by decide +kernel) (pa_cons (pv 15) pa_nil))) (pv 1) (nomark _)) (pss_cons (ps_set (i := 10) sc_law.nd rfl (Or.inl rfl) (pe_tup (pa_cons (pe_op op_add pe_int (pe_callB call_len_seq rfl T.b_len (by decide +kernel) (pa_cons (pv 8) pa_nil))) (pa_cons (pv 15) pa_nil))))
      (pss_cut (ps_if (PW.pt (pw_and (pt_cmpR (op_neNil hu) (pv 8) (pe_lst pa_nil) (nomark _)) (pw_and (pt_cmpR op_eq (pe_op op_mod (pe_op op_fdiv (pv 11) pe_int) pe_int) pe_int (nomark _)) (pw_and1 (pt_cmpR op_eq (pv 13) (pe_ix ix_tup (pv 7) pe_int (fun _ _ => rfl)) (nomark _)))))) (pss_one (ps_asg (pe_tup (pa_cons (pe_comp (x := "_law_k") (cap := ["_law_by"]) (js := [15]) rfl ⟨rfl, by decide +kernel, by decide +kernel, rfl, freeOk_free rfl, by decide +kernel, ⟨⟨rfl, Or.inl rfl, rfl⟩, trivial⟩⟩ (pi_list (pe_ix ix_tup (pe_ix ix_list (pv 8) pe_int (fun _ _ => rfl)) pe_int (fun _ _ => rfl))) (fun _ _ _ _ => (pif_one (pt_cmpR (op_notIn_seq_k (K := K)) (pv 0) (pv 1) (by with_unfolding_all rfl)))) (fun _ _ _ _ => (pv 0))) (pa_cons (pe_ix ix_tup (pe_ix ix_list (pv 8) pe_int (fun _ _ => rfl)) pe_int (fun _ _ => rfl)) pa_nil))) (pg_sub (pv 8) pe_int set_list))) pss_nil)
      (pss_one (ps_expr (pe_bm PySem.F.plainAttrs_list PySem.F.slot_list_append PySem.F.type_list_append mt_append (pv 8) (pa_cons (pe_tup (pa_cons (pv 15) (pa_cons (pe_tup (pa_cons (pe_op op_add pe_int (pe_callB call_len_seq rfl T.b_len (by decide +kernel) (pa_cons (pv 8) pa_nil))) (pa_cons (pe_ix ix_tup (pv 14) pe_int (fun _ _ => rfl)) (pa_cons (pv 13) (pa_cons (pe_ix ix_tup (pv 14) pe_int (fun _ _ => rfl)) (pa_cons (pe_op op_add (pv 12) (pe_ix ix_tup (pv 14) pe_int (fun _ _ => rfl))) pa_nil)))))) pa_nil))) pa_nil)))))) pss_nil)
      (pss_one (ps_ret (pe_and (pe_fn G__law_same (hr.mono (by decide)) rfl (pa_cons (pv 9) (pa_cons (pv 10) pa_nil))) (pe_one (pe_fn G__law_noted (hr.mono (by decide)) rfl (pa_cons (pv 5) (pa_cons (pv 1) (pa_cons (pv 12) (pa_cons (pv 8) pa_nil)))))))))))))))))))))))))))))))), ?_⟩
    walk_at "rd"
    refine ⟨a, ns, 0, rfl, ha, by omega, _, rfl, by decide, ?_⟩
    obtain ⟨n, en⟩ := Int.eq_ofNat_of_zero_le (show 0 ≤ 1 + (ns.getD 0 0 + 2) % 5 by omega)
    have hn5 : n ≤ 5 ∧ 1 ≤ n := by omega
    rw [en]
    refine ⟨a, ns, 1, rfl, ha, by omega, ?_⟩
    refine ⟨_, 2, rfl, by decide, fun hp hz H1 hl1 hN1 hp0 gh s1 => ?_⟩
    refine ⟨a, ns, 2, rfl, s1.seq ha, by omega, ?_⟩
    refine ⟨_, 2, rfl, by decide, fun lp lz H2 hl2 hN2 lp0 gl s2 => ?_⟩
    have gh2 := s2 _ _ gh
    have s12 := s1.trans s2
    refine ⟨a, ns, 3, rfl, s12.seq ha, by omega, _, rfl, by decide, ?_⟩
    intro c dxc hc0 hd0 hcd
    have t0 : ∀ b o, H2 b = some o → upd (upd H2 dxc (.own c)) c (.ins C_Council dxc []) b = some o := fun b o e => by
      rw [upd_ne (ne_of_none e hc0), upd_ne (ne_of_none e hd0)]
      exact e
    have ecl : upd (upd H2 dxc (.own c)) c (.ins C_Council dxc []) c = some (.ins C_Council dxc []) := upd_same
    generalize upd (upd H2 dxc (.own c)) c (.ins C_Council dxc []) = H3 at t0 ecl ⊢
    refine ⟨c, dxc, n, rfl, by omega, ecl, fun l ks ls H4 hkn hc4 hb4 hks0 hls0 hl0 => ⟨rfl, ?_⟩⟩
    have t4 : Same H2 H4 := fun b o e => hb4 b o (t0 b o e) (ne_of_none e hc0)
    have nks : ∀ k ∈ ks, H2 k = none := fun k hk => by
      cases e : H2 k with
      | none => rfl
      | some o => have := t0 _ _ e; rw [hks0 k hk] at this; cases this
    have nls : ∀ x ∈ ls, H2 x = none := fun x hx => by
      cases e : H2 x with
      | none => rfl
      | some o => have := t0 _ _ e; rw [hls0 x hx] at this; cases this
    have nl : H2 l = none := by
      cases e : H2 l with
      | none => rfl
      | some o => have := t0 _ _ e; rw [hl0] at this; cases this
    subst hkn
    have ha4 := (s12.trans t4).seq ha
    have gh4 := t4 _ _ gh2
    have gl4 := t4 _ _ gl
    refine ⟨a, ns, 4, rfl, ha4, by omega, _, rfl, cdiv (by decide) (by decide), small_size' (by decide), fun p1 hp1 => ?_⟩
    have u1 := Same.upd (o := .lst [V.int 0, V.int (ns.getD 4 0 / 2)]) hp1
    have g1 : upd H4 p1 (.lst [V.int 0, V.int (ns.getD 4 0 / 2)]) p1 = some (.lst [V.int 0, V.int (ns.getD 4 0 / 2)]) := upd_same
    generalize upd H4 p1 (.lst [V.int 0, V.int (ns.getD 4 0 / 2)]) = H5 at u1 g1 ⊢
    refine ⟨a, ns, 4, rfl, u1.seq ha4, by omega, _, rfl, by decide, ?_⟩
    obtain ⟨cell1, hcell1⟩ : ∃ v : Int, atI [V.int 0, V.int (ns.getD 4 0 / 2)] (ns.getD 4 0 % 2) = some (V.int v) := by
      rcases (show ns.getD 4 0 % 2 = 0 ∨ ns.getD 4 0 % 2 = 1 by omega) with e | e
      · exact ⟨0, by rw [e]; exact atI_nat (j := 0) rfl⟩
      · exact ⟨_, by rw [e]; exact atI_nat (j := 1) rfl⟩
    refine ⟨_, _, _, _, rfl, rfl, SqL.of g1, hcell1, ?_⟩
    refine ⟨c, l, ks, ls, fresh0 ks.length, cell1, rfl, hc4.mono u1, fun f1 pu H6 hc6 gu pu0 b6 => ?_⟩
    obtain ⟨h0, h1, rfl⟩ : ∃ h0 h1, hz = [h0, h1] := by
      match hz, hl1 with
      | [x, y], _ => exact ⟨x, y, rfl⟩
    obtain ⟨l0, l1, rfl⟩ : ∃ l0 l1, lz = [l0, l1] := by
      match lz, hl2 with
      | [x, y], _ => exact ⟨x, y, rfl⟩
    have hne : h0 ≠ h1 := fun z => by
      have a0 := (hN1 0 h0 rfl).2.1
      have a1 := (hN1 1 h1 rfl).2.1
      rw [← z] at a1
      exact absurd (Tag.ne a0 a1 (by decide) (by decide)) (by decide)
    have lh0 : h0.length ≤ 16 := (hN1 0 h0 rfl).1
    have lh1 : h1.length ≤ 16 := (hN1 1 h1 rfl).1
    have ll0 : l0.length ≤ 16 := (hN2 0 l0 rfl).1
    have ll1 : l1.length ≤ 16 := (hN2 1 l1 rfl).1
    have z6 : SameL H4 H6 := (SameL.of u1).trans (b6.sameL (hc4.mono u1))
    have ha6 := z6.seq ha4
    have gh6 := z6.lst gh4
    have gl6 := z6.lst gl4
    refine ⟨_, _, _, _, rfl, rfl, SqL.of gh6, atI_nat (j := 0) rfl, ?_⟩
    refine ⟨_, _, _, _, rfl, rfl, SqL.of gl6, atI_nat (j := 0) rfl, ?_⟩
    refine ⟨a, ns, 3, rfl, ha6, by omega, _, rfl, cdiv (by decide) (by decide), by decide, small_size' (by decide), fun pf hpf => ⟨Nat.zero_le _, fun pr hpr => ?_⟩⟩
    have ht1 : 2 ≤ 2 + ns.getD 3 0 % 999 := by omega
    generalize etime : 2 + ns.getD 3 0 % 999 = time at *
    generalize esh0 : decide (ns.getD 3 0 / 999 % 2 = 1) = sh0 at *
    have u7 := (Same.upd (o := .tup [V.int 0, V.str h0, V.str l0, V.bl sh0, V.int time]) hpf).trans (Same.upd (o := .lst []) hpr)
    have gf7 : upd (upd H6 pf (.tup [V.int 0, V.str h0, V.str l0, V.bl sh0, V.int time])) pr (.lst []) pf = some (.tup [V.int 0, V.str h0, V.str l0, V.bl sh0, V.int time]) := Same.upd hpr _ _ upd_same
    have gr7 : upd (upd H6 pf (.tup [V.int 0, V.str h0, V.str l0, V.bl sh0, V.int time])) pr (.lst []) pr = some (.lst []) := upd_same
    have hpr6 : H6 pr = none := none_back (Same.upd hpf) hpr
    generalize upd (upd H6 pf (.tup [V.int 0, V.str h0, V.str l0, V.bl sh0, V.int time])) pr (.lst []) = H7 at u7 gf7 gr7 ⊢
    have nprl : pr ∉ ls := fun z => by
      obtain ⟨_, e⟩ := hc6.lsome z
      rw [hpr6] at e
      cases e
    have lpr : l ≠ pr := ne_of_none hc6.li hpr6
    have f0 := good_fresh ks.length
    have fl0 : (fresh0 ks.length).length = ks.length := by unfold fresh0; rw [List.length_replicate]
    refine given_uni (sl := (List.range ks.length).filter f1) gf7 (hc6.mono u7) (f0.stand f1).small (by omega) (by omega) (say_none f0 fl0 ..) fun fd ls8 H8 g1 m1 eg1 z8 hls8 hc8 htop1 told1 => ?_
    have U1d : ((List.range ks.length).filter f1).Nodup := List.Nodup.sublist List.filter_sublist List.nodup_range
    have U1m : ∀ j ∈ (List.range ks.length).filter f1, j < ks.length := fun j hj => List.mem_range.mp (List.mem_filter.mp hj).1
    have U1l : ((List.range ks.length).filter f1).length ≤ 5 := Nat.le_trans (List.length_filter_le _ _) (by rw [List.length_range]; omega)
    have hm1 : g1 = true → m1 = 0 := fun z => top0 f0 (htop1 z)
    have gu8 := z8.lst (u7 _ _ gu)
    have gf8 := z8.tup gf7
    have gr8 := z8.lst gr7
    have gh8 := z8.lst (u7 _ _ gh6)
    have gl8 := z8.lst (u7 _ _ gl6)
    have ha8 := z8.seq (u7.seq ha6)
    have npr8 : pr ∉ ls8 := fun z => by
      rcases hls8 pr z with y | y
      · exact nprl y
      · rw [gr7] at y; cases y
    obtain ⟨o, hgood, ho⟩ : ∃ o, Good (if g1 = true then giveN (standN (fresh0 ks.length) f1) ((List.range ks.length).filter f1) ⟨1 + m1, h0, l0, sh0, 0 + time⟩ else standN (fresh0 ks.length) f1) o ∧ o = if g1 = true then some ((List.range ks.length).filter f1, ⟨1, h0, l0, sh0, time⟩) else none := by
      cases hg : g1 with
      | true =>
        have e0 := hm1 hg
        subst e0
        rw [if_pos rfl, if_pos rfl]
        exact ⟨_, good_give f0 rfl, by rw [Int.zero_add]; rfl⟩
      | false => exact ⟨none, f0.stand f1, rfl⟩
    generalize (if g1 = true then giveN (standN (fresh0 ks.length) f1) ((List.range ks.length).filter f1) ⟨1 + m1, h0, l0, sh0, 0 + time⟩ else standN (fresh0 ks.length) f1) = ss8 at hc8 hgood
    generalize (List.range ks.length).filter f1 = U1 at *
    refine ⟨small_size' (by decide), fun pd hpd => ?_⟩
    have hU1 : ((plus1 U1).length : Int) = (U1.length : Int) := by unfold plus1; rw [List.length_map]
    refine cut_i (fun σ H9 => ∃ (pe : Addr) (R : RL), σ = [some (V.ref a), some (V.int ks.length), some (V.ref hp), some (V.ref lp), some (V.int time), some (V.ref c), some (V.ref pu), some (V.ref pf), some (V.ref pr), some (V.ref fd), some (V.ref pe), none, none, none, none, none] ∧
      CAt C_Council C_Keeper H9 c l ks ls8 ss8 ∧ H9 pr = some (.lst (refr R)) ∧ RAt H9 R ∧ ((o = none ∧ R = []) ∨ ∃ x y z, o = some (U1, ⟨1, h0, l0, sh0, time⟩) ∧ ¬ ((U1.length : Int) < (ks.length : Int) / 2 + 1) ∧ y ≠ pr ∧ R = [(x, y, z, U1, ⟨1, h0, l0, sh0, time⟩)]) ∧ Alike H9 3 (.ref fd) (.ref pe) ∧
      SqL K H9 a (ns.map V.int) ∧ H9 hp = some (.lst [V.str h0, V.str h1]) ∧ H9 lp = some (.lst [V.str l0, V.str l1]) ∧ H9 pf = some (.tup [V.int 0, V.str h0, V.str l0, V.bl sh0, V.int time])) (fun Mid hMid => ?_) ?_
    · walk_at "rd"
      have u9 := Same.upd (o := .tup [V.str (Str.ofString "refused")]) hpd
      have gd9 : upd H8 pd (.tup [V.str (Str.ofString "refused")]) pd = some (.tup [V.str (Str.ofString "refused")]) := upd_same
      generalize upd H8 pd (.tup [V.str (Str.ofString "refused")]) = H9 at u9 gd9 ⊢
      refine ⟨_, .inl (SqL.of (u9 _ _ gu8)), .inl ⟨by decide, by decide⟩, ?_⟩
      rw [hU1]
      by_cases hmaj : (U1.length : Int) < (ks.length : Int) / 2 + 1
      · rw [if_neg (by simp; omega)]
        have eg : g1 = false := by rw [eg1]; simpa using hmaj
        subst eg
        rw [if_neg Bool.false_ne_true] at ho
        unfold Told at told1
        rw [if_neg Bool.false_ne_true] at told1
        exact hMid _ _ ⟨pd, [], rfl, hc8.mono u9, u9 _ _ gr8, (fun q hq => by cases hq), .inl ⟨ho, rfl⟩, ref_alike (u9 _ _ told1) gd9, u9.seq ha8, u9 _ _ gh8, u9 _ _ gl8, u9 _ _ gf8⟩
      · rw [if_pos (by simp; omega)]
        have eg : g1 = true := by rw [eg1]; simpa using hmaj
        subst eg
        rw [if_pos rfl] at ho
        have em := hm1 rfl
        subst em
        unfold Told at told1
        rw [if_pos rfl] at told1
        obtain ⟨pt, ht1', ht2'⟩ := told1
        refine ⟨_, .inl (SqL.of (u9 _ _ gu8)), fun q1 hq1 => ⟨small_size' (by decide), fun q2 hq2 => ?_⟩⟩
        have w2 := (Same.upd (o := .lst (plus1 U1)) hq1).trans (Same.upd (o := .tup [V.int 1, V.ref q1]) hq2)
        have gq1 : upd (upd H9 q1 (.lst (plus1 U1))) q2 (.tup [V.int 1, V.ref q1]) q1 = some (.lst (plus1 U1)) := Same.upd hq2 _ _ upd_same
        have gq2 : upd (upd H9 q1 (.lst (plus1 U1))) q2 (.tup [V.int 1, V.ref q1]) q2 = some (.tup [V.int 1, V.ref q1]) := upd_same
        generalize upd (upd H9 q1 (.lst (plus1 U1))) q2 (.tup [V.int 1, V.ref q1]) = HA at w2 gq1 gq2 ⊢
        have w8 := u9.trans w2
        refine ⟨.inl ⟨_, SqL.of (w8 _ _ gr8)⟩, ?_⟩
        refine ⟨_, _, _, _, rfl, rfl, SqL.of (w8 _ _ gh8), atI_nat (j := 0) rfl, ?_⟩
        refine ⟨_, _, _, _, rfl, rfl, SqL.of (w8 _ _ gl8), atI_nat (j := 0) rfl, ?_⟩
        refine ⟨_, _, _, _, rfl, rfl, SqT.of (w8 _ _ gf8), atI_nat (j := 3) rfl, small_size' (by decide), fun q3 hq3 => ⟨small_size' (by decide), fun q4 hq4 => ?_⟩⟩
        have w4 := (Same.upd (o := .tup [V.int 1, V.str h0, V.str l0, V.bl sh0, V.int time]) hq3).trans (Same.upd (o := .tup [V.ref pu, V.ref q3]) hq4)
        have gq3 : upd (upd HA q3 (.tup [V.int 1, V.str h0, V.str l0, V.bl sh0, V.int time])) q4 (.tup [V.ref pu, V.ref q3]) q3 = some (.tup [V.int 1, V.str h0, V.str l0, V.bl sh0, V.int time]) := Same.upd hq4 _ _ upd_same
        have gq4 : upd (upd HA q3 (.tup [V.int 1, V.str h0, V.str l0, V.bl sh0, V.int time])) q4 (.tup [V.ref pu, V.ref q3]) q4 = some (.tup [V.ref pu, V.ref q3]) := upd_same
        generalize upd (upd HA q3 (.tup [V.int 1, V.str h0, V.str l0, V.bl sh0, V.int time])) q4 (.tup [V.ref pu, V.ref q3]) = HB at w4 gq3 gq4 ⊢
        have wB := w8.trans w4
        have grB := wB _ _ gr8
        refine ⟨_, _, _, rfl, rfl, grB, small1000 (by decide), hMid _ _ ⟨q2, [(q4, pu, q3, U1, ⟨1, h0, l0, sh0, time⟩)], rfl, (hc8.mono wB).upd grB lpr npr8, upd_same, fun y hy => ?_, .inr ⟨q4, pu, q3, ho, hmaj, (fun z => by have e6 : H6 pu = some (.lst (plus1 U1)) := gu; rw [z, hpr6] at e6; cases e6), rfl⟩, ?_, ?_, ?_, ?_, ?_⟩⟩
        · have : y = (q4, pu, q3, U1, ⟨1, h0, l0, sh0, time⟩) := by simpa using hy
          subst this
          refine ⟨?_, ?_, ?_⟩
          · rw [upd_ne (fun z => by dsimp only at z; rw [z, grB] at gq4; cases gq4)]; exact gq4
          · have gB := wB _ _ gu8
            rw [upd_ne (fun z => ?_)]
            · exact gB
            · dsimp only at z
              have e6 : H6 pu = some (.lst (plus1 U1)) := gu
              rw [z, hpr6] at e6
              cases e6
          · rw [upd_ne (fun z => by dsimp only at z; rw [z, grB] at gq3; cases gq3)]; exact gq3
        · have n1 : fd ≠ pr := fun z => by rw [z, gr8] at ht1'; cases ht1'
          have n2 : q2 ≠ pr := fun z => by rw [z] at gq2; rw [w2 _ _ (u9 _ _ gr8)] at gq2; cases gq2
          have n3 : pt ≠ pr := fun z => by
            rw [z, gr8] at ht2'
            injection ht2' with e
            injection e with e
            have : U1.length = 0 := by
              have := congrArg List.length e
              unfold plus1 at this
              rw [List.length_map] at this
              exact this.symm
            omega
          have n4 : q1 ≠ pr := fun z => by rw [z, u9 _ _ gr8] at hq1; cases hq1
          refine tup2_alike (i := 1) (p := pt) (p' := q1) (js := U1) ?_ ?_ ?_ ?_ (by omega)
          · rw [upd_ne n1]; exact wB _ _ (by simpa using ht1')
          · rw [upd_ne n2]; exact w4 _ _ gq2
          · rw [upd_ne n3]; exact wB _ _ ht2'
          · rw [upd_ne n4]; exact w4 _ _ gq1
        · exact seq_fresh ha6 (wB.seq ha8) hpr6 rfl
        · rw [upd_ne (ne_of_none gh6 hpr6)]; exact wB _ _ gh8
        · rw [upd_ne (ne_of_none gl6 hpr6)]; exact wB _ _ gl8
        · rw [upd_ne (fun z => by have := gf7; rw [z, gr7] at this; cases this)]; exact wB _ _ gf8
    · rintro σ H9 ⟨pe, R, rfl, hc9, gr9, hR9, hoR, al9, ha9, gh9, gl9, gf9⟩
      walk_at "rd"
      clear hc8 gr8 gu8 gf8 gh8 gl8 ha8 told1 z8 hls8 htop1 hm1
      have lR : R.length ≤ 1 := by
        rcases hoR with ⟨-, rfl⟩ | ⟨_, _, _, -, -, -, rfl⟩ <;> simp
      have hoR' : (o = none ∧ R = []) ∨ ∃ a b c, o = some (U1, ⟨1, h0, l0, sh0, time⟩) ∧ R = [(a, b, c, U1, ⟨1, h0, l0, sh0, time⟩)] := by
        rcases hoR with z | ⟨a, b, c, e1, -, -, e2⟩
        · exact .inl z
        · exact .inr ⟨a, b, c, e1, e2⟩
      refine ⟨_, _, rfl, al9, fun HA sA => ⟨_, rfl, ?_⟩⟩
      rw [if_neg (by decide)]
      refine ⟨c, l, pr, ks, ls8, ss8, 0, R, rfl, hc9.mono sA, sA _ _ gr9, hR9.mono sA, by omega, noted_of hgood hoR' 0, fun HB sB => ⟨_, rfl, ?_⟩⟩
      rw [if_neg (by decide)]
      have sAB := sA.trans sB
      refine ⟨a, ns, 7, rfl, sAB.seq ha9, by omega, ?_⟩
      refine ⟨c, l, ks, ls8, ss8, _, rfl, hc9.mono sAB, fun f7 p7 HC hcC g7 p70 bC => ?_⟩
      have zC : SameL H9 HC := (SameL.of sAB).trans (bC.sameL (hc9.mono sAB))
      refine ⟨a, ns, 5, rfl, zC.seq ha9, by omega, _, rfl, cdiv (by decide) (by decide), small_size' (by decide), fun p5 hp5 => ?_⟩
      have u5 := Same.upd (o := .lst [V.int 0, V.int (ns.getD 5 0 / 2)]) hp5
      have g5 : upd HC p5 (.lst [V.int 0, V.int (ns.getD 5 0 / 2)]) p5 = some (.lst [V.int 0, V.int (ns.getD 5 0 / 2)]) := upd_same
      generalize upd HC p5 (.lst [V.int 0, V.int (ns.getD 5 0 / 2)]) = HD at u5 g5 ⊢
      have zD := zC.trans (SameL.of u5)
      refine ⟨a, ns, 5, rfl, zD.seq ha9, by omega, _, rfl, by decide, ?_⟩
      obtain ⟨cell2, hcell2⟩ : ∃ v : Int, atI [V.int 0, V.int (ns.getD 5 0 / 2)] (ns.getD 5 0 % 2) = some (V.int v) := by
        rcases (show ns.getD 5 0 % 2 = 0 ∨ ns.getD 5 0 % 2 = 1 by omega) with e | e
        · exact ⟨0, by rw [e]; exact atI_nat (j := 0) rfl⟩
        · exact ⟨_, by rw [e]; exact atI_nat (j := 1) rfl⟩
      refine ⟨_, _, _, _, rfl, rfl, SqL.of g5, hcell2, ?_⟩
      refine ⟨c, l, ks, ls8, standN ss8 f7, cell2, rfl, hcC.mono u5, fun f2 pv HE hcE gvE pv0 bE => ?_⟩
      have zE : SameL H9 HE := zD.trans (bE.sameL (hcC.mono u5))
      have haE := zE.seq ha9
      have ghE := zE.lst gh9
      have glE := zE.lst gl9
      have gfE := zE.tup gf9
      have grE := zE.lst gr9
      have hRE := SameL.rat hR9 zE
      have good7 := hgood.stand f7
      have ln7 : (standN ss8 f7).length = ks.length := by rw [standN_len]; exact hc9.ln
      refine ⟨a, ns, 6, rfl, haE, by omega, _, rfl, by decide, ?_⟩
      generalize ns.getD 6 0 = cell
      refine ⟨_, _, _, _, rfl, rfl, SqL.of glE, atI_nat (j := 0) rfl, ?_⟩
      refine ⟨_, _, _, _, rfl, rfl, SqL.of glE, atI_nat (j := 0) rfl, _, rfl, ?_⟩
      have esl : (Str.ofString "/").length = 1 := by decide +kernel
      refine ⟨small_size' (by rw [esl]; omega), ?_⟩
      refine ⟨_, _, _, _, rfl, rfl, SqL.of ghE, atI_nat (j := 1) rfl, _, rfl, small_size' (by rw [PySem.Str.length_append, esl]; omega), ?_⟩
      refine ⟨_, _, _, _, rfl, rfl, SqL.of glE, atI_nat (j := 1) rfl, small_size' (by decide), fun p6 hp6 => ⟨_, rfl, cdiv (by decide) (by decide), by decide, ?_⟩⟩
      obtain ⟨lk, hlk, llk⟩ : ∃ lk : Str, atI [V.str l0, V.str (l0 ++ Str.ofString "/" ++ h1), V.str l1] (cell / 4 % 3) = some (V.str lk) ∧ lk.length ≤ 1000 := by
        rcases (show cell / 4 % 3 = 0 ∨ cell / 4 % 3 = 1 ∨ cell / 4 % 3 = 2 by omega) with e | e | e
        · exact ⟨l0, by rw [e]; exact atI_nat (j := 0) rfl, by omega⟩
        · exact ⟨_, by rw [e]; exact atI_nat (j := 1) rfl, by rw [PySem.Str.length_append, PySem.Str.length_append, esl]; omega⟩
        · exact ⟨l1, by rw [e]; exact atI_nat (j := 2) rfl, by omega⟩
      have u6 := Same.upd (o := .lst [V.str l0, V.str (l0 ++ Str.ofString "/" ++ h1), V.str l1]) hp6
      refine ⟨_, _, _, _, rfl, rfl, SqL.of upd_same, hlk, _, rfl, cdiv (by decide) (by decide), by decide, ?_⟩
      obtain ⟨hd, hhd, ehd⟩ : ∃ hd : Str, atI [V.str h0, V.str h1] (cell / 2 % 2) = some (V.str hd) ∧ ((cell / 2 % 2 = 0 ∧ hd = h0) ∨ (cell / 2 % 2 = 1 ∧ hd = h1)) := by
        rcases (show cell / 2 % 2 = 0 ∨ cell / 2 % 2 = 1 by omega) with e | e
        · exact ⟨h0, by rw [e]; exact atI_nat (j := 0) rfl, .inl ⟨e, rfl⟩⟩
        · exact ⟨h1, by rw [e]; exact atI_nat (j := 1) rfl, .inr ⟨e, rfl⟩⟩
      have lhd : hd.length ≤ 16 := by rcases ehd with ⟨-, rfl⟩ | ⟨-, rfl⟩ <;> assumption
      refine ⟨_, _, _, _, rfl, rfl, SqL.of (u6 _ _ ghE), hhd, _, rfl, cdiv (by decide) (by decide), by decide, _, rfl, cdiv (by decide) (by decide), by decide, small_size' (by decide), fun ps hps => ⟨pv, rfl, _, .inl (SqL.of (Same.upd hps _ _ (u6 _ _ gvE))), fun pb hpb => ?_⟩⟩
      generalize esh2 : decide (cell / 12 % 2 = 1) = sh2 at *
      generalize etm2 : 1 + cell / 24 % 1000 = time2 at *
      have sF := (u6.trans (Same.upd (o := .tup [V.int 0, V.str hd, V.str lk, V.bl sh2, V.int time2]) hps)).trans (Same.upd (o := .lst (plus1 ((List.range ks.length).filter f2))) hpb)
      have gsF : upd (upd (upd HE p6 (.lst [V.str l0, V.str (l0 ++ Str.ofString "/" ++ h1), V.str l1])) ps (.tup [V.int 0, V.str hd, V.str lk, V.bl sh2, V.int time2])) pb (.lst (plus1 ((List.range ks.length).filter f2))) ps = some (.tup [V.int 0, V.str hd, V.str lk, V.bl sh2, V.int time2]) := Same.upd hpb _ _ upd_same
      have gbF : upd (upd (upd HE p6 (.lst [V.str l0, V.str (l0 ++ Str.ofString "/" ++ h1), V.str l1])) ps (.tup [V.int 0, V.str hd, V.str lk, V.bl sh2, V.int time2])) pb (.lst (plus1 ((List.range ks.length).filter f2))) pb = some (.lst (plus1 ((List.range ks.length).filter f2))) := upd_same
      generalize upd (upd (upd HE p6 (.lst [V.str l0, V.str (l0 ++ Str.ofString "/" ++ h1), V.str l1])) ps (.tup [V.int 0, V.str hd, V.str lk, V.bl sh2, V.int time2])) pb (.lst (plus1 ((List.range ks.length).filter f2))) = HF at sF gsF gbF ⊢
      have hcF := hcE.mono sF
      have grF := sF _ _ grE
      have hRF := hRE.mono sF
      have gvF := sF _ _ gvE
      have gfF := sF _ _ gfE
      generalize etick : time - 1 + cell % 2 = tick at *
      have U2d : ((List.range ks.length).filter f2).Nodup := List.Nodup.sublist List.filter_sublist List.nodup_range
      have U2m : ∀ j ∈ (List.range ks.length).filter f2, j < ks.length ∧ f2 j = true := fun j hj => ⟨List.mem_range.mp (List.mem_filter.mp hj).1, (List.mem_filter.mp hj).2⟩
      have U2l : ((List.range ks.length).filter f2).length ≤ 5 := Nat.le_trans (List.length_filter_le _ _) (by rw [List.length_range]; omega)
      generalize eU2 : (List.range ks.length).filter f2 = U2 at *
      refine cut_i (fun σ HG => ∃ (pb : Addr) (B : List Nat), σ = [some (V.ref a), some (V.int ks.length), some (V.ref hp), some (V.ref lp), some (V.int time), some (V.ref c), some (V.ref pv), some (V.ref pf), some (V.ref pr), some (V.ref fd), some (V.ref pe), some (V.int cell), some (V.int tick), some (V.str lk), some (V.ref ps), some (V.ref pb)] ∧
        HG pb = some (.lst (plus1 B)) ∧ B = sayl (standN (standN ss8 f7) f2) ks.length hd lk sh2 tick ∧ (∀ j ∈ B, j ∈ U2) ∧ B.Nodup ∧ pb ≠ pr ∧ Same HF HG) (fun Mid hMid => ?_) ?_
      · walk_at "rd"
        have nbr : pb ≠ pr := fun z => by rw [z] at hpb; rw [Same.upd hps _ _ (u6 _ _ grE)] at hpb; cases hpb
        have keepB : ∀ HG, Same HF HG → sayl (standN (standN ss8 f7) f2) ks.length hd lk sh2 tick = U2 → Mid [some (V.ref a), some (V.int ks.length), some (V.ref hp), some (V.ref lp), some (V.int time), some (V.ref c), some (V.ref pv), some (V.ref pf), some (V.ref pr), some (V.ref fd), some (V.ref pe), some (V.int cell), some (V.int tick), some (V.str lk), some (V.ref ps), some (V.ref pb)] HG := fun HG sG e => hMid _ _ ⟨pb, U2, rfl, sG _ _ gbF, e.symm, fun j hj => hj, U2d, nbr, sG⟩
        refine ⟨Nat.zero_le _, fun p hp => ⟨_, SqL.of (Same.upd hp _ _ grF), SqL.of upd_same, ?_⟩⟩
        have sP := Same.upd (o := .lst []) hp
        generalize upd HF p (.lst []) = HP at sP ⊢
        rcases hoR with ⟨eo, eR⟩ | ⟨x, y, z, eo, hmajU, nyr, eR⟩
        · subst eo eR
          rw [if_neg (by decide)]
          exact keepB _ sP (by rw [say_none good7 ln7]; exact eU2)
        · subst eo eR
          rw [if_pos (by rfl)]
          have esay := say_some (f := f2) good7 ln7 hd lk sh2 tick
          rw [eU2] at esay
          have ebl : blocks hd lk sh2 ⟨1, h0, l0, sh0, time⟩ = (decide (h0 ≠ hd) && (onl l0 lk && !(sh0 && sh2))) := by
            unfold blocks
            dsimp only
            rw [onl_comm lk l0, Bool.and_comm sh2 sh0]
          rw [ebl] at esay
          dsimp only at esay
          refine ⟨cdiv (by decide) (by decide), by decide, ?_⟩
          rcases ehd with ⟨e0, rfl⟩ | ⟨e0, rfl⟩
          · rw [if_neg (by rw [e0]; decide)]
            refine keepB _ sP ?_
            rw [esay, if_neg (by simp)]
          · rw [if_pos (by rw [e0]; decide)]
            by_cases htk : tick < time
            · rw [if_pos (decide_eq_true htk)]
              refine ⟨_, _, _, _, rfl, rfl, SqT.of (sP _ _ gfF), atI_nat (j := 2) rfl, ?_⟩
              refine ⟨_, _, _, _, rfl, rfl, SqT.of (sP _ _ gfF), atI_nat (j := 3) rfl, ?_⟩
              refine ⟨_, _, _, _, rfl, rfl, SqT.of (sP _ _ gsF), atI_nat (j := 3) rfl, ?_⟩
              refine ⟨_, _, _, _, rfl, by omega, llk, fun HQ sQ => ⟨_, rfl, ?_⟩⟩
              have sPQ := sP.trans sQ
              cases hw : (onl l0 lk && !(sh0 && sh2)) with
              | false =>
                rw [if_neg Bool.false_ne_true]
                refine keepB _ sPQ ?_
                rw [esay, hw, if_neg (by simp)]
              | true =>
                rw [if_pos rfl]
                rw [hw, if_pos (by simp [htk, hne])] at esay
                refine ⟨⟨_, SqL.of (sPQ _ _ gvF)⟩, ?_⟩
                obtain ⟨t1, t2, t3⟩ := (hRF.mono sPQ) _ (List.mem_singleton.mpr rfl)
                refine compgo_list (xs := plus1 U2) (by unfold plus1; rw [List.length_map]; exact small_size' (by omega)) (fun i acc H' => H' = HQ ∧ acc = plus1 ((U2.take i).filter fun j => !decide (j ∈ U1))) ⟨rfl, rfl⟩ ?_ ?_ ?_ ?_
                · rintro i acc H' ⟨-, rfl⟩
                  unfold plus1
                  rw [List.length_map]
                  exact Nat.le_trans (List.length_filter_le _ _) (by rw [List.length_take]; omega)
                · rintro i acc H' ⟨rfl, -⟩
                  exact SqL.of (sPQ _ _ gvF)
                · rintro Nn i acc H' xx hN hx hi ⟨rfl, rfl⟩
                  unfold plus1 at hx
                  rw [List.getElem?_map] at hx
                  cases ej : U2[i]? with
                  | none => rw [ej] at hx; cases hx
                  | some j =>
                  rw [ej] at hx
                  cases hx
                  walk_at "rd"
                  have stp := filt_step (fun j => !decide (j ∈ U1)) ej
                  refine ⟨_, _, _, _, rfl, rfl, SqL.of (sPQ _ _ grF), atI_nat (j := 0) rfl, ?_⟩
                  refine ⟨_, _, _, _, rfl, rfl, SqT.of t1, atI_nat (j := 0) rfl, ?_⟩
                  refine ⟨_, _, rfl, .inl (SqL.of t2), rfl, plus1_flat _, _, rfl, ?_⟩
                  rw [if_pos rfl, in_plus1]
                  by_cases hj : j ∈ U1
                  · rw [if_neg (by simp [hj])]
                    exact hN _ _ ⟨rfl, by rw [stp]; simp [hj]⟩
                  · rw [if_pos (by simp [hj])]
                    exact hN _ _ ⟨rfl, by rw [stp]; simp [hj, plus1]⟩
                · rintro acc H' ⟨rfl, rfl⟩ pq hpq
                  have e1 : (plus1 U2).length = U2.length := List.length_map _
                  rw [e1, List.take_length]
                  have nqr : pq ≠ pr := fun z => by rw [z, sPQ _ _ grF] at hpq; cases hpq
                  exact hMid _ _ ⟨pq, _, rfl, upd_same, esay.symm, fun j hj => (List.mem_filter.mp hj).1, List.Nodup.sublist List.filter_sublist U2d, nqr, sPQ.trans (Same.upd hpq)⟩
            · rw [if_neg (by simpa using htk)]
              refine keepB _ sP ?_
              rw [esay, if_neg (by simp [htk])]
      · rintro σ HG ⟨pb, B, rfl, gbG, eB, BU, Bd, nbr, sG⟩
        walk_at "rd"
        have hcG := hcF.mono sG
        have grG := sG _ _ grF
        have hRG := hRF.mono sG
        have gfG := sG _ _ gfF
        have gsG := sG _ _ gsF
        have BL : B.length ≤ ks.length := nodup_len _ _ Bd fun j hj => (U2m j (BU j hj)).1
        have hB1 : ((plus1 B).length : Int) = (B.length : Int) := by unfold plus1; rw [List.length_map]
        refine given_uni (sl := B) gsG hcG (good7.stand f2).small (by omega) llk eB.symm fun fd2 ls9 HH g2 m2 eg2 z9 hls9 hcH htop2 told2 => ?_
        have npr9 : pr ∉ ls9 := fun z => by
          rcases hls9 pr z with y | y
          · exact npr8 y
          · rw [grG] at y; cases y
        have em2 : g2 = true → m2 = (R.length : Int) := fun hg => by
          have hmajB : ¬ ((B.length : Int) < (ks.length : Int) / 2 + 1) := by
            rw [hg] at eg2
            exact of_decide_eq_true eg2.symm
          rcases hoR with ⟨eo, eR⟩ | ⟨x, y, z, eo, hmajU, nyr, eR⟩
          · subst eo eR
            exact top0 good7 (htop2 hg)
          · subst eo eR
            exact top1 good7 ln7 (htop2 hg) U1d U1m Bd (fun j hj => U2m j (BU j hj)) (by omega)
        refine ⟨small_size' (by decide), fun pd2 hpd2 => ?_⟩
        have u9 := Same.upd (o := .tup [V.str (Str.ofString "refused")]) hpd2
        have gd9 : upd HH pd2 (.tup [V.str (Str.ofString "refused")]) pd2 = some (.tup [V.str (Str.ofString "refused")]) := upd_same
        generalize upd HH pd2 (.tup [V.str (Str.ofString "refused")]) = HI at u9 gd9 ⊢
        have zI : SameL HG HI := z9.trans (SameL.of u9)
        have grI := zI.lst grG
        have hRI := SameL.rat hRG zI
        have gfI := zI.tup gfG
        have gsI := zI.tup gsG
        have gbI := zI.lst gbG
        refine cut_i (fun σ HJ => ∃ (pe2 : Addr) (R2 : RL), σ = [some (V.ref a), some (V.int ks.length), some (V.ref hp), some (V.ref lp), some (V.int time), some (V.ref c), some (V.ref pv), some (V.ref pf), some (V.ref pr), some (V.ref fd2), some (V.ref pe2), some (V.int cell), some (V.int tick), some (V.str lk), some (V.ref ps), some (V.ref pb)] ∧
          CAt C_Council C_Keeper HJ c l ks ls9 (if g2 = true then giveN (standN (standN ss8 f7) f2) B ⟨1 + m2, hd, lk, sh2, tick + time2⟩ else standN (standN ss8 f7) f2) ∧ HJ pr = some (.lst (refr R2)) ∧ RAt HJ R2 ∧ R2.length ≤ 100 ∧ Noted (if g2 = true then giveN (standN (standN ss8 f7) f2) B ⟨1 + m2, hd, lk, sh2, tick + time2⟩ else standN (standN ss8 f7) f2) R2 tick ∧ Alike HJ 3 (.ref fd2) (.ref pe2)) (fun Mid hMid => ?_) ?_
        · walk_at "rd"
          refine ⟨_, .inl (SqL.of gbI), .inl ⟨by decide, by decide⟩, ?_⟩
          rw [hB1]
          by_cases hmaj : (B.length : Int) < (ks.length : Int) / 2 + 1
          · rw [if_neg (by simp; omega)]
            have eg : g2 = false := by rw [eg2]; simpa using hmaj
            subst eg
            unfold Told at told2
            rw [if_neg Bool.false_ne_true] at told2
            refine hMid _ _ ⟨pd2, R, rfl, hcH.mono u9, grI, hRI, by omega, ?_, ref_alike (u9 _ _ told2) gd9⟩
            rw [if_neg Bool.false_ne_true]
            exact noted_of (good7.stand f2) hoR' tick
          · rw [if_pos (by simp; omega)]
            have eg : g2 = true := by rw [eg2]; simpa using hmaj
            subst eg
            have em := em2 rfl
            subst em
            unfold Told at told2
            rw [if_pos rfl] at told2
            obtain ⟨pt, ht1', ht2'⟩ := told2
            rw [if_pos rfl] at hcH hMid
            have BL1 : 1 ≤ B.length := by omega
            have npt : pt ≠ pr := fun z => by
              rw [z, z9.lst grG] at ht2'
              injection ht2' with e
              injection e with e
              cases B with
              | nil => simp at BL1
              | cons b bs =>
                cases R with
                | nil => cases e
                | cons r rs => cases e
            refine ⟨_, .inl (SqL.of grI), small_size' (by decide), fun pq hpq => ?_⟩
            rw [refr_len]
            have uq := Same.upd (o := .tup [V.int (1 + (R.length : Int)), V.ref pb]) hpq
            have gq : upd HI pq (.tup [V.int (1 + (R.length : Int)), V.ref pb]) pq = some (.tup [V.int (1 + (R.length : Int)), V.ref pb]) := upd_same
            generalize upd HI pq (.tup [V.int (1 + (R.length : Int)), V.ref pb]) = HJ at uq gq ⊢
            have hcJ := (hcH.mono u9).mono uq
            have grJ := uq _ _ grI
            have hRJ := hRI.mono uq
            have gfJ := uq _ _ gfI
            have gsJ := uq _ _ gsI
            have gbJ := uq _ _ gbI
            have gtJ := uq _ _ (u9 _ _ ht1')
            have gt2J := uq _ _ (u9 _ _ ht2')
            have nq : pq ≠ pr := fun z => by rw [z, grI] at hpq; cases hpq
            have nf2 : fd2 ≠ pr := fun z => by rw [z, grJ] at gtJ; cases gtJ
            have nps : ps ≠ pr := fun z => by rw [z, grJ] at gsJ; cases gsJ
            refine cut_i (fun σ HK => ∃ R1 : RL, σ = [some (V.ref a), some (V.int ks.length), some (V.ref hp), some (V.ref lp), some (V.int time), some (V.ref c), some (V.ref pv), some (V.ref pf), some (V.ref pr), some (V.ref fd2), some (V.ref pq), some (V.int cell), some (V.int tick), some (V.str lk), some (V.ref ps), some (V.ref pb)] ∧
              CAt C_Council C_Keeper HK c l ks ls9 (giveN (standN (standN ss8 f7) f2) B ⟨1 + (R.length : Int), hd, lk, sh2, tick + time2⟩) ∧ HK pr = some (.lst (refr R1)) ∧ RAt HK R1 ∧ (∀ q ∈ R1, q.2.1 ≠ pr) ∧ R1.length = R.length ∧ (∀ j s, (standN (standN ss8 f7) f2)[j]? = some s → liveN tick (if j ∈ B then keptN hd lk s.N else s.N) = (noteF R1 tick j).map (·.2)) ∧ But pr HJ HK) (fun Mid2 hMid2 => ?_) ?_
            · walk_at "rd"
              refine ⟨Nat.zero_le _, fun p hpP => ⟨_, SqL.of (Same.upd hpP _ _ grJ), SqL.of upd_same, ?_⟩⟩
              have sP := Same.upd (o := .lst []) hpP
              generalize upd HJ p (.lst []) = HP at sP ⊢
              rcases hoR with ⟨eo, eR⟩ | ⟨x, y, z, eo, hmajU, nyr, eR⟩
              · subst eo eR
                rw [if_neg (by decide)]
                exact hMid2 _ _ ⟨[], rfl, hcJ.mono sP, sP _ _ grJ, (fun q hq => by cases hq), (fun q hq => by cases hq), rfl, notes_none (good7.stand f2) B hd lk tick, But.of sP⟩
              · subst eo eR
                rw [if_pos (by rfl)]
                have other : ¬ (h0 = hd ∧ l0 = lk) → Mid2 [some (V.ref a), some (V.int ks.length), some (V.ref hp), some (V.ref lp), some (V.int time), some (V.ref c), some (V.ref pv), some (V.ref pf), some (V.ref pr), some (V.ref fd2), some (V.ref pq), some (V.int cell), some (V.int tick), some (V.str lk), some (V.ref ps), some (V.ref pb)] HP := fun hno =>
                  hMid2 _ _ ⟨_, rfl, hcJ.mono sP, sP _ _ grJ, hRJ.mono sP, (fun q hq => by rw [List.mem_singleton.mp hq]; exact nyr), rfl, notes_other (good7.stand f2) B hno x y z tick, But.of sP⟩
                refine ⟨cdiv (by decide) (by decide), by decide, ?_⟩
                rcases ehd with ⟨e0, rfl⟩ | ⟨e0, rfl⟩
                · rw [if_pos (by rw [e0]; decide)]
                  refine ⟨_, _, _, _, rfl, rfl, SqT.of (sP _ _ gfJ), atI_nat (j := 2) rfl, rfl, ?_⟩
                  by_cases hlk' : lk = l0
                  · rw [if_pos (decide_eq_true (congrArg V.str hlk'))]
                    subst hlk'
                    obtain ⟨t1, t2, t3⟩ := (hRJ.mono sP) _ (List.mem_singleton.mpr rfl)
                    refine ⟨_, _, _, _, rfl, rfl, SqL.of (sP _ _ grJ), atI_nat (j := 0) rfl, ?_⟩
                    refine ⟨_, _, _, _, rfl, rfl, SqT.of t1, atI_nat (j := 0) rfl, y, rfl, ⟨_, SqL.of t2⟩, ?_⟩
                    have eU1 : (plus1 U1).length = U1.length := List.length_map _
                    refine compgo_list (xs := plus1 U1) (by rw [eU1]; exact small_size' (by omega)) (fun i acc H' => H' = HP ∧ acc = plus1 ((U1.take i).filter fun j => !decide (j ∈ B))) ⟨rfl, rfl⟩ ?_ ?_ ?_ ?_
                    · rintro i acc H' ⟨-, rfl⟩
                      unfold plus1
                      rw [List.length_map]
                      exact Nat.le_trans (List.length_filter_le _ _) (by rw [List.length_take]; omega)
                    · rintro i acc H' ⟨rfl, -⟩
                      exact SqL.of t2
                    · rintro Nn i acc H' xx hN hx hi ⟨rfl, rfl⟩
                      unfold plus1 at hx
                      rw [List.getElem?_map] at hx
                      cases ej : U1[i]? with
                      | none => rw [ej] at hx; cases hx
                      | some j =>
                      rw [ej] at hx
                      cases hx
                      walk_at "rd"
                      have stp := filt_step (fun j => !decide (j ∈ B)) ej
                      refine ⟨_, _, rfl, .inl (SqL.of (sP _ _ gbJ)), rfl, plus1_flat _, _, rfl, ?_⟩
                      rw [if_pos rfl, in_plus1]
                      by_cases hj : j ∈ B
                      · rw [if_neg (by simp [hj])]
                        exact hN _ _ ⟨rfl, by rw [stp]; simp [hj]⟩
                      · rw [if_pos (by simp [hj])]
                        exact hN _ _ ⟨rfl, by rw [stp]; simp [hj, plus1]⟩
                    · rintro acc H' ⟨rfl, rfl⟩ pc hpc
                      rw [eU1, List.take_length]
                      have sC := Same.upd (o := .lst (plus1 (U1.filter fun j => !decide (j ∈ B)))) hpc
                      have gC : upd H' pc (.lst (plus1 (U1.filter fun j => !decide (j ∈ B)))) pc = some (.lst (plus1 (U1.filter fun j => !decide (j ∈ B)))) := upd_same
                      have npc : pc ≠ pr := fun z => by rw [z, sP _ _ grJ] at hpc; cases hpc
                      generalize upd H' pc (.lst (plus1 (U1.filter fun j => !decide (j ∈ B)))) = HQ at sC gC ⊢
                      have sPC := sP.trans sC
                      refine ⟨_, _, _, _, rfl, rfl, SqL.of (sPC _ _ grJ), atI_nat (j := 0) rfl, ?_⟩
                      refine ⟨_, _, _, _, rfl, rfl, SqT.of (sC _ _ t1), atI_nat (j := 1) rfl, small_size' (by decide), fun pw hpw => ?_⟩
                      have sW := Same.upd (o := .tup [V.ref pc, V.ref z]) hpw
                      have gW : upd HQ pw (.tup [V.ref pc, V.ref z]) pw = some (.tup [V.ref pc, V.ref z]) := upd_same
                      generalize upd HQ pw (.tup [V.ref pc, V.ref z]) = HW at sW gW ⊢
                      have sPW := sPC.trans sW
                      have grW := sPW _ _ grJ
                      refine ⟨pr, _, 0, 0, rfl, rfl, grW, rfl, ?_⟩
                      refine hMid2 _ _ ⟨[(pw, pc, z, U1.filter fun j => !decide (j ∈ B), ⟨1, hd, lk, sh0, time⟩)], rfl, (hcJ.mono sPW).upd grW lpr npr9, by rw [upd_same]; rfl, fun q hq => ?_, (fun q hq => by rw [List.mem_singleton.mp hq]; exact npc), rfl, notes_same (good7.stand f2) B ⟨rfl, rfl⟩ pw pc z tick, fun b o hb nb => by rw [upd_ne nb]; exact sPW _ _ hb⟩
                      rw [List.mem_singleton.mp hq]
                      dsimp only
                      refine ⟨?_, ?_, ?_⟩
                      · rw [upd_ne (fun e => by rw [e, grW] at gW; cases gW)]; exact gW
                      · rw [upd_ne npc]; exact sW _ _ gC
                      · have t3W := sW _ _ (sC _ _ t3)
                        rw [upd_ne (fun e => by dsimp only at t3W; rw [e, grW] at t3W; cases t3W)]; exact t3W
                  · rw [if_neg (by simpa using hlk')]
                    exact other fun hno => hlk' hno.2.symm
                · rw [if_neg (by rw [e0]; decide)]
                  exact other fun hno => hne hno.1
            · rintro σ HK ⟨R1, rfl, hcK, grK, hRK, nyK, lR1, noK, bK⟩
              walk_at "rd"
              refine ⟨.inl ⟨_, SqL.of grK⟩, ?_⟩
              have gsK := bK _ _ gsJ nps
              refine ⟨_, .inl (SqL.of grK), ?_⟩
              refine ⟨_, _, _, _, rfl, rfl, SqT.of gsK, atI_nat (j := 1) rfl, ?_⟩
              refine ⟨_, _, _, _, rfl, rfl, SqT.of gsK, atI_nat (j := 3) rfl, ?_⟩
              refine ⟨_, _, _, _, rfl, rfl, SqT.of gsK, atI_nat (j := 4) rfl, _, rfl, small_size' (by decide), fun r1 hr1 => ⟨small_size' (by decide), fun r2 hr2 => ?_⟩⟩
              rw [refr_len, lR1] at hr2 ⊢
              have sL := (Same.upd (o := .tup [V.int (1 + (R.length : Int)), V.str hd, V.str lk, V.bl sh2, V.int (tick + time2)]) hr1).trans (Same.upd (o := .tup [V.ref pb, V.ref r1]) hr2)
              have gr1 : upd (upd HK r1 (.tup [V.int (1 + (R.length : Int)), V.str hd, V.str lk, V.bl sh2, V.int (tick + time2)])) r2 (.tup [V.ref pb, V.ref r1]) r1 = some (.tup [V.int (1 + (R.length : Int)), V.str hd, V.str lk, V.bl sh2, V.int (tick + time2)]) := Same.upd hr2 _ _ upd_same
              have gr2 : upd (upd HK r1 (.tup [V.int (1 + (R.length : Int)), V.str hd, V.str lk, V.bl sh2, V.int (tick + time2)])) r2 (.tup [V.ref pb, V.ref r1]) r2 = some (.tup [V.ref pb, V.ref r1]) := upd_same
              generalize upd (upd HK r1 (.tup [V.int (1 + (R.length : Int)), V.str hd, V.str lk, V.bl sh2, V.int (tick + time2)])) r2 (.tup [V.ref pb, V.ref r1]) = HL at sL gr1 gr2 ⊢
              have grL := sL _ _ grK
              have n1 : r1 ≠ pr := fun z => by rw [z, grL] at gr1; cases gr1
              have n2 : r2 ≠ pr := fun z => by rw [z, grL] at gr2; cases gr2
              have gbL := sL _ _ (bK _ _ gbJ nbr)
              refine ⟨_, _, _, rfl, rfl, grL, small1000 (by rw [refr_len]; omega), hMid _ _ ⟨pq, R1 ++ [(r2, pb, r1, B, ⟨1 + (R.length : Int), hd, lk, sh2, tick + time2⟩)], rfl, (hcK.mono sL).upd grL lpr npr9, by rw [upd_same]; simp [refr], fun y hy => ?_, by rw [List.length_append]; show _ + 1 ≤ 100; omega, noted_second noK _ _ _, ?_⟩⟩
              · rcases List.mem_append.mp hy with hy | hy
                · obtain ⟨t1, t2, t3⟩ := (hRK.mono sL) y hy
                  refine ⟨?_, ?_, ?_⟩
                  · rw [upd_ne (fun z => by rw [z, grL] at t1; cases t1)]; exact t1
                  · rw [upd_ne (nyK y hy)]; exact t2
                  · rw [upd_ne (fun z => by rw [z, grL] at t3; cases t3)]; exact t3
                · rw [List.mem_singleton.mp hy]
                  dsimp only
                  refine ⟨?_, ?_, ?_⟩
                  · rw [upd_ne n2]; exact gr2
                  · rw [upd_ne nbr]; exact gbL
                  · rw [upd_ne n1]; exact gr1
              · refine tup2_alike (i := 1 + (R.length : Int)) (p := pt) (p' := pb) (js := B) ?_ ?_ ?_ ?_ (by omega)
                · rw [upd_ne nf2]; exact sL _ _ (bK _ _ gtJ nf2)
                · rw [upd_ne nq]; exact sL _ _ (bK _ _ gq nq)
                · rw [upd_ne npt]; exact sL _ _ (bK _ _ gt2J npt)
                · rw [upd_ne nbr]; exact gbL
        · rintro σ HJ ⟨pe2, R2, rfl, hcJ, grJ, hRJ, lR2, noJ, alJ⟩
          walk_at "rd"
          refine ⟨_, _, rfl, alJ, fun HK sK => ⟨_, rfl, ?_⟩⟩
          rw [if_pos rfl]
          exact ⟨c, l, pr, ks, ls9, _, tick, R2, rfl, hcJ.mono sK, sK _ _ grJ, hRJ.mono sK, lR2, noJ, fun HL sL => q _⟩
end
theorem all_mk {l : PySem.W.OpenLaw} {w : World} {K : PySem.W.Frag} {h : Heap} {mg : Str → Option Value} {fa : Addr} (X : K.In h) (G : h.Ns mainGlobals mg) (hfa : mg "law" = some (.ref fa))
    {C_Council : Addr}
    {C_Down : Addr}
    {C_GateError : Addr}
    {C_InTheWay : Addr}
    {C_Keeper : Addr}
    {C_NotFree : Addr}
    {C_OldNumber : Addr}
    {C_UnknownKeeper : Addr}
    (y_b_ValueError : PySem.W.nsIn K mainGlobals "ValueError" = some none)
    (y_b_all : PySem.W.nsIn K mainGlobals "all" = some none)
    (y_b_bool : PySem.W.nsIn K mainGlobals "bool" = some none)
    (y_b_enumerate : PySem.W.nsIn K mainGlobals "enumerate" = some none)
    (y_b_int : PySem.W.nsIn K mainGlobals "int" = some none)
    (y_b_isinstance : PySem.W.nsIn K mainGlobals "isinstance" = some none)
    (y_b_len : PySem.W.nsIn K mainGlobals "len" = some none)
    (y_b_list : PySem.W.nsIn K mainGlobals "list" = some none)
    (y_b_max : PySem.W.nsIn K mainGlobals "max" = some none)
    (y_b_min : PySem.W.nsIn K mainGlobals "min" = some none)
    (y_b_range : PySem.W.nsIn K mainGlobals "range" = some none)
    (y_b_set : PySem.W.nsIn K mainGlobals "set" = some none)
    (y_b_sorted : PySem.W.nsIn K mainGlobals "sorted" = some none)
    (y_b_str : PySem.W.nsIn K mainGlobals "str" = some none)
    (y_b_tuple : PySem.W.nsIn K mainGlobals "tuple" = some none)
    (y_g_Council : PySem.W.nsIn K mainGlobals "Council" = some (some (.ref C_Council)))
    (y_g_Down : PySem.W.nsIn K mainGlobals "Down" = some (some (.ref C_Down)))
    (y_g_GateError : PySem.W.nsIn K mainGlobals "GateError" = some (some (.ref C_GateError)))
    (y_g_InTheWay : PySem.W.nsIn K mainGlobals "InTheWay" = some (some (.ref C_InTheWay)))
    (y_g_Keeper : PySem.W.nsIn K mainGlobals "Keeper" = some (some (.ref C_Keeper)))
    (y_g_NotFree : PySem.W.nsIn K mainGlobals "NotFree" = some (some (.ref C_NotFree)))
    (y_g_OldNumber : PySem.W.nsIn K mainGlobals "OldNumber" = some (some (.ref C_OldNumber)))
    (y_g_UnknownKeeper : PySem.W.nsIn K mainGlobals "UnknownKeeper" = some (some (.ref C_UnknownKeeper)))
    (y_pg_Council : PySem.W.plainGet K C_Council Str.empty = true)
    (y_hd_Council : PySem.W.hasDictIn K C_Council = true)
    (y_po_Council : PySem.W.plainOver K C_Council = true)
    (y_sa_Council : PySem.W.findIn K (.ref C_Council) "__setattr__" = some (some (.builtin "object.__setattr__")))
    (y_n_Council_keepers : PySem.W.findIn K (.ref C_Council) "keepers" = some none)
    (y_n_Council_most : PySem.W.findIn K (.ref C_Council) "most" = some none)
    (y_pg_Keeper : PySem.W.plainGet K C_Keeper Str.empty = true)
    (y_hd_Keeper : PySem.W.hasDictIn K C_Keeper = true)
    (y_po_Keeper : PySem.W.plainOver K C_Keeper = true)
    (y_sa_Keeper : PySem.W.findIn K (.ref C_Keeper) "__setattr__" = some (some (.builtin "object.__setattr__")))
    (y_n_Keeper_up : PySem.W.findIn K (.ref C_Keeper) "up" = some none)
    (y_n_Keeper_top : PySem.W.findIn K (.ref C_Keeper) "top" = some none)
    (y_n_Keeper_kept : PySem.W.findIn K (.ref C_Keeper) "kept" = some none)
    (y_x_Down : PySem.W.excIn K C_Down [.type "ValueError", .type "Exception", .type "BaseException", .type "object"] "ValueError.__new__" = true)
    (y_x_GateError : PySem.W.excIn K C_GateError [.type "ValueError", .type "Exception", .type "BaseException", .type "object"] "ValueError.__new__" = true)
    (y_x_InTheWay : PySem.W.excIn K C_InTheWay [.type "ValueError", .type "Exception", .type "BaseException", .type "object"] "ValueError.__new__" = true)
    (y_x_NotFree : PySem.W.excIn K C_NotFree [.type "ValueError", .type "Exception", .type "BaseException", .type "object"] "ValueError.__new__" = true)
    (y_x_OldNumber : PySem.W.excIn K C_OldNumber [.type "ValueError", .type "Exception", .type "BaseException", .type "object"] "ValueError.__new__" = true)
    (y_x_UnknownKeeper : PySem.W.excIn K C_UnknownKeeper [.type "ValueError", .type "Exception", .type "BaseException", .type "object"] "ValueError.__new__" = true)
    (y_sb_Down_GateError : PySem.W.subIn K (.ref C_Down) (.ref C_GateError) = some true)
    (y_sb_InTheWay_GateError : PySem.W.subIn K (.ref C_InTheWay) (.ref C_GateError) = some true)
    (y_sb_NotFree_GateError : PySem.W.subIn K (.ref C_NotFree) (.ref C_GateError) = some true)
    (y_sb_OldNumber_GateError : PySem.W.subIn K (.ref C_OldNumber) (.ref C_GateError) = some true)
    (y_sb_UnknownKeeper_GateError : PySem.W.subIn K (.ref C_UnknownKeeper) (.ref C_GateError) = some true)
    (y_ec1_NotFree : PySem.W.findIn K (.ref C_NotFree) "__getattribute__" = some (some (.builtin "BaseException.__getattribute__")))
    (y_ec2_NotFree : PySem.W.findIn K (.ref C_NotFree) "__getattr__" = some none)
    (y_ec3_NotFree : PySem.W.findIn K (.ref C_NotFree) "__class__" = some (some (.builtin "object.__class__")))
    (y_ec6_NotFree : PySem.W.mroIn K C_NotFree (.type "object") = some true)
    (y_ec7_NotFree : PySem.W.mroIn K C_NotFree (.type "BaseException") = some true)
    (y_sk_NotFree_NotFree : PySem.W.subIn K (.ref C_NotFree) (.ref C_NotFree) = some true)
    (y_sv_NotFree : PySem.W.subIn K (.ref C_NotFree) (.type "ValueError") = some true)
    (y_ti_NotFree : PySem.W.typeIn K (.ref C_NotFree) = some (.type "type"))
    (y_ec4 : PySem.W.specialIn K (.builtin "object.__class__") "__get__" = some (some (.builtin "getset_descriptor.__get__")))
    (y_ec5 : PySem.W.takesIn K (.builtin "object.__class__") = some true)
    {f0 : Addr} {od0 an0 : Option Addr} {sl0 : Array (Option Value)} {oc0 kV0 dc0 pm0 cd0 ct0 : Value}
    (a0 : PySem.W.nsIn K mainGlobals "within" = some (some (.ref f0)))
    (l0 : K.lookup f0 = some ⟨oc0, od0, .func (PySem.W.fnOf "within" "within" (defArgs s_within) (defBody s_within) (defScope s_within) .none kV0 dc0 pm0 an0 cd0 ct0), sl0⟩) (c0 : PySem.W.codeIn K cd0 "within" = true) (k0 : PySem.W.keepIn K (.ref f0) = true)
    {f1 : Addr} {od1 an1 : Option Addr} {sl1 : Array (Option Value)} {oc1 kV1 dc1 pm1 cd1 ct1 : Value}
    (a1 : PySem.W.nsIn K mainGlobals "on_line" = some (some (.ref f1)))
    (l1 : K.lookup f1 = some ⟨oc1, od1, .func (PySem.W.fnOf "on_line" "on_line" (defArgs s_on_line) (defBody s_on_line) (defScope s_on_line) .none kV1 dc1 pm1 an1 cd1 ct1), sl1⟩) (c1 : PySem.W.codeIn K cd1 "on_line" = true) (k1 : PySem.W.keepIn K (.ref f1) = true)
    {f2 : Addr} {od2 an2 : Option Addr} {sl2 : Array (Option Value)} {oc2 kV2 dc2 pm2 cd2 ct2 : Value}
    (a2 : PySem.W.nsIn K mainGlobals "in_way" = some (some (.ref f2)))
    (l2 : K.lookup f2 = some ⟨oc2, od2, .func (PySem.W.fnOf "in_way" "in_way" (defArgs s_in_way) (defBody s_in_way) (defScope s_in_way) .none kV2 dc2 pm2 an2 cd2 ct2), sl2⟩) (c2 : PySem.W.codeIn K cd2 "in_way" = true) (k2 : PySem.W.keepIn K (.ref f2) = true)
    {f3 : Addr} {od3 an3 : Option Addr} {sl3 : Array (Option Value)} {oc3 kV3 dc3 pm3 cd3 ct3 : Value}
    (a3 : PySem.W.findIn K (.ref C_Keeper) "__init__" = some (some (.ref f3))) (i3 : PySem.W.isFn K (.ref f3) = true)
    (l3 : K.lookup f3 = some ⟨oc3, od3, .func (PySem.W.fnOf "__init__" "Keeper.__init__" (defArgs s_Keeper___init__) (defBody s_Keeper___init__) (defScope s_Keeper___init__) .none kV3 dc3 pm3 an3 cd3 ct3), sl3⟩) (c3 : PySem.W.codeIn K cd3 "Keeper.__init__" = true) (k3 : PySem.W.keepIn K (.ref f3) = true)
    {f4 : Addr} {od4 an4 : Option Addr} {sl4 : Array (Option Value)} {oc4 kV4 dc4 pm4 cd4 ct4 : Value}
    (a4 : PySem.W.findIn K (.ref C_Keeper) "fall" = some (some (.ref f4))) (i4 : PySem.W.isFn K (.ref f4) = true)
    (l4 : K.lookup f4 = some ⟨oc4, od4, .func (PySem.W.fnOf "fall" "Keeper.fall" (defArgs s_Keeper_fall) (defBody s_Keeper_fall) (defScope s_Keeper_fall) .none kV4 dc4 pm4 an4 cd4 ct4), sl4⟩) (c4 : PySem.W.codeIn K cd4 "Keeper.fall" = true) (k4 : PySem.W.keepIn K (.ref f4) = true)
    {f5 : Addr} {od5 an5 : Option Addr} {sl5 : Array (Option Value)} {oc5 kV5 dc5 pm5 cd5 ct5 : Value}
    (a5 : PySem.W.findIn K (.ref C_Keeper) "rise" = some (some (.ref f5))) (i5 : PySem.W.isFn K (.ref f5) = true)
    (l5 : K.lookup f5 = some ⟨oc5, od5, .func (PySem.W.fnOf "rise" "Keeper.rise" (defArgs s_Keeper_rise) (defBody s_Keeper_rise) (defScope s_Keeper_rise) .none kV5 dc5 pm5 an5 cd5 ct5), sl5⟩) (c5 : PySem.W.codeIn K cd5 "Keeper.rise" = true) (k5 : PySem.W.keepIn K (.ref f5) = true)
    {f6 : Addr} {od6 an6 : Option Addr} {sl6 : Array (Option Value)} {oc6 kV6 dc6 pm6 cd6 ct6 : Value}
    (a6 : PySem.W.findIn K (.ref C_Keeper) "live" = some (some (.ref f6))) (i6 : PySem.W.isFn K (.ref f6) = true)
    (l6 : K.lookup f6 = some ⟨oc6, od6, .func (PySem.W.fnOf "live" "Keeper.live" (defArgs s_Keeper_live) (defBody s_Keeper_live) (defScope s_Keeper_live) .none kV6 dc6 pm6 an6 cd6 ct6), sl6⟩) (c6 : PySem.W.codeIn K cd6 "Keeper.live" = true) (k6 : PySem.W.keepIn K (.ref f6) = true)
    {f7 : Addr} {od7 an7 : Option Addr} {sl7 : Array (Option Value)} {oc7 kV7 dc7 pm7 cd7 ct7 : Value}
    (a7 : PySem.W.findIn K (.ref C_Keeper) "names_in_way" = some (some (.ref f7))) (i7 : PySem.W.isFn K (.ref f7) = true)
    (l7 : K.lookup f7 = some ⟨oc7, od7, .func (PySem.W.fnOf "names_in_way" "Keeper.names_in_way" (defArgs s_Keeper_names_in_way) (defBody s_Keeper_names_in_way) (defScope s_Keeper_names_in_way) .none kV7 dc7 pm7 an7 cd7 ct7), sl7⟩) (c7 : PySem.W.codeIn K cd7 "Keeper.names_in_way" = true) (k7 : PySem.W.keepIn K (.ref f7) = true)
    {f8 : Addr} {od8 an8 : Option Addr} {sl8 : Array (Option Value)} {oc8 kV8 dc8 pm8 cd8 ct8 : Value}
    (a8 : PySem.W.findIn K (.ref C_Keeper) "says_free" = some (some (.ref f8))) (i8 : PySem.W.isFn K (.ref f8) = true)
    (l8 : K.lookup f8 = some ⟨oc8, od8, .func (PySem.W.fnOf "says_free" "Keeper.says_free" (defArgs s_Keeper_says_free) (defBody s_Keeper_says_free) (defScope s_Keeper_says_free) .none kV8 dc8 pm8 an8 cd8 ct8), sl8⟩) (c8 : PySem.W.codeIn K cd8 "Keeper.says_free" = true) (k8 : PySem.W.keepIn K (.ref f8) = true)
    {f9 : Addr} {od9 an9 : Option Addr} {sl9 : Array (Option Value)} {oc9 kV9 dc9 pm9 cd9 ct9 : Value}
    (a9 : PySem.W.findIn K (.ref C_Keeper) "take" = some (some (.ref f9))) (i9 : PySem.W.isFn K (.ref f9) = true)
    (l9 : K.lookup f9 = some ⟨oc9, od9, .func (PySem.W.fnOf "take" "Keeper.take" (defArgs s_Keeper_take) (defBody s_Keeper_take) (defScope s_Keeper_take) .none kV9 dc9 pm9 an9 cd9 ct9), sl9⟩) (c9 : PySem.W.codeIn K cd9 "Keeper.take" = true) (k9 : PySem.W.keepIn K (.ref f9) = true)
    {f10 : Addr} {od10 an10 : Option Addr} {sl10 : Array (Option Value)} {oc10 kV10 dc10 pm10 cd10 ct10 : Value}
    (a10 : PySem.W.findIn K (.ref C_Council) "__init__" = some (some (.ref f10))) (i10 : PySem.W.isFn K (.ref f10) = true)
    (l10 : K.lookup f10 = some ⟨oc10, od10, .func (PySem.W.fnOf "__init__" "Council.__init__" (defArgs s_Council___init__) (defBody s_Council___init__) (defScope s_Council___init__) .none kV10 dc10 pm10 an10 cd10 ct10), sl10⟩) (c10 : PySem.W.codeIn K cd10 "Council.__init__" = true) (k10 : PySem.W.keepIn K (.ref f10) = true)
    {f11 : Addr} {od11 an11 : Option Addr} {sl11 : Array (Option Value)} {oc11 kV11 dc11 pm11 cd11 ct11 : Value}
    (a11 : PySem.W.findIn K (.ref C_Council) "keeper_at" = some (some (.ref f11))) (i11 : PySem.W.isFn K (.ref f11) = true)
    (l11 : K.lookup f11 = some ⟨oc11, od11, .func (PySem.W.fnOf "keeper_at" "Council.keeper_at" (defArgs s_Council_keeper_at) (defBody s_Council_keeper_at) (defScope s_Council_keeper_at) .none kV11 dc11 pm11 an11 cd11 ct11), sl11⟩) (c11 : PySem.W.codeIn K cd11 "Council.keeper_at" = true) (k11 : PySem.W.keepIn K (.ref f11) = true)
    {f12 : Addr} {od12 an12 : Option Addr} {sl12 : Array (Option Value)} {oc12 kV12 dc12 pm12 cd12 ct12 : Value}
    (a12 : PySem.W.findIn K (.ref C_Council) "up_keepers" = some (some (.ref f12))) (i12 : PySem.W.isFn K (.ref f12) = true)
    (l12 : K.lookup f12 = some ⟨oc12, od12, .func (PySem.W.fnOf "up_keepers" "Council.up_keepers" (defArgs s_Council_up_keepers) (defBody s_Council_up_keepers) (defScope s_Council_up_keepers) .none kV12 dc12 pm12 an12 cd12 ct12), sl12⟩) (c12 : PySem.W.codeIn K cd12 "Council.up_keepers" = true) (k12 : PySem.W.keepIn K (.ref f12) = true)
    {f13 : Addr} {od13 an13 : Option Addr} {sl13 : Array (Option Value)} {oc13 kV13 dc13 pm13 cd13 ct13 : Value}
    (a13 : PySem.W.findIn K (.ref C_Council) "fall" = some (some (.ref f13))) (i13 : PySem.W.isFn K (.ref f13) = true)
    (l13 : K.lookup f13 = some ⟨oc13, od13, .func (PySem.W.fnOf "fall" "Council.fall" (defArgs s_Council_fall) (defBody s_Council_fall) (defScope s_Council_fall) .none kV13 dc13 pm13 an13 cd13 ct13), sl13⟩) (c13 : PySem.W.codeIn K cd13 "Council.fall" = true) (k13 : PySem.W.keepIn K (.ref f13) = true)
    {f14 : Addr} {od14 an14 : Option Addr} {sl14 : Array (Option Value)} {oc14 kV14 dc14 pm14 cd14 ct14 : Value}
    (a14 : PySem.W.findIn K (.ref C_Council) "rise" = some (some (.ref f14))) (i14 : PySem.W.isFn K (.ref f14) = true)
    (l14 : K.lookup f14 = some ⟨oc14, od14, .func (PySem.W.fnOf "rise" "Council.rise" (defArgs s_Council_rise) (defBody s_Council_rise) (defScope s_Council_rise) .none kV14 dc14 pm14 an14 cd14 ct14), sl14⟩) (c14 : PySem.W.codeIn K cd14 "Council.rise" = true) (k14 : PySem.W.keepIn K (.ref f14) = true)
    {f15 : Addr} {od15 an15 : Option Addr} {sl15 : Array (Option Value)} {oc15 kV15 dc15 pm15 cd15 ct15 : Value}
    (a15 : PySem.W.findIn K (.ref C_Council) "notes" = some (some (.ref f15))) (i15 : PySem.W.isFn K (.ref f15) = true)
    (l15 : K.lookup f15 = some ⟨oc15, od15, .func (PySem.W.fnOf "notes" "Council.notes" (defArgs s_Council_notes) (defBody s_Council_notes) (defScope s_Council_notes) .none kV15 dc15 pm15 an15 cd15 ct15), sl15⟩) (c15 : PySem.W.codeIn K cd15 "Council.notes" = true) (k15 : PySem.W.keepIn K (.ref f15) = true)
    {f16 : Addr} {od16 an16 : Option Addr} {sl16 : Array (Option Value)} {oc16 kV16 dc16 pm16 cd16 ct16 : Value}
    (a16 : PySem.W.findIn K (.ref C_Council) "sayers" = some (some (.ref f16))) (i16 : PySem.W.isFn K (.ref f16) = true)
    (l16 : K.lookup f16 = some ⟨oc16, od16, .func (PySem.W.fnOf "sayers" "Council.sayers" (defArgs s_Council_sayers) (defBody s_Council_sayers) (defScope s_Council_sayers) .none kV16 dc16 pm16 an16 cd16 ct16), sl16⟩) (c16 : PySem.W.codeIn K cd16 "Council.sayers" = true) (k16 : PySem.W.keepIn K (.ref f16) = true)
    {f17 : Addr} {od17 an17 : Option Addr} {sl17 : Array (Option Value)} {oc17 kV17 dc17 pm17 cd17 ct17 : Value}
    (a17 : PySem.W.findIn K (.ref C_Council) "give" = some (some (.ref f17))) (i17 : PySem.W.isFn K (.ref f17) = true)
    (l17 : K.lookup f17 = some ⟨oc17, od17, .func (PySem.W.fnOf "give" "Council.give" (defArgs s_Council_give) (defBody s_Council_give) (defScope s_Council_give) .none kV17 dc17 pm17 an17 cd17 ct17), sl17⟩) (c17 : PySem.W.codeIn K cd17 "Council.give" = true) (k17 : PySem.W.keepIn K (.ref f17) = true)
    {f18 : Addr} {od18 an18 : Option Addr} {sl18 : Array (Option Value)} {oc18 kV18 dc18 pm18 cd18 ct18 : Value}
    (a18 : PySem.W.nsIn K mainGlobals "_law_at" = some (some (.ref f18)))
    (l18 : K.lookup f18 = some ⟨oc18, od18, .func (PySem.W.fnOf "_law_at" "_law_at" (defArgs s__law_at) (defBody s__law_at) (defScope s__law_at) .none kV18 dc18 pm18 an18 cd18 ct18), sl18⟩) (c18 : PySem.W.codeIn K cd18 "_law_at" = true) (k18 : PySem.W.keepIn K (.ref f18) = true)
    {f19 : Addr} {od19 an19 : Option Addr} {sl19 : Array (Option Value)} {oc19 kV19 dc19 pm19 cd19 ct19 : Value}
    (a19 : PySem.W.nsIn K mainGlobals "_law_same" = some (some (.ref f19)))
    (l19 : K.lookup f19 = some ⟨oc19, od19, .func (PySem.W.fnOf "_law_same" "_law_same" (defArgs s__law_same) (defBody s__law_same) (defScope s__law_same) .none kV19 dc19 pm19 an19 cd19 ct19), sl19⟩) (c19 : PySem.W.codeIn K cd19 "_law_same" = true) (k19 : PySem.W.keepIn K (.ref f19) = true)
    {f20 : Addr} {od20 an20 : Option Addr} {sl20 : Array (Option Value)} {oc20 kV20 dc20 pm20 cd20 ct20 : Value}
    (a20 : PySem.W.nsIn K mainGlobals "_law_name" = some (some (.ref f20)))
    (l20 : K.lookup f20 = some ⟨oc20, od20, .func (PySem.W.fnOf "_law_name" "_law_name" (defArgs s__law_name) (defBody s__law_name) (defScope s__law_name) .none kV20 dc20 pm20 an20 cd20 ct20), sl20⟩) (c20 : PySem.W.codeIn K cd20 "_law_name" = true) (k20 : PySem.W.keepIn K (.ref f20) = true)
    {f21 : Addr} {od21 an21 : Option Addr} {sl21 : Array (Option Value)} {oc21 kV21 dc21 pm21 cd21 ct21 : Value}
    (a21 : PySem.W.nsIn K mainGlobals "_law_names" = some (some (.ref f21)))
    (l21 : K.lookup f21 = some ⟨oc21, od21, .func (PySem.W.fnOf "_law_names" "_law_names" (defArgs s__law_names) (defBody s__law_names) (defScope s__law_names) .none kV21 dc21 pm21 an21 cd21 ct21), sl21⟩) (c21 : PySem.W.codeIn K cd21 "_law_names" = true) (k21 : PySem.W.keepIn K (.ref f21) = true)
    {f22 : Addr} {od22 an22 : Option Addr} {sl22 : Array (Option Value)} {oc22 kV22 dc22 pm22 cd22 ct22 : Value}
    (a22 : PySem.W.nsIn K mainGlobals "_law_line" = some (some (.ref f22)))
    (l22 : K.lookup f22 = some ⟨oc22, od22, .func (PySem.W.fnOf "_law_line" "_law_line" (defArgs s__law_line) (defBody s__law_line) (defScope s__law_line) .none kV22 dc22 pm22 an22 cd22 ct22), sl22⟩) (c22 : PySem.W.codeIn K cd22 "_law_line" = true) (k22 : PySem.W.keepIn K (.ref f22) = true)
    {f23 : Addr} {od23 an23 : Option Addr} {sl23 : Array (Option Value)} {oc23 kV23 dc23 pm23 cd23 ct23 : Value}
    (a23 : PySem.W.nsIn K mainGlobals "_law_way" = some (some (.ref f23)))
    (l23 : K.lookup f23 = some ⟨oc23, od23, .func (PySem.W.fnOf "_law_way" "_law_way" (defArgs s__law_way) (defBody s__law_way) (defScope s__law_way) .none kV23 dc23 pm23 an23 cd23 ct23), sl23⟩) (c23 : PySem.W.codeIn K cd23 "_law_way" = true) (k23 : PySem.W.keepIn K (.ref f23) = true)
    {f24 : Addr} {od24 an24 : Option Addr} {sl24 : Array (Option Value)} {oc24 kV24 dc24 pm24 cd24 ct24 : Value}
    (a24 : PySem.W.nsIn K mainGlobals "_law_given" = some (some (.ref f24)))
    (l24 : K.lookup f24 = some ⟨oc24, od24, .func (PySem.W.fnOf "_law_given" "_law_given" (defArgs s__law_given) (defBody s__law_given) (defScope s__law_given) .none kV24 dc24 pm24 an24 cd24 ct24), sl24⟩) (c24 : PySem.W.codeIn K cd24 "_law_given" = true) (k24 : PySem.W.keepIn K (.ref f24) = true)
    {f25 : Addr} {od25 an25 : Option Addr} {sl25 : Array (Option Value)} {oc25 kV25 dc25 pm25 cd25 ct25 : Value}
    (a25 : PySem.W.nsIn K mainGlobals "_law_stand" = some (some (.ref f25)))
    (l25 : K.lookup f25 = some ⟨oc25, od25, .func (PySem.W.fnOf "_law_stand" "_law_stand" (defArgs s__law_stand) (defBody s__law_stand) (defScope s__law_stand) .none kV25 dc25 pm25 an25 cd25 ct25), sl25⟩) (c25 : PySem.W.codeIn K cd25 "_law_stand" = true) (k25 : PySem.W.keepIn K (.ref f25) = true)
    {f26 : Addr} {od26 an26 : Option Addr} {sl26 : Array (Option Value)} {oc26 kV26 dc26 pm26 cd26 ct26 : Value}
    (a26 : PySem.W.nsIn K mainGlobals "_law_noted" = some (some (.ref f26)))
    (l26 : K.lookup f26 = some ⟨oc26, od26, .func (PySem.W.fnOf "_law_noted" "_law_noted" (defArgs s__law_noted) (defBody s__law_noted) (defScope s__law_noted) .none kV26 dc26 pm26 an26 cd26 ct26), sl26⟩) (c26 : PySem.W.codeIn K cd26 "_law_noted" = true) (k26 : PySem.W.keepIn K (.ref f26) = true)
    {f27 : Addr} {od27 an27 : Option Addr} {sl27 : Array (Option Value)} {oc27 kV27 dc27 pm27 cd27 ct27 : Value}
    (a27 : PySem.W.nsIn K mainGlobals "law" = some (some (.ref f27)))
    (l27 : K.lookup f27 = some ⟨oc27, od27, .func (PySem.W.fnOf "law" "law" (defArgs s_law) (defBody s_law) (defScope s_law) .none kV27 dc27 pm27 an27 cd27 ct27), sl27⟩) (c27 : PySem.W.codeIn K cd27 "law" = true) (k27 : PySem.W.keepIn K (.ref f27) = true)
    (mk_Council : PySem.W.makesIn K C_Council = true) (kc_Council : PySem.W.keepIn K (.ref C_Council) = true)
    (mk_Keeper : PySem.W.makesIn K C_Keeper = true) (kc_Keeper : PySem.W.keepIn K (.ref C_Keeper) = true)
    : ∃ fd : FuncData, (∀ (s : Shared) (v : Value), BindsTo s fd ⟨[v], []⟩ [("_law_script", v)]) ∧ ∀ base : Heap, K.In base → base.Ns mainGlobals mg → FnOk l.prog w K mg base CX0 9 fa fd ["_law_script"] (spLaw K) := by
  have e := hfa.symm.trans (PySem.W.mg_of X G a27)
  cases e
  have T : Txt K mg C_Council C_Down C_GateError C_InTheWay C_Keeper C_NotFree C_OldNumber C_UnknownKeeper := ⟨trivial, PySem.W.mg_none_of X G y_b_ValueError, PySem.W.mg_none_of X G y_b_all, PySem.W.mg_none_of X G y_b_bool, PySem.W.mg_none_of X G y_b_enumerate, PySem.W.mg_none_of X G y_b_int, PySem.W.mg_none_of X G y_b_isinstance, PySem.W.mg_none_of X G y_b_len, PySem.W.mg_none_of X G y_b_list, PySem.W.mg_none_of X G y_b_max, PySem.W.mg_none_of X G y_b_min, PySem.W.mg_none_of X G y_b_range, PySem.W.mg_none_of X G y_b_set, PySem.W.mg_none_of X G y_b_sorted, PySem.W.mg_none_of X G y_b_str, PySem.W.mg_none_of X G y_b_tuple, PySem.W.mg_of X G y_g_Council, PySem.W.mg_of X G y_g_Down, PySem.W.mg_of X G y_g_GateError, PySem.W.mg_of X G y_g_InTheWay, PySem.W.mg_of X G y_g_Keeper, PySem.W.mg_of X G y_g_NotFree, PySem.W.mg_of X G y_g_OldNumber, PySem.W.mg_of X G y_g_UnknownKeeper, y_pg_Council, y_hd_Council, y_po_Council, y_sa_Council, y_n_Council_keepers, y_n_Council_most, y_pg_Keeper, y_hd_Keeper, y_po_Keeper, y_sa_Keeper, y_n_Keeper_up, y_n_Keeper_top, y_n_Keeper_kept, y_x_Down, y_x_GateError, y_x_InTheWay, y_x_NotFree, y_x_OldNumber, y_x_UnknownKeeper, y_sb_Down_GateError, y_sb_InTheWay_GateError, y_sb_NotFree_GateError, y_sb_OldNumber_GateError, y_sb_UnknownKeeper_GateError, ⟨y_ec1_NotFree, y_ec2_NotFree, y_ec3_NotFree, y_ec4, y_ec5, y_ec6_NotFree, y_ec7_NotFree⟩, ko_self, (ko_ty y_sv_NotFree (by decide +kernel))⟩
  have F0 := fun_mk (st := s_within) l0 c0 k0
  have b0 := F0.binds (ps := ["inner", "outer"]) fun _ _ _ _ _ _ us hl => match us, hl with | [_, _], _ => rfl
  have D0 : Def K mg "within" s_within ["inner", "outer"] := ⟨_, _, F0, PySem.W.mg_of X G a0, b0⟩
  have F1 := fun_mk (st := s_on_line) l1 c1 k1
  have b1 := F1.binds (ps := ["one", "other"]) fun _ _ _ _ _ _ us hl => match us, hl with | [_, _], _ => rfl
  have D1 : Def K mg "on_line" s_on_line ["one", "other"] := ⟨_, _, F1, PySem.W.mg_of X G a1, b1⟩
  have F2 := fun_mk (st := s_in_way) l2 c2 k2
  have b2 := F2.binds (ps := ["lock", "shared", "other", "other_shared"]) fun _ _ _ _ _ _ us hl => match us, hl with | [_, _, _, _], _ => rfl
  have D2 : Def K mg "in_way" s_in_way ["lock", "shared", "other", "other_shared"] := ⟨_, _, F2, PySem.W.mg_of X G a2, b2⟩
  have F3 := fun_mk (st := s_Keeper___init__) l3 c3 k3
  have b3 := F3.binds (ps := ["self"]) fun _ _ _ _ _ _ us hl => match us, hl with | [_], _ => rfl
  have D3 : KDef K C_Keeper "Keeper.__init__" s_Keeper___init__ ["self"] := ⟨_, _, F3, ⟨mk_Keeper, a3, i3, kc_Keeper⟩, b3⟩
  have F4 := fun_mk (st := s_Keeper_fall) l4 c4 k4
  have b4 := F4.binds (ps := ["self"]) fun _ _ _ _ _ _ us hl => match us, hl with | [_], _ => rfl
  have D4 : MDef K C_Keeper "fall" "Keeper.fall" s_Keeper_fall ["self"] := ⟨_, _, F4, ⟨a4, i4, k4⟩, b4⟩
  have F5 := fun_mk (st := s_Keeper_rise) l5 c5 k5
  have b5 := F5.binds (ps := ["self"]) fun _ _ _ _ _ _ us hl => match us, hl with | [_], _ => rfl
  have D5 : MDef K C_Keeper "rise" "Keeper.rise" s_Keeper_rise ["self"] := ⟨_, _, F5, ⟨a5, i5, k5⟩, b5⟩
  have F6 := fun_mk (st := s_Keeper_live) l6 c6 k6
  have b6 := F6.binds (ps := ["self", "tick"]) fun _ _ _ _ _ _ us hl => match us, hl with | [_, _], _ => rfl
  have D6 : MDef K C_Keeper "live" "Keeper.live" s_Keeper_live ["self", "tick"] := ⟨_, _, F6, ⟨a6, i6, k6⟩, b6⟩
  have F7 := fun_mk (st := s_Keeper_names_in_way) l7 c7 k7
  have b7 := F7.binds (ps := ["self", "holder", "lock", "shared", "tick"]) fun _ _ _ _ _ _ us hl => match us, hl with | [_, _, _, _, _], _ => rfl
  have D7 : MDef K C_Keeper "names_in_way" "Keeper.names_in_way" s_Keeper_names_in_way ["self", "holder", "lock", "shared", "tick"] := ⟨_, _, F7, ⟨a7, i7, k7⟩, b7⟩
  have F8 := fun_mk (st := s_Keeper_says_free) l8 c8 k8
  have b8 := F8.binds (ps := ["self", "holder", "lock", "shared", "tick"]) fun _ _ _ _ _ _ us hl => match us, hl with | [_, _, _, _, _], _ => rfl
  have D8 : MDef K C_Keeper "says_free" "Keeper.says_free" s_Keeper_says_free ["self", "holder", "lock", "shared", "tick"] := ⟨_, _, F8, ⟨a8, i8, k8⟩, b8⟩
  have F9 := fun_mk (st := s_Keeper_take) l9 c9 k9
  have b9 := F9.binds (ps := ["self", "number", "holder", "lock", "shared", "tick", "time"]) fun _ _ _ _ _ _ us hl => match us, hl with | [_, _, _, _, _, _, _], _ => rfl
  have D9 : MDef K C_Keeper "take" "Keeper.take" s_Keeper_take ["self", "number", "holder", "lock", "shared", "tick", "time"] := ⟨_, _, F9, ⟨a9, i9, k9⟩, b9⟩
  have F10 := fun_mk (st := s_Council___init__) l10 c10 k10
  have b10 := F10.binds (ps := ["self", "many"]) fun _ _ _ _ _ _ us hl => match us, hl with | [_, _], _ => rfl
  have D10 : KDef K C_Council "Council.__init__" s_Council___init__ ["self", "many"] := ⟨_, _, F10, ⟨mk_Council, a10, i10, kc_Council⟩, b10⟩
  have F11 := fun_mk (st := s_Council_keeper_at) l11 c11 k11
  have b11 := F11.binds (ps := ["self", "place"]) fun _ _ _ _ _ _ us hl => match us, hl with | [_, _], _ => rfl
  have D11 : MDef K C_Council "keeper_at" "Council.keeper_at" s_Council_keeper_at ["self", "place"] := ⟨_, _, F11, ⟨a11, i11, k11⟩, b11⟩
  have F12 := fun_mk (st := s_Council_up_keepers) l12 c12 k12
  have b12 := F12.binds (ps := ["self"]) fun _ _ _ _ _ _ us hl => match us, hl with | [_], _ => rfl
  have D12 : MDef K C_Council "up_keepers" "Council.up_keepers" s_Council_up_keepers ["self"] := ⟨_, _, F12, ⟨a12, i12, k12⟩, b12⟩
  have F13 := fun_mk (st := s_Council_fall) l13 c13 k13
  have b13 := F13.binds (ps := ["self", "keeper"]) fun _ _ _ _ _ _ us hl => match us, hl with | [_, _], _ => rfl
  have D13 : MDef K C_Council "fall" "Council.fall" s_Council_fall ["self", "keeper"] := ⟨_, _, F13, ⟨a13, i13, k13⟩, b13⟩
  have F14 := fun_mk (st := s_Council_rise) l14 c14 k14
  have b14 := F14.binds (ps := ["self", "keeper"]) fun _ _ _ _ _ _ us hl => match us, hl with | [_, _], _ => rfl
  have D14 : MDef K C_Council "rise" "Council.rise" s_Council_rise ["self", "keeper"] := ⟨_, _, F14, ⟨a14, i14, k14⟩, b14⟩
  have F15 := fun_mk (st := s_Council_notes) l15 c15 k15
  have b15 := F15.binds (ps := ["self", "keeper", "tick"]) fun _ _ _ _ _ _ us hl => match us, hl with | [_, _, _], _ => rfl
  have D15 : MDef K C_Council "notes" "Council.notes" s_Council_notes ["self", "keeper", "tick"] := ⟨_, _, F15, ⟨a15, i15, k15⟩, b15⟩
  have F16 := fun_mk (st := s_Council_sayers) l16 c16 k16
  have b16 := F16.binds (ps := ["self", "holder", "lock", "shared", "tick"]) fun _ _ _ _ _ _ us hl => match us, hl with | [_, _, _, _, _], _ => rfl
  have D16 : MDef K C_Council "sayers" "Council.sayers" s_Council_sayers ["self", "holder", "lock", "shared", "tick"] := ⟨_, _, F16, ⟨a16, i16, k16⟩, b16⟩
  have F17 := fun_mk (st := s_Council_give) l17 c17 k17
  have b17 := F17.binds (ps := ["self", "holder", "lock", "shared", "tick", "time"]) fun _ _ _ _ _ _ us hl => match us, hl with | [_, _, _, _, _, _], _ => rfl
  have D17 : MDef K C_Council "give" "Council.give" s_Council_give ["self", "holder", "lock", "shared", "tick", "time"] := ⟨_, _, F17, ⟨a17, i17, k17⟩, b17⟩
  have F18 := fun_mk (st := s__law_at) l18 c18 k18
  have b18 := F18.binds (ps := ["_law_script", "_law_k"]) fun _ _ _ _ _ _ us hl => match us, hl with | [_, _], _ => rfl
  have D18 : Def K mg "_law_at" s__law_at ["_law_script", "_law_k"] := ⟨_, _, F18, PySem.W.mg_of X G a18, b18⟩
  have F19 := fun_mk (st := s__law_same) l19 c19 k19
  have b19 := F19.binds (ps := ["_law_found", "_law_due"]) fun _ _ _ _ _ _ us hl => match us, hl with | [_, _], _ => rfl
  have D19 : Def K mg "_law_same" s__law_same ["_law_found", "_law_due"] := ⟨_, _, F19, PySem.W.mg_of X G a19, b19⟩
  have F20 := fun_mk (st := s__law_name) l20 c20 k20
  have b20 := F20.binds (ps := ["_law_cell", "_law_k"]) fun _ _ _ _ _ _ us hl => match us, hl with | [_, _], _ => rfl
  have D20 : Def K mg "_law_name" s__law_name ["_law_cell", "_law_k"] := ⟨_, _, F20, PySem.W.mg_of X G a20, b20⟩
  have F21 := fun_mk (st := s__law_names) l21 c21 k21
  have b21 := F21.binds (ps := ["_law_cell", "_law_many"]) fun _ _ _ _ _ _ us hl => match us, hl with | [_, _], _ => rfl
  have D21 : Def K mg "_law_names" s__law_names ["_law_cell", "_law_many"] := ⟨_, _, F21, PySem.W.mg_of X G a21, b21⟩
  have F22 := fun_mk (st := s__law_line) l22 c22 k22
  have b22 := F22.binds (ps := ["_law_one", "_law_other"]) fun _ _ _ _ _ _ us hl => match us, hl with | [_, _], _ => rfl
  have D22 : Def K mg "_law_line" s__law_line ["_law_one", "_law_other"] := ⟨_, _, F22, PySem.W.mg_of X G a22, b22⟩
  have F23 := fun_mk (st := s__law_way) l23 c23 k23
  have b23 := F23.binds (ps := ["_law_lock", "_law_shared", "_law_other", "_law_other_shared"]) fun _ _ _ _ _ _ us hl => match us, hl with | [_, _, _, _], _ => rfl
  have D23 : Def K mg "_law_way" s__law_way ["_law_lock", "_law_shared", "_law_other", "_law_other_shared"] := ⟨_, _, F23, PySem.W.mg_of X G a23, b23⟩
  have F24 := fun_mk (st := s__law_given) l24 c24 k24
  have b24 := F24.binds (ps := ["_law_council", "_law_asking", "_law_tick"]) fun _ _ _ _ _ _ us hl => match us, hl with | [_, _, _], _ => rfl
  have D24 : Def K mg "_law_given" s__law_given ["_law_council", "_law_asking", "_law_tick"] := ⟨_, _, F24, PySem.W.mg_of X G a24, b24⟩
  have F25 := fun_mk (st := s__law_stand) l25 c25 k25
  have b25 := F25.binds (ps := ["_law_council", "_law_keepers", "_law_cell"]) fun _ _ _ _ _ _ us hl => match us, hl with | [_, _, _], _ => rfl
  have D25 : Def K mg "_law_stand" s__law_stand ["_law_council", "_law_keepers", "_law_cell"] := ⟨_, _, F25, PySem.W.mg_of X G a25, b25⟩
  have F26 := fun_mk (st := s__law_noted) l26 c26 k26
  have b26 := F26.binds (ps := ["_law_council", "_law_keepers", "_law_tick", "_law_rows"]) fun _ _ _ _ _ _ us hl => match us, hl with | [_, _, _, _], _ => rfl
  have D26 : Def K mg "_law_noted" s__law_noted ["_law_council", "_law_keepers", "_law_tick", "_law_rows"] := ⟨_, _, F26, PySem.W.mg_of X G a26, b26⟩
  have F27 := fun_mk (st := s_law) l27 c27 k27
  have b27 := F27.binds (ps := ["_law_script"]) fun _ _ _ _ _ _ us hl => match us, hl with | [_], _ => rfl
  have D27 : Def K mg "law" s_law ["_law_script"] := ⟨_, _, F27, PySem.W.mg_of X G a27, b27⟩
  refine ⟨PySem.W.fnOf "law" "law" (defArgs s_law) (defBody s_law) (defScope s_law) .none kV27 dc27 pm27 an27 cd27 ct27, fun s v => .of_eq rfl, fun base _ _ => ?_⟩
  have G_within := ok_within (P := l.prog) (w := w) (base := base) D0 T
  have G_on_line := ok_on_line (P := l.prog) (w := w) (base := base) D1 T G_within
  have G_in_way := ok_in_way (P := l.prog) (w := w) (base := base) D2 T G_on_line
  have G_Keeper___init__ := ok_Keeper___init__ (P := l.prog) (w := w) (base := base) D3 T
  have G_Keeper_fall := ok_Keeper_fall (P := l.prog) (w := w) (base := base) D4 T
  have G_Keeper_rise := ok_Keeper_rise (P := l.prog) (w := w) (base := base) D5 T
  have G_Keeper_live := ok_Keeper_live (P := l.prog) (w := w) (base := base) D6 T
  have G_Keeper_names_in_way := ok_Keeper_names_in_way (P := l.prog) (w := w) (base := base) D7 T G_in_way G_Keeper_live
  have G_Keeper_says_free := ok_Keeper_says_free (P := l.prog) (w := w) (base := base) D8 T G_Keeper_names_in_way
  have G_Keeper_take := ok_Keeper_take (P := l.prog) (w := w) (base := base) D9 T G_Keeper_says_free
  have G_Council___init__ := ok_Council___init__ (P := l.prog) (w := w) (base := base) D10 T G_Keeper___init__
  have G_Council_keeper_at := ok_Council_keeper_at (P := l.prog) (w := w) (base := base) D11 T
  have G_Council_up_keepers := ok_Council_up_keepers (P := l.prog) (w := w) (base := base) D12 T
  have G_Council_fall := ok_Council_fall (P := l.prog) (w := w) (base := base) D13 T G_Keeper_fall G_Council_keeper_at
  have G_Council_rise := ok_Council_rise (P := l.prog) (w := w) (base := base) D14 T G_Keeper_rise G_Council_keeper_at
  have G_Council_notes := ok_Council_notes (P := l.prog) (w := w) (base := base) D15 T G_Keeper_live G_Council_keeper_at
  have G_Council_sayers := ok_Council_sayers (P := l.prog) (w := w) (base := base) D16 T G_Keeper_says_free G_Council_up_keepers
  have G_Council_give := ok_Council_give (P := l.prog) (w := w) (base := base) D17 T G_Keeper_take G_Council_keeper_at G_Council_up_keepers G_Council_sayers
  have G__law_at := ok__law_at (P := l.prog) (w := w) (base := base) D18 T
  have G_same0 := ok_same0 (P := l.prog) (w := w) (base := base) D19 T (has_never D19)
  have G_same1 := ok_same1 (P := l.prog) (w := w) (base := base) D19 T G_same0
  have G_same2 := ok_same2 (P := l.prog) (w := w) (base := base) D19 T G_same1
  have G_same3 := ok_same3 (P := l.prog) (w := w) (base := base) D19 T G_same2
  have G__law_same : Has l.prog w K mg base 4 "_law_same" ["_law_found", "_law_due"] (spSameD 3) := G_same3
  have G__law_name := ok__law_name (P := l.prog) (w := w) (base := base) D20 T
  have G__law_names := ok__law_names (P := l.prog) (w := w) (base := base) D21 T G__law_name
  have G__law_line := ok__law_line (P := l.prog) (w := w) (base := base) D22 T
  have G__law_way := ok__law_way (P := l.prog) (w := w) (base := base) D23 T G__law_line
  have G__law_given := ok__law_given (P := l.prog) (w := w) (base := base) D24 T G_Council_give
  have G__law_stand := ok__law_stand (P := l.prog) (w := w) (base := base) D25 T G_Council_fall G_Council_rise
  have G__law_noted := ok__law_noted (P := l.prog) (w := w) (base := base) D26 T G_Council_notes G__law_same
  have G_law := ok_law (P := l.prog) (w := w) (base := base) D27 T G_Council___init__ G__law_at G__law_same G__law_names G__law_way G__law_given G__law_stand G__law_noted
  exact Has.at G_law (PySem.W.mg_of X G a27) F27
end Fg
open PySem PySem.W PyProof.Rows
set_option maxRecDepth 100000 in
set_option maxHeartbeats 0 in
theorem PySem.Challenge.cw_fencegate_k10_council_second_holds : PySem.Challenge.rw_fencegate_k10_council_second.Holds := by
  w_on; o_law
  refine holds_open (r := PySem.Challenge.rw_fencegate_k10_council_second.row) (q := Fg.vw) (loose := []) (XP := XL Fg.vw []) (YP := (kHook Fg.kk Fg.ka Fg.ka_eq).says) (N := 6002)
    Fg.left_ok (kHook Fg.kk Fg.ka Fg.ka_eq).of (kHook Fg.kk Fg.ka Fg.ka_eq).keeps (fun s e => xl_of s (Bool.and_eq_true_iff.mp e).1) XL.keeps
    (by rfl) (by rfl) (by rfl) (fun s e => recFacts_of (Bool.and_eq_true_iff.mp e).2) (by rfl) (by assumption) (by decide +kernel)
    ⟨rfl, rfl, rfl, rfl, rfl, by decide +kernel⟩ ?hw ?hc
  (case hw => w_witness2)
  k_fill
  refine L2.walk_ofK (l := PySem.Challenge.rw_fencegate_k10_council_second) (n := 63) (k := 9) (x := "_law_script") (CX := L2.CX0) (sp := fun K => Fg.spLaw K) rfl (by decide) rfl ⟨rfl, by decide, by decide⟩ (fun w h Y => PySem.W.kIn_of Y) ?F (fun K H a ns hl hO hS => ⟨a, ns, rfl, hS, hl, fun _ => rfl⟩) (fun _ _ _ _ z => z)
  case F =>
    intro w mg fa h KX G hmg
    refine' Fg.all_mk KX G hmg ?y_b_ValueError ?y_b_all ?y_b_bool ?y_b_enumerate ?y_b_int ?y_b_isinstance ?y_b_len ?y_b_list ?y_b_max ?y_b_min ?y_b_range ?y_b_set ?y_b_sorted ?y_b_str ?y_b_tuple ?y_g_Council ?y_g_Down ?y_g_GateError ?y_g_InTheWay ?y_g_Keeper ?y_g_NotFree ?y_g_OldNumber ?y_g_UnknownKeeper ?y_pg_Council ?y_hd_Council ?y_po_Council ?y_sa_Council ?y_n_Council_keepers ?y_n_Council_most ?y_pg_Keeper ?y_hd_Keeper ?y_po_Keeper ?y_sa_Keeper ?y_n_Keeper_up ?y_n_Keeper_top ?y_n_Keeper_kept ?y_x_Down ?y_x_GateError ?y_x_InTheWay ?y_x_NotFree ?y_x_OldNumber ?y_x_UnknownKeeper ?y_sb_Down_GateError ?y_sb_InTheWay_GateError ?y_sb_NotFree_GateError ?y_sb_OldNumber_GateError ?y_sb_UnknownKeeper_GateError ?y_ec1_NotFree ?y_ec2_NotFree ?y_ec3_NotFree ?y_ec6_NotFree ?y_ec7_NotFree ?y_sk_NotFree_NotFree ?y_sv_NotFree ?y_ti_NotFree ?y_ec4 ?y_ec5 ?a0 ?l0 ?c0 ?k0 ?a1 ?l1 ?c1 ?k1 ?a2 ?l2 ?c2 ?k2 ?a3 ?i3 ?l3 ?c3 ?k3 ?a4 ?i4 ?l4 ?c4 ?k4 ?a5 ?i5 ?l5 ?c5 ?k5 ?a6 ?i6 ?l6 ?c6 ?k6 ?a7 ?i7 ?l7 ?c7 ?k7 ?a8 ?i8 ?l8 ?c8 ?k8 ?a9 ?i9 ?l9 ?c9 ?k9 ?a10 ?i10 ?l10 ?c10 ?k10 ?a11 ?i11 ?l11 ?c11 ?k11 ?a12 ?i12 ?l12 ?c12 ?k12 ?a13 ?i13 ?l13 ?c13 ?k13 ?a14 ?i14 ?l14 ?c14 ?k14 ?a15 ?i15 ?l15 ?c15 ?k15 ?a16 ?i16 ?l16 ?c16 ?k16 ?a17 ?i17 ?l17 ?c17 ?k17 ?a18 ?l18 ?c18 ?k18 ?a19 ?l19 ?c19 ?k19 ?a20 ?l20 ?c20 ?k20 ?a21 ?l21 ?c21 ?k21 ?a22 ?l22 ?c22 ?k22 ?a23 ?l23 ?c23 ?k23 ?a24 ?l24 ?c24 ?k24 ?a25 ?l25 ?c25 ?k25 ?a26 ?l26 ?c26 ?k26 ?a27 ?l27 ?c27 ?k27 ?mk_Council ?kc_Council ?mk_Keeper ?kc_Keeper
    (case y_b_ValueError => k_is)
    (case y_b_all => k_is)
    (case y_b_bool => k_is)
    (case y_b_enumerate => k_is)
    (case y_b_int => k_is)
    (case y_b_isinstance => k_is)
    (case y_b_len => k_is)
    (case y_b_list => k_is)
    (case y_b_max => k_is)
    (case y_b_min => k_is)
    (case y_b_range => k_is)
    (case y_b_set => k_is)
    (case y_b_sorted => k_is)
    (case y_b_str => k_is)
    (case y_b_tuple => k_is)
    (case y_g_Council => k_is)
    (case y_g_Down => k_is)
    (case y_g_GateError => k_is)
    (case y_g_InTheWay => k_is)
    (case y_g_Keeper => k_is)
    (case y_g_NotFree => k_is)
    (case y_g_OldNumber => k_is)
    (case y_g_UnknownKeeper => k_is)
    (case y_pg_Council => k_is)
    (case y_hd_Council => k_is)
    (case y_po_Council => k_is)
    (case y_sa_Council => k_is)
    (case y_n_Council_keepers => k_is)
    (case y_n_Council_most => k_is)
    (case y_pg_Keeper => k_is)
    (case y_hd_Keeper => k_is)
    (case y_po_Keeper => k_is)
    (case y_sa_Keeper => k_is)
    (case y_n_Keeper_up => k_is)
    (case y_n_Keeper_top => k_is)
    (case y_n_Keeper_kept => k_is)
    (case y_x_Down => k_exc)
    (case y_x_GateError => k_exc)
    (case y_x_InTheWay => k_exc)
    (case y_x_NotFree => k_exc)
    (case y_x_OldNumber => k_exc)
    (case y_x_UnknownKeeper => k_exc)
    (case y_sb_Down_GateError => k_is)
    (case y_sb_InTheWay_GateError => k_is)
    (case y_sb_NotFree_GateError => k_is)
    (case y_sb_OldNumber_GateError => k_is)
    (case y_sb_UnknownKeeper_GateError => k_is)
    (case y_ec1_NotFree => k_is)
    (case y_ec2_NotFree => k_is)
    (case y_ec3_NotFree => k_is)
    (case y_ec6_NotFree => k_is)
    (case y_ec7_NotFree => k_is)
    (case y_sk_NotFree_NotFree => k_is)
    (case y_sv_NotFree => k_is)
    (case y_ti_NotFree => k_is)
    (case y_ec4 => k_is)
    (case y_ec5 => k_is)
    (case a0 => k_is)
    (case l0 => k_is)
    (case c0 => k_is)
    (case k0 => k_is)
    (case a1 => k_is)
    (case l1 => k_is)
    (case c1 => k_is)
    (case k1 => k_is)
    (case a2 => k_is)
    (case l2 => k_is)
    (case c2 => k_is)
    (case k2 => k_is)
    (case a3 => k_is)
    (case i3 => k_is)
    (case l3 => k_is)
    (case c3 => k_is)
    (case k3 => k_is)
    (case a4 => k_is)
    (case i4 => k_is)
    (case l4 => k_is)
    (case c4 => k_is)
    (case k4 => k_is)
    (case a5 => k_is)
    (case i5 => k_is)
    (case l5 => k_is)
    (case c5 => k_is)
    (case k5 => k_is)
    (case a6 => k_is)
    (case i6 => k_is)
    (case l6 => k_is)
    (case c6 => k_is)
    (case k6 => k_is)
    (case a7 => k_is)
    (case i7 => k_is)
    (case l7 => k_is)
    (case c7 => k_is)
    (case k7 => k_is)
    (case a8 => k_is)
    (case i8 => k_is)
    (case l8 => k_is)
    (case c8 => k_is)
    (case k8 => k_is)
    (case a9 => k_is)
    (case i9 => k_is)
    (case l9 => k_is)
    (case c9 => k_is)
    (case k9 => k_is)
    (case a10 => k_is)
    (case i10 => k_is)
    (case l10 => k_is)
    (case c10 => k_is)
    (case k10 => k_is)
    (case a11 => k_is)
    (case i11 => k_is)
    (case l11 => k_is)
    (case c11 => k_is)
    (case k11 => k_is)
    (case a12 => k_is)
    (case i12 => k_is)
    (case l12 => k_is)
    (case c12 => k_is)
    (case k12 => k_is)
    (case a13 => k_is)
    (case i13 => k_is)
    (case l13 => k_is)
    (case c13 => k_is)
    (case k13 => k_is)
    (case a14 => k_is)
    (case i14 => k_is)
    (case l14 => k_is)
    (case c14 => k_is)
    (case k14 => k_is)
    (case a15 => k_is)
    (case i15 => k_is)
    (case l15 => k_is)
    (case c15 => k_is)
    (case k15 => k_is)
    (case a16 => k_is)
    (case i16 => k_is)
    (case l16 => k_is)
    (case c16 => k_is)
    (case k16 => k_is)
    (case a17 => k_is)
    (case i17 => k_is)
    (case l17 => k_is)
    (case c17 => k_is)
    (case k17 => k_is)
    (case a18 => k_is)
    (case l18 => k_is)
    (case c18 => k_is)
    (case k18 => k_is)
    (case a19 => k_is)
    (case l19 => k_is)
    (case c19 => k_is)
    (case k19 => k_is)
    (case a20 => k_is)
    (case l20 => k_is)
    (case c20 => k_is)
    (case k20 => k_is)
    (case a21 => k_is)
    (case l21 => k_is)
    (case c21 => k_is)
    (case k21 => k_is)
    (case a22 => k_is)
    (case l22 => k_is)
    (case c22 => k_is)
    (case k22 => k_is)
    (case a23 => k_is)
    (case l23 => k_is)
    (case c23 => k_is)
    (case k23 => k_is)
    (case a24 => k_is)
    (case l24 => k_is)
    (case c24 => k_is)
    (case k24 => k_is)
    (case a25 => k_is)
    (case l25 => k_is)
    (case c25 => k_is)
    (case k25 => k_is)
    (case a26 => k_is)
    (case l26 => k_is)
    (case c26 => k_is)
    (case k26 => k_is)
    (case a27 => k_is)
    (case l27 => k_is)
    (case c27 => k_is)
    (case k27 => k_is)
    (case mk_Council => k_is)
    (case kc_Council => k_is)
    (case mk_Keeper => k_is)
    (case kc_Keeper => k_is)
