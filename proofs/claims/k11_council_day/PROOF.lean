import PyProof.Rows.All
import Wide.All
import OpenK.KLine
import OpenK.KOwn
import OpenK.KRaise
import OpenK.KDescr
import OpenK.KCall
import OpenK.KCls
import OpenK.KMake
import OpenK.KMore
import OpenK.Peek
import KE.KFromBytes
import KE.KIsAll
import KE.KItem
import KE.KxBytes
import Wide.FinOn
import PyProof.EqAt
import PyProof.EqKinds
import PyProof.NeKinds
import PyProof.TupleCall
import PyProof.ExcBaseAll.ValueError
import PyProof.NsDelKeeps
import Lean
import KE.KNestM
import KE.KLam
import KE.KSortKey
import PySem.Challenge.RW_fencegate_k11_council_day
set_option Elab.async false
set_option linter.all false
set_option maxRecDepth 100000
set_option maxHeartbeats 4000000
section
namespace Fg
open PySem
def ktop (i : Nat) : Stmt := PySem.Challenge.pw_fencegate_k11_council_day.main.body.getD i (.Pass ⟨0, 0, 0, 0⟩)
def zk3 (s : Stmt) : Arguments := match s with
 | .FunctionDef _ a _ _ _ _ _ _ _ _ => a
 | _ => { posonlyargs := [], args := [], vararg := none, kwonlyargs := [], kw_defaults := [], kwarg := none, defaults := [] }
def zk4 (s : Stmt) : List Stmt := match s with
 | .FunctionDef _ _ b _ _ _ _ _ _ _ => b
 | _ => []
def zj6 (s : Stmt) : Scope := match s with
 | .FunctionDef _ _ _ _ _ _ sc _ _ _ => sc
 | _ => { kind := .function, names := [], isGenerator := false, isCoroutine := false }
def kcls (s : Stmt) (j : Nat) : Stmt := match s with
 | .ClassDef _ _ _ body _ _ _ _ _ _ _ => body.getD j (.Pass ⟨0, 0, 0, 0⟩)
 | _ => .Pass ⟨0, 0, 0, 0⟩
def kS (x : String) (n : Nat) : Value := .str (Str.ofString x) n
def kE (P : Params) (x : String) (n : Nat) (v : Value) : DictEntry := ⟨PyData.keyHash P (Str.ofString x), kS x n, v⟩
def kC (vs : Array Value) : Obj := { cls := .type "code", data := .fields vs }
def kF (n q : String) (s : Stmt) (m : Value) (c : Addr) : Obj := { cls := .type "function", data := .func { name := Str.ofString n, qualname := Str.ofString q, params := zk3 s, body := .stmts (zk4 s), scope := zj6 s, globals := 3, closure := [], defaults := .none, kwdefaults := .none, pyModule := m, code := .ref c } }
def kk : Params → PySem.W.Frag := fun P => (nat_lit 2, { cls := .none, data := Data.dict #[] }) ::
 (nat_lit 3, { cls := .type "dict", data := Data.dict #[kE P "__name__" 165 (kS "law_fencegate_k11_council_day" 578), kE P "__doc__" 166 (.none), kE P "__package__" 167 (.none), kE P "__loader__" 168 (.builtin "__main__.__loader__#opaque"), kE P "__spec__" 169 (.none), kE P "__annotations__" 170 (.ref 6), kE P "__builtins__" 171 (.ref 4), kE P "__file__" 173 (kS "/claim/cut.py" 172), kE P "__cached__" 174 (.none), kE P "_wall" 193 (.ref 21), kE P "GateError" 220 (.ref 38), kE P "UnknownKeeper" 243 (.ref 58), kE P "Down" 266 (.ref 77), kE P "OldNumber" 289 (.ref 96), kE P "InTheWay" 312 (.ref 115), kE P "NotFree" 335 (.ref 134), kE P "within" 346 (.ref 143), kE P "on_line" 354 (.ref 150), kE P "in_way" 364 (.ref 157), kE P "Keeper" 445 (.ref 215), kE P "Council" 577 (.ref 310), kE P "_law_at" 587 (.ref 321), kE P "_law_same" 593 (.ref 326), kE P "_law_name" 608 (.ref 333), kE P "_law_names" 614 (.ref 338), kE P "_law_locks" 628 (.ref 345), kE P "_law_some" 639 (.ref 352), kE P "_law_setup" 651 (.ref 359), kE P "_law_asked" 663 (.ref 366), kE P "_law_line" 674 (.ref 373), kE P "_law_way" 684 (.ref 380), kE P "_law_new" 691 (.ref 387), kE P "_law_naming" 702 (.ref 394), kE P "_law_ups" 708 (.ref 399), kE P "_law_sayers" 714 (.ref 404), kE P "_law_free" 722 (.ref 411), kE P "_law_give" 728 (.ref 416), kE P "_law_dropped" 739 (.ref 423), kE P "_law_notes" 749 (.ref 430), kE P "_law_given" 759 (.ref 437), kE P "_law_council_deed" 778 (.ref 444), kE P "law" 794 (.ref 451)] 42 }) ::
 (nat_lit 37, { cls := .type "dict", data := Data.dict #[kE P "__module__" 203 (kS "fencegate.errors" 194), kE P "__firstlineno__" 207 (.int 5 206), kE P "word" 214 (.ref 35), kE P "__static_attributes__" 215 (.ref 36), kE P "__weakref__" 217 (.ref 39), kE P "__doc__" 218 (.none)] 3 }) ::
 (nat_lit 38, { cls := .type "type", data := Data.cls { name := Str.ofString "GateError", bases := [.type "ValueError"], mro := [.ref 38, .type "ValueError", .type "Exception", .type "BaseException", .type "object"], ns := 37, qualname := Str.ofString "GateError", subclasses := [.ref 58, .ref 77, .ref 96, .ref 115, .ref 134] }, slots := #[some (.ref 22), none, some (kS "GateError" 196), some (kS "GateError" 204), some (.builtin "ValueError.__new__"), some (.bool true)] }) ::
 (nat_lit 39, { cls := .type "getset_descriptor", data := Data.fields #[kS "__weakref__" 216, .ref 38, .builtin "ExceptionGroup.__weakref__", .none] }) ::
 (nat_lit 57, { cls := .type "dict", data := Data.dict #[kE P "__module__" 228 (kS "fencegate.errors" 194), kE P "__firstlineno__" 232 (.int 9 231), kE P "word" 239 (.ref 55), kE P "__static_attributes__" 240 (.ref 56), kE P "__doc__" 241 (.none)] 2 }) ::
 (nat_lit 58, { cls := .type "type", data := Data.cls { name := Str.ofString "UnknownKeeper", bases := [.ref 38], mro := [.ref 58, .ref 38, .type "ValueError", .type "Exception", .type "BaseException", .type "object"], ns := 57, qualname := Str.ofString "UnknownKeeper" }, slots := #[some (.ref 42), none, some (kS "UnknownKeeper" 221), some (kS "UnknownKeeper" 229), some (.builtin "ValueError.__new__"), some (.bool true)] }) ::
 (nat_lit 76, { cls := .type "dict", data := Data.dict #[kE P "__module__" 251 (kS "fencegate.errors" 194), kE P "__firstlineno__" 255 (.int 13 254), kE P "word" 262 (.ref 74), kE P "__static_attributes__" 263 (.ref 75), kE P "__doc__" 264 (.none)] 2 }) ::
 (nat_lit 77, { cls := .type "type", data := Data.cls { name := Str.ofString "Down", bases := [.ref 38], mro := [.ref 77, .ref 38, .type "ValueError", .type "Exception", .type "BaseException", .type "object"], ns := 76, qualname := Str.ofString "Down" }, slots := #[some (.ref 61), none, some (kS "Down" 244), some (kS "Down" 252), some (.builtin "ValueError.__new__"), some (.bool true)] }) ::
 (nat_lit 95, { cls := .type "dict", data := Data.dict #[kE P "__module__" 274 (kS "fencegate.errors" 194), kE P "__firstlineno__" 278 (.int 17 277), kE P "word" 285 (.ref 93), kE P "__static_attributes__" 286 (.ref 94), kE P "__doc__" 287 (.none)] 2 }) ::
 (nat_lit 96, { cls := .type "type", data := Data.cls { name := Str.ofString "OldNumber", bases := [.ref 38], mro := [.ref 96, .ref 38, .type "ValueError", .type "Exception", .type "BaseException", .type "object"], ns := 95, qualname := Str.ofString "OldNumber" }, slots := #[some (.ref 80), none, some (kS "OldNumber" 267), some (kS "OldNumber" 275), some (.builtin "ValueError.__new__"), some (.bool true)] }) ::
 (nat_lit 114, { cls := .type "dict", data := Data.dict #[kE P "__module__" 297 (kS "fencegate.errors" 194), kE P "__firstlineno__" 301 (.int 21 300), kE P "word" 308 (.ref 112), kE P "__static_attributes__" 309 (.ref 113), kE P "__doc__" 310 (.none)] 2 }) ::
 (nat_lit 115, { cls := .type "type", data := Data.cls { name := Str.ofString "InTheWay", bases := [.ref 38], mro := [.ref 115, .ref 38, .type "ValueError", .type "Exception", .type "BaseException", .type "object"], ns := 114, qualname := Str.ofString "InTheWay" }, slots := #[some (.ref 99), none, some (kS "InTheWay" 290), some (kS "InTheWay" 298), some (.builtin "ValueError.__new__"), some (.bool true)] }) ::
 (nat_lit 133, { cls := .type "dict", data := Data.dict #[kE P "__module__" 320 (kS "fencegate.errors" 194), kE P "__firstlineno__" 324 (.int 25 323), kE P "word" 331 (.ref 131), kE P "__static_attributes__" 332 (.ref 132), kE P "__doc__" 333 (.none)] 2 }) ::
 (nat_lit 134, { cls := .type "type", data := Data.cls { name := Str.ofString "NotFree", bases := [.ref 38], mro := [.ref 134, .ref 38, .type "ValueError", .type "Exception", .type "BaseException", .type "object"], ns := 133, qualname := Str.ofString "NotFree" }, slots := #[some (.ref 118), none, some (kS "NotFree" 313), some (kS "NotFree" 321), some (.builtin "ValueError.__new__"), some (.bool true)] }) ::
 (nat_lit 142, kC #[kS "within" 338, kS "within" 339, kS "/claim/cut.py" 340, .int 30 0, .int 2 0, .int 0 0, .int 0 0, .int 3 0, .ref 137, .bool true, .int 181 0, .ref 138, .none, .ref 139, .ref 140, .ref 141, .int 344 0, .int 30 0, kS "/claim/cut.py" 345]) ::
 (nat_lit 143, kF "within" "within" (ktop 9) (kS "fencegate.paths" 336) 142) ::
 (nat_lit 149, kC #[kS "on_line" 347, kS "on_line" 348, kS "/claim/cut.py" 349, .int 33 0, .int 2 0, .int 0 0, .int 0 0, .int 3 0, .ref 144, .bool true, .int 181 0, .ref 145, .none, .ref 146, .ref 147, .ref 148, .int 352 0, .int 33 0, kS "/claim/cut.py" 353]) ::
 (nat_lit 150, kF "on_line" "on_line" (ktop 10) (kS "fencegate.paths" 336) 149) ::
 (nat_lit 156, kC #[kS "in_way" 355, kS "in_way" 356, kS "/claim/cut.py" 357, .int 35 0, .int 4 0, .int 0 0, .int 0 0, .int 3 0, .ref 151, .bool true, .int 181 0, .ref 152, .none, .ref 153, .ref 154, .ref 155, .int 362 0, .int 35 0, kS "/claim/cut.py" 363]) ::
 (nat_lit 157, kF "in_way" "in_way" (ktop 11) (kS "fencegate.paths" 336) 156) ::
 (nat_lit 170, kC #[kS "__init__" 379, kS "Keeper.__init__" 380, kS "/claim/cut.py" 381, .int 40 0, .int 1 0, .int 0 0, .int 0 0, .int 3 0, .ref 165, .bool true, .int 181 0, .ref 166, .none, .ref 167, .ref 168, .ref 169, .int 383 0, .int 40 0, kS "/claim/cut.py" 384]) ::
 (nat_lit 171, kF "__init__" "Keeper.__init__" (kcls (ktop 13) 0) (kS "fencegate.keeper" 365) 170) ::
 (nat_lit 177, kC #[kS "fall" 386, kS "Keeper.fall" 387, kS "/claim/cut.py" 388, .int 45 0, .int 1 0, .int 0 0, .int 0 0, .int 3 0, .ref 172, .bool true, .int 181 0, .ref 173, .none, .ref 174, .ref 175, .ref 176, .int 390 0, .int 45 0, kS "/claim/cut.py" 391]) ::
 (nat_lit 178, kF "fall" "Keeper.fall" (kcls (ktop 13) 1) (kS "fencegate.keeper" 365) 177) ::
 (nat_lit 184, kC #[kS "rise" 393, kS "Keeper.rise" 394, kS "/claim/cut.py" 395, .int 48 0, .int 1 0, .int 0 0, .int 0 0, .int 3 0, .ref 179, .bool true, .int 181 0, .ref 180, .none, .ref 181, .ref 182, .ref 183, .int 397 0, .int 48 0, kS "/claim/cut.py" 398]) ::
 (nat_lit 185, kF "rise" "Keeper.rise" (kcls (ktop 13) 2) (kS "fencegate.keeper" 365) 184) ::
 (nat_lit 189, kC #[kS "live" 400, kS "Keeper.live" 401, kS "/claim/cut.py" 402, .int 51 0, .int 2 0, .int 0 0, .int 0 0, .int 3 0, .ref 186, .bool true, .int 181 0, .ref 187, .none, .none, .none, .ref 188, .int 403 0, .int 51 0, kS "/claim/cut.py" 404]) ::
 (nat_lit 190, kF "live" "Keeper.live" (kcls (ktop 13) 3) (kS "fencegate.keeper" 365) 189) ::
 (nat_lit 194, kC #[kS "names_in_way" 406, kS "Keeper.names_in_way" 407, kS "/claim/cut.py" 408, .int 54 0, .int 5 0, .int 0 0, .int 0 0, .int 3 0, .ref 191, .bool true, .int 181 0, .ref 192, .none, .none, .none, .ref 193, .int 409 0, .int 54 0, kS "/claim/cut.py" 410]) ::
 (nat_lit 195, kF "names_in_way" "Keeper.names_in_way" (kcls (ktop 13) 4) (kS "fencegate.keeper" 365) 194) ::
 (nat_lit 201, kC #[kS "says_free" 412, kS "Keeper.says_free" 413, kS "/claim/cut.py" 414, .int 58 0, .int 5 0, .int 0 0, .int 0 0, .int 3 0, .ref 196, .bool true, .int 181 0, .ref 197, .none, .ref 198, .ref 199, .ref 200, .int 420 0, .int 58 0, kS "/claim/cut.py" 421]) ::
 (nat_lit 202, kF "says_free" "Keeper.says_free" (kcls (ktop 13) 5) (kS "fencegate.keeper" 365) 201) ::
 (nat_lit 206, kC #[kS "take" 423, kS "Keeper.take" 424, kS "/claim/cut.py" 425, .int 61 0, .int 7 0, .int 0 0, .int 0 0, .int 3 0, .ref 203, .bool true, .int 181 0, .ref 204, .none, .none, .none, .ref 205, .int 426 0, .int 61 0, kS "/claim/cut.py" 427]) ::
 (nat_lit 207, kF "take" "Keeper.take" (kcls (ktop 13) 6) (kS "fencegate.keeper" 365) 206) ::
 (nat_lit 211, kC #[kS "drop" 429, kS "Keeper.drop" 430, kS "/claim/cut.py" 431, .int 72 0, .int 3 0, .int 0 0, .int 0 0, .int 3 0, .ref 208, .bool true, .int 181 0, .ref 209, .none, .none, .none, .ref 210, .int 432 0, .int 72 0, kS "/claim/cut.py" 433]) ::
 (nat_lit 212, kF "drop" "Keeper.drop" (kcls (ktop 13) 7) (kS "fencegate.keeper" 365) 211) ::
 (nat_lit 214, { cls := .type "dict", data := Data.dict #[kE P "__module__" 374 (kS "fencegate.keeper" 365), kE P "__firstlineno__" 378 (.int 38 377), kE P "__init__" 385 (.ref 171), kE P "fall" 392 (.ref 178), kE P "rise" 399 (.ref 185), kE P "live" 405 (.ref 190), kE P "names_in_way" 411 (.ref 195), kE P "says_free" 422 (.ref 202), kE P "take" 428 (.ref 207), kE P "drop" 434 (.ref 212), kE P "__static_attributes__" 438 (.ref 213), kE P "__dict__" 440 (.ref 216), kE P "__weakref__" 442 (.ref 217), kE P "__doc__" 443 (.none)] 4 }) ::
 (nat_lit 215, { cls := .type "type", data := Data.cls { name := Str.ofString "Keeper", bases := [.type "object"], mro := [.ref 215, .type "object"], ns := 214, qualname := Str.ofString "Keeper" }, slots := #[none, none, some (kS "Keeper" 367), some (kS "Keeper" 375), some (.builtin "object.__new__"), some (.bool true)] }) ::
 (nat_lit 216, { cls := .type "getset_descriptor", data := Data.fields #[kS "__dict__" 439, .ref 215, .builtin "function.__dict__", .builtin "function.__dict__#set"] }) ::
 (nat_lit 217, { cls := .type "getset_descriptor", data := Data.fields #[kS "__weakref__" 441, .ref 215, .builtin "ExceptionGroup.__weakref__", .none] }) ::
 (nat_lit 230, kC #[kS "__init__" 460, kS "Council.__init__" 461, kS "/claim/cut.py" 462, .int 80 0, .int 2 0, .int 0 0, .int 0 0, .int 3 0, .ref 227, .bool true, .int 181 0, .ref 228, .none, .none, .none, .ref 229, .int 463 0, .int 80 0, kS "/claim/cut.py" 464]) ::
 (nat_lit 231, kF "__init__" "Council.__init__" (kcls (ktop 15) 0) (kS "fencegate.council" 446) 230) ::
 (nat_lit 237, kC #[kS "keeper_at" 466, kS "Council.keeper_at" 467, kS "/claim/cut.py" 468, .int 84 0, .int 2 0, .int 0 0, .int 0 0, .int 3 0, .ref 232, .bool true, .int 181 0, .ref 233, .none, .ref 234, .ref 235, .ref 236, .int 471 0, .int 84 0, kS "/claim/cut.py" 472]) ::
 (nat_lit 238, kF "keeper_at" "Council.keeper_at" (kcls (ktop 15) 1) (kS "fencegate.council" 446) 237) ::
 (nat_lit 242, kC #[kS "up_keepers" 474, kS "Council.up_keepers" 475, kS "/claim/cut.py" 476, .int 89 0, .int 1 0, .int 0 0, .int 0 0, .int 3 0, .ref 239, .bool true, .int 181 0, .ref 240, .none, .none, .none, .ref 241, .int 477 0, .int 89 0, kS "/claim/cut.py" 478]) ::
 (nat_lit 243, kF "up_keepers" "Council.up_keepers" (kcls (ktop 15) 2) (kS "fencegate.council" 446) 242) ::
 (nat_lit 249, kC #[kS "fall" 480, kS "Council.fall" 481, kS "/claim/cut.py" 482, .int 92 0, .int 2 0, .int 0 0, .int 0 0, .int 3 0, .ref 244, .bool true, .int 181 0, .ref 245, .none, .ref 246, .ref 247, .ref 248, .int 487 0, .int 92 0, kS "/claim/cut.py" 488]) ::
 (nat_lit 250, kF "fall" "Council.fall" (kcls (ktop 15) 3) (kS "fencegate.council" 446) 249) ::
 (nat_lit 256, kC #[kS "rise" 490, kS "Council.rise" 491, kS "/claim/cut.py" 492, .int 98 0, .int 2 0, .int 0 0, .int 0 0, .int 3 0, .ref 251, .bool true, .int 181 0, .ref 252, .none, .ref 253, .ref 254, .ref 255, .int 497 0, .int 98 0, kS "/claim/cut.py" 498]) ::
 (nat_lit 257, kF "rise" "Council.rise" (kcls (ktop 15) 4) (kS "fencegate.council" 446) 256) ::
 (nat_lit 261, kC #[kS "ups" 500, kS "Council.ups" 501, kS "/claim/cut.py" 502, .int 104 0, .int 1 0, .int 0 0, .int 0 0, .int 3 0, .ref 258, .bool true, .int 181 0, .ref 259, .none, .none, .none, .ref 260, .int 503 0, .int 104 0, kS "/claim/cut.py" 504]) ::
 (nat_lit 262, kF "ups" "Council.ups" (kcls (ktop 15) 5) (kS "fencegate.council" 446) 261) ::
 (nat_lit 268, kC #[kS "notes" 506, kS "Council.notes" 507, kS "/claim/cut.py" 508, .int 107 0, .int 3 0, .int 0 0, .int 0 0, .int 3 0, .ref 263, .bool true, .int 181 0, .ref 264, .none, .ref 265, .ref 266, .ref 267, .int 512 0, .int 107 0, kS "/claim/cut.py" 513]) ::
 (nat_lit 269, kF "notes" "Council.notes" (kcls (ktop 15) 6) (kS "fencegate.council" 446) 268) ::
 (nat_lit 273, kC #[kS "sayers" 515, kS "Council.sayers" 516, kS "/claim/cut.py" 517, .int 110 0, .int 5 0, .int 0 0, .int 0 0, .int 3 0, .ref 270, .bool true, .int 181 0, .ref 271, .none, .none, .none, .ref 272, .int 518 0, .int 110 0, kS "/claim/cut.py" 519]) ::
 (nat_lit 274, kF "sayers" "Council.sayers" (kcls (ktop 15) 7) (kS "fencegate.council" 446) 273) ::
 (nat_lit 278, kC #[kS "give" 521, kS "Council.give" 522, kS "/claim/cut.py" 523, .int 113 0, .int 6 0, .int 0 0, .int 0 0, .int 3 0, .ref 275, .bool true, .int 181 0, .ref 276, .none, .none, .none, .ref 277, .int 524 0, .int 113 0, kS "/claim/cut.py" 525]) ::
 (nat_lit 279, kF "give" "Council.give" (kcls (ktop 15) 8) (kS "fencegate.council" 446) 278) ::
 (nat_lit 285, kC #[kS "drop" 527, kS "Council.drop" 528, kS "/claim/cut.py" 529, .int 122 0, .int 3 0, .int 0 0, .int 0 0, .int 3 0, .ref 280, .bool true, .int 181 0, .ref 281, .none, .ref 282, .ref 283, .ref 284, .int 536 0, .int 122 0, kS "/claim/cut.py" 537]) ::
 (nat_lit 286, kF "drop" "Council.drop" (kcls (ktop 15) 9) (kS "fencegate.council" 446) 285) ::
 (nat_lit 309, { cls := .type "dict", data := Data.dict #[kE P "__module__" 455 (kS "fencegate.council" 446), kE P "__firstlineno__" 459 (.int 78 458), kE P "__init__" 465 (.ref 231), kE P "keeper_at" 473 (.ref 238), kE P "up_keepers" 479 (.ref 243), kE P "fall" 489 (.ref 250), kE P "rise" 499 (.ref 257), kE P "ups" 505 (.ref 262), kE P "notes" 514 (.ref 269), kE P "sayers" 520 (.ref 274), kE P "give" 526 (.ref 279), kE P "drop" 538 (.ref 286), kE P "having" 547 (.ref 293), kE P "free_by" 556 (.ref 300), kE P "named" 567 (.ref 307), kE P "__static_attributes__" 570 (.ref 308), kE P "__dict__" 572 (.ref 311), kE P "__weakref__" 574 (.ref 312), kE P "__doc__" 575 (.none)] 4 }) ::
 (nat_lit 310, { cls := .type "type", data := Data.cls { name := Str.ofString "Council", bases := [.type "object"], mro := [.ref 310, .type "object"], ns := 309, qualname := Str.ofString "Council" }, slots := #[none, none, some (kS "Council" 448), some (kS "Council" 456), some (.builtin "object.__new__"), some (.bool true)] }) ::
 (nat_lit 311, { cls := .type "getset_descriptor", data := Data.fields #[kS "__dict__" 571, .ref 310, .builtin "function.__dict__", .builtin "function.__dict__#set"] }) ::
 (nat_lit 312, { cls := .type "getset_descriptor", data := Data.fields #[kS "__weakref__" 573, .ref 310, .builtin "ExceptionGroup.__weakref__", .none] }) ::
 (nat_lit 320, kC #[kS "_law_at" 580, kS "_law_at" 581, kS "/claim/cut.py" 582, .int 138 0, .int 2 0, .int 0 0, .int 0 0, .int 3 0, .ref 315, .bool true, .int 181 0, .ref 316, .none, .ref 317, .ref 318, .ref 319, .int 585 0, .int 138 0, kS "/claim/cut.py" 586]) ::
 (nat_lit 321, kF "_law_at" "_law_at" (ktop 17) (kS "law_fencegate_k11_council_day" 578) 320) ::
 (nat_lit 325, kC #[kS "_law_same" 588, kS "_law_same" 589, kS "/claim/cut.py" 590, .int 142 0, .int 2 0, .int 0 0, .int 0 0, .int 3 0, .ref 322, .bool true, .int 181 0, .ref 323, .none, .none, .none, .ref 324, .int 591 0, .int 142 0, kS "/claim/cut.py" 592]) ::
 (nat_lit 326, kF "_law_same" "_law_same" (ktop 18) (kS "law_fencegate_k11_council_day" 578) 325) ::
 (nat_lit 332, kC #[kS "_law_name" 594, kS "_law_name" 595, kS "/claim/cut.py" 596, .int 152 0, .int 2 0, .int 0 0, .int 0 0, .int 3 0, .ref 327, .bool true, .int 181 0, .ref 328, .none, .ref 329, .ref 330, .ref 331, .int 606 0, .int 152 0, kS "/claim/cut.py" 607]) ::
 (nat_lit 333, kF "_law_name" "_law_name" (ktop 19) (kS "law_fencegate_k11_council_day" 578) 332) ::
 (nat_lit 337, kC #[kS "_law_names" 609, kS "_law_names" 610, kS "/claim/cut.py" 611, .int 170 0, .int 2 0, .int 0 0, .int 0 0, .int 3 0, .ref 334, .bool true, .int 181 0, .ref 335, .none, .none, .none, .ref 336, .int 612 0, .int 170 0, kS "/claim/cut.py" 613]) ::
 (nat_lit 338, kF "_law_names" "_law_names" (ktop 20) (kS "law_fencegate_k11_council_day" 578) 337) ::
 (nat_lit 344, kC #[kS "_law_locks" 615, kS "_law_locks" 616, kS "/claim/cut.py" 617, .int 172 0, .int 3 0, .int 0 0, .int 0 0, .int 3 0, .ref 339, .bool true, .int 181 0, .ref 340, .none, .ref 341, .ref 342, .ref 343, .int 626 0, .int 172 0, kS "/claim/cut.py" 627]) ::
 (nat_lit 345, kF "_law_locks" "_law_locks" (ktop 21) (kS "law_fencegate_k11_council_day" 578) 344) ::
 (nat_lit 351, kC #[kS "_law_some" 629, kS "_law_some" 630, kS "/claim/cut.py" 631, .int 191 0, .int 2 0, .int 0 0, .int 0 0, .int 3 0, .ref 346, .bool true, .int 181 0, .ref 347, .none, .ref 348, .ref 349, .ref 350, .int 637 0, .int 191 0, kS "/claim/cut.py" 638]) ::
 (nat_lit 352, kF "_law_some" "_law_some" (ktop 22) (kS "law_fencegate_k11_council_day" 578) 351) ::
 (nat_lit 358, kC #[kS "_law_setup" 640, kS "_law_setup" 641, kS "/claim/cut.py" 642, .int 199 0, .int 1 0, .int 0 0, .int 0 0, .int 3 0, .ref 353, .bool true, .int 181 0, .ref 354, .none, .ref 355, .ref 356, .ref 357, .int 649 0, .int 199 0, kS "/claim/cut.py" 650]) ::
 (nat_lit 359, kF "_law_setup" "_law_setup" (ktop 23) (kS "law_fencegate_k11_council_day" 578) 358) ::
 (nat_lit 365, kC #[kS "_law_asked" 652, kS "_law_asked" 653, kS "/claim/cut.py" 654, .int 206 0, .int 3 0, .int 0 0, .int 0 0, .int 3 0, .ref 360, .bool true, .int 181 0, .ref 361, .none, .ref 362, .ref 363, .ref 364, .int 661 0, .int 206 0, kS "/claim/cut.py" 662]) ::
 (nat_lit 366, kF "_law_asked" "_law_asked" (ktop 24) (kS "law_fencegate_k11_council_day" 578) 365) ::
 (nat_lit 372, kC #[kS "_law_line" 664, kS "_law_line" 665, kS "/claim/cut.py" 666, .int 214 0, .int 2 0, .int 0 0, .int 0 0, .int 3 0, .ref 367, .bool true, .int 181 0, .ref 368, .none, .ref 369, .ref 370, .ref 371, .int 672 0, .int 214 0, kS "/claim/cut.py" 673]) ::
 (nat_lit 373, kF "_law_line" "_law_line" (ktop 25) (kS "law_fencegate_k11_council_day" 578) 372) ::
 (nat_lit 379, kC #[kS "_law_way" 675, kS "_law_way" 676, kS "/claim/cut.py" 677, .int 219 0, .int 4 0, .int 0 0, .int 0 0, .int 3 0, .ref 374, .bool true, .int 181 0, .ref 375, .none, .ref 376, .ref 377, .ref 378, .int 682 0, .int 219 0, kS "/claim/cut.py" 683]) ::
 (nat_lit 380, kF "_law_way" "_law_way" (ktop 26) (kS "law_fencegate_k11_council_day" 578) 379) ::
 (nat_lit 386, kC #[kS "_law_new" 685, kS "_law_new" 686, kS "/claim/cut.py" 687, .int 221 0, .int 1 0, .int 0 0, .int 0 0, .int 3 0, .ref 381, .bool true, .int 181 0, .ref 382, .none, .ref 383, .ref 384, .ref 385, .int 689 0, .int 221 0, kS "/claim/cut.py" 690]) ::
 (nat_lit 387, kF "_law_new" "_law_new" (ktop 27) (kS "law_fencegate_k11_council_day" 578) 386) ::
 (nat_lit 393, kC #[kS "_law_naming" 692, kS "_law_naming" 693, kS "/claim/cut.py" 694, .int 223 0, .int 3 0, .int 0 0, .int 0 0, .int 3 0, .ref 388, .bool true, .int 181 0, .ref 389, .none, .ref 390, .ref 391, .ref 392, .int 700 0, .int 223 0, kS "/claim/cut.py" 701]) ::
 (nat_lit 394, kF "_law_naming" "_law_naming" (ktop 28) (kS "law_fencegate_k11_council_day" 578) 393) ::
 (nat_lit 398, kC #[kS "_law_ups" 703, kS "_law_ups" 704, kS "/claim/cut.py" 705, .int 230 0, .int 1 0, .int 0 0, .int 0 0, .int 3 0, .ref 395, .bool true, .int 181 0, .ref 396, .none, .none, .none, .ref 397, .int 706 0, .int 230 0, kS "/claim/cut.py" 707]) ::
 (nat_lit 399, kF "_law_ups" "_law_ups" (ktop 29) (kS "law_fencegate_k11_council_day" 578) 398) ::
 (nat_lit 403, kC #[kS "_law_sayers" 709, kS "_law_sayers" 710, kS "/claim/cut.py" 711, .int 232 0, .int 2 0, .int 0 0, .int 0 0, .int 3 0, .ref 400, .bool true, .int 181 0, .ref 401, .none, .none, .none, .ref 402, .int 712 0, .int 232 0, kS "/claim/cut.py" 713]) ::
 (nat_lit 404, kF "_law_sayers" "_law_sayers" (ktop 30) (kS "law_fencegate_k11_council_day" 578) 403) ::
 (nat_lit 410, kC #[kS "_law_free" 715, kS "_law_free" 716, kS "/claim/cut.py" 717, .int 234 0, .int 2 0, .int 0 0, .int 0 0, .int 3 0, .ref 405, .bool true, .int 181 0, .ref 406, .none, .ref 407, .ref 408, .ref 409, .int 720 0, .int 234 0, kS "/claim/cut.py" 721]) ::
 (nat_lit 411, kF "_law_free" "_law_free" (ktop 31) (kS "law_fencegate_k11_council_day" 578) 410) ::
 (nat_lit 415, kC #[kS "_law_give" 723, kS "_law_give" 724, kS "/claim/cut.py" 725, .int 236 0, .int 2 0, .int 0 0, .int 0 0, .int 3 0, .ref 412, .bool true, .int 181 0, .ref 413, .none, .none, .none, .ref 414, .int 726 0, .int 236 0, kS "/claim/cut.py" 727]) ::
 (nat_lit 416, kF "_law_give" "_law_give" (ktop 32) (kS "law_fencegate_k11_council_day" 578) 415) ::
 (nat_lit 422, kC #[kS "_law_dropped" 729, kS "_law_dropped" 730, kS "/claim/cut.py" 731, .int 253 0, .int 2 0, .int 0 0, .int 0 0, .int 3 0, .ref 417, .bool true, .int 181 0, .ref 418, .none, .ref 419, .ref 420, .ref 421, .int 737 0, .int 253 0, kS "/claim/cut.py" 738]) ::
 (nat_lit 423, kF "_law_dropped" "_law_dropped" (ktop 33) (kS "law_fencegate_k11_council_day" 578) 422) ::
 (nat_lit 429, kC #[kS "_law_notes" 740, kS "_law_notes" 741, kS "/claim/cut.py" 742, .int 263 0, .int 2 0, .int 0 0, .int 0 0, .int 3 0, .ref 424, .bool true, .int 181 0, .ref 425, .none, .ref 426, .ref 427, .ref 428, .int 747 0, .int 263 0, kS "/claim/cut.py" 748]) ::
 (nat_lit 430, kF "_law_notes" "_law_notes" (ktop 34) (kS "law_fencegate_k11_council_day" 578) 429) ::
 (nat_lit 436, kC #[kS "_law_given" 750, kS "_law_given" 751, kS "/claim/cut.py" 752, .int 269 0, .int 3 0, .int 0 0, .int 0 0, .int 3 0, .ref 431, .bool true, .int 181 0, .ref 432, .none, .ref 433, .ref 434, .ref 435, .int 757 0, .int 269 0, kS "/claim/cut.py" 758]) ::
 (nat_lit 437, kF "_law_given" "_law_given" (ktop 35) (kS "law_fencegate_k11_council_day" 578) 436) ::
 (nat_lit 443, kC #[kS "_law_council_deed" 760, kS "_law_council_deed" 761, kS "/claim/cut.py" 762, .int 275 0, .int 4 0, .int 0 0, .int 0 0, .int 3 0, .ref 438, .bool true, .int 181 0, .ref 439, .none, .ref 440, .ref 441, .ref 442, .int 776 0, .int 275 0, kS "/claim/cut.py" 777]) ::
 (nat_lit 444, kF "_law_council_deed" "_law_council_deed" (ktop 36) (kS "law_fencegate_k11_council_day" 578) 443) ::
 (nat_lit 450, kC #[kS "law" 779, kS "law" 780, kS "/claim/cut.py" 781, .int 299 0, .int 1 0, .int 0 0, .int 0 0, .int 3 0, .ref 445, .bool true, .int 181 0, .ref 446, .none, .ref 447, .ref 448, .ref 449, .int 792 0, .int 299 0, kS "/claim/cut.py" 793]) ::
 (nat_lit 451, kF "law" "law" (ktop 37) (kS "law_fencegate_k11_council_day" 578) 450) :: []
def ka : List Addr := 2 :: 3 :: 37 :: 38 :: 39 :: 57 :: 58 :: 76 :: 77 :: 95 :: 96 :: 114 :: 115 :: 133 :: 134 :: 142 :: 143 :: 149 :: 150 :: 156 :: 157 :: 170 :: 171 :: 177 :: 178 :: 184 :: 185 :: 189 :: 190 :: 194 :: 195 :: 201 :: 202 :: 206 :: 207 :: 211 :: 212 :: 214 :: 215 :: 216 :: 217 :: 230 :: 231 :: 237 :: 238 :: 242 :: 243 :: 249 :: 250 :: 256 :: 257 :: 261 :: 262 :: 268 :: 269 :: 273 :: 274 :: 278 :: 279 :: 285 :: 286 :: 309 :: 310 :: 311 :: 312 :: 320 :: 321 :: 325 :: 326 :: 332 :: 333 :: 337 :: 338 :: 344 :: 345 :: 351 :: 352 :: 358 :: 359 :: 365 :: 366 :: 372 :: 373 :: 379 :: 380 :: 386 :: 387 :: 393 :: 394 :: 398 :: 399 :: 403 :: 404 :: 410 :: 411 :: 415 :: 416 :: 422 :: 423 :: 429 :: 430 :: 436 :: 437 :: 443 :: 444 :: 450 :: 451 :: []
def vw : Program := { PySem.Challenge.pw_fencegate_k11_council_day with main := { PySem.Challenge.pw_fencegate_k11_council_day.main with body := ktop 0 :: ktop 2 :: ktop 3 :: ktop 4 :: ktop 5 :: ktop 6 :: ktop 7 :: ktop 9 :: ktop 10 :: ktop 11 :: ktop 13 :: ktop 15 :: ktop 17 :: ktop 18 :: ktop 19 :: ktop 20 :: ktop 21 :: ktop 22 :: ktop 23 :: ktop 24 :: ktop 25 :: ktop 26 :: ktop 27 :: ktop 28 :: ktop 29 :: ktop 30 :: ktop 31 :: ktop 32 :: ktop 33 :: ktop 34 :: ktop 35 :: ktop 36 :: ktop 37 :: [] } }
theorem ka_eq (P : Params) : ka = (kk P).map (·.1) := by kernel_rfl
def kT (vs : Array Value) : Obj := { cls := .type "tuple", data := .seq vs }
noncomputable def hA (P : Params) : Heap := Heap.mk (Array.mk (
 PySem.W.boot_o_0 P ::
 PySem.W.boot_o_1 P ::
 PySem.W.boot_o_2 P ::
 PySem.W.boot_o_3 P ::
 PySem.W.boot_o_4 P ::
 PySem.W.boot_o_5 P ::
 PySem.W.boot_o_6 P ::
 PySem.W.boot_o_7 P ::
 PySem.W.boot_o_8 P ::
 PySem.W.boot_o_9 P ::
 PySem.W.boot_o_10 P ::
 kT #[] ::
 { cls := .none, data := Data.fields #[] } ::
 kC #[kS "<module>" 182, kS "<module>" 183, kS "/claim/cut.py" 184, .int 1 0, .int 0 0, .int 0 0, .int 0 0, .int 0 0, .ref 11, .bool false, .int 181 0, .ref 12, .none, .none, .none, .none, .int 185 0, .int 1 0, kS "/claim/cut.py" 186] ::
 { cls := .type "frame", slots := #[some (.ref 13), some (.ref 3), some (.ref 3), none, some (kS "__main__" 164), none, some (.ref 0)] } :: [])) {}
noncomputable def hB (P : Params) : Heap := Heap.mk (Array.mk (
 PySem.W.boot_o_0 P ::
 PySem.W.boot_o_1 P ::
 PySem.W.boot_o_2 P ::
 PySem.W.boot_o_3 P ::
 PySem.W.boot_o_4 P ::
 PySem.W.boot_o_5 P ::
 PySem.W.boot_o_6 P ::
 PySem.W.boot_o_7 P ::
 PySem.W.boot_o_8 P ::
 PySem.W.boot_o_9 P ::
 PySem.W.boot_o_10 P ::
 kT #[] ::
 { cls := .none, data := Data.fields #[] } ::
 kC #[kS "<module>" 182, kS "<module>" 183, kS "/claim/cut.py" 184, .int 1 0, .int 0 0, .int 0 0, .int 0 0, .int 0 0, .ref 11, .bool false, .int 181 0, .ref 12, .none, .none, .none, .none, .int 185 0, .int 1 0, kS "/claim/cut.py" 186] ::
 { cls := .type "frame", slots := #[some (.ref 13), some (.ref 3), some (.ref 3), none, some (kS "__main__" 164), none, some (.ref 0)] } :: [])) {}
noncomputable def hM (P : Params) : Heap := Heap.mk (Array.mk (
 PySem.W.boot_o_0 P ::
 PySem.W.boot_o_1 P ::
 PySem.W.boot_o_2 P ::
 { cls := .type "dict", data := Data.dict #[kE P "__name__" 165 (kS "fencegate.errors" 194), kE P "__doc__" 166 (.none), kE P "__package__" 167 (.none), kE P "__loader__" 168 (.builtin "__main__.__loader__#opaque"), kE P "__spec__" 169 (.none), kE P "__annotations__" 170 (.ref 6), kE P "__builtins__" 171 (.ref 4), kE P "__file__" 173 (kS "/claim/cut.py" 172), kE P "__cached__" 174 (.none), kE P "_wall" 193 (.ref 21), kE P "GateError" 220 (.ref 38), kE P "UnknownKeeper" 243 (.ref 58), kE P "Down" 266 (.ref 77), kE P "OldNumber" 289 (.ref 96), kE P "InTheWay" 312 (.ref 115), kE P "NotFree" 335 (.ref 134)] 16 } ::
 PySem.W.boot_o_4 P ::
 PySem.W.boot_o_5 P ::
 PySem.W.boot_o_6 P ::
 PySem.W.boot_o_7 P ::
 PySem.W.boot_o_8 P ::
 PySem.W.boot_o_9 P ::
 PySem.W.boot_o_10 P ::
 kT #[] ::
 { cls := .none, data := Data.fields #[.int 1 0, .int 0 0, .ref 20, .int 5 0, .int 0 0, .ref 27, .int 9 0, .int 0 0, .ref 47, .int 13 0, .int 0 0, .ref 66, .int 17 0, .int 0 0, .ref 85, .int 21 0, .int 0 0, .ref 104, .int 25 0, .int 0 0, .ref 123] } ::
 kC #[kS "<module>" 182, kS "<module>" 183, kS "/claim/cut.py" 184, .int 1 0, .int 0 0, .int 0 0, .int 0 0, .int 0 0, .ref 11, .bool false, .int 181 0, .ref 12, .none, .none, .none, .none, .int 185 0, .int 1 0, kS "/claim/cut.py" 186] ::
 { cls := .type "frame", slots := #[some (.ref 13), some (.ref 3), some (.ref 3), none, some (kS "__main__" 164), none, some (.ref 0)] } ::
 kT #[] ::
 { cls := .none, data := Data.fields #[] } ::
 kT #[kS "k" 190] ::
 kT #[] ::
 { cls := .none, data := Data.func { name := Str.ofString "_wall", qualname := Str.ofString "_wall", params := { posonlyargs := [], args := [{ arg := Str.ofString "k", annotation := none, pos := { line := 1, col := 10, endLine := 1, endCol := 11 } }], vararg := none, kwonlyargs := [], kw_defaults := [], kwarg := none, defaults := [] }, body := FuncBody.stmts [Stmt.While (Expr.Constant (Const.bool true) 0 { line := 2, col := 10, endLine := 2, endCol := 14 }) [Stmt.Pass { line := 3, col := 8, endLine := 3, endCol := 12 }] [] { line := 2, col := 4, endLine := 3, endCol := 12 }], scope := { kind := ScopeKind.function, names := [(Str.ofString "k", NameKind.local)], isGenerator := false, isCoroutine := false }, globals := 0, closure := [], defaults := .none, kwdefaults := .none } } ::
 kC #[kS "_wall" 187, kS "_wall" 188, kS "/claim/cut.py" 189, .int 1 0, .int 1 0, .int 0 0, .int 0 0, .int 3 0, .ref 15, .bool true, .int 181 0, .ref 16, .none, .ref 17, .ref 18, .ref 19, .int 191 0, .int 1 0, kS "/claim/cut.py" 192] ::
 kF "_wall" "_wall" (ktop 0) (kS "__main__" 164) 20 ::
 kT #[.type "ValueError"] ::
 { cls := .type "builtin_function_or_method", data := Data.fields #[.builtin "type.__prepare__", .type "type"] } ::
 { cls := .type "dict", data := Data.dict #[kE P "__module__" 203 (kS "fencegate.errors" 194), kE P "__qualname__" 205 (kS "GateError" 204), kE P "__firstlineno__" 207 (.int 5 206), kE P "word" 214 (.ref 35), kE P "__static_attributes__" 215 (.ref 36)] 5 } ::
 kT #[] ::
 { cls := .none, data := Data.fields #[.int 7 0, .int 4 0, .ref 34] } ::
 kC #[kS "GateError" 198, kS "GateError" 199, kS "/claim/cut.py" 200, .int 5 0, .int 0 0, .int 0 0, .int 0 0, .int 0 0, .ref 25, .bool false, .int 181 0, .ref 26, .none, .none, .none, .none, .int 201 0, .int 5 0, kS "/claim/cut.py" 202] ::
 { cls := .type "frame", slots := #[some (.ref 27), some (.ref 3), some (.ref 24), none, some (kS "fencegate.errors" 194), none, some (.ref 0)] } ::
 kT #[] ::
 { cls := .none, data := Data.fields #[] } ::
 kT #[kS "self" 211] ::
 kT #[] ::
 { cls := .none, data := Data.func { name := Str.ofString "word", qualname := Str.ofString "GateError.word", params := { posonlyargs := [], args := [{ arg := Str.ofString "self", annotation := none, pos := { line := 7, col := 13, endLine := 7, endCol := 17 } }], vararg := none, kwonlyargs := [], kw_defaults := [], kwarg := none, defaults := [] }, body := FuncBody.stmts [Stmt.Expr (Expr.Call (Expr.Name (Str.ofString "_wall") { line := 8, col := 8, endLine := 8, endCol := 13 }) [Expr.Constant (Const.int 0) 0 { line := 8, col := 14, endLine := 8, endCol := 15 }] [] { line := 8, col := 8, endLine := 8, endCol := 16 }) { line := 8, col := 8, endLine := 8, endCol := 16 }], scope := { kind := ScopeKind.function, names := [(Str.ofString "self", NameKind.local), (Str.ofString "_wall", NameKind.globalImplicit)], isGenerator := false, isCoroutine := false }, globals := 0, closure := [], defaults := .none, kwdefaults := .none } } ::
 kC #[kS "word" 208, kS "GateError.word" 209, kS "/claim/cut.py" 210, .int 7 0, .int 1 0, .int 0 0, .int 0 0, .int 3 0, .ref 29, .bool true, .int 181 0, .ref 30, .none, .ref 31, .ref 32, .ref 33, .int 212 0, .int 7 0, kS "/claim/cut.py" 213] ::
 kF "word" "GateError.word" (kcls (ktop 2) 0) (kS "fencegate.errors" 194) 34 ::
 kT #[] ::
 { cls := .type "dict", data := Data.dict #[kE P "__module__" 203 (kS "fencegate.errors" 194), kE P "__firstlineno__" 207 (.int 5 206), kE P "word" 214 (.ref 35), kE P "__static_attributes__" 215 (.ref 36), kE P "__weakref__" 217 (.ref 39), kE P "__doc__" 218 (.none)] 3 } ::
 { cls := .type "type", data := Data.cls { name := Str.ofString "GateError", bases := [.type "ValueError"], mro := [.ref 38, .type "ValueError", .type "Exception", .type "BaseException", .type "object"], ns := 37, qualname := Str.ofString "GateError", subclasses := [.ref 58, .ref 77, .ref 96, .ref 115, .ref 134] }, slots := #[some (.ref 22), none, some (kS "GateError" 196), some (kS "GateError" 204), some (.builtin "ValueError.__new__"), some (.bool true)] } ::
 { cls := .type "getset_descriptor", data := Data.fields #[kS "__weakref__" 216, .ref 38, .builtin "ExceptionGroup.__weakref__", .none] } ::
 { cls := .type "super", data := Data.fields #[.ref 38, .ref 38, .ref 38] } ::
 { cls := .type "builtin_function_or_method", data := Data.fields #[.builtin "object.__init_subclass__", .ref 38] } ::
 kT #[.ref 38] ::
 { cls := .type "builtin_function_or_method", data := Data.fields #[.builtin "type.__prepare__", .type "type"] } ::
 { cls := .type "dict", data := Data.dict #[kE P "__module__" 228 (kS "fencegate.errors" 194), kE P "__qualname__" 230 (kS "UnknownKeeper" 229), kE P "__firstlineno__" 232 (.int 9 231), kE P "word" 239 (.ref 55), kE P "__static_attributes__" 240 (.ref 56)] 5 } ::
 kT #[] ::
 { cls := .none, data := Data.fields #[.int 11 0, .int 4 0, .ref 54] } ::
 kC #[kS "UnknownKeeper" 223, kS "UnknownKeeper" 224, kS "/claim/cut.py" 225, .int 9 0, .int 0 0, .int 0 0, .int 0 0, .int 0 0, .ref 45, .bool false, .int 181 0, .ref 46, .none, .none, .none, .none, .int 226 0, .int 9 0, kS "/claim/cut.py" 227] ::
 { cls := .type "frame", slots := #[some (.ref 47), some (.ref 3), some (.ref 44), none, some (kS "fencegate.errors" 194), none, some (.ref 0)] } ::
 kT #[] ::
 { cls := .none, data := Data.fields #[] } ::
 kT #[kS "self" 236] ::
 kT #[] ::
 { cls := .none, data := Data.func { name := Str.ofString "word", qualname := Str.ofString "UnknownKeeper.word", params := { posonlyargs := [], args := [{ arg := Str.ofString "self", annotation := none, pos := { line := 11, col := 13, endLine := 11, endCol := 17 } }], vararg := none, kwonlyargs := [], kw_defaults := [], kwarg := none, defaults := [] }, body := FuncBody.stmts [Stmt.Expr (Expr.Call (Expr.Name (Str.ofString "_wall") { line := 12, col := 8, endLine := 12, endCol := 13 }) [Expr.Constant (Const.int 1) 0 { line := 12, col := 14, endLine := 12, endCol := 15 }] [] { line := 12, col := 8, endLine := 12, endCol := 16 }) { line := 12, col := 8, endLine := 12, endCol := 16 }], scope := { kind := ScopeKind.function, names := [(Str.ofString "self", NameKind.local), (Str.ofString "_wall", NameKind.globalImplicit)], isGenerator := false, isCoroutine := false }, globals := 0, closure := [], defaults := .none, kwdefaults := .none } } ::
 kC #[kS "word" 233, kS "UnknownKeeper.word" 234, kS "/claim/cut.py" 235, .int 11 0, .int 1 0, .int 0 0, .int 0 0, .int 3 0, .ref 49, .bool true, .int 181 0, .ref 50, .none, .ref 51, .ref 52, .ref 53, .int 237 0, .int 11 0, kS "/claim/cut.py" 238] ::
 kF "word" "UnknownKeeper.word" (kcls (ktop 3) 0) (kS "fencegate.errors" 194) 54 ::
 kT #[] ::
 { cls := .type "dict", data := Data.dict #[kE P "__module__" 228 (kS "fencegate.errors" 194), kE P "__firstlineno__" 232 (.int 9 231), kE P "word" 239 (.ref 55), kE P "__static_attributes__" 240 (.ref 56), kE P "__doc__" 241 (.none)] 2 } ::
 { cls := .type "type", data := Data.cls { name := Str.ofString "UnknownKeeper", bases := [.ref 38], mro := [.ref 58, .ref 38, .type "ValueError", .type "Exception", .type "BaseException", .type "object"], ns := 57, qualname := Str.ofString "UnknownKeeper" }, slots := #[some (.ref 42), none, some (kS "UnknownKeeper" 221), some (kS "UnknownKeeper" 229), some (.builtin "ValueError.__new__"), some (.bool true)] } ::
 { cls := .type "super", data := Data.fields #[.ref 58, .ref 58, .ref 58] } ::
 { cls := .type "builtin_function_or_method", data := Data.fields #[.builtin "object.__init_subclass__", .ref 58] } ::
 kT #[.ref 38] ::
 { cls := .type "builtin_function_or_method", data := Data.fields #[.builtin "type.__prepare__", .type "type"] } ::
 { cls := .type "dict", data := Data.dict #[kE P "__module__" 251 (kS "fencegate.errors" 194), kE P "__qualname__" 253 (kS "Down" 252), kE P "__firstlineno__" 255 (.int 13 254), kE P "word" 262 (.ref 74), kE P "__static_attributes__" 263 (.ref 75)] 5 } ::
 kT #[] ::
 { cls := .none, data := Data.fields #[.int 15 0, .int 4 0, .ref 73] } ::
 kC #[kS "Down" 246, kS "Down" 247, kS "/claim/cut.py" 248, .int 13 0, .int 0 0, .int 0 0, .int 0 0, .int 0 0, .ref 64, .bool false, .int 181 0, .ref 65, .none, .none, .none, .none, .int 249 0, .int 13 0, kS "/claim/cut.py" 250] ::
 { cls := .type "frame", slots := #[some (.ref 66), some (.ref 3), some (.ref 63), none, some (kS "fencegate.errors" 194), none, some (.ref 0)] } ::
 kT #[] ::
 { cls := .none, data := Data.fields #[] } ::
 kT #[kS "self" 259] ::
 kT #[] ::
 { cls := .none, data := Data.func { name := Str.ofString "word", qualname := Str.ofString "Down.word", params := { posonlyargs := [], args := [{ arg := Str.ofString "self", annotation := none, pos := { line := 15, col := 13, endLine := 15, endCol := 17 } }], vararg := none, kwonlyargs := [], kw_defaults := [], kwarg := none, defaults := [] }, body := FuncBody.stmts [Stmt.Expr (Expr.Call (Expr.Name (Str.ofString "_wall") { line := 16, col := 8, endLine := 16, endCol := 13 }) [Expr.Constant (Const.int 2) 0 { line := 16, col := 14, endLine := 16, endCol := 15 }] [] { line := 16, col := 8, endLine := 16, endCol := 16 }) { line := 16, col := 8, endLine := 16, endCol := 16 }], scope := { kind := ScopeKind.function, names := [(Str.ofString "self", NameKind.local), (Str.ofString "_wall", NameKind.globalImplicit)], isGenerator := false, isCoroutine := false }, globals := 0, closure := [], defaults := .none, kwdefaults := .none } } ::
 kC #[kS "word" 256, kS "Down.word" 257, kS "/claim/cut.py" 258, .int 15 0, .int 1 0, .int 0 0, .int 0 0, .int 3 0, .ref 68, .bool true, .int 181 0, .ref 69, .none, .ref 70, .ref 71, .ref 72, .int 260 0, .int 15 0, kS "/claim/cut.py" 261] ::
 kF "word" "Down.word" (kcls (ktop 4) 0) (kS "fencegate.errors" 194) 73 ::
 kT #[] ::
 { cls := .type "dict", data := Data.dict #[kE P "__module__" 251 (kS "fencegate.errors" 194), kE P "__firstlineno__" 255 (.int 13 254), kE P "word" 262 (.ref 74), kE P "__static_attributes__" 263 (.ref 75), kE P "__doc__" 264 (.none)] 2 } ::
 { cls := .type "type", data := Data.cls { name := Str.ofString "Down", bases := [.ref 38], mro := [.ref 77, .ref 38, .type "ValueError", .type "Exception", .type "BaseException", .type "object"], ns := 76, qualname := Str.ofString "Down" }, slots := #[some (.ref 61), none, some (kS "Down" 244), some (kS "Down" 252), some (.builtin "ValueError.__new__"), some (.bool true)] } ::
 { cls := .type "super", data := Data.fields #[.ref 77, .ref 77, .ref 77] } ::
 { cls := .type "builtin_function_or_method", data := Data.fields #[.builtin "object.__init_subclass__", .ref 77] } ::
 kT #[.ref 38] ::
 { cls := .type "builtin_function_or_method", data := Data.fields #[.builtin "type.__prepare__", .type "type"] } ::
 { cls := .type "dict", data := Data.dict #[kE P "__module__" 274 (kS "fencegate.errors" 194), kE P "__qualname__" 276 (kS "OldNumber" 275), kE P "__firstlineno__" 278 (.int 17 277), kE P "word" 285 (.ref 93), kE P "__static_attributes__" 286 (.ref 94)] 5 } ::
 kT #[] ::
 { cls := .none, data := Data.fields #[.int 19 0, .int 4 0, .ref 92] } ::
 kC #[kS "OldNumber" 269, kS "OldNumber" 270, kS "/claim/cut.py" 271, .int 17 0, .int 0 0, .int 0 0, .int 0 0, .int 0 0, .ref 83, .bool false, .int 181 0, .ref 84, .none, .none, .none, .none, .int 272 0, .int 17 0, kS "/claim/cut.py" 273] ::
 { cls := .type "frame", slots := #[some (.ref 85), some (.ref 3), some (.ref 82), none, some (kS "fencegate.errors" 194), none, some (.ref 0)] } ::
 kT #[] ::
 { cls := .none, data := Data.fields #[] } ::
 kT #[kS "self" 282] ::
 kT #[] ::
 { cls := .none, data := Data.func { name := Str.ofString "word", qualname := Str.ofString "OldNumber.word", params := { posonlyargs := [], args := [{ arg := Str.ofString "self", annotation := none, pos := { line := 19, col := 13, endLine := 19, endCol := 17 } }], vararg := none, kwonlyargs := [], kw_defaults := [], kwarg := none, defaults := [] }, body := FuncBody.stmts [Stmt.Expr (Expr.Call (Expr.Name (Str.ofString "_wall") { line := 20, col := 8, endLine := 20, endCol := 13 }) [Expr.Constant (Const.int 3) 0 { line := 20, col := 14, endLine := 20, endCol := 15 }] [] { line := 20, col := 8, endLine := 20, endCol := 16 }) { line := 20, col := 8, endLine := 20, endCol := 16 }], scope := { kind := ScopeKind.function, names := [(Str.ofString "self", NameKind.local), (Str.ofString "_wall", NameKind.globalImplicit)], isGenerator := false, isCoroutine := false }, globals := 0, closure := [], defaults := .none, kwdefaults := .none } } ::
 kC #[kS "word" 279, kS "OldNumber.word" 280, kS "/claim/cut.py" 281, .int 19 0, .int 1 0, .int 0 0, .int 0 0, .int 3 0, .ref 87, .bool true, .int 181 0, .ref 88, .none, .ref 89, .ref 90, .ref 91, .int 283 0, .int 19 0, kS "/claim/cut.py" 284] ::
 kF "word" "OldNumber.word" (kcls (ktop 5) 0) (kS "fencegate.errors" 194) 92 ::
 kT #[] ::
 { cls := .type "dict", data := Data.dict #[kE P "__module__" 274 (kS "fencegate.errors" 194), kE P "__firstlineno__" 278 (.int 17 277), kE P "word" 285 (.ref 93), kE P "__static_attributes__" 286 (.ref 94), kE P "__doc__" 287 (.none)] 2 } ::
 { cls := .type "type", data := Data.cls { name := Str.ofString "OldNumber", bases := [.ref 38], mro := [.ref 96, .ref 38, .type "ValueError", .type "Exception", .type "BaseException", .type "object"], ns := 95, qualname := Str.ofString "OldNumber" }, slots := #[some (.ref 80), none, some (kS "OldNumber" 267), some (kS "OldNumber" 275), some (.builtin "ValueError.__new__"), some (.bool true)] } ::
 { cls := .type "super", data := Data.fields #[.ref 96, .ref 96, .ref 96] } ::
 { cls := .type "builtin_function_or_method", data := Data.fields #[.builtin "object.__init_subclass__", .ref 96] } ::
 kT #[.ref 38] ::
 { cls := .type "builtin_function_or_method", data := Data.fields #[.builtin "type.__prepare__", .type "type"] } ::
 { cls := .type "dict", data := Data.dict #[kE P "__module__" 297 (kS "fencegate.errors" 194), kE P "__qualname__" 299 (kS "InTheWay" 298), kE P "__firstlineno__" 301 (.int 21 300), kE P "word" 308 (.ref 112), kE P "__static_attributes__" 309 (.ref 113)] 5 } ::
 kT #[] ::
 { cls := .none, data := Data.fields #[.int 23 0, .int 4 0, .ref 111] } ::
 kC #[kS "InTheWay" 292, kS "InTheWay" 293, kS "/claim/cut.py" 294, .int 21 0, .int 0 0, .int 0 0, .int 0 0, .int 0 0, .ref 102, .bool false, .int 181 0, .ref 103, .none, .none, .none, .none, .int 295 0, .int 21 0, kS "/claim/cut.py" 296] ::
 { cls := .type "frame", slots := #[some (.ref 104), some (.ref 3), some (.ref 101), none, some (kS "fencegate.errors" 194), none, some (.ref 0)] } ::
 kT #[] ::
 { cls := .none, data := Data.fields #[] } ::
 kT #[kS "self" 305] ::
 kT #[] ::
 { cls := .none, data := Data.func { name := Str.ofString "word", qualname := Str.ofString "InTheWay.word", params := { posonlyargs := [], args := [{ arg := Str.ofString "self", annotation := none, pos := { line := 23, col := 13, endLine := 23, endCol := 17 } }], vararg := none, kwonlyargs := [], kw_defaults := [], kwarg := none, defaults := [] }, body := FuncBody.stmts [Stmt.Expr (Expr.Call (Expr.Name (Str.ofString "_wall") { line := 24, col := 8, endLine := 24, endCol := 13 }) [Expr.Constant (Const.int 4) 0 { line := 24, col := 14, endLine := 24, endCol := 15 }] [] { line := 24, col := 8, endLine := 24, endCol := 16 }) { line := 24, col := 8, endLine := 24, endCol := 16 }], scope := { kind := ScopeKind.function, names := [(Str.ofString "self", NameKind.local), (Str.ofString "_wall", NameKind.globalImplicit)], isGenerator := false, isCoroutine := false }, globals := 0, closure := [], defaults := .none, kwdefaults := .none } } ::
 kC #[kS "word" 302, kS "InTheWay.word" 303, kS "/claim/cut.py" 304, .int 23 0, .int 1 0, .int 0 0, .int 0 0, .int 3 0, .ref 106, .bool true, .int 181 0, .ref 107, .none, .ref 108, .ref 109, .ref 110, .int 306 0, .int 23 0, kS "/claim/cut.py" 307] ::
 kF "word" "InTheWay.word" (kcls (ktop 6) 0) (kS "fencegate.errors" 194) 111 ::
 kT #[] ::
 { cls := .type "dict", data := Data.dict #[kE P "__module__" 297 (kS "fencegate.errors" 194), kE P "__firstlineno__" 301 (.int 21 300), kE P "word" 308 (.ref 112), kE P "__static_attributes__" 309 (.ref 113), kE P "__doc__" 310 (.none)] 2 } ::
 { cls := .type "type", data := Data.cls { name := Str.ofString "InTheWay", bases := [.ref 38], mro := [.ref 115, .ref 38, .type "ValueError", .type "Exception", .type "BaseException", .type "object"], ns := 114, qualname := Str.ofString "InTheWay" }, slots := #[some (.ref 99), none, some (kS "InTheWay" 290), some (kS "InTheWay" 298), some (.builtin "ValueError.__new__"), some (.bool true)] } ::
 { cls := .type "super", data := Data.fields #[.ref 115, .ref 115, .ref 115] } ::
 { cls := .type "builtin_function_or_method", data := Data.fields #[.builtin "object.__init_subclass__", .ref 115] } ::
 kT #[.ref 38] ::
 { cls := .type "builtin_function_or_method", data := Data.fields #[.builtin "type.__prepare__", .type "type"] } ::
 { cls := .type "dict", data := Data.dict #[kE P "__module__" 320 (kS "fencegate.errors" 194), kE P "__qualname__" 322 (kS "NotFree" 321), kE P "__firstlineno__" 324 (.int 25 323), kE P "word" 331 (.ref 131), kE P "__static_attributes__" 332 (.ref 132)] 5 } ::
 kT #[] ::
 { cls := .none, data := Data.fields #[.int 27 0, .int 4 0, .ref 130] } ::
 kC #[kS "NotFree" 315, kS "NotFree" 316, kS "/claim/cut.py" 317, .int 25 0, .int 0 0, .int 0 0, .int 0 0, .int 0 0, .ref 121, .bool false, .int 181 0, .ref 122, .none, .none, .none, .none, .int 318 0, .int 25 0, kS "/claim/cut.py" 319] ::
 { cls := .type "frame", slots := #[some (.ref 123), some (.ref 3), some (.ref 120), none, some (kS "fencegate.errors" 194), none, some (.ref 0)] } ::
 kT #[] ::
 { cls := .none, data := Data.fields #[] } ::
 kT #[kS "self" 328] ::
 kT #[] ::
 { cls := .none, data := Data.func { name := Str.ofString "word", qualname := Str.ofString "NotFree.word", params := { posonlyargs := [], args := [{ arg := Str.ofString "self", annotation := none, pos := { line := 27, col := 13, endLine := 27, endCol := 17 } }], vararg := none, kwonlyargs := [], kw_defaults := [], kwarg := none, defaults := [] }, body := FuncBody.stmts [Stmt.Expr (Expr.Call (Expr.Name (Str.ofString "_wall") { line := 28, col := 8, endLine := 28, endCol := 13 }) [Expr.Constant (Const.int 5) 0 { line := 28, col := 14, endLine := 28, endCol := 15 }] [] { line := 28, col := 8, endLine := 28, endCol := 16 }) { line := 28, col := 8, endLine := 28, endCol := 16 }], scope := { kind := ScopeKind.function, names := [(Str.ofString "self", NameKind.local), (Str.ofString "_wall", NameKind.globalImplicit)], isGenerator := false, isCoroutine := false }, globals := 0, closure := [], defaults := .none, kwdefaults := .none } } ::
 kC #[kS "word" 325, kS "NotFree.word" 326, kS "/claim/cut.py" 327, .int 27 0, .int 1 0, .int 0 0, .int 0 0, .int 3 0, .ref 125, .bool true, .int 181 0, .ref 126, .none, .ref 127, .ref 128, .ref 129, .int 329 0, .int 27 0, kS "/claim/cut.py" 330] ::
 kF "word" "NotFree.word" (kcls (ktop 7) 0) (kS "fencegate.errors" 194) 130 ::
 kT #[] ::
 { cls := .type "dict", data := Data.dict #[kE P "__module__" 320 (kS "fencegate.errors" 194), kE P "__firstlineno__" 324 (.int 25 323), kE P "word" 331 (.ref 131), kE P "__static_attributes__" 332 (.ref 132), kE P "__doc__" 333 (.none)] 2 } ::
 { cls := .type "type", data := Data.cls { name := Str.ofString "NotFree", bases := [.ref 38], mro := [.ref 134, .ref 38, .type "ValueError", .type "Exception", .type "BaseException", .type "object"], ns := 133, qualname := Str.ofString "NotFree" }, slots := #[some (.ref 118), none, some (kS "NotFree" 313), some (kS "NotFree" 321), some (.builtin "ValueError.__new__"), some (.bool true)] } ::
 { cls := .type "super", data := Data.fields #[.ref 134, .ref 134, .ref 134] } ::
 { cls := .type "builtin_function_or_method", data := Data.fields #[.builtin "object.__init_subclass__", .ref 134] } :: [])) {}
def kenv : Env := { scope := PySem.Challenge.pw_fencegate_k11_council_day.main.scope, locals := mainNs, globals := mainNs, cells := [], code := Value.ref 13, frame := some 14 }
def kfst : List Stmt := PySem.Challenge.pw_fencegate_k11_council_day.main.body.take 8
def kend : List Stmt := PySem.Challenge.pw_fencegate_k11_council_day.main.body.drop 8
set_option maxHeartbeats 0 in
theorem zj7 (w : World) (os : OsState) : PySem.W.topGo treeTable PySem.Challenge.rw_fencegate_k11_council_day.row.prog w 11 (some (Value.ref 6)) 12 ⟨PySem.W.boot_heap w.params, #[], PySem.W.boot_drawn, PySem.W.boot_toks, os⟩ (PySem.W.topStub PySem.Challenge.rw_fencegate_k11_council_day.row.prog) = some (⟨hA w.params, #[], {}, 187, os⟩, ⟨denote treeTable (.body (kfst ++ kend) kenv), (Code.body (PySem.W.behindTheImports PySem.Challenge.pw_fencegate_k11_council_day) kenv), ⟨0, 0, 0, 0⟩, [PySem.W.topFrame ⟨0, 0, 0, 0⟩]⟩) := by kernel_rfl
theorem zj8 (w : World) (os : OsState) : PySem.W.segRun treeTable PySem.Challenge.rw_fencegate_k11_council_day.row.prog w 11 (some (Value.ref 6)) 1 1 ⟨hA w.params, #[], {}, 187, os⟩ (PySem.W.blockOf (kfst ++ kend) kenv (Code.body (PySem.W.behindTheImports PySem.Challenge.pw_fencegate_k11_council_day) kenv) ⟨0, 0, 0, 0⟩ [PySem.W.topFrame ⟨0, 0, 0, 0⟩]) = some (.next, ⟨hB w.params, #[], {}, 187, os⟩, (Code.body (PySem.W.behindTheImports PySem.Challenge.pw_fencegate_k11_council_day) kenv), ⟨0, 0, 0, 0⟩) := by kernel_rfl
set_option maxHeartbeats 0 in
theorem zj9 (w : World) (os : OsState) : PySem.W.segRun treeTable PySem.Challenge.rw_fencegate_k11_council_day.row.prog w 11 (some (Value.ref 6)) 1 1470 ⟨hB w.params, #[], {}, 187, os⟩ (PySem.W.piecesOf kfst kenv (Code.body (PySem.W.behindTheImports PySem.Challenge.pw_fencegate_k11_council_day) kenv) ⟨0, 0, 0, 0⟩ [PySem.W.topFrame ⟨0, 0, 0, 0⟩]) = some (.next, ⟨hM w.params, #[], {}, 336, os⟩, (Code.body (PySem.W.behindTheImports PySem.Challenge.pw_fencegate_k11_council_day) kenv), ⟨25, 0, 28, 16⟩) := by kernel_rfl
set_option maxHeartbeats 0 in
theorem zid (w : World) (os : OsState) : ((PySem.W.topRun treeTable PySem.Challenge.rw_fencegate_k11_council_day.row.prog w 11 (some (Value.ref 6)) 3856 ⟨hM w.params, #[], {}, 336, os⟩ (PySem.W.restOf kend kenv (Code.body (PySem.W.behindTheImports PySem.Challenge.pw_fencegate_k11_council_day) kenv) ⟨25, 0, 28, 16⟩ [PySem.W.topFrame ⟨0, 0, 0, 0⟩])).bind fun s₁ => match PySem.W.staticsOk (importedModules PySem.Challenge.rw_fencegate_k11_council_day.row.prog.main.body) (PySem.W.boot_heap w.params) s₁.heap && PySem.W.namesBound PySem.Challenge.rw_fencegate_k11_council_day.row.prog s₁.heap && PySem.W.gensDone s₁ && PySem.W.laidKept (PySem.W.boot_heap w.params) s₁.heap with
  | true => some s₁
  | false => none).map (fun s => (PySem.W.openSeen vw [] (importedModules PySem.Challenge.rw_fencegate_k11_council_day.row.prog.main.body) (fun s => PySem.W.xlAt vw [] s && PySem.W.recOk (PySem.W.RowW.records (PySem.W.OpenRow.toRowW PySem.Challenge.rw_fencegate_k11_council_day.row)) s) true s, (PySem.W.kmHook kk ka ka_eq [425]).obs s)) = some (PySem.W.openGood vw [], (PySem.W.kmHook kk ka ka_eq [425]).val w) := by kernel_rfl
theorem zie (w : World) : (((PySem.W.boot_heap w.params).isNs mainGlobals && (#[] : Array GenState).size == 0), (PySem.W.boot_heap w.params).objs.size, (PySem.W.boot_heap w.params).nsMap mainGlobals "__annotations__") = (true, 11, (some (Value.ref 6))) := by kernel_rfl
theorem left_ok : PySem.W.LeftO PySem.Challenge.rw_fencegate_k11_council_day.row.prog vw [] (fun s => PySem.W.xlAt vw [] s && PySem.W.recOk (PySem.W.RowW.records (PySem.W.OpenRow.toRowW PySem.Challenge.rw_fencegate_k11_council_day.row)) s) (PySem.W.kmHook kk ka ka_eq [425]).obs (PySem.W.kmHook kk ka ka_eq [425]).val (12 + (1 + (1470 + 3856))) := fun w => by
 obtain ⟨⟨h, g, d, k, os⟩, hs, hv⟩ := Option.map_eq_some_iff.mp (PySem.W.boot_open (p := PySem.Challenge.rw_fencegate_k11_council_day.row.prog) (N := 12 + (1 + (1470 + 3856))) (by kernel_rfl) (by decide) (fun s => by kernel_rfl) w)
 simp only [Prod.mk.injEq] at hv
 obtain ⟨rfl, rfl, rfl, rfl⟩ := hv
 have R := zid w os
 obtain ⟨z1, z2, z3⟩ : _ ∧ _ ∧ _ := by simpa only [Prod.mk.injEq] using zie w
 cases e : PySem.W.topRun treeTable PySem.Challenge.rw_fencegate_k11_council_day.row.prog w 11 (some (Value.ref 6)) 3856 ⟨hM w.params, #[], {}, 336, os⟩ (PySem.W.restOf kend kenv (Code.body (PySem.W.behindTheImports PySem.Challenge.pw_fencegate_k11_council_day) kenv) ⟨25, 0, 28, 16⟩ [PySem.W.topFrame ⟨0, 0, 0, 0⟩]) with
 | none => rw [e] at R; cases R
 | some r =>
  rw [e] at R
  have G := PySem.W.go_top (zj7 w os) (PySem.W.piece_block (zj8 w os) (PySem.W.piece_app (zj9 w os) e))
  unfold PySem.W.openEnds
  rw [hs]
  show (PySem.W.topFrom treeTable PySem.Challenge.rw_fencegate_k11_council_day.row.prog w _ _).map _ = _
  unfold PySem.W.topFrom
  dsimp only
  rw [z1, z2, z3, G]
  exact R
end Fg
end
section
namespace L2
open PySem PySem.Spec PyProof.Rows
abbrev Key := Sum Int Str
def z74 : Key → Value → Bool
 | .inl k, v => Value.isInt k v
 | .inr x, v => Value.isStrOf x v
def keyH (w : World) : Key → Int
 | .inl k => hashInt k
 | .inr x => hashStr w x
theorem z1r : ∀ {k : Key} {v : Value}, z74 k v = true → (∃ i t, k = Sum.inl i ∧ v = Value.int i t) ∨ (∃ x t, k = Sum.inr x ∧ v = Value.str x t)
 | .inl i, v, h => by
  obtain ⟨t, e⟩ := Value.isInt_shape (k := i) (v := v) h
  exact .inl ⟨i, t, rfl, e⟩
 | .inr x, v, h => by
  obtain ⟨t, e⟩ := Value.isStrOf_shape (x := x) (v := v) h
  exact .inr ⟨x, t, rfl, e⟩
theorem zew (i : Int) (t : Tok) : z74 (.inl i) (.int i t) = true := by simp [z74, Value.isInt]
theorem zex (x : Str) (t : Tok) : z74 (.inr x) (.str x t) = true := by simp [z74, Value.isStrOf]
theorem zja (a b : Int) : decide ((Sum.inl a : Key) = Sum.inl b) = (a == b) := by
 by_cases e : a = b
 ·subst e; simp
 ·have h : ¬ (Sum.inl a : Key) = Sum.inl b := fun q => e (Sum.inl.inj q)
  rw [decide_eq_false h]
  exact (beq_eq_false_iff_ne.mpr e).symm
theorem zjb (a b : Str) : decide ((Sum.inr a : Key) = Sum.inr b) = decide (a = b) := by
 by_cases e : a = b
 ·subst e; simp
 ·have h : ¬ (Sum.inr a : Key) = Sum.inr b := fun q => e (Sum.inr.inj q)
  rw [decide_eq_false h, decide_eq_false e]
theorem zjc (a : Int) (b : Str) : decide ((Sum.inl a : Key) = Sum.inr b) = false := decide_eq_false (fun q => nomatch q)
theorem zjd (a : Str) (b : Int) : decide ((Sum.inr a : Key) = Sum.inl b) = false := decide_eq_false (fun q => nomatch q)
def z1o (prog : Program) (w : World) : PySem.KeyKind prog w Key where
 is := z74
 hash := keyH w
 inj := fun v a b ha hb => by
  rcases z1r ha with ⟨i, t, rfl, rfl⟩ | ⟨x, t, rfl, rfl⟩
  ·rcases z1r hb with ⟨j, u, rfl, e⟩ | ⟨y, u, rfl, e⟩
   ·injection e with e1 _; rw [e1]
   ·exact nomatch e
  ·rcases z1r hb with ⟨j, u, rfl, e⟩ | ⟨y, u, rfl, e⟩
   ·exact nomatch e
   ·injection e with e1 _; rw [e1]
 byValue := fun k v h => by
  rcases z1r h with ⟨i, t, rfl, rfl⟩ | ⟨x, t, rfl, rfl⟩ <;> rfl
 pyHash := fun hv h => by
  rcases z1r hv with ⟨i, t, rfl, rfl⟩ | ⟨x, t, rfl, rfl⟩
  ·exact wpAny_pyHash_int h
  ·exact wpAny_pyHash_str h
 eqBool := fun hu hv h => by
  rcases z1r hu with ⟨i, t, rfl, rfl⟩ | ⟨x, t, rfl, rfl⟩
  ·rcases z1r hv with ⟨j, u, rfl, rfl⟩ | ⟨y, u, rfl, rfl⟩
   ·rw [zja] at h; exact wpAny_eqBool_int h
   ·rw [zjc] at h; exact SeqAt.EqAt.int_str i t y u _ _ _ _ h
  ·rcases z1r hv with ⟨j, u, rfl, rfl⟩ | ⟨y, u, rfl, rfl⟩
   ·rw [zjd] at h; exact SeqAt.EqAt.str_int x t j u _ _ _ _ h
   ·rw [zjb] at h; exact wpAny_eqBool_str h
 «strs» := fun k x t v h => by
  rcases z1r h with ⟨i, u, rfl, e⟩ | ⟨y, u, rfl, e⟩
  ·exact nomatch e
  ·injection e with e1 _
   subst e1
   cases v <;> rfl
theorem zcj (prog : Program) (w : World) (i : Int) (t : Tok) : (z1o prog w).is (.inl i) (.int i t) = true := zew i t
theorem zck (prog : Program) (w : World) (x : Str) (t : Tok) : (z1o prog w).is (.inr x) (.str x t) = true := zex x t
end L2
namespace L2
open PySem PySem.Spec PyProof.Rows
inductive V where
 | non | bl (b : Bool) | int (i : Int) | str (x : Str) | byt (b : Array UInt8) | flt (b : UInt64) | ref (a : Addr) | ty (n : String)
 deriving DecidableEq
def RelV : V → Value → Prop
 | .non, u => u = Value.none
 | .bl b, u => u = Value.bool b
 | .int i, u => ∃ t, u = Value.int i t
 | .str x, u => ∃ t, u = Value.str x t
 | .byt b, u => ∃ t, u = Value.bytes b t
 | .flt b, u => ∃ t, u = Value.float b t
 | .ref a, u => u = Value.ref a
 | .ty n, u => u = Value.type n
abbrev Vals : List V → List Value → Prop := Paired RelV
theorem Vals.length {xs : List V} {us : List Value} (r : Vals xs us) : xs.length = us.length := Paired.length r
theorem Vals.get : ∀ {xs : List V} {us : List Value} {i : Nat} {x : V}, Vals xs us → xs[i]? = some x → ∃ u, us[i]? = some u ∧ RelV x u
 | _, _, _, _, .nil, e => by simp at e
 | _, _, 0, _, .cons r _, e => by simp at e; subst e; exact ⟨_, rfl, r⟩
 | _, _, i + 1, x, .cons _ t, e => by
  obtain ⟨u, h1, h2⟩ := Vals.get (i := i) (x := x) t (by simpa using e)
  exact ⟨u, by simpa using h1, h2⟩
theorem Vals.set {x : V} {u : Value} (r : RelV x u) : ∀ {xs : List V} {us : List Value} (i : Nat), Vals xs us → Vals (xs.set i x) (us.set i u)
 | _, _, _, .nil => .nil
 | _, _, 0, .cons _ t => .cons r t
 | _, _, i + 1, .cons q t => .cons q (Vals.set r i t)
theorem Vals.append : ∀ {xs ys : List V} {us ws : List Value}, Vals xs us → Vals ys ws → Vals (xs ++ ys) (us ++ ws)
 | _, _, _, _, .nil, s => s
 | _, _, _, _, .cons r t, s => .cons r (Vals.append t s)
theorem Vals.take : ∀ {xs : List V} {us : List Value} (n : Nat), Vals xs us → Vals (xs.take n) (us.take n)
 | _, _, 0, _ => .nil
 | _, _, _ + 1, .nil => .nil
 | _, _, n + 1, .cons r t => .cons r (Vals.take n t)
theorem Vals.drop : ∀ {xs : List V} {us : List Value} (n : Nat), Vals xs us → Vals (xs.drop n) (us.drop n)
 | _, _, 0, r => r
 | _, _, _ + 1, .nil => .nil
 | _, _, n + 1, .cons _ t => Vals.drop n t
theorem Vals.none_of : ∀ {xs : List V} {us : List Value} {i : Nat}, Vals xs us → xs[i]? = none → us[i]? = none := fun {xs us i} r e => by
 have h1 := r.length
 have h2 : xs.length ≤ i := List.getElem?_eq_none_iff.mp e
 exact List.getElem?_eq_none_iff.mpr (by omega)
def RelO : Option V → Option Value → Prop
 | some v, some u => RelV v u
 | none, none => True
 | _, _ => False
def KV {κ : Type} : List (κ × V) → List (κ × Value) → Prop := Paired fun (p : κ × V) (q : κ × Value) => p.1 = q.1 ∧ RelV p.2 q.2
def kV : Key → V
 | .inl i => .int i
 | .inr x => .str x
inductive HO where
 | lst (xs : List V)
 | tup (xs : List V)
 | dK (kvs : List (Key × V)) | dT (kvs : List (List Key × V))
 | set (S : Int → Bool) (n : Nat)
 | ins (C dx : Addr) (fs : List (Str × V))
 | own (x : Addr)
 | xd (fs : List (Str × V))
 | met (f x : Addr)
 | rng (lo hi : Int)
 | frz (o : Obj) (u : HO)
 | tbl (ps : Array Value)
 | ext (φ : Heap → Prop)
abbrev Hp := Addr → Option HO
def upd (H : Hp) (a : Addr) (o : HO) : Hp := fun b => if b = a then some o else H b
theorem z7 {H : Hp} {a : Addr} {o : HO} : upd H a o a = some o := by unfold upd; rw [if_pos rfl]
theorem z8 {H : Hp} {a b : Addr} {o : HO} (h : b ≠ a) : upd H a o b = H b := by unfold upd; rw [if_neg h]
theorem zk5 {H : Hp} {a b : Addr} {o u : HO} (h : H a = some o) (h' : H b = some u) (d : o ≠ u) : a ≠ b := by
 intro e; subst e; rw [h] at h'; exact d (Option.some.inj h')
theorem za {H : Hp} {a b : Addr} {o : HO} (h : H a = some o) (h' : H b = none) : a ≠ b := by
 intro e; subst e; rw [h] at h'; cases h'
section
variable (P : Program) (w : World)
def ObjOk (H : Hp) (h : Heap) (a : Addr) : HO → Prop
 | .lst xs => xs.length ≤ sizeLine ∧ ∃ (its : List Value) (n : Nat), Vals xs its ∧ h.get? a = some { cls := .type "list", data := .seq its.toArray n }
 | .tup xs => xs.length ≤ sizeLine ∧ ∃ its : List Value, Vals xs its ∧ IsTup h a its.toArray
 | .dK kvs => kvs.length ≤ sizeLine ∧ (a == sysModules) = false ∧ ∃ vs, KV kvs vs ∧ h.DictOf (z1o P w) a vs
 | .dT kvs => kvs.length ≤ sizeLine ∧ (a == sysModules) = false ∧ ∃ xs : List (List Key × Addr × Value),
   Paired (fun (p : List Key × V) (q : List Key × Addr × Value) => p.1 = q.1 ∧ H q.2.1 = some (.tup (p.1.map kV)) ∧ RelV p.2 q.2.2) kvs xs ∧
   ∃ o es ep, h.get? a = some o ∧ o.ExactDict ∧ o.data = .dict es ep ∧ es.toList = xs.map (entryOfKey (tupleKind (z1o P w))) ∧ (xs.map (·.1)).Nodup
 | .set S n => h.SetOf (intKind P w) a S n
 | .ins C dx fs => H dx = some (.own a) ∧ fs.length ≤ 1000 ∧ dx ≠ a ∧ h.get? a = some (PySem.W.instObj C dx) ∧
   ∃ mA, h.Ns1 dx mA ∧ (∀ f, RelO (fs.lookup f) (mA f)) ∧ PySem.Within mA (fs.map (·.1))
 | .own _ => ∃ o, h.get? a = some o
 | .xd fs => ∃ mA, h.Ns1 a mA ∧ ∀ f, RelO (fs.lookup f) (mA f)
 | .rng lo hi => ∃ t u v, h.get? a = some { cls := .type "range", data := .fields #[.int lo t, .int hi u, .int 1 v] }
 | .frz o u => h.get? a = some o ∧ ObjOk H h a u
 | .tbl ps => h.get? a = some { cls := .none, data := .fields ps }
 | .met f x => h.get? a = some (PySem.W.methodObj (.ref f) (.ref x))
 | .ext φ => φ h ∧ (∃ o, h.get? a = some o) ∧ ∀ h1 h2 : Heap, φ h1 → (∀ o, h1.get? a = some o → h2.get? a = some o) → φ h2
def HOk (H : Hp) (h : Heap) : Prop := ∀ a o, H a = some o → ObjOk P w H h a o
end
section
variable {P : Program} {w : World} {H H' : Hp} {h h' : Heap} {a : Addr} {o : HO}
theorem ObjOk.lt (x : ObjOk P w H h a o) : a < h.objs.size := by
 cases o with
 | lst xs => obtain ⟨_, _, _, _, e⟩ := x; exact Heap.lt_size e
 | tup xs => obtain ⟨_, _, _, p⟩ := x; exact p.lt
 | dK kvs => obtain ⟨_, _, _, _, o, _, _, e, _⟩ := x; exact Heap.lt_size e
 | dT kvs => obtain ⟨_, _, _, _, o, _, _, e, _⟩ := x; exact Heap.lt_size e
 | set S n => obtain ⟨o, _, _, _, e, _⟩ := x; exact Heap.lt_size e
 | ins C dx fs => obtain ⟨_, _, _, e, _⟩ := x; exact Heap.lt_size e
 | own y => obtain ⟨_, e⟩ := x; exact Heap.lt_size e
 | xd fs => obtain ⟨_, ⟨_, _, _, e, _⟩, _⟩ := x; exact Heap.lt_size e
 | rng lo hi => obtain ⟨_, _, _, e⟩ := x; exact Heap.lt_size e
 | frz ob u => obtain ⟨e, _⟩ := x; exact Heap.lt_size e
 | tbl ps => exact Heap.lt_size (show h.get? a = some _ from x)
 | met f y => exact Heap.lt_size (show h.get? a = some _ from x)
 | ext φ => obtain ⟨_, ⟨_, e⟩, _⟩ := x; exact Heap.lt_size e
theorem Paired.mapP {α β : Type} {F G : α → β → Prop} : ∀ {l₁ : List α} {l₂ : List β}, Paired F l₁ l₂ → (∀ a b, F a b → G a b) → Paired G l₁ l₂
 | _, _, .nil, _ => .nil
 | _, _, .cons r t, f => .cons (f _ _ r) (Paired.mapP t f)
theorem ObjOk.stay (x : ObjOk P w H h a o) (k : ∀ b u, (b = a ∨ H b = some (.own a)) → h.get? b = some u → h'.get? b = some u)
  (ho : ∀ b, H b = some (.own a) → H' b = some (.own a)) (ht : ∀ b xs, H b = some (.tup xs) → H' b = some (.tup xs)) : ObjOk P w H' h' a o := by
 induction o with
 | lst xs => obtain ⟨z, its, n, r, e⟩ := x; exact ⟨z, its, n, r, k _ _ (.inl rfl) e⟩
 | tup xs => obtain ⟨z, its, r, ob, e, c⟩ := x; exact ⟨z, its, r, ob, k _ _ (.inl rfl) e, c⟩
 | dK kvs => obtain ⟨z, y, vs, r, ob, es, ep, e, c⟩ := x; exact ⟨z, y, vs, r, ob, es, ep, k _ _ (.inl rfl) e, c⟩
 | dT kvs =>
  obtain ⟨z, y, xs, r, ob, es, ep, e, c⟩ := x
  exact ⟨z, y, xs, Paired.mapP r fun p q z => ⟨z.1, ht _ _ z.2.1, z.2.2⟩, ob, es, ep, k _ _ (.inl rfl) e, c⟩
 | set S n => obtain ⟨ob, es, ep, t, e, c⟩ := x; exact ⟨ob, es, ep, t, k _ _ (.inl rfl) e, c⟩
 | ins C dx fs =>
  obtain ⟨d, z, ne, e, mA, ⟨od, es, ep, e2, c⟩, r⟩ := x
  exact ⟨ho _ d, z, ne, k _ _ (.inl rfl) e, mA, ⟨od, es, ep, k _ _ (.inr d) e2, c⟩, r⟩
 | own y => obtain ⟨ob, e⟩ := x; exact ⟨ob, k _ _ (.inl rfl) e⟩
 | xd fs => obtain ⟨mA, ⟨od, es, ep, e, c⟩, r⟩ := x; exact ⟨mA, ⟨od, es, ep, k _ _ (.inl rfl) e, c⟩, r⟩
 | rng lo hi => obtain ⟨t, u, v, e⟩ := x; exact ⟨t, u, v, k _ _ (.inl rfl) e⟩
 | frz ob u ih => obtain ⟨e, q⟩ := x; exact ⟨k _ _ (.inl rfl) e, ih q⟩
 | tbl ps =>
  have e : h.get? a = some { cls := .none, data := .fields ps } := x
  show h'.get? a = some { cls := .none, data := .fields ps }
  exact k a _ (.inl rfl) e
 | met f y =>
  have e : h.get? a = some (PySem.W.methodObj (.ref f) (.ref y)) := x
  show h'.get? a = some (PySem.W.methodObj (.ref f) (.ref y))
  exact k a _ (.inl rfl) e
 | ext φ => obtain ⟨p, ⟨o, e⟩, st⟩ := x; exact ⟨st _ _ p fun o q => k _ _ (.inl rfl) q, ⟨o, k _ _ (.inl rfl) e⟩, st⟩
theorem HOk.lt (x : HOk P w H h) (e : H a = some o) : a < h.objs.size := (x a o e).lt
theorem HOk.fresh (x : HOk P w H h) (e : h.objs.size ≤ a) : H a = none := by
 cases q : H a with
 | none => rfl
 | some u => exact absurd (Nat.lt_of_lt_of_le (x.lt q) e) (Nat.lt_irrefl _)
theorem HOk.kept (x : HOk P w H h) (k : ∀ b u, h.get? b = some u → h'.get? b = some u) : HOk P w H h' := fun a o e =>
 (x a o e).stay (fun b u _ q => k b u q) (fun _ q => q) fun _ _ q => q
theorem HOk.laid (x : HOk P w H h) (k : ∀ b u, h.get? b = some u → h'.get? b = some u) (hp : h.objs.size ≤ a) (new : ObjOk P w (upd H a o) h' a o) : HOk P w (upd H a o) h' := fun b u e => by
 have hn := x.fresh hp
 by_cases hb : b = a
 ·subst hb; rw [z7] at e; cases e; exact new
 ·rw [z8 hb] at e
  exact (x b u e).stay (fun c v _ q => k c v q) (fun c q => by rw [z8 (za q hn)]; exact q) fun c xs q => by rw [z8 (za q hn)]; exact q
end
def Rd (H : Hp) (a : Addr) (u : HO) : Prop := H a = some u ∨ ∃ o, H a = some (.frz o u)
theorem Rd.of {H : Hp} {a : Addr} {u : HO} (h : H a = some u) : Rd H a u := .inl h
theorem Rd.ok {P : Program} {w : World} {H : Hp} {h : Heap} {a : Addr} {u : HO} (r : Rd H a u) (x : HOk P w H h) : ObjOk P w H h a u := by
 rcases r with r | ⟨o, r⟩
 ·exact x a u r
 ·obtain ⟨_, q⟩ := x a _ r
  exact q
def Mut : Option HO → Prop
 | some (.lst _) => True
 | some (.dK _) => True
 | some (.dT _) => True
 | some (.set _ _) => True
 | some (.ins _ _ _) => True
 | some (.ext _) => True
 | _ => False
section
variable {P : Program} {w : World} {H : Hp} {h h' : Heap} {x e : Addr} {o' : HO}
theorem HOk.write (ok : HOk P w H h) (mu : Mut (H x)) (he : e = x ∨ H e = some (.own x)) (k : ∀ b u, b ≠ e → h.get? b = some u → h'.get? b = some u) (heo : ∃ u, h'.get? e = some u)
  (new : ObjOk P w (upd H x o') h' x o') : HOk P w (upd H x o') h' := fun b u q => by
 have nown : ∀ c y, H c = some (.own y) → c ≠ x := fun c y r z => by subst z; rw [r] at mu; exact mu
 have ntup : ∀ c xs, H c = some (.tup xs) → c ≠ x := fun c xs r z => by subst z; rw [r] at mu; exact mu
 by_cases hb : b = x
 ·subst hb; rw [z7] at q; cases q; exact new
 ·rw [z8 hb] at q
  by_cases hbe : b = e
  ·have q' : H b = some (.own x) := by
    rcases he with z | z
    ·exact absurd (hbe.trans z) hb
    ·rw [hbe]; exact z
   rw [q] at q'; cases q'
   obtain ⟨v, hv⟩ := heo
   exact ⟨v, by rw [hbe]; exact hv⟩
  ·refine (ok b u q).stay (fun c v hc r => k c v ?_ r) (fun c r => by rw [z8 (nown c b r)]; exact r) fun c xs r => by rw [z8 (ntup c xs r)]; exact r
   rcases hc with rfl | hc
   ·exact hbe
   ·rintro rfl
    rcases he with z | z
    ·exact nown c b hc z
    ·rw [hc] at z; cases z; exact hb rfl
end
structure Un (fs ex : List Addr) (H H' : Hp) (h h' : Heap) : Prop where
 keep : ∀ b o, h.get? b = some o → H b = none → b ∉ fs → b ∉ ex → h'.get? b = some o
 slot : ∀ b o, h.get? b = some o → H b = none → b ∈ fs → b ∉ ex → ∃ sl, h'.get? b = some { o with slots := sl }
 free : ∀ b o, h.get? b = some o → H b = none → b ∉ ex → H' b = none
 there : ∀ b o, h.get? b = some o → b ∉ ex → ∃ o', h'.get? b = some o'
 tups : ∀ b xs, H b = some (.tup xs) → H' b = some (.tup xs)
 frzs : ∀ b o u, H b = some (.frz o u) → H' b = some (.frz o u)
 tbls : ∀ b ps, H b = some (.tbl ps) → ∃ more, H' b = some (.tbl (ps ++ more))
section
variable {fs fs' ex ex' : List Addr} {H H1 H2 : Hp} {h h1 h2 h' : Heap} {a x e : Addr} {o : HO}
theorem Un.any (u : Un fs ex H H1 h h1) {b : Addr} {ob : Obj} (q : h.get? b = some ob) (n : H b = none) (hx : b ∉ ex) : ∃ sl, h1.get? b = some { ob with slots := sl } := by
 by_cases hb : b ∈ fs
 ·exact u.slot b ob q n hb hx
 ·exact ⟨ob.slots, u.keep b ob q n hb hx⟩
theorem Un.trans (a : Un fs ex H H1 h h1) (b : Un fs ex H1 H2 h1 h2) : Un fs ex H H2 h h2 where
 keep := fun c ob q n hc hx => b.keep c ob (a.keep c ob q n hc hx) (a.free c ob q n hx) hc hx
 slot := fun c ob q n hc hx => by
  obtain ⟨sl, e1⟩ := a.slot c ob q n hc hx
  obtain ⟨sl', e2⟩ := b.slot c _ e1 (a.free c ob q n hx) hc hx
  exact ⟨sl', e2⟩
 free := fun c ob q n hx => by
  obtain ⟨o', e1⟩ := a.there c ob q hx
  exact b.free c o' e1 (a.free c ob q n hx) hx
 there := fun c ob q hx => by
  obtain ⟨o', e1⟩ := a.there c ob q hx
  exact b.there c o' e1 hx
 tups := fun c xs q => b.tups c xs (a.tups c xs q)
 frzs := fun c ob xs q => b.frzs c ob xs (a.frzs c ob xs q)
 tbls := fun c ps q => by
  obtain ⟨m1, e1⟩ := a.tbls c ps q
  obtain ⟨m2, e2⟩ := b.tbls c _ e1
  exact ⟨m1 ++ m2, by rw [e2, Array.append_assoc]⟩
theorem Un.kept (k : ∀ b u, h.get? b = some u → h'.get? b = some u) : Un fs ex H H h h' :=
 ⟨fun b ob q _ _ _ => k b ob q, fun b ob q _ _ _ => ⟨ob.slots, k b ob q⟩, fun _ _ _ n _ => n, fun b ob q _ => ⟨ob, k b ob q⟩, fun _ _ q => q, fun _ _ _ q => q, fun _ ps q => ⟨#[], by rw [q]; simp⟩⟩
theorem Un.refl : Un fs ex H H h h := Un.kept fun _ _ q => q
theorem Un.laid (k : ∀ b u, h.get? b = some u → h'.get? b = some u) (hp : h.objs.size ≤ a) (hn : H a = none) : Un fs ex H (upd H a o) h h' where
 keep := fun b u q _ _ _ => k b u q
 slot := fun b u q _ _ _ => ⟨u.slots, k b u q⟩
 free := fun b u q n _ => by rw [z8 (Nat.ne_of_lt (Nat.lt_of_lt_of_le (Heap.lt_size q) hp))]; exact n
 there := fun b u q _ => ⟨u, k b u q⟩
 tups := fun b xs q => by rw [z8 (za q hn)]; exact q
 frzs := fun b u xs q => by rw [z8 (za q hn)]; exact q
 tbls := fun b ps q => ⟨#[], by rw [z8 (za q hn), q]; simp⟩
theorem Un.write (mu : Mut (H x)) (he : e = x ∨ H e = some (.own x)) (k : ∀ b u, b ≠ e → h.get? b = some u → h'.get? b = some u) (heo : ∃ u, h'.get? e = some u) : Un fs ex H (upd H x o) h h' := by
 have hx : ∀ b, H b = none → b ≠ x := fun b n z => by subst z; rw [n] at mu; exact mu
 have hb : ∀ b, H b = none → b ≠ e := fun b n z => by
  subst z
  rcases he with r | r
  ·exact hx b n r
  ·rw [n] at r; cases r
 have hm : ∀ b u, H b = some u → ¬ Mut (some u) → b ≠ x := fun b u q nm z => by subst z; rw [q] at mu; exact nm mu
 refine ⟨fun b u q n _ _ => k b u (hb b n) q, fun b u q n _ _ => ⟨u.slots, k b u (hb b n) q⟩, fun b u q n _ => by rw [z8 (hx b n)]; exact n, fun b u q _ => ?_,
  fun b xs q => by rw [z8 (hm b _ q fun z => z)]; exact q, fun b u xs q => by rw [z8 (hm b _ q fun z => z)]; exact q, fun b ps q => ⟨#[], by rw [z8 (hm b _ q fun z => z), q]; simp⟩⟩
 by_cases hbe : b = e
 ·subst hbe; exact heo
 ·exact ⟨u, k b u hbe q⟩
theorem Un.mono (u : Un fs ex H H1 h h1) (hs : ∀ b ∈ fs, b ∈ fs') (hx : ∀ b ∈ ex, b ∈ ex') : Un fs' ex' H H1 h h1 :=
 ⟨fun b ob q n hb he => u.keep b ob q n (fun z => hb (hs b z)) fun z => he (hx b z), fun _ _ q n _ he => u.any q n fun z => he (hx _ z), fun b ob q n he => u.free b ob q n fun z => he (hx b z), fun b ob q he => u.there b ob q fun z => he (hx b z), u.tups, u.frzs, u.tbls⟩
end
def trk (h : Heap) (H : Hp) : List Addr := (List.range h.objs.size).filter fun a => (H a).isSome
def hidT (h : Heap) (H : Hp) : Heap := PySem.W.hideAll h (trk h H)
theorem zey (h : Heap) (H : Hp) : (hidT h H).objs.size = h.objs.size := PySem.W.hideAll_size _ _
theorem zgv {h : Heap} {H : Hp} {b : Addr} {o : Obj} (e : h.get? b = some o) (n : H b = none) : (hidT h H).get? b = some o :=
 PySem.W.hideAll_get _ e fun hm => by
  have q : (H b).isSome = true := (List.mem_filter.mp hm).2
  rw [n] at q; simp at q
theorem zif {h : Heap} {H : Hp} {b : Addr} {o : Obj} (e : (hidT h H).get? b = some o) : h.get? b = some o ∧ H b = none := by
 have e' : h.get? b = some o := PySem.W.of_hideAll (trk h H) e
 refine ⟨e', ?_⟩
 cases q : H b with
 | none => rfl
 | some x =>
  have hm : b ∈ trk h H := List.mem_filter.mpr ⟨List.mem_range.mpr (Heap.lt_size e'), by simp [q]⟩
  have z : (hidT h H).get? b = none := PySem.W.hideAll_none (trk h H) hm
  rw [z] at e; cases e
def z4h (g h : Heap) (L : Addr) : List (Addr × Obj) := (List.range h.objs.size).filterMap fun a => if a = L ∨ (g.get? a).isSome = true then none else (h.get? a).map fun o => (a, o)
theorem z7j {g h : Heap} {L a : Addr} {o : Obj} (h1 : a ≠ L) (h2 : g.get? a = none) (h3 : h.get? a = some o) : (a, o) ∈ z4h g h L :=
 List.mem_filterMap.mpr ⟨a, List.mem_range.mpr (Heap.lt_size h3), by simp [h1, h2, h3]⟩
theorem z9e {g h : Heap} {L : Addr} {p : Addr × Obj} (hp : p ∈ z4h g h L) : p.1 ≠ L ∧ g.get? p.1 = none ∧ h.get? p.1 = some p.2 := by
 obtain ⟨b, _, e⟩ := List.mem_filterMap.mp hp
 split at e
 ·cases e
 ·rename_i hn
  cases q : h.get? b with
  | none => rw [q] at e; simp at e
  | some u =>
   rw [q] at e
   simp only [Option.map_some, Option.some.injEq] at e
   subst e
   refine ⟨fun z => hn (.inl z), ?_, q⟩
   show g.get? b = none
   cases r : g.get? b with
   | none => rfl
   | some v => exact (hn (.inr (by simp [r]))).elim
def rest (g h : Heap) (L d : Addr) : List (Addr × Obj) := (z4h g h L).filter fun p => decide (p.1 ≠ d)
theorem zgw {g h : Heap} {L : Addr} : News g L h (z4h g h L) := fun p hp => let ⟨a, b, c⟩ := z9e hp; ⟨c, a, b⟩
end L2
namespace L2
open PySem PySem.Spec PyProof.Rows
structure Mod (K : PySem.W.Frag) (mg : Str → Option Value) (base : Heap) : Prop where
 kin : K.In base
 glob : base.Ns mainGlobals mg
 blt : ∃ mb, base.Ns builtinsNs mb ∧ ∀ x : Str, x ≠ "__name__" → mb x = bootBuiltins x
 nolimit : base.NoLimit
structure Cx where
 prog : Program
 w : World
 K : PySem.W.Frag
 mg : Str → Option Value
 base : Heap
 A : Around
 N : List Str
 s₀ : Shared
 H₀ : Hp
 env : Env
 outer : List Env
 stack : List Env
 ex : List Addr
 fn : Str → Bool
 calm : Bool
 pn : List (Addr × Obj)
 xe : Value → Shared → Prop
def frs (l : List Env) : List Addr := l.filterMap (·.frame)
abbrev Cx.fs (X : Cx) : List Addr := frs X.outer
def Vis (sc : Scope) (x : Str) : Prop := sc.names.lookup x = some .local ∨ sc.names.lookup x = some .cell ∨ sc.names.lookup x = some .free
def Loc (sc : Scope) (x : Str) : Prop := sc.names.lookup x = some .local ∨ sc.names.lookup x = some .cell
def Look (env : Env) (h : Heap) (m : Str → Option Value) (x : Str) (u : Value) : Prop :=
 (env.kindOf x = some .local ∧ m x = some u) ∨ ((env.kindOf x = some .cell ∨ env.kindOf x = some .free) ∧ ∃ c, env.cells.lookup x = some c ∧ h.IsCell c (some u))
structure Cx.Ok (X : Cx) : Prop where
 mod : Mod X.K X.mg X.base
 kind : X.env.scope.kind = .function
 glob : X.env.globals = mainGlobals
 blt : X.env.builtins = builtinsNs
 above : X.s₀.heap.objs.size ≤ X.env.locals
 inj : ∀ x y c, X.env.cells.lookup x = some c → X.env.cells.lookup y = some c → x = y
 has : ∀ x, (X.env.kindOf x = some .cell ∨ X.env.kindOf x = some .free) → ∃ c, X.env.cells.lookup x = some c
 cab : ∀ x c, X.fn x = true → X.env.cells.lookup x = some c → X.s₀.heap.objs.size ≤ c
 hd : X.calm = true → X.A.handled = none
 frames : X.A.frames = some X.stack
 stk : X.stack = X.outer ∨ (X.stack = X.env :: X.outer ∧ X.env.frame = some X.env.locals)
 exf : ∀ b ∈ X.ex, b ≠ X.env.locals ∧ ∀ x c, X.env.cells.lookup x = some c → c ≠ b
 bs : ∀ b o, X.base.get? b = some o → X.s₀.heap.get? b = some o ∧ X.H₀ b = none
 bsz : X.base.objs.size ≤ X.s₀.heap.objs.size
 noex : ∀ b o, X.base.get? b = some o → b ∉ X.ex
 exfs : ∀ b ∈ X.ex, b ∉ X.fs
 funs : X.s₀.heap.FunFrames X.base X.outer
 frf : ∀ b ∈ X.fs, X.H₀ b = none
structure Inv (X : Cx) (pins : List (Addr × Obj)) (σ : List (Option V)) (H : Hp) (s : Shared) : Prop where
 ok : X.Ok
 os : s.os = X.s₀.os
 bare : AllBare s.gens
 base : Un X.fs X.ex X.H₀ H X.s₀.heap s.heap
 loc : ∃ m, s.heap.Ns X.env.locals m ∧ ∀ (i : Nat) (x : Str) (v : V), X.N[i]? = some x → σ[i]? = some (some v) → Vis X.env.scope x → ∃ u, RelV v u ∧ Look X.env s.heap m x u
 cell : ∀ x c, X.env.cells.lookup x = some c → ∃ v, s.heap.IsCell c v
 free : H X.env.locals = none
 freeC : ∀ x c, X.env.cells.lookup x = some c → H c = none
 pin : ∀ p ∈ X.pn ++ pins, s.heap.get? p.1 = some p.2 ∧ H p.1 = none ∧ p.1 ≠ X.env.locals ∧ p.1 ∉ X.fs ∧ ∀ v, p.2.data ≠ .cell v
 hok : HOk X.prog X.w H s.heap
 len : σ.length = X.N.length
section
variable {X : Cx} {pins : List (Addr × Obj)} {σ : List (Option V)} {H H' : Hp} {s : Shared} {h' : Heap}
theorem Cx.Ok.nofr (ok : X.Ok) {b : Addr} {o : Obj} (e : X.base.get? b = some o) : b ∉ X.fs := fun hb => by
 have := (ok.funs.mem hb).1
 rw [e] at this; cases this
theorem Inv.bs (I : Inv X pins σ H s) : ∀ b o, X.base.get? b = some o → s.heap.get? b = some o ∧ H b = none := fun b o e =>
 ⟨I.base.keep b o (I.ok.bs b o e).1 (I.ok.bs b o e).2 (I.ok.nofr e) (I.ok.noex b o e), I.base.free b o (I.ok.bs b o e).1 (I.ok.bs b o e).2 (I.ok.noex b o e)⟩
theorem Inv.bk (I : Inv X pins σ H s) : ∀ b o, X.base.get? b = some o → s.heap.get? b = some o := fun b o e => (I.bs b o e).1
theorem Inv.mod (I : Inv X pins σ H s) : Mod X.K X.mg X.base := I.ok.mod
theorem Inv.kIn (I : Inv X pins σ H s) : X.K.In s.heap := I.ok.mod.kin.keeps I.bk
theorem Inv.nolimit (I : Inv X pins σ H s) : s.heap.NoLimit := I.ok.mod.nolimit.keeps I.bk
theorem Inv.fr (I : Inv X pins σ H s) : ∃ m, Fr X.base X.env.locals s.heap m :=
 let ⟨m, hn, _⟩ := I.loc
 ⟨m, hn, I.bk, Nat.le_trans I.ok.bsz I.ok.above⟩
theorem Inv.lt (I : Inv X pins σ H s) : X.env.locals < s.heap.objs.size := let ⟨_, hn, _⟩ := I.loc; hn.lt
theorem Inv.sz (I : Inv X pins σ H s) : X.s₀.heap.objs.size ≤ s.heap.objs.size := Nat.le_trans I.ok.above (Nat.le_of_lt I.lt)
theorem Inv.nofs (I : Inv X pins σ H s) {a : Addr} (h : s.heap.objs.size ≤ a) : a ∉ X.fs := fun hb => by
 obtain ⟨_, o, ho, _⟩ := I.ok.funs.mem hb
 exact absurd (Nat.lt_of_lt_of_le (Heap.lt_size ho) (Nat.le_trans I.sz h)) (Nat.lt_irrefl _)
theorem Inv.cne (I : Inv X pins σ H s) : ∀ x c, X.env.cells.lookup x = some c → c ≠ X.env.locals := fun x c e z => by
 obtain ⟨v, o, ho, hd⟩ := I.cell x c e
 obtain ⟨m, ⟨o', es, ep, ho', hd', _⟩, _⟩ := I.loc
 rw [z, ho'] at ho; cases ho; rw [hd'] at hd; cases hd
theorem Inv.funs (I : Inv X pins σ H s) : s.heap.FunFrames X.base X.outer := by
 have all : ∀ (l : List Env), (∀ b ∈ frs l, b ∈ X.fs) → X.s₀.heap.FunFrames X.base l → s.heap.FunFrames X.base l := by
  intro l
  induction l with
  | nil => intro _ _; trivial
  | cons env r ih =>
   intro hs hl
   obtain ⟨hk, ⟨L, o, hf, hn, ho, hd⟩, hr⟩ := hl
   have hL : L ∈ X.fs := hs L (by unfold frs; rw [List.filterMap_cons, hf]; exact List.mem_cons_self)
   obtain ⟨sl, e⟩ := I.base.slot L o ho (I.ok.frf L hL) hL fun z => I.ok.exfs L z hL
   exact ⟨hk, ⟨L, _, hf, hn, e, hd⟩, ih (fun b hb => hs b (by unfold frs; rw [List.filterMap_cons, hf]; exact List.mem_cons_of_mem _ hb)) hr⟩
 exact all X.outer (fun _ hb => hb) I.ok.funs
theorem Inv.stack (I : Inv X pins σ H s) : s.heap.FunFrames X.base X.stack := by
 rcases I.ok.stk with e | ⟨e, hf⟩
 ·rw [e]; exact I.funs
 ·rw [e]
  obtain ⟨m, hn, _⟩ := I.loc
  refine .cons (by rw [I.ok.kind]; decide) hf hn ?_ I.funs
  exact Heap.get?_none_of_le (Nat.le_trans I.ok.bsz I.ok.above)
theorem Inv.stkSub (I : Inv X pins σ H s) : ∀ b ∈ frs X.stack, b ∈ X.env.locals :: X.fs := fun b hb => by
 rcases I.ok.stk with e | ⟨e, hf⟩
 ·rw [e] at hb; exact List.mem_cons_of_mem _ hb
 ·rw [e] at hb
  unfold frs at hb
  rw [List.filterMap_cons, hf] at hb
  exact hb
theorem Inv.stkFree (I : Inv X pins σ H s) : ∀ b ∈ frs X.stack, H b = none := fun b hb => by
 rcases List.mem_cons.mp (I.stkSub b hb) with e | hb
 ·rw [e]; exact I.free
 ·obtain ⟨_, o, ho, _⟩ := I.ok.funs.mem hb
  exact I.base.free b o ho (I.ok.frf b hb) fun z => I.ok.exfs b z hb
theorem Inv.step {g' : Array GenState} {t' : Nat} {d' : Drawn} {ch : List Addr} (I : Inv X pins σ H s)
  (hch : ∀ b ∈ ch, (b ∈ X.ex ∨ X.s₀.heap.objs.size ≤ b) ∧ b ≠ X.env.locals ∧ (∀ x c, X.env.cells.lookup x = some c → c ≠ b) ∧ ∀ p ∈ X.pn ++ pins, p.1 ≠ b)
  (keep : ∀ b o, b ≠ X.env.locals → b ∉ X.fs → b ∉ ch → s.heap.get? b = some o → H b = none → h'.get? b = some o)
  (slot : ∀ b o, b ≠ X.env.locals → b ∈ X.fs → b ∉ ch → s.heap.get? b = some o → H b = none → ∃ sl, h'.get? b = some { o with slots := sl }) (free : ∀ b o, b ∉ ch → s.heap.get? b = some o → H b = none → H' b = none)
  (there : ∀ b o, b ∉ ch → s.heap.get? b = some o → ∃ o', h'.get? b = some o')
  (tups : ∀ b xs, H b = some (.tup xs) → H' b = some (.tup xs)) (frzs : ∀ b o u, H b = some (.frz o u) → H' b = some (.frz o u)) (tbls : ∀ b ps, H b = some (.tbl ps) → ∃ more, H' b = some (.tbl (ps ++ more)))
  (ns : ∀ m, s.heap.Ns X.env.locals m → h'.Ns X.env.locals m) (hok : HOk X.prog X.w H' h') (hg : AllBare g') :
  Inv X pins σ H' { s with heap := h', gens := g', drawn := d', toks := t' } := by
 have neL : ∀ b o, X.s₀.heap.get? b = some o → b ≠ X.env.locals := fun b o e => Nat.ne_of_lt (Nat.lt_of_lt_of_le (Heap.lt_size e) I.ok.above)
 have neC : ∀ b o, X.s₀.heap.get? b = some o → b ∉ X.ex → b ∉ ch := fun b o e hx hb => by
  rcases (hch b hb).1 with z | z
  ·exact hx z
  ·exact absurd (Nat.lt_of_lt_of_le (Heap.lt_size e) z) (Nat.lt_irrefl _)
 have cellK : ∀ x c, X.env.cells.lookup x = some c → ∀ v, s.heap.IsCell c v → h'.IsCell c v := fun x c e v ⟨o, ho, hd⟩ => by
  have nch : c ∉ ch := fun z => (hch c z).2.2.1 x c e rfl
  by_cases hc : c ∈ X.fs
  ·obtain ⟨sl, q⟩ := slot c o (I.cne x c e) hc nch ho (I.freeC x c e)
   exact ⟨_, q, hd⟩
  ·exact ⟨o, keep c o (I.cne x c e) hc nch ho (I.freeC x c e), hd⟩
 refine ⟨I.ok, I.os, hg, ⟨fun b o e n hb hx => ?_, fun b o e n hb hx => ?_, fun b o e n hx => ?_, fun b o e hx => ?_, fun b xs e => tups b xs (I.base.tups b xs e), fun b o xs e => frzs b o xs (I.base.frzs b o xs e), fun b ps e => ?_⟩, ?_, fun x c e => ?_, ?_, fun x c e => ?_, fun p hp => ?_, hok, I.len⟩
 ·exact keep b o (neL b o e) hb (neC b o e hx) (I.base.keep b o e n hb hx) (I.base.free b o e n hx)
 ·obtain ⟨sl, e1⟩ := I.base.slot b o e n hb hx
  obtain ⟨sl', e2⟩ := slot b _ (neL b o e) hb (neC b o e hx) e1 (I.base.free b o e n hx)
  exact ⟨sl', e2⟩
 ·obtain ⟨o', e1⟩ := I.base.there b o e hx
  exact free b o' (neC b o e hx) e1 (I.base.free b o e n hx)
 ·obtain ⟨o', e1⟩ := I.base.there b o e hx
  exact there b o' (neC b o e hx) e1
 ·obtain ⟨m1, e1⟩ := I.base.tbls b ps e
  obtain ⟨m2, e2⟩ := tbls b _ e1
  exact ⟨m1 ++ m2, by rw [e2, Array.append_assoc]⟩
 ·obtain ⟨m, hn, hl⟩ := I.loc
  refine ⟨m, ns m hn, fun i x v e1 e2 e3 => ?_⟩
  obtain ⟨u, r, l⟩ := hl i x v e1 e2 e3
  refine ⟨u, r, ?_⟩
  rcases l with l | ⟨k, c, e, z⟩
  ·exact .inl l
  ·exact .inr ⟨k, c, e, cellK x c e _ z⟩
 ·obtain ⟨v, z⟩ := I.cell x c e
  exact ⟨v, cellK x c e v z⟩
 ·obtain ⟨m, ⟨o, _, _, ho, _⟩, _⟩ := I.loc
  exact free _ o (fun z => (hch _ z).2.1 rfl) ho I.free
 ·obtain ⟨v, o, ho, hd⟩ := I.cell x c e
  exact free c o (fun z => (hch c z).2.2.1 x c e rfl) ho (I.freeC x c e)
 ·obtain ⟨e, n, ne, nf, d⟩ := I.pin p hp
  have nch : p.1 ∉ ch := fun z => (hch p.1 z).2.2.2 p hp rfl
  exact ⟨keep p.1 p.2 ne nf nch e n, free p.1 p.2 nch e n, ne, nf, d⟩
theorem Inv.un {t' : Nat} (I : Inv X pins σ H s) (u : Un X.fs [] H H' s.heap h') (hok : HOk X.prog X.w H' h') : Inv X pins σ H' { s with heap := h', toks := t' } := by
 obtain ⟨m, ⟨o, es, ep, ho, r⟩, _⟩ := id I.loc
 obtain ⟨sl, hL⟩ := u.any ho I.free (by simp)
 exact I.step (g' := s.gens) (d' := s.drawn) (ch := []) (fun _ z => nomatch z) (fun b o _ hb _ e n => u.keep b o e n hb (by simp)) (fun b o _ hb _ e n => u.slot b o e n hb (by simp)) (fun b o _ e n => u.free b o e n (by simp)) (fun b o _ e => u.there b o e (by simp)) u.tups u.frzs u.tbls (fun m' hm => by
  obtain ⟨o', es', ep', ho', r'⟩ := hm
  rw [ho] at ho'; cases ho'
  exact ⟨_, es', ep', hL, r'⟩) hok I.bare
theorem Inv.call {g' : Array GenState} {t' : Nat} {d' : Drawn} {ch : List Addr} (I : Inv X pins σ H s) (u : Un (frs X.stack) ch H H' s.heap h') (hok : HOk X.prog X.w H' h') (hg : AllBare g')
  (hch : ∀ b ∈ ch, (b ∈ X.ex ∨ X.s₀.heap.objs.size ≤ b) ∧ b ≠ X.env.locals ∧ (∀ x c, X.env.cells.lookup x = some c → c ≠ b) ∧ ∀ p ∈ X.pn ++ pins, p.1 ≠ b) :
  Inv X pins σ H' { s with heap := h', gens := g', drawn := d', toks := t' } := by
 obtain ⟨m, ⟨o, es, ep, ho, r⟩, _⟩ := id I.loc
 obtain ⟨sl, hL⟩ := u.any ho I.free fun z => (hch _ z).2.1 rfl
 exact I.step (ch := ch) hch (fun b o hL hb hc e n => u.keep b o e n (fun z => (List.mem_cons.mp (I.stkSub b z)).elim hL hb) hc) (fun b o _ _ hc e n => u.any e n hc) (fun b o hc e n => u.free b o e n hc) (fun b o hc e => u.there b o e hc) u.tups u.frzs u.tbls (fun m' hm => by
  obtain ⟨o', es', ep', ho', r'⟩ := hm
  rw [ho] at ho'; cases ho'
  exact ⟨_, es', ep', hL, r'⟩) hok hg
theorem Inv.turned {t' : Nat} {it : Addr} (I : Inv X pins σ H s) (k : ∀ b o, b ≠ it → s.heap.get? b = some o → h'.get? b = some o) (hn : H it = none) (hL : it ≠ X.env.locals)
  (h1 : it ∈ X.ex ∨ X.s₀.heap.objs.size ≤ it) (h2 : ∀ x c, X.env.cells.lookup x = some c → c ≠ it) (h3 : ∀ p ∈ X.pn ++ pins, p.1 ≠ it) : Inv X pins σ H { s with heap := h', toks := t' } := by
 have nit : ∀ b u, H b = some u → b ≠ it := fun b u e z => by rw [z, hn] at e; cases e
 refine I.step (g' := s.gens) (d' := s.drawn) (ch := [it]) (fun b hb => ?_) (fun b o _ _ hc e _ => k b o (fun z => hc (by simp [z])) e) (fun b o _ _ hc e _ => ⟨o.slots, k b o (fun z => hc (by simp [z])) e⟩) (fun _ _ _ _ n => n)
  (fun b o hc e => ⟨o, k b o (fun z => hc (by simp [z])) e⟩) (fun _ _ e => e) (fun _ _ _ e => e) (fun b ps e => ⟨#[], by rw [e]; simp⟩) (fun m hm => ?_) (fun b u e => ?_) I.bare
 ·have e : b = it := by simpa using hb
  subst e
  exact ⟨h1, hL, h2, h3⟩
 ·obtain ⟨o, es, ep, ho, r⟩ := hm
  exact ⟨o, es, ep, k _ o (Ne.symm hL) ho, r⟩
 ·refine (I.hok b u e).stay (fun c v hc q => k c v ?_ q) (fun _ q => q) fun _ _ q => q
  rcases hc with z | z
  ·rw [z]; exact nit b u e
  ·exact nit c _ z
theorem Inv.tok (I : Inv X pins σ H s) (t : Nat) : Inv X pins σ H { s with toks := t } := I.un (h' := s.heap) (t' := t) Un.refl I.hok
theorem Inv.kept {t' : Nat} (I : Inv X pins σ H s) (k : ∀ b u, s.heap.get? b = some u → h'.get? b = some u) : Inv X pins σ H { s with heap := h', toks := t' } := I.un (Un.kept k) (I.hok.kept k)
theorem Inv.laid {a : Addr} {o : HO} {t' : Nat} (I : Inv X pins σ H s) (k : ∀ b u, s.heap.get? b = some u → h'.get? b = some u) (hp : s.heap.objs.size ≤ a) (new : ObjOk X.prog X.w (upd H a o) h' a o) :
  Inv X pins σ (upd H a o) { s with heap := h', toks := t' } := I.un (Un.laid k hp (I.hok.fresh hp)) (I.hok.laid k hp new)
theorem Inv.write {x e : Addr} {o : HO} {t' : Nat} (I : Inv X pins σ H s) (mu : Mut (H x)) (he : e = x ∨ H e = some (.own x)) (k : ∀ b u, b ≠ e → s.heap.get? b = some u → h'.get? b = some u) (heo : ∃ u, h'.get? e = some u)
  (new : ObjOk X.prog X.w (upd H x o) h' x o) : Inv X pins σ (upd H x o) { s with heap := h', toks := t' } := I.un (Un.write mu he k heo) (I.hok.write mu he k heo new)
theorem Inv.weak {σ' : List (Option V)} (I : Inv X pins σ H s) (hl : σ'.length = σ.length) (w : ∀ (i : Nat) v, σ'[i]? = some (some v) → σ[i]? = some (some v)) : Inv X pins σ' H s :=
 ⟨I.ok, I.os, I.bare, I.base, let ⟨m, hn, hl'⟩ := I.loc; ⟨m, hn, fun i x v e1 e2 e3 => hl' i x v e1 (w i v e2) e3⟩, I.cell, I.free, I.freeC, I.pin, I.hok, hl.trans I.len⟩
theorem Inv.pins_of {pins' : List (Addr × Obj)} (I : Inv X pins σ H s) (h : ∀ p ∈ pins', s.heap.get? p.1 = some p.2 ∧ H p.1 = none ∧ p.1 ≠ X.env.locals ∧ p.1 ∉ X.fs ∧ ∀ v, p.2.data ≠ .cell v) : Inv X pins' σ H s :=
 ⟨I.ok, I.os, I.bare, I.base, I.loc, I.cell, I.free, I.freeC, fun p hp => (List.mem_append.mp hp).elim (fun z => I.pin p (List.mem_append_left _ z)) (h p), I.hok, I.len⟩
theorem zbb {N : List Str} (hN : N.Nodup) {i j : Nat} {x : Str} (a : N[i]? = some x) (b : N[j]? = some x) : i = j := by
 obtain ⟨h1, e1⟩ := List.getElem?_eq_some_iff.mp a
 obtain ⟨h2, e2⟩ := List.getElem?_eq_some_iff.mp b
 exact (List.getElem_inj hN).mp (e1.trans e2.symm)
theorem za9 {M : Model} {A : Around} {E : Value → Shared → Prop} {i : Nat} {x : Str} {v : V} {u : Value} {Q : Unit → Shared → Prop} (I : Inv X pins σ H s) (hN : X.N.Nodup) (hi : X.N[i]? = some x) (hx : Loc X.env.scope x) (r : RelV v u)
  (h : ∀ s', Inv X pins (σ.set i (some v)) H s' → (∃ a, Heap.SameBut a s.heap s'.heap ∧ (a = X.env.locals ∨ X.env.cells.lookup x = some a)) → Q () s') (hf : X.fn x = true ∨ X.env.scope.names.lookup x = some .local := by first | exact .inl rfl | exact .inr rfl | assumption) : wpAny M A (storeName X.env x u) Q E s := by
 obtain ⟨m, hn, hl⟩ := id I.loc
 have hcls : (X.env.scope.kind == .class || (X.env.scope.kind == .module && X.env.locals != X.env.globals)) = false := by rw [I.ok.kind]; rfl
 have hiσ : i < σ.length := by rw [I.len]; exact (List.getElem?_eq_some_iff.mp hi).1
 have cne := I.cne
 have tracked : ∀ {a : Addr} {h' : Heap}, (∃ o, s.heap.get? a = some o ∧ H a = none) → Heap.SameBut a s.heap h' → HOk X.prog X.w H h' := fun {a h'} ha hs b ob e => by
  obtain ⟨_, _, hfree⟩ := ha
  refine (I.hok b ob e).stay (fun c w' hc q => (hs.2 c ?_).trans q) (fun _ q => q) fun _ _ q => q
  rintro rfl
  rcases hc with rfl | hc
  ·rw [hfree] at e; cases e
  ·rw [hfree] at hc; cases hc
 rcases hx with hk | hk
 ·refine wpAny_storeName_local hk hn (fun h' hn' hs => ?_) hcls
  obtain ⟨oL, _, _, hoL, _⟩ := id hn
  refine h _ ⟨I.ok, I.os, I.bare, ⟨fun b o e n hb hx => ?_, fun b o e n hb hx => ?_, I.base.free, fun b o e hx => ?_, I.base.tups, I.base.frzs, I.base.tbls⟩, ⟨_, hn', fun j y v' e1 e2 e3 => ?_⟩, fun y c e => ?_, I.free, I.freeC, fun p hp => ?_, tracked ⟨oL, hoL, I.free⟩ hs, by simpa using I.len⟩ ⟨_, hs, .inl rfl⟩
  ·exact (hs.2 b (Nat.ne_of_lt (Nat.lt_of_lt_of_le (Heap.lt_size e) I.ok.above))).trans (I.base.keep b o e n hb hx)
  ·obtain ⟨sl, e1⟩ := I.base.slot b o e n hb hx
   exact ⟨sl, (hs.2 b (Nat.ne_of_lt (Nat.lt_of_lt_of_le (Heap.lt_size e) I.ok.above))).trans e1⟩
  ·obtain ⟨o', e1⟩ := I.base.there b o e hx
   exact ⟨o', (hs.2 b (Nat.ne_of_lt (Nat.lt_of_lt_of_le (Heap.lt_size e) I.ok.above))).trans e1⟩
  ·by_cases hj : j = i
   ·subst hj
    rw [hi] at e1; cases e1
    rw [List.getElem?_set_self hiσ] at e2
    cases e2
    exact ⟨u, r, .inl ⟨hk, by simp⟩⟩
   ·rw [List.getElem?_set_ne (Ne.symm hj)] at e2
    obtain ⟨u', r', q⟩ := hl j y v' e1 e2 e3
    refine ⟨u', r', ?_⟩
    rcases q with ⟨k, e⟩ | ⟨k, c, e, z⟩
    ·refine .inl ⟨k, ?_⟩
     have : y ≠ x := fun e => hj (zbb hN e1 (e ▸ hi))
     simp [this, e]
    ·exact .inr ⟨k, c, e, z.sameBut hs (cne y c e)⟩
  ·obtain ⟨w', z⟩ := I.cell y c e
   exact ⟨w', z.sameBut hs (cne y c e)⟩
  ·obtain ⟨e, n, ne, nf, d⟩ := I.pin p hp
   exact ⟨(hs.2 p.1 ne).trans e, n, ne, nf, d⟩
 ·have hfn : X.fn x = true := by
   rcases hf with z | z
   ·exact z
   ·rw [z] at hk; cases hk
  obtain ⟨c, hc⟩ := I.ok.has x (.inl hk)
  obtain ⟨w', z⟩ := I.cell x c hc
  refine wpAny_storeName_cell I.ok.kind hk hc z (fun h' hc' hs => ?_)
  obtain ⟨oc, hoc, hocd⟩ := id z
  refine h { s with heap := h' } ⟨I.ok, I.os, I.bare, ⟨fun b o e n hb hx => ?_, fun b o e n hb hx => ?_, I.base.free, fun b o e hx => ?_, I.base.tups, I.base.frzs, I.base.tbls⟩, ⟨m, hn.sameBut hs (Ne.symm (cne x c hc)), fun j y v' e1 e2 e3 => ?_⟩, fun y c' e => ?_, I.free, I.freeC, fun p hp => ?_, tracked ⟨oc, hoc, I.freeC x c hc⟩ hs, by simpa using I.len⟩ ⟨c, hs, .inr hc⟩
  ·exact (hs.2 b (Nat.ne_of_lt (Nat.lt_of_lt_of_le (Heap.lt_size e) (I.ok.cab x c hfn hc)))).trans (I.base.keep b o e n hb hx)
  ·obtain ⟨sl, e1⟩ := I.base.slot b o e n hb hx
   exact ⟨sl, (hs.2 b (Nat.ne_of_lt (Nat.lt_of_lt_of_le (Heap.lt_size e) (I.ok.cab x c hfn hc)))).trans e1⟩
  ·obtain ⟨o', e1⟩ := I.base.there b o e hx
   exact ⟨o', (hs.2 b (Nat.ne_of_lt (Nat.lt_of_lt_of_le (Heap.lt_size e) (I.ok.cab x c hfn hc)))).trans e1⟩
  ·by_cases hj : j = i
   ·subst hj
    rw [hi] at e1; cases e1
    rw [List.getElem?_set_self hiσ] at e2
    cases e2
    exact ⟨u, r, .inr ⟨.inl hk, c, hc, hc'⟩⟩
   ·rw [List.getElem?_set_ne (Ne.symm hj)] at e2
    obtain ⟨u', r', q⟩ := hl j y v' e1 e2 e3
    refine ⟨u', r', ?_⟩
    rcases q with q | ⟨k, c', e, z'⟩
    ·exact .inl q
    ·refine .inr ⟨k, c', e, z'.sameBut hs ?_⟩
     rintro rfl
     exact hj (zbb hN e1 (I.ok.inj _ _ _ e hc ▸ hi))
  ·by_cases hcc : c' = c
   ·subst hcc; exact ⟨_, hc'⟩
   ·obtain ⟨w2, z2⟩ := I.cell y c' e
    exact ⟨w2, z2.sameBut hs hcc⟩
  ·obtain ⟨e, n, ne, nf, d⟩ := I.pin p hp
   refine ⟨(hs.2 p.1 ?_).trans e, n, ne, nf, d⟩
   intro q
   rw [q, hoc] at e
   have q' : oc = p.2 := Option.some.inj e
   exact d w' (by rw [← q']; exact hocd)
theorem z7x {M : Model} {A : Around} {E : Value → Shared → Prop} {i : Nat} {x : Str} {v : V} {u : Value} {Q : Unit → Shared → Prop} (I : Inv X pins σ H s) (hN : X.N.Nodup) (hi : X.N[i]? = some x) (hx : Loc X.env.scope x) (r : RelV v u)
  (h : ∀ s', Inv X pins (σ.set i (some v)) H s' → Q () s') (hf : X.fn x = true ∨ X.env.scope.names.lookup x = some .local := by first | exact .inl rfl | exact .inr rfl | assumption) : wpAny M A (storeName X.env x u) Q E s :=
 za9 I hN hi hx r (fun s' I' _ => h s' I') hf
theorem Inv.call' {s' : Shared} {ch : List Addr} (I : Inv X pins σ H s) (ho : s'.os = s.os) (u : Un (frs X.stack) ch H H' s.heap s'.heap) (hok : HOk X.prog X.w H' s'.heap) (hg : AllBare s'.gens)
  (hch : ∀ b ∈ ch, (b ∈ X.ex ∨ X.s₀.heap.objs.size ≤ b) ∧ b ≠ X.env.locals ∧ (∀ x c, X.env.cells.lookup x = some c → c ≠ b) ∧ ∀ p ∈ X.pn ++ pins, p.1 ≠ b) : Inv X pins σ H' s' := by
 obtain ⟨h', g', d', t', o'⟩ := s'
 have e : o' = s.os := ho
 subst e
 exact I.call (g' := g') (t' := t') (d' := d') u hok hg hch
end
abbrev XK := Value → Option Addr → Hp → Prop
abbrev St := List (Option V)
abbrev VK := V → Hp → Prop
abbrev TE := St → Hp → VK → Prop
abbrev TT := St → Hp → (Bool → Hp → Prop) → Prop
abbrev TA := St → Hp → (List V → Hp → Prop) → Prop
structure Ends where
 nx : St → Hp → Prop
 rt : VK
 bk : St → Hp → Prop := fun _ _ => False
 ct : St → Hp → Prop := fun _ _ => False
abbrev TS := Ends → St → Hp → Prop
def EP (X : Cx) (pins : List (Addr × Obj)) (σ : St) (Q : VK) (u : Value) (s' : Shared) : Prop := ∃ v H', Inv X pins σ H' s' ∧ RelV v u ∧ Q v H'
def TP (X : Cx) (pins : List (Addr × Obj)) (σ : St) (Q : Bool → Hp → Prop) (b : Bool) (s' : Shared) : Prop := ∃ H', Inv X pins σ H' s' ∧ Q b H'
def AP (X : Cx) (pins : List (Addr × Obj)) (σ : St) (Q : List V → Hp → Prop) (us : List Value) (s' : Shared) : Prop := ∃ vs H', Inv X pins σ H' s' ∧ Vals vs us ∧ Q vs H'
def SP (X : Cx) (pins : List (Addr × Obj)) (D : Ends) (f : Flow) (s' : Shared) : Prop :=
 match f with
 | .next => ∃ σ' H', Inv X pins σ' H' s' ∧ D.nx σ' H'
 | .brk => ∃ σ' H', Inv X pins σ' H' s' ∧ D.bk σ' H'
 | .cont => ∃ σ' H', Inv X pins σ' H' s' ∧ D.ct σ' H'
 | .ret u => ∃ v σ' H', Inv X pins σ' H' s' ∧ RelV v u ∧ D.rt v H'
def PE (X : Cx) (e : Expr) (t : TE) : Prop :=
 ∀ (pins : List (Addr × Obj)) (s : Shared) (σ : St) (H : Hp) (Q : VK), Inv X pins σ H s → t σ H Q → wpAny (model X.prog X.w) X.A (eval e X.env) (EP X pins σ Q) X.xe s
def PT (X : Cx) (e : Expr) (t : TT) : Prop :=
 ∀ (pins : List (Addr × Obj)) (s : Shared) (σ : St) (H : Hp) (Q : Bool → Hp → Prop), Inv X pins σ H s → t σ H Q → wpAny (model X.prog X.w) X.A (isTrue e X.env (eval e X.env)) (TP X pins σ Q) X.xe s
def PW (X : Cx) (e : Expr) (t : TT) : Prop :=
 ∀ (whole : Sem Value) (pins : List (Addr × Obj)) (s : Shared) (σ : St) (H : Hp) (Q : Bool → Hp → Prop), Inv X pins σ H s → t σ H Q → wpAny (model X.prog X.w) X.A (isTrue e X.env whole) (TP X pins σ Q) X.xe s
theorem PW.pt {X : Cx} {e : Expr} {t : TT} (h : PW X e t) : PT X e t := h _
def PA (X : Cx) (es : List Expr) (t : TA) : Prop :=
 ∀ (pos : Pos) (pins : List (Addr × Obj)) (s : Shared) (σ : St) (H : Hp) (Q : List V → Hp → Prop), Inv X pins σ H s → t σ H Q → wpAny (model X.prog X.w) X.A (spliced (backTo pos (starEach es X.env))) (AP X pins σ Q) X.xe s
def PS (X : Cx) (st : Stmt) (t : TS) : Prop :=
 ∀ (pins : List (Addr × Obj)) (s : Shared) (σ : St) (H : Hp) (D : Ends), Inv X pins σ H s → t D σ H → wpAny (model X.prog X.w) X.A (exec st X.env) (SP X pins D) X.xe s
def PSs (X : Cx) (st : List Stmt) (t : TS) : Prop :=
 ∀ (pins : List (Addr × Obj)) (s : Shared) (σ : St) (H : Hp) (D : Ends), Inv X pins σ H s → t D σ H → wpAny (model X.prog X.w) X.A (execs st X.env) (SP X pins D) X.xe s
theorem thn {α : Type} {t : Sem α} {Q Q' : α → Shared → Prop} {M : Model} {A : Around} {E : Value → Shared → Prop} {s : Shared} (h : wpAny M A t Q E s) (hQ : ∀ a s, Q a s → Q' a s) : wpAny M A t Q' E s := wpAny_mono h hQ fun _ _ x => x
end L2
namespace L2
open PySem PySem.Spec PyProof.Rows
section
variable {X : Cx}
def tVar (i : Nat) : TE := fun σ H Q => ∃ v, σ[i]? = some (some v) ∧ Q v H
def tC (v : V) : TE := fun _ H Q => Q v H
theorem zje {i : Nat} {x : Str} {pos : Pos} (hN : X.N[i]? = some x) (hv : Vis X.env.scope x) (hd : (x == ("__debug__" : Str)) = false := by decide) (hcd : (x == ("__classdict__" : Str)) = false := by decide) : PE X (.Name x pos) (tVar i) := by
 intro pins s σ H Q I h
 obtain ⟨v, e, h⟩ := h
 obtain ⟨m, hn, hl⟩ := I.loc
 obtain ⟨u, r, l⟩ := hl i x v hN e hv
 have fin : EP X pins σ Q u s := ⟨v, H, I, r, h⟩
 rcases l with ⟨hk, hm⟩ | ⟨hk, c, hc, hcell⟩
 ·exact wpAny_Name (wpAny_loadName_local I.ok.kind hk hn hm fin) hd
 ·rcases hk with hk | hk
  ·exact wpAny_Name (wpAny_loadName_cell I.ok.kind hk hc hcell fin) hd
  ·exact wpAny_Name (wpAny_loadName_free I.ok.kind hk hc hcell fin hcd) hd
theorem z4 {i j pos} : PE X (.Constant (.int i) j pos) (tC (.int i)) := fun _ _ _ H _ I h => wpAny_Constant_int ⟨.int i, H, I.tok _, ⟨_, rfl⟩, h⟩
theorem z24 {b j pos} : PE X (.Constant (.bool b) j pos) (tC (.bl b)) := fun _ _ _ H _ I h => Constant_bool ⟨.bl b, H, I, rfl, h⟩
theorem zj {x j pos} : PE X (.Constant (.str x) j pos) (tC (.str x)) := fun _ _ _ H _ I h => Calls.Constant_str ⟨.str x, H, I.tok _, ⟨_, rfl⟩, h⟩
def Gl (X : Cx) (x : Str) : Prop := X.env.kindOf x = some .globalImplicit
theorem z5d {E : Value → Shared → Prop} {pins : List (Addr × Obj)} {s : Shared} {σ : St} {H : Hp} {x : Str} {u : Value} {pos : Pos} {Q : Value → Shared → Prop} (I : Inv X pins σ H s) (hg : Gl X x) (hm : X.mg x = some u) (h : Q u s)
  (hd : (x == ("__debug__" : Str)) = false := by decide) : wpAny (model X.prog X.w) X.A (eval (.Name x pos) X.env) Q E s :=
 Calls.Name_function_global I.ok.kind hg (Calls.loadGlobal_global (by rw [I.ok.glob]; exact I.mod.glob.keeps I.bk) hm h) hd
theorem z4l {E : Value → Shared → Prop} {pins : List (Addr × Obj)} {s : Shared} {σ : St} {H : Hp} {x : Str} {u : Value} {pos : Pos} {Q : Value → Shared → Prop} (I : Inv X pins σ H s) (hg : Gl X x) (hm : X.mg x = none) (hv : bootBuiltins x = some u) (h : Q u s)
  (hn : x ≠ "__name__" := by decide) (hd : (x == ("__debug__" : Str)) = false := by decide) : wpAny (model X.prog X.w) X.A (eval (.Name x pos) X.env) Q E s := by
 obtain ⟨mb, h1, h2⟩ := I.mod.blt
 exact Calls.Name_function_global I.ok.kind hg (Calls.loadGlobal_builtin (by rw [I.ok.glob]; exact I.mod.glob.keeps I.bk) hm (by rw [I.ok.blt]; exact h1.keeps I.bk) ((h2 x hn).trans hv) h) hd
theorem zr {x : Str} {v : V} {u : Value} {pos : Pos} (hg : Gl X x) (hm : X.mg x = none) (hv : bootBuiltins x = some u) (r : RelV v u) (hn : x ≠ "__name__" := by decide) (hd : (x == ("__debug__" : Str)) = false := by decide) : PE X (.Name x pos) (tC v) :=
 fun _ _ _ H _ I h => z4l I hg hm hv ⟨v, H, I, r, h⟩ hn hd
variable {a b : Expr} {ta tb : TE} {pos : Pos}
def tIsN (ta : TE) : TE := fun σ H Q => ta σ H fun x H1 => Q (.bl (decide (x = .non))) H1
def tB (t : TE) : TT := fun σ H Q => t σ H fun x H1 => ∃ c, x = .bl c ∧ Q c H1
theorem z1f {e : Expr} {t : TE} (h : PE X e t) (he : ∀ whole, isTrue e X.env whole = (do let v ← whole; standAt e.pos; holding [v] (truthy v)) := by intro _; rfl) : PT X e (tB t) := by
 intro pins s σ H Q I hw
 refine isTrue_plain (thn (h pins s σ H _ I hw) fun v s1 ⟨x, H1, I1, r1, q1⟩ => ?_) (he _)
 obtain ⟨d, rfl, q⟩ := q1
 cases r1
 exact wpAny_truthy_bool ⟨H1, I1, q⟩
variable {tA tB' : TT} {rest : List Expr}
def tAnd (t u : TT) : TT := fun σ H Q => t σ H fun c H1 => if c = true then u σ H1 Q else Q false H1
def tOr (t u : TT) : TT := fun σ H Q => t σ H fun c H1 => if c = true then Q true H1 else u σ H1 Q
def tNot (t : TT) : TT := fun σ H Q => t σ H fun c H1 => Q (!c) H1
theorem z4i (ha : PT X a tA) : PW X (.BoolOp .And [a] pos) tA := by
 intro wh pins s σ H Q I h
 refine isTrue_and (thn (ha pins s σ H Q I h) fun c s1 e => ?_)
 cases c with
 | true => exact isTrue_and_nil e
 | false => exact e
theorem z6h (ha : PT X a tA) : PW X (.BoolOp .Or [a] pos) tA := by
 intro wh pins s σ H Q I h
 refine isTrue_or (thn (ha pins s σ H Q I h) fun c s1 e => ?_)
 cases c with
 | false => exact isTrue_or_nil e
 | true => exact e
theorem z36 (ha : PT X a tA) (hb : PW X (.BoolOp .And (b :: rest) pos) tB') : PW X (.BoolOp .And (a :: b :: rest) pos) (tAnd tA tB') := by
 intro wh pins s σ H Q I h
 refine isTrue_and (thn (ha pins s σ H _ I h) fun c s1 ⟨H1, I1, q1⟩ => ?_)
 cases c with
 | true => exact hb wh pins s1 σ H1 Q I1 q1
 | false => exact ⟨H1, I1, q1⟩
theorem z8f (ha : PT X a tA) (hb : PW X (.BoolOp .Or (b :: rest) pos) tB') : PW X (.BoolOp .Or (a :: b :: rest) pos) (tOr tA tB') := by
 intro wh pins s σ H Q I h
 refine isTrue_or (thn (ha pins s σ H _ I h) fun c s1 ⟨H1, I1, q1⟩ => ?_)
 cases c with
 | true => exact ⟨H1, I1, q1⟩
 | false => exact hb wh pins s1 σ H1 Q I1 q1
theorem z37 (ha : PT X a tA) : PT X (.UnaryOp .Not a pos) (tNot tA) := by
 intro pins s σ H Q I h
 exact isTrue_not (ha pins s σ H (fun c H1 => Q (!c) H1) I h)
def zht (ta tb : TE) : TE := fun σ H Q => ta σ H fun x H1 => ∃ c, x = .bl c ∧ if c = true then tb σ H1 Q else Q (.bl false) H1
def tOrV (ta tb : TE) : TE := fun σ H Q => ta σ H fun x H1 => ∃ c, x = .bl c ∧ if c = true then Q (.bl true) H1 else tb σ H1 Q
def zhu (ta : TE) : TE := fun σ H Q => ta σ H fun x H1 => ∃ c, x = .bl c ∧ Q (.bl (!c)) H1
theorem z1z {op} {t : TE} (h : PE X a t) : PE X (.BoolOp op [a] pos) t := fun pins s σ H Q I hw => BoolOp_one (h pins s σ H Q I hw)
theorem z25 (ha : PE X a ta) (hb : PE X (.BoolOp .And (b :: rest) pos) tb) : PE X (.BoolOp .And (a :: b :: rest) pos) (zht ta tb) := by
 intro pins s σ H Q I h
 refine BoolOp_and (thn (ha pins s σ H _ I h) fun v s1 ⟨x, H1, I1, r1, q1⟩ => ?_)
 obtain ⟨c, rfl, q1⟩ := q1
 cases r1
 refine wpAny_truthy_bool ?_
 cases c with
 | true => exact hb pins s1 σ H1 Q I1 q1
 | false => exact ⟨.bl false, H1, I1, rfl, q1⟩
theorem zk6 (ha : PE X a ta) (hb : PE X (.BoolOp .Or (b :: rest) pos) tb) : PE X (.BoolOp .Or (a :: b :: rest) pos) (tOrV ta tb) := by
 intro pins s σ H Q I h
 refine BoolOp_or (thn (ha pins s σ H _ I h) fun v s1 ⟨x, H1, I1, r1, q1⟩ => ?_)
 obtain ⟨c, rfl, q1⟩ := q1
 cases r1
 refine wpAny_truthy_bool ?_
 cases c with
 | false => exact hb pins s1 σ H1 Q I1 q1
 | true => exact ⟨.bl true, H1, I1, rfl, q1⟩
theorem zbc (ha : PE X a ta) : PE X (.UnaryOp .Not a pos) (zhu ta) := by
 intro pins s σ H Q I h
 refine UnaryOp_ (thn (ha pins s σ H _ I h) fun v s1 ⟨x, H1, I1, r1, q1⟩ => ?_)
 obtain ⟨c, rfl, q1⟩ := q1
 cases r1
 exact not_of (wpAny_truthy_bool ⟨.bl (!c), H1, I1, rfl, q1⟩)
def tIf (t : TT) (ta tb : TE) : TE := fun σ H Q => t σ H fun c H1 => if c = true then ta σ H1 Q else tb σ H1 Q
end
end L2
namespace L2
open PySem PySem.Spec PyProof.Rows
def SqL (K : PySem.W.Frag) (H : Hp) (a : Addr) (xs : List V) : Prop :=
 Rd H a (.lst xs) ∨
  ∃ (o : Obj) (its : Array Value) (n : Nat), K.lookup a = some o ∧ o.cls = .type "list" ∧ o.dict = none ∧ o.data = .seq its n ∧ its.size ≤ sizeLine ∧ Vals xs its.toList
def SqT (K : PySem.W.Frag) (H : Hp) (a : Addr) (xs : List V) : Prop :=
 Rd H a (.tup xs) ∨
  ∃ (o : Obj) (its : Array Value) (n : Nat), K.lookup a = some o ∧ o.cls = .type "tuple" ∧ o.data = .seq its n ∧ its.size ≤ sizeLine ∧ Vals xs its.toList
def absV : Value → Option V
 | .none => some .non
 | .bool b => some (.bl b)
 | .int i _ => some (.int i)
 | .str x _ => some (.str x)
 | .bytes b _ => some (.byt b)
 | .float b _ => some (.flt b)
 | .ref a => some (.ref a)
 | .type n => some (.ty n)
 | _ => none
theorem RelV.abs {x : V} {u : Value} (r : RelV x u) : absV u = some x := by
 cases x with
 | non => cases r; rfl
 | bl _ => cases r; rfl
 | int _ => obtain ⟨t, rfl⟩ := r; rfl
 | str _ => obtain ⟨t, rfl⟩ := r; rfl
 | byt _ => obtain ⟨t, rfl⟩ := r; rfl
 | flt _ => obtain ⟨t, rfl⟩ := r; rfl
 | ref _ => cases r; rfl
 | ty _ => cases r; rfl
theorem RelV.inj {x y : V} {u : Value} (r : RelV x u) (q : RelV y u) : x = y := Option.some.inj (r.abs.symm.trans q.abs)
theorem Vals.inj : ∀ {xs ys : List V} {us : List Value}, Vals xs us → Vals ys us → xs = ys
 | _, _, _, .nil, .nil => rfl
 | _, _, _, .cons r t, .cons r' t' => by rw [r.inj r', Vals.inj t t']
section
variable {X : Cx} {pins : List (Addr × Obj)} {σ : St} {H : Hp} {s : Shared} {a : Addr} {xs ys : List V}
theorem SqL.of {K : PySem.W.Frag} (h : H a = some (.lst xs)) : SqL K H a xs := .inl (.inl h)
theorem SqT.of {K : PySem.W.Frag} (h : H a = some (.tup xs)) : SqT K H a xs := .inl (.inl h)
theorem Inv.list (I : Inv X pins σ H s) (h : SqL X.K H a xs) : ∃ its : List Value, Vals xs its ∧ PlainL s.heap a its.toArray ∧ xs.length ≤ sizeLine := by
 rcases h with h | ⟨o, its, n, hk, hc, hd, hs, hz, r⟩
 ·obtain ⟨z, its, n, r, e⟩ := h.ok I.hok
  exact ⟨its, r, ⟨_, n, e, rfl, rfl, rfl⟩, z⟩
 ·refine ⟨its.toList, r, ⟨o, n, I.kIn a o hk, hc, hd, by simpa using hs⟩, ?_⟩
  have e := r.length
  simp only [Array.length_toList] at e
  omega
theorem Inv.tuple (I : Inv X pins σ H s) (h : SqT X.K H a xs) : ∃ its : List Value, Vals xs its ∧ IsTup s.heap a its.toArray ∧ xs.length ≤ sizeLine := by
 rcases h with h | ⟨o, its, n, hk, hc, hs, hz, r⟩
 ·obtain ⟨z, its, r, p⟩ := h.ok I.hok
  exact ⟨its, r, p, z⟩
 ·refine ⟨its.toList, r, ⟨o, I.kIn a o hk, hc, n, by simpa using hs⟩, ?_⟩
  have e := r.length
  simp only [Array.length_toList] at e
  omega
theorem Inv.list_inj (I : Inv X pins σ H s) (h : SqL X.K H a xs) (h' : SqL X.K H a ys) : xs = ys := by
 obtain ⟨its, r, ⟨o, n, e, _, _, d⟩, _⟩ := I.list h
 obtain ⟨its', r', ⟨o', n', e', _, _, d'⟩, _⟩ := I.list h'
 rw [e] at e'; cases e'
 rw [d] at d'
 injection d' with d1 _
 have : its = its' := by simpa using congrArg Array.toList d1
 subst this
 exact r.inj r'
end
abbrev Cx.wish (X : Cx) (E : Value → Shared → Prop) : Cx := { X with xe := E }
abbrev Cx.nox (X : Cx) : Cx := X.wish fun _ _ => False
theorem Cx.Ok.wish {X : Cx} (ok : X.Ok) (E : Value → Shared → Prop) : (X.wish E).Ok :=
 ⟨ok.mod, ok.kind, ok.glob, ok.blt, ok.above, ok.inj, ok.has, ok.cab, ok.hd, ok.frames, ok.stk, ok.exf, ok.bs, ok.bsz, ok.noex, ok.exfs, ok.funs, ok.frf⟩
theorem Cx.Ok.unwish {X : Cx} {E : Value → Shared → Prop} (ok : (X.wish E).Ok) : X.Ok :=
 ⟨ok.mod, ok.kind, ok.glob, ok.blt, ok.above, ok.inj, ok.has, ok.cab, ok.hd, ok.frames, ok.stk, ok.exf, ok.bs, ok.bsz, ok.noex, ok.exfs, ok.funs, ok.frf⟩
section
variable {X : Cx} {pins : List (Addr × Obj)} {σ : St} {H : Hp} {s : Shared} {E : Value → Shared → Prop}
theorem Inv.wish (I : Inv X pins σ H s) (E : Value → Shared → Prop) : Inv (X.wish E) pins σ H s := ⟨I.ok.wish E, I.os, I.bare, I.base, I.loc, I.cell, I.free, I.freeC, I.pin, I.hok, I.len⟩
theorem Inv.unwish (I : Inv (X.wish E) pins σ H s) : Inv X pins σ H s := ⟨I.ok.unwish, I.os, I.bare, I.base, I.loc, I.cell, I.free, I.freeC, I.pin, I.hok, I.len⟩
theorem SP.unwish {D : Ends} {f : Flow} {s' : Shared} (h : SP (X.wish E) pins D f s') : SP X pins D f s' := by
 cases f with
 | next => obtain ⟨σ', H', I, q⟩ := h; exact ⟨σ', H', I.unwish, q⟩
 | brk => obtain ⟨σ', H', I, q⟩ := h; exact ⟨σ', H', I.unwish, q⟩
 | cont => obtain ⟨σ', H', I, q⟩ := h; exact ⟨σ', H', I.unwish, q⟩
 | ret u => obtain ⟨v, σ', H', I, r, q⟩ := h; exact ⟨v, σ', H', I.unwish, r, q⟩
theorem PE.nox {e : Expr} {t : TE} (h : PE X.nox e t) : PE X e t := fun pins s σ H Q I hw =>
 wpAny_mono (h pins s σ H Q (I.wish _) hw) (fun _ _ ⟨v, H', I', r, q⟩ => ⟨v, H', I'.unwish, r, q⟩) fun _ _ z => False.elim z
theorem PT.nox {e : Expr} {t : TT} (h : PT X.nox e t) : PT X e t := fun pins s σ H Q I hw =>
 wpAny_mono (h pins s σ H Q (I.wish _) hw) (fun _ _ ⟨H', I', q⟩ => ⟨H', I'.unwish, q⟩) fun _ _ z => False.elim z
theorem PSs.nox {st : List Stmt} {t : TS} (h : PSs X.nox st t) : PSs X st t := fun pins s σ H D I hw =>
 wpAny_mono (h pins s σ H D (I.wish _) hw) (fun _ _ q => q.unwish) fun _ _ z => False.elim z
end
section
variable {X : Cx} {st : Stmt} {rest : List Stmt} {t u : TS} {e : Expr} {te : TE} {pos : Pos}
def zhv : TS := fun D σ H => D.nx σ H
def tSeq (t u : TS) : TS := fun D σ H => t { D with nx := u D } σ H
theorem zn : PSs X [] zhv := fun _ _ σ H _ I h => wpAny_execs_nil ⟨σ, H, I, h⟩
theorem z9 (h1 : PS X st t) (h2 : PSs X rest u) : PSs X (st :: rest) (tSeq t u) := by
 intro pins s σ H D I h
 refine wpAny_execs_cons (thn (h1 pins s σ H { D with nx := u D } I h) fun f s1 q => ?_)
 cases f with
 | next =>
  obtain ⟨σ', H', I', q⟩ := q
  exact h2 pins s1 σ' H' D I' q
 | ret v => exact q
 | brk => exact q
 | cont => exact q
theorem zb (h1 : PS X st t) : PSs X [st] t := by
 intro pins s σ H D I h
 refine wpAny_execs_cons (thn (h1 pins s σ H D I h) fun f s1 q => ?_)
 cases f with
 | next => exact wpAny_execs_nil q
 | ret v => exact q
 | brk => exact q
 | cont => exact q
theorem Inv.quiet {pins : List (Addr × Obj)} {σ : St} {H : Hp} {s : Shared} (I : Inv X pins σ H s) : interactive X.env = false := by simp [interactive, I.ok.kind]
def zhw (te : TE) : TS := fun D σ H => te σ H fun _ H1 => D.nx σ H1
theorem z1h (he : PE X e te) (hs : swapsWith e none pos.line X.env = pure false := by rfl) : PS X (.Expr e pos) (zhw te) := by
 intro pins s σ H D I h
 exact wpAny_Expr_any (thn (he pins s σ H _ I h) fun v s1 ⟨x, H1, I1, r1, q1⟩ => ⟨σ, H1, I1, q1⟩) I.quiet hs
def tRet (te : TE) : TS := fun D σ H => te σ H D.rt
theorem zk (he : PE X e te) : PS X (.Return (some e) pos) (tRet te) := by
 intro pins s σ H D I h
 exact wpAny_Return_some (thn (he pins s σ H _ I h) fun v s1 ⟨x, H1, I1, r1, q1⟩ => ⟨x, σ, H1, I1, r1, q1⟩)
def zk7 : TS := fun D _ H => D.rt .non H
def tIfS (c : TT) (t u : TS) : TS := fun D σ H => c σ H fun b H1 => if b = true then t D σ H1 else u D σ H1
theorem zx {c : Expr} {a b : List Stmt} {tc : TT} (hc : PT X c tc) (ha : PSs X a t) (hb : PSs X b u) : PS X (.If c a b pos) (tIfS tc t u) := by
 intro pins s σ H D I h
 refine wpAny_If (thn (hc pins s σ H _ I h) fun d s1 ⟨H1, I1, q1⟩ => ?_)
 cases d with
 | true => exact ha pins s1 σ H1 D I1 q1
 | false => exact hb pins s1 σ H1 D I1 q1
def zjf : TS := fun _ _ _ => False
end
abbrev TG := V → St → Hp → (St → Hp → Prop) → Prop
abbrev TGs := List V → St → Hp → (St → Hp → Prop) → Prop
def PG (X : Cx) (target : Expr) (t : TG) : Prop :=
 ∀ (pins : List (Addr × Obj)) (s : Shared) (σ : St) (H : Hp) (v : V) (u : Value) (Q : St → Hp → Prop), Inv X pins σ H s → RelV v u → t v σ H Q →
  wpAny (model X.prog X.w) X.A (assign target X.env u) (fun _ s' => ∃ σ' H', Inv X pins σ' H' s' ∧ Q σ' H') X.xe s
def PGs (X : Cx) (ts : List Expr) (t : TGs) : Prop :=
 ∀ (pins : List (Addr × Obj)) (s : Shared) (σ : St) (H : Hp) (vs : List V) (us : List Value) (Q : St → Hp → Prop), Inv X pins σ H s → Vals vs us → t vs σ H Q →
  wpAny (model X.prog X.w) X.A (assignInOrder ((assignEach ts X.env).map (·.2)) us) (fun _ s' => ∃ σ' H', Inv X pins σ' H' s' ∧ Q σ' H') X.xe s
abbrev TSet := V → V → V → Hp → (Hp → Prop) → Prop
def PSet (X : Cx) (t : TSet) : Prop :=
 ∀ (pins : List (Addr × Obj)) (s : Shared) (σ : St) (H : Hp) (o i v : V) (ov iv u : Value) (Q : Hp → Prop), Inv X pins σ H s → RelV o ov → RelV i iv → RelV v u → t o i v H Q →
  wpAny (model X.prog X.w) X.A (setItem ov iv u) (fun _ s' => ∃ H', Inv X pins σ H' s' ∧ Q H') X.xe s
section
variable {X : Cx} {pos : Pos}
def zb8 (i : Nat) : TG := fun v σ H Q => Q (σ.set i (some v)) H
theorem z15 {i : Nat} {x : Str} (hN : X.N.Nodup) (hi : X.N[i]? = some x) (hx : Loc X.env.scope x) (hf : X.fn x = true ∨ X.env.scope.names.lookup x = some .local := by first | exact .inl rfl | exact .inr rfl | assumption) : PG X (.Name x pos) (zb8 i) := by
 intro pins s σ H v u Q I r h
 exact wpAny_assign_Name (z7x I hN hi hx r (fun s' I' => ⟨_, H, I', h⟩) hf)
def gNil : TGs := fun vs σ H Q => vs = [] ∧ Q σ H
def zhx (t : TG) (u : TGs) : TGs := fun vs σ H Q => ∃ v r, vs = v :: r ∧ t v σ H fun σ' H' => u r σ' H' Q
theorem z4j : PGs X [] gNil := by
 intro pins s σ H vs us Q I r h
 obtain ⟨e, h⟩ := h
 subst e
 cases r
 exact assignInOrder_nil ⟨σ, H, I, h⟩
theorem z1p {e : Expr} {es : List Expr} {t : TG} {u : TGs} (h1 : PG X e t) (h2 : PGs X es u)
  (hs : (assignEach (e :: es) X.env).map (·.2) = assign e X.env :: (assignEach es X.env).map (·.2) := by rfl) : PGs X (e :: es) (zhx t u) := by
 intro pins s σ H vs us Q I r h
 obtain ⟨v, vr, e1, h⟩ := h
 subst e1
 cases r with
 | cons r rr =>
  rw [hs]
  refine assignInOrder_cons (thn (h1 pins s σ H _ _ _ I r h) fun _ s1 ⟨σ1, H1, I1, q1⟩ => ?_)
  exact h2 pins s1 σ1 H1 _ _ Q I1 rr q1
def gTup (K : PySem.W.Frag) (n : Nat) (t : TGs) : TG := fun v σ H Q => ∃ a xs, v = .ref a ∧ SqT K H a xs ∧ xs.length = n ∧ t xs σ H Q
theorem zbd {es : List Expr} {k : Nat} {t : TGs} {n : Nat} (hc : X.calm = true) (h : PGs X es t)
  (hn : (assignEach es X.env).length = n := by rfl) (hst : (assignEach es X.env).findIdx? (·.1) = none := by rfl) : PG X (.Tuple es k pos) (gTup X.K n t) := by
 intro pins s σ H v u Q I r hw
 obtain ⟨a, xs, e1, hq, hl, hw⟩ := hw
 subst e1
 cases r
 obtain ⟨its, rv, ht, hz⟩ := I.tuple hq
 refine assign_Tuple_tuple (I.ok.hd hc) ht (by simp [hn, ← hl, rv.length]) hst fun h' hx => ?_
 have I1 : Inv X pins σ H { s with heap := h' } := I.kept (t' := s.toks) fun b o e => hx b o (Nat.ne_of_lt (Heap.lt_size e)) e
 exact h pins _ σ H xs _ Q I1 (by simpa using rv) hw
def gSub (to ti : TE) (t : TSet) : TG := fun v σ H Q => to σ H fun o H1 => ti σ H1 fun i H2 => t o i v H2 fun H3 => Q σ H3
theorem zez {o i : Expr} {to ti : TE} {t : TSet} (ho : PE X o to) (hi : PE X i ti) (hs : PSet X t)
  (ha : ∀ v, assign (.Subscript o i pos) X.env v = (do
   let ov ← holding [v] (eval o X.env)
   let iv ← holding [v, ov] (eval i X.env)
   standAt pos
   holding [v, ov, iv] (setItem ov iv v)
   release [v, ov, iv] []) := by intro _; rfl) : PG X (.Subscript o i pos) (gSub to ti t) := by
 intro pins s σ H v u Q I r h
 rw [ha]
 refine wpAny_bind (wpAny_holding (thn (ho pins s σ H _ I h) fun ov s1 ⟨x, H1, I1, r1, q1⟩ => ?_))
 refine wpAny_bind (wpAny_holding (thn (hi pins s1 σ H1 _ I1 q1) fun iv s2 ⟨y, H2, I2, r2, q2⟩ => ?_))
 refine wpAny_bind (wpAny_standAt (wpAny_bind (wpAny_holding (thn (hs pins s2 σ H2 x y v ov iv u _ I2 r1 r2 r q2) fun _ s3 ⟨H3, I3, q3⟩ => ?_))))
 exact wpAny_release ⟨σ, H3, I3, q3⟩
def tAsg (te : TE) (g : TG) : TS := fun D σ H => te σ H fun x H1 => g x σ H1 D.nx
theorem zbe {tg e : Expr} {te : TE} {g : TG} (he : PE X e te) (hg : PG X tg g) (hs : swapsWithSole [tg] e pos.line X.env = pure false := by rfl) (hw : swappedStores [tg] e X.env = pure none := by rfl)
  (h1 : (assignEach [tg] X.env).map (·.2) = [assign tg X.env] := by rfl) : PS X (.Assign [tg] e pos) (tAsg te g) := by
 intro pins s σ H D I h
 refine wpAny_Assign_stores (thn (he pins s σ H _ I h) fun v s1 ⟨x, H1, I1, r1, q1⟩ => ?_) hs hw
 rw [h1]
 exact thn (hg pins s1 σ H1 x v _ I1 r1 q1) fun _ s2 q => q
theorem zi {i : Nat} {x : Str} {e : Expr} {te : TE} {pos' : Pos} (hN : X.N.Nodup) (hi : X.N[i]? = some x) (hx : Loc X.env.scope x) (he : PE X e te) (hs : swapsWith e (some (.Name x pos')) pos.line X.env = pure false := by rfl) (hf : X.fn x = true ∨ X.env.scope.names.lookup x = some .local := by first | exact .inl rfl | exact .inr rfl | assumption) :
  PS X (.Assign [.Name x pos'] e pos) (tAsg te (zb8 i)) := by
 intro pins s σ H D I h
 refine wpAny_Assign_Name (thn (he pins s σ H _ I h) fun v s1 ⟨y, H1, I1, r1, q1⟩ => ?_) hs
 exact z7x I1 hN hi hx r1 (fun s2 I2 => ⟨_, H1, I2, q1⟩) hf
end
section
variable {X : Cx} {pos : Pos}
end
structure It where
 go : Nat → Hp → Prop
 yld : Nat → Hp → V → Hp → Prop
 stop : Nat → Hp → Prop
def FpOk (X : Cx) (pins : List (Addr × Obj)) (H : Hp) (b : Addr) : Prop :=
 H b = none ∧ b ≠ X.env.locals ∧ b ∉ X.fs ∧ (b ∈ X.ex ∨ X.s₀.heap.objs.size ≤ b) ∧ (∀ x c, X.env.cells.lookup x = some c → c ≠ b) ∧ ∀ p ∈ X.pn ++ pins, p.1 ≠ b
theorem Inv.fpOk {X : Cx} {pins : List (Addr × Obj)} {σ : St} {H H' : Hp} {s : Shared} {b : Addr} (I : Inv X pins σ H s) (hb : s.heap.objs.size ≤ b) (hn : H' b = none) : FpOk X pins H' b := by
 refine ⟨hn, Nat.ne_of_gt (Nat.lt_of_lt_of_le I.lt hb), I.nofs hb, .inr (Nat.le_trans I.sz hb), fun x c e z => ?_, fun p hp z => ?_⟩
 ·obtain ⟨v, q⟩ := I.cell x c e
  exact absurd (Nat.lt_of_lt_of_le q.lt (by rw [z]; exact hb)) (Nat.lt_irrefl _)
 ·exact absurd (Nat.lt_of_lt_of_le (Heap.lt_size (I.pin p hp).1) (by rw [z]; exact hb)) (Nat.lt_irrefl _)
structure Turn (P : Program) (w : World) (K : PySem.W.Frag) (tg : Expr) (J : It) (fp : List Addr) (it : Addr) (tn : Nat → Heap → Prop) : Prop where
 mem : it ∈ fp
 obj : ∀ i h, tn i h → ∀ b ∈ fp, ∃ o, h.get? b = some o ∧ ∀ v, o.data ≠ .cell v
 keep : ∀ i h h', tn i h → (∀ b ∈ fp, ∀ o, h.get? b = some o → h'.get? b = some o) → tn i h'
 item : ∀ (X : Cx), X.prog = P → X.w = w → X.K = K → X.calm = true → ∀ (i : Nat) (pins : List (Addr × Obj)) (s : Shared) (σ : St) (H : Hp) (E : Value → Shared → Prop), Inv X pins σ H s → (∀ b ∈ fp, FpOk X pins H b) → tn i s.heap → J.go i H →
  wpAny (model P w) X.A (pyNext (.ref it)) (fun r s1 => ∃ u, r = some u ∧
   wpAny (model P w) X.A (letOwnedTupleGo tg (.ref it) u) (fun _ s2 => ∃ x H', Inv X pins σ H' s2 ∧ RelV x u ∧ J.yld i H x H' ∧ tn (i + 1) s2.heap ∧ ∀ b ∈ fp, H' b = none) E s1) E s
 done : ∀ (X : Cx), X.prog = P → X.w = w → X.K = K → X.calm = true → ∀ (i : Nat) (pins : List (Addr × Obj)) (s : Shared) (σ : St) (H : Hp) (E : Value → Shared → Prop), Inv X pins σ H s → (∀ b ∈ fp, FpOk X pins H b) → tn i s.heap → J.stop i H →
  wpAny (model P w) X.A (pyNext (.ref it)) (fun r s1 => r = none ∧ Inv X pins σ H s1) E s
 self : ∀ (A : Around) (i : Nat) (s : Shared) (Q : Value → Shared → Prop) (E : Value → Shared → Prop), tn i s.heap → Q (.ref it) s → wpAny (model P w) A (pyIter (.ref it)) Q E s
abbrev TI := St → Hp → (It → Hp → Prop) → Prop
def PIE (X : Cx) (pins : List (Addr × Obj)) (σ : St) (tg : Expr) (R : It → Hp → Prop) (itv : Value) (s2 : Shared) : Prop :=
 ∃ (it : Addr) (fp : List Addr) (tn : Nat → Heap → Prop) (J : It) (H' : Hp), itv = .ref it ∧ Inv X pins σ H' s2 ∧ Turn X.prog X.w X.K tg J fp it tn ∧ tn 0 s2.heap ∧ (∀ b ∈ fp, FpOk X pins H' b) ∧ R J H'
def PI (X : Cx) (tg iter : Expr) (wi : TI) : Prop :=
 ∀ (pins : List (Addr × Obj)) (s : Shared) (σ : St) (H : Hp) (R : It → Hp → Prop), Inv X pins σ H s → wi σ H R →
  wpAny (model X.prog X.w) X.A (eval iter X.env) (fun v s1 => wpAny (model X.prog X.w) X.A (pyIter v) (PIE X pins σ tg R) X.xe s1) X.xe s
theorem zhy {M : Model} {A : Around} {E : Value → Shared → Prop} {s : Shared} {tg : Expr} {it : Addr} {u : Value} {o : Obj} {n : String} {vs : Array Value} {Q : Unit → Shared → Prop} (ho : s.heap.get? it = some o) (hc : o.cls = .type n) (hd : o.data = .fields vs)
    (hn : ["enumerate", "zip", "dict_itemiterator", "dict_reverseitemiterator", "odict_iterator", "itertools.zip_longest", "itertools.pairwise"].contains n = false) (hQ : Q () s) : wpAny M A (letOwnedTupleGo tg (.ref it) u) Q E s := by
  unfold letOwnedTupleGo
  cases tg <;> first
    | exact wpAny_pure hQ
    | (cases u <;> first
        | exact wpAny_pure hQ
        | (refine wpAny_bind (wpAny_load ho ?_)
           rw [hc, hd]
           show wpAny M A (if (["enumerate", "zip", "dict_itemiterator", "dict_reverseitemiterator", "odict_iterator", "itertools.zip_longest", "itertools.pairwise"].contains n && vs[0]? == some (rawInt _)) = true then _ else _) Q E s
           rw [if_neg (by intro h; rw [hn, Bool.false_and] at h; cases h)]
           exact wpAny_pure hQ))
def Itl (K : PySem.W.Frag) (a : Addr) : It :=
 ⟨fun i H => ∃ xs x, SqL K H a xs ∧ xs[i]? = some x, fun i H x H' => H' = H ∧ ∀ xs, SqL K H a xs → xs[i]? = some x, fun i H => ∃ xs, SqL K H a xs ∧ xs.length ≤ i⟩
def Itt (K : PySem.W.Frag) (a : Addr) : It :=
 ⟨fun i H => ∃ xs x, SqT K H a xs ∧ xs[i]? = some x, fun i H x H' => H' = H ∧ ∀ xs, SqT K H a xs → xs[i]? = some x, fun i H => ∃ xs, SqT K H a xs ∧ xs.length ≤ i⟩
def Itr (lo : Int) (n : Nat) : It := ⟨fun i _ => i < n, fun i H x H' => H' = H ∧ x = .int (lo + i), fun i _ => n ≤ i⟩
theorem zf0 {P : Program} {w : World} {K : PySem.W.Frag} {tg : Expr} (a it : Addr) : Turn P w K tg (Itl K a) [it] it (fun i h => h.IsListIter it a i) where
 mem := by simp
 obj := fun i h st b hb => by
  have e : b = it := by simpa using hb
  subst e
  obtain ⟨o, e, c, d⟩ := st
  exact ⟨o, e, fun v z => by rw [d] at z; cases z⟩
 keep := fun i h h' st k => st.at fun o e => k it (by simp) o e
 item := by
  intro X hP hw hK hc i pins s σ H E I hf st hg
  subst hP hw hK
  obtain ⟨xs, x, hq, hx⟩ := hg
  obtain ⟨its, rv, p, hz⟩ := I.list hq
  obtain ⟨u, hu, ru⟩ := rv.get hx
  obtain ⟨f0, f1, f2, f3, f4, f5⟩ := hf it (by simp)
  refine wpAny_pyNext_list_item st p.isList (x := u) (by simpa using hu) fun h' st' sb => ?_
  have I1 : Inv X pins σ H { s with heap := h' } := I.turned (t' := s.toks) (fun b o hb e => (sb.2 b hb).trans e) f0 f1 f3 f4 f5
  obtain ⟨o, e, c, d⟩ := id st'
  exact ⟨u, rfl, zhy (s := { s with heap := h' }) e c d (by decide) ⟨x, H, I1, ru, ⟨rfl, fun ys hy => by rw [I.list_inj hy hq]; exact hx⟩, st', fun b hb => (hf b hb).1⟩⟩
 done := by
  intro X hP hw hK hc i pins s σ H E I hf st hg
  subst hP hw hK
  obtain ⟨xs, hq, hx⟩ := hg
  obtain ⟨its, rv, p, hz⟩ := I.list hq
  obtain ⟨f0, f1, f2, f3, f4, f5⟩ := hf it (by simp)
  have hl := rv.length
  exact wpAny_pyNext_list_end (I.ok.hd hc) st p.isList (by simp; omega) fun h' eb => ⟨rfl, I.turned (t' := s.toks) (fun b o hb e => eb b o hb e) f0 f1 f3 f4 f5⟩
 self := fun _ _ _ _ _ st h => wpAny_pyIter_listiter st h
theorem zdp {P : Program} {w : World} {K : PySem.W.Frag} {tg : Expr} (it : Addr) (lo : Int) (n : Nat) : Turn P w K tg (Itr lo n) [it] it (fun i h => IsRangeIter h it (lo + (i : Nat) * 1) ((n : Int) - (i : Nat)) 1) where
 mem := by simp
 obj := fun i h st b hb => by
  have e : b = it := by simpa using hb
  subst e
  exact ⟨_, st, fun v z => by
   have z' : Data.fields _ = Data.cell v := z
   cases z'⟩
 keep := fun i h h' st k => k it (by simp) _ st
 item := by
  intro X hP hw hK hc i pins s σ H E I hf st hg
  subst hP hw hK
  obtain ⟨f0, f1, f2, f3, f4, f5⟩ := hf it (by simp)
  have W := Walks.range (prog := X.prog) (w := X.w) (I.ok.hd hc) it lo 1 n
  refine W.item i s _ _ hg st fun v h' tk hv st' kk => ?_
  obtain ⟨t, rfl⟩ := hv
  have I1 : Inv X pins σ H { s with heap := h', toks := tk } := I.turned (fun b o hb e => kk b o (by simpa using hb) e) f0 f1 f3 f4 f5
  refine ⟨_, rfl, zhy (s := { s with heap := h', toks := tk }) (n := "range_iterator") st' rfl rfl (by decide) ⟨.int (lo + i), H, I1, ⟨t, ?_⟩, ⟨rfl, rfl⟩, st', fun b hb => (hf b hb).1⟩⟩
  rw [Int.mul_one]
 done := by
  intro X hP hw hK hc i pins s σ H E I hf st hg
  subst hP hw hK
  obtain ⟨f0, f1, f2, f3, f4, f5⟩ := hf it (by simp)
  exact wpAny_pyNext_range_end (I.ok.hd hc) st (by have : n ≤ i := hg; omega) fun h' eb => ⟨rfl, I.turned (t' := s.toks) (fun b o hb e => eb b o hb e) f0 f1 f3 f4 f5⟩
 self := fun _ _ _ _ _ st h => wpAny_pyIter_rangeiter st h
end L2
namespace L2
open PySem PySem.Spec PyProof.Rows
section
variable {X : Cx} {tg : Expr}
def zhz (K : PySem.W.Frag) (tl : TE) : TI := fun σ H R => tl σ H fun x H1 => ∃ a, x = .ref a ∧ (∃ xs, SqL K H1 a xs) ∧ R (Itl K a) H1
def iTup (K : PySem.W.Frag) (tl : TE) : TI := fun σ H R => tl σ H fun x H1 => ∃ a, x = .ref a ∧ (∃ xs, SqT K H1 a xs) ∧ R (Itt K a) H1
theorem z18 {l : Expr} {tl : TE} (hl : PE X l tl) : PI X tg l (zhz X.K tl) := by
 intro pins s σ H R I h
 refine thn (hl pins s σ H _ I h) fun v s1 ⟨x, H1, I1, r1, q1⟩ => ?_
 obtain ⟨a, e, ⟨xs, hq⟩, q⟩ := q1
 subst e
 cases r1
 obtain ⟨its, rv, p, hz⟩ := I1.list hq
 refine wpAny_pyIter_list p.isList ?_
 refine ⟨s1.heap.objs.size, [s1.heap.objs.size], _, _, H1, rfl, I1.kept (t' := s1.toks) fun b o e => Heap.get?_push_of_some _ e, zf0 a _, ⟨_, Heap.get?_push_size _ rfl, rfl, rfl⟩, fun b hb => ?_, q⟩
 have e : b = s1.heap.objs.size := by simpa using hb
 subst e
 exact I1.fpOk (Nat.le_refl _) (I1.hok.fresh (Nat.le_refl _))
theorem zbf {pins : List (Addr × Obj)} {σ : St} {H : Hp} {s : Shared} {R : It → Hp → Prop} {E : Value → Shared → Prop} {lo hi : Int} {t u v : Tok} {tk : Nat} (I : Inv X pins σ H s) (h1 : -(2 ^ 62) ≤ lo) (h2 : lo < 2 ^ 62) (h3 : -(2 ^ 62) ≤ hi) (h4 : hi < 2 ^ 62)
  (q : R (Itr lo (hi - lo).toNat) H) : wpAny (model X.prog X.w) X.A (pyIter (.ref s.heap.objs.size)) (PIE X pins σ tg R) E { s with heap := s.heap.push { cls := .type "range", data := .fields #[.int lo t, .int hi u, .int 1 v] }, toks := tk } := by
 refine wpAny_pyIter_range (IsRange.new ..) (small_one h1 h2 h3 h4) ?_
 have I1 : Inv X pins σ H { s with heap := s.heap.push { cls := .type "range", data := .fields #[.int lo t, .int hi u, .int 1 v] }, toks := tk } := I.kept fun b o e => Heap.get?_push_of_some _ e
 refine ⟨(s.heap.push { cls := .type "range", data := .fields #[.int lo t, .int hi u, .int 1 v] }).objs.size, [(s.heap.push { cls := .type "range", data := .fields #[.int lo t, .int hi u, .int 1 v] }).objs.size], _, _, H, rfl,
  I1.kept (t' := tk) fun b o e => Heap.get?_push_of_some _ e, zdp _ lo (hi - lo).toNat, ?_, fun b hb => ?_, q⟩
 ·have e1 : lo + ((0 : Nat) : Int) * 1 = lo := by simp
  have e2 : (((hi - lo).toNat : Nat) : Int) - ((0 : Nat) : Int) = Builtin.Range.rangeSize lo hi 1 := by rw [rangeSize_one]; split <;> omega
  show IsRangeIter _ _ (lo + ((0 : Nat) : Int) * 1) ((((hi - lo).toNat : Nat) : Int) - ((0 : Nat) : Int)) 1
  rw [e1, e2]
  exact Heap.get?_push_size _ rfl
 ·have e : b = (s.heap.push { cls := .type "range", data := .fields #[.int lo t, .int hi u, .int 1 v] }).objs.size := by simpa using hb
  subst e
  exact I1.fpOk (Nat.le_refl _) (I1.hok.fresh (Nat.le_refl _))
def zdq (ta : TA) : TI := fun σ H R => ta σ H fun vs H1 => ∃ j : Int, vs = [.int j] ∧ -(2 ^ 62) ≤ j ∧ j < 2 ^ 62 ∧ R (Itr 0 j.toNat) H1
def zi0 (ta : TA) : TI := fun σ H R => ta σ H fun vs H1 => ∃ i j : Int, vs = [.int i, .int j] ∧ (-(2 ^ 62) ≤ i ∧ i < 2 ^ 62 ∧ -(2 ^ 62) ≤ j ∧ j < 2 ^ 62) ∧ R (Itr i (j - i).toNat) H1
theorem z2k {a : Expr} {ta : TA} {p pos : Pos} (hg : Gl X "range") (hm : X.mg "range" = none) (ha : PA X [a] ta) (hs : starEach [a] X.env = [(false, eval a X.env)] := by rfl) : PI X tg (.Call (.Name "range" p) [a] [] pos) (zdq ta) := by
 intro pins s σ H R I h
 refine Call_ (z4l I hg hm boot_range (PyProof.Rows.callWith_type1 (thn (ha pos pins s σ H _ I h) fun us s1 ⟨vs, H1, I1, r1, q1⟩ => ?_) hs rfl))
 obtain ⟨j, e, q1, q2, q⟩ := q1
 subst e
 cases r1 with
 | cons r rr =>
  cases rr
  obtain ⟨t, rfl⟩ := r
  exact call_range_1 (zbf I1 (by omega) (by omega) q1 q2 (by simpa using q))
theorem zaa {a b : Expr} {ta : TA} {p pos : Pos} (hg : Gl X "range") (hm : X.mg "range" = none) (ha : PA X [a, b] ta) (hs : starEach [a, b] X.env = [(false, eval a X.env), (false, eval b X.env)] := by rfl) (hs2 : starEach [b] X.env = [(false, eval b X.env)] := by rfl) :
  PI X tg (.Call (.Name "range" p) [a, b] [] pos) (zi0 ta) := by
 intro pins s σ H R I h
 refine Call_ (z4l I hg hm boot_range (PyProof.Rows.callWith_type1 (thn (ha pos pins s σ H _ I h) fun us s1 ⟨vs, H1, I1, r1, q1⟩ => ?_) (by rw [hs, hs2]) (by rw [hs2]; rfl)))
 obtain ⟨i, j, e, ⟨q1, q2, q3, q4⟩, q⟩ := q1
 subst e
 cases r1 with
 | cons r rr =>
  cases rr with
  | cons r' rr =>
   cases rr
   obtain ⟨t, rfl⟩ := r
   obtain ⟨t', rfl⟩ := r'
   exact call_range_2 (zbf I1 q1 q2 q3 q4 q)
def tFor (wi : TI) (g : TG) (tb : TS) : TS := fun D σ H => wi σ H fun J H1 => ∃ W : Nat → Nat → St → Hp → Prop, (∃ m, W 0 m σ H1) ∧ ∀ i m σ H, W i m σ H →
 (J.stop i H ∧ D.nx σ H) ∨ (J.go i H ∧ ∃ N : St → Hp → Prop, (∀ σ' H', N σ' H' → ∃ m', m' < m ∧ W (i + 1) m' σ' H') ∧ ∀ x H', J.yld i H x H' → g x σ H' fun σ2 H2 => tb { D with nx := N, ct := N, bk := D.nx } σ2 H2)
def z4m (fp : List Addr) (h : Heap) : List (Addr × Obj) := fp.filterMap fun b => (h.get? b).map fun o => (b, o)
theorem z31 {fp : List Addr} {h : Heap} {b : Addr} {o : Obj} (hb : b ∈ fp) (e : h.get? b = some o) : (b, o) ∈ z4m fp h := List.mem_filterMap.mpr ⟨b, hb, by rw [e]; rfl⟩
theorem zf1 {fp : List Addr} {h : Heap} {p : Addr × Obj} (hp : p ∈ z4m fp h) : p.1 ∈ fp ∧ h.get? p.1 = some p.2 := by
 obtain ⟨b, hb, e⟩ := List.mem_filterMap.mp hp
 cases q : h.get? b with
 | none => rw [q] at e; cases e
 | some o =>
  rw [q] at e
  have e' : (b, o) = p := Option.some.inj e
  subst e'
  exact ⟨hb, q⟩
theorem Inv.pinned {pins : List (Addr × Obj)} {σ : St} {H : Hp} {s : Shared} {fp : List Addr} (I : Inv X pins σ H s) (hf : ∀ b ∈ fp, FpOk X pins H b) (ho : ∀ b ∈ fp, ∃ o, s.heap.get? b = some o ∧ ∀ v, o.data ≠ .cell v) : Inv X (pins ++ z4m fp s.heap) σ H s :=
 I.pins_of fun p hp => (List.mem_append.mp hp).elim (fun z => I.pin p (List.mem_append_right _ z)) fun z => by
  obtain ⟨hb, e⟩ := zf1 z
  obtain ⟨f0, f1, f2, _⟩ := hf p.1 hb
  obtain ⟨o, e', d⟩ := ho p.1 hb
  rw [e] at e'; cases e'
  exact ⟨e, f0, f1, f2, d⟩
theorem Inv.unpinned {pins pl : List (Addr × Obj)} {σ : St} {H : Hp} {s : Shared} (I : Inv X (pins ++ pl) σ H s) : Inv X pins σ H s := I.pins_of fun p hp => I.pin p (List.mem_append_right _ (List.mem_append_left _ hp))
theorem z2p {iter : Expr} {body : List Stmt} {wi : TI} {g : TG} {tb : TS} {pos : Pos} (hp : PassesOwn (model X.prog X.w) X.A X.env X.xe) (hc : X.calm = true) (hi : PI X tg iter wi) (hg : PG X tg g) (hb : PSs X body tb)
  (hs : ∀ x, foldedSetIterable iter X.env x = pure x := by intro _; rfl) : PS X (.For tg iter body [] pos) (tFor wi g tb) := by
 intro pins s σ H D I h
 refine wpAny_For (thn (hi pins s σ H _ I h) fun v s1 h1 => thn h1 fun itv s2 h2 => ?_) hs
 obtain ⟨it, fp, tn, J, H2, e, I2, T, st2, f2, W, ⟨m0, w0⟩, turn⟩ := h2
 subst e
 have stat : ∀ {H' : Hp}, (∀ b ∈ fp, H' b = none) → ∀ b ∈ fp, FpOk X pins H' b := fun hn b hb => ⟨hn b hb, (f2 b hb).2⟩
 refine codeAny_forLoop_any (fun n s' => ∃ i σ' H', Inv X pins σ' H' s' ∧ tn i s'.heap ∧ (∀ b ∈ fp, H' b = none) ∧ W i n σ' H') ?_ m0 ⟨0, σ, H2, I2, st2, fun b hb => (f2 b hb).1, w0⟩
 rintro n s3 ⟨i, σ3, H3, I3, st3, fr3, w3⟩
 rcases turn i n σ3 H3 w3 with ⟨stop, qn⟩ | ⟨go, N, hN, step⟩
 ·refine wpAny_passesOwn hp (thn (T.done X rfl rfl rfl hc i pins s3 σ3 H3 X.xe I3 (stat fr3) st3 stop) fun r s4 ⟨hr, I4⟩ => ?_)
  subst hr
  exact wpAny_execs_nil ⟨σ3, H3, I4, qn⟩
 ·refine wpAny_passesOwn hp (thn (T.item X rfl rfl rfl hc i pins s3 σ3 H3 X.xe I3 (stat fr3) st3 go) fun r s4 ⟨u, hr, h4⟩ => ?_)
  subst hr
  refine wpAny_passesOwn hp (thn h4 fun _ s5 ⟨x, H5, I5, r5, y5, st5, fr5⟩ => ?_)
  have I5' := I5.pinned (stat fr5) (T.obj _ _ st5)
  refine wpAny_passesOwn hp (thn (hg _ s5 σ3 H5 x u _ I5' r5 (step x H5 y5)) fun _ s6 ⟨σ6, H6, I6, q6⟩ => ?_)
  refine wpAny_passesOwn hp (thn (hb _ s6 σ6 H6 _ I6 q6) fun f s7 q7 => ?_)
  have again : ∀ {σ7 : St} {H7 : Hp}, Inv X (pins ++ z4m fp s5.heap) σ7 H7 s7 → N σ7 H7 → ∃ m, m < n ∧ ∃ i σ' H', Inv X pins σ' H' s7 ∧ tn i s7.heap ∧ (∀ b ∈ fp, H' b = none) ∧ W i m σ' H' := fun {σ7 H7} I7 n7 => by
   obtain ⟨m', hm, w7⟩ := hN σ7 H7 n7
   refine ⟨m', hm, i + 1, σ7, H7, I7.unpinned, T.keep _ _ _ st5 fun b hb o e => (I7.pin (b, o) (List.mem_append_right _ (List.mem_append_right _ (z31 hb e)))).1, fun b hb => ?_, w7⟩
   obtain ⟨o, e, d⟩ := T.obj _ _ st5 b hb
   exact (I7.pin (b, o) (List.mem_append_right _ (List.mem_append_right _ (z31 hb e)))).2.1
  cases f with
  | next => obtain ⟨σ7, H7, I7, n7⟩ := q7; exact again I7 n7
  | cont => obtain ⟨σ7, H7, I7, n7⟩ := q7; exact again I7 n7
  | brk => obtain ⟨σ7, H7, I7, q7⟩ := q7; exact ⟨σ7, H7, I7.unpinned, q7⟩
  | ret v => obtain ⟨x7, σ7, H7, I7, r7, q7⟩ := q7; exact ⟨x7, σ7, H7, I7.unpinned, r7, q7⟩
end
theorem zgx {K : PySem.W.Frag} {a : Addr} {xs : List V} {g : TG} {tb : TS} {D : Ends} {σ : St} {H : Hp} (Pv : Nat → St → Hp → Prop) (h0 : Pv 0 σ H) (hl : ∀ i σ H, i ≤ xs.length → Pv i σ H → SqL K H a xs)
  (hs : ∀ i x σ H, xs[i]? = some x → Pv i σ H → g x σ H fun σ2 H2 => tb { D with nx := Pv (i + 1), ct := Pv (i + 1), bk := D.nx } σ2 H2) (hd : ∀ σ H, Pv xs.length σ H → D.nx σ H) :
  ∃ W : Nat → Nat → St → Hp → Prop, (∃ m, W 0 m σ H) ∧ ∀ i m σ H, W i m σ H →
   ((Itl K a).stop i H ∧ D.nx σ H) ∨ ((Itl K a).go i H ∧ ∃ N : St → Hp → Prop, (∀ σ' H', N σ' H' → ∃ m', m' < m ∧ W (i + 1) m' σ' H') ∧ ∀ x H', (Itl K a).yld i H x H' → g x σ H' fun σ2 H2 => tb { D with nx := N, ct := N, bk := D.nx } σ2 H2) := by
 refine ⟨fun i m σ H => m = xs.length - i ∧ i ≤ xs.length ∧ Pv i σ H, ⟨xs.length, by simp, Nat.zero_le _, h0⟩, ?_⟩
 rintro i m σ H ⟨rfl, hi, p⟩
 have q := hl i σ H hi p
 by_cases hlt : i < xs.length
 ·refine .inr ⟨⟨xs, xs[i], q, by simp [hlt]⟩, Pv (i + 1), fun σ' H' p' => ⟨xs.length - (i + 1), by omega, rfl, hlt, p'⟩, fun x H' y => ?_⟩
  obtain ⟨e, y⟩ := y
  subst e
  exact hs i x σ _ (y xs q) p
 ·have e : i = xs.length := by omega
  subst e
  exact .inl ⟨⟨xs, q, Nat.le_refl _⟩, hd σ H p⟩
theorem zf2 {lo : Int} {n : Nat} {g : TG} {tb : TS} {D : Ends} {σ : St} {H : Hp} (Pv : Nat → St → Hp → Prop) (h0 : Pv 0 σ H)
  (hs : ∀ i σ H, i < n → Pv i σ H → g (.int (lo + i)) σ H fun σ2 H2 => tb { D with nx := Pv (i + 1), ct := Pv (i + 1), bk := D.nx } σ2 H2) (hd : ∀ σ H, Pv n σ H → D.nx σ H) :
  ∃ W : Nat → Nat → St → Hp → Prop, (∃ m, W 0 m σ H) ∧ ∀ i m σ H, W i m σ H →
   ((Itr lo n).stop i H ∧ D.nx σ H) ∨ ((Itr lo n).go i H ∧ ∃ N : St → Hp → Prop, (∀ σ' H', N σ' H' → ∃ m', m' < m ∧ W (i + 1) m' σ' H') ∧ ∀ x H', (Itr lo n).yld i H x H' → g x σ H' fun σ2 H2 => tb { D with nx := N, ct := N, bk := D.nx } σ2 H2) := by
 refine ⟨fun i m σ H => m = n - i ∧ i ≤ n ∧ Pv i σ H, ⟨n, by simp, Nat.zero_le _, h0⟩, ?_⟩
 rintro i m σ H ⟨rfl, hi, p⟩
 by_cases hlt : i < n
 ·refine .inr ⟨hlt, Pv (i + 1), fun σ' H' p' => ⟨n - (i + 1), by omega, rfl, hlt, p'⟩, fun x H' y => ?_⟩
  obtain ⟨e, y⟩ := y
  subst e y
  exact hs i σ _ hlt p
 ·have e : i = n := by omega
  subst e
  exact .inl ⟨Nat.le_refl _, hd σ H p⟩
end L2
namespace L2
open PySem PySem.Spec PyProof.Rows
abbrev R2 := V → V → Hp → VK → Prop
def OpR (X : Cx) (f : Value → Value → Sem Value) (r : R2) : Prop :=
 ∀ (pins : List (Addr × Obj)) (s : Shared) (σ : St) (H : Hp) (x y : V) (v u : Value) (Q : VK), Inv X pins σ H s → RelV x v → RelV y u → r x y H Q →
  wpAny (model X.prog X.w) X.A (f v u) (EP X pins σ Q) X.xe s
def UnR (X : Cx) (f : Value → Sem Value) (r : V → Hp → VK → Prop) : Prop :=
 ∀ (pins : List (Addr × Obj)) (s : Shared) (σ : St) (H : Hp) (x : V) (v : Value) (Q : VK), Inv X pins σ H s → RelV x v → r x H Q →
  wpAny (model X.prog X.w) X.A (f v) (EP X pins σ Q) X.xe s
def CallR (X : Cx) (f : Value) (r : List V → Hp → VK → Prop) : Prop :=
 ∀ (pins : List (Addr × Obj)) (s : Shared) (σ : St) (H : Hp) (xs : List V) (us : List Value) (Q : VK), Inv X pins σ H s → Vals xs us → r xs H Q →
  wpAny (model X.prog X.w) X.A (call f us) (EP X pins σ Q) X.xe s
def tOp (r : R2) (ta tb : TE) : TE := fun σ H Q => ta σ H fun x H1 => tb σ H1 fun y H2 => r x y H2 Q
def tUn (r : V → Hp → VK → Prop) (ta : TE) : TE := fun σ H Q => ta σ H fun x H1 => r x H1 Q
def rI (C : Int → Int → Prop) (g : Int → Int → V) : R2 := fun x y H Q => ∃ i j, x = .int i ∧ y = .int j ∧ C i j ∧ Q (g i j) H
def rI0 (g : Int → Int → V) : R2 := fun x y H Q => ∃ i j, x = .int i ∧ y = .int j ∧ Q (g i j) H
def rU (g : Int → V) : V → Hp → VK → Prop := fun x H Q => ∃ i, x = .int i ∧ Q (g i) H
section
variable {X : Cx} {a b c : Expr} {ta tb tc : TE} {pos : Pos}
theorem binT (ha : PE X a ta) (hb : PE X b tb) {pins : List (Addr × Obj)} {s : Shared} {σ : St} {H : Hp} {R : V → V → Hp → Prop} (I : Inv X pins σ H s)
  (h : ta σ H fun x H1 => tb σ H1 fun y H2 => R x y H2) {Q : Value → Shared → Prop} {f : Value → Value → Sem Value}
  (hf : ∀ v u s2 x y H2, Inv X pins σ H2 s2 → RelV x v → RelV y u → R x y H2 → wpAny (model X.prog X.w) X.A (f v u) Q X.xe s2) :
  wpAny (model X.prog X.w) X.A (eval a X.env) (fun v s₁ => wpAny (model X.prog X.w) X.A (eval b X.env) (fun u s₂ => wpAny (model X.prog X.w) X.A (f v u) Q X.xe s₂) X.xe s₁) X.xe s := by
 refine thn (ha pins s σ H _ I h) fun v s1 ⟨x, H1, I1, r1, q1⟩ => ?_
 refine thn (hb pins s1 σ H1 _ I1 q1) fun u s2 ⟨y, H2, I2, r2, q2⟩ => ?_
 exact hf v u s2 x y H2 I2 r1 r2 q2
theorem ze {op : Operator} {r : R2} (ho : OpR X (binaryOp op) r) (ha : PE X a ta) (hb : PE X b tb) : PE X (.BinOp a op b pos) (tOp r ta tb) := by
 intro pins s σ H Q I h
 exact wpAny_BinOp (binT ha hb I h fun v u s2 x y H2 I2 rx ry q => ho pins s2 σ H2 x y v u Q I2 rx ry q)
theorem zi1 {op : UnaryOp} {r : V → Hp → VK → Prop} (ho : UnR X (unaryOp op) r) (ha : PE X a ta) : PE X (.UnaryOp op a pos) (tUn r ta) := by
 intro pins s σ H Q I h
 exact UnaryOp_ (thn (ha pins s σ H _ I h) fun v s1 ⟨x, H1, I1, r1, q1⟩ => ho pins s1 σ H1 x v Q I1 r1 q1)
theorem opI {f : Value → Value → Sem Value} {C : Int → Int → Prop} {g : Int → Int → Int}
  (rule : ∀ (i j : Int) (t u : Tok) (s : Shared) (Q : Value → Shared → Prop) (E : Value → Shared → Prop), C i j → Q (.int (g i j) s.toks) { s with toks := s.toks + 1 } → wpAny (model X.prog X.w) X.A (f (.int i t) (.int j u)) Q E s) :
  OpR X f (rI C fun i j => .int (g i j)) := by
 intro pins s σ H x y v u Q I rx ry h
 obtain ⟨i, j, rfl, rfl, hc, q⟩ := h
 obtain ⟨t, rfl⟩ := rx
 obtain ⟨t', rfl⟩ := ry
 exact rule i j t t' s _ _ hc ⟨.int (g i j), H, I.tok _, ⟨_, rfl⟩, q⟩
theorem opI0 {f : Value → Value → Sem Value} {g : Int → Int → Int}
  (rule : ∀ (i j : Int) (t u : Tok) (s : Shared) (Q : Value → Shared → Prop) (E : Value → Shared → Prop), Q (.int (g i j) s.toks) { s with toks := s.toks + 1 } → wpAny (model X.prog X.w) X.A (f (.int i t) (.int j u)) Q E s) :
  OpR X f (rI0 fun i j => .int (g i j)) := by
 intro pins s σ H x y v u Q I rx ry h
 obtain ⟨i, j, rfl, rfl, q⟩ := h
 obtain ⟨t, rfl⟩ := rx
 obtain ⟨t', rfl⟩ := ry
 exact rule i j t t' s _ _ ⟨.int (g i j), H, I.tok _, ⟨_, rfl⟩, q⟩
theorem opB0 {f : Value → Value → Sem Value} {g : Int → Int → Bool}
  (rule : ∀ (i j : Int) (t u : Tok) (s : Shared) (Q : Value → Shared → Prop) (E : Value → Shared → Prop), Q (.bool (g i j)) s → wpAny (model X.prog X.w) X.A (f (.int i t) (.int j u)) Q E s) :
  OpR X f (rI0 fun i j => .bl (g i j)) := by
 intro pins s σ H x y v u Q I rx ry h
 obtain ⟨i, j, rfl, rfl, q⟩ := h
 obtain ⟨t, rfl⟩ := rx
 obtain ⟨t', rfl⟩ := ry
 exact rule i j t t' s _ _ ⟨.bl (g i j), H, I, rfl, q⟩
def CDiv (i j : Int) : Prop := 0 < j ∧ j < 1073741824
def CMul (i j : Int) : Prop := (-(2 ^ 64) < i ∧ i < 2 ^ 64) ∨ (-(2 ^ 64) < j ∧ j < 2 ^ 64)
theorem CMul.ok {i j : Int} (h : CMul i j) : IntMulOk i j := by
 rcases h with ⟨h1, h2⟩ | ⟨h1, h2⟩
 ·exact .of_left (intBits_le_64 h1 h2)
 ·exact .of_right (intBits_le_64 h1 h2)
theorem z13 : OpR X (binaryOp .Add) (rI0 fun i j => .int (i + j)) := opI0 fun _ _ _ _ _ _ _ q => add_int q
theorem z2q : OpR X (binaryOp .Sub) (rI0 fun i j => .int (i - j)) := opI0 fun _ _ _ _ _ _ _ q => sub_int q
theorem z6i : OpR X (binaryOp .Mult) (rI CMul fun i j => .int (i * j)) := opI fun _ _ _ _ _ _ _ hc q => mul_int q hc.ok
theorem z17 : OpR X (binaryOp .FloorDiv) (rI CDiv fun i j => .int (i / j)) := opI fun i j _ _ _ _ _ hc q => by
 have h1 : (0 : Int) < j := hc.1
 have h2 : j < 1073741824 := hc.2
 exact floordiv_int (by omega) (by rw [Int.fdiv_eq_ediv_of_nonneg i (by omega)]; exact q) (.inl (PyProof.noPylong_small (by omega)))
theorem z11 : OpR X (binaryOp .Mod) (rI (fun _ j => 0 < j) fun i j => .int (i % j)) := opI fun i j _ _ _ _ _ hc q => by
 have h1 : (0 : Int) < j := hc
 exact mod_int' (by omega) (by rw [Int.fmod_eq_emod_of_nonneg i (by omega)]; exact q)
theorem unI {f : Value → Sem Value} {g : Int → Int}
  (rule : ∀ (i : Int) (t : Tok) (s : Shared) (Q : Value → Shared → Prop) (E : Value → Shared → Prop), Q (.int (g i) s.toks) { s with toks := s.toks + 1 } → wpAny (model X.prog X.w) X.A (f (.int i t)) Q E s) :
  UnR X f (rU fun i => .int (g i)) := by
 intro pins s σ H x v Q I rx h
 obtain ⟨i, rfl, q⟩ := h
 obtain ⟨t, rfl⟩ := rx
 exact rule i t s _ _ ⟨.int (g i), H, I.tok _, ⟨_, rfl⟩, q⟩
theorem zf3 : UnR X (unaryOp .USub) (rU fun i => .int (-i)) := unI fun _ _ _ _ _ q => neg_int q
end
def scal : V → V → Bool
 | .non, .non => true | .non, .int _ => true | .int _, .non => true | .non, .bl _ => true | .bl _, .non => true | .non, .str _ => true | .str _, .non => true
 | .int _, .int _ => true | .bl _, .bl _ => true | .str _, .str _ => true | .byt _, .byt _ => true
 | .int _, .str _ => true | .str _, .int _ => true | .bl _, .str _ => true | .str _, .bl _ => true
 | _, _ => false
def rEq : R2 := fun x y H Q => scal x y = true ∧ Q (.bl (decide (x = y))) H
def rNe : R2 := fun x y H Q => scal x y = true ∧ Q (.bl (!decide (x = y))) H
theorem zd3 {i j : Int} : decide (V.int i = V.int j) = (i == j) := by
 rw [Bool.eq_iff_iff]
 simp
theorem zf4 {i j : Bool} : decide (V.bl i = V.bl j) = (i == j) := by
 rw [Bool.eq_iff_iff]
 simp
theorem zd4 {i j : Str} : decide (V.str i = V.str j) = (i == j) := by
 rw [Bool.eq_iff_iff]
 simp
theorem zd5 {i j : Array UInt8} : decide (V.byt i = V.byt j) = (i.toList == j.toList) := by
 rw [Bool.eq_iff_iff]
 cases i
 cases j
 simp
section
variable {X : Cx} {a b c : Expr} {ta tb tc : TE} {pos : Pos}
theorem z12 {pins : List (Addr × Obj)} {σ : St} {H : Hp} {s : Shared} {Q : VK} {k k' : Bool} (I : Inv X pins σ H s) (q : Q (.bl k) H) (e : k = k') : EP X pins σ Q (.bool k') s := by
 subst e
 exact ⟨.bl k, H, I, rfl, q⟩
theorem z19 : OpR X (compareOp .Eq) rEq := by
 intro pins s σ H x y v u Q I rx ry h
 obtain ⟨hs, q⟩ := h
 cases x with
 | non =>
  cases rx
  cases y with
  | non => cases ry; exact PySem.EqNone.eq_none_none (z12 I q (by simp))
  | bl j => cases ry; exact PySem.EqNone.eq_none_bool (z12 I q (by simp))
  | int j => obtain ⟨t', rfl⟩ := ry; exact PySem.EqNone.eq_none_int (z12 I q (by simp))
  | str j => obtain ⟨t', rfl⟩ := ry; exact PySem.EqNone.eq_none_str (z12 I q (by simp))
  | _ => exact absurd (show false = true from hs) Bool.false_ne_true
 | bl i =>
  cases rx
  cases y with
  | non => cases ry; exact PySem.EqNone.eq_bool_none (z12 I q (by simp))
  | bl j => cases ry; exact eq_bool (z12 I q zf4)
  | str j => obtain ⟨t', rfl⟩ := ry; exact PySem.EqMixed.eq_bool_str (z12 I q (by simp))
  | _ => exact absurd (show false = true from hs) Bool.false_ne_true
 | int i =>
  obtain ⟨t, rfl⟩ := rx
  cases y with
  | non => cases ry; exact PySem.EqNone.eq_int_none (z12 I q (by simp))
  | int j => obtain ⟨t', rfl⟩ := ry; exact eq_int (z12 I q zd3)
  | str j => obtain ⟨t', rfl⟩ := ry; exact PySem.EqMixed.eq_int_str (z12 I q (by simp))
  | _ => exact absurd (show false = true from hs) Bool.false_ne_true
 | str i =>
  obtain ⟨t, rfl⟩ := rx
  cases y with
  | non => cases ry; exact PySem.EqNone.eq_str_none (z12 I q (by simp))
  | bl j => cases ry; exact PySem.EqMixed.eq_str_bool (z12 I q (by simp))
  | int j => obtain ⟨t', rfl⟩ := ry; exact PySem.EqMixed.eq_str_int (z12 I q (by simp))
  | str j => obtain ⟨t', rfl⟩ := ry; exact eq_str (z12 I q zd4)
  | _ => exact absurd (show false = true from hs) Bool.false_ne_true
 | byt i =>
  obtain ⟨t, rfl⟩ := rx
  cases y with
  | byt j => obtain ⟨t', rfl⟩ := ry; exact PySem.W.eq_bytes (z12 I q zd5)
  | _ => exact absurd (show false = true from hs) Bool.false_ne_true
 | _ => cases y <;> exact absurd (show false = true from hs) Bool.false_ne_true
theorem z2l : OpR X (compareOp .NotEq) rNe := by
 intro pins s σ H x y v u Q I rx ry h
 obtain ⟨hs, q⟩ := h
 cases x with
 | non =>
  cases rx
  cases y with
  | non => cases ry; exact PySem.EqNone.ne_none_none (z12 I q (by simp))
  | bl j => cases ry; exact PySem.EqNone.ne_none_bool (z12 I q (by simp))
  | int j => obtain ⟨t', rfl⟩ := ry; exact PySem.EqNone.ne_none_int (z12 I q (by simp))
  | str j => obtain ⟨t', rfl⟩ := ry; exact PySem.EqNone.ne_none_str (z12 I q (by simp))
  | _ => exact absurd (show false = true from hs) Bool.false_ne_true
 | bl i =>
  cases rx
  cases y with
  | non => cases ry; exact PySem.EqNone.ne_bool_none (z12 I q (by simp))
  | bl j => cases ry; exact ne_bool (z12 I q (congrArg not zf4))
  | str j => obtain ⟨t', rfl⟩ := ry; exact PySem.EqMixed.ne_bool_str (z12 I q (by simp))
  | _ => exact absurd (show false = true from hs) Bool.false_ne_true
 | int i =>
  obtain ⟨t, rfl⟩ := rx
  cases y with
  | non => cases ry; exact PySem.EqNone.ne_int_none (z12 I q (by simp))
  | int j => obtain ⟨t', rfl⟩ := ry; exact ne_int (z12 I q (congrArg not zd3))
  | str j => obtain ⟨t', rfl⟩ := ry; exact PySem.EqMixed.ne_int_str (z12 I q (by simp))
  | _ => exact absurd (show false = true from hs) Bool.false_ne_true
 | str i =>
  obtain ⟨t, rfl⟩ := rx
  cases y with
  | non => cases ry; exact PySem.EqNone.ne_str_none (z12 I q (by simp))
  | bl j => cases ry; exact PySem.EqMixed.ne_str_bool (z12 I q (by simp))
  | int j => obtain ⟨t', rfl⟩ := ry; exact PySem.EqMixed.ne_str_int (z12 I q (by simp))
  | str j => obtain ⟨t', rfl⟩ := ry; exact ne_str (z12 I q (congrArg not zd4))
  | _ => exact absurd (show false = true from hs) Bool.false_ne_true
 | byt i =>
  obtain ⟨t, rfl⟩ := rx
  cases y with
  | byt j => obtain ⟨t', rfl⟩ := ry; exact PySem.W.ne_bytes (z12 I q (congrArg not zd5))
  | _ => exact absurd (show false = true from hs) Bool.false_ne_true
 | _ => cases y <;> exact absurd (show false = true from hs) Bool.false_ne_true
theorem z75 : OpR X (compareOp .Lt) (rI0 fun i j => .bl (decide (i < j))) := opB0 fun _ _ _ _ _ _ _ q => lt_int q
theorem zdr : OpR X (compareOp .LtE) (rI0 fun i j => .bl (decide (i ≤ j))) := opB0 fun _ _ _ _ _ _ _ q => le_int q
theorem z8g : OpR X (compareOp .Gt) (rI0 fun i j => .bl (decide (j < i))) := opB0 fun _ _ _ _ _ _ _ q => gt_int q
theorem zds : OpR X (compareOp .GtE) (rI0 fun i j => .bl (decide (j ≤ i))) := opB0 fun _ _ _ _ _ _ _ q => ge_int q
theorem OpR.or {f : Value → Value → Sem Value} {r r' : R2} (h : OpR X f r) (h' : OpR X f r') : OpR X f (fun x y H Q => r x y H Q ∨ r' x y H Q) := by
 intro pins s σ H x y v u Q I rx ry q
 rcases q with q | q
 ·exact h pins s σ H x y v u Q I rx ry q
 ·exact h' pins s σ H x y v u Q I rx ry q
theorem zl (b : Expr) {op : CmpOp} (h : op ≠ .In := by decide) (h2 : op ≠ .NotIn := by decide) : behindInMarks op b = false := by
 have e1 : (op == CmpOp.In) = false := by cases op <;> first | rfl | exact absurd rfl h
 have e2 : (op == CmpOp.NotIn) = false := by cases op <;> first | rfl | exact absurd rfl h2
 cases b <;> simp [behindInMarks, e1, e2]
theorem z1d {op : CmpOp} {r : R2} (ho : OpR X (compareOp op) r) (ha : PE X a ta) (hb : PE X b tb) (hm : behindInMarks op b = false) : PE X (.Compare a [op] [b] pos) (tOp r ta tb) := by
 intro pins s σ H Q I h
 exact wpAny_Compare1 (binT ha hb I h fun v u s2 x y H2 I2 rx ry q => ho pins s2 σ H2 x y v u Q I2 rx ry q) hm
def zdt (t : TE) : TT := fun σ H Q => t σ H fun x H' => ∃ k, x = .bl k ∧ Q k H'
theorem zm {op : CmpOp} {r : R2} (ho : OpR X (compareOp op) r) (ha : PE X a ta) (hb : PE X b tb) (hm : behindInMarks op b = false) : PT X (.Compare a [op] [b] pos) (zdt (tOp r ta tb)) := by
 intro pins s σ H Q I h
 refine wpAny_isTrue_Compare1 (thn (ha pins s σ H _ I h) fun v s1 ⟨x, H1, I1, r1, q1⟩ => thn (hb pins s1 σ H1 _ I1 q1) fun u s2 ⟨y, H2, I2, r2, q2⟩ =>
  thn (ho pins s2 σ H2 x y v u _ I2 r1 r2 q2) fun c s3 ⟨z, H3, I3, r3, k, e, q3⟩ => ?_) hm
 subst e
 cases r3
 exact wpAny_truthy_bool ⟨H3, I3, q3⟩
def zf5 (r r' : R2) (ta tb tc : TE) : TE := fun σ H Q => ta σ H fun x H1 => tb σ H1 fun y H2 => r x y H2 fun z H3 => ∃ k, z = .bl k ∧
 (if k = true then tc σ H3 fun w' H4 => r' y w' H4 Q else Q (.bl false) H3)
theorem zgy {op op' : CmpOp} {r r' : R2} (ho : OpR X (compareOp op) r) (ho' : OpR X (compareOp op') r') (ha : PE X a ta) (hb : PE X b tb) (hc : PE X c tc)
  (hm : lastMarks [op, op'] [b, c] = false := by with_unfolding_all rfl) : PT X (.Compare a [op, op'] [b, c] pos) (zdt (zf5 r r' ta tb tc)) := by
 intro pins s σ H Q I h
 refine isTrue_chain (thn (ha pins s σ H _ I h) fun v s1 ⟨x, H1, I1, r1, q1⟩ => test_link (thn (hb pins s1 σ H1 _ I1 q1) fun u s2 ⟨y, H2, I2, r2, q2⟩ =>
  thn (ho pins s2 σ H2 x y v u _ I2 r1 r2 q2) fun d s3 ⟨z, H3, I3, r3, k, e, q3⟩ => ?_)) hm
 subst e
 cases r3
 refine wpAny_truthy_bool ?_
 cases k with
 | false =>
  obtain ⟨k', e', q'⟩ := q3
  cases e'
  exact ite_ff ⟨H3, I3, q'⟩
 | true =>
  refine ite_tt (test_last (thn (hc pins s3 σ H3 _ I3 q3) fun w' s4 ⟨z', H4, I4, r4, q4⟩ => thn (ho' pins s4 σ H4 y z' u w' _ I4 r2 r4 q4) fun d' s5 ⟨z2, H5, I5, r5, k2, e2, q5⟩ => ?_))
  subst e2
  cases r5
  exact wpAny_truthy_bool ⟨H5, I5, q5⟩
theorem z6j : (sizeLine : Nat) < 2 ^ 63 := by rw [sizeLine_eq]; decide
theorem z3h : OpR X (binaryOp .Add) (fun x y H Q => ∃ i j, x = .str i ∧ y = .str j ∧ i.length + j.length ≤ sizeLine ∧ Q (.str (i ++ j)) H) := by
 intro pins s σ H x y v u Q I rx ry h
 obtain ⟨i, j, rfl, rfl, hz, q⟩ := h
 obtain ⟨t, rfl⟩ := rx
 obtain ⟨t', rfl⟩ := ry
 exact add_str (fun t' tk => ⟨.str (i ++ j), H, I.tok _, ⟨_, rfl⟩, q⟩) hz
theorem z4z {x : V} {us : List Value} (r : Vals [x] us) : ∃ u, us = [u] ∧ RelV x u := by
 cases r with
 | cons r1 r2 => cases r2; exact ⟨_, rfl, r1⟩
theorem zdu {x y : V} {us : List Value} (r : Vals [x, y] us) : ∃ u w', us = [u, w'] ∧ RelV x u ∧ RelV y w' := by
 cases r with
 | cons r1 r2 =>
  cases r2 with
  | cons r3 r4 => cases r4; exact ⟨_, _, rfl, r1, r3⟩
theorem zab (hc : X.calm = true) : CallR X (.builtin "min") (fun xs H Q => ∃ i j, xs = [.int i, .int j] ∧ Q (.int (if j < i then j else i)) H) := by
 intro pins s σ H xs us Q I r h
 obtain ⟨i, j, rfl, q⟩ := h
 obtain ⟨u, w', rfl, ⟨t, rfl⟩, ⟨t', rfl⟩⟩ := zdu r
 refine min_two_ints (I.ok.hd hc) fun h' tk k => ⟨_, H, I.kept k, ?_, q⟩
 by_cases hj : j < i
 ·rw [if_pos hj, if_pos hj]; exact ⟨_, rfl⟩
 ·rw [if_neg hj, if_neg hj]; exact ⟨_, rfl⟩
end
end L2
namespace L2
open PySem PySem.Spec PyProof.Rows
structure ObjM (h : Heap) (x dx C : Addr) (mA : Str → Option Value) : Prop where
 obj : h.get? x = some (PySem.W.instObj C dx)
 ns : h.Ns1 dx mA
 ne : dx ≠ x
theorem zf6 {h : Heap} {dx : Addr} {mA : Str → Option Value} (n : h.Ns1 dx mA) : ∃ od, h.get? dx = some od ∧ ∀ name, PySem.W.lookIn name od = some (mA name) := by
 obtain ⟨o, es, ep, ho, hd, hk, _, hm⟩ := n
 refine ⟨o, ho, fun name => ?_⟩
 have e := hm name
 unfold nsFind findBy at e
 rw [← Array.find?_toList] at e
 unfold PySem.W.lookIn
 rw [hd]
 dsimp only
 split
 ·rename_i y q
  rw [q] at e
  exact congrArg some e
 ·rename_i q
  rw [q] at e
  have a : es.toList.any (·.refKey) = false := by
   rw [List.any_eq_false]
   intro y hy
   obtain ⟨z, t, hkey⟩ := hk y (Array.mem_toList_iff.mp hy)
   simp [DictEntry.refKey, hkey]
  have a' : ¬ es.toList.any (·.refKey) = true := by rw [a]; exact Bool.false_ne_true
  rw [if_neg a']
  exact congrArg some e
theorem ObjM.look {h : Heap} {x dx C : Addr} {mA : Str → Option Value} (I : ObjM h x dx C mA) : ∃ od, PySem.W.InstAt h x (PySem.W.instObj C dx) C (some od) ∧ ∀ name, PySem.W.lookIn name od = some (mA name) :=
 let ⟨od, ho, hl⟩ := zf6 I.ns
 ⟨od, ⟨I.obj, rfl, rfl, ho⟩, hl⟩
section
variable {prog : Program} {w : World} {A : Around} {E : Value → Shared → Prop} {s : Shared} {K : PySem.W.Frag} {x dx C f : Addr} {mA : Str → Option Value} {name : Str} {v : Value}
theorem zig {expr : Bool} {Q : Value → Shared → Prop} (X : K.In s.heap) (I : ObjM s.heap x dx C mA) (hg : PySem.W.plainGet K C name = true) (hh : PySem.W.hasDictIn K C = true)
  (ha : PySem.W.findIn K (.ref C) name = some none) (hv : mA name = some v) (hv' : PySem.W.handedIn v = true) (h : Q v { s with toks := s.toks + 1 }) :
  wpAny (model prog w) A (getAttr (.ref x) name expr) Q E s := by
 obtain ⟨od, J, hl⟩ := I.look
 exact PySem.W.get_value X J (PySem.W.plainGet_of hg).1 (PySem.W.findObj_own hh ha rfl (by rw [hl, hv])) hv' h
theorem zgz {pl : Sem Bool} {Q : Value × List Value → Shared → Prop} (X : K.In s.heap) (I : ObjM s.heap x dx C mA) (hg : PySem.W.plainGet K C name = true)
  (hf : PySem.W.findIn K (.ref C) name = some (some (.ref f))) (ht : PySem.W.isFn K (.ref f) = true) (hv : mA name = none) (h : Q (.ref f, [.ref x]) s) :
  wpAny (model prog w) A (getMethod (.ref x) name pl) Q E s := by
 obtain ⟨od, J, hl⟩ := I.look
 exact PySem.W.method_fn X J (PySem.W.plainGet_of hg).1 (PySem.W.plainGet_of hg).2 hf (beq_iff_eq.mp ht) (by show (PySem.W.lookIn name od).map (·.isSome) = some false; rw [hl, hv]; rfl) h
theorem zih {ns : List Str} {Q : Unit → Shared → Prop} (X : K.In s.heap) (I : ObjM s.heap x dx C mA)
  (hs : PySem.W.findIn K (.ref C) "__setattr__" = some (some (.builtin "object.__setattr__"))) (hp : PySem.W.plainOver K C = true) (ht : PySem.W.takerIn K C name = some none) (hh : PySem.W.hasDictIn K C = true)
  (hw : PySem.Within mA ns) (hsz : ns.length ≤ sizeLine)
  (h : ∀ h', ObjM h' x dx C (fun y => if y = name then some v else mA y) → Heap.SameBut dx s.heap h' → Q () { s with heap := h', toks := s.toks + 2 }) :
  wpAny (model prog w) A (setAttr (.ref x) name v) Q E s := by
 obtain ⟨od, J, hl⟩ := I.look
 refine PySem.W.set_plain X J hs (PySem.W.osa_open (s := { s with toks := s.toks + 1 }) (r := none) X J hp ht fun b => ?_)
 obtain ⟨cd, hc, hd'⟩ := PySem.W.any_some hh
 have hx : s.heap.get? x = some ⟨.ref C, some dx, .plain, #[]⟩ := I.obj
 refine wpAny_bind (wpAny_pure (wpAny_bind (wpAny_bind (wpAny_loadPart hx (wpAny_bind (PySem.W.Looks.here (s := { s with toks := s.toks + 1 }) (PySem.W.looks_clsIn X hc) ?_))))))
 rw [hd']
 refine wpAny_pure (a := some dx) (wpAny_bind (wpAny_pure (wpAny_bind ?_)))
 refine wpAny_nsSet1 (s := { s with toks := s.toks + 1 }) I.ns fun h' hn2 hs2 => ?_
 obtain ⟨oD, esD, epD, hoD, hdD, hcD⟩ := hn2.count (PySem.Within.cons name v hw)
 refine wpAny_bind (wpAny_lookBehind hoD (by rw [hdD]; exact pastItsLine_dict (Nat.le_trans hcD (by rw [List.length_cons]; omega))) ?_)
 exact wpAny_pure (h _ ⟨(hs2.2 _ (Ne.symm I.ne)).trans I.obj, hn2, I.ne⟩ hs2)
theorem zh0 {R : Result → Shared → Prop} {vs : List Value} {kw : List (Str × Value)} (X : K.In s.heap) (hm : PySem.W.makesIn K C = true)
  (hi : PySem.W.findIn K (.ref C) "__init__" = some (some (.ref f))) (hf : PySem.W.typeIn K (.ref f) = some (.type "function"))
  (h : codeAny (model prog w) (A.under (.builtin "type.__call__" ⟨.ref C :: vs, kw⟩)) (.call (.ref f) ⟨.ref (s.heap.objs.size + 1) :: vs, kw⟩) (PySem.W.InitBack (s.heap.objs.size + 1) R)
   { s with heap := (s.heap.push PySem.W.emptyDict).push (PySem.W.instObj C s.heap.objs.size) }) :
  codeAny (model prog w) A (.call (.ref C) ⟨vs, kw⟩) R s := by
 obtain ⟨hh, g, d, t, os⟩ := s
 exact PySem.W.make_core (PySem.W.makes_of X hm) (PySem.W.looks_findIn X hi) (fun self => PySem.W.bind_fn X self hf) (.inl rfl) h
end
def putF (f : Str) (v : V) : List (Str × V) → List (Str × V)
 | [] => [(f, v)]
 | (g, x) :: r => if g = f then (g, v) :: r else (g, x) :: putF f v r
theorem z7k (f g : Str) (v : V) : ∀ fs : List (Str × V), (putF f v fs).lookup g = if g = f then some v else fs.lookup g
 | [] => by
  show List.lookup g [(f, v)] = _
  by_cases h : g = f
  ·have hb : (g == f) = true := beq_iff_eq.mpr h
   simp only [List.lookup, hb, if_pos h]
  ·have hb : (g == f) = false := beq_eq_false_iff_ne.mpr h
   simp only [List.lookup, hb, if_neg h]
 | (k, x) :: r => by
  have ih := z7k f g v r
  rw [show putF f v ((k, x) :: r) = (if k = f then (k, v) :: r else (k, x) :: putF f v r) from rfl]
  by_cases hk : k = f
  ·rw [if_pos hk]
   by_cases h : g = k
   ·have hb : (g == k) = true := beq_iff_eq.mpr h
    simp only [List.lookup, hb, if_pos (h.trans hk)]
   ·have hb : (g == k) = false := beq_eq_false_iff_ne.mpr h
    simp only [List.lookup, hb, if_neg (fun e : g = f => h (e.trans hk.symm))]
  ·rw [if_neg hk]
   by_cases h : g = k
   ·have hb : (g == k) = true := beq_iff_eq.mpr h
    simp only [List.lookup, hb, if_neg (fun e : g = f => hk (h.symm.trans e))]
   ·have hb : (g == k) = false := beq_eq_false_iff_ne.mpr h
    simp only [List.lookup, hb]
    exact ih
theorem z6k (f : Str) (v : V) : ∀ fs : List (Str × V), f ∈ (putF f v fs).map (·.1) ∧ ∀ g, g ∈ fs.map (·.1) → g ∈ (putF f v fs).map (·.1)
 | [] => ⟨by simp [putF], fun g h => by simp at h⟩
 | (k, x) :: r => by
  obtain ⟨i1, i2⟩ := z6k f v r
  rw [show putF f v ((k, x) :: r) = (if k = f then (k, v) :: r else (k, x) :: putF f v r) from rfl]
  by_cases hk : k = f
  ·rw [if_pos hk]
   subst hk
   exact ⟨by simp, fun g h => by simpa using h⟩
  ·rw [if_neg hk]
   refine ⟨?_, fun g h => ?_⟩
   ·rw [List.map_cons]
    exact List.mem_cons_of_mem _ i1
   ·rw [List.map_cons] at h ⊢
    rcases List.mem_cons.mp h with e | e
    ·exact List.mem_cons.mpr (.inl e)
    ·exact List.mem_cons_of_mem _ (i2 g e)
theorem z7l (f : Str) (v : V) : ∀ fs : List (Str × V), (putF f v fs).length ≤ fs.length + 1
 | [] => by simp [putF]
 | (k, x) :: r => by
  have ih := z7l f v r
  rw [show putF f v ((k, x) :: r) = (if k = f then (k, v) :: r else (k, x) :: putF f v r) from rfl]
  by_cases hk : k = f
  ·rw [if_pos hk, List.length_cons, List.length_cons]; omega
  ·rw [if_neg hk, List.length_cons, List.length_cons]; omega
theorem RelO.some_of {v : V} {o : Option Value} (r : RelO (some v) o) : ∃ u, o = some u ∧ RelV v u := by
 cases o with
 | none => exact (show False from r).elim
 | some u => exact ⟨u, rfl, r⟩
theorem RelO.none_of {o : Option Value} (r : RelO none o) : o = none := by
 cases o with
 | none => rfl
 | some u => exact (show False from r).elim
theorem zf7 {v : V} {u : Value} (r : RelV v u) : PySem.W.handedIn u = true := by
 cases v with
 | non => cases (show u = Value.none from r); rfl
 | bl b => cases (show u = Value.bool b from r); rfl
 | int i => obtain ⟨t, e⟩ := (show ∃ t, u = Value.int i t from r); cases e; rfl
 | str x => obtain ⟨t, e⟩ := (show ∃ t, u = Value.str x t from r); cases e; rfl
 | byt b => obtain ⟨t, e⟩ := (show ∃ t, u = Value.bytes b t from r); cases e; rfl
 | flt b => obtain ⟨t, e⟩ := (show ∃ t, u = Value.float b t from r); cases e; rfl
 | ref a => cases (show u = Value.ref a from r); rfl
 | ty n => cases (show u = Value.type n from r); rfl
section
variable {P : Program} {w : World} {H H' : Hp} {h h' : Heap} {a C dx : Addr} {fs fs' : List (Str × V)}
theorem z5e (hok : HOk P w H h) (e : H a = some (.ins C dx fs)) : ∃ mA, ObjM h a dx C mA ∧ (∀ f, RelO (fs.lookup f) (mA f)) ∧ PySem.Within mA (fs.map (·.1)) ∧ fs.length ≤ 1000 ∧ H dx = some (.own a) := by
 obtain ⟨d, z, ne, ob, mA, n, r, q⟩ := (show ObjOk P w H h a (.ins C dx fs) from hok a _ e)
 exact ⟨mA, ⟨ob, n, ne⟩, r, q, z, d⟩
end
structure Cls (K : PySem.W.Frag) (C : Addr) : Prop where
 pg : PySem.W.plainGet K C Str.empty = true
 hd : PySem.W.hasDictIn K C = true
 po : PySem.W.plainOver K C = true
 sa : PySem.W.findIn K (.ref C) "__setattr__" = some (some (.builtin "object.__setattr__"))
theorem Cls.get {K : PySem.W.Frag} {C : Addr} (c : Cls K C) (f : Str) : PySem.W.plainGet K C f = true := c.pg
def NoAttr (K : PySem.W.Frag) (C : Addr) (f : Str) : Prop := PySem.W.findIn K (.ref C) f = some none
theorem NoAttr.taker {K : PySem.W.Frag} {C : Addr} {f : Str} (n : NoAttr K C f) : PySem.W.takerIn K C f = some none := by
 unfold PySem.W.takerIn
 rw [show PySem.W.findIn K (.ref C) f = some none from n]
 rfl
structure Con (K : PySem.W.Frag) (C : Addr) (f : Str) (v : V) (u : Value) : Prop where
 at_ : PySem.W.findIn K (.ref C) f = some (some u)
 rel : RelV v u
 get : PySem.W.specialIn K u "__get__" = some none
 cp : PySem.W.copiedNames.contains f = false
structure Meth (K : PySem.W.Frag) (C : Addr) (m : Str) (f : Addr) : Prop where
 at_ : PySem.W.findIn K (.ref C) m = some (some (.ref f))
 fn : PySem.W.isFn K (.ref f) = true
 kp : PySem.W.keepIn K (.ref f) = true
section
variable {X : Cx} {pins : List (Addr × Obj)} {σ : St} {H : Hp} {s : Shared} {a C dx : Addr} {fs : List (Str × V)} {f : Str} {v : V} {A : Around} {E : Value → Shared → Prop}
theorem zdv {b : Bool} {Q : Value → Shared → Prop} (I : Inv X pins σ H s) (e : H a = some (.ins C dx fs)) (c : Cls X.K C) (n : NoAttr X.K C f) (l : fs.lookup f = some v)
  (h : ∀ u s', Inv X pins σ H s' → RelV v u → Q u s') : wpAny (model X.prog X.w) A (getAttr (.ref a) f b) Q E s := by
 obtain ⟨mA, O, r, _, _, _⟩ := z5e I.hok e
 obtain ⟨u, hu, ru⟩ := RelO.some_of (v := v) (o := mA f) (by rw [← l]; exact r f)
 exact zig I.kIn O (c.get f) c.hd n hu (zf7 ru) (h u _ (I.tok _) ru)
theorem z5o {m : Str} {g : Addr} {pl : Sem Bool} {Q : Value × List Value → Shared → Prop} (I : Inv X pins σ H s) (e : H a = some (.ins C dx fs)) (c : Cls X.K C) (k : Meth X.K C m g) (l : fs.lookup m = none)
  (h : Q (.ref g, [.ref a]) s) : wpAny (model X.prog X.w) A (getMethod (.ref a) m pl) Q E s := by
 obtain ⟨mA, O, r, _, _, _⟩ := z5e I.hok e
 have hn : mA m = none := RelO.none_of (by rw [← l]; exact r m)
 exact zgz I.kIn O (c.get m) k.at_ k.fn hn h
theorem zdw {y : V} {u : Value} {Q : Unit → Shared → Prop} (I : Inv X pins σ H s) (e : H a = some (.ins C dx fs)) (c : Cls X.K C) (n : NoAttr X.K C f) (hl : fs.length < 1000) (ry : RelV y u)
  (h : ∀ s', Inv X pins σ (upd H a (.ins C dx (putF f y fs))) s' → Q () s') : wpAny (model X.prog X.w) A (setAttr (.ref a) f u) Q E s := by
 obtain ⟨mA, O, r, wi, _, ho⟩ := z5e I.hok e
 have hz : (fs.map (·.1)).length ≤ sizeLine := by rw [List.length_map, sizeLine_eq]; omega
 refine zih I.kIn O c.sa c.po n.taker c.hd wi hz fun h' O' sb => h _ ?_
 have hd : ∃ o, h'.get? dx = some o := let ⟨o, _, _, e', _⟩ := O'.ns; ⟨o, e'⟩
 refine I.write (x := a) (e := dx) (by rw [e]; exact True.intro) (.inr ho) (fun b q hb z => (sb.2 b hb).trans z) hd ?_
 refine ⟨by rw [z8 O.ne]; exact ho, ?_, O.ne, O'.obj, _, O'.ns, fun g => ?_, fun g hg => ?_⟩
 ·have := z7l f y fs; omega
 ·show RelO ((putF f y fs).lookup g) (if g = f then some u else mA g)
  rw [z7k]
  by_cases q : g = f
  ·rw [if_pos q, if_pos q]; exact ry
  ·rw [if_neg q, if_neg q]; exact r g
 ·by_cases q : g = f
  ·rw [q]; exact (z6k f y fs).1
  ·refine (z6k f y fs).2 g (wi g fun z => hg ?_)
   show (if g = f then some u else mA g) = none
   rw [if_neg q]; exact z
theorem Inv.made (I : Inv X pins σ H s) : Inv X pins σ (upd (upd H s.heap.objs.size (.own (s.heap.objs.size + 1))) (s.heap.objs.size + 1) (.ins C s.heap.objs.size []))
  { s with heap := (s.heap.push PySem.W.emptyDict).push (PySem.W.instObj C s.heap.objs.size) } := by
 have e1 : (s.heap.push PySem.W.emptyDict).get? s.heap.objs.size = some PySem.W.emptyDict := Heap.get?_push_size s.heap rfl
 have e2 : ((s.heap.push PySem.W.emptyDict).push (PySem.W.instObj C s.heap.objs.size)).get? (s.heap.objs.size + 1) = some (PySem.W.instObj C s.heap.objs.size) := by
  have := Heap.get?_push_size (s.heap.push PySem.W.emptyDict) (o := PySem.W.instObj C s.heap.objs.size) rfl
  rwa [Heap.size_push] at this
 have e3 : (s.heap.push PySem.W.emptyDict).Ns s.heap.objs.size (fun _ => none) := ⟨PySem.W.emptyDict, #[], _, e1, rfl, (fun e he => absurd he (by simp)), fun _ => rfl⟩
 have I1 := I.laid (a := s.heap.objs.size) (o := .own (s.heap.objs.size + 1)) (h' := s.heap.push PySem.W.emptyDict) (t' := s.toks) (fun b u q => Heap.get?_push_of_some _ q) (Nat.le_refl _) ⟨_, e1⟩
 refine I1.laid (a := s.heap.objs.size + 1) (o := .ins C s.heap.objs.size []) (t' := s.toks) (fun b u q => Heap.get?_push_of_some _ q) (Nat.le_of_eq (Heap.size_push _ _)) ?_
 have ne : s.heap.objs.size ≠ s.heap.objs.size + 1 := Nat.ne_of_lt (Nat.lt_succ_self _)
 refine ⟨by rw [z8 ne, z7], Nat.zero_le _, ne, e2, fun _ => none, (Heap.Ns1.of_empty e3).at fun o q => Heap.get?_push_of_some _ q, fun _ => True.intro, fun y hy => absurd rfl hy⟩
theorem zii {prog : Program} {w : World} {env : Env} {e : Expr} {f : Str} {pos : Pos} {s : Shared} {Q : Value → Shared → Prop} (hb : attributeBase e f env (eval e env) = eval e env)
  (h : wpAny (model prog w) A (eval e env) (fun o s₁ => wpAny (model prog w) A (getAttr o f true) Q E s₁) E s) : wpAny (model prog w) A (eval (.Attribute e f pos) env) Q E s :=
 Attribute_any_ h (by rw [arm_eval_Attribute, hb])
end
def tFld (K : PySem.W.Frag) (ta : TE) (f : Str) : TE := fun σ H Q => ta σ H fun x H1 => ∃ a C dx fs v, x = .ref a ∧ H1 a = some (.ins C dx fs) ∧ Cls K C ∧ NoAttr K C f ∧ fs.lookup f = some v ∧ Q v H1
def sFld (K : PySem.W.Frag) (ta tv : TE) (f : Str) : TS := fun D σ H => tv σ H fun y H1 => ta σ H1 fun x H2 => ∃ a C dx fs, x = .ref a ∧ H2 a = some (.ins C dx fs) ∧ Cls K C ∧ NoAttr K C f ∧ fs.length < 1000 ∧
 D.nx σ (upd H2 a (.ins C dx (putF f y fs)))
section
variable {X : Cx} {o e value : Expr} {f : Str} {pos pos' tpos : Pos} {ta tv : TE}
theorem z26 (he : PE X e ta) (hb : attributeBase e f X.env (eval e X.env) = eval e X.env) : PE X (.Attribute e f pos) (tFld X.K ta f) := by
 intro pins s σ H Q I h
 refine zii hb (thn (he pins s σ H _ I h) fun u s1 ⟨x, H1, I1, rx, a, C, dx, fs, v, ex, ea, c, n, l, q⟩ => ?_)
 subst ex
 obtain rfl : u = Value.ref a := rx
 exact zdv I1 ea c n l fun u' s2 I2 ru => ⟨v, H1, I2, ru, q⟩
theorem z38 (ha : PE X o ta) (hv : PE X value tv) (hs : swapsWith value (some (.Attribute o f pos')) pos.line X.env = pure false) : PS X (.Assign [.Attribute o f pos'] value pos) (sFld X.K ta tv f) := by
 intro pins s σ H D I h
 refine plainObj_wpAny_Assign_Attribute (thn (hv pins s σ H _ I h) fun u s1 ⟨y, H1, I1, ry, q⟩ => thn (ha pins s1 σ H1 _ I1 q) fun ov s2 ⟨x, H2, I2, rx, a, C, dx, fs, ex, ea, c, n, l, q2⟩ => ?_) hs
 subst ex
 obtain rfl : ov = Value.ref a := rx
 exact zdw I2 ea c n l ry fun s3 I3 => ⟨σ, _, I3, q2⟩
end
section
variable {X : Cx} {pins : List (Addr × Obj)} {σ : St} {H : Hp} {s : Shared} {A : Around} {E : Value → Shared → Prop} {Q : Value → Shared → Prop} {c : Value} {b : Bool}
inductive TyOf (K : PySem.W.Frag) (H : Hp) : V → Value → Prop where
 | non : TyOf K H .non (.type "NoneType")
 | bl (x : Bool) : TyOf K H (.bl x) (.type "bool")
 | int (i : Int) : TyOf K H (.int i) (.type "int")
 | str (x : Str) : TyOf K H (.str x) (.type "str")
 | flt (x : UInt64) : TyOf K H (.flt x) (.type "float")
 | lst {a : Addr} {xs : List V} (e : H a = some (.lst xs)) : TyOf K H (.ref a) (.type "list")
 | frz {a : Addr} {o : Obj} {xs : List V} (e : H a = some (.frz o (.lst xs))) : TyOf K H (.ref a) (.type "list")
 | tup {a : Addr} {xs : List V} (e : H a = some (.tup xs)) : TyOf K H (.ref a) (.type "tuple")
 | dK {a : Addr} {kvs : List (Key × V)} (e : H a = some (.dK kvs)) : TyOf K H (.ref a) (.type "dict")
 | dT {a : Addr} {kvs : List (List Key × V)} (e : H a = some (.dT kvs)) : TyOf K H (.ref a) (.type "dict")
 | ins {a C dx : Addr} {fs : List (Str × V)} (e : H a = some (.ins C dx fs)) (cl : Cls K C) (ha : PySem.W.findIn K (.ref C) "__class__" = some (some (.builtin "object.__class__")))
   (hn : PySem.W.specialIn K (.builtin "object.__class__") "__get__" = some (some (.builtin "getset_descriptor.__get__"))) (htk : PySem.W.takesIn K (.builtin "object.__class__") = some true)
   (hm : PySem.W.mroIn K C (.type "object") = some true) : TyOf K H (.ref a) (.ref C)
theorem zf8 {x : V} {u t : Value} (I : Inv X pins σ H s) (rx : RelV x u) (ty : TyOf X.K H x t) (e : PySem.W.kitOne X.K t c = some b) (h : ∀ tk, Q (.bool b) { s with toks := tk }) :
  wpAny (model X.prog X.w) A (call (.builtin "isinstance") [u, c]) Q E s := by
 cases ty with
 | non => cases (show u = Value.none from rx); exact PySem.W.kia_one PySem.W.kitx_none I.kIn True.intro e (fun z => nomatch z) h
 | bl y => cases (show u = Value.bool y from rx); exact PySem.W.kia_one PySem.W.kitx_bool I.kIn True.intro e (fun z => nomatch z) h
 | int i => obtain ⟨t, q⟩ := (show ∃ t, u = Value.int i t from rx); cases q; exact PySem.W.kia_one PySem.W.kitx_int I.kIn True.intro e (fun z => nomatch z) h
 | str y => obtain ⟨t, q⟩ := (show ∃ t, u = Value.str y t from rx); cases q; exact PySem.W.kia_one PySem.W.kitx_str I.kIn True.intro e (fun z => nomatch z) h
 | flt y => obtain ⟨t, q⟩ := (show ∃ t, u = Value.float y t from rx); cases q; exact PySem.W.kia_one PySem.W.kitx_float I.kIn True.intro e (fun z => nomatch z) h
 | @lst a xs ea =>
  cases (show u = Value.ref a from rx)
  obtain ⟨_, _, n, _, h1⟩ := (show ObjOk X.prog X.w H s.heap a (.lst xs) from I.hok a _ ea)
  exact PySem.W.kia_one PySem.W.kitx_list I.kIn ⟨_, h1, rfl⟩ e (fun z => nomatch z) h
 | @frz a ob xs ea =>
  cases (show u = Value.ref a from rx)
  obtain ⟨_, _, _, n, _, h1⟩ := (show ObjOk X.prog X.w H s.heap a (.frz ob (.lst xs)) from I.hok a _ ea)
  exact PySem.W.kia_one PySem.W.kitx_list I.kIn ⟨_, h1, rfl⟩ e (fun z => nomatch z) h
 | @tup a xs ea =>
  cases (show u = Value.ref a from rx)
  obtain ⟨_, _, _, p⟩ := (show ObjOk X.prog X.w H s.heap a (.tup xs) from I.hok a _ ea)
  obtain ⟨o, h1, h2, _⟩ := p
  exact PySem.W.kia_one PySem.W.kitx_tuple I.kIn ⟨o, h1, h2⟩ e (fun z => nomatch z) h
 | @dK a kvs ea =>
  cases (show u = Value.ref a from rx)
  obtain ⟨_, _, vs, _, p⟩ := (show ObjOk X.prog X.w H s.heap a (.dK kvs) from I.hok a _ ea)
  obtain ⟨o, es, ep, h1, h2, _⟩ := p
  exact PySem.W.kia_one PySem.W.kitx_dict I.kIn ⟨o, h1, h2.1⟩ e (fun z => nomatch z) h
 | @dT a kvs ea =>
  cases (show u = Value.ref a from rx)
  obtain ⟨_, _, xs, _, o, es, ep, h1, h2, _⟩ := (show ObjOk X.prog X.w H s.heap a (.dT kvs) from I.hok a _ ea)
  exact PySem.W.kia_one PySem.W.kitx_dict I.kIn ⟨o, h1, h2.1⟩ e (fun z => nomatch z) h
 | @ins a C dx fs ea cl ha hn htk hm =>
  cases (show u = Value.ref a from rx)
  obtain ⟨mA, O, _⟩ := z5e I.hok ea
  obtain ⟨od, J, _⟩ := O.look
  exact PySem.W.kia_one (PySem.W.kitx_own (cl.get _) cl.hd ha hn htk hm) I.kIn J e (fun z => nomatch z) h
end
end L2
namespace L2
open PySem PySem.Spec PyProof.Rows
structure Room (k : Nat) (A : Around) : Prop where
 hd : A.handled = none
 dp : A.depth + 3 * k + 5 < recursionLimit
 un : A.units + 16 * k + 200 < cLine
theorem Room.mono {j k : Nat} {A : Around} (r : Room k A) (h : j ≤ k) : Room j A := ⟨r.hd, by have := r.dp; omega, by have := r.un; omega⟩
theorem Room.deeper {k : Nat} {A : Around} (r : Room (k + 1) A) (env : Env) : Room k (A.deeper env) :=
 ⟨r.hd, by have := r.dp; show A.depth + 1 + 3 * k + 5 < _; omega, by have := r.un; show A.units + 3 + 16 * k + 200 < _; omega⟩
theorem Room.in1 {k : Nat} {A : Around} (r : Room (k + 1) A) : Room k A.in1 :=
 ⟨r.hd, by have := r.dp; show A.depth + 3 * k + 5 < _; omega, by have := r.un; show A.units + 1 + 16 * k + 200 < _; omega⟩
theorem zdx {A : Around} {C : Addr} {us : List Value} {kw : List (Str × Value)} : (A.under (.builtin "type.__call__" ⟨.ref C :: us, kw⟩)).depth = A.depth + 1 := by
 first | rfl | simp [Around.under, Code.weight, Code.isCreation, Code.isGuard, Code.isCaller, Code.frames, Code.isFrame, guardIds]
theorem zdy {A : Around} {C : Addr} {us : List Value} {kw : List (Str × Value)} : (A.under (.builtin "type.__call__" ⟨.ref C :: us, kw⟩)).units = A.units + 1 := by
 first | rfl | simp [Around.under, Code.cUnits, Code.frames, Code.isFrame]
theorem Room.make {k : Nat} {A : Around} (r : Room (k + 1) A) (C : Addr) (us : List Value) (kw : List (Str × Value)) : Room k (A.under (.builtin "type.__call__" ⟨.ref C :: us, kw⟩)) :=
 ⟨r.hd, by have := r.dp; rw [zdx]; omega, by have := r.un; rw [zdy]; omega⟩
theorem Room.depth {k : Nat} {A : Around} (r : Room k A) : A.depth < recursionLimit := by have := r.dp; omega
theorem Room.units {k : Nat} {A : Around} (r : Room k A) : A.units + 64 < cLine := by have := r.un; omega
theorem Room.units0 {k : Nat} {A : Around} (r : Room k A) : A.units < cLine := by have := r.un; omega
def tNil : TA := fun _ H Q => Q [] H
def zdz (ta : TE) (tr : TA) : TA := fun σ H Q => ta σ H fun x H1 => tr σ H1 fun xs H2 => Q (x :: xs) H2
section
variable {X : Cx} {e : Expr} {es : List Expr} {te : TE} {t : TA} {pos : Pos}
theorem z6 : PA X [] tNil := fun _ _ _ _ H Q I h => Calls.spliced_nil ⟨[], H, I, .nil, h⟩
theorem z0 (ha : PE X e te) (hr : PA X es t) (hs : starEach (e :: es) X.env = (false, eval e X.env) :: starEach es X.env := by rfl) : PA X (e :: es) (zdz te t) := by
 intro pos pins s σ H Q I h
 rw [hs]
 show wpAny _ _ (spliced ((false, eval e X.env) :: backTo pos (starEach es X.env))) _ _ s
 refine Calls.spliced_cons (thn (ha pins s σ H _ I h) fun u s1 ⟨x, H1, I1, r1, q1⟩ => ?_)
 exact thn (hr pos pins s1 σ H1 _ I1 q1) fun us s2 ⟨xs, H2, I2, r2, q2⟩ => ⟨x :: xs, H2, I2, .cons r1 r2, q2⟩
def tTup (t : TA) : TE := fun σ H Q => t σ H fun xs H1 => xs.length ≤ sizeLine ∧ ∀ p, H1 p = none → Q (.ref p) (upd H1 p (.tup xs))
def tLst (t : TA) : TE := fun σ H Q => t σ H fun xs H1 => xs.length ≤ sizeLine ∧ ∀ p, H1 p = none → Q (.ref p) (upd H1 p (.lst xs))
theorem z1k {x1} (h : PA X es t) : PE X (.Tuple es x1 pos) (tTup t) := by
 intro pins s σ H Q I hq
 refine wpAny_Tuple_spliced (thn (h pos pins s σ H _ I hq) fun us s1 ⟨xs, H1, I1, r, z, q⟩ => ⟨by rw [← r.length]; exact z, ?_⟩)
 have hf : H1 s1.heap.objs.size = none := I1.hok.fresh (Nat.le_refl _)
 refine ⟨.ref s1.heap.objs.size, upd H1 s1.heap.objs.size (.tup xs), I1.laid (t' := s1.toks) (fun b u e => Heap.get?_push_of_some _ e) (Nat.le_refl _) ?_, rfl, q _ hf⟩
 exact ⟨z, us, r, ⟨_, Heap.get?_push_size _ rfl, rfl, _, rfl⟩⟩
theorem z1b (h : PA X es t) : PE X (.List es pos) (tLst t) := by
 intro pins s σ H Q I hq
 refine wpAny_List_spliced (thn (h pos pins s σ H _ I hq) fun us s1 ⟨xs, H1, I1, r, z, q⟩ => ⟨by rw [← r.length]; exact z, ?_⟩)
 have hf : H1 s1.heap.objs.size = none := I1.hok.fresh (Nat.le_refl _)
 refine ⟨.ref s1.heap.objs.size, upd H1 s1.heap.objs.size (.lst xs), I1.laid (t' := s1.toks) (fun b u e => Heap.get?_push_of_some _ e) (Nat.le_refl _) ?_, rfl, q _ hf⟩
 exact ⟨z, us, 0, r, Heap.get?_push_size _ rfl⟩
end
abbrev Sp := List V → Hp → VK → XK → Prop
abbrev CXT := List Env → Hp → Shared → XK → Value → Shared → Prop
structure Env0 (P : Program) (w : World) (K : PySem.W.Frag) (mg : Str → Option Value) (base : Heap) (A : Around) (outer : List Env) (s : Shared) (H : Hp) : Prop where
 frames : A.frames = some outer
 mod : Mod K mg base
 bs : ∀ b o, base.get? b = some o → s.heap.get? b = some o ∧ H b = none
 bsz : base.objs.size ≤ s.heap.objs.size
 funs : s.heap.FunFrames base outer
 frf : ∀ b ∈ frs outer, H b = none
 hok : HOk P w H s.heap
 bare : AllBare s.gens
def CE (outer : List Env) (P : Program) (w : World) (H : Hp) (s : Shared) (Q : VK) (u : Value) (s' : Shared) : Prop :=
 ∃ v H', s'.os = s.os ∧ AllBare s'.gens ∧ Un (frs outer) [] H H' s.heap s'.heap ∧ HOk P w H' s'.heap ∧ RelV v u ∧ Q v H'
def CR (CX : CXT) (outer : List Env) (P : Program) (w : World) (H : Hp) (s : Shared) (Q : VK) (E : XK) (r : Result) (s' : Shared) : Prop :=
 match r with
 | .ok (.ret u) => CE outer P w H s Q u s'
 | .ok _ => False
 | .error e => CX outer H s E e s'
structure FnOk (P : Program) (w : World) (K : PySem.W.Frag) (mg : Str → Option Value) (base : Heap) (CX : CXT) (k : Nat) (f : Addr) (fd : FuncData) (ps : List Str) (sp : Sp) : Prop where
 len : ∀ vs H Q E, sp vs H Q E → vs.length = ps.length
 run : ∀ (A : Around) (outer : List Env) (s : Shared) (H : Hp) (args : Args) (us : List Value) (vs : List V) (Q : VK) (E : XK), Room k A → Env0 P w K mg base A outer s H → BindsTo s fd args (ps.zip us) → Vals vs us → sp vs H Q E →
  codeAny (model P w) A (.call (.ref f) args) (CR CX outer P w H s Q E) s
theorem FnOk.mono {P : Program} {w : World} {K : PySem.W.Frag} {mg : Str → Option Value} {base : Heap} {CX : CXT} {j k : Nat} {f : Addr} {fd : FuncData} {ps : List Str} {sp : Sp} (F : FnOk P w K mg base CX j f fd ps sp) (h : j ≤ k) :
  FnOk P w K mg base CX k f fd ps sp := ⟨F.len, fun A outer s H args us vs Q E hr => F.run A outer s H args us vs Q E (hr.mono h)⟩
theorem FnOk.imp {P : Program} {w : World} {K : PySem.W.Frag} {mg : Str → Option Value} {base : Heap} {CX : CXT} {k : Nat} {f : Addr} {fd : FuncData} {ps : List Str} {sp sp' : Sp} (F : FnOk P w K mg base CX k f fd ps sp)
  (h : ∀ vs H Q E, sp' vs H Q E → sp vs H Q E) : FnOk P w K mg base CX k f fd ps sp' :=
 ⟨fun vs H Q E q => F.len vs H Q E (h _ _ _ _ q), fun A outer s H args us vs Q E hr he hb hv hs => F.run A outer s H args us vs Q E hr he hb hv (h _ _ _ _ hs)⟩
theorem Env0.make {P : Program} {w : World} {K : PySem.W.Frag} {mg : Str → Option Value} {base : Heap} {A : Around} {outer : List Env} {s : Shared} {H : Hp} (e : Env0 P w K mg base A outer s H) (C : Addr) (us : List Value) (kw : List (Str × Value)) :
  Env0 P w K mg base (A.under (.builtin "type.__call__" ⟨.ref C :: us, kw⟩)) outer s H := ⟨by first | exact e.frames | (simpa [Around.under, Code.envs, Code.isFrame, pushEnvs] using e.frames), e.mod, e.bs, e.bsz, e.funs, e.frf, e.hok, e.bare⟩
theorem Env0.in1 {P : Program} {w : World} {K : PySem.W.Frag} {mg : Str → Option Value} {base : Heap} {A : Around} {outer : List Env} {s : Shared} {H : Hp} (e : Env0 P w K mg base A outer s H) :
  Env0 P w K mg base A.in1 outer s H := ⟨e.frames, e.mod, e.bs, e.bsz, e.funs, e.frf, e.hok, e.bare⟩
section
variable {X : Cx} {pins : List (Addr × Obj)} {σ : St} {H : Hp} {s s' : Shared}
theorem Inv.env0 (I : Inv X pins σ H s) : Env0 X.prog X.w X.K X.mg X.base X.A X.stack s H :=
 ⟨I.ok.frames, I.ok.mod, I.bs, Nat.le_trans I.ok.bsz I.sz, I.stack, I.stkFree, I.hok, I.bare⟩
theorem Inv.after {Q : VK} {u : Value} (I : Inv X pins σ H s) (h : CE X.stack X.prog X.w H s Q u s') : EP X pins σ Q u s' := by
 obtain ⟨v, H', os, bare, un, hok, r, q⟩ := h
 obtain ⟨hh, g, d, t, os'⟩ := s'
 obtain rfl : os' = s.os := os
 exact ⟨v, H', I.call (h' := hh) (g' := g) (d' := d) (t' := t) (ch := []) un hok bare (fun b z => absurd z (by simp)), r, q⟩
end
def ze0 (sp : Sp) (dvs : List V) (E : XK) (t : TA) : TE := fun σ H Q => t σ H fun vs H1 => sp (vs ++ dvs) H1 Q E
def z76 (C : Addr) (m : Str) (sp : Sp) (dvs : List V) (E : XK) (ta : TE) (t : TA) : TE := fun σ H Q => ta σ H fun x H1 => ∃ a dx fs, x = .ref a ∧ H1 a = some (.ins C dx fs) ∧ fs.lookup m = none ∧
 t σ H1 fun vs H2 => sp (x :: (vs ++ dvs)) H2 Q E
def z8h (C : Addr) (sp : Sp) (dvs : List V) (E : XK) (t : TA) : TE := fun σ H Q => t σ H fun vs H1 => ∀ x dx, H1 x = none → H1 dx = none → dx ≠ x →
 sp (.ref x :: (vs ++ dvs)) (upd (upd H1 dx (.own x)) x (.ins C dx [])) (fun v H2 => v = .non ∧ Q (.ref x) H2) E
def Binds (K : PySem.W.Frag) (fd : FuncData) (ps : List Str) (ds : List Value) : Prop :=
 ∀ (s : Shared) (us : List Value), K.In s.heap → (us ++ ds).length = ps.length → BindsTo s fd ⟨us, []⟩ (ps.zip (us ++ ds))
theorem Binds.all {K : PySem.W.Frag} {fd : FuncData} {ps : List Str} (h : ∀ us : List Value, us.length = ps.length → bindArgs fd ⟨us, []⟩ = pure (ps.zip us)) : Binds K fd ps [] := fun s us _ hl => by
 rw [List.append_nil] at hl ⊢
 exact .of_eq (h us hl)
def z39 (CX : CXT) (X : Cx) (E : XK) : Prop := ∀ (pins : List (Addr × Obj)) (σ : St) (H : Hp) (s : Shared) (e : Value) (s' : Shared), Inv X pins σ H s → CX X.stack H s E e s' → X.xe e s'
section
variable {X : Cx} {CX : CXT} {k : Nat} {f C : Addr} {fd : FuncData} {ps : List Str} {sp : Sp} {dvs : List V} {ds : List Value} {E : XK} {x m : Str} {p pos apos : Pos} {e o : Expr} {es : List Expr} {ta : TE} {t : TA}
theorem zbg {pins : List (Addr × Obj)} {σ : St} {H : Hp} {s : Shared} {Q : VK} {us : List Value} {vs : List V} (F : FnOk X.prog X.w X.K X.mg X.base CX k f fd ps sp) (hr : Room k X.A) (hb : Binds X.K fd ps ds) (hd : Vals dvs ds) (hx : z39 CX X E)
  (I : Inv X pins σ H s) (r : Vals vs us) (h : sp (vs ++ dvs) H Q E) : wpAny (model X.prog X.w) X.A (call (.ref f) us) (EP X pins σ Q) X.xe s := by
 have r2 : Vals (vs ++ dvs) (us ++ ds) := r.append hd
 have hl : (us ++ ds).length = ps.length := by rw [← r2.length]; exact F.len _ _ _ _ h
 refine wpAny_call (codeAny_mono (F.run X.A X.stack s H ⟨us, []⟩ (us ++ ds) (vs ++ dvs) Q E hr I.env0 (hb s us I.kIn hl) r2 h) fun r s' hq => ?_)
 cases r with
 | error e => exact hx pins σ H s e s' I hq
 | ok fl =>
  cases fl with
  | ret u => exact I.after hq
  | next => exact False.elim hq
  | brk => exact False.elim hq
  | cont => exact False.elim hq
theorem zij (F : FnOk X.prog X.w X.K X.mg X.base CX k f fd ps sp) (hr : Room k X.A) (hg : Gl X x) (hm : X.mg x = some (.ref f)) (hk : PySem.W.keepIn X.K (.ref f) = true) (hb : Binds X.K fd ps ds) (hd : Vals dvs ds) (hx : z39 CX X E)
  (ha : PA X (e :: es) t) (hdb : (x == ("__debug__" : Str)) = false := by decide) (he : starEach (e :: es) X.env = (false, eval e X.env) :: starEach es X.env := by rfl) (hpl : (backTo pos (starEach es X.env)).any (·.1) = false := by rfl) :
  PE X (.Call (.Name x p) (e :: es) [] pos) (ze0 sp dvs E t) := by
 intro pins s σ H Q I h
 refine wpAny_Call_Name_kw (z5d I hg hm ?_ hdb)
 refine PySem.W.callWith_K (h₀ := X.base) I.ok.mod.kin hk (thn (ha pos pins s σ H _ I h) fun us s1 ⟨vs, H1, I1, r, q⟩ => ⟨I1.kIn, ?_⟩) he hpl
 exact zbg F hr hb hd hx I1 r q
theorem zd6 {pl : Sem Bool} (he : PE X o ta) (c : Cls X.K C) (hm : Meth X.K C m f) (F : FnOk X.prog X.w X.K X.mg X.base CX k f fd ps sp) (hr : Room k X.A) (hb : Binds X.K fd ps ds) (hd : Vals dvs ds) (hx : z39 CX X E) (ha : PA X (e :: es) t)
  (hst : starEach (e :: es) X.env = (false, eval e X.env) :: starEach es X.env := by rfl) (hpl : (backTo pos (starEach es X.env)).any (·.1) = false := by rfl)
  (ht : eval (.Call (.Attribute o m apos) (e :: es) [] pos) X.env = (do
   let ov ← eval o X.env
   standAt apos.atName
   let (f, first) ← holding [ov] (getMethod ov m pl)
   callWith pos f first (backTo pos (starEach (e :: es) X.env)) (backToKw pos (keywordEach [] X.env))) := by rfl) :
  PE X (.Call (.Attribute o m apos) (e :: es) [] pos) (z76 C m sp dvs E ta t) := by
 intro pins s σ H Q I h
 refine PySem.W.methodCall_KW (pl := pl) (thn (he pins s σ H _ I h) fun u s1 ⟨x, H1, I1, rx, a, dx, fs, ex, ea, l, q⟩ => ?_) ht
 subst ex
 obtain rfl : u = Value.ref a := rx
 refine z5o I1 ea c hm l ?_
 refine PySem.W.callWith_K (first := [.ref a]) (h₀ := X.base) I.ok.mod.kin hm.kp (thn (ha pos pins s1 σ H1 _ I1 q) fun us s2 ⟨vs, H2, I2, r, q2⟩ => ⟨I2.kIn, ?_⟩) hst hpl
 exact zbg (us := .ref a :: us) (vs := .ref a :: vs) F hr hb hd hx I2 (.cons rfl r) q2
theorem zh1 {pl : Sem Bool} (he : PE X o ta) (c : Cls X.K C) (hm : Meth X.K C m f) (F : FnOk X.prog X.w X.K X.mg X.base CX k f fd ps sp) (hr : Room k X.A) (hb : Binds X.K fd ps ds) (hd : Vals dvs ds) (hx : z39 CX X E)
  (ht : eval (.Call (.Attribute o m apos) [] [] pos) X.env = (do
   let ov ← eval o X.env
   standAt apos.atName
   let (f, first) ← holding [ov] (getMethod ov m pl)
   callWith pos f first (backTo pos (starEach [] X.env)) (backToKw pos (keywordEach [] X.env))) := by rfl) :
  PE X (.Call (.Attribute o m apos) [] [] pos) (z76 C m sp dvs E ta tNil) := by
 intro pins s σ H Q I h
 refine PySem.W.methodCall_KW (pl := pl) (thn (he pins s σ H _ I h) fun u s1 ⟨x, H1, I1, rx, a, dx, fs, ex, ea, l, q⟩ => ?_) ht
 subst ex
 obtain rfl : u = Value.ref a := rx
 refine z5o I1 ea c hm l ?_
 exact PySem.W.callWith_K0 (first := [.ref a]) I1.kIn hm.kp (zbg (us := [.ref a]) (vs := [.ref a]) F hr hb hd hx I1 (.cons rfl .nil) q)
structure Mk (K : PySem.W.Frag) (C f : Addr) : Prop where
 makes : PySem.W.makesIn K C = true
 init : PySem.W.findIn K (.ref C) "__init__" = some (some (.ref f))
 fn : PySem.W.isFn K (.ref f) = true
 kp : PySem.W.keepIn K (.ref C) = true
theorem zbh {pins : List (Addr × Obj)} {σ : St} {H : Hp} {s : Shared} {Q : VK} {us : List Value} {vs : List V} (M : Mk X.K C f) (F : FnOk X.prog X.w X.K X.mg X.base CX k f fd ps sp) (hr : Room (k + 1) X.A) (hb : Binds X.K fd ps ds) (hd : Vals dvs ds)
  (hx : z39 CX X E) (I : Inv X pins σ H s) (r : Vals vs us)
  (h : ∀ x dx, H x = none → H dx = none → dx ≠ x → sp (.ref x :: (vs ++ dvs)) (upd (upd H dx (.own x)) x (.ins C dx [])) (fun v H2 => v = .non ∧ Q (.ref x) H2) E) :
  wpAny (model X.prog X.w) X.A (call (.ref C) us) (EP X pins σ Q) X.xe s := by
 have hq := h (s.heap.objs.size + 1) s.heap.objs.size (I.hok.fresh (Nat.le_succ _)) (I.hok.fresh (Nat.le_refl _)) (Nat.ne_of_lt (Nat.lt_succ_self _))
 have I2 := Inv.made (C := C) I
 have r2 : Vals (V.ref (s.heap.objs.size + 1) :: (vs ++ dvs)) (Value.ref (s.heap.objs.size + 1) :: (us ++ ds)) := .cons rfl (r.append hd)
 have hl : (Value.ref (s.heap.objs.size + 1) :: us ++ ds).length = ps.length := by
  have e := r2.length
  rw [F.len _ _ _ _ hq] at e
  exact e.symm
 refine wpAny_call (zh0 (f := f) I.kIn M.makes M.init (beq_iff_eq.mp M.fn) (codeAny_mono (F.run _ X.stack _ _ ⟨Value.ref (s.heap.objs.size + 1) :: us, []⟩ (Value.ref (s.heap.objs.size + 1) :: (us ++ ds)) _ _ E (hr.make C us [])
  (I2.env0.make C us []) (hb _ (Value.ref (s.heap.objs.size + 1) :: us) I2.kIn hl) r2 hq) fun r s' hq' => ?_))
 cases r with
 | error e => exact hx pins σ _ _ e s' I2 hq'
 | ok fl =>
  cases fl with
  | ret u =>
   obtain ⟨v, H', I3, rv, ev, q3⟩ := I2.after hq'
   subst ev
   exact ⟨rv, ⟨V.ref (s.heap.objs.size + 1), H', I3, rfl, q3⟩⟩
  | next => exact False.elim hq'
  | brk => exact False.elim hq'
  | cont => exact False.elim hq'
theorem zik (M : Mk X.K C f) (F : FnOk X.prog X.w X.K X.mg X.base CX k f fd ps sp) (hr : Room (k + 1) X.A) (hg : Gl X x) (hm : X.mg x = some (.ref C)) (hb : Binds X.K fd ps ds) (hd : Vals dvs ds) (hx : z39 CX X E)
  (ha : PA X (e :: es) t) (hdb : (x == ("__debug__" : Str)) = false := by decide) (he : starEach (e :: es) X.env = (false, eval e X.env) :: starEach es X.env := by rfl) (hpl : (backTo pos (starEach es X.env)).any (·.1) = false := by rfl) :
  PE X (.Call (.Name x p) (e :: es) [] pos) (z8h C sp dvs E t) := by
 intro pins s σ H Q I h
 refine wpAny_Call_Name_kw (z5d I hg hm ?_ hdb)
 refine PySem.W.callWith_K (h₀ := X.base) I.ok.mod.kin M.kp (thn (ha pos pins s σ H _ I h) fun us s1 ⟨vs, H1, I1, r, q⟩ => ⟨I1.kIn, ?_⟩) he hpl
 exact zbh M F hr hb hd hx I1 r q
theorem zh2 (M : Mk X.K C f) (F : FnOk X.prog X.w X.K X.mg X.base CX k f fd ps sp) (hr : Room (k + 1) X.A) (hg : Gl X x) (hm : X.mg x = some (.ref C)) (hb : Binds X.K fd ps ds) (hd : Vals dvs ds) (hx : z39 CX X E)
  (hdb : (x == ("__debug__" : Str)) = false := by decide) : PE X (.Call (.Name x p) [] [] pos) (z8h C sp dvs E tNil) := by
 intro pins s σ H Q I h
 refine wpAny_Call_Name_kw (z5d I hg hm ?_ hdb)
 exact PySem.W.callWith_K0 I.kIn M.kp (zbh (us := []) M F hr hb hd hx I .nil h)
end
def PK (X : Cx) (kws : List Keyword) (t : TA) : Prop :=
 ∀ (pos : Pos) (pins : List (Addr × Obj)) (s : Shared) (σ : St) (H : Hp) (Q : List V → Hp → Prop), Inv X pins σ H s → t σ H Q → wpAny (model X.prog X.w) X.A (evalAll ((backToKw pos (keywordEach kws X.env)).map (·.2))) (AP X pins σ Q) X.xe s
section
variable {X : Cx} {CX : CXT} {k : Nat} {f C : Addr} {fd : FuncData} {ps ks : List Str} {sp : Sp} {E : XK} {x m : Str} {p pos apos kpos : Pos} {e o : Expr} {es : List Expr} {kws : List Keyword} {te ta : TE} {t tk : TA} {nm : Option Str}
theorem zjg : PK X [] tNil := fun _ _ _ _ H Q I h => wpAny_evalAll_nil ⟨[], H, I, .nil, h⟩
theorem zil (ha : PE X e te) (hr : PK X kws t) : PK X (⟨nm, e, kpos⟩ :: kws) (zdz te t) := by
 intro pos pins s σ H Q I h
 show wpAny _ _ (evalAll ((do let v ← eval e X.env; standAt pos; pure v) :: (backToKw pos (keywordEach kws X.env)).map (·.2))) _ _ s
 refine wpAny_evalAll_cons (wpAny_bind (thn (ha pins s σ H _ I h) fun u s1 ⟨x, H1, I1, r1, q1⟩ => wpAny_bind (wpAny_standAt (wpAny_pure ?_))))
 exact thn (hr pos pins s1 σ H1 _ I1 q1) fun us s2 ⟨xs, H2, I2, r2, q2⟩ => ⟨x :: xs, H2, I2, .cons r1 r2, q2⟩
structure KBinds (K : PySem.W.Frag) (fd : FuncData) (ps ks : List Str) (g : List Value → List Value → List Value) (gV : List V → List V → List V) : Prop where
 to : ∀ (s : Shared) (us ws : List Value), K.In s.heap → (g us ws).length = ps.length → BindsTo s fd ⟨us, ks.zip ws⟩ (ps.zip (g us ws))
 rel : ∀ {vs : List V} {us : List Value} {zs : List V} {ws : List Value}, Vals vs us → Vals zs ws → Vals (gV vs zs) (g us ws)
variable {g : List Value → List Value → List Value} {gV : List V → List V → List V}
end
structure FnScope (N P : List Str) (sc : Scope) : Prop where
 kind : sc.kind = .function
 co : sc.isCoroutine = false
 gen : sc.isGenerator = false
 nd : N.Nodup
 pre : N.take P.length = P
 par : ∀ x ∈ P, sc.names.lookup x = some .local ∨ sc.names.lookup x = some .cell
 nofree : ∀ y ∈ sc.names, y.2 ≠ .free
theorem zac {kindOf : Str → Option NameKind} {x : Str} : ∀ {binds : List (Str × Value)} {m : Str → Option Value}, (∀ v, (x, v) ∉ binds) → bindL kindOf binds m x = m x
 | [], _, _ => rfl
 | (n, v) :: r, m, h => by
  unfold bindL
  rw [zac fun w hw => h w (List.mem_cons_of_mem _ hw)]
  split
  ·have : x ≠ n := by rintro rfl; exact h v List.mem_cons_self
   simp [this]
  ·rfl
theorem zad {kindOf : Str → Option NameKind} {x : Str} : ∀ {binds : List (Str × Value)} {m : Str → Option Value}, (∀ v, (x, v) ∉ binds) → bindC kindOf binds m x = m x
 | [], _, _ => rfl
 | (n, v) :: r, m, h => by
  unfold bindC
  rw [zad fun w hw => h w (List.mem_cons_of_mem _ hw)]
  split
  ·rfl
  ·have : x ≠ n := by rintro rfl; exact h v List.mem_cons_self
   simp [this]
theorem zae {kindOf : Str → Option NameKind} {x : Str} {v : Value} : ∀ {P : List Str} {vs : List Value} {i : Nat} {m : Str → Option Value}, P.Nodup → P[i]? = some x → vs[i]? = some v → kindOf x = some .local →
  bindL kindOf (P.zip vs) m x = some v
 | [], _, _, _, _, h, _, _ => by simp at h
 | _ :: _, [], _, _, _, _, h, _ => by simp at h
 | p :: P, w :: vs, 0, m, nd, h1, h2, hk => by
  simp at h1 h2; subst h1; subst h2
  show bindL kindOf ((p, w) :: P.zip vs) m p = _
  unfold bindL
  rw [zac fun v hv => (List.nodup_cons.mp nd).1 (List.of_mem_zip hv).1, if_pos hk]
  simp
 | p :: P, w :: vs, i + 1, m, nd, h1, h2, hk => by
  show bindL kindOf ((p, w) :: P.zip vs) m x = _
  unfold bindL
  exact zae (i := i) (List.nodup_cons.mp nd).2 (by simpa using h1) (by simpa using h2) hk
theorem zaf {kindOf : Str → Option NameKind} {x : Str} {v : Value} : ∀ {P : List Str} {vs : List Value} {i : Nat} {m : Str → Option Value}, P.Nodup → P[i]? = some x → vs[i]? = some v → kindOf x ≠ some .local →
  bindC kindOf (P.zip vs) m x = some v
 | [], _, _, _, _, h, _, _ => by simp at h
 | _ :: _, [], _, _, _, _, h, _ => by simp at h
 | p :: P, w :: vs, 0, m, nd, h1, h2, hk => by
  simp at h1 h2; subst h1; subst h2
  show bindC kindOf ((p, w) :: P.zip vs) m p = _
  unfold bindC
  rw [zad fun v hv => (List.nodup_cons.mp nd).1 (List.of_mem_zip hv).1, if_neg hk]
  simp
 | p :: P, w :: vs, i + 1, m, nd, h1, h2, hk => by
  show bindC kindOf ((p, w) :: P.zip vs) m x = _
  unfold bindC
  exact zaf (i := i) (List.nodup_cons.mp nd).2 (by simpa using h1) (by simpa using h2) hk
def start (N : List Str) (vs : List V) : St := vs.map some ++ List.replicate (N.length - vs.length) none
def cxOf (CX : CXT) (P : Program) (w : World) (K : PySem.W.Frag) (mg : Str → Option Value) (base : Heap) (N : List Str) (qual : Str) (scope : Scope) (f : Addr) (cd : Value) (A : Around) (outer : List Env) (s : Shared) (H : Hp) (E : XK) : Cx where
 prog := P
 w := w
 K := K
 mg := mg
 base := base
 A := A.deeper (envOfC qual scope s.heap.objs.size f cd)
 N := N
 s₀ := s
 H₀ := H
 env := envOfC qual scope s.heap.objs.size f cd
 outer := outer
 stack := envOfC qual scope s.heap.objs.size f cd :: outer
 ex := []
 calm := true
 fn := fun _ => true
 pn := []
 xe := fun e s' => wpAny (model P w) (A.deeper (envOfC qual scope s.heap.objs.size f cd)) (leaving (envOfC qual scope s.heap.objs.size f cd) e) (fun _ s'' => CX outer H s E e s'') (fun e' s'' => CX outer H s E e' s'') s'
theorem zbi {sc : Scope} {n : Nat} {x : Str} (h : sc.names.lookup x = some .cell) : ∃ c, (cellsFrom n sc.names []).lookup x = some c := by
 have q := PySem.W.cellsFrom_some sc.names n [] (.inl h)
 exact Option.isSome_iff_exists.mp q
theorem zf9 {CX : CXT} {P : Program} {w : World} {K : PySem.W.Frag} {mg : Str → Option Value} {base : Heap} {N ps : List Str} {qual : Str} {scope : Scope} {f : Addr} {cd : Value} {A : Around} {outer : List Env} {s s1 : Shared} {H : Hp} {E : XK} {us : List Value} {vs : List V}
  (S : FnScope N ps scope) (hd : A.handled = none) (e0 : Env0 P w K mg base A outer s H) (hl : vs.length = ps.length) (r : Vals vs us)
  (x : InCallC s s.heap.objs.size (bindL (envOfC qual scope s.heap.objs.size f cd).kindOf (ps.zip us) fun _ => none) (cellsFrom (s.heap.objs.size + 1) scope.names []) (bindC (envOfC qual scope s.heap.objs.size f cd).kindOf (ps.zip us) fun _ => none) s1) :
  Inv (cxOf CX P w K mg base N qual scope f cd A outer s H E) [] (start N vs) H s1 := by
 have hpl : ps.length ≤ N.length := by have := congrArg List.length S.pre; rw [List.length_take] at this; omega
 obtain ⟨h1, tk, rfl, hk⟩ := x.done
 have noA : ∀ b : Addr, b ∉ (cxOf CX P w K mg base N qual scope f cd A outer s H E).ex := fun b z => absurd (show b ∈ ([] : List Addr) from z) (by simp)
 refine ⟨⟨e0.mod, S.kind, rfl, rfl, Nat.le_refl _, fun y z c h1 h2 => ?_, fun y hy => ?_, fun y c _ h => ?_, fun _ => hd, Around.frames_deeper e0.frames, .inr ⟨rfl, rfl⟩, fun b z => absurd z (noA b), e0.bs, e0.bsz, fun b _ _ => noA b, fun b z => absurd z (noA b), e0.funs, e0.frf⟩,
  rfl, e0.bare, Un.kept hk, ⟨_, x.toInCall.ns, fun i y v h1 h2 h3 => ?_⟩, fun y c h => ⟨_, x.cell y c h⟩, e0.hok.fresh (Nat.le_refl _), fun y c h => ?_, fun p hp => absurd (show p ∈ ([] : List (Addr × Obj)) from hp) (by simp), e0.hok.kept hk, ?_⟩
 ·exact name_of_addr x.apart (PySem.mem_of_lookup h1) (PySem.mem_of_lookup h2)
 ·have hy : scope.names.lookup y = some .cell ∨ scope.names.lookup y = some .free := hy
  rcases hy with hy | hy
  ·exact zbi hy
  ·exact absurd rfl (S.nofree _ (PySem.mem_of_lookup hy))
 ·exact Nat.le_of_lt (x.above y c (PySem.mem_of_lookup h))
 ·have hi : i < vs.length := by
   unfold start at h2
   by_cases hi : i < vs.length
   ·exact hi
   ·rw [List.getElem?_append_right (by simpa using hi)] at h2
    rw [List.getElem?_replicate] at h2
    split at h2 <;> cases h2
  have ha : vs[i]? = some v := by
   unfold start at h2
   rw [List.getElem?_append_left (by simpa using hi), List.getElem?_map] at h2
   cases e : vs[i]? with
   | none => rw [e] at h2; cases h2
   | some a => rw [e] at h2; cases h2; rfl
  obtain ⟨u, hu, rv⟩ := r.get ha
  have hp : ps[i]? = some y := by
   rw [← S.pre, List.getElem?_take_of_lt (by omega)]; exact h1
  have ndP : ps.Nodup := by rw [← S.pre]; exact S.nd.sublist (List.take_sublist _ _)
  refine ⟨u, rv, ?_⟩
  rcases S.par y (List.mem_of_getElem? hp) with k | k
  ·exact .inl ⟨k, zae ndP hp hu k⟩
  ·obtain ⟨c, e⟩ := zbi (n := s.heap.objs.size + 1) k
   refine .inr ⟨.inl k, c, e, ?_⟩
   have q := x.cell y c e
   rw [zaf ndP hp hu (by show scope.names.lookup y ≠ _; rw [k]; decide)] at q
   exact q
 ·exact e0.hok.fresh (Nat.le_of_lt (x.above y c (PySem.mem_of_lookup h)))
 ·unfold start
  show _ = N.length
  rw [List.length_append, List.length_map, List.length_replicate]
  omega
theorem ze1 {CX : CXT} {P : Program} {w : World} {K : PySem.W.Frag} {mg : Str → Option Value} {base : Heap} {k : Nat} {f : Addr} {name qual : Str} {params : Arguments} {body : List Stmt} {scope : Scope} {dV kV doc pm cdv ct oc : Value} {an od : Option Addr}
  {osl : Array (Option Value)} {N ps : List Str} {sp : Sp} (lk : K.lookup f = some ⟨oc, od, .func (PySem.W.fnOf name qual params body scope dV kV doc pm an cdv ct), osl⟩) (hcd : PySem.W.codeIn K cdv qual = true) (S : FnScope N ps scope)
  (len : ∀ vs H Q E, sp vs H Q E → vs.length = ps.length)
  (hbody : ∀ (A : Around) (outer : List Env) (s : Shared) (H : Hp) (vs : List V) (Q : VK) (E : XK), Room k (A.deeper (envOfC qual scope s.heap.objs.size f cdv)) → sp vs H Q E →
   ∃ t, PSs (cxOf CX P w K mg base N qual scope f cdv A outer s H E) body t ∧ t { nx := fun _ H' => Q .non H', rt := Q } (start N vs) H) :
  FnOk P w K mg base CX (k + 1) f (PySem.W.fnOf name qual params body scope dV kV doc pm an cdv ct) ps sp := by
 refine ⟨len, fun A outer s H args us vs Q E hr e0 hb r hsp => ?_⟩
 have hl := len _ _ _ _ hsp
 have KX : K.In s.heap := e0.mod.kin.keeps fun b o e => (e0.bs b o e).1
 have lim : s.heap.NoLimit := e0.mod.nolimit.keeps fun b o e => (e0.bs b o e).1
 have hkind : ∀ y ∈ ps.zip us, scope.names.lookup y.1 = some .local ∨ (scope.names.lookup y.1 = some .cell ∧ ((cellsFrom (s.heap.objs.size + 1) scope.names []).lookup y.1).isSome = true) := fun ⟨n, v⟩ hy => by
  rcases S.par n (List.of_mem_zip hy).1 with q | q
  ·exact .inl q
  ·exact .inr ⟨q, PySem.W.cellsFrom_some _ _ _ (.inl q)⟩
 refine codeAny_call_function hr.depth (KX _ _ lk) rfl S.co S.gen rfl (PySem.W.codeRec_of KX hcd) (hb _ _ _ _ ?_)
 refine wpAny_newFunctionEnv_cells S.kind hkind fun env he s1 x => ?_
 subst he
 refine ⟨lim.keeps x.toInCall.keep, codeAny_func ?_⟩
 obtain ⟨t, ht, hq⟩ := hbody A outer s H vs Q E (hr.deeper _) hsp
 have I : Inv (cxOf CX P w K mg base N qual scope f cdv A outer s H E) [] (start N vs) H s1 := zf9 S hr.hd e0 hl r x
 refine wpAny_mono (ht [] s1 (start N vs) H _ I hq) (fun fl s' hs => ?_) fun e s' hs => hs
 have fin : ∀ {σ' : St} {H' : Hp} {v : V} {u : Value}, Inv (cxOf CX P w K mg base N qual scope f cdv A outer s H E) [] σ' H' s' → RelV v u → Q v H' → CE outer P w H s Q u s' :=
  fun {σ' H' v u} J rv q => ⟨v, H', J.os, J.bare, J.base, J.hok, rv, q⟩
 cases fl with
 | ret u =>
  obtain ⟨v, σ', H', J, rv, q⟩ := hs
  exact fin J rv q
 | next =>
  obtain ⟨σ', H', J, q⟩ := hs
  exact fin (v := V.non) (u := Value.none) J rfl q
 | brk =>
  obtain ⟨_, _, _, q⟩ := hs
  exact False.elim q
 | cont =>
  obtain ⟨_, _, _, q⟩ := hs
  exact False.elim q
end L2
namespace L2
open PySem PySem.Spec PyProof.Rows
section
variable {X : Cx} {x : Str} {p pos : Pos} {e : Expr} {es : List Expr} {t : TA} {id T : String} {r : List V → Hp → VK → Prop}
def tCB (r : List V → Hp → VK → Prop) (t : TA) : TE := fun σ H Q => t σ H fun vs H1 => r vs H1 Q
theorem zg (hc : CallR X (.builtin id) r) (hg : Gl X x) (hm : X.mg x = none) (hv : bootBuiltins x = some (.builtin id)) (ha : PA X (e :: es) t) (hn : x ≠ "__name__" := by decide) (hdb : (x == ("__debug__" : Str)) = false := by decide)
  (he : starEach (e :: es) X.env = (false, eval e X.env) :: starEach es X.env := by rfl) (hpl : (backTo pos (starEach es X.env)).any (·.1) = false := by rfl) : PE X (.Call (.Name x p) (e :: es) [] pos) (tCB r t) := by
 intro pins s σ H Q I h
 refine wpAny_Call_Name_kw (z4l I hg hm hv ?_ hn hdb)
 exact PyProof.Rows.callWith_builtin1 (thn (ha pos pins s σ H _ I h) fun us s1 ⟨vs, H1, I1, r1, q1⟩ => hc pins s1 σ H1 vs us Q I1 r1 q1) he hpl
theorem zag (hc : CallR X (.type T) r) (hg : Gl X x) (hm : X.mg x = none) (hv : bootBuiltins x = some (.type T)) (ha : PA X (e :: es) t) (hn : x ≠ "__name__" := by decide) (hdb : (x == ("__debug__" : Str)) = false := by decide)
  (he : starEach (e :: es) X.env = (false, eval e X.env) :: starEach es X.env := by rfl) (hpl : (backTo pos (starEach es X.env)).any (·.1) = false := by rfl) : PE X (.Call (.Name x p) (e :: es) [] pos) (tCB r t) := by
 intro pins s σ H Q I h
 refine wpAny_Call_Name_kw (z4l I hg hm hv ?_ hn hdb)
 exact PyProof.Rows.callWith_type1 (thn (ha pos pins s σ H _ I h) fun us s1 ⟨vs, H1, I1, r1, q1⟩ => hc pins s1 σ H1 vs us Q I1 r1 q1) he hpl
end
end L2
namespace HT
open PySem PyProof.Rows
section
open PySem.SeqAt
open PySem.AutoSeq1 (wpAny_loadPart')
open PySem.MeetsSeq PySem.MeetsSeq2 PySem.MeetsSeq3
end
section
variable {prog : Program} {w : World} {A : Around} {E : Value → Shared → Prop} {s : Shared}
def sIx (n d : Nat) : Option Int → Nat
 | none => d
 | some v => if v < 0 then (v + (n : Int)).toNat else min v.toNat n
theorem zjh (n d : Nat) (hd : d ≤ n) (o : Option Int) : sIx n d o ≤ n := by
 cases o with
 | none => exact hd
 | some v =>
  show (if v < 0 then (v + (n : Int)).toNat else min v.toNat n) ≤ n
  by_cases hv : v < 0
  ·rw [if_pos hv]; omega
  ·rw [if_neg hv]; exact Nat.min_le_right _ _
theorem zd7 (v : Int) (n d : Nat) : (if v < 0 then max (v + (n : Int)) 0 else min v (n : Int)) = ((sIx n d (some v) : Nat) : Int) := by
 show (if v < 0 then max (v + (n : Int)) 0 else min v (n : Int)) = (((if v < 0 then (v + (n : Int)).toNat else min v.toNat n) : Nat) : Int)
 by_cases hv : v < 0
 ·simp only [if_pos hv]; omega
 ·simp only [if_neg hv]; omega
theorem ze2 (lo hi : Option Int) (n : Nat) : Builtin.Slice.sliceAdjust lo hi 1 (n : Int) = (((sIx n 0 lo : Nat) : Int), ((sIx n n hi : Nat) : Int)) := by
 have h1 : ¬ ((1 : Int) < 0) := by omega
 unfold Builtin.Slice.sliceAdjust
 simp only [h1, if_false]
 refine Prod.ext ?_ ?_
 ·cases lo with
  | none => rfl
  | some v => exact zd7 v n 0
 ·cases hi with
  | none => rfl
  | some v => exact zd7 v n n
theorem ze3 (i j : Nat) : Builtin.Slice.slicePlaces (i : Int) (j : Int) 1 = j - i := by
 unfold Builtin.Slice.slicePlaces
 have h1 : (1 : Int) > 0 := by omega
 simp only [h1, if_true, Int.ediv_one]
 split <;> omega
theorem z8i {v : Value} {o : Option Int} {Q : Option Int → Shared → Prop} (p : IsPart v o) (h : Q o s) : wpAny (model prog w) A (Builtin.Slice.slicePartIndex v) Q E s := by
 cases p with
 | none => exact slicePart_none h
 | int i t => exact slicePart_int h
theorem z7y {sl : Addr} {vl vu : Value} {lo hi : Option Int} {n : Nat} {Q : Int × Int × Nat → Shared → Prop} (hs : s.heap.IsSliceOf sl vl vu .none) (pl : IsPart vl lo) (pu : IsPart vu hi)
  (h : Q (((sIx n 0 lo : Nat) : Int), 1, sIx n n hi - sIx n 0 lo) s) : wpAny (model prog w) A (Builtin.Slice.sliceApplied (.ref sl) (pure (n : Int))) Q E s := by
 obtain ⟨os, hos, hcs, hds⟩ := id hs
 unfold Builtin.Slice.sliceApplied Builtin.Slice.sliceFields
 refine wpAny_bind (wpAny_bind (wpAny_field hos hds (x := vl) rfl (wpAny_bind (wpAny_field hos hds (x := vu) rfl (wpAny_bind (wpAny_field hos hds (x := .none) rfl (wpAny_pure ?_)))))))
 refine wpAny_bind (slicePart_none ?_)
 show wpAny _ _ (if ((1 : Int) == 0) = true then _ else _) _ _ s
 rw [if_neg (by decide)]
 refine wpAny_bind (z8i pl (wpAny_bind (z8i pu (wpAny_bind (wpAny_pure ?_)))))
 show wpAny _ _ (match Builtin.Slice.sliceAdjust lo hi 1 (n : Int) with | (lo, hi) => pure (lo, (1 : Int), Builtin.Slice.slicePlaces lo hi 1)) _ _ s
 rw [ze2 lo hi n]
 show wpAny _ _ (pure (((sIx n 0 lo : Nat) : Int), (1 : Int), Builtin.Slice.slicePlaces ((sIx n 0 lo : Nat) : Int) ((sIx n n hi : Nat) : Int) 1)) _ _ s
 rw [ze3]
 exact wpAny_pure h
theorem zh3 (xs : Array Value) (i k : Nat) : ((List.range k).filterMap fun (m : Nat) => xs[((i : Int) + (m : Int) * 1).toNat]?).toArray = ((xs.toList.drop i).take k).toArray := by
 have e : (fun (m : Nat) => xs[((i : Int) + (m : Int) * 1).toNat]?) = fun m => xs[i + m]? := by
  funext m
  have : ((i : Int) + (m : Int) * 1).toNat = i + m := by omega
  rw [this]
 rw [e]
 have := pick_run xs i k
 rw [List.filterMap_map] at this
 have e2 : ((fun x => xs[x]?) ∘ fun x => i + x) = fun m => xs[i + m]? := rfl
 rw [e2] at this
 rw [this]
theorem getItem_tuple_cut {t sl : Addr} {items : Array Value} {vl vu : Value} {lo hi : Option Int} {Q : Value → Shared → Prop} (ht : IsTup s.heap t items) (hs : s.heap.IsSliceOf sl vl vu .none) (pl : IsPart vl lo) (pu : IsPart vu hi)
  (hw : ¬ (sIx items.size 0 lo = 0 ∧ sIx items.size items.size hi = items.size))
  (h : Q (.ref s.heap.objs.size) { s with heap := s.heap.push { cls := .type "tuple", data := .seq ((items.toList.drop (sIx items.size 0 lo)).take (sIx items.size items.size hi - sIx items.size 0 lo)).toArray } })
  (hsz : items.size ≤ sizeLine) : wpAny (model prog w) A (getItem (.ref t) (.ref sl)) Q E s := by
 have htake : sizeOk (.seq ((items.toList.drop (sIx items.size 0 lo)).take (sIx items.size items.size hi - sIx items.size 0 lo)).toArray) := by
  show ((items.toList.drop (sIx items.size 0 lo)).take (sIx items.size items.size hi - sIx items.size 0 lo)).toArray.size ≤ sizeLine
  rw [List.size_toArray, List.length_take, List.length_drop, Array.length_toList]
  omega
 have hj : sIx items.size items.size hi ≤ items.size := zjh _ _ (Nat.le_refl _) hi
 obtain ⟨os, hos, hcs, hds⟩ := id hs
 have hTs : s.TypeIs (.ref sl) "slice" := ⟨os, hos, hcs⟩
 unfold getItem
 try with_reducible refine wpAny_holding ?_
 first | refine wpAny_bind (wpAny_pure ?_) | skip
 refine wpAny_bind (wpAny_sequenceKey ht.typeIs (by decide) ?_)
 refine wpAny_bind (wpAny_callSpecial?_slot (name := Str.ofString "__getitem__") ht.typeIs PyProof.Rows.slot_tuple_getitem
  (wpAny_call_entry PyProof.Rows.slot_tuple_getitem ht.typeIs entry_tuple_getitem ?_ (args_tuple_getitem _ _)))
 show wpAny _ _ (Builtin.Tuple.tupleItemsOf (.ref t) >>= _) _ _ s
 refine wpAny_bind (tupleItemsOf_ ht ?_)
 refine wpAny_bind (wpAny_typeOf hTs ?_)
 rw [if_pos (by decide)]
 refine wpAny_bind (z7y hs pl pu ?_)
 have hno : ¬ ((((sIx items.size 0 lo : Nat) : Int) == 0 && (1 : Int) == 1 && (sIx items.size items.size hi - sIx items.size 0 lo) == items.size) = true) := by
  intro q
  rw [Bool.and_eq_true, Bool.and_eq_true] at q
  have q1 : ((sIx items.size 0 lo : Nat) : Int) = 0 := eq_of_beq q.1.1
  have q2 : sIx items.size items.size hi - sIx items.size 0 lo = items.size := eq_of_beq q.2
  exact hw ⟨by omega, by omega⟩
 show wpAny _ _ (if (((sIx items.size 0 lo : Nat) : Int) == 0 && (1 : Int) == 1 && (sIx items.size items.size hi - sIx items.size 0 lo) == items.size) = true then _ else _) _ _ s
 rw [if_neg hno, zh3]
 first
  | exact wpAny_bind (m := Builtin.Tuple.tupleExact _) (wpAny_newObj_type (wpAny_pure ⟨_, rfl, wpAny_pure h⟩) htake)
  | exact wpAny_bind (m := Builtin.Tuple.tupleExact _) (wpAny_newObj_type (wpAny_bind (wpAny_pure (wpAny_pure ⟨_, rfl, wpAny_pure h⟩))) htake)
  | exact wpAny_bind (wpAny_bind (m := Builtin.Tuple.tupleExact _) (wpAny_newObj_type (wpAny_pure (wpAny_pure ⟨_, rfl, wpAny_pure h⟩)) htake))
  | exact wpAny_bind (wpAny_bind (m := Builtin.Tuple.tupleExact _) (wpAny_newObj_type (wpAny_pure ⟨_, rfl, wpAny_pure h⟩) htake))
end
end HT
namespace L2
open PySem PySem.Spec PyProof.Rows
abbrev TO := St → Hp → (Option Int → Hp → Prop) → Prop
def PO (X : Cx) (e : Option Expr) (t : TO) : Prop :=
 ∀ (pins : List (Addr × Obj)) (s : Shared) (σ : St) (H : Hp) (Q : Option Int → Hp → Prop), Inv X pins σ H s → t σ H Q →
  wpAny (model X.prog X.w) X.A (evalPart e X.env) (fun u s' => ∃ o H', Inv X pins σ H' s' ∧ IsPart u o ∧ Q o H') X.xe s
def zd8 : TO := fun _ H Q => Q none H
def zi2 (t : TE) : TO := fun σ H Q => t σ H fun x H1 => ∃ i, x = .int i ∧ Q (some i) H1
section
variable {X : Cx} {e : Expr} {te : TE} {lo hi : Option Expr} {tl th : TO} {pos p2 : Pos}
theorem z5f : PO X none zd8 := by
 intro pins s σ H Q I h
 rw [evalPart_none]
 exact wpAny_pure ⟨none, H, I, .none, h⟩
theorem z5g (h : PE X e te) : PO X (some e) (zi2 te) := by
 intro pins s σ H Q I hw
 rw [evalPart_some]
 refine thn (h pins s σ H _ I hw) fun u s1 ⟨x, H1, I1, r1, q1⟩ => ?_
 obtain ⟨i, rfl, q⟩ := q1
 obtain ⟨t, rfl⟩ := r1
 exact ⟨some i, H1, I1, .int i t, q⟩
def SlR (X : Cx) (r : V → Option Int → Option Int → Hp → VK → Prop) : Prop :=
 ∀ (pins : List (Addr × Obj)) (s : Shared) (σ : St) (H : Hp) (x : V) (v vl vu : Value) (lo hi : Option Int) (sl : Addr) (Q : VK), Inv X pins σ H s → RelV x v → s.heap.IsSliceOf sl vl vu .none → IsPart vl lo → IsPart vu hi → r x lo hi H Q →
  ∃ T id, typeLookup (.type T) "__getitem__" = pure (some (.builtin id)) ∧ s.TypeIs v T ∧ wpAny (model X.prog X.w) X.A (getItem v (.ref sl)) (EP X pins σ Q) X.xe s
theorem SlR.or {r r' : V → Option Int → Option Int → Hp → VK → Prop} (h : SlR X r) (h' : SlR X r') : SlR X (fun x lo hi H Q => r x lo hi H Q ∨ r' x lo hi H Q) := by
 intro pins s σ H x v vl vu lo hi sl Q I rx hs pl pu q
 rcases q with q | q
 ·exact h pins s σ H x v vl vu lo hi sl Q I rx hs pl pu q
 ·exact h' pins s σ H x v vl vu lo hi sl Q I rx hs pl pu q
def tSl (r : V → Option Int → Option Int → Hp → VK → Prop) (te : TE) (tl th : TO) : TE := fun σ H Q => te σ H fun x H1 => tl σ H1 fun l H2 => th σ H2 fun u H3 => r x l u H3 Q
theorem z4n {r : V → Option Int → Option Int → Hp → VK → Prop} (hr : SlR X r) (he : PE X e te) (hl : PO X lo tl) (hu : PO X hi th) : PE X (.Subscript e (.Slice lo hi none p2) pos) (tSl r te tl th) := by
 intro pins s σ H Q I h
 refine Subscript_ (thn (he pins s σ H _ I h) fun v s1 ⟨x, H1, I1, r1, q1⟩ => ?_)
 refine wpAny_Slice (thn (hl pins s1 σ H1 _ I1 q1) fun vl s2 ⟨l, H2, I2, pl, q2⟩ => thn (hu pins s2 σ H2 _ I2 q2) fun vu s3 ⟨u, H3, I3, pu, q3⟩ => ?_)
 rw [evalPart_none]
 refine wpAny_pure ?_
 have I4 : Inv X pins σ H3 { s3 with heap := s3.heap.push { cls := .type "slice", data := .fields #[vl, vu, .none] } } := I3.kept (t' := s3.toks) fun b ob q => Heap.get?_push_of_some _ q
 obtain ⟨T, id, hT, ht, hg⟩ := hr pins { s3 with heap := s3.heap.push { cls := .type "slice", data := .fields #[vl, vu, .none] } } σ H3 x v vl vu l u s3.heap.objs.size Q I4 r1 (Heap.IsSliceOf.new ..) pl pu q3
 show wpAny (model X.prog X.w) X.A (subscriptTail e (.Slice lo hi none p2) v (.ref s3.heap.objs.size)) (EP X pins σ Q) X.xe { s3 with heap := s3.heap.push { cls := .type "slice", data := .fields #[vl, vu, .none] } }
 exact tail_any (ops := [.ref s3.heap.objs.size, v]) ht hT hg (by with_unfolding_all rfl)
def cutV (xs : List V) (lo hi : Option Int) : List V := (xs.drop (HT.sIx xs.length 0 lo)).take (HT.sIx xs.length xs.length hi - HT.sIx xs.length 0 lo)
theorem z7m (xs : List V) (lo hi : Option Int) : (cutV xs lo hi).length ≤ xs.length := by
 unfold cutV
 rw [List.length_take, List.length_drop]
 omega
def rSlT (K : PySem.W.Frag) : V → Option Int → Option Int → Hp → VK → Prop := fun x lo hi H Q => ∃ a xs, x = .ref a ∧ SqT K H a xs ∧
 ¬ (HT.sIx xs.length 0 lo = 0 ∧ HT.sIx xs.length xs.length hi = xs.length) ∧ ∀ p, H p = none → Q (.ref p) (upd H p (.tup (cutV xs lo hi)))
theorem zji : SlR X (rSlT X.K) := by
 intro pins s σ H x v vl vu lo hi sl Q I rx hs pl pu h
 obtain ⟨a, xs, rfl, hx, hw, q⟩ := h
 cases rx
 obtain ⟨its, r, ht, hz⟩ := I.tuple hx
 have hlen : its.toArray.size = xs.length := by rw [List.size_toArray]; exact r.length.symm
 refine ⟨"tuple", _, PyProof.Rows.slot_tuple_getitem.lookup, ht.typeIs, ?_⟩
 refine HT.getItem_tuple_cut ht hs pl pu (by rw [hlen]; exact hw) ?_ (by rw [hlen]; exact hz)
 rw [hlen]
 refine ⟨.ref s.heap.objs.size, _, I.laid (t' := s.toks) (o := .tup (cutV xs lo hi)) (fun b ob q => Heap.get?_push_of_some _ q) (Nat.le_refl _) ?_, rfl, q _ (I.hok.fresh (Nat.le_refl _))⟩
 exact ⟨Nat.le_trans (z7m xs lo hi) hz, _, (r.drop (HT.sIx xs.length 0 lo)).take (HT.sIx xs.length xs.length hi - HT.sIx xs.length 0 lo), IsTup.new _ _⟩
end
end L2
namespace L2
open PySem PySem.Spec PyProof.Rows
def ixN (n : Nat) (i : Int) : Option Nat := if 0 ≤ i then (if i < n then some i.toNat else none) else if -(n : Int) ≤ i then some (i + n).toNat else none
def atI {α : Type} (xs : List α) (i : Int) : Option α := (ixN xs.length i).bind fun j => xs[j]?
theorem zd9 {n : Nat} {i : Int} {j : Nat} (h : ixN n i = some j) : seqIndex? i n = some j ∧ j < n ∧ -(n : Int) ≤ i ∧ i < n := by
 unfold ixN at h
 by_cases h0 : 0 ≤ i
 ·rw [if_pos h0] at h
  by_cases h1 : i < n
  ·rw [if_pos h1] at h
   have e : i.toNat = j := Option.some.inj h
   exact ⟨by rw [seqIndex_of h0 h1, e], by omega, by omega, h1⟩
  ·rw [if_neg h1] at h; cases h
 ·rw [if_neg h0] at h
  by_cases h1 : -(n : Int) ≤ i
  ·rw [if_pos h1] at h
   have e : (i + n).toNat = j := Option.some.inj h
   exact ⟨by rw [seqIndex_neg (by omega) h1, e], by omega, h1, by omega⟩
  ·rw [if_neg h1] at h; cases h
theorem z9f {α : Type} {xs : List α} {i : Int} {v : α} (h : atI xs i = some v) : ∃ j, seqIndex? i xs.length = some j ∧ xs[j]? = some v ∧ j < xs.length ∧ -(xs.length : Int) ≤ i ∧ i < xs.length := by
 unfold atI at h
 cases e : ixN xs.length i with
 | none => rw [e] at h; cases h
 | some j =>
  rw [e] at h
  obtain ⟨h1, h2, h3, h4⟩ := zd9 e
  exact ⟨j, h1, h, h2, h3, h4⟩
theorem zc {α : Type} {xs : List α} {j : Nat} {v : α} (h : xs[j]? = some v) : atI xs (j : Int) = some v := by
 have hj : j < xs.length := (List.getElem?_eq_some_iff.mp h).1
 have e : ixN xs.length (j : Int) = some j := by
  unfold ixN
  rw [if_pos (by omega), if_pos (by omega)]; simp
 unfold atI; rw [e]; exact h
theorem atI_last {α : Type} (xs : List α) (v : α) : atI (xs ++ [v]) (-1) = some v := by
 have hl : (xs ++ [v]).length = xs.length + 1 := by simp
 have e : ixN (xs ++ [v]).length (-1) = some xs.length := by
  unfold ixN
  rw [hl, if_neg (by decide), if_pos (by omega)]
  congr 1
  omega
 unfold atI
 rw [e]
 show (xs ++ [v])[xs.length]? = some v
 simp
def zim (b : Expr) : Prop := ∀ o i, subscripted b false o i = operate [o, i] (getItem o i)
def IxR (X : Cx) (r : R2) : Prop :=
 ∀ (value slice : Expr) (pins : List (Addr × Obj)) (s : Shared) (σ : St) (H : Hp) (x y : V) (v u : Value) (Q : VK), Inv X pins σ H s → RelV x v → RelV y u → r x y H Q →
  subscripted slice false v u = operate [v, u] (getItem v u) → wpAny (model X.prog X.w) X.A (subscriptTail value slice v u) (EP X pins σ Q) X.xe s
def MtR (X : Cx) (id : String) (r : V → List V → Hp → VK → Prop) : Prop :=
 ∀ (pins : List (Addr × Obj)) (s : Shared) (σ : St) (H : Hp) (x : V) (xs : List V) (v : Value) (us : List Value) (Q : VK), Inv X pins σ H s → RelV x v → Vals xs us → r x xs H Q →
  wpAny (model X.prog X.w) X.A (call (.builtin id) (v :: us)) (EP X pins σ Q) X.xe s
section
variable {X : Cx} {a b : Expr} {ta tb : TE} {pos : Pos}
theorem IxR.or {r r' : R2} (h : IxR X r) (h' : IxR X r') : IxR X (fun x y H Q => r x y H Q ∨ r' x y H Q) := by
 intro value slice pins s σ H x y v u Q I rx ry q hs
 rcases q with q | q
 ·exact h value slice pins s σ H x y v u Q I rx ry q hs
 ·exact h' value slice pins s σ H x y v u Q I rx ry q hs
theorem MtR.or {id : String} {r r' : V → List V → Hp → VK → Prop} (h : MtR X id r) (h' : MtR X id r') : MtR X id (fun x xs H Q => r x xs H Q ∨ r' x xs H Q) := by
 intro pins s σ H x xs v us Q I rx rs q
 rcases q with q | q
 ·exact h pins s σ H x xs v us Q I rx rs q
 ·exact h' pins s σ H x xs v us Q I rx rs q
theorem zh {r : R2} (hr : IxR X r) (ha : PE X a ta) (hb : PE X b tb) (hs : zim b) : PE X (.Subscript a b pos) (tOp r ta tb) := by
 intro pins s σ H Q I h
 exact Subscript_ (binT ha hb I h fun v u s2 x y H2 I2 rx ry q => hr a b pins s2 σ H2 x y v u Q I2 rx ry q (hs _ _))
def rIxL (K : PySem.W.Frag) : R2 := fun x y H Q => ∃ p xs i v, x = .ref p ∧ y = .int i ∧ SqL K H p xs ∧ atI xs i = some v ∧ Q v H
def rIxT (K : PySem.W.Frag) : R2 := fun x y H Q => ∃ p xs i v, x = .ref p ∧ y = .int i ∧ SqT K H p xs ∧ atI xs i = some v ∧ Q v H
def rIxS : R2 := fun x y H Q => ∃ z i c, x = .str z ∧ y = .int i ∧ z.length ≤ sizeLine ∧ atI z.cps.toList i = some c ∧ Q (.str ⟨#[c]⟩) H
theorem ix_list : IxR X (rIxL X.K) := by
 intro value slice pins s σ H x y v u Q I rx ry h hs
 obtain ⟨p, xs, i, z, rfl, rfl, hq, he, q⟩ := h
 cases rx
 obtain ⟨t, rfl⟩ := ry
 obtain ⟨its, r, pl, hz⟩ := I.list hq
 obtain ⟨j, h1, h2, h3, h4, h5⟩ := z9f he
 obtain ⟨w, ew, rw'⟩ := r.get h2
 have hl := r.length
 have hn := z6j
 have fin : EP X pins σ Q w s := ⟨z, H, I, rw', q⟩
 by_cases h0 : 0 ≤ i
 ·have hj : i.toNat = j := by
   rw [seqIndex_of h0 h5] at h1
   exact Option.some.inj h1
  exact item_listR pl.isList h0 (by omega) (by rw [hj]; simpa using ew) fin hs
 ·have hj : (i + (its.toArray.size : Int)).toNat = j := by
   rw [seqIndex_neg (by omega) h4] at h1
   rw [List.size_toArray, ← hl]
   exact Option.some.inj h1
  exact subscriptTail_builtinR (x := w) pl.isList.typeIs slot_list_getitem.lookup
   (wpAny_getItem_list_neg (Q := fun r s' => r = w ∧ EP X pins σ Q r s') pl.isList (by omega) (by rw [List.size_toArray] <;> omega) (by omega) (by rw [hj]; simpa using ew) ⟨rfl, fin⟩) hs
theorem ix_tup : IxR X (rIxT X.K) := by
 intro value slice pins s σ H x y v u Q I rx ry h hs
 obtain ⟨p, xs, i, z, rfl, rfl, hq, he, q⟩ := h
 cases rx
 obtain ⟨t, rfl⟩ := ry
 obtain ⟨its, r, pl, hz⟩ := I.tuple hq
 obtain ⟨j, h1, h2, h3, h4, h5⟩ := z9f he
 obtain ⟨w, ew, rw'⟩ := r.get h2
 have hl := r.length
 have hn := z6j
 have fin : EP X pins σ Q w s := ⟨z, H, I, rw', q⟩
 exact subscriptTail_builtinR (x := w) pl.typeIs slot_tuple_getitem.lookup
  (getItem_tuple (j := j) (Q := fun r s' => r = w ∧ EP X pins σ Q r s') pl (by omega) (by omega) (by rw [List.size_toArray, ← hl]; exact h1) (by simpa using ew) ⟨rfl, fin⟩) hs
theorem z5h : IxR X rIxS := by
 intro value slice pins s σ H x y v u Q I rx ry h hs
 obtain ⟨z, i, c, rfl, rfl, hz, he, q⟩ := h
 obtain ⟨t, rfl⟩ := rx
 obtain ⟨t', rfl⟩ := ry
 obtain ⟨j, h1, h2, h3, h4, h5⟩ := z9f he
 have hl : z.cps.toList.length = z.length := by simp [Str.length]
 rw [hl] at h1 h4 h5
 have hn := z6j
 exact tail_any (typeIs_str s z t) slot_str_getitem.lookup (getItem_str (c := c) (by
  have e1 : decide (i < -(2 ^ 63 : Int)) = false := decide_eq_false (by omega)
  have e2 : decide (i ≥ 2 ^ 63) = false := decide_eq_false (by omega)
  rw [e1, e2, Bool.or_false]) (by rw [h1]; simpa using h2) ⟨.str ⟨#[c]⟩, H, I.tok _, ⟨_, rfl⟩, q⟩) hs
def rIx (K : PySem.W.Frag) : R2 := fun x y H Q => rIxL K x y H Q ∨ rIxT K x y H Q ∨ rIxS x y H Q
theorem zjj : IxR X (rIx X.K) := ix_list.or (ix_tup.or z5h)
theorem ze4 (its : List Value) (n j : Nat) (u : Value) : Obj.mapSeq (·.setIfInBounds j u) { cls := .type "list", data := .seq its.toArray n } = { cls := .type "list", data := .seq (its.set j u).toArray n } := by
 simp [Obj.mapSeq]
theorem Inv.lst {pins : List (Addr × Obj)} {σ : St} {H : Hp} {s : Shared} {p : Addr} {xs : List V} (I : Inv X pins σ H s) (h : H p = some (.lst xs)) :
  ∃ (its : List Value) (n : Nat), Vals xs its ∧ s.heap.get? p = some { cls := .type "list", data := .seq its.toArray n } ∧ xs.length ≤ sizeLine := by
 obtain ⟨z, its, n, r, e⟩ := I.hok p _ h
 exact ⟨its, n, r, e, z⟩
theorem Inv.lstUpd {pins : List (Addr × Obj)} {σ : St} {H : Hp} {s : Shared} {p : Addr} {xs ys : List V} {its its' : List Value} {n n' : Nat} {f : Obj → Obj} (I : Inv X pins σ H s) (h : H p = some (.lst xs))
  (ho : s.heap.get? p = some { cls := .type "list", data := .seq its.toArray n }) (hf : f { cls := .type "list", data := .seq its.toArray n } = { cls := .type "list", data := .seq its'.toArray n' }) (r : Vals ys its') (hz : ys.length ≤ sizeLine) (t : Nat) :
  Inv X pins σ (upd H p (.lst ys)) { s with heap := s.heap.update p f, toks := t } := by
 have e : (s.heap.update p f).get? p = some { cls := .type "list", data := .seq its'.toArray n' } := by
  rw [Heap.get?_update_self f ho (by rw [hf] <;> rfl), hf]
 refine I.write (x := p) (e := p) (by rw [h]; trivial) (.inl rfl) (fun b u hb q => (Heap.get?_update_other _ _ (Ne.symm hb)).trans q) ⟨_, e⟩ ?_
 exact ⟨hz, its', n', r, e⟩
def zk8 : V → V → V → Hp → (Hp → Prop) → Prop := fun o i v H Q => ∃ p xs k j, o = .ref p ∧ i = .int k ∧ H p = some (.lst xs) ∧ ixN xs.length k = some j ∧ Q (upd H p (.lst (xs.set j v)))
theorem zbj : PSet X zk8 := by
 intro pins s σ H o i v ov iv u Q I ro ri rv h
 obtain ⟨p, xs, k, j, rfl, rfl, hp, hj, q⟩ := h
 cases ro
 obtain ⟨t, rfl⟩ := ri
 obtain ⟨its, n, r, ho, hz⟩ := I.lst hp
 obtain ⟨h1, h2, h3, h4⟩ := zd9 hj
 have hl := r.length
 have hn := z6j
 have I' : Inv X pins σ (upd H p (.lst (xs.set j v))) { s with heap := s.heap.update p (Obj.mapSeq (·.setIfInBounds j u)) } :=
  I.lstUpd hp ho (ze4 its n j u) (r.set rv j) (by rw [List.length_set]; exact hz) s.toks
 by_cases h0 : 0 ≤ k
 ·have hk : k.toNat = j := by
   rw [seqIndex_of h0 h4] at h1
   exact Option.some.inj h1
  exact PySem.W.ki_setAt ho h0 (by omega) (by rw [List.size_toArray, ← hl]; exact h4) (by rw [hk]; exact ⟨_, I', q⟩)
 ·have hk : (k + (its.toArray.size : Int)).toNat = j := by
   rw [seqIndex_neg (by omega) h3] at h1
   rw [List.size_toArray, ← hl]
   exact Option.some.inj h1
  exact PySem.W.ki_setBack ho (by omega) (by rw [List.size_toArray, ← hl]; exact h3) (by omega) (by rw [hk]; exact ⟨_, I', q⟩)
theorem zbk (lo hi : Option Int) (n : Nat) : (sliceBounds lo hi none n).1 = ((HT.sIx n 0 lo : Nat) : Int) ∧ (sliceBounds lo hi none n).2.1 = ((HT.sIx n n hi : Nat) : Int) ∧ (sliceBounds lo hi none n).2.2 = 1 := by
 refine ⟨?_, ?_, rfl⟩
 ·cases lo with
  | none => simp [sliceBounds, HT.sIx]
  | some i =>
   simp only [sliceBounds, HT.sIx, Option.getD_none, show (1 : Int) > 0 by decide, if_true]
   by_cases h : i < 0
   ·simp only [h, if_true] <;> omega
   ·simp only [h, if_false] <;> omega
 ·cases hi with
  | none => simp [sliceBounds, HT.sIx]
  | some i =>
   simp only [sliceBounds, HT.sIx, Option.getD_none, show (1 : Int) > 0 by decide, if_true]
   by_cases h : i < 0
   ·simp only [h, if_true] <;> omega
   ·simp only [h, if_false] <;> omega
theorem zaq (its : List Value) (lo hi : Option Int) : slicePick its.toArray lo hi none = ((its.drop (HT.sIx its.length 0 lo)).take (HT.sIx its.length its.length hi - HT.sIx its.length 0 lo)).toArray := by
 obtain ⟨h1, h2, h3⟩ := zbk lo hi its.toArray.size
 unfold slicePick
 rw [h1, h2, h3]
 simp only [sliceRange_one, pick_run, List.size_toArray] <;> rfl
def rSlL (K : PySem.W.Frag) : V → Option Int → Option Int → Hp → VK → Prop := fun x lo hi H Q => ∃ a xs, x = .ref a ∧ SqL K H a xs ∧ ∀ p, H p = none → Q (.ref p) (upd H p (.lst (cutV xs lo hi)))
theorem z9g : SlR X (rSlL X.K) := by
 intro pins s σ H x v vl vu lo hi sl Q I rx hs pl pu h
 obtain ⟨a, xs, rfl, hx, q⟩ := h
 cases rx
 obtain ⟨its, r, ht, hz⟩ := I.list hx
 have hlen := r.length
 refine ⟨"list", _, slot_list_getitem.lookup, ht.isList.typeIs, ?_⟩
 refine wpAny_getItem_list_slice ht.isList hs pl pu .none (by simp) ?_ (by rw [List.size_toArray] <;> omega)
 rw [zaq, ← hlen]
 refine ⟨.ref s.heap.objs.size, _, I.laid (t' := s.toks) (o := .lst (cutV xs lo hi)) (fun b ob q => Heap.get?_push_of_some _ q) (Nat.le_refl _) ?_, rfl, q _ (I.hok.fresh (Nat.le_refl _))⟩
 exact ⟨Nat.le_trans (z7m xs lo hi) hz, _, 0, (r.drop (HT.sIx xs.length 0 lo)).take (HT.sIx xs.length xs.length hi - HT.sIx xs.length 0 lo), Heap.get?_push_size _ rfl⟩
def z2e : V → Bool
 | .non => true
 | .bl _ => true
 | .int _ => true
 | .str _ => true
 | _ => false
def eqV : V → V → Bool
 | .non, .non => true
 | .bl a, .bl b => a == b
 | .bl a, .int b => (if a then 1 else 0) == b
 | .int a, .bl b => a == (if b then 1 else 0)
 | .int a, .int b => a == b
 | .str a, .str b => a == b
 | _, _ => false
theorem zfa {A : Around} {s : Shared} {y x : V} {u v : Value} (ry : RelV y u) (rx : RelV x v) (fy : z2e y = true) (fx : z2e x = true) : SeqAt.EqAt A s u v (eqV y x) := by
 cases y with
 | non =>
  cases ry
  cases x with
  | non => cases rx; exact SeqAt.EqAt.same _
  | bl b => cases rx; exact SeqAt.EqAt.none_bool b
  | int b => obtain ⟨t, rfl⟩ := rx; exact SeqAt.EqAt.none_int b t
  | str b => obtain ⟨t, rfl⟩ := rx; exact SeqAt.EqAt.none_str b t
  | _ => exact absurd (show false = true from fx) Bool.false_ne_true
 | bl a =>
  cases ry
  cases x with
  | non => cases rx; exact SeqAt.EqAt.bool_none a
  | bl b => cases rx; exact SeqAt.EqAt.bool_bool a b
  | int b => obtain ⟨t, rfl⟩ := rx; exact SeqAt.EqAt.bool_int a b t
  | str b => obtain ⟨t, rfl⟩ := rx; exact SeqAt.EqAt.bool_str a b t
  | _ => exact absurd (show false = true from fx) Bool.false_ne_true
 | int a =>
  obtain ⟨t', rfl⟩ := ry
  cases x with
  | non => cases rx; exact SeqAt.EqAt.int_none a t'
  | bl b => cases rx; exact SeqAt.EqAt.int_bool a t' b
  | int b => obtain ⟨t, rfl⟩ := rx; exact SeqAt.EqAt.int_int a t' b t
  | str b => obtain ⟨t, rfl⟩ := rx; exact SeqAt.EqAt.int_str a t' b t
  | _ => exact absurd (show false = true from fx) Bool.false_ne_true
 | str a =>
  obtain ⟨t', rfl⟩ := ry
  cases x with
  | non => cases rx; exact SeqAt.EqAt.str_none a t'
  | bl b => cases rx; exact SeqAt.EqAt.str_bool a t' b
  | int b => obtain ⟨t, rfl⟩ := rx; exact SeqAt.EqAt.str_int a t' b t
  | str b => obtain ⟨t, rfl⟩ := rx; exact SeqAt.EqAt.str_str a t' b t
  | _ => exact absurd (show false = true from fx) Bool.false_ne_true
 | _ => exact absurd (show false = true from fy) Bool.false_ne_true
def eqU (x : V) (u : Value) : Bool := match u with
 | .none => eqV .non x
 | .bool b => eqV (.bl b) x
 | .int i _ => eqV (.int i) x
 | .str z _ => eqV (.str z) x
 | _ => false
theorem zfb {x y : V} {u : Value} (r : RelV y u) (f : z2e y = true) : eqU x u = eqV y x := by
 cases y with
 | non => cases r; rfl
 | bl b => cases r; rfl
 | int i => obtain ⟨t, rfl⟩ := r; rfl
 | str z => obtain ⟨t, rfl⟩ := r; rfl
 | _ => exact absurd (show false = true from f) Bool.false_ne_true
theorem z5i {x : V} : ∀ {xs : List V} {us : List Value}, Vals xs us → xs.all z2e = true → us.any (eqU x) = xs.any fun y => eqV y x
 | _, _, .nil, _ => rfl
 | y :: xs, u :: us, .cons r t, f => by
  rw [List.all_cons, Bool.and_eq_true] at f
  rw [List.any_cons, List.any_cons, zfb r f.1, z5i t f.2]
theorem z4o {A : Around} {s : Shared} {x : V} {v : Value} (rx : RelV x v) (fx : z2e x = true) : ∀ {xs : List V} {us : List Value}, Vals xs us → xs.all z2e = true → ∀ u ∈ us, SeqAt.EqAt A s u v (eqU x u)
 | _, _, .nil, _ => fun u hu => by cases hu
 | y :: xs, u :: us, .cons r t, f => fun u' hu => by
  rw [List.all_cons, Bool.and_eq_true] at f
  rcases List.mem_cons.mp hu with rfl | hu
  ·rw [zfb r f.1]; exact zfa r rx f.1 fx
  ·exact z4o rx fx t f.2 u' hu
def inV (x : V) (xs : List V) : Bool := xs.any fun y => eqV y x
def rIn (K : PySem.W.Frag) (neg : Bool) : R2 := fun x y H Q => ∃ p xs, y = .ref p ∧ (SqL K H p xs ∨ SqT K H p xs) ∧ z2e x = true ∧ xs.all z2e = true ∧ Q (.bl (if neg then !inV x xs else inV x xs)) H
theorem zah : OpR X (compareOp .In) (rIn X.K false) := by
 intro pins s σ H x y v u Q I rx ry h
 obtain ⟨p, xs, rfl, hq, fx, fs, q⟩ := h
 cases ry
 rcases hq with hq | hq
 ·obtain ⟨its, r, pl, hz⟩ := I.list hq
  refine SeqAt.in_listAt (eqU x) pl.isList (fun w hw => z4o rx fx r fs w (by simpa using hw)) ⟨.bl _, H, I, rfl, ?_⟩
  rw [show its.toArray.any (eqU x) = its.any (eqU x) by simp, z5i r fs]
  exact q
 ·obtain ⟨its, r, pl, hz⟩ := I.tuple hq
  refine SeqAt.in_tupleAt (eqU x) pl (fun w hw => z4o rx fx r fs w (by simpa using hw)) ⟨.bl _, H, I, rfl, ?_⟩
  rw [show its.toArray.any (eqU x) = its.any (eqU x) by simp, z5i r fs]
  exact q
theorem z6l : OpR X (compareOp .NotIn) (rIn X.K true) := by
 intro pins s σ H x y v u Q I rx ry h
 obtain ⟨p, xs, rfl, hq, fx, fs, q⟩ := h
 cases ry
 rcases hq with hq | hq
 ·obtain ⟨its, r, pl, hz⟩ := I.list hq
  refine SeqAt.notIn_listAt (eqU x) pl.isList (fun w hw => z4o rx fx r fs w (by simpa using hw)) ⟨.bl _, H, I, rfl, ?_⟩
  rw [show its.toArray.any (eqU x) = its.any (eqU x) by simp, z5i r fs]
  exact q
 ·obtain ⟨its, r, pl, hz⟩ := I.tuple hq
  refine SeqAt.notIn_tupleAt (eqU x) pl (fun w hw => z4o rx fx r fs w (by simpa using hw)) ⟨.bl _, H, I, rfl, ?_⟩
  rw [show its.toArray.any (eqU x) = its.any (eqU x) by simp, z5i r fs]
  exact q
theorem zp : CallR X (.builtin "len") (fun xs H Q => ∃ p ys, xs = [.ref p] ∧ (SqL X.K H p ys ∨ SqT X.K H p ys) ∧ Q (.int ys.length) H) := by
 intro pins s σ H xs us Q I r h
 obtain ⟨p, ys, rfl, hq, q⟩ := h
 obtain ⟨u, rfl, rx⟩ := z4z r
 cases rx
 have hn := z6j
 rcases hq with hq | hq
 ·obtain ⟨its, r', pl, hz⟩ := I.list hq
  have hlen := r'.length
  exact Calls.call_len_list pl.isList (by simp only [List.size_toArray] <;> omega) ⟨.int ys.length, H, I.tok _, ⟨s.toks + 1, by rw [List.size_toArray, hlen]⟩, q⟩
 ·obtain ⟨its, r', pl, hz⟩ := I.tuple hq
  have hlen := r'.length
  exact len_tuple pl (by simp only [List.size_toArray] <;> omega) ⟨.int ys.length, H, I.tok _, ⟨s.toks + 1, by rw [List.size_toArray, hlen]⟩, q⟩
theorem CallR.or {f : Value} {r r' : List V → Hp → VK → Prop} (h : CallR X f r) (h' : CallR X f r') : CallR X f (fun xs H Q => r xs H Q ∨ r' xs H Q) := by
 intro pins s σ H xs us Q I rs q
 rcases q with q | q
 ·exact h pins s σ H xs us Q I rs q
 ·exact h' pins s σ H xs us Q I rs q
theorem zar : CallR X (.type "tuple") (fun xs H Q => ∃ p ys, xs = [.ref p] ∧ ((SqL X.K H p ys ∧ ∀ l, H l = none → Q (.ref l) (upd H l (.tup ys))) ∨ (SqT X.K H p ys ∧ Q (.ref p) H))) := by
 intro pins s σ H xs us Q I r h
 obtain ⟨p, ys, rfl, h⟩ := h
 obtain ⟨u, rfl, rx⟩ := z4z r
 cases rx
 rcases h with ⟨hq, q⟩ | ⟨hq, q⟩
 ·obtain ⟨its, r', pl, hz⟩ := I.list hq
  have hlen := r'.length
  refine call_tuple_list pl.isList (fun h' kp => ?_) (by simp only [List.size_toArray] <;> omega)
  have I1 : Inv X pins σ H { s with heap := h' } := I.kept (t' := s.toks) kp
  have I2 : Inv X pins σ (upd H h'.objs.size (.tup ys)) { s with heap := h'.push { cls := .type "tuple", data := .seq its.toArray } } :=
   I1.laid (t' := s.toks) (fun b o e => Heap.get?_push_of_some _ e) (Nat.le_refl _) (show ObjOk X.prog X.w _ _ _ (.tup ys) from ⟨hz, its, r', IsTup.new _ _⟩)
  exact ⟨.ref h'.objs.size, _, I2, rfl, q _ (I1.hok.fresh (Nat.le_refl _))⟩
 ·obtain ⟨its, r', pl, hz⟩ := I.tuple hq
  exact call_tuple_same pl ⟨.ref p, H, I, rfl, q⟩
def tyV (K : PySem.W.Frag) (T : String) (x : V) (H : Hp) : Prop := match x with
 | .str _ => T = "str"
 | .int _ => T = "int"
 | .ref p => (T = "list" ∧ ∃ xs, SqL K H p xs) ∨ (T = "tuple" ∧ ∃ o, K.lookup p = some o ∧ o.cls = .type "tuple" ∧ o.dict = none) ∨
   (T = "dict" ∧ ((∃ kvs, H p = some (.dK kvs)) ∨ ∃ kvs, H p = some (.dT kvs))) ∨ (T = "set" ∧ ∃ S n, H p = some (.set S n))
 | _ => False
theorem zfc {pins : List (Addr × Obj)} {σ : St} {H : Hp} {s : Shared} {T : String} {x : V} {v : Value} (I : Inv X pins σ H s) (r : RelV x v) (ty : tyV X.K T x H) :
  s.TypeIs v T ∧ ∀ a, v = .ref a → ∃ ob, s.heap.get? a = some ob ∧ ob.dict = none := by
 cases x with
 | str z =>
  obtain ⟨t, rfl⟩ := r
  cases (show T = "str" from ty)
  exact ⟨typeIs_str s z t, fun _ e => nomatch e⟩
 | int i =>
  obtain ⟨t, rfl⟩ := r
  cases (show T = "int" from ty)
  exact ⟨typeIs_int s i t, fun _ e => nomatch e⟩
 | ref p =>
  cases r
  rcases ty with ⟨rfl, xs, hq⟩ | ⟨rfl, o, hk, hc, hd⟩ | ⟨rfl, hk⟩ | ⟨rfl, S, n, hk⟩
  ·obtain ⟨its, _, pl, _⟩ := I.list hq
   refine ⟨pl.isList.typeIs, fun a e => ?_⟩
   cases e
   obtain ⟨o, n, e, c, hd, _⟩ := pl
   exact ⟨o, e, hd⟩
  ·refine ⟨⟨o, I.kIn p o hk, hc⟩, fun a e => ?_⟩
   cases e
   exact ⟨o, I.kIn _ o hk, hd⟩
  ·have z : ∃ o, s.heap.get? p = some o ∧ o.ExactDict := by
    rcases hk with ⟨kvs, hk⟩ | ⟨kvs, hk⟩
    ·obtain ⟨_, _, _, _, o, _, _, e, ex, _⟩ := I.hok p _ hk
     exact ⟨o, e, ex⟩
    ·obtain ⟨_, _, _, _, o, _, _, e, ex, _⟩ := I.hok p _ hk
     exact ⟨o, e, ex⟩
   obtain ⟨o, e, ex⟩ := z
   refine ⟨⟨o, e, ex.1⟩, fun a e2 => ?_⟩
   cases e2
   exact ⟨o, e, ex.2.1⟩
  ·obtain ⟨o, _, _, _, e, ex, _⟩ := I.hok p _ hk
   refine ⟨⟨o, e, ex.1⟩, fun a e2 => ?_⟩
   cases e2
   exact ⟨o, e, ex.2.1⟩
 | _ => exact False.elim ty
def tBM0 (K : PySem.W.Frag) (T : String) (r : V → List V → Hp → VK → Prop) (to : TE) : TE := fun σ H Q => to σ H fun x H1 => tyV K T x H1 ∧ r x [] H1 Q
def tBM (K : PySem.W.Frag) (T : String) (r : V → List V → Hp → VK → Prop) (to : TE) (t : TA) : TE := fun σ H Q => to σ H fun x H1 => tyV K T x H1 ∧ t σ H1 fun xs H2 => r x xs H2 Q
variable {o e : Expr} {es : List Expr} {to : TE} {t : TA} {name : Str} {apos cpos : Pos} {T id : String} {r : V → List V → Hp → VK → Prop}
theorem zfd (pa : PlainAttrs T) (slot : Slot T name id) (hty : typeOf (.builtin id) = pure (.type "method_descriptor")) (hm : MtR X id r) (ho : PE X o to)
  (hbase : attributeBase o name X.env (eval o X.env) = eval o X.env := by rfl) (hline : (apos.endLine == cpos.line) = true := by rfl) : PE X (.Call (.Attribute o name apos) [] [] cpos) (tBM0 X.K T r to) := by
 intro pins s σ H Q I h
 refine wpAny_Call_method0_late hbase hline (thn (ho pins s σ H _ I h) fun v s1 ⟨x, H1, I1, r1, ty, q1⟩ => ?_)
 obtain ⟨h1, h2⟩ := zfc I1 r1 ty
 exact ⟨T, id, pa, slot, hty, h1, h2, Calls.callWith_builtin rfl (PySem.evalArgs_none (hm pins s1 σ H1 x [] v [] Q I1 r1 .nil q1))⟩
theorem z2f (pa : PlainAttrs T) (slot : Slot T name id) (hty : typeOf (.builtin id) = pure (.type "method_descriptor")) (hm : MtR X id r) (ho : PE X o to) (ha : PA X (e :: es) t)
  (hbase : attributeBase o name X.env (eval o X.env) = eval o X.env := by rfl)
  (hfew : ((backTo cpos (starEach (e :: es) X.env)).all (fun x => !x.1) && (backToKw cpos (keywordEach [] X.env)).all (fun x => x.1.isSome)
   && decide ((e :: es).length + ([] : List Keyword).length + (if ([] : List Keyword).isEmpty then 0 else 1) < 30)) = true := by rfl)
  (hline : (apos.endLine == cpos.line) = true := by rfl) (hs : starEach (e :: es) X.env = (false, eval e X.env) :: starEach es X.env := by rfl) (hplain : (backTo cpos (starEach es X.env)).any (·.1) = false := by rfl) :
  PE X (.Call (.Attribute o name apos) (e :: es) [] cpos) (tBM X.K T r to t) := by
 intro pins s σ H Q I h
 refine wpAny_Call_method_late hbase hfew hline rfl (thn (ho pins s σ H _ I h) fun v s1 ⟨x, H1, I1, r1, ty, q1⟩ => ?_)
 obtain ⟨h1, h2⟩ := zfc I1 r1 ty
 refine ⟨T, id, pa, slot, hty, h1, h2, ?_⟩
 have hA := ha cpos pins s1 σ H1 _ I1 q1
 rw [hs] at hA ⊢
 refine Calls.callWith_builtin (by show (false || (backTo cpos (starEach es X.env)).any (·.1)) = false; rw [hplain] <;> rfl) (Calls.evalArgs_plain ?_)
 exact thn hA fun us s2 ⟨vs, H2, I2, r2, q2⟩ => hm pins s2 σ H2 x vs v us Q I2 r1 r2 q2
end
end L2
namespace L2
open PySem PySem.Spec PyProof.Rows
def MtM (X : Cx) (id : String) (r : V → List V → Hp → VK → Prop) : Prop :=
 ∀ (pins : List (Addr × Obj)) (s : Shared) (σ : St) (H : Hp) (x : V) (xs : List V) (v : Value) (us : List Value) (Q : VK), Inv X pins σ H s → RelV x v → Vals xs us → r x xs H Q →
  wpAny (model X.prog X.w) X.A (call (.builtin id) (v :: us)) (EP X pins σ Q) X.xe s
theorem Vals.one : ∀ {x : V} {us : List Value}, Vals [x] us → ∃ u, us = [u] ∧ RelV x u
 | _, _, .cons r .nil => ⟨_, rfl, r⟩
theorem Vals.two : ∀ {x y : V} {us : List Value}, Vals [x, y] us → ∃ u v, us = [u, v] ∧ RelV x u ∧ RelV y v
 | _, _, _, .cons r (.cons q .nil) => ⟨_, _, rfl, r, q⟩
theorem Vals.zero : ∀ {us : List Value}, Vals [] us → us = []
 | _, .nil => rfl
theorem Vals.eraseIdx : ∀ {xs : List V} {us : List Value} (i : Nat), Vals xs us → Vals (xs.eraseIdx i) (us.eraseIdx i)
 | _, _, _, .nil => .nil
 | _, _, 0, .cons _ t => t
 | _, _, i + 1, .cons r t => .cons r (Vals.eraseIdx i t)
theorem Vals.reverse {xs : List V} {us : List Value} (h : Vals xs us) : Vals xs.reverse us.reverse := by
 induction h with
 | nil => exact .nil
 | cons r t ih => rw [List.reverse_cons, List.reverse_cons]; exact Vals.append ih (.cons r .nil)
theorem Vals.rep {xs : List V} {us : List Value} (h : Vals xs us) : ∀ k : Nat, Vals (List.replicate k xs).flatten (List.replicate k us).flatten
 | 0 => .nil
 | k + 1 => by
  rw [List.replicate_succ, List.replicate_succ, List.flatten_cons, List.flatten_cons]
  exact Vals.append h (Vals.rep h k)
theorem zai (its : List Value) : ∀ (k : Nat) (acc : List Value),
  List.foldl (fun x1 x2 => x1 ++ x2) acc.toArray (List.replicate k its.toArray) = (acc ++ (List.replicate k its).flatten).toArray
 | 0, acc => by simp
 | k + 1, acc => by
  have e : acc.toArray ++ its.toArray = (acc ++ its).toArray := by simp
  have e2 : (acc ++ its) ++ (List.replicate k its).flatten = acc ++ (List.replicate (k + 1) its).flatten := by
   rw [List.replicate_succ, List.flatten_cons, List.append_assoc]
  rw [← e2, ← zai its k (acc ++ its), ← e, List.replicate_succ, List.foldl_cons]
section
variable {X : Cx} {pins : List (Addr × Obj)} {σ : St} {H : Hp} {s : Shared} {l b : Addr} {xs ys zs : List V}
theorem Inv.lset {its its' : List Value} {n : Nat} {f : Array Value → Array Value} {t' : Nat} (I : Inv X pins σ H s) (hH : H l = some (.lst xs))
  (e : s.heap.get? l = some { cls := .type "list", data := .seq its.toArray n }) (hf : f its.toArray = its'.toArray) (hv : Vals ys its') (hz : ys.length ≤ sizeLine) :
  Inv X pins σ (upd H l (.lst ys)) { s with heap := s.heap.update l (Obj.mapSeq f), toks := t' } := by
 have q := PySem.IsL.update e f
 rw [hf] at q
 refine I.write (x := l) (e := l) (by rw [hH]; exact trivial) (.inl rfl) (fun b' u hb hu => (Heap.get?_update_other s.heap (Obj.mapSeq f) (Ne.symm hb)).trans hu) ⟨_, q⟩ ?_
 exact ⟨hz, its', _, hv, q⟩
theorem Inv.lnew {its : List Value} {t' : Nat} (I : Inv X pins σ H s) (hv : Vals ys its) (hz : ys.length ≤ sizeLine) :
  Inv X pins σ (upd H s.heap.objs.size (.lst ys)) { s with heap := s.heap.push { cls := .type "list", data := .seq its.toArray }, toks := t' } :=
 I.laid (fun _ _ q => Heap.get?_push_of_some _ q) (Nat.le_refl _) ⟨hz, its, 0, hv, Heap.get?_push_size _ rfl⟩
theorem Inv.fresh (I : Inv X pins σ H s) : H s.heap.objs.size = none := I.hok.fresh (Nat.le_refl _)
theorem Inv.lstM (I : Inv X pins σ H s) (hH : H l = some (.lst xs)) : xs.length ≤ sizeLine ∧ ∃ (its : List Value) (n : Nat), Vals xs its ∧ xs.length = its.length ∧ s.heap.get? l = some { cls := .type "list", data := .seq its.toArray n } := by
 obtain ⟨z, its, n, r, e⟩ := I.hok l _ hH
 exact ⟨z, its, n, r, r.length, e⟩
theorem zh4 {n : Nat} (h : n ≤ sizeLine) : Builtin.List.listTooLong n = false := by
 unfold Builtin.List.listTooLong
 exact decide_eq_false (by omega)
end
section
variable {X : Cx}
def z77 : V → List V → Hp → VK → Prop := fun x vs H Q => ∃ l xs y, x = .ref l ∧ vs = [y] ∧ H l = some (.lst xs) ∧ xs.length < sizeLine ∧ Q .non (upd H l (.lst (xs ++ [y])))
theorem z1t : MtM X "list.append" z77 := by
 intro pins s σ H x vs v us Q I rx rv h
 obtain ⟨l, xs, y, rfl, rfl, hH, hz, q⟩ := h
 cases rx
 obtain ⟨u, rfl, ru⟩ := rv.one
 obtain ⟨z, its, n, r, hl, e⟩ := I.lstM hH
 refine call_meets F.slot_list_append ⟨_, e, rfl⟩ F.entry_list_append (F.args_list_append_2 _ _) (PySem.list_append l its.toArray n u (by rw [List.size_toArray]; omega)) ⟨e, ?_⟩
 refine ⟨.non, _, I.lset (its' := its ++ [u]) hH e (by simp) (r.append (.cons ru .nil)) ?_, rfl, q⟩
 rw [List.length_append, List.length_singleton]
 omega
def zjk : V → List V → Hp → VK → Prop := fun x vs H Q => ∃ l xs, x = .ref l ∧ vs = [] ∧ H l = some (.lst xs) ∧ Q .non (upd H l (.lst []))
theorem zbl : MtM X "list.clear" zjk := by
 intro pins s σ H x vs v us Q I rx rv h
 obtain ⟨l, xs, rfl, rfl, hH, q⟩ := h
 cases rx
 have hus := rv.zero
 subst hus
 obtain ⟨z, its, n, r, hl, e⟩ := I.lstM hH
 refine call_meets F.slot_list_clear ⟨_, e, rfl⟩ F.entry_list_clear (F.args_list_clear_1 _) (AutoSeq1.list_clear_list_0 l its.toArray n (by rw [List.size_toArray]; omega)) ⟨e, ?_⟩
 exact ⟨.non, _, I.lset (its' := []) (ys := []) hH e rfl .nil (Nat.zero_le _), rfl, q⟩
def rCat : R2 := fun x y H Q => ∃ l b xs zs, x = .ref l ∧ y = .ref b ∧ H l = some (.lst xs) ∧ H b = some (.lst zs) ∧ xs.length + zs.length ≤ sizeLine ∧ ∀ p, H p = none → Q (.ref p) (upd H p (.lst (xs ++ zs)))
theorem zjl : OpR X (binaryOp .Add) rCat := by
 intro pins s σ H x y v u Q I rx ry h
 obtain ⟨l, b, xs, zs, rfl, rfl, hH, hB, hz, q⟩ := h
 cases rx
 cases ry
 obtain ⟨z, its, n, r, hl, e⟩ := I.lstM hH
 obtain ⟨z2, its2, n2, r2, hl2, e2⟩ := I.lstM hB
 refine PySem.P.add_list e e2 ?_ (by rw [List.size_toArray, List.size_toArray]; omega)
 have ea : its.toArray ++ its2.toArray = (its ++ its2).toArray := by simp
 rw [ea]
 exact ⟨.ref _, _, I.lnew (t' := s.toks) (r.append r2) (by rw [List.length_append]; omega), rfl, q _ I.fresh⟩
def rRep : R2 := fun x y H Q => ∃ l k xs, x = .ref l ∧ y = .int k ∧ H l = some (.lst xs) ∧ -(2 ^ 63) ≤ k ∧ k < 2 ^ 63 ∧ xs.length * k.toNat ≤ sizeLine ∧
 ∀ p, H p = none → Q (.ref p) (upd H p (.lst (List.replicate k.toNat xs).flatten))
theorem zin {α : Type} (xs : List α) (k : Nat) : (List.replicate k xs).flatten.length = k * xs.length := by
 induction k with
 | zero => simp
 | succ k ih => rw [List.replicate_succ, List.flatten_cons, List.length_append, ih, Nat.succ_mul, Nat.add_comm]
theorem zfe : OpR X (binaryOp .Mult) rRep := by
 intro pins s σ H x y v u Q I rx ry h
 obtain ⟨l, k, xs, rfl, rfl, hH, h1, h2, hz, q⟩ := h
 cases rx
 obtain ⟨t, rfl⟩ := ry
 obtain ⟨z, its, n, r, hl, e⟩ := I.lstM hH
 have hlen : its.toArray.size * k.toNat ≤ sizeLine := by rw [List.size_toArray, ← hl]; exact hz
 have hcap : ¬ its.toArray.size * k.toNat > (2 ^ 63 - 1) / 8 := by
  have : (sizeLine : Nat) ≤ (2 ^ 63 - 1) / 8 := by decide
  omega
 have hfit : ¬ (!Builtin.List.listFitsIndex k) = true := by
  rw [fitsIndex_both h1 h2]
  exact Bool.false_ne_true
 have hlong : ¬ Builtin.List.listTooLong (its.toArray.size * k.toNat) = true := by
  rw [zh4 hlen]
  exact Bool.false_ne_true
 have hnew : List.foldl (fun x1 x2 => x1 ++ x2) #[] (List.replicate (if its.toArray.isEmpty = true then 0 else k.toNat) its.toArray) = (List.replicate k.toNat its).flatten.toArray := by
  have f0 : ∀ m : Nat, List.foldl (fun x1 x2 => x1 ++ x2) #[] (List.replicate m its.toArray) = (List.replicate m its).flatten.toArray := fun m => by
   have := zai its m []
   rw [List.nil_append] at this
   exact this
  rw [f0]
  cases its with
  | nil => simp
  | cons a r' => rw [if_neg (by simp)]
 refine wpAny_binaryOp_repeat_ref (T := "list") (U := "int") (by decide) ⟨_, e, rfl⟩ (fun s' => typeIs_int s' k t) noFill_list_mul F.fills_int_mul F.slot_int_rmul repeat_list F.slot_int_index.lookup
  (call_meets F.slot_int_rmul (typeIs_int s k t) F.entry_int_rmul (F.args_int_rmul_2 _ _) (int___rmul___int_list k t l its.toArray n)
   ⟨e, rfl, ⟨_, e, rfl⟩, call_meets F.slot_list_mul ⟨_, e, rfl⟩ F.entry_list_mul (F.args_list_mul_2 _ _) (AutoListH.list___mul___list_int_3 l its.toArray n k t hfit hcap hlong) ⟨e, ?_⟩⟩)
 rw [hnew]
 exact ⟨.ref _, _, I.lnew (t' := s.toks) (r.rep k.toNat) (by rw [zin, Nat.mul_comm]; exact hz), rfl, q _ I.fresh⟩
end
section
variable {prog : Program} {w : World} {A : Around} {E : Value → Shared → Prop} {s : Shared}
end
section
variable {X : Cx}
end
end L2
namespace Att
open PySem PySem.W PySem.Calls PyProof.Rows
theorem z8j {P : Params} {h : Heap} : ∀ (ns : List Int) (vs : List Value), WellAll P h vs (ns.map WData.int) → IntsAre vs ns := by
 intro ns
 induction ns with
 | nil =>
  intro vs w
  rw [List.map_nil] at w
  cases w
  exact .nil
 | cons n ns ih =>
  intro vs w
  rw [List.map_cons] at w
  cases w with
  | cons a b =>
   cases a
   exact .cons _ _ (ih _ b)
theorem zff {l : OpenLaw} {n : Nat} (hn : l.most = some n) {P : Params} {h : Heap} {args : List WData} {vals : List Value}
  (hpre : l.row.toRowW.claim.pre args = true) (hwl : WellAll P h vals args) :
  ∃ a vs ns, vals = [Value.ref a] ∧ args = [WData.list (ns.map WData.int)] ∧ h.get? a = some { cls := .type "list", data := .seq vs.toArray } ∧ IntsAre vs ns ∧ ns.length ≤ n := by
 have hsh : WShape.hasAll [] args [.list .int] = true := (pre_splitW hpre).1
 have hc : l.pre.holds [] { args := args } = true := (pre_splitW hpre).2
 obtain ⟨d, r, rfl, h1, h2⟩ := hasAllW_cons hsh
 obtain rfl := hasAllW_nil h2
 obtain ⟨xs, rfl, h3⟩ := hasW_list h1
 obtain ⟨ns, rfl⟩ := items_int h3
 have hlen : ns.length ≤ n := by
  unfold OpenLaw.pre at hc
  have h4 : (WTm.not (.lt (.lit (.int (n : Int))) (.len (.arg 0)))).holds [] { args := [.list (ns.map .int)] } = true := by
   have h4 := (holds_andW hc).1
   rw [hn] at h4
   exact h4
  have h5 := condW_of h4 (w_not (w_lt w_lit (w_len_list (w_arg rfl))))
  rw [List.length_map] at h5
  refine Nat.le_of_not_lt fun q => ?_
  have q' : (n : Int) < ((ns.length : Nat) : Int) := by omega
  first
   | (rw [decide_eq_true q'] at h5; exact absurd h5 (by decide))
   | (simp at h5; omega)
 cases hwl with
 | cons w1 w2 =>
  cases w2
  cases w1 with
  | list ho hall => exact ⟨_, _, ns, rfl, rfl, ho, z8j ns _ hall, hlen⟩
theorem zfg (l : OpenLaw) (args : List WData) : l.row.toRowW.claim.post args (.bool true) args = true :=
 postW_of (r := l.row.toRowW) (X := (true == true))
  (show WShape.has [] (.bool true) .bool = true by first | rfl | decide | simp [WShape.has, WShape.arms, WShape.armsAll])
  (show (WTm.eq .res (.lit (.bool true))).value [] { args := args, res := some (.bool true), after := args } = some (.bool (true == true)) from w_eq_bool (w_res rfl) w_lit) rfl
theorem attach_call {l : OpenLaw} {n : Nat} {q : Program} {loose : List Str} {XP : (Str → Option Value) → Heap → Prop} {YP : World → Heap → Prop} {d : DefRec}
  (hn : l.most = some n) (hdf : d.params.defaults = [])
  (call : ∀ (w : World) (s₀ s₁ : Shared) (mg mb : Str → Option Value) (fa : Addr) (o : Obj) (pm cd doc : Value) (a : Addr) (vs : List Value) (ns : List Int),
   Ground q loose [] XP w s₀ mg mb s₁.heap → YP w s₁.heap →
   s₁.heap.get? fa = some o → o.data = .func (docDef d.name d.params d.body d.scope pm cd doc) → s₁.heap.CodeRec cd d.name → mg d.name = some (.ref fa) →
   s₁.heap.get? a = some { cls := .type "list", data := .seq vs.toArray } → IntsAre vs ns → ns.length ≤ n → s₁.gens = #[] →
   codeAny (model l.prog w) callerA (.call (.ref fa) ⟨[.ref a], []⟩) (fun r s' => r = .ok (.ret (.bool true)) ∧ OldK s₁.heap s'.heap ∧ s'.os = s₁.os ∧ AllBare s'.gens) s₁) :
  WalkO q loose XP YP l.row.toRowW d [] (fun f vs => PySem.call f vs) := by
 intro w s₀ s₁ mg mb G Y fa o pm cd doc dV kV ho hd hcd hD hmg hg args vals as hpre hlay hrd hwl hlo
 obtain rfl : dV = .none := Dflts.none hD hdf
 obtain rfl : kV = .none := Dflts.noKw hD
 obtain ⟨a, vs, ns, rfl, rfl, hobj, hints, hlen⟩ := zff hn hpre hwl
 refine enter_call (codeAny_mono (call w s₀ s₁ mg mb fa o pm cd doc a vs ns G Y ho (fd_plain hd) hcd hmg hobj hints hlen hg) fun r s' hq => ?_)
 obtain ⟨rfl, h2, h3, h4⟩ := hq
 exact ⟨.inl ⟨.bool true, .bool true, [], rfl, fun _ => rfl, .bool true, zfg l _, fun _ => ⟨List.Pairwise.nil, fun _ hm => (nomatch hm)⟩⟩, h2, h3, h4⟩
section
variable {prog : Program} {w : World} {A : Around} {E : Value → Shared → Prop} {s : Shared} {K : Frag}
def zkd (h : Heap) (L d : Addr) : List (Addr × Obj) := (List.range h.objs.size).filterMap fun a => if a = L ∨ a = d then none else (h.get? a).map fun o => (a, o)
end
end Att
namespace L2
open PySem PySem.Spec PyProof.Rows
theorem zaj : ∀ {vs : List Value} {ns : List Int}, IntsAre vs ns → Vals (ns.map V.int) vs
 | _, _, .nil => .nil
 | _, _, .cons n t h => .cons ⟨t, rfl⟩ (zaj h)
end L2
namespace L2
open PySem PySem.Spec PyProof.Rows
end L2
namespace L2
open PySem PySem.Spec PyProof.Rows
def z1e (s : Stmt) (j : Nat) : Stmt := match s with
 | .ClassDef _ _ _ body _ _ _ _ _ _ _ => body.getD j (.Pass ⟨0, 0, 0, 0⟩)
 | _ => .Pass ⟨0, 0, 0, 0⟩
def z3f (s : Stmt) : Arguments := match s with
 | .FunctionDef _ a _ _ _ _ _ _ _ _ => a
 | _ => { posonlyargs := [], args := [], vararg := none, kwonlyargs := [], kw_defaults := [], kwarg := none, defaults := [] }
def z1q (s : Stmt) : List Stmt := match s with
 | .FunctionDef _ _ b _ _ _ _ _ _ _ => b
 | _ => []
def zf (s : Stmt) : Scope := match s with
 | .FunctionDef _ _ _ _ _ _ sc _ _ _ => sc
 | _ => { kind := .function, names := [], isGenerator := false, isCoroutine := false }
abbrev CX0 : CXT := fun _ _ _ _ _ _ => False
abbrev E0 : XK := fun _ _ _ => False
theorem z8k {X : Cx} : z39 CX0 X E0 := fun _ _ _ _ _ _ _ h => h.elim
structure Fun (K : PySem.W.Frag) (x qual : Str) (st : Stmt) (f : Addr) (fd : FuncData) : Prop where
 ex : ∃ (oc : Value) (od : Option Addr) (kV doc pm : Value) (an : Option Addr) (cdv ct : Value) (osl : Array (Option Value)),
  fd = PySem.W.fnOf x qual (z3f st) (z1q st) (zf st) .none kV doc pm an cdv ct ∧ K.lookup f = some ⟨oc, od, .func fd, osl⟩ ∧ PySem.W.codeIn K cdv qual = true
 kp : PySem.W.keepIn K (.ref f) = true
section
variable {P : Program} {w : World} {K : PySem.W.Frag} {mg : Str → Option Value} {base : Heap}
theorem Fun.ok {x qual : Str} {st : Stmt} {f : Addr} {fd : FuncData} {N ps : List Str} {k : Nat} {sp : Sp} (F : Fun K x qual st f fd) (S : FnScope N ps (zf st)) (len : ∀ vs H Q E, sp vs H Q E → vs.length = ps.length)
  (hbody : ∀ (cdv : Value) (A : Around) (outer : List Env) (s : Shared) (H : Hp) (vs : List V) (Q : VK) (E : XK), Room k (A.deeper (envOfC qual (zf st) s.heap.objs.size f cdv)) → sp vs H Q E →
   ∃ t, PSs (cxOf CX0 P w K mg base N qual (zf st) f cdv A outer s H E).nox (z1q st) t ∧ t { nx := fun _ H' => Q .non H', rt := Q } (start N vs) H) : FnOk P w K mg base CX0 (k + 1) f fd ps sp := by
 obtain ⟨oc, od, kV, doc, pm, an, cdv, ct, osl, rfl, lk, hcd⟩ := F.ex
 refine ze1 lk hcd S len fun A outer s H vs Q E hr hsp => ?_
 obtain ⟨t, h, q⟩ := hbody cdv A outer s H vs Q E hr hsp
 exact ⟨t, h.nox, q⟩
theorem Fun.binds {x qual : Str} {st : Stmt} {f : Addr} {fd : FuncData} {ps : List Str} (F : Fun K x qual st f fd)
  (h : ∀ (kV doc pm : Value) (an : Option Addr) (cdv ct : Value) (us : List Value), us.length = ps.length → bindArgs (PySem.W.fnOf x qual (z3f st) (z1q st) (zf st) .none kV doc pm an cdv ct) ⟨us, []⟩ = pure (ps.zip us)) : Binds K fd ps [] := by
 obtain ⟨oc, od, kV, doc, pm, an, cdv, ct, osl, rfl, lk, hcd⟩ := F.ex
 exact .all (h kV doc pm an cdv ct)
theorem fun_mk {x qual : Str} {st : Stmt} {f : Addr} {oc : Value} {od an : Option Addr} {osl : Array (Option Value)} {kV doc pm cdv ct : Value} (l : K.lookup f = some ⟨oc, od, .func (PySem.W.fnOf x qual (z3f st) (z1q st) (zf st) .none kV doc pm an cdv ct), osl⟩)
  (c : PySem.W.codeIn K cdv qual = true) (k : PySem.W.keepIn K (.ref f) = true) : Fun K x qual st f (PySem.W.fnOf x qual (z3f st) (z1q st) (zf st) .none kV doc pm an cdv ct) := ⟨⟨oc, od, kV, doc, pm, an, cdv, ct, osl, rfl, l, c⟩, k⟩
end
theorem z3y {A : Around} {k : Nat} (hr : Room k A) : A.units + 1 < cLine := Nat.lt_of_le_of_lt (Nat.add_le_add_left (by decide : 1 ≤ 64) _) hr.units
theorem z1l {n : Nat} (h : n ≤ 1000) : n < sizeLine := Nat.lt_of_le_of_lt h (by decide)
section
variable {X : Cx}
theorem pv (i : Nat) {x : Str} {pos : Pos} (hN : X.N[i]? = some x := by rfl) (hv : Vis X.env.scope x := by first | exact Or.inl rfl | exact Or.inr (Or.inl rfl) | exact Or.inr (Or.inr rfl)) (hd : (x == ("__debug__" : Str)) = false := by decide)
  (hcd : (x == ("__classdict__" : Str)) = false := by decide) : PE X (.Name x pos) (tVar i) := zje hN hv hd hcd
end
theorem ite2 {c A B : Prop} [Decidable c] (h1 : c → A) (h2 : ¬ c → B) : if c then A else B := by
 by_cases h : c
 ·rw [if_pos h]
  exact h1 h
 ·rw [if_neg h]
  exact h2 h
def Same (H H' : Hp) : Prop := ∀ b o, H b = some o → H' b = some o
theorem Same.refl (H : Hp) : Same H H := fun _ _ h => h
theorem Same.trans {H H1 H2 : Hp} (a : Same H H1) (b : Same H1 H2) : Same H H2 := fun c o h => b c o (a c o h)
theorem Same.free {H H' : Hp} (e : Same H H') {l : Addr} (h : H' l = Option.none) : H l = Option.none := by
 cases q : H l with
 | none => rfl
 | some o =>
  rw [e l o q] at h
  cases h
theorem Same.seq {K : PySem.W.Frag} {H H' : Hp} {a : Addr} {xs : List V} (e : Same H H') (h : SqL K H a xs) : SqL K H' a xs := by
 rcases h with (h | ⟨o, h⟩) | h
 ·exact .inl (.inl (e _ _ h))
 ·exact .inl (.inr ⟨o, e _ _ h⟩)
 ·exact .inr h
end L2
end
section
namespace L2
open PySem PySem.Spec PyProof.Rows
def Its (z : Str) : It := ⟨fun i _ => i < z.cps.size, fun i H x H' => H' = H ∧ ∃ c, z.cps[i]? = some c ∧ x = .str ⟨#[c]⟩, fun i _ => z.cps.size ≤ i⟩
section
variable {X : Cx} {tg : Expr}
def iStr (tl : TE) : TI := fun σ H R => tl σ H fun x H1 => ∃ z, x = .str z ∧ R (Its z) H1
end
def z1u (env : Env) : List (Str × NameKind) → List (Str × Addr) → List (Str × Addr)
 | [], cs => cs
 | (n, k) :: r, cs => z1u env r (if k == .free then (n, (env.cells.lookup n).getD 0) :: cs else cs)
theorem z5p {sc : Scope} {env : Env} (h : ∀ y ∈ sc.names, y.2 = .free → ∃ c, env.cells.lookup y.1 = some c) : closureFor sc env = pure (z1u env sc.names []) := by
 have go : ∀ (names : List (Str × NameKind)) (cs : List (Str × Addr)), (∀ y ∈ names, y.2 = .free → ∃ c, env.cells.lookup y.1 = some c) →
   (forIn names cs fun (x : Str × NameKind) (r : List (Str × Addr)) => (if (x.2 == .free) = true then (do let a ← cellOf env x.1; pure (ForInStep.yield ((x.1, a) :: r))) else pure (ForInStep.yield r) : Sem (ForInStep (List (Str × Addr))))) = (pure (z1u env names cs) : Sem (List (Str × Addr))) := by
  intro names
  induction names with
  | nil => intro cs _; rfl
  | cons y r ih =>
   intro cs hy
   obtain ⟨n, k⟩ := y
   rw [List.forIn_cons]
   have hr : ∀ z ∈ r, z.2 = .free → ∃ c, env.cells.lookup z.1 = some c := fun z hz => hy z (List.mem_cons_of_mem _ hz)
   by_cases hk : k = .free
   ·subst hk
    obtain ⟨c, hc⟩ := hy (n, .free) List.mem_cons_self rfl
    have hc' : env.cells.lookup n = some c := hc
    simp only [beq_self_eq_true, if_true, z1u, hc', Option.getD_some, cellOf]
    exact ih ((n, c) :: cs) hr
   ·have hb : (k == NameKind.free) = false := by simpa using hk
    simp only [hb, Bool.false_eq_true, if_false, z1u]
    exact ih cs hr
 unfold closureFor
 show (forIn sc.names [] (fun (x : Str × NameKind) (r : List (Str × Addr)) => (if (x.2 == .free) = true then (do let a ← cellOf env x.1; pure (ForInStep.yield ((x.1, a) :: r))) else pure (ForInStep.yield r) : Sem (ForInStep (List (Str × Addr))))) >>= fun cs => pure cs) = _
 rw [go sc.names [] h]
 rfl
theorem z5q {env : Env} : ∀ {names : List (Str × NameKind)} {cs : List (Str × Addr)} {x : Str} {c : Addr}, (∀ y ∈ names, y.2 = .free → ∃ c, env.cells.lookup y.1 = some c) → (∀ y d, cs.lookup y = some d → env.cells.lookup y = some d) →
  (z1u env names cs).lookup x = some c → env.cells.lookup x = some c
 | [], cs, x, c, _, hcs, h => hcs x c h
 | (n, k) :: r, cs, x, c, hy, hcs, h => by
  refine z5q (names := r) (fun z hz => hy z (List.mem_cons_of_mem _ hz)) ?_ h
  intro y d e
  by_cases hk : (k == NameKind.free) = true
  ·rw [if_pos hk, List.lookup_cons] at e
   obtain ⟨c', hc'⟩ := hy (n, k) List.mem_cons_self (by simpa using hk)
   have hc' : env.cells.lookup n = some c' := hc'
   cases hyn : y == n with
   | true =>
    rw [hyn] at e
    have : y = n := by simpa using hyn
    subst this
    simp only [hc', Option.getD_some] at e
    rw [hc']; exact e
   | false =>
    rw [hyn] at e
    exact hcs y d e
  ·rw [if_neg hk] at e
   exact hcs y d e
theorem z7n {env : Env} : ∀ {names : List (Str × NameKind)} {cs : List (Str × Addr)} {x : Str}, (∃ c, cs.lookup x = some c) → ∃ c, (z1u env names cs).lookup x = some c
 | [], cs, x, h => h
 | (n, k) :: r, cs, x, h => by
  refine z7n (names := r) ?_
  split
  ·rw [List.lookup_cons]
   cases hxn : x == n with
   | true => exact ⟨_, rfl⟩
   | false => exact h
  ·exact h
theorem z3i {env : Env} : ∀ {names : List (Str × NameKind)} {cs : List (Str × Addr)} {x : Str}, (x, NameKind.free) ∈ names → ∃ c, (z1u env names cs).lookup x = some c
 | [], _, _, h => by simp at h
 | (n, k) :: r, cs, x, h => by
  rcases List.mem_cons.mp h with e | h
  ·cases e
   refine z7n (names := r) ?_
   rw [if_pos (by rfl), List.lookup_cons]
   rw [show (n == n) = true by simp]
   exact ⟨_, rfl⟩
  ·exact z3i (names := r) h
theorem z3z {env : Env} {sc : Scope} {x : Str} {k : NameKind} (h : (relabel sc env).names.lookup x = some k) (hk : k = .cell ∨ k = .free) (hc : ∀ y ∈ sc.names, y.2 ≠ .cell) : (x, NameKind.free) ∈ sc.names := by
 have hm := PySem.mem_of_lookup h
 unfold relabel at hm
 obtain ⟨⟨n, k'⟩, hn, e⟩ := List.mem_map.mp hm
 by_cases hf : (k' == NameKind.free && env.scope.kind == .function && env.kindOf n == some .cell) = true
 ·have e' : (n, NameKind.cell) = (x, k) := by
   have := e
   simp only [hf, if_true] at this
   exact this
  injection e' with e1 e2
  subst e1
  have hk' : k' = .free := by
   rw [Bool.and_eq_true, Bool.and_eq_true] at hf
   simpa using hf.1.1
  rw [hk'] at hn
  exact hn
 ·have e' : (n, k') = (x, k) := by
   have := e
   simp only [hf, if_false] at this
   exact this
  injection e' with e1 e2
  subst e1 e2
  rcases hk with z | z
  ·exact absurd z (hc _ hn)
  ·rw [z] at hn; exact hn
abbrev zq (X : Cx) (sc : Scope) (N : List Str) (s : Shared) (H : Hp) (C : Addr) (fp : List Addr) : Cx :=
 { X with N := N, s₀ := s, H₀ := H, env := compEnvC sc (z1u X.env sc.names []) C X.env, outer := X.stack, stack := X.stack, ex := fp, fn := fun _ => false, pn := [], xe := fun _ _ => False }
def CapOk (X : Cx) (sc : Scope) : List Str → List Nat → Prop
 | [], [] => True
 | y :: r, j :: js => (X.N[j]? = some y ∧ (X.env.kindOf y = some .cell ∨ X.env.kindOf y = some .free) ∧ sc.names.lookup y = some .free) ∧ CapOk X sc r js
 | _, _ => False
theorem CapOk.len {X : Cx} {sc : Scope} : ∀ {cap : List Str} {js : List Nat}, CapOk X sc cap js → cap.length = js.length
 | [], [], _ => rfl
 | _ :: _, _ :: _, h => congrArg (· + 1) (CapOk.len h.2)
 | [], _ :: _, h => h.elim
 | _ :: _, [], h => h.elim
theorem CapOk.get {X : Cx} {sc : Scope} : ∀ {cap : List Str} {js : List Nat} {i : Nat} {y : Str}, CapOk X sc cap js → cap[i]? = some y → ∃ j, js[i]? = some j ∧ X.N[j]? = some y ∧ (X.env.kindOf y = some .cell ∨ X.env.kindOf y = some .free) ∧ sc.names.lookup y = some .free
 | [], [], _, _, _, e => by simp at e
 | y :: _, j :: _, 0, _, h, e => by
  simp at e; subst e
  exact ⟨j, rfl, h.1⟩
 | _ :: r, _ :: js, i + 1, y, h, e => by
  obtain ⟨j, e1, e2⟩ := CapOk.get (i := i) h.2 (by simpa using e)
  exact ⟨j, by simpa using e1, e2⟩
 | [], _ :: _, _, _, h, _ => h.elim
 | _ :: _, [], _, _, h, _ => h.elim
def capt (σ : St) (js : List Nat) : St := js.map fun j => (σ[j]?).join
structure CompScope (X : Cx) (sc : Scope) (x : Str) (cap : List Str) (js : List Nat) : Prop where
 kind : sc.kind = .function
 nocell : ∀ y ∈ sc.names, y.2 ≠ .cell
 names : ∀ y ∈ sc.names, y.2 = .local → sc.names.lookup y.1 = some .local
 own : sc.names.lookup x = some .local
 free : ∀ y ∈ sc.names, y.2 = .free → X.env.kindOf y.1 = some .cell ∨ X.env.kindOf y.1 = some .free
 nd : (x :: cap).Nodup
 caps : CapOk X sc cap js
section
variable {X : Cx} {sc : Scope} {x : Str} {cap : List Str} {js : List Nat} {pins : List (Addr × Obj)} {σ : St} {H : Hp} {s : Shared}
theorem CompScope.cells (S : CompScope X sc x cap js) (I : Inv X pins σ H s) : ∀ y ∈ sc.names, y.2 = .free → ∃ c, X.env.cells.lookup y.1 = some c := fun y hy hf => I.ok.has y.1 (S.free y hy hf)
theorem CompScope.sub (S : CompScope X sc x cap js) (I : Inv X pins σ H s) {y : Str} {c : Addr} (h : (z1u X.env sc.names []).lookup y = some c) : X.env.cells.lookup y = some c :=
 z5q (S.cells I) (fun _ _ e => by simp at e) h
theorem ze5 {s4 : Shared} {h4 : Heap} {t4 : Nat} {fp : List Addr} {C : Addr} {v : Option V} {m : Str → Option Value} (S : CompScope X sc x cap js) (I : Inv X pins σ H s) (hfp : ∀ b ∈ fp, FpOk X pins H b) (hlt : ∀ b ∈ fp, b < s.heap.objs.size)
  (hC : s.heap.objs.size ≤ C) (hn : h4.Ns C m) (k : ∀ b o, s.heap.get? b = some o → h4.get? b = some o) :
  Inv (zq X sc (x :: cap) s H C fp) [] (none :: capt σ js) H { s with heap := h4, toks := t4 } := by
 have nf : ∀ b ∈ frs X.stack, b < s.heap.objs.size := fun b hb => by
  obtain ⟨_, o, ho, _⟩ := I.stack.mem hb
  exact Heap.lt_size ho
 refine ⟨⟨I.ok.mod, S.kind, I.ok.glob, I.ok.blt, hC, fun y z c h1 h2 => I.ok.inj y z c (S.sub I h1) (S.sub I h2), fun y hy => ?_, fun y c h => absurd h Bool.false_ne_true, I.ok.hd, I.ok.frames, .inl rfl, fun b hb => ⟨Nat.ne_of_lt (Nat.lt_of_lt_of_le (hlt b hb) hC), fun y c e => (hfp b hb).2.2.2.2.1 y c (S.sub I e)⟩, I.bs,
   Nat.le_trans I.ok.bsz I.sz, fun b o e hb => ?_, fun b hb z => ?_, I.stack, I.stkFree⟩, rfl, I.bare, Un.kept k, ⟨m, hn, fun i y v' h1 h2 h3 => ?_⟩, fun y c e => ?_, I.hok.fresh hC, fun y c e => I.freeC y c (S.sub I e), fun p hp => absurd (show p ∈ ([] : List (Addr × Obj)) from hp) (by simp), I.hok.kept k, ?_⟩
 ·exact z3i (by
   rcases hy with z | z
   ·exact z3z z (.inl rfl) S.nocell
   ·exact z3z z (.inr rfl) S.nocell)
 ·rcases (hfp b hb).2.2.2.1 with z | z
  ·exact I.ok.noex b o e z
  ·exact absurd (Nat.lt_of_lt_of_le (Heap.lt_size e) (Nat.le_trans I.ok.bsz z)) (Nat.lt_irrefl _)
 ·rcases List.mem_cons.mp (I.stkSub b z) with q | q
  ·exact (hfp b hb).2.1 q
  ·exact (hfp b hb).2.2.1 q
 ·cases i with
  | zero => exact absurd (show (none : Option V) = some v' from Option.some.inj h2) (by simp)
  | succ i =>
   have e1 : cap[i]? = some y := by simpa using h1
   obtain ⟨j, q1, q2, q3, q4⟩ := S.caps.get e1
   have e2 : (capt σ js)[i]? = some (some v') := by simpa using h2
   have e3 : σ[j]? = some (some v') := by
    unfold capt at e2
    rw [List.getElem?_map, q1, Option.map_some] at e2
    have e4 : (σ[j]?).join = some v' := Option.some.inj e2
    cases q : σ[j]? with
    | none => rw [q] at e4; cases e4
    | some w => rw [q] at e4; exact congrArg some e4
   have vis : Vis X.env.scope y := by
    rcases q3 with q3 | q3
    ·exact .inr (.inl q3)
    ·exact .inr (.inr q3)
   obtain ⟨mX, hnX, hl⟩ := I.loc
   obtain ⟨u, ru, lk⟩ := hl j y v' q2 e3 vis
   refine ⟨u, ru, .inr ?_⟩
   rcases lk with ⟨hk, _⟩ | ⟨hk, c, hc, hcell⟩
   ·rcases q3 with q3 | q3
    ·rw [q3] at hk; cases hk
    ·rw [q3] at hk; cases hk
   ·obtain ⟨c', hc'⟩ := z3i (env := X.env) (cs := []) (PySem.mem_of_lookup q4)
    have := S.sub I hc'
    rw [hc] at this
    cases this
    obtain ⟨o, ho, hd⟩ := hcell
    refine ⟨?_, c, hc', ⟨o, k c o ho, hd⟩⟩
    rcases h3 with z | z | z
    ·exfalso
     have hz := PySem.mem_of_lookup z
     obtain ⟨⟨n, k'⟩, hn', en⟩ := List.mem_map.mp hz
     by_cases hf : (k' == NameKind.free && X.env.scope.kind == .function && X.env.kindOf n == some .cell) = true
     ·simp only [hf, if_true] at en
      cases en
     ·simp only [hf, if_false] at en
      cases en
      have := S.names _ hn' rfl
      rw [q4] at this
      cases this
    ·exact .inl z
    ·exact .inr z
 ·obtain ⟨v', o, ho, hd⟩ := I.cell y c (S.sub I e)
  exact ⟨v', o, k c o ho, hd⟩
 ·show (none :: capt σ js).length = (x :: cap).length
  unfold capt
  rw [List.length_cons, List.length_cons, List.length_map, S.caps.len]
theorem z7z {sB : Shared} {hB : Heap} {fp : List Addr} {C D : Addr} {HB : Hp} {σB : St} {pinsB : List (Addr × Obj)} {acc : List V} {its : List Value} {n : Nat}
  (I : Inv X pins σ H s) (hfp : ∀ b ∈ fp, FpOk X pins H b) (IB : Inv (zq X sc (x :: cap) s H C fp) pinsB σB HB sB) (hC : s.heap.objs.size ≤ C) (hD : s.heap.objs.size ≤ D) (hDC : D ≠ C) (hHD : HB D = none)
  (hd : sB.heap.get? D = some { cls := .type "list", data := .seq its.toArray n }) (rv : Vals acc its) (hz : acc.length ≤ sizeLine) (sb : ∀ b o, b ≠ C → sB.heap.get? b = some o → hB.get? b = some o) :
  Inv X pins σ (upd HB D (.lst acc)) { sB with heap := hB } := by
 have u := IB.base
 have hdB := sb D _ hDC hd
 have ltD : ∀ b o, s.heap.get? b = some o → b ≠ D := fun b o e => Nat.ne_of_lt (Nat.lt_of_lt_of_le (Heap.lt_size e) hD)
 have ltC : ∀ b o, s.heap.get? b = some o → b ≠ C := fun b o e => Nat.ne_of_lt (Nat.lt_of_lt_of_le (Heap.lt_size e) hC)
 refine I.call' (ch := fp) IB.os ⟨fun b o e n hb hx => sb b o (ltC b o e) (u.keep b o e n hb hx), fun b o e n hb hx => ?_, fun b o e n hx => by rw [z8 (ltD b o e)]; exact u.free b o e n hx, fun b o e hx => ?_,
  fun b xs e => by rw [z8 (za (u.tups b xs e) hHD)]; exact u.tups b xs e, fun b o xs e => by rw [z8 (za (u.frzs b o xs e) hHD)]; exact u.frzs b o xs e, fun b ps e => ?_⟩ ?_ IB.bare fun b hb => ?_
 ·obtain ⟨sl, q⟩ := u.slot b o e n hb hx
  exact ⟨sl, sb b _ (ltC b o e) q⟩
 ·obtain ⟨o', q⟩ := u.there b o e hx
  exact ⟨o', sb b _ (ltC b o e) q⟩
 ·obtain ⟨m1, q⟩ := u.tbls b ps e
  exact ⟨m1, by rw [z8 (za q hHD)]; exact q⟩
 ·intro a o e
  by_cases ha : a = D
  ·subst ha
   rw [z7] at e
   cases e
   exact ⟨hz, its, n, rv, hdB⟩
  ·rw [z8 ha] at e
   refine (IB.hok a o e).stay (fun b w' hb q => sb b w' (fun z => ?_) q) (fun b q => by rw [z8 (za q hHD)]; exact q) fun b xs q => by rw [z8 (za q hHD)]; exact q
   have fC : HB C = none := IB.free
   rcases hb with hb | hb
   ·rw [z] at hb; rw [← hb, fC] at e; cases e
   ·rw [z, fC] at hb; cases hb
 ·obtain ⟨f0, f1, f2, f3, f4, f5⟩ := hfp b hb
  exact ⟨f3, f1, f4, f5⟩
end
end L2
end
section
namespace L2
open PySem PySem.Spec PyProof.Rows
def PIf (X : Cx) (ifs : List Expr) (t : TT) : Prop :=
 ∀ (pins : List (Addr × Obj)) (s : Shared) (σ : St) (H : Hp) (Q : Bool → Hp → Prop), Inv X pins σ H s → t σ H Q →
  wpAny (model X.prog X.w) X.A (forIn ifs true fun c r => if r = true then do let ok ← isTrue c X.env (eval c X.env); pure (ForInStep.yield ok) else pure (ForInStep.yield r)) (TP X pins σ Q) X.xe s
def tYes : TT := fun _ H Q => Q true H
theorem z32 {X : Cx} : PIf X [] tYes := fun _ _ _ H _ I h => wpAny_pure ⟨H, I, h⟩
theorem z2g {X : Cx} {c : Expr} {tc : TT} (h : PT X c tc) : PIf X [c] tc := by
 intro pins s σ H Q I hw
 simp only [List.forIn_cons, List.forIn_nil, if_true]
 refine wpAny_bind (wpAny_bind (thn (h pins s σ H Q I hw) fun b s1 q => ?_))
 exact wpAny_pure (wpAny_pure q)
def z44 (J : It) (tc : TT) (te : TE) (js : List Nat) (σ : St) (H1 : Hp) (Q : VK) : Prop :=
 ∃ W : Nat → Nat → List V → Hp → Prop, (∃ m, W 0 m [] H1) ∧ ∀ i m acc H, W i m acc H →
  (J.stop i H ∧ ∀ p, H p = none → Q (.ref p) (upd H p (.lst acc))) ∨
  (J.go i H ∧ acc.length < sizeLine ∧ ∀ x H', J.yld i H x H' → tc (some x :: capt σ js) H' fun b H2 =>
   if b = true then te (some x :: capt σ js) H2 fun v H3 => ∃ m', m' < m ∧ W (i + 1) m' (acc ++ [v]) H3 else ∃ m', m' < m ∧ W (i + 1) m' acc H2)
def ze6 (wi : TI) (tc : TT) (te : TE) (js : List Nat) : TE := fun σ H Q => wi σ H fun J H1 => z44 J tc te js σ H1 Q
theorem z7o {prog : Program} {w : World} {A : Around} {R : Result → Shared → Prop} {s : Shared} {elt target iter : Expr} {ifs : List Expr} {scope : Scope} {pos : Pos} {it acc : Value} {env : Env} (I : Nat → Shared → Prop)
  (turn : ∀ n s, I n s → wpAny (model prog w) A (pyNext it) (fun r s₁ => match r with
   | none => R (.ok .next) s₁
   | some v => wpAny (model prog w) A (letOwnedTupleGo target it v) (fun _ s₀ => wpAny (model prog w) A (assign target env v) (fun _ s₂ =>
     wpAny (model prog w) A (forIn ifs true fun c r => if r = true then do let ok ← isTrue c env (eval c env); pure (ForInStep.yield ok) else pure (ForInStep.yield r)) (fun ok s₃ =>
      if ok = true then wpAny (model prog w) A (eval elt env) (fun x s₄ =>
       wpAny (model prog w) A (call (.builtin "list.append") [acc, x]) (fun _ s₅ => ∃ m, m < n ∧ I m s₅) (fun _ _ => False) s₄) (fun _ _ => False) s₃
      else ∃ m, m < n ∧ I m s₃) (fun _ _ => False) s₂) (fun _ _ => False) s₀) (fun _ _ => False) s₁) (fun _ _ => False) s)
  (n : Nat) (h : I n s) :
  codeAny (model prog w) A (.compLoop (.ListComp elt [⟨target, iter, ifs, 0⟩] scope pos) 0 it acc env) R s := by
 refine codeAny_loop rfl I (fun n s hI => ?_) n h
 show wpAny _ A ((compTurn (.ListComp elt [⟨target, iter, ifs, 0⟩] scope pos) 0 it acc env).onRaise (fun x => do noteFrame x env; theTreesLotGoes x)) _ _ s
 refine wpAny_noted (wpAny_mono (E := fun _ _ => False) ?_ (fun _ _ q => q) fun _ _ z => z.elim)
 rw [compTurn_list]
 refine wpAny_bind (wpAny_standAt (wpAny_bind (wpAny_mono (turn n s hI) (fun r s₁ h₁ => ?_) fun _ _ h' => h')))
 cases r with
 | none => exact wpAny_pure h₁
 | some v =>
  refine wpAny_bind (wpAny_mono h₁ (fun _ s₀ h₀ => ?_) fun _ _ h' => h')
  refine wpAny_bind (wpAny_mono h₀ (fun _ s₂ h₂ => wpAny_bind (wpAny_mono h₂ (fun ok s₃ h₃ => ?_) fun _ _ h' => h')) fun _ _ h' => h')
  cases ok with
  | false => exact wpAny_pure ⟨rfl, h₃⟩
  | true =>
   exact wpAny_bind (wpAny_bind (wpAny_mono h₃ (fun x s₄ h₄ => wpAny_bind (wpAny_mono h₄ (fun _ s₅ h₅ => wpAny_pure (wpAny_pure ⟨rfl, h₅⟩)) fun _ _ h' => h')) fun _ _ h' => h'))
section
variable {X : Cx} {sc : Scope} {x : Str} {cap : List Str} {js : List Nat} {pins : List (Addr × Obj)} {σ : St} {H : Hp} {s : Shared} {elt iter : Expr} {ifs : List Expr} {px pos : Pos} {tc : TT} {te : TE}
theorem z8l {J : It} {it : Addr} {fp : List Addr} {tn : Nat → Heap → Prop} {Q : VK} {E : Value → Shared → Prop} {RR : Value → Addr → Result → Shared → Prop} (S : CompScope X sc x cap js) (hcalm : X.calm = true)
  (hc : ∀ s H C fp, PIf (zq X sc (x :: cap) s H C fp) ifs tc) (he : ∀ s H C fp, PE (zq X sc (x :: cap) s H C fp) elt te)
  (I : Inv X pins σ H s) (T : Turn X.prog X.w X.K (.Name x px) J fp it tn) (st : tn 0 s.heap) (hfp : ∀ b ∈ fp, FpOk X pins H b) (go : z44 J tc te js σ H Q)
  (hRR : ∀ D C HB sB σB acc its n, s.heap.objs.size ≤ D → s.heap.objs.size ≤ C → D ≠ C → Inv (zq X sc (x :: cap) s H C fp) [] σB HB sB → HB D = none → sB.heap.get? D = some { cls := .type "list", data := .seq (its : List Value).toArray n } → Vals acc its → acc.length ≤ sizeLine →
   (∀ p, HB p = none → Q (.ref p) (upd HB p (.lst acc))) → RR (.ref D) C (.ok .next) sB) :
  wpAny (model X.prog X.w) X.A (newList []) (fun acc s₃ => wpAny (model X.prog X.w) X.A (newFunctionEnv sc X.env.globals (z1u X.env sc.names []) [] X.env.qual none .none (some X.env)) (fun cenv s₄ =>
   codeAny (model X.prog X.w) X.A (.compStart (.ListComp elt [⟨.Name x px, iter, ifs, 0⟩] sc pos) 0 (.ref it) acc { cenv with scope := relabel sc X.env }) (RR acc cenv.locals) s₄) E s₃) E s := by
 refine wpAny_newObj_type (wpAny_newFunctionEnv S.nocell (by intro y hy; simp at hy) (fun h₁ hns₁ hsb₁ => ?_) S.kind)
 dsimp only at hns₁ hsb₁ ⊢
 generalize hH2 : s.heap.push { cls := .type "list", dict := none, data := .seq ([] : List Value).toArray } = H2 at hns₁ hsb₁ ⊢
 have hCs : H2.objs.size = s.heap.objs.size + 1 := by rw [← hH2, Heap.size_push]
 have hDC : s.heap.objs.size ≠ H2.objs.size := by rw [hCs]; exact Nat.ne_of_lt (Nat.lt_succ_self _)
 have hCle : s.heap.objs.size ≤ H2.objs.size := by rw [hCs]; exact Nat.le_succ _
 have below : ∀ b, b < s.heap.objs.size → b ≠ H2.objs.size := fun b hb => by rw [hCs]; exact Nat.ne_of_lt (Nat.lt_succ_of_lt hb)
 have old : ∀ b o, s.heap.get? b = some o → h₁.get? b = some o := fun b o e => hsb₁.extBut b o (below b (Heap.lt_size e)) (Heap.get?_push_of_some _ (hH2 ▸ Heap.get?_push_of_some _ e))
 have hacc : h₁.get? s.heap.objs.size = some { cls := .type "list", data := .seq ([] : List Value).toArray 0 } := hsb₁.extBut _ _ hDC (Heap.get?_push_of_some _ (hH2 ▸ Heap.get?_push_size _ rfl))
 have hlt : ∀ b ∈ fp, b < s.heap.objs.size := fun b hb => by
  obtain ⟨o, e, _⟩ := T.obj _ _ st b hb
  exact Heap.lt_size e
 have hlocal : (relabel sc X.env).names.lookup x = some .local := lookup_relabel_local S.own
 obtain ⟨W, ⟨m0, w0⟩, turn⟩ := go
 have nD : ∀ b ∈ fp, b ≠ s.heap.objs.size := fun b hb => Nat.ne_of_lt (hlt b hb)
 have nfs : s.heap.objs.size ∉ frs X.stack := fun z => by
  obtain ⟨_, o, ho, _⟩ := I.stack.mem z
  exact absurd (Heap.lt_size ho) (Nat.lt_irrefl _)
 have ncl : ∀ y c, (z1u X.env sc.names []).lookup y = some c → c ≠ s.heap.objs.size := fun y c e => by
  obtain ⟨v, o, ho, _⟩ := I.cell y c (S.sub I e)
  exact Nat.ne_of_lt (Heap.lt_size ho)
 have loop : ∀ s₃ : Shared, s₃ = { s with heap := h₁, toks := s.toks + ([] : List (Str × Value)).length } →
   codeAny (model X.prog X.w) X.A (.compLoop (.ListComp elt [⟨.Name x px, iter, ifs, 0⟩] sc pos) 0 (.ref it) (.ref s.heap.objs.size) (compEnvC sc (z1u X.env sc.names []) H2.objs.size X.env))
    (RR (.ref s.heap.objs.size) H2.objs.size) s₃ := by
  rintro s₃ rfl
  have I0 : Inv (zq X sc (x :: cap) s H H2.objs.size fp) [] (none :: capt σ js) H { s with heap := h₁, toks := s.toks + ([] : List (Str × Value)).length } := ze5 (v := none) S I hfp hlt hCle hns₁ old (s4 := s)
  refine z7o (fun n s' => ∃ i H' acc its k, Inv (zq X sc (x :: cap) s H H2.objs.size fp) [] (none :: capt σ js) H' s' ∧ tn i s'.heap ∧ (∀ b ∈ fp, H' b = none) ∧ H' s.heap.objs.size = none ∧
    s'.heap.get? s.heap.objs.size = some { cls := .type "list", data := .seq (its : List Value).toArray k } ∧ Vals acc its ∧ acc.length ≤ sizeLine ∧ W i n acc H') ?_ m0
   ⟨0, H, [], [], 0, I0, T.keep _ _ _ st fun b _ o e => old b o e, fun b hb => (hfp b hb).1, I.hok.fresh (Nat.le_refl _), hacc, .nil, Nat.zero_le _, w0⟩
  rintro n s3 ⟨i, H3, acc, its, kk, I3, st3, fr3, fD3, d3, r3, z3, w3⟩
  have fpY : ∀ {H' : Hp} {pl : List (Addr × Obj)}, (∀ b ∈ fp, H' b = none) → (∀ p ∈ pl, p.1 = s.heap.objs.size) → ∀ b ∈ fp, FpOk (zq X sc (x :: cap) s H H2.objs.size fp) pl H' b := fun {H' pl} hn hp b hb =>
   ⟨hn b hb, below b (hlt b hb), fun z => by
    rcases List.mem_cons.mp (I.stkSub b z) with q | q
    ·exact (hfp b hb).2.1 q
    ·exact (hfp b hb).2.2.1 q, .inl hb, fun y c e => (hfp b hb).2.2.2.2.1 y c (S.sub I e), fun p hp' => by
    rw [hp p hp']
    exact Ne.symm (nD b hb)⟩
  have pin3 : Inv (zq X sc (x :: cap) s H H2.objs.size fp) [(s.heap.objs.size, { cls := .type "list", data := .seq its.toArray kk })] (none :: capt σ js) H3 s3 := I3.pins_of fun p hp => by
   have e : p = (s.heap.objs.size, { cls := .type "list", data := .seq its.toArray kk }) := by simpa using hp
   subst e
   exact ⟨d3, fD3, hDC, nfs, fun v z => by cases z⟩
  have onlyD : ∀ p ∈ [(s.heap.objs.size, ({ cls := .type "list", data := .seq its.toArray kk } : Obj))], p.1 = s.heap.objs.size := fun p hp => by
   have e : p = (s.heap.objs.size, { cls := .type "list", data := .seq its.toArray kk }) := by simpa using hp
   rw [e]
  rcases turn i n acc H3 w3 with ⟨stop, qn⟩ | ⟨gon, hlen, step⟩
  ·refine wpAny_mono (T.done (zq X sc (x :: cap) s H H2.objs.size fp) rfl rfl rfl hcalm i _ s3 _ H3 (fun _ _ => False) pin3 (fpY fr3 onlyD) st3 stop) (fun r s4 hr => ?_) fun _ _ z => z.elim
   obtain ⟨hr, I4⟩ := hr
   subst hr
   have d4 := (I4.pin _ (List.mem_append_right _ List.mem_cons_self)).1
   exact hRR _ _ H3 s4 _ acc its kk (Nat.le_refl _) hCle hDC (I4.pins_of fun p hp => by simp at hp) fD3 d4 r3 z3 qn
  ·refine wpAny_mono (T.item (zq X sc (x :: cap) s H H2.objs.size fp) rfl rfl rfl hcalm i _ s3 _ H3 (fun _ _ => False) pin3 (fpY fr3 onlyD) st3 gon) (fun r s4 hr => ?_) fun _ _ z => z.elim
   obtain ⟨u, hr, h4⟩ := hr
   subst hr
   dsimp only
   refine wpAny_mono h4 (fun _ s5 h5 => ?_) fun _ _ z => z.elim
   obtain ⟨xv, H5, I5, r5, y5, st5, fr5⟩ := h5
   have I5' := I5.pinned (fpY fr5 onlyD) (T.obj _ _ st5)
   refine wpAny_assign_Name (z7x (X := zq X sc (x :: cap) s H H2.objs.size fp) I5' S.nd (i := 0) rfl (.inl hlocal) r5 (fun s6 I6 => ?_) (.inr hlocal))
   have I6' : Inv (zq X sc (x :: cap) s H H2.objs.size fp) ([(s.heap.objs.size, { cls := .type "list", data := .seq its.toArray kk })] ++ z4m fp s5.heap) (some xv :: capt σ js) H5 s6 := I6
   refine wpAny_mono (hc s H H2.objs.size fp _ s6 _ H5 _ I6' (step xv H5 y5)) (fun b s7 q7 => ?_) fun _ _ z => z.elim
   obtain ⟨H7, I7, q7⟩ := q7
   have weak : ∀ {pl : List (Addr × Obj)} {HH : Hp} {ss : Shared}, Inv (zq X sc (x :: cap) s H H2.objs.size fp) pl (some xv :: capt σ js) HH ss → Inv (zq X sc (x :: cap) s H H2.objs.size fp) pl (none :: capt σ js) HH ss := fun J => J.weak rfl fun k v e => by
    cases k with
    | zero => exact absurd (Option.some.inj e) (by simp)
    | succ k => simpa using e
   have back : ∀ {HH : Hp} {ss : Shared}, Inv (zq X sc (x :: cap) s H H2.objs.size fp) ([(s.heap.objs.size, { cls := .type "list", data := .seq its.toArray kk })] ++ z4m fp s5.heap) (some xv :: capt σ js) HH ss →
     tn (i + 1) ss.heap ∧ (∀ b ∈ fp, HH b = none) ∧ HH s.heap.objs.size = none ∧ ss.heap.get? s.heap.objs.size = some { cls := .type "list", data := .seq its.toArray kk } := fun {HH ss} K => by
    refine ⟨T.keep _ _ _ st5 fun b hb o e => (K.pin (b, o) (List.mem_append_right _ (List.mem_append_right _ (z31 hb e)))).1, fun b hb => ?_, ?_, ?_⟩
    ·obtain ⟨o, e, d⟩ := T.obj _ _ st5 b hb
     exact (K.pin (b, o) (List.mem_append_right _ (List.mem_append_right _ (z31 hb e)))).2.1
    ·exact (K.pin _ (List.mem_append_right _ (List.mem_append_left _ List.mem_cons_self))).2.1
    ·exact (K.pin _ (List.mem_append_right _ (List.mem_append_left _ List.mem_cons_self))).1
   cases b with
   | false =>
    rw [if_neg Bool.false_ne_true] at q7 ⊢
    obtain ⟨m', hm, w7⟩ := q7
    obtain ⟨b1, b2, b3, b4⟩ := back I7
    exact ⟨m', hm, i + 1, H7, acc, its, kk, (weak I7).pins_of fun p hp => by simp at hp, b1, b2, b3, b4, r3, z3, w7⟩
   | true =>
    rw [if_pos rfl] at q7 ⊢
    refine wpAny_mono (he s H H2.objs.size fp _ s7 _ H7 _ I7 q7) (fun u8 s8 q8 => ?_) fun _ _ z => z.elim
    obtain ⟨v8, H8, I8, r8, m', hm, w8⟩ := q8
    obtain ⟨b1, b2, b3, b4⟩ := back I8
    have hl3 := r3.length
    refine call_meets F.slot_list_append ⟨_, b4, rfl⟩ F.entry_list_append (F.args_list_append_2 _ _) (PySem.list_append s.heap.objs.size its.toArray kk u8 (by rw [List.size_toArray]; omega)) ⟨b4, ?_⟩
    have q := PySem.IsL.update b4 (·.push u8)
    obtain ⟨n', q'⟩ : ∃ n', (s8.heap.update s.heap.objs.size (Obj.mapSeq (·.push u8))).get? s.heap.objs.size = some { cls := .type "list", data := .seq (its ++ [u8]).toArray n' } := by
     rw [show (its ++ [u8]).toArray = its.toArray.push u8 by simp]
     exact ⟨_, q⟩
    refine ⟨m', hm, i + 1, H8, acc ++ [v8], its ++ [u8], _, ?_, T.keep _ _ _ b1 fun b hb o e => (Heap.get?_update_other s8.heap _ (Ne.symm (nD b hb))).trans e, b2, b3, q', r3.append (.cons r8 .nil), by rw [List.length_append, List.length_singleton]; omega, w8⟩
    exact Inv.turned (X := zq X sc (x :: cap) s H H2.objs.size fp) (it := s.heap.objs.size) ((weak I8).pins_of (pins' := []) fun p hp => by simp at hp) (fun b o hb e => (Heap.get?_update_other s8.heap _ (Ne.symm hb)).trans e) b3 hDC (.inr (Nat.le_refl _)) ncl (fun p hp => absurd (show p ∈ ([] : List (Addr × Obj)) from hp) (by simp))
 exact codeAny_compStart_list (loop _ rfl) (T.self _ 0 _ _ _ (T.keep _ _ _ st fun b _ o e => old b o e) (loop _ rfl))
theorem z1v {wi : TI} (hcalm : X.calm = true) (S : CompScope X sc x cap js) (hi : PI X (.Name x px) iter wi) (hc : ∀ s H C fp, PIf (zq X sc (x :: cap) s H C fp) ifs tc) (he : ∀ s H C fp, PE (zq X sc (x :: cap) s H C fp) elt te)
  (hs : ∀ x, foldedSetIterable iter X.env x = pure x := by intro _; rfl) : PE X (.ListComp elt [⟨.Name x px, iter, ifs, 0⟩] sc pos) (ze6 wi tc te js) := by
 intro pins s σ H Q I h
 rw [eval_ListComp]
 refine wpAny_comprehension_free (use := none) rfl hs (z5p (S.cells I)) S.kind S.names (thn (hi pins s σ H _ I h) fun v s1 h1 => thn h1 fun itv s2 h2 => ?_)
 obtain ⟨it, fp, tn, J, H2, e, I2, T, st2, f2, go⟩ := h2
 subst e
 refine z8l S hcalm hc he I2 T st2 f2 go fun D C HB sB σB acc its n hD hC hDC IB hHD hd rv hz q => ?_
 obtain ⟨m, hn, _⟩ := IB.loc
 exact ⟨m, hn, fun h' sb => ⟨.ref D, upd HB D (.lst acc), z7z (sc := sc) (x := x) (cap := cap) I2 f2 IB hC hD hDC hHD hd rv hz fun b o hb e => sb.extBut b o hb e, rfl, q D hHD⟩⟩
theorem z8m {wi : TI} {i : Nat} {y : Str} {py spos : Pos} (hcalm : X.calm = true) (S : CompScope X sc x cap js) (hN : X.N.Nodup) (hi' : X.N[i]? = some y) (hx : Loc X.env.scope y) (hi : PI X (.Name x px) iter wi) (hc : ∀ s H C fp, PIf (zq X sc (x :: cap) s H C fp) ifs tc) (he : ∀ s H C fp, PE (zq X sc (x :: cap) s H C fp) elt te)
  (hsw : swapsWith (.ListComp elt [⟨.Name x px, iter, ifs, 0⟩] sc pos) (some (.Name y py)) spos.line X.env = pure true := by rfl) (hs : ∀ x, foldedSetIterable iter X.env x = pure x := by intro _; rfl)
  (hf : X.fn y = true ∨ X.env.scope.names.lookup y = some .local := by first | exact .inl rfl | exact .inr rfl | assumption) : PS X (.Assign [.Name y py] (.ListComp elt [⟨.Name x px, iter, ifs, 0⟩] sc pos) spos) (tAsg (ze6 wi tc te js) (zb8 i)) := by
 intro pins s σ H D I h
 rw [exec_Assign_Name_used _ _ _ _ hsw]
 refine wpAny_bind (wpAny_standAt (wpAny_bind ?_))
 show wpAny _ X.A (do let _ ← comprehension (.ListComp elt [⟨.Name x px, iter, ifs, 0⟩] sc pos) sc X.env _ (newList []) false (eval iter X.env) (some (assign (.Name y py) X.env))) _ _ s
 refine wpAny_bind (wpAny_mono (wpAny_comprehension_free (use := some (assign (.Name y py) X.env)) (Q := fun _ s' => SP X pins D .next s') rfl hs (z5p (S.cells I)) S.kind S.names (thn (hi pins s σ H _ I h) fun v s1 h1 => thn h1 fun itv s2 h2 => ?_)) (fun _ s' hq => wpAny_pure (wpAny_pure hq)) fun _ _ e => e)
 obtain ⟨it, fp, tn, J, H2, e, I2, T, st2, f2, go⟩ := h2
 subst e
 refine z8l S hcalm hc he I2 T st2 f2 go fun D' C HB sB σB acc its n hD hC hDC IB hHD hd rv hz q => ?_
 obtain ⟨m, hn, _⟩ := IB.loc
 have IE : Inv X pins σ (upd HB D' (.lst acc)) sB := z7z (hB := sB.heap) (sc := sc) (x := x) (cap := cap) I2 f2 IB hC hD hDC hHD hd rv hz fun b o hb e => e
 refine wpAny_assign_Name (za9 IE hN hi' hx (v := .ref D') rfl (fun s3 I3 hsb => ?_) hf)
 obtain ⟨a, sba, ha⟩ := hsb
 have aC : C ≠ a := by
  rcases ha with z | z
  ·rw [z]; exact Nat.ne_of_gt (Nat.lt_of_lt_of_le I2.lt hC)
  ·obtain ⟨v, o, ho, _⟩ := I2.cell y a z
   exact Nat.ne_of_gt (Nat.lt_of_lt_of_le (Heap.lt_size ho) hC)
 refine ⟨m, hn.sameBut sba aC, fun h' sb => ?_⟩
 refine ⟨σ.set i (some (.ref D')), upd HB D' (.lst acc), I3.turned (it := C) (t' := s3.toks) (fun b o hb e => sb.extBut b o hb e) (by rw [z8 (Ne.symm hDC)]; exact IB.free) (Nat.ne_of_gt (Nat.lt_of_lt_of_le I2.lt hC)) (.inr (Nat.le_trans I2.sz hC)) (fun y' c e => ?_) (fun p hp => ?_), q D' hHD⟩
 ·obtain ⟨v, o, ho, _⟩ := I2.cell y' c e
  exact Nat.ne_of_lt (Nat.lt_of_lt_of_le (Heap.lt_size ho) hC)
 ·exact Nat.ne_of_lt (Nat.lt_of_lt_of_le (Heap.lt_size (I2.pin p hp).1) hC)
end
end L2
end
section
namespace L2
open PySem PySem.Spec PyProof.Rows
def eqVs : List V → List V → Bool
 | [], [] => true
 | x :: xs, y :: ys => eqV x y && eqVs xs ys
 | _, _ => false
theorem z80 : ∀ {xs ys : List V}, xs.length ≠ ys.length → eqVs xs ys = false
 | [], [], h => absurd rfl h
 | [], _ :: _, _ => rfl
 | _ :: _, [], _ => rfl
 | x :: xs, y :: ys, h => by
  show (eqV x y && eqVs xs ys) = false
  rw [z80 (xs := xs) (ys := ys) (fun e => h (by simp [e])), Bool.and_false]
theorem z5r : ∀ {xs ys : List V}, xs.length = ys.length → (List.range xs.length).all (fun j => eqV (xs.getD j .non) (ys.getD j .non)) = eqVs xs ys
 | [], [], _ => rfl
 | [], _ :: _, h => by simp at h
 | _ :: _, [], h => by simp at h
 | x :: xs, y :: ys, h => by
  have ih := z5r (xs := xs) (ys := ys) (by simpa using h)
  show (List.range (xs.length + 1)).all _ = (eqV x y && eqVs xs ys)
  rw [List.range_succ_eq_map, List.all_cons, List.all_map, ← ih]
  rfl
theorem z5s : ∀ (as bs : List Str), eqVs (as.map V.str) (bs.map V.str) = decide (as = bs)
 | [], [] => rfl
 | [], _ :: _ => rfl
 | _ :: _, [] => rfl
 | a :: as, b :: bs => by
  show (eqV (.str a) (.str b) && eqVs (as.map V.str) (bs.map V.str)) = _
  rw [z5s as bs]
  show ((a == b) && decide (as = bs)) = _
  rw [Bool.eq_iff_iff]
  simp
theorem zak {A : Around} {s : Shared} {xs ys : List V} {us ws : List Value} (rx : Vals xs us) (ry : Vals ys ws) (fx : xs.all z2e = true) (fy : ys.all z2e = true) (j : Nat) (h1 : j < us.toArray.size) (h2 : j < ws.toArray.size) :
  SeqAt.EqAt A s us.toArray[j] ws.toArray[j] (eqV (xs.getD j .non) (ys.getD j .non)) := by
 have l1 := rx.length
 have l2 := ry.length
 rw [List.size_toArray] at h1 h2
 have e1 : xs[j]? = some (xs.getD j .non) := by rw [List.getD_eq_getElem?_getD, List.getElem?_eq_getElem (by omega)]; rfl
 have e2 : ys[j]? = some (ys.getD j .non) := by rw [List.getD_eq_getElem?_getD, List.getElem?_eq_getElem (by omega)]; rfl
 obtain ⟨u, q1, r1⟩ := rx.get e1
 obtain ⟨w, q2, r2⟩ := ry.get e2
 have t1 : us.toArray[j] = u := by
  rw [List.getElem_toArray]
  rw [List.getElem?_eq_getElem h1] at q1
  exact Option.some.inj q1
 have t2 : ws.toArray[j] = w := by
  rw [List.getElem_toArray]
  rw [List.getElem?_eq_getElem h2] at q2
  exact Option.some.inj q2
 rw [t1, t2]
 exact zfa r1 r2 (List.all_eq_true.mp fx _ (List.mem_of_getElem? e1)) (List.all_eq_true.mp fy _ (List.mem_of_getElem? e2))
def rEqL (K : PySem.W.Frag) (neg : Bool) : R2 := fun x y H Q => ∃ p q xs ys, x = .ref p ∧ y = .ref q ∧ SqL K H p xs ∧ SqL K H q ys ∧ xs.all z2e = true ∧ ys.all z2e = true ∧ Q (.bl (if neg then !eqVs xs ys else eqVs xs ys)) H
def rEqT (K : PySem.W.Frag) (neg : Bool) : R2 := fun x y H Q => ∃ p q xs ys, x = .ref p ∧ y = .ref q ∧ SqT K H p xs ∧ SqT K H q ys ∧ xs.all z2e = true ∧ ys.all z2e = true ∧ Q (.bl (if neg then !eqVs xs ys else eqVs xs ys)) H
section
variable {X : Cx}
theorem zfh (hu : X.A.units < cLine) : OpR X (compareOp .Eq) (rEqL X.K false) := by
 intro pins s σ H x y v u Q I rx ry h
 obtain ⟨p, q, xs, ys, rfl, rfl, hp, hq, fx, fy, hQ⟩ := h
 cases rx
 cases ry
 obtain ⟨us, r1, p1, _⟩ := I.list hp
 obtain ⟨ws, r2, p2, _⟩ := I.list hq
 have l1 := r1.length
 have l2 := r2.length
 by_cases hl : xs.length = ys.length
 ·refine SeqAt.eq_listAt (e := fun j => eqV (xs.getD j .non) (ys.getD j .non)) p1.isList p2.isList (by rw [List.size_toArray, List.size_toArray]; omega) hu (fun j h1 h2 => zak r1 r2 fx fy j h1 h2) (z12 I hQ ?_)
  rw [List.size_toArray, ← l1, z5r hl]
  rfl
 ·refine SeqAt.eq_list_lengthsAt p1.isList p2.isList (by simp only [List.size_toArray, bne_iff_ne]; omega) hu (z12 I hQ ?_)
  rw [z80 hl]
  rfl
theorem zio {xs ys : List V} : ((List.range (min xs.length ys.length)).all (fun j => eqV (xs.getD j .non) (ys.getD j .non)) && xs.length == ys.length) = eqVs xs ys := by
 by_cases hl : xs.length = ys.length
 ·rw [← hl, Nat.min_self, z5r hl]
  simp
 ·rw [z80 hl]
  simp [hl]
theorem zjm (hu : X.A.units < cLine) : OpR X (compareOp .NotEq) (rEqT X.K true) := by
 intro pins s σ H x y v u Q I rx ry h
 obtain ⟨p, q, xs, ys, rfl, rfl, hp, hq, fx, fy, hQ⟩ := h
 cases rx
 cases ry
 obtain ⟨us, r1, p1, _⟩ := I.tuple hp
 obtain ⟨ws, r2, p2, _⟩ := I.tuple hq
 have l1 := r1.length
 have l2 := r2.length
 refine SeqAt.RcNeAt.tuples (e := fun j => eqV (xs.getD j .non) (ys.getD j .non)) p1 p2 hu (fun j h1 h2 => zak r1 r2 fx fy j h1 h2) _ _ _ _ (z12 I hQ ?_)
 rw [List.size_toArray, List.size_toArray, ← l1, ← l2, zio]
 rfl
theorem zjn : SlR X (fun x lo hi H Q => ∃ z, x = .str z ∧ z.length ≤ sizeLine ∧ Q (.str (Txt.slice z lo hi)) H) := by
 intro pins s σ H x v vl vu lo hi sl Q I rx hs pl pu h
 obtain ⟨z, rfl, hz, q⟩ := h
 obtain ⟨t, rfl⟩ := rx
 refine ⟨"str", _, F.slot_str_getitem.lookup, typeIs_str _ _ _, ?_⟩
 have fin : ∀ t' k, EP X pins σ Q (.str (Txt.slice z lo hi) t') { s with toks := k } := fun t' k => ⟨.str _, H, I.tok _, ⟨_, rfl⟩, q⟩
 obtain ⟨o, h1, h2, h3⟩ := hs
 cases pl with
 | none =>
  cases pu with
  | none => exact wpAny_getItem_str_slice (l := none) (u := none) (st := none) ⟨o, h1, h2, h3⟩ rfl (post_val_or_str ⟨Nat.le_trans (Txt.slice_le z none none) hz, fin⟩)
  | int j u => exact wpAny_getItem_str_slice (l := none) (u := some (j, u)) (st := none) ⟨o, h1, h2, h3⟩ rfl (post_val_or_str ⟨Nat.le_trans (Txt.slice_le z none (some j)) hz, fin⟩)
 | int i u' =>
  cases pu with
  | none => exact wpAny_getItem_str_slice (l := some (i, u')) (u := none) (st := none) ⟨o, h1, h2, h3⟩ rfl (post_val_or_str ⟨Nat.le_trans (Txt.slice_le z (some i) none) hz, fin⟩)
  | int j u => exact wpAny_getItem_str_slice (l := some (i, u')) (u := some (j, u)) (st := none) ⟨o, h1, h2, h3⟩ rfl (post_val_or_str ⟨Nat.le_trans (Txt.slice_le z (some i) (some j)) hz, fin⟩)
theorem zal : ∀ (l : List (Str × Tok)), Vals ((l.map (·.1)).map V.str) (strValues l)
 | [] => .nil
 | (x, t) :: r => .cons ⟨t, rfl⟩ (zal r)
def zfi : V → List V → Hp → VK → Prop := fun x vs H Q => ∃ z y, x = .str z ∧ vs = [.str y] ∧ y.length = 1 ∧ z.length + 2 ≤ sizeLine ∧ ∀ p, H p = none → Q (.ref p) (upd H p (.lst ((Txt.split z y).map V.str)))
theorem z5t : MtR X "str.split" zfi := by
 intro pins s σ H x vs v us Q I rx rv h
 obtain ⟨z, y, rfl, rfl, hy, hz, q⟩ := h
 obtain ⟨t, rfl⟩ := rx
 obtain ⟨u, rfl, t', rfl⟩ := rv.one
 have hn : (Builtin.Str.partsBetween z (Builtin.Str.occurrences z y 0 z.length (z.length + 1)) y.length).length ≤ sizeLine := by
  have e1 := StrLaws.occ_length_le z y 0 z.length (z.length + 1)
  rw [length_partsBetween]; omega
 have hy0 : (y.length == 0) = false := by rw [hy]; rfl
 have fin : ∀ (l : List (Str × Tok)) (tk : Nat), l.map (·.1) = Txt.split z y → (Txt.split z y).length ≤ sizeLine → EP X pins σ Q (.ref s.heap.objs.size) { s with toks := tk, heap := s.heap.push { cls := .type "list", data := .seq (strValues l).toArray } } := fun l tk e hl => by
  refine ⟨.ref s.heap.objs.size, _, I.lnew (t' := tk) (ys := (Txt.split z y).map V.str) ?_ (by rw [List.length_map]; exact hl), rfl, q _ I.fresh⟩
  rw [← e]
  exact zal l
 cases h1 : (decide (z.length < y.length) || decide (Builtin.Str.strKind z < Builtin.Str.strKind y))
 ·cases hf : (Builtin.Str.occurrences z y 0 z.length (z.length + 1)).isEmpty
  ·have e : Txt.split z y = Builtin.Str.partsBetween z (Builtin.Str.occurrences z y 0 z.length (z.length + 1)) y.length := (if_neg (ne_true_of_eq_false h1)).trans (if_neg (ne_true_of_eq_false hf))
   refine call_meets F.slot_str_split (typeIs_str _ _ _) F.entry_str_split (F.args_str_split_2 _ _) (meets_str_split_sep z y t t' h1 hy0 hf (by omega) hn) ?_
   show wants _ _ _ { s with toks := _, heap := s.heap.push { cls := .type "list", data := .seq (strsFrom s.toks (Builtin.Str.partsBetween z (Builtin.Str.occurrences z y 0 z.length (z.length + 1)) y.length)).toArray } }
   rw [strsFrom_eq]
   exact fin (numbered s.toks _) _ ((numbered_texts _ _).trans e.symm) (by rw [e]; exact hn)
  ·have e : Txt.split z y = [z] := (if_neg (ne_true_of_eq_false h1)).trans (if_pos hf)
   exact call_meets F.slot_str_split (typeIs_str _ _ _) F.entry_str_split (F.args_str_split_2 _ _) (meets_str_split_not_found z y t t' h1 hy0 hf) (fin [(z, t)] s.toks e.symm (by rw [e]; show 1 ≤ sizeLine; decide))
 ·have e : Txt.split z y = [z] := if_pos h1
  exact call_meets F.slot_str_split (typeIs_str _ _ _) F.entry_str_split (F.args_str_split_2 _ _) (meets_str_split_cannot_occur z y t t' h1) (fin [(z, t)] s.toks e.symm (by rw [e]; show 1 ≤ sizeLine; decide))
theorem zam : ∀ bs : List Bool, (List.range bs.length).all (fun j => bs.getD j true) = bs.all id
 | [] => rfl
 | b :: bs => by
  show (List.range (bs.length + 1)).all _ = _
  rw [List.range_succ_eq_map, List.all_cons, List.all_map, List.all_cons]
  show (b && (List.range bs.length).all fun j => bs.getD j true) = _
  rw [zam bs]
  rfl
theorem z54 (hc : X.calm = true) : CallR X (.builtin "all") (fun xs H Q => ∃ p bs, xs = [.ref p] ∧ SqL X.K H p ((bs : List Bool).map V.bl) ∧ Q (.bl (bs.all id)) H) := by
  intro pins s σ H xs us Q I r h
  obtain ⟨p, bs, rfl, hp, q⟩ := h
  obtain ⟨u, rfl, ru⟩ := z4z r
  cases ru
  obtain ⟨its, r1, p1, _⟩ := I.list hp
  have hl := r1.length
  rw [List.length_map] at hl
  refine call_all_walk (wpAny_pyIter_list p1.isList ?_)
  obtain ⟨ol, n, hol, hcl, hdl, hsl⟩ := id p1
  have hne : p ≠ s.heap.objs.size := Nat.ne_of_lt (Heap.lt_size hol)
  refine ⟨s.heap.objs.size, [s.heap.objs.size, p], [s.heap.objs.size], its.toArray.size, _, _, fun j => bs.getD j true, rfl, Walks.list (by exact I.ok.hd hc) s.heap.objs.size p hne its.toArray,
    ⟨⟨_, Heap.get?_push_size _ rfl, rfl, rfl⟩, ⟨ol, Heap.get?_push_of_some _ hol, hcl, n, hsl⟩⟩, ?_, fun h' tk k => ?_⟩
  · intro j v s' Q' E' hv hq
    have hv : its.toArray[j]? = some v := hv
    have e0 : its[j]? = some v := by simpa using hv
    have hj : j < its.length := (List.getElem?_eq_some_iff.mp e0).1
    have e1 : (bs.map V.bl)[j]? = some (V.bl (bs.getD j true)) := by
      rw [List.getElem?_map, List.getD_eq_getElem?_getD, List.getElem?_eq_getElem (by omega)]
      rfl
    obtain ⟨w, q1, rw'⟩ := r1.get e1
    rw [e0] at q1
    cases q1
    cases rw'
    exact wpAny_truthy_bool hq
  · have e : (List.range its.toArray.size).all (fun j => bs.getD j true) = bs.all id := by
      rw [List.size_toArray, ← hl]
      exact zam bs
    rw [e]
    have I2 : Inv X pins σ H { s with heap := h', toks := tk } := by
     refine I.kept (t' := tk) (h' := h') fun b o e => k b o ?_ (Heap.get?_push_of_some _ e)
     intro z
     have : b = s.heap.objs.size := by simpa using z
     exact absurd (Heap.lt_size e) (by rw [this]; exact Nat.lt_irrefl _)
    exact ⟨.bl _, H, I2, rfl, q⟩
theorem z10 : CallR X (.builtin "isinstance") (fun xs H Q => ∃ x c t b, xs = [x, .ty c] ∧ TyOf X.K H x t ∧ PySem.W.kitOne X.K t (.type c) = some b ∧ Q (.bl b) H) := by
 intro pins s σ H xs us Q I r h
 obtain ⟨x, c, t, b, rfl, ty, e, q⟩ := h
 obtain ⟨u, w', rfl, r1, r2⟩ := zdu r
 cases r2
 exact zf8 I r1 ty e fun tk => ⟨.bl b, H, I.tok _, rfl, q⟩
end
theorem z3a (K : PySem.W.Frag) : PySem.W.kitOne K (.type "bool") (.type "bool") = some true := by with_unfolding_all rfl
theorem z3j (K : PySem.W.Frag) : PySem.W.kitOne K (.type "int") (.type "bool") = some false := by with_unfolding_all rfl
end L2
end
section
namespace L2
open PySem PySem.Spec PyProof.Rows
def Def (K : PySem.W.Frag) (mg : Str → Option Value) (x : Str) (st : Stmt) (ps : List Str) : Prop := ∃ f fd, Fun K x x st f fd ∧ mg x = some (.ref f) ∧ Binds K fd ps []
def Has (P : Program) (w : World) (K : PySem.W.Frag) (mg : Str → Option Value) (base : Heap) (k : Nat) (x : Str) (ps : List Str) (sp : Sp) : Prop :=
 ∃ f fd, FnOk P w K mg base CX0 k f fd ps sp ∧ mg x = some (.ref f) ∧ PySem.W.keepIn K (.ref f) = true ∧ Binds K fd ps [] ∧ ∃ oc od osl, K.lookup f = some ⟨oc, od, .func fd, osl⟩
theorem Def.ok {P : Program} {w : World} {K : PySem.W.Frag} {mg : Str → Option Value} {base : Heap} {x : Str} {st : Stmt} {N ps : List Str} {k : Nat} {sp : Sp} (D : Def K mg x st ps) (S : FnScope N ps (zf st)) (len : ∀ vs H Q E, sp vs H Q E → vs.length = ps.length)
  (hbody : ∀ (f : Addr) (cdv : Value) (A : Around) (outer : List Env) (s : Shared) (H : Hp) (vs : List V) (Q : VK) (E : XK), Room k (A.deeper (envOfC x (zf st) s.heap.objs.size f cdv)) → sp vs H Q E →
   ∃ t, PSs (cxOf CX0 P w K mg base N x (zf st) f cdv A outer s H E).nox (z1q st) t ∧ t { nx := fun _ H' => Q .non H', rt := Q } (start N vs) H) : Has P w K mg base (k + 1) x ps sp := by
 obtain ⟨f, fd, F, hm, hb⟩ := D
 exact ⟨f, fd, F.ok S len (fun cdv A outer s H vs Q E hr h => hbody f cdv A outer s H vs Q E hr h), hm, F.kp, hb, by
  obtain ⟨oc, od, kV, doc, pm, an, cdv, ct, osl, rfl, lk, hcd⟩ := F.ex
  exact ⟨oc, od, osl, lk⟩⟩
section
variable {X : Cx} {k : Nat} {x : Str} {ps : List Str} {sp : Sp} {e : Expr} {es : List Expr} {t : TA} {p pos : Pos}
theorem zo (G : Has X.prog X.w X.K X.mg X.base k x ps sp) (hr : Room k X.A) (hg : Gl X x) (ha : PA X (e :: es) t) (hdb : (x == ("__debug__" : Str)) = false := by decide) (he : starEach (e :: es) X.env = (false, eval e X.env) :: starEach es X.env := by rfl) (hpl : (backTo pos (starEach es X.env)).any (·.1) = false := by rfl) :
  PE X (.Call (.Name x p) (e :: es) [] pos) (ze0 sp [] E0 t) := by
 obtain ⟨f, fd, F, hm, hk, hb, _⟩ := G
 exact zij F hr hg hm hk hb .nil z8k ha hdb he hpl
end
def z50 (H : Hp) (Q : VK) (v : V) : Prop := ∀ H', Same H H' → Q v H'
end L2
namespace L2
open PySem PySem.Spec PyProof.Rows
theorem Has.at {P : Program} {w : World} {K : PySem.W.Frag} {mg : Str → Option Value} {base : Heap} {k : Nat} {x : Str} {ps : List Str} {sp : Sp} {st : Stmt} {f : Addr} {fd : FuncData} (G : Has P w K mg base k x ps sp) (hm : mg x = some (.ref f)) (F : Fun K x x st f fd) : FnOk P w K mg base CX0 k f fd ps sp := by
 obtain ⟨f', fd', FO, hm', hk, hb, oc', od', osl', lk'⟩ := G
 have e := hm'.symm.trans hm
 cases e
 obtain ⟨oc, od, kV, doc, pm, an, cdv, ct, osl, rfl, lk, hcd⟩ := F.ex
 rw [lk] at lk'
 have e2 := Option.some.inj lk'
 injection e2 with _ _ e3 _
 injection e3 with e4
 rw [e4]
 exact FO
end L2
namespace L2
open PySem PySem.Spec PyProof.Rows
theorem ze7 {n : Nat} (h : n ≤ 1000000) : n + 2 ≤ sizeLine := by rw [sizeLine_eq]; omega
theorem zd {n : Nat} (h : n ≤ 1000000) : n ≤ sizeLine := by rw [sizeLine_eq]; omega
theorem z78 {z y : Str} {H : Hp} {Q : VK} (hy : y.length = 1) (hz : z.length ≤ 1000000) (h : ∀ p, H p = none → Q (.ref p) (upd H p (.lst ((Txt.split z y).map V.str)))) : zfi (.str z) [.str y] H Q :=
 ⟨z, y, rfl, rfl, hy, ze7 hz, h⟩
theorem z2h (l : List Str) : (l.map V.str).all z2e = true := by
 rw [List.all_eq_true]
 intro x hx
 obtain ⟨a, _, rfl⟩ := List.mem_map.mp hx
 rfl
theorem z8n (xs : List V) (n : Nat) : cutV xs none (some (n : Int)) = xs.take n := by
 have e : HT.sIx xs.length xs.length (some (n : Int)) = min n xs.length := by
  unfold HT.sIx
  simp
  try omega
 have e0 : HT.sIx xs.length 0 none = 0 := rfl
 unfold cutV
 rw [e, e0]
 simp
theorem Same.upd {H : Hp} {p : Addr} {o : HO} (h : H p = none) : Same H (upd H p o) := fun b u e => by
 rw [z8 (za e h)]
 exact e
end L2
namespace L2
open PySem PySem.Spec PyProof.Rows
def ze8 (J : It) (g : TG) (tb : TS) (D : Ends) (σ : St) (H : Hp) : Prop := ∃ W : Nat → Nat → St → Hp → Prop, (∃ m, W 0 m σ H) ∧ ∀ i m σ H, W i m σ H →
 (J.stop i H ∧ D.nx σ H) ∨ (J.go i H ∧ ∃ N : St → Hp → Prop, (∀ σ' H', N σ' H' → ∃ m', m' < m ∧ W (i + 1) m' σ' H') ∧ ∀ x H', J.yld i H x H' → g x σ H' fun σ2 H2 => tb { D with nx := N, ct := N, bk := D.nx } σ2 H2)
theorem zh5 (wi : TI) (g : TG) (tb : TS) (D : Ends) (σ : St) (H : Hp) : tFor wi g tb D σ H = wi σ H fun J H1 => ze8 J g tb D σ H1 := rfl
theorem zfj (ta : TA) (σ : St) (H : Hp) (R : It → Hp → Prop) : zdq ta σ H R = ta σ H fun vs H1 => ∃ j : Int, vs = [.int j] ∧ (-(2 ^ 62) ≤ j ∧ j < 2 ^ 62) ∧ R (Itr 0 j.toNat) H1 := by
 unfold zdq
 simp only [and_assoc]
theorem zfk (ta : TA) (σ : St) (H : Hp) (R : It → Hp → Prop) : zi0 ta σ H R = ta σ H fun vs H1 => ∃ i j : Int, vs = [.int i, .int j] ∧ (-(2 ^ 62) ≤ i ∧ i < 2 ^ 62 ∧ -(2 ^ 62) ≤ j ∧ j < 2 ^ 62) ∧ R (Itr i (j - i).toNat) H1 := rfl
theorem z40 {lo : Int} {n : Nat} {g : TG} {tb : TS} {D : Ends} {σ : St} {H : Hp} (sp : Nat → St → Hp → Prop) (h0 : sp 0 σ H)
  (hs : ∀ (Pv : Nat → St → Hp → Prop), (∀ i σ H, sp i σ H → Pv i σ H) → ∀ i σ H, i < n → sp i σ H → g (.int (lo + i)) σ H fun σ2 H2 => tb { D with nx := Pv (i + 1), ct := Pv (i + 1), bk := D.nx } σ2 H2) (hd : ∀ σ H, sp n σ H → D.nx σ H) : ze8 (Itr lo n) g tb D σ H :=
 zf2 sp h0 (hs sp fun _ _ _ h => h) hd
theorem z27 {K : PySem.W.Frag} {a : Addr} {xs : List V} {g : TG} {tb : TS} {D : Ends} {σ : St} {H : Hp} (sp : Nat → St → Hp → Prop) (h0 : sp 0 σ H) (hl : ∀ i σ H, i ≤ xs.length → sp i σ H → SqL K H a xs)
  (hs : ∀ (Pv : Nat → St → Hp → Prop), (∀ i σ H, sp i σ H → Pv i σ H) → ∀ i x σ H, xs[i]? = some x → sp i σ H → g x σ H fun σ2 H2 => tb { D with nx := Pv (i + 1), ct := Pv (i + 1), bk := D.nx } σ2 H2) (hd : ∀ σ H, sp xs.length σ H → D.nx σ H) : ze8 (Itl K a) g tb D σ H :=
 zgx sp h0 hl (hs sp fun _ _ _ h => h) hd
theorem zfl (wi : TI) (tc : TT) (te : TE) (js : List Nat) (σ : St) (H : Hp) (Q : VK) : ze6 wi tc te js σ H Q = wi σ H fun J H1 => z44 J tc te js σ H1 Q := rfl
def Nx (n : Nat) (Pv : Nat → List V → Hp → Prop) (i : Nat) (acc : List V) (H : Hp) : Prop := ∃ m', m' < n - i ∧ m' = n - (i + 1) ∧ i + 1 ≤ n ∧ Pv (i + 1) acc H
theorem nx {n : Nat} {Pv : Nat → List V → Hp → Prop} {i : Nat} {acc : List V} {H : Hp} (hi : i < n) (h : Pv (i + 1) acc H) : Nx n Pv i acc H := ⟨n - (i + 1), by omega, rfl, hi, h⟩
theorem z8o {J : It} {tc : TT} {te : TE} {js : List Nat} {σ : St} {H1 : Hp} {Q : VK} (n : Nat) (hn : n ≤ sizeLine) (Pv : Nat → List V → Hp → Prop) (h0 : Pv 0 [] H1) (hlen : ∀ i acc H, Pv i acc H → acc.length ≤ i)
  (hgo : ∀ i acc H, i < n → Pv i acc H → J.go i H) (hstop : ∀ acc H, Pv n acc H → J.stop n H)
  (hs : ∀ i acc H x H', i < n → Pv i acc H → J.yld i H x H' → tc (some x :: capt σ js) H' fun b H2 => if b = true then te (some x :: capt σ js) H2 fun v H3 => Nx n Pv i (acc ++ [v]) H3 else Nx n Pv i acc H2)
  (hd : ∀ acc H, Pv n acc H → ∀ p, H p = none → Q (.ref p) (upd H p (.lst acc))) : z44 J tc te js σ H1 Q := by
 refine ⟨fun i m acc H => m = n - i ∧ i ≤ n ∧ Pv i acc H, ⟨n, by simp, Nat.zero_le _, h0⟩, ?_⟩
 rintro i m acc H ⟨rfl, hi, p⟩
 by_cases hlt : i < n
 ·exact .inr ⟨hgo i acc H hlt p, by have := hlen i acc H p; omega, fun x H' y => hs i acc H x H' hlt p y⟩
 ·have e : i = n := by omega
  subst e
  exact .inl ⟨hstop acc H p, hd acc H p⟩
theorem zas {lo : Int} {n : Nat} {tc : TT} {te : TE} {js : List Nat} {σ : St} {H1 : Hp} {Q : VK} (hn : n ≤ sizeLine) (Pv : Nat → List V → Hp → Prop) (h0 : Pv 0 [] H1) (hlen : ∀ i acc H, Pv i acc H → acc.length ≤ i)
  (hs : ∀ i acc H, i < n → Pv i acc H → tc (some (.int (lo + i)) :: capt σ js) H fun b H2 => if b = true then te (some (.int (lo + i)) :: capt σ js) H2 fun v H3 => Nx n Pv i (acc ++ [v]) H3 else Nx n Pv i acc H2)
  (hd : ∀ acc H, Pv n acc H → ∀ p, H p = none → Q (.ref p) (upd H p (.lst acc))) : z44 (Itr lo n) tc te js σ H1 Q := by
 refine z8o n hn Pv h0 hlen (fun i acc H hi p => hi) (fun acc H p => Nat.le_refl _) (fun i acc H x H' hi p y => ?_) hd
 obtain ⟨e, y⟩ := y
 subst e y
 exact hs i acc H' hi p
theorem zbm {K : PySem.W.Frag} {a : Addr} {xs : List V} {tc : TT} {te : TE} {js : List Nat} {σ : St} {H1 : Hp} {Q : VK} (hn : xs.length ≤ sizeLine) (Pv : Nat → List V → Hp → Prop) (h0 : Pv 0 [] H1) (hlen : ∀ i acc H, Pv i acc H → acc.length ≤ i) (hl : ∀ i acc H, Pv i acc H → SqL K H a xs)
  (hs : ∀ i acc H x, xs[i]? = some x → i < xs.length → Pv i acc H → tc (some x :: capt σ js) H fun b H2 => if b = true then te (some x :: capt σ js) H2 fun v H3 => Nx xs.length Pv i (acc ++ [v]) H3 else Nx xs.length Pv i acc H2)
  (hd : ∀ acc H, Pv xs.length acc H → ∀ p, H p = none → Q (.ref p) (upd H p (.lst acc))) : z44 (Itl K a) tc te js σ H1 Q := by
 refine z8o xs.length hn Pv h0 hlen (fun i acc H hi p => ⟨xs, xs[i], hl i acc H p, by simp [hi]⟩) (fun acc H p => ⟨xs, hl _ acc H p, Nat.le_refl _⟩) (fun i acc H x H' hi p y => ?_) hd
 obtain ⟨e, y⟩ := y
 subst e
 exact hs i acc H' x (y xs (hl i acc H' p)) hi p
theorem z2x {lo : Int} {n : Nat} {tc : TT} {te : TE} {js : List Nat} {σ : St} {H1 : Hp} {Q : VK} (hn : n ≤ sizeLine) (sp : Nat → List V → Hp → Prop) (h0 : sp 0 [] H1) (hlen : ∀ i acc H, sp i acc H → acc.length ≤ i)
  (hs : ∀ (Nt : List V → Hp → Prop) i acc H, (∀ acc H, sp (i + 1) acc H → Nt acc H) → i < n → sp i acc H → tc (some (.int (lo + i)) :: capt σ js) H fun b H2 => if b = true then te (some (.int (lo + i)) :: capt σ js) H2 fun v H3 => Nt (acc ++ [v]) H3 else Nt acc H2)
  (hd : ∀ acc H, sp n acc H → ∀ p, H p = none → Q (.ref p) (upd H p (.lst acc))) : z44 (Itr lo n) tc te js σ H1 Q :=
 zas hn sp h0 hlen (fun i acc H hi p => hs (Nx n sp i) i acc H (fun _ _ h => nx hi h) hi p) hd
theorem z1j {K : PySem.W.Frag} {a : Addr} {xs : List V} {tc : TT} {te : TE} {js : List Nat} {σ : St} {H1 : Hp} {Q : VK} (hn : xs.length ≤ sizeLine) (sp : Nat → List V → Hp → Prop) (h0 : sp 0 [] H1) (hlen : ∀ i acc H, sp i acc H → acc.length ≤ i) (hl : ∀ i acc H, sp i acc H → SqL K H a xs)
  (hs : ∀ (Nt : List V → Hp → Prop) i acc H x, (∀ acc H, sp (i + 1) acc H → Nt acc H) → xs[i]? = some x → i < xs.length → sp i acc H → tc (some x :: capt σ js) H fun b H2 => if b = true then te (some x :: capt σ js) H2 fun v H3 => Nt (acc ++ [v]) H3 else Nt acc H2)
  (hd : ∀ acc H, sp xs.length acc H → ∀ p, H p = none → Q (.ref p) (upd H p (.lst acc))) : z44 (Itl K a) tc te js σ H1 Q :=
 zbm hn sp h0 hlen hl (fun i acc H x hx hi p => hs (Nx xs.length sp i) i acc H x (fun _ _ h => nx hi h) hx hi p) hd
end L2
namespace L2
open PySem PySem.Spec PyProof.Rows
def tCut (t u : TS) : TS := fun D σ H => ∃ Mid : St → Hp → Prop, t { D with nx := Mid } σ H ∧ ∀ σ H, Mid σ H → u D σ H
theorem z3p {X : Cx} {st : Stmt} {rest : List Stmt} {t u : TS} (h1 : PS X st t) (h2 : PSs X rest u) : PSs X (st :: rest) (tCut t u) := by
 intro pins s σ H D I ⟨Mid, h, hm⟩
 refine wpAny_execs_cons (thn (h1 pins s σ H { D with nx := Mid } I h) fun f s1 q => ?_)
 cases f with
 | next =>
  obtain ⟨σ', H', I', q⟩ := q
  exact h2 pins s1 σ' H' D I' (hm σ' H' q)
 | ret v => exact q
 | brk => exact q
 | cont => exact q
theorem z5u {t u : TS} {D : Ends} {σ : St} {H : Hp} (sp : St → Hp → Prop) (h1 : ∀ Mid : St → Hp → Prop, (∀ σ H, sp σ H → Mid σ H) → t { D with nx := Mid } σ H) (h2 : ∀ σ H, sp σ H → u D σ H) : tCut t u D σ H := ⟨sp, h1 sp fun _ _ h => h, h2⟩
theorem cdiv {i j : Int} (h1 : 0 < j) (h2 : j < 1073741824) : CDiv i j := ⟨h1, h2⟩
end L2
namespace L2
open PySem PySem.Spec PyProof.Rows
def zjo (dn cn : List (Str × NameKind)) : Bool := cn.all fun y => (y.2 != .free) || (dn.lookup y.1 == some .cell) || (dn.lookup y.1 == some .free)
theorem zw {X : Cx} {sc : Scope} (h : zjo X.env.scope.names sc.names = true) : ∀ y ∈ sc.names, y.2 = .free → X.env.kindOf y.1 = some .cell ∨ X.env.kindOf y.1 = some .free := by
 intro y hy hf
 have := List.all_eq_true.mp h y hy
 rw [hf] at this
 simp at this
 exact this
end L2
end
section
namespace L2
open PySem PySem.Spec PyProof.Rows
theorem ObjOk.here {P : Program} {w : World} {H : Hp} {h : Heap} {a : Addr} {o : HO} (x : ObjOk P w H h a o) : ∃ ob, h.get? a = some ob := by
 cases o with
 | lst xs => obtain ⟨_, _, _, _, e⟩ := x; exact ⟨_, e⟩
 | tup xs => obtain ⟨_, _, _, ob, e, _⟩ := x; exact ⟨_, e⟩
 | dK kvs => obtain ⟨_, _, _, _, ob, _, _, e, _⟩ := x; exact ⟨_, e⟩
 | dT kvs => obtain ⟨_, _, _, _, ob, _, _, e, _⟩ := x; exact ⟨_, e⟩
 | set S n => obtain ⟨ob, _, _, _, e, _⟩ := x; exact ⟨_, e⟩
 | ins C dx fs => obtain ⟨_, _, _, e, _⟩ := x; exact ⟨_, e⟩
 | own y => obtain ⟨ob, e⟩ := x; exact ⟨_, e⟩
 | xd fs => obtain ⟨_, ⟨ob, _, _, e, _⟩, _⟩ := x; exact ⟨_, e⟩
 | rng lo hi => obtain ⟨_, _, _, e⟩ := x; exact ⟨_, e⟩
 | frz ob u => obtain ⟨e, _⟩ := x; exact ⟨_, e⟩
 | tbl ps => exact ⟨_, (show h.get? a = some _ from x)⟩
 | met f y => exact ⟨_, (show h.get? a = some _ from x)⟩
 | ext φ => obtain ⟨_, ⟨ob, e⟩, _⟩ := x; exact ⟨_, e⟩
theorem z9h {P : Program} {w : World} {H : Hp} {B h h' : Heap} (k : B.StaysIn h) (k' : B.StaysIn h') (tr : ∀ b u, H b = some u → ∃ o, B.get? b = some o) (ok : HOk P w H h) : HOk P w H h' := fun a o e =>
 (ok a o e).stay (fun b u hb q => by
  have hbt : ∃ v, H b = some v := by
   rcases hb with z | z
   ·exact ⟨o, by rw [z]; exact e⟩
   ·exact ⟨_, z⟩
  obtain ⟨v, hv⟩ := hbt
  obtain ⟨ob, hob⟩ := tr b v hv
  have := k b ob hob
  rw [q] at this
  cases this
  exact k' b u hob) (fun _ q => q) fun _ _ q => q
theorem zfm {fs : List Addr} {H H' : Hp} {g B h h' : Heap} (k : B.StaysIn h) (k' : B.StaysIn h') (hfr : ∀ b ∈ fs, ∃ o, h.get? b = some o ∧ ∀ vs, o.data ≠ .fields vs) (up : h.UpToSlots h')
  (old : ∀ b o, g.get? b = some o → b ∉ fs → ∃ o', B.get? b = some o') (u : Un fs [] H H' g h) : Un fs [] H H' g h' where
 keep := fun b o q n hb hx => by
  obtain ⟨ob, hob⟩ := old b o q hb
  have e1 := u.keep b o q n hb hx
  have e2 := k b ob hob
  rw [e1] at e2
  cases e2
  exact k' b o hob
 slot := fun b o q n hb hx => by
  obtain ⟨sl, e1⟩ := u.slot b o q n hb hx
  obtain ⟨o2, e2, d2⟩ := hfr b hb
  rw [e1] at e2
  cases e2
  obtain ⟨sl', e3⟩ := up b _ e1 d2
  exact ⟨sl', e3⟩
 free := u.free
 there := fun b o q hx => by
  by_cases hb : b ∈ fs
  ·obtain ⟨o2, e2, d2⟩ := hfr b hb
   obtain ⟨sl', e3⟩ := up b _ e2 d2
   exact ⟨_, e3⟩
  ·obtain ⟨ob, hob⟩ := old b o q hb
   exact ⟨ob, k' b ob hob⟩
 tups := u.tups
 frzs := u.frzs
 tbls := u.tbls
def CX1 (P : Program) (w : World) : CXT := fun outer H s E e s' => ∃ (x C t : Addr) (B : Heap) (H' : Hp), e = .ref x ∧ s'.os = s.os ∧ AllBare s'.gens ∧ Un (frs outer) [] H H' s.heap s'.heap ∧ HOk P w H' s'.heap ∧
 Heap.FlyingW B outer x (.ref C) (.ref t) s'.heap ∧ (∀ b u, H' b = some u → ∃ o, B.get? b = some o) ∧ (∀ b o, s.heap.get? b = some o → b ∉ frs outer → ∃ o', B.get? b = some o') ∧ E (.ref C) none H'
def zfn (X : Cx) (E : XK) : Prop := ∀ (pins : List (Addr × Obj)) (σ : St) (H : Hp) (s : Shared) (x C : Addr) (args : List Value) (h' : Heap), Inv X pins σ H s → Heap.MadeExcOf s.heap h' x (.ref C) args → E (.ref C) none H → X.xe (.ref x) { s with heap := h' }
section
variable {P : Program} {w : World} {K : PySem.W.Frag} {mg : Str → Option Value} {base : Heap} {N : List Str} {qual : Str} {sc : Scope} {f : Addr} {cd : Value} {A : Around} {outer : List Env} {s : Shared} {H : Hp} {E : XK}
theorem z45 : zfn (cxOf (CX1 P w) P w K mg base N qual sc f cd A outer s H E) E := by
 intro pins σ H2 s2 x C args h' I hx hE
 have hfrm := I.ok.frames
 have hin : ∀ env ∈ (cxOf (CX1 P w) P w K mg base N qual sc f cd A outer s H E).stack, ∀ a, env.frame = some a → a ∈ frs (cxOf (CX1 P w) P w K mg base N qual sc f cd A outer s H E).stack := fun env he a ha => List.mem_filterMap.mpr ⟨env, he, ha⟩
 have hL : (cxOf (CX1 P w) P w K mg base N qual sc f cd A outer s H E).env.locals = s.heap.objs.size := rfl
 have nfr : ∀ b o, s.heap.get? b = some o → b ∉ frs outer → b ∉ frs (cxOf (CX1 P w) P w K mg base N qual sc f cd A outer s H E).stack := fun b o q hb z => by
  rcases List.mem_cons.mp (I.stkSub b z) with e | e
  ·rw [hL] at e
   exact absurd (Heap.lt_size q) (by rw [e]; exact Nat.lt_irrefl _)
  ·exact hb e
 have sub : ∀ b ∈ frs outer, b ∈ frs (cxOf (CX1 P w) P w K mg base N qual sc f cd A outer s H E).stack := fun b hb => by
  obtain ⟨env, he, hf⟩ := List.mem_filterMap.mp hb
  exact List.mem_filterMap.mpr ⟨env, List.mem_cons_of_mem _ he, hf⟩
 have stB : (PySem.W.hideAll s2.heap (frs (cxOf (CX1 P w) P w K mg base N qual sc f cd A outer s H E).stack)).StaysIn s2.heap := fun b o q => PySem.W.of_hideAll _ q
 have tr : ∀ b u, H2 b = some u → ∃ o, (PySem.W.hideAll s2.heap (frs (cxOf (CX1 P w) P w K mg base N qual sc f cd A outer s H E).stack)).get? b = some o := fun b u q => by
  obtain ⟨ob, hob⟩ := (I.hok b u q).here
  exact ⟨ob, PySem.W.hideAll_get _ hob fun z => by rw [I.stkFree b z] at q; cases q⟩
 have old : ∀ b o, s.heap.get? b = some o → b ∉ frs outer → ∃ o', (PySem.W.hideAll s2.heap (frs (cxOf (CX1 P w) P w K mg base N qual sc f cd A outer s H E).stack)).get? b = some o' := fun b o q hb => by
  obtain ⟨o', e⟩ := I.base.there b o q (by simp [cxOf])
  exact ⟨o', PySem.W.hideAll_get _ e (nfr b o q hb)⟩
 refine wpAny_leaves_madeW (h := s2.heap) hfrm rfl stB (PySem.W.funFrames_hide I.stack hin) hx fun h2 t fl tp nt up => ?_
 have up2 : s2.heap.UpToSlots h2 := fun b o q d => up b o (hx.keeps b o q) d
 exact ⟨x, C, t, _, H2, rfl, I.os, I.bare, zfm stB fl.1 (fun b hb => (I.stack.mem (sub b hb)).2) up2 old I.base, z9h stB fl.1 tr I.hok, fl, tr, old, hE⟩
theorem z6m : z39 (CX1 P w) (cxOf (CX1 P w) P w K mg base N qual sc f cd A outer s H E) E := by
 intro pins σ H1 s1 e s' I hq
 obtain ⟨x, C, t, B, H', rfl, os, bare, un, hok, fl, tr, old, hE⟩ := hq
 have J : Inv (cxOf (CX1 P w) P w K mg base N qual sc f cd A outer s H E) pins σ H' s' := I.call' (ch := []) os un hok bare (fun b z => absurd z (by simp))
 have hL : (cxOf (CX1 P w) P w K mg base N qual sc f cd A outer s H E).env.locals = s.heap.objs.size := rfl
 have nfr : ∀ b o, s.heap.get? b = some o → b ∉ frs outer → b ∉ frs (cxOf (CX1 P w) P w K mg base N qual sc f cd A outer s H E).stack := fun b o q hb z => by
  rcases List.mem_cons.mp (I.stkSub b z) with e | e
  ·rw [hL] at e
   exact absurd (Heap.lt_size q) (by rw [e]; exact Nat.lt_irrefl _)
  ·exact hb e
 have old2 : ∀ b o, s.heap.get? b = some o → b ∉ frs outer → ∃ o', B.get? b = some o' := fun b o q hb => by
  obtain ⟨o', e⟩ := I.base.there b o q (by simp [cxOf])
  exact old b o' e (nfr b o q hb)
 have sub : ∀ b ∈ frs outer, b ∈ frs (cxOf (CX1 P w) P w K mg base N qual sc f cd A outer s H E).stack := fun b hb => by
  obtain ⟨env, he, hf⟩ := List.mem_filterMap.mp hb
  exact List.mem_filterMap.mpr ⟨env, List.mem_cons_of_mem _ he, hf⟩
 refine wpAny_leaves_onW I.ok.frames rfl fl fun h2 fl2 up => ?_
 exact ⟨x, C, t, B, H', rfl, J.os, J.bare, zfm fl.1 fl2.1 (fun b hb => (J.stack.mem (sub b hb)).2) up old2 J.base, z9h fl.1 fl2.1 tr J.hok, fl2, tr, old2, hE⟩
end
theorem zda {K : PySem.W.Frag} {h : Heap} {C : Addr} {bmB : List Value} {nid : String} (X : K.In h) (q : PySem.W.excIn K C bmB nid = true) :
  ∃ bm N nm qn bs hd sn sub ab col dd k0 k1 k2 k3 k5 mN, h.get? C = some (excClassObj nm qn C N bs bm hd sn sub ab col dd k0 k1 k2 k3 k5 nid) ∧ h.Ns N mN ∧ mN "__init__" = none ∧ OwnTail h bmB bm := by
 unfold PySem.W.excIn at q
 split at q
 case h_2 => cases q
 case h_1 dd cd sl look =>
  split at q
  case h_2 => cases q
  case h_1 C2 bm a0 a1 a2 a3 nm2 a5 hmro hslots =>
   rw [Bool.and_eq_true, Bool.and_eq_true, Bool.and_eq_true, Bool.and_eq_true, Bool.and_eq_true] at q
   obtain ⟨⟨⟨⟨⟨q1, q2⟩, q3⟩, q4⟩, q5⟩, q6⟩ := q
   have e1 : C2 = C := by simpa using q1
   have e2 : nm2 = nid := by simpa using q2
   subst e1 e2
   obtain ⟨c1, c2, c3, c4, c5, c6, c7, c8, c9, c10, c11⟩ := cd
   have e3 : c11 = false := by simpa using q3
   have e4 : c3 = .ref C2 :: bm := hmro
   have e6 : sl = #[a0, a1, a2, a3, some (.builtin nm2), a5] := Array.toList_inj.mp hslots
   rw [e3, e4, e6] at look
   exact ⟨bm, _, _, _, _, _, _, _, _, _, _, _, _, _, _, _, _, X _ _ look, .of_isNs (PySem.W.isNs_of_in X q5), PySem.W.nsMap_none_of_in X q5 (by simpa using q6), PySem.W.tail_of_in X q4⟩
section
variable {X : Cx} {E : XK} {x : Str} {C : Addr} {np cpos pos : Pos} {e : Expr} {es : List Expr} {t : TA} {bmB : List Value} {B nid iid : String}
def zfo (E : XK) (C : Addr) (t : TA) : TS := fun _ σ H => t σ H fun xs H1 => xs.length ≤ sizeLine ∧ E (.ref C) none H1
theorem z4p (th : zfn X E) (hc : X.calm = true) (FB : ExcBaseFacts B nid iid bmB) (ex : PySem.W.excIn X.K C bmB nid = true) (hg : Gl X x) (hm : X.mg x = some (.ref C)) (ha : PA X (e :: es) t)
  (he : starEach (e :: es) X.env = (false, eval e X.env) :: starEach es X.env := by rfl) (hpl : (backTo cpos (starEach es X.env)).any (·.1) = false := by rfl) (hdb : (x == ("__debug__" : Str)) = false := by decide) :
  PS X (.Raise (some (.Call (.Name x np) (e :: es) [] cpos)) none pos) (zfo E C t) := by
 intro pins s σ H D I h
 obtain ⟨bm, N, nm, qn, bs, hd, sn, sub, ab, col, dd, k0, k1, k2, k3, k5, mN, hC, hN, hni, T⟩ := zda I.mod.kin ex
 refine wpAny_Raise_call_subT (C := C) (bm := bm) (nm := nm) (q := qn) (N := N) (bs := bs) (hdct := hd) (sn := sn) (sub := sub) (ab := ab) (col := col) (dd := dd) (k0 := k0) (k1 := k1) (k2 := k2) (k3 := k3) (k5 := k5) FB (mN := mN) (T.hasType FB.hasBase) (I.ok.hd hc) ?_ hni (z5d I hg hm ⟨rfl, ?_⟩ hdb)
 ·rw [he]
  show (false || (backTo cpos (starEach es X.env)).any (·.1)) = false
  rw [hpl]
  rfl
 have hA := ha cpos pins s σ H _ I h
 rw [he] at hA ⊢
 refine Calls.evalArgs_plain (thn hA fun us s2 hq => ?_)
 obtain ⟨vs, H2, I2, r2, hz, hE⟩ := hq
 exact ⟨rfl, by rw [← r2.length]; exact hz, I2.bk _ _ hC, hN.keeps I2.bk, T.keeps I2.bk, fun h' ev hm' => th pins σ H2 s2 ev C us h' I2 hm' hE⟩
end
def MDef (K : PySem.W.Frag) (C : Addr) (m qual : Str) (st : Stmt) (ps : List Str) : Prop := ∃ f fd, Fun K m qual st f fd ∧ Meth K C m f ∧ Binds K fd ps []
def MHas (P : Program) (w : World) (K : PySem.W.Frag) (mg : Str → Option Value) (base : Heap) (CX : CXT) (k : Nat) (C : Addr) (m : Str) (ps : List Str) (sp : Sp) : Prop :=
 ∃ f fd, FnOk P w K mg base CX k f fd ps sp ∧ Meth K C m f ∧ Binds K fd ps []
section
variable {P : Program} {w : World} {K : PySem.W.Frag} {mg : Str → Option Value} {base : Heap}
theorem Fun.okx {x qual : Str} {st : Stmt} {f : Addr} {fd : FuncData} {N ps : List Str} {k : Nat} {sp : Sp} (F : Fun K x qual st f fd) (S : FnScope N ps (zf st)) (len : ∀ vs H Q E, sp vs H Q E → vs.length = ps.length)
  (hbody : ∀ (cdv : Value) (A : Around) (outer : List Env) (s : Shared) (H : Hp) (vs : List V) (Q : VK) (E : XK), Room k (A.deeper (envOfC qual (zf st) s.heap.objs.size f cdv)) → sp vs H Q E →
   ∃ t, PSs (cxOf (CX1 P w) P w K mg base N qual (zf st) f cdv A outer s H E) (z1q st) t ∧ t { nx := fun _ H' => Q .non H', rt := Q } (start N vs) H) : FnOk P w K mg base (CX1 P w) (k + 1) f fd ps sp := by
 obtain ⟨oc, od, kV, doc, pm, an, cdv, ct, osl, rfl, lk, hcd⟩ := F.ex
 exact ze1 lk hcd S len fun A outer s H vs Q E hr hsp => hbody cdv A outer s H vs Q E hr hsp
theorem MDef.ok {C : Addr} {m qual : Str} {st : Stmt} {N ps : List Str} {k : Nat} {sp : Sp} (D : MDef K C m qual st ps) (S : FnScope N ps (zf st)) (len : ∀ vs H Q E, sp vs H Q E → vs.length = ps.length)
  (hbody : ∀ (f : Addr) (cdv : Value) (A : Around) (outer : List Env) (s : Shared) (H : Hp) (vs : List V) (Q : VK) (E : XK), Room k (A.deeper (envOfC qual (zf st) s.heap.objs.size f cdv)) → sp vs H Q E →
   ∃ t, PSs (cxOf CX0 P w K mg base N qual (zf st) f cdv A outer s H E).nox (z1q st) t ∧ t { nx := fun _ H' => Q .non H', rt := Q } (start N vs) H) : MHas P w K mg base CX0 (k + 1) C m ps sp := by
 obtain ⟨f, fd, F, hm, hb⟩ := D
 exact ⟨f, fd, F.ok S len (fun cdv A outer s H vs Q E hr h => hbody f cdv A outer s H vs Q E hr h), hm, hb⟩
theorem MDef.okx {C : Addr} {m qual : Str} {st : Stmt} {N ps : List Str} {k : Nat} {sp : Sp} (D : MDef K C m qual st ps) (S : FnScope N ps (zf st)) (len : ∀ vs H Q E, sp vs H Q E → vs.length = ps.length)
  (hbody : ∀ (f : Addr) (cdv : Value) (A : Around) (outer : List Env) (s : Shared) (H : Hp) (vs : List V) (Q : VK) (E : XK), Room k (A.deeper (envOfC qual (zf st) s.heap.objs.size f cdv)) → sp vs H Q E →
   ∃ t, PSs (cxOf (CX1 P w) P w K mg base N qual (zf st) f cdv A outer s H E) (z1q st) t ∧ t { nx := fun _ H' => Q .non H', rt := Q } (start N vs) H) : MHas P w K mg base (CX1 P w) (k + 1) C m ps sp := by
 obtain ⟨f, fd, F, hm, hb⟩ := D
 exact ⟨f, fd, F.okx S len (fun cdv A outer s H vs Q E hr h => hbody f cdv A outer s H vs Q E hr h), hm, hb⟩
end
section
variable {X : Cx} {k : Nat} {C : Addr} {m : Str} {ps : List Str} {sp : Sp} {o e : Expr} {es : List Expr} {ta : TE} {t : TA} {apos pos : Pos}
theorem z1y {pl : Sem Bool} (G : MHas X.prog X.w X.K X.mg X.base CX0 k C m ps sp) (c : Cls X.K C) (hr : Room k X.A) (he : PE X o ta) (ha : PA X (e :: es) t)
  (hst : starEach (e :: es) X.env = (false, eval e X.env) :: starEach es X.env := by rfl) (hpl : (backTo pos (starEach es X.env)).any (·.1) = false := by rfl)
  (ht : eval (.Call (.Attribute o m apos) (e :: es) [] pos) X.env = (do
   let ov ← eval o X.env
   standAt apos.atName
   let (f, first) ← holding [ov] (getMethod ov m pl)
   callWith pos f first (backTo pos (starEach (e :: es) X.env)) (backToKw pos (keywordEach [] X.env))) := by rfl) :
  PE X (.Call (.Attribute o m apos) (e :: es) [] pos) (z76 C m sp [] E0 ta t) := by
 obtain ⟨f, fd, F, hm, hb⟩ := G
 exact zd6 he c hm F hr hb .nil z8k ha hst hpl ht
theorem z3q {pl : Sem Bool} (G : MHas X.prog X.w X.K X.mg X.base CX0 k C m ps sp) (c : Cls X.K C) (hr : Room k X.A) (he : PE X o ta)
  (ht : eval (.Call (.Attribute o m apos) [] [] pos) X.env = (do
   let ov ← eval o X.env
   standAt apos.atName
   let (f, first) ← holding [ov] (getMethod ov m pl)
   callWith pos f first (backTo pos (starEach [] X.env)) (backToKw pos (keywordEach [] X.env))) := by rfl) :
  PE X (.Call (.Attribute o m apos) [] [] pos) (z76 C m sp [] E0 ta tNil) := by
 obtain ⟨f, fd, F, hm, hb⟩ := G
 exact zh1 he c hm F hr hb .nil z8k ht
end
def Mine (X : Cx) (pins : List (Addr × Obj)) (b : Addr) : Prop := (∃ o, X.s₀.heap.get? b = some o) ∨ b = X.env.locals ∨ (∃ y, X.env.cells.lookup y = some b) ∨ ∃ p ∈ X.pn ++ pins, p.1 = b
structure Fly (X : Cx) (pins : List (Addr × Obj)) (σ : St) (H : Hp) (s : Shared) (x C t : Addr) (B : Heap) : Prop where
 inv : Inv X pins σ H s
 fly : Heap.FlyingW B X.stack x (.ref C) (.ref t) s.heap
 tr : ∀ b u, H b = some u → ∃ o, B.get? b = some o
 mine : ∀ b, Mine X pins b → b ∈ frs X.stack ∨ ∃ o, B.get? b = some o
def XP (X : Cx) (pins : List (Addr × Obj)) (σ : St) (Ex : XK) (ev : Value) (s' : Shared) : Prop := ∃ x C t B H', ev = .ref x ∧ Fly X pins σ H' s' x C t B ∧ Ex (.ref C) none H'
theorem Inv.mine {X : Cx} {pins : List (Addr × Obj)} {σ : St} {H : Hp} {s : Shared} (I : Inv X pins σ H s) (hx : X.ex = []) {b : Addr} (h : Mine X pins b) : ∃ o, s.heap.get? b = some o := by
 rcases h with ⟨o, h⟩ | h | ⟨y, h⟩ | ⟨p, hp, h⟩
 ·exact I.base.there b o h (by rw [hx]; simp)
 ·obtain ⟨m, ⟨o, _, _, e, _⟩, _⟩ := I.loc
  exact ⟨o, by rw [h]; exact e⟩
 ·obtain ⟨v, o, e, _⟩ := I.cell y b h
  exact ⟨o, e⟩
 ·exact ⟨_, by rw [← h]; exact (I.pin p hp).1⟩
theorem zjp {X : Cx} {pins : List (Addr × Obj)} {σ : St} {H : Hp} {s s' : Shared} {E : XK} {ev : Value} (hx : X.ex = []) (I : Inv X pins σ H s) (q : CX1 X.prog X.w X.stack H s E ev s') : XP X pins σ E ev s' := by
 obtain ⟨x, C, t, B, H', rfl, os, bare, un, hok, fl, tr, old, hE⟩ := q
 refine ⟨x, C, t, B, H', rfl, ⟨I.call' (ch := []) os un hok bare (fun b z => absurd z (by simp)), fl, tr, fun b hb => ?_⟩, hE⟩
 obtain ⟨o, e⟩ := I.mine hx hb
 by_cases hf : b ∈ frs X.stack
 ·exact .inl hf
 ·exact .inr (old b o e hf)
theorem Fly.on {X : Cx} {pins : List (Addr × Obj)} {σ : St} {H : Hp} {s : Shared} {x C t : Addr} {B : Heap} {h' : Heap} (F : Fly X pins σ H s x C t B) (fl : Heap.FlyingW B X.stack x (.ref C) (.ref t) h') (up : s.heap.UpToSlots h') : Fly X pins σ H { s with heap := h' } x C t B := by
 have I := F.inv
 refine ⟨?_, fl, F.tr, F.mine⟩
 have slotF : ∀ b o, b ∈ frs X.stack → s.heap.get? b = some o → ∃ sl, h'.get? b = some { o with slots := sl } := fun b o hb q => by
  obtain ⟨_, o2, e2, d2⟩ := I.stack.mem hb
  rw [q] at e2
  cases e2
  exact up b _ q d2
 have at' : ∀ b o, Mine X pins b → b ∉ frs X.stack → s.heap.get? b = some o → h'.get? b = some o := fun b o hm hb q => by
  rcases F.mine b hm with z | ⟨ob, z⟩
  ·exact absurd z hb
  ·have := F.fly.1 b ob z
   rw [q] at this
   cases this
   exact fl.1 b o z
 have any' : ∀ b o, Mine X pins b → s.heap.get? b = some o → ∃ sl, h'.get? b = some { o with slots := sl } := fun b o hm q => by
  by_cases hb : b ∈ frs X.stack
  ·exact slotF b o hb q
  ·exact ⟨o.slots, at' b o hm hb q⟩
 have cellK : ∀ y c, X.env.cells.lookup y = some c → ∀ v, s.heap.IsCell c v → h'.IsCell c v := fun y c e v ⟨o, ho, hd⟩ => by
  obtain ⟨sl, q⟩ := any' c o (.inr (.inr (.inl ⟨y, e⟩))) ho
  exact ⟨_, q, hd⟩
 refine ⟨I.ok, I.os, I.bare, ⟨fun b o e n hb hx => ?_, fun b o e n hb hx => ?_, I.base.free, fun b o e hx => ?_, I.base.tups, I.base.frzs, I.base.tbls⟩, ?_, fun y c e => ?_, I.free, I.freeC, fun p hp => ?_, z9h F.fly.1 fl.1 F.tr I.hok, I.len⟩
 ·have q := I.base.keep b o e n hb hx
  by_cases hf : b ∈ frs X.stack
  ·rcases List.mem_cons.mp (I.stkSub b hf) with z | z
   ·exact absurd (Nat.lt_of_lt_of_le (Heap.lt_size e) I.ok.above) (by rw [z]; exact Nat.lt_irrefl _)
   ·exact absurd z hb
  ·exact at' b o (.inl ⟨o, e⟩) hf q
 ·obtain ⟨sl, q⟩ := I.base.slot b o e n hb hx
  obtain ⟨sl', q'⟩ := any' b _ (.inl ⟨o, e⟩) q
  exact ⟨sl', q'⟩
 ·obtain ⟨o', q⟩ := I.base.there b o e hx
  obtain ⟨sl', q'⟩ := any' b _ (.inl ⟨o, e⟩) q
  exact ⟨_, q'⟩
 ·obtain ⟨m, ⟨o, es, ep, ho, r⟩, hl⟩ := I.loc
  obtain ⟨sl, q⟩ := any' _ o (.inr (.inl rfl)) ho
  refine ⟨m, ⟨_, es, ep, q, r⟩, fun i y v e1 e2 e3 => ?_⟩
  obtain ⟨u, ru, l⟩ := hl i y v e1 e2 e3
  refine ⟨u, ru, ?_⟩
  rcases l with l | ⟨k, c, e, z⟩
  ·exact .inl l
  ·exact .inr ⟨k, c, e, cellK y c e _ z⟩
 ·obtain ⟨v, z⟩ := I.cell y c e
  exact ⟨v, cellK y c e v z⟩
 ·obtain ⟨e, n, ne, nf, d⟩ := I.pin p hp
  refine ⟨?_, n, ne, nf, d⟩
  by_cases hf : p.1 ∈ frs X.stack
  ·rcases List.mem_cons.mp (I.stkSub p.1 hf) with z | z
   ·exact absurd z ne
   ·exact absurd z nf
  ·exact at' p.1 p.2 (.inr (.inr (.inr ⟨p, hp, rfl⟩))) hf e
end L2
end
section
namespace L2
open PySem PySem.Spec PyProof.Rows
abbrev TEX := St → Hp → VK → XK → Prop
def PEX (X : Cx) (e : Expr) (t : TEX) : Prop :=
 ∀ (pins : List (Addr × Obj)) (s : Shared) (σ : St) (H : Hp) (Q : VK) (Ex : XK), Inv X pins σ H s → t σ H Q Ex → wpAny (model X.prog X.w) X.A (eval e X.env) (EP X pins σ Q) (XP X pins σ Ex) s
abbrev TSX := Ends → XK → St → Hp → Prop
def PSX (X : Cx) (st : Stmt) (t : TSX) : Prop :=
 ∀ (pins : List (Addr × Obj)) (s : Shared) (σ : St) (H : Hp) (D : Ends) (Ex : XK), Inv X pins σ H s → t D Ex σ H → wpAny (model X.prog X.w) X.A (exec st X.env) (SP X pins D) (XP X pins σ Ex) s
section
variable {X : Cx} {k : Nat} {C : Addr} {m : Str} {ps : List Str} {sp : Sp} {o e : Expr} {es : List Expr} {ta : TE} {t : TA} {tx : TEX} {apos pos : Pos}
theorem zjq {pins : List (Addr × Obj)} {σ : St} {H : Hp} {s : Shared} {Q : VK} {Ex : XK} {us : List Value} {vs : List V} {f : Addr} {fd : FuncData} (hx : X.ex = []) (F : FnOk X.prog X.w X.K X.mg X.base (CX1 X.prog X.w) k f fd ps sp) (hr : Room k X.A) (hb : Binds X.K fd ps [])
  (I : Inv X pins σ H s) (r : Vals vs us) (h : sp vs H Q Ex) : wpAny (model X.prog X.w) X.A (call (.ref f) us) (EP X pins σ Q) (XP X pins σ Ex) s := by
 have hl : (us ++ []).length = ps.length := by rw [List.append_nil, ← r.length]; exact F.len _ _ _ _ h
 have hB := hb s us I.kIn hl
 rw [List.append_nil] at hB
 refine wpAny_call (codeAny_mono (F.run X.A X.stack s H ⟨us, []⟩ us vs Q Ex hr I.env0 hB r h) fun res s' hq => ?_)
 cases res with
 | error e => exact zjp hx I hq
 | ok fl =>
  cases fl with
  | ret u => exact I.after hq
  | next => exact hq.elim
  | brk => exact hq.elim
  | cont => exact hq.elim
def zfp (C : Addr) (m : Str) (sp : Sp) (ta : TE) (t : TA) : TEX := fun σ H Q Ex => ta σ H fun x H1 => ∃ a dx fs, x = .ref a ∧ H1 a = some (.ins C dx fs) ∧ fs.lookup m = none ∧ t σ H1 fun vs H2 => sp (x :: vs) H2 Q Ex
theorem zjr {pl : Sem Bool} (G : MHas X.prog X.w X.K X.mg X.base (CX1 X.prog X.w) k C m ps sp) (c : Cls X.K C) (hr : Room k X.A) (he : PE X.nox o ta) (ha : PA X.nox (e :: es) t) (hx : X.ex = [] := by rfl)
  (hst : starEach (e :: es) X.env = (false, eval e X.env) :: starEach es X.env := by rfl) (hpl : (backTo pos (starEach es X.env)).any (·.1) = false := by rfl)
  (ht : eval (.Call (.Attribute o m apos) (e :: es) [] pos) X.env = (do
   let ov ← eval o X.env
   standAt apos.atName
   let (f, first) ← holding [ov] (getMethod ov m pl)
   callWith pos f first (backTo pos (starEach (e :: es) X.env)) (backToKw pos (keywordEach [] X.env))) := by rfl) :
  PEX X (.Call (.Attribute o m apos) (e :: es) [] pos) (zfp C m sp ta t) := by
 obtain ⟨f, fd, F, hm, hb⟩ := G
 intro pins s σ H Q Ex I h
 refine PySem.W.methodCall_KW (pl := pl) (wpAny_mono (he pins s σ H _ (I.wish _) h) (fun u s1 hq => ?_) fun _ _ z => z.elim) ht
 obtain ⟨x, H1, I1, rx, a, dx, fs, ex, ea, l, q⟩ := hq
 have I1 := I1.unwish
 subst ex
 obtain rfl : u = Value.ref a := rx
 refine z5o I1 ea c hm l ?_
 refine PySem.W.callWith_K (first := [.ref a]) (h₀ := X.base) I.ok.mod.kin hm.kp (wpAny_mono (ha pos pins s1 σ H1 _ (I1.wish _) q) (fun us s2 hq2 => ?_) fun _ _ z => z.elim) hst hpl
 obtain ⟨vs, H2, I2, r, q2⟩ := hq2
 have I2 := I2.unwish
 exact ⟨I2.kIn, zjq (us := .ref a :: us) (vs := .ref a :: vs) hx F hr hb I2 (.cons rfl r) q2⟩
theorem ziq (h : PEX X e tx) : PSX X (.Return (some e) pos) (fun D Ex σ H => tx σ H D.rt Ex) := by
 intro pins s σ H D Ex I hw
 refine wpAny_Return_some (wpAny_mono (h pins s σ H _ Ex I hw) (fun v s1 hq => ?_) fun _ _ z => z)
 obtain ⟨x, H1, I1, r1, q1⟩ := hq
 exact ⟨x, σ, H1, I1, r1, q1⟩
end
abbrev z6n (X : Cx) (ev : Value) : Cx := { X with A := X.A.mark (some ev), calm := false, xe := fun _ _ => False }
theorem Inv.mark {X : Cx} {pins : List (Addr × Obj)} {σ : St} {H : Hp} {s : Shared} (I : Inv X pins σ H s) (ev : Value) : Inv (z6n X ev) pins σ H s :=
 ⟨⟨I.ok.mod, I.ok.kind, I.ok.glob, I.ok.blt, I.ok.above, I.ok.inj, I.ok.has, I.ok.cab, fun z => absurd z Bool.false_ne_true, I.ok.frames, I.ok.stk, I.ok.exf, I.ok.bs, I.ok.bsz, I.ok.noex, I.ok.exfs, I.ok.funs, I.ok.frf⟩, I.os, I.bare, I.base, I.loc, I.cell, I.free, I.freeC, I.pin, I.hok, I.len⟩
theorem Inv.unmark {X : Cx} {ev : Value} {pins : List (Addr × Obj)} {σ : St} {H : Hp} {s : Shared} (ok : X.Ok) (I : Inv (z6n X ev) pins σ H s) : Inv X pins σ H s :=
 ⟨ok, I.os, I.bare, I.base, I.loc, I.cell, I.free, I.freeC, I.pin, I.hok, I.len⟩
theorem SP.unmark {X : Cx} {ev : Value} {pins : List (Addr × Obj)} {D : Ends} {f : Flow} {s' : Shared} (ok : X.Ok) (h : SP (z6n X ev) pins D f s') : SP X pins D f s' := by
 cases f with
 | next => obtain ⟨σ', H', I, q⟩ := h; exact ⟨σ', H', I.unmark ok, q⟩
 | brk => obtain ⟨σ', H', I, q⟩ := h; exact ⟨σ', H', I.unmark ok, q⟩
 | cont => obtain ⟨σ', H', I, q⟩ := h; exact ⟨σ', H', I.unmark ok, q⟩
 | ret u => obtain ⟨v, σ', H', I, r, q⟩ := h; exact ⟨v, σ', H', I.unmark ok, r, q⟩
theorem zfq {K : PySem.W.Frag} {prog : Program} {w : World} {A : Around} {E : Value → Shared → Prop} {s : Shared} {x C D : Addr} {oe : Obj} {b : Bool} {bmB : List Value} {nid : String} {Q : Bool → Shared → Prop} (kx : K.In s.heap) (he : s.heap.get? x = some oe) (hc : oe.cls = .ref C)
  (exD : PySem.W.excIn K D bmB nid = true) (hb : bmB.contains (.type "BaseException") = true) (sb : PySem.W.subIn K (.ref C) (.ref D) = some b) (hq : Q b s) : wpAny (model prog w) A (excMatches (.ref x) (.ref D)) Q E s := by
 obtain ⟨bm, N, nm, qn, bs, hd, sn, sub, ab, col, dd, k0, k1, k2, k3, k5, mN, hD, hN, hni, T⟩ := zda kx exD
 have lk := PySem.W.looks_subIn (M := model prog w) kx sb
 obtain ⟨hp, g, d, tk, os⟩ := s
 have inB : (Value.ref D :: bm).contains (.type "BaseException") = true := by rw [List.contains_cons, T.hasType hb, Bool.or_true]
 have nt := tc_notTuple
 have fin : wpAny (model prog w) A (isSubtype (.ref C) (.ref D)) (fun r s' => Q r s') E ⟨hp, g, d, tk, os⟩ := lk A _ _ _ (fun _ _ z => z) hq
 unfold excMatches
 repeat (first
  | (with_reducible refine wpAny_loadPart_at he ?_; rw [hc])
  | with_reducible refine wpAny_loadPart_at hD ?_
  | (with_reducible refine wpAny_isSubtype_exc hD ?_; rw [inB])
  | wp_step)
 refine lk _ _ _ _ (fun _ _ z => z) ?_
 cases b <;> (wp_walk; exact hq)
abbrev TH := Value → Ends → St → Hp → Prop
def PH (X : Cx) (hs : List ExceptHandler) (th : TH) : Prop :=
 ∀ (pins : List (Addr × Obj)) (s : Shared) (σ : St) (H : Hp) (D : Ends) (x C t : Addr) (B : Heap), Fly X pins σ H s x C t B → th (.ref C) D σ H → wpAny (model X.prog X.w) X.A (handleBy (.ref x) X.env hs) (SP X pins D) X.xe s
def zfr : TH := fun _ _ _ _ => False
theorem zjs {X : Cx} : PH X [] zfr := fun _ _ _ _ _ _ _ _ _ _ h => h.elim
def zi3 (K : PySem.W.Frag) (D : Addr) (tb : TS) (th : TH) : TH := fun cls En σ H => ∃ b, PySem.W.subIn K cls (.ref D) = some b ∧ if b = true then tb En σ H else th cls En σ H
theorem zir {X : Cx} {cn : Str} {D : Addr} {b0 : Stmt} {suite : List Stmt} {rest : List ExceptHandler} {np hpos : Pos} {tb : TS} {th : TH} {bmB : List Value} {nid : String} (hg : Gl X cn) (hm : X.mg cn = some (.ref D)) (ex : PySem.W.excIn X.K D bmB nid = true) (hb : bmB.contains (.type "BaseException") = true)
  (hs : ∀ ev, PSs (z6n X ev) (b0 :: suite) tb) (hr : PH X rest th) (hdb : (cn == ("__debug__" : Str)) = false := by decide) : PH X (.ExceptHandler (some (.Name cn np)) none (b0 :: suite) hpos :: rest) (zi3 X.K D tb th) := by
 intro pins s σ H En x C t B F h
 obtain ⟨b, sb, h⟩ := h
 have I := F.inv
 obtain ⟨oe, hoe, hcl⟩ := F.fly.there
 refine wpAny_handleBy_cons (codeAny_handlers_test (z5d (X := z6n X (.ref x)) (I.mark _) hg hm ?_ hdb)) (by intro q; cases q)
 refine zfq I.kIn hoe hcl ex hb sb ?_
 cases b with
 | false => exact hr pins s σ H En x C t B F h
 | true =>
  refine codeAny_handlers_suite (lands_againW F.fly fun h2 fl2 up2 => ?_)
  have F2 := F.on fl2 up2
  refine wpAny_mono (hs (.ref x) pins _ σ H En (F2.inv.mark _) h) (fun f s3 q => ?_) fun _ _ z => z.elim
  exact q.unmark I.ok
def tTry (t : TSX) (th : TH) : TS := fun D σ H => t D (fun cls _ H' => th cls D σ H') σ H
theorem zjt {X : Cx} {st : Stmt} {h0 : ExceptHandler} {hs : List ExceptHandler} {pos : Pos} {t : TSX} {th : TH} (hb : PSX X st t) (hh : PH X (h0 :: hs) th) (s1 : X.stack = X.env :: X.outer := by rfl) (s2 : X.env.frame = some X.env.locals := by rfl) :
  PS X (.Try [st] (h0 :: hs) [] [] pos) (tTry t th) := by
 intro pins s σ H D I h
 refine wpAny_Try_except (wpAny_execs_cons (wpAny_mono (hb pins s σ H D _ I h) (fun f s3 q => ?_) fun ev s3 q => ?_))
 ·cases f with
  | next => exact wpAny_execs_nil (wpAny_execs_nil q)
  | ret v => exact q
  | brk => exact q
  | cont => exact q
 ·obtain ⟨x, C, t', B, H', rfl, F, hx⟩ := q
  have fl := F.fly
  rw [s1] at fl
  refine wpAny_looks_onW (by rw [← s1]; exact I.ok.frames) s2 fl fun h4 held up4 => ?_
  refine wpAny_landsW held fun h5 fl5 up5 => ?_
  rw [← s1] at fl5
  exact hh pins _ σ H' D x C t' B (F.on fl5 (up4.trans up5)) hx
end L2
end
section
namespace L2
open PySem PySem.Spec PyProof.Rows
section
variable {X : Cx}
theorem z8p : OpR X (binaryOp .Mult) (fun x y H Q => ∃ z n, x = .str z ∧ y = .int n ∧ MulOk z n ∧ Q (.str (Txt.mul z n)) H) := by
 intro pins s σ H x y v u Q I rx ry h
 obtain ⟨z, n, rfl, rfl, hok, q⟩ := h
 obtain ⟨t, rfl⟩ := rx
 obtain ⟨t', rfl⟩ := ry
 exact SB.mul hok fun t2 k => ⟨.str _, H, I.tok _, ⟨_, rfl⟩, q⟩
theorem zh6 : MtR X "str.count" (fun x vs H Q => ∃ z y, x = .str z ∧ vs = [.str y] ∧ Q (.int (Txt.count z y)) H) := by
 intro pins s σ H x vs v us Q I rx rv h
 obtain ⟨z, y, rfl, rfl, q⟩ := h
 obtain ⟨t, rfl⟩ := rx
 obtain ⟨u, rfl, t', rfl⟩ := rv.one
 exact SC.count ⟨.int _, H, I.tok _, ⟨_, rfl⟩, q⟩
theorem zbn (hu : X.A.units < cLine) : OpR X (compareOp .Eq) (fun x y H Q => ∃ p q xs, x = .ref p ∧ y = .ref q ∧ SqL X.K H p xs ∧ SqL X.K H q [] ∧ Q (.bl xs.isEmpty) H) := by
 intro pins s σ H x y v u Q I rx ry h
 obtain ⟨p, q, xs, rfl, rfl, hp, hq, hQ⟩ := h
 cases rx
 cases ry
 obtain ⟨us, r1, p1, _⟩ := I.list hp
 obtain ⟨ws, r2, p2, _⟩ := I.list hq
 have l1 := r1.length
 cases r2
 cases xs with
 | nil =>
  cases r1
  exact SeqAt.eq_listAt (e := fun _ => true) p1.isList p2.isList rfl hu (fun j h1 h2 => absurd h1 (Nat.not_lt_zero _)) (z12 I hQ rfl)
 | cons a xs => exact SeqAt.eq_list_lengthsAt p1.isList p2.isList (by simp only [List.size_toArray, bne_iff_ne]; rw [← l1]; simp) hu (z12 I hQ rfl)
theorem ze9 {A : Around} {E : Value → Shared → Prop} {Q : Value → Shared → Prop} {pins : List (Addr × Obj)} {σ : St} {H : Hp} {s : Shared} {x : V} {u t : Value} {tp : Addr} {its : List Value} {b : Bool} (I : Inv X pins σ H s) (rx : RelV x u) (ty : TyOf X.K H x t) (ht : IsTup s.heap tp its.toArray)
  (e : PySem.W.kitAny X.K t its = some b) (h : ∀ tk, Q (.bool b) { s with toks := tk }) : wpAny (model X.prog X.w) A (call (.builtin "isinstance") [u, .ref tp]) Q E s := by
 obtain ⟨⟨c0, dd, dt, sl⟩, e0, hc0, n0, hd0⟩ := ht
 simp only at hc0 hd0
 subst hc0 hd0
 cases ty with
 | non => cases (show u = Value.none from rx); exact PySem.W.kia_tup PySem.W.kitx_none I.kIn True.intro e0 e (fun z => nomatch z) h
 | bl y => cases (show u = Value.bool y from rx); exact PySem.W.kia_tup PySem.W.kitx_bool I.kIn True.intro e0 e (fun z => nomatch z) h
 | int i => obtain ⟨t, q⟩ := (show ∃ t, u = Value.int i t from rx); cases q; exact PySem.W.kia_tup PySem.W.kitx_int I.kIn True.intro e0 e (fun z => nomatch z) h
 | str y => obtain ⟨t, q⟩ := (show ∃ t, u = Value.str y t from rx); cases q; exact PySem.W.kia_tup PySem.W.kitx_str I.kIn True.intro e0 e (fun z => nomatch z) h
 | flt y => obtain ⟨t, q⟩ := (show ∃ t, u = Value.float y t from rx); cases q; exact PySem.W.kia_tup PySem.W.kitx_float I.kIn True.intro e0 e (fun z => nomatch z) h
 | @lst a xs ea =>
  cases (show u = Value.ref a from rx)
  obtain ⟨_, _, n, _, h1⟩ := (show ObjOk X.prog X.w H s.heap a (.lst xs) from I.hok a _ ea)
  exact PySem.W.kia_tup PySem.W.kitx_list I.kIn ⟨_, h1, rfl⟩ e0 e (fun z => nomatch z) h
 | @tup a xs ea =>
  cases (show u = Value.ref a from rx)
  obtain ⟨_, _, _, p⟩ := (show ObjOk X.prog X.w H s.heap a (.tup xs) from I.hok a _ ea)
  obtain ⟨o, h1, h2, _⟩ := p
  exact PySem.W.kia_tup PySem.W.kitx_tuple I.kIn ⟨o, h1, h2⟩ e0 e (fun z => nomatch z) h
 | @frz a ob xs ea =>
  cases (show u = Value.ref a from rx)
  obtain ⟨_, _, _, n, _, h1⟩ := (show ObjOk X.prog X.w H s.heap a (.frz ob (.lst xs)) from I.hok a _ ea)
  exact PySem.W.kia_tup PySem.W.kitx_list I.kIn ⟨_, h1, rfl⟩ e0 e (fun z => nomatch z) h
 | @dK a kvs ea =>
  cases (show u = Value.ref a from rx)
  obtain ⟨_, _, vs, _, p⟩ := (show ObjOk X.prog X.w H s.heap a (.dK kvs) from I.hok a _ ea)
  obtain ⟨o, es, ep, h1, h2, _⟩ := p
  exact PySem.W.kia_tup PySem.W.kitx_dict I.kIn ⟨o, h1, h2.1⟩ e0 e (fun z => nomatch z) h
 | @dT a kvs ea =>
  cases (show u = Value.ref a from rx)
  obtain ⟨_, _, xs, _, o, es, ep, h1, h2, _⟩ := (show ObjOk X.prog X.w H s.heap a (.dT kvs) from I.hok a _ ea)
  exact PySem.W.kia_tup PySem.W.kitx_dict I.kIn ⟨o, h1, h2.1⟩ e0 e (fun z => nomatch z) h
 | @ins a C dx fs ea cl ha hn htk hm =>
  cases (show u = Value.ref a from rx)
  obtain ⟨mA, O, _⟩ := z5e I.hok ea
  obtain ⟨od, J, _⟩ := O.look
  exact PySem.W.kia_tup (PySem.W.kitx_own (cl.get _) cl.hd ha hn htk hm) I.kIn J e0 e (fun z => nomatch z) h
theorem z6o : CallR X (.builtin "isinstance") (fun xs H Q => ∃ x p c d t b, xs = [x, .ref p] ∧ SqT X.K H p [.ty c, .ty d] ∧ TyOf X.K H x t ∧ PySem.W.kitAny X.K t [.type c, .type d] = some b ∧ Q (.bl b) H) := by
 intro pins s σ H xs us Q I r h
 obtain ⟨x, p, c, d, t, b, rfl, hp, ty, e, q⟩ := h
 obtain ⟨u, w', rfl, r1, r2⟩ := zdu r
 cases r2
 obtain ⟨its, rv, pl, _⟩ := I.tuple hp
 obtain ⟨u1, u2, rfl, q1, q2⟩ := rv.two
 cases q1
 cases q2
 exact ze9 I r1 ty pl e fun tk => ⟨.bl b, H, I.tok _, rfl, q⟩
def KHas (P : Program) (w : World) (K : PySem.W.Frag) (mg : Str → Option Value) (base : Heap) (k : Nat) (C : Addr) (ps : List Str) (sp : Sp) : Prop :=
 ∃ f fd, FnOk P w K mg base CX0 k f fd ps sp ∧ Mk K C f ∧ Binds K fd ps []
theorem zis {k : Nat} {C : Addr} {x : Str} {ps : List Str} {sp : Sp} {p pos : Pos} (G : KHas X.prog X.w X.K X.mg X.base k C ps sp) (hr : Room (k + 1) X.A) (hg : Gl X x) (hm : X.mg x = some (.ref C)) (hdb : (x == ("__debug__" : Str)) = false := by decide) : PE X (.Call (.Name x p) [] [] pos) (z8h C sp [] E0 tNil) := by
 obtain ⟨f, fd, F, M, hb⟩ := G
 exact zh2 M F hr hg hm hb .nil z8k hdb
end
def KDef (K : PySem.W.Frag) (C : Addr) (qual : Str) (st : Stmt) (ps : List Str) : Prop := ∃ f fd, Fun K "__init__" qual st f fd ∧ Mk K C f ∧ Binds K fd ps []
theorem KDef.ok {P : Program} {w : World} {K : PySem.W.Frag} {mg : Str → Option Value} {base : Heap} {C : Addr} {qual : Str} {st : Stmt} {N ps : List Str} {k : Nat} {sp : Sp} (D : KDef K C qual st ps) (S : FnScope N ps (zf st)) (len : ∀ vs H Q E, sp vs H Q E → vs.length = ps.length)
  (hbody : ∀ (f : Addr) (cdv : Value) (A : Around) (outer : List Env) (s : Shared) (H : Hp) (vs : List V) (Q : VK) (E : XK), Room k (A.deeper (envOfC qual (zf st) s.heap.objs.size f cdv)) → sp vs H Q E →
   ∃ t, PSs (cxOf CX0 P w K mg base N qual (zf st) f cdv A outer s H E).nox (z1q st) t ∧ t { nx := fun _ H' => Q .non H', rt := Q } (start N vs) H) : KHas P w K mg base (k + 1) C ps sp := by
 obtain ⟨f, fd, F, hm, hb⟩ := D
 exact ⟨f, fd, F.ok S len (fun cdv A outer s H vs Q E hr h => hbody f cdv A outer s H vs Q E hr h), hm, hb⟩
def zdb : Sp := fun _ _ _ _ => False
theorem zfs {P : Program} {w : World} {K : PySem.W.Frag} {mg : Str → Option Value} {base : Heap} {x : Str} {st : Stmt} {ps : List Str} {k : Nat} (D : Def K mg x st ps) : Has P w K mg base k x ps zdb := by
 obtain ⟨f, fd, F, hm, hb⟩ := D
 refine ⟨f, fd, ⟨fun _ _ _ _ h => h.elim, fun _ _ _ _ _ _ _ _ _ _ _ _ _ h => h.elim⟩, hm, F.kp, hb, ?_⟩
 obtain ⟨oc, od, kV, doc, pm, an, cdv, ct, osl, rfl, lk, hcd⟩ := F.ex
 exact ⟨oc, od, osl, lk⟩
theorem z6a (K : PySem.W.Frag) : PySem.W.kitOne K (.type "list") (.type "list") = some true := by with_unfolding_all rfl
theorem z1c (K : PySem.W.Frag) : PySem.W.kitOne K (.type "int") (.type "int") = some true ∧ PySem.W.kitOne K (.type "bool") (.type "int") = some true ∧ PySem.W.kitOne K (.type "str") (.type "int") = some false ∧ PySem.W.kitOne K (.type "str") (.type "str") = some true ∧ PySem.W.kitOne K (.type "int") (.type "str") = some false ∧
  PySem.W.kitOne K (.type "str") (.type "bool") = some false ∧ PySem.W.kitOne K (.type "tuple") (.type "tuple") = some true ∧ PySem.W.kitOne K (.type "tuple") (.type "list") = some false ∧ PySem.W.kitOne K (.type "list") (.type "tuple") = some false := by
 refine ⟨?_, ?_, ?_, ?_, ?_, ?_, ?_, ?_, ?_⟩ <;> with_unfolding_all rfl
theorem z3g (K : PySem.W.Frag) : PySem.W.kitAny K (.type "int") [.type "list", .type "tuple"] = some false ∧ PySem.W.kitAny K (.type "bool") [.type "list", .type "tuple"] = some false ∧ PySem.W.kitAny K (.type "str") [.type "list", .type "tuple"] = some false ∧
  PySem.W.kitAny K (.type "list") [.type "list", .type "tuple"] = some true ∧ PySem.W.kitAny K (.type "tuple") [.type "list", .type "tuple"] = some true := by
 refine ⟨?_, ?_, ?_, ?_, ?_⟩ <;> with_unfolding_all rfl
theorem Has.or {P : Program} {w : World} {K : PySem.W.Frag} {mg : Str → Option Value} {base : Heap} {k k' n : Nat} {x : Str} {ps : List Str} {sp sp' : Sp} (G : Has P w K mg base k x ps sp) (G' : Has P w K mg base k' x ps sp') (h1 : k ≤ n) (h2 : k' ≤ n) : Has P w K mg base n x ps (fun vs H Q E => sp vs H Q E ∨ sp' vs H Q E) := by
 obtain ⟨f, fd, F, hm, hk, hb, oc, od, osl, lk⟩ := G
 obtain ⟨f', fd', F', hm', hk', hb', oc', od', osl', lk'⟩ := G'
 have e := hm.symm.trans hm'
 cases e
 rw [lk] at lk'
 have e2 := Option.some.inj lk'
 injection e2 with _ _ e3 _
 injection e3 with e4
 subst e4
 refine ⟨f, fd, ⟨fun vs H Q E h => h.elim (F.len vs H Q E) (F'.len vs H Q E), fun A outer s H args us vs Q E hr he hB hv hs => ?_⟩, hm, hk, hb, oc, od, osl, lk⟩
 rcases hs with hs | hs
 ·exact (F.mono h1).run A outer s H args us vs Q E hr he hB hv hs
 ·exact (F'.mono h2).run A outer s H args us vs Q E hr he hB hv hs
section
variable {X : Cx} {K : PySem.W.Frag}
theorem z1w (h : X.K = K := by rfl) : IxR X (rIxT K) := h ▸ ix_tup
theorem zan (h : X.K = K := by rfl) : IxR X (rIxL K) := h ▸ ix_list
theorem z3r (h : X.K = K := by rfl) : IxR X (rIx K) := h ▸ zjj
theorem zh7 (hu : X.A.units < cLine) (h : X.K = K := by rfl) : OpR X (compareOp .NotEq) (rEqT K true) := h ▸ zjm hu
theorem zbo {e : Expr} {ta : TE} {f : Str} {pos : Pos} (he : PE X e ta) (hb : attributeBase e f X.env (eval e X.env) = eval e X.env) (h : X.K = K := by rfl) : PE X (.Attribute e f pos) (tFld K ta f) := h ▸ z26 he hb
end
end L2
end
section
namespace L2
open PySem PySem.Spec PyProof.Rows
end L2
namespace L2
open PySem PySem.Spec PyProof.Rows
section
variable (P : Program) (w : World)
end
section
variable {P : Program} {w : World} {H H' : Hp} {h h' : Heap} {a : Addr} {o : HO}
end
section
variable {P : Program} {w : World} {H : Hp} {h h' : Heap} {x e : Addr} {o' : HO}
end
section
variable {fs fs' ex ex' : List Addr} {H H1 H2 : Hp} {h h1 h2 h' : Heap} {a x e : Addr} {o : HO}
end
end L2
namespace L2
open PySem PySem.Spec PyProof.Rows
section
variable {X : Cx} {pins : List (Addr × Obj)} {σ : List (Option V)} {H H' : Hp} {s : Shared} {h' : Heap}
end
end L2
namespace L2
open PySem PySem.Spec PyProof.Rows
section
variable {X : Cx}
variable {a b : Expr} {ta tb : TE} {pos : Pos}
variable {tA tB' : TT} {rest : List Expr}
end
end L2
namespace L2
open PySem PySem.Spec PyProof.Rows
section
variable {X : Cx} {pins : List (Addr × Obj)} {σ : St} {H : Hp} {s : Shared} {a : Addr} {xs ys : List V}
end
section
variable {X : Cx} {pins : List (Addr × Obj)} {σ : St} {H : Hp} {s : Shared} {E : Value → Shared → Prop}
end
section
variable {X : Cx} {st : Stmt} {rest : List Stmt} {t u : TS} {e : Expr} {te : TE} {pos : Pos}
end
section
variable {X : Cx} {pos : Pos}
end
section
variable {X : Cx} {pos : Pos}
end
end L2
namespace L2
open PySem PySem.Spec PyProof.Rows
section
variable {X : Cx} {tg : Expr}
end
end L2
namespace L2
open PySem PySem.Spec PyProof.Rows
section
variable {X : Cx} {a b c : Expr} {ta tb tc : TE} {pos : Pos}
end
section
variable {X : Cx} {a b c : Expr} {ta tb tc : TE} {pos : Pos}
end
end L2
namespace L2
open PySem PySem.Spec PyProof.Rows
section
variable {prog : Program} {w : World} {A : Around} {E : Value → Shared → Prop} {s : Shared} {K : PySem.W.Frag} {x dx C f : Addr} {mA : Str → Option Value} {name : Str} {v : Value}
end
section
variable {P : Program} {w : World} {H H' : Hp} {h h' : Heap} {a C dx : Addr} {fs fs' : List (Str × V)}
end
section
variable {X : Cx} {pins : List (Addr × Obj)} {σ : St} {H : Hp} {s : Shared} {a C dx : Addr} {fs : List (Str × V)} {f : Str} {v : V} {A : Around} {E : Value → Shared → Prop}
end
section
variable {X : Cx} {o e value : Expr} {f : Str} {pos pos' tpos : Pos} {ta tv : TE}
end
section
variable {X : Cx} {pins : List (Addr × Obj)} {σ : St} {H : Hp} {s : Shared} {A : Around} {E : Value → Shared → Prop} {Q : Value → Shared → Prop} {c : Value} {b : Bool}
end
end L2
namespace L2
open PySem PySem.Spec PyProof.Rows
section
variable {X : Cx} {e : Expr} {es : List Expr} {te : TE} {t : TA} {pos : Pos}
end
section
variable {X : Cx} {pins : List (Addr × Obj)} {σ : St} {H : Hp} {s s' : Shared}
end
section
variable {X : Cx} {CX : CXT} {k : Nat} {f C : Addr} {fd : FuncData} {ps : List Str} {sp : Sp} {dvs : List V} {ds : List Value} {E : XK} {x m : Str} {p pos apos : Pos} {e o : Expr} {es : List Expr} {ta : TE} {t : TA}
end
section
variable {X : Cx} {CX : CXT} {k : Nat} {f C : Addr} {fd : FuncData} {ps ks : List Str} {sp : Sp} {E : XK} {x m : Str} {p pos apos kpos : Pos} {e o : Expr} {es : List Expr} {kws : List Keyword} {te ta : TE} {t tk : TA} {nm : Option Str}
variable {g : List Value → List Value → List Value} {gV : List V → List V → List V}
end
end L2
namespace L2
open PySem PySem.Spec PyProof.Rows
section
variable {X : Cx} {x : Str} {p pos : Pos} {e : Expr} {es : List Expr} {t : TA} {id T : String} {r : List V → Hp → VK → Prop}
end
end L2
namespace L2
open PySem PySem.Spec PyProof.Rows
section
variable {κ : Type} [DecidableEq κ]
def valV (kvs : List (κ × V)) (k : κ) : Option V := (kvs.find? fun kv => decide (kv.1 = k)).map (·.2)
def putK (kvs : List (κ × V)) (k : κ) (v : V) : List (κ × V) :=
 if (kvs.any fun kv => decide (kv.1 = k)) = true then kvs.map (fun kv => if kv.1 = k then (kv.1, v) else kv) else kvs ++ [(k, v)]
def zi4 (kvs : List (κ × V)) (k : κ) : List (κ × V) := kvs.filter fun kv => decide (kv.1 ≠ k)
theorem z81 {p : κ × V} {r : List (κ × V)} {k : κ} (e : p.1 = k) : valV (p :: r) k = some p.2 := by simp [valV, List.find?_cons, e]
theorem z82 {p : κ × V} {r : List (κ × V)} {k : κ} (e : ¬ p.1 = k) : valV (p :: r) k = valV r k := by simp [valV, List.find?_cons, e]
theorem zbp (k : κ) : ∀ kvs : List (κ × V), (kvs.any fun kv => decide (kv.1 = k)) = (valV kvs k).isSome
 | [] => rfl
 | p :: r => by
  rw [List.any_cons]
  by_cases e : p.1 = k
  ·simp only [z81 e, decide_eq_true e, Bool.true_or, Option.isSome_some]
  ·rw [z82 e, decide_eq_false e, Bool.false_or]; exact zbp k r
theorem z55 (kvs : List (κ × V)) (k : κ) (v : V) : (putK kvs k v).length ≤ kvs.length + 1 := by
 unfold putK
 split
 ·rw [List.length_map]; omega
 ·rw [List.length_append, List.length_cons, List.length_nil]; omega
theorem RelO.isSome_eq {o : Option V} {u : Option Value} (r : RelO o u) : o.isSome = u.isSome := by
 cases o with
 | none => cases u with
  | none => rfl
  | some _ => exact (show False from r).elim
 | some _ => cases u with
  | none => exact (show False from r).elim
  | some _ => rfl
theorem RelO.getD {o : Option V} {u : Option Value} {d : V} {d' : Value} (r : RelO o u) (rd : RelV d d') : RelV (o.getD d) (u.getD d') := by
 cases o with
 | none => cases u with
  | none => exact rd
  | some _ => exact (show False from r).elim
 | some _ => cases u with
  | none => exact (show False from r).elim
  | some _ => exact r
theorem KV.val {kvs : List (κ × V)} {vs : List (κ × Value)} (r : KV kvs vs) (k : κ) : RelO (valV kvs k) (valueAt vs k) := by
 unfold KV at r
 induction r with
 | nil => exact True.intro
 | @cons p q ps qs h t ih =>
  obtain ⟨h1, h2⟩ := h
  by_cases e : p.1 = k
  ·have e' : q.1 = k := h1.symm.trans e
   have b : valueAt (q :: qs) k = some q.2 := by simp [valueAt, List.find?_cons, e']
   rw [z81 e, b]; exact h2
  ·have e' : ¬ q.1 = k := fun z => e (h1.trans z)
   have b : valueAt (q :: qs) k = valueAt qs k := by simp [valueAt, List.find?_cons, e']
   rw [z82 e, b]; exact ih
theorem KV.any {kvs : List (κ × V)} {vs : List (κ × Value)} (r : KV kvs vs) (k : κ) : (kvs.any fun kv => decide (kv.1 = k)) = vs.any fun kv => decide (kv.1 = k) := by
 unfold KV at r
 induction r with
 | nil => rfl
 | cons h t ih => rw [List.any_cons, List.any_cons, ih, h.1]
theorem KV.repl {kvs : List (κ × V)} {vs : List (κ × Value)} (r : KV kvs vs) (k : κ) {y : V} {u : Value} (ry : RelV y u) :
  KV (kvs.map fun kv => if kv.1 = k then (kv.1, y) else kv) (vs.map fun kv => if kv.1 = k then (kv.1, u) else kv) := by
 unfold KV at r ⊢
 induction r with
 | nil => exact .nil
 | @cons p q ps qs h t ih =>
  rw [List.map_cons, List.map_cons]
  refine .cons ?_ ih
  obtain ⟨h1, h2⟩ := h
  by_cases e : p.1 = k
  ·rw [if_pos e, if_pos (h1.symm.trans e)]; exact ⟨h1, ry⟩
  ·rw [if_neg e, if_neg (fun z => e (h1.trans z))]; exact ⟨h1, h2⟩
theorem KV.put {kvs : List (κ × V)} {vs : List (κ × Value)} (r : KV kvs vs) (k : κ) {y : V} {u : Value} (ry : RelV y u) : KV (putK kvs k y) (stored vs k u) := by
 unfold putK stored
 rw [r.any k]
 by_cases e : (vs.any fun kv => decide (kv.1 = k)) = true
 ·rw [if_pos e, if_pos e]; exact r.repl k ry
 ·rw [if_neg e, if_neg e]; exact Paired.snoc r ⟨rfl, ry⟩
theorem KV.drop {kvs : List (κ × V)} {vs : List (κ × Value)} (r : KV kvs vs) (k : κ) : KV (zi4 kvs k) (without vs k) := by
 unfold KV at r ⊢
 unfold zi4 without
 induction r with
 | nil => exact .nil
 | @cons p q ps qs h t ih =>
  obtain ⟨h1, h2⟩ := h
  rw [List.filter_cons, List.filter_cons]
  by_cases e : p.1 = k
  ·have a : ¬ decide (p.1 ≠ k) = true := by simp [e]
   have b : ¬ decide (q.1 ≠ k) = true := by simp [h1.symm.trans e]
   rw [if_neg a, if_neg b]; exact ih
  ·have e' : ¬ q.1 = k := fun z => e (h1.trans z)
   have a : decide (p.1 ≠ k) = true := by simp [e]
   have b : decide (q.1 ≠ k) = true := by simp [e']
   rw [if_pos a, if_pos b]; exact .cons ⟨h1, h2⟩ ih
theorem KV.keys {kvs : List (κ × V)} {vs : List (κ × Value)} (r : KV kvs vs) : kvs.map (·.1) = vs.map (·.1) := by
 unfold KV at r
 induction r with
 | nil => rfl
 | cons h t ih => rw [List.map_cons, List.map_cons, ih, h.1]
theorem KV.length {kvs : List (κ × V)} {vs : List (κ × Value)} (r : KV kvs vs) : kvs.length = vs.length := Paired.length r
end
theorem zb9 {P : Program} {w : World} {k : Key} {u : Value} (r : RelV (kV k) u) : (z1o P w).is k u = true := by
 cases k with
 | inl i => obtain ⟨t, e⟩ := (show ∃ t, u = Value.int i t from r); subst e; exact zcj P w i t
 | inr x => obtain ⟨t, e⟩ := (show ∃ t, u = Value.str x t from r); subst e; exact zck P w x t
theorem zao {P : Program} {w : World} : ∀ {ks : List Key} {us : List Value}, Vals (ks.map kV) us → ItemsAre (z1o P w) ks us
 | [], _, r => by rw [List.map_nil] at r; cases r; exact .nil
 | k :: ks, _, r => by
  rw [List.map_cons] at r
  cases r with
  | cons h t => exact .cons (zb9 h) (zao t)
abbrev KT (H : Hp) : List (List Key × V) → List (List Key × Addr × Value) → Prop := Paired fun p q => p.1 = q.1 ∧ H q.2.1 = some (.tup (p.1.map kV)) ∧ RelV p.2 q.2.2
theorem KT.val {H : Hp} {kvs : List (List Key × V)} {xs : List (List Key × Addr × Value)} (r : KT H kvs xs) (k : List Key) : RelO (valV kvs k) ((atKey xs k).map (·.2)) := by
 induction r with
 | nil => exact True.intro
 | @cons p q ps qs h t ih =>
  obtain ⟨h1, _, h2⟩ := h
  by_cases e : p.1 = k
  ·have e' : q.1 = k := h1.symm.trans e
   have b : atKey (q :: qs) k = some q.2 := by simp [atKey, List.find?_cons, e']
   rw [z81 e, b]; exact h2
  ·have e' : ¬ q.1 = k := fun z => e (h1.trans z)
   have b : atKey (q :: qs) k = atKey qs k := by simp [atKey, List.find?_cons, e']
   rw [z82 e, b]; exact ih
theorem KT.repl {H : Hp} {kvs : List (List Key × V)} {xs : List (List Key × Addr × Value)} (r : KT H kvs xs) (k : List Key) {y : V} {u : Value} (ry : RelV y u) :
  KT H (kvs.map fun kv => if kv.1 = k then (kv.1, y) else kv) (xs.map (putAt k u)) := by
 induction r with
 | nil => exact .nil
 | @cons p q ps qs h t ih =>
  rw [List.map_cons, List.map_cons]
  refine .cons ?_ ih
  obtain ⟨h1, h2, h3⟩ := h
  unfold putAt
  by_cases e : p.1 = k
  ·rw [if_pos e, if_pos (h1.symm.trans e)]; exact ⟨h1, h2, ry⟩
  ·rw [if_neg e, if_neg (fun z => e (h1.trans z))]; exact ⟨h1, h2, h3⟩
theorem KT.put {H : Hp} {kvs : List (List Key × V)} {xs : List (List Key × Addr × Value)} (r : KT H kvs xs) (k : List Key) {b : Addr} {y : V} {u : Value} (hb : H b = some (.tup (k.map kV))) (ry : RelV y u) :
  KT H (putK kvs k y) (storedH xs k b u) := by
 have e : (kvs.any fun kv => decide (kv.1 = k)) = (atKey xs k).isSome := by
  rw [zbp, (r.val k).isSome_eq, Option.isSome_map]
 unfold putK storedH
 rw [e]
 by_cases q : (atKey xs k).isSome = true
 ·rw [if_pos q, if_pos q]; exact r.repl k ry
 ·rw [if_neg q, if_neg q]; exact Paired.snoc r ⟨rfl, hb, ry⟩
theorem KT.keeps {H H' : Hp} {kvs : List (List Key × V)} {xs : List (List Key × Addr × Value)} (r : KT H kvs xs) (ht : ∀ b ys, H b = some (.tup ys) → H' b = some (.tup ys)) : KT H' kvs xs :=
 Paired.mapP r fun _ _ z => ⟨z.1, ht _ _ z.2.1, z.2.2⟩
section
variable {P : Program} {w : World} {H : Hp} {h : Heap} {a : Addr}
theorem zi5 {u : HO} (ok : HOk P w H h) (e : Rd H a u) : ObjOk P w H h a u := e.ok ok
theorem zea {kvs : List (Key × V)} (ok : HOk P w H h) (e : Rd H a (.dK kvs)) : kvs.length ≤ sizeLine ∧ (a == sysModules) = false ∧ ∃ vs, KV kvs vs ∧ h.DictOf (z1o P w) a vs :=
 show ObjOk P w H h a (.dK kvs) from zi5 ok e
theorem zi6 {kvs : List (Key × V)} (ok : HOk P w H h) (e : H a = some (.dK kvs)) : kvs.length ≤ sizeLine ∧ (a == sysModules) = false ∧ ∃ vs, KV kvs vs ∧ h.DictOf (z1o P w) a vs := zea ok (.inl e)
theorem zbq {ks : List Key} (ok : HOk P w H h) (e : H a = some (.tup (ks.map kV))) : (tupleKind (z1o P w)).is h ks a := by
 obtain ⟨_, its, r, o, h1, h2, n, h3⟩ := (show ObjOk P w H h a (.tup (ks.map kV)) from ok a _ e)
 exact ⟨o, its.toArray, n, h1, h2, h3, by simpa using zao r⟩
theorem zeb {kvs : List (List Key × V)} (ok : HOk P w H h) (e : Rd H a (.dT kvs)) : kvs.length ≤ sizeLine ∧ (a == sysModules) = false ∧
  ∃ xs, KT H kvs xs ∧ h.DictOfH (tupleKind (z1o P w)) a xs := by
 obtain ⟨z, y, xs, r, o, es, ep, h1, h2, h3, h4, h5⟩ := (show ObjOk P w H h a (.dT kvs) from zi5 ok e)
 refine ⟨z, y, xs, r, o, es, ep, h1, h2, h3, h4, fun x hx => ?_, h5⟩
 have all : ∀ {l : List (List Key × V)} {m : List (List Key × Addr × Value)}, KT H l m → ∀ x ∈ m, (tupleKind (z1o P w)).is h x.1 x.2.1 := by
  intro l m q
  induction q with
  | nil => intro x hx; exact nomatch hx
  | @cons p q ps qs hq t ih =>
   intro x hx
   rcases List.mem_cons.mp hx with e | hx
   ·subst e
    exact zbq ok (by rw [← hq.1]; exact hq.2.1)
   ·exact ih x hx
 exact all r x hx
theorem zk9 {kvs : List (List Key × V)} (ok : HOk P w H h) (e : H a = some (.dT kvs)) : kvs.length ≤ sizeLine ∧ (a == sysModules) = false ∧
  ∃ xs, KT H kvs xs ∧ h.DictOfH (tupleKind (z1o P w)) a xs := zeb ok (.inl e)
end
def DGet (H : Hp) (a : Addr) (y : V) (r : Option V) : Prop :=
 (∃ kvs k, Rd H a (.dK kvs) ∧ y = kV k ∧ r = valV kvs k) ∨ ∃ kvs k b, Rd H a (.dT kvs) ∧ y = .ref b ∧ H b = some (.tup (k.map kV)) ∧ r = valV kvs k
def DPut (H : Hp) (a : Addr) (y v : V) (H' : Hp) : Prop :=
 (∃ kvs k, H a = some (.dK kvs) ∧ y = kV k ∧ kvs.length < sizeLine ∧ H' = upd H a (.dK (putK kvs k v))) ∨
 ∃ kvs k b, H a = some (.dT kvs) ∧ y = .ref b ∧ H b = some (.tup (k.map kV)) ∧ kvs.length < sizeLine ∧ H' = upd H a (.dT (putK kvs k v))
theorem DGet.k {H : Hp} {a : Addr} {kvs : List (Key × V)} {k : Key} (e : H a = some (.dK kvs)) : DGet H a (kV k) (valV kvs k) := .inl ⟨kvs, k, .inl e, rfl, rfl⟩
theorem DGet.t {H : Hp} {a b : Addr} {kvs : List (List Key × V)} {k : List Key} (e : H a = some (.dT kvs)) (eb : H b = some (.tup (k.map kV))) : DGet H a (.ref b) (valV kvs k) := .inr ⟨kvs, k, b, .inl e, rfl, eb, rfl⟩
theorem DPut.k {H : Hp} {a : Addr} {kvs : List (Key × V)} {k : Key} {v : V} (e : H a = some (.dK kvs)) (hl : kvs.length < sizeLine) : DPut H a (kV k) v (upd H a (.dK (putK kvs k v))) := .inl ⟨kvs, k, e, rfl, hl, rfl⟩
theorem DPut.t {H : Hp} {a b : Addr} {kvs : List (List Key × V)} {k : List Key} {v : V} (e : H a = some (.dT kvs)) (eb : H b = some (.tup (k.map kV))) (hl : kvs.length < sizeLine) :
  DPut H a (.ref b) v (upd H a (.dT (putK kvs k v))) := .inr ⟨kvs, k, b, e, rfl, eb, hl, rfl⟩
section
variable {X : Cx} {pins : List (Addr × Obj)} {σ : St} {H : Hp} {s : Shared} {a : Addr} {y v : V} {u r : Value} {o : Option V} {A : Around} {E : Value → Shared → Prop}
theorem Inv.big (I : Inv X pins σ H s) : sysModules < s.heap.objs.size := by
 have h : mainGlobals < s.heap.objs.size := (I.mod.glob.keeps I.bk).lt
 exact Nat.lt_trans (by decide) h
theorem zft {Q : Value → Shared → Prop} (hu : A.units + 1 < cLine) (I : Inv X pins σ H s) (g : DGet H a y (some v)) (ry : RelV y u) (h : ∀ w' s', Inv X pins σ H s' → RelV v w' → Q w' s') :
  wpAny (model X.prog X.w) A (getItem (.ref a) u) Q E s := by
 rcases g with ⟨kvs, k, e, ey, l⟩ | ⟨kvs, k, b, e, ey, eb, l⟩
 ·subst ey
  obtain ⟨z, hd, vs, rel, dd⟩ := zea I.hok e
  obtain ⟨w', hw, rw'⟩ := RelO.some_of (v := v) (o := valueAt vs k) (by rw [l]; exact rel.val k)
  exact wpAny_getItem_of (zb9 ry) dd.mapOf hw (h w' _ (I.tok _) rw')
 ·subst ey
  cases (show u = Value.ref b from ry)
  obtain ⟨z, hd, xs, rel, dd⟩ := zeb I.hok e
  obtain ⟨w', hw, rw'⟩ := RelO.some_of (v := v) (o := (atKey xs k).map (·.2)) (by rw [l]; exact rel.val k)
  obtain ⟨p, hp, hp2⟩ := Option.map_eq_some_iff.mp hw
  refine wpAny_getItem_heap (tupleKind_room_in1 hu) (zbq I.hok eb) dd hp ?_
  rw [hp2]
  exact h w' _ (I.tok _) rw'
theorem z9i {h' : Heap} {t' : Nat} {ob : HO} (I : Inv X pins σ H s) (mu : Mut (H a)) (hs : Heap.SameBut a s.heap h') (he : ∃ q, h'.get? a = some q) (new : ObjOk X.prog X.w (upd H a ob) h' a ob) :
  Inv X pins σ (upd H a ob) { s with heap := h', toks := t' } :=
 I.write (x := a) (e := a) mu (.inl rfl) (fun b q hb z => (hs.2 b hb).trans z) he new
theorem zfu {P : Program} {w : World} {H' : Hp} {h' : Heap} {kvs : List (Key × V)} {vs : List (Key × Value)} (z : kvs.length ≤ sizeLine) (hd : (a == sysModules) = false) (rel : KV kvs vs) (dd : h'.DictOf (z1o P w) a vs) :
  ObjOk P w H' h' a (.dK kvs) := ⟨z, hd, vs, rel, dd⟩
theorem zfv {H' : Hp} {Q : Unit → Shared → Prop} (hu : A.units + 1 < cLine) (I : Inv X pins σ H s) (g : DPut H a y v H') (ry : RelV y u) (rv : RelV v r) (h : ∀ s', Inv X pins σ H' s' → Q () s') :
  wpAny (model X.prog X.w) A (setItem (.ref a) u r) Q E s := by
 rcases g with ⟨kvs, k, e, ey, l, eH⟩ | ⟨kvs, k, b, e, ey, eb, l, eH⟩
 ·subst ey eH
  obtain ⟨z, hd, vs, rel, dd⟩ := zi6 I.hok e
  have hz : vs.length ≤ sizeLine := by rw [← rel.length]; exact z
  have hl : (putK kvs k v).length ≤ sizeLine := by have := z55 kvs k v; omega
  refine wpAny_setItem_pairs (hsz := hz) (zb9 ry) dd fun h' dd' hs => h _ ?_
  have he : ∃ q, h'.get? a = some q := let ⟨q, _, _, hq, _⟩ := dd'; ⟨q, hq⟩
  exact z9i I (by rw [e]; exact True.intro) hs he (zfu hl hd (rel.put k rv) dd')
 ·subst ey eH
  cases (show u = Value.ref b from ry)
  obtain ⟨z, hd, xs, rel, dd⟩ := zk9 I.hok e
  have hz : xs.length ≤ sizeLine := by rw [← Paired.length rel]; exact z
  have hl : (putK kvs k v).length ≤ sizeLine := by have := z55 kvs k v; omega
  refine wpAny_setItem_heap (hsz := hz) (tupleKind_room_in1 hu) (zbq I.hok eb) dd fun h' dd' hs => h _ ?_
  obtain ⟨q, es, ep, hq, h2, h3, h4, _, h5⟩ := dd'
  refine z9i I (by rw [e]; exact True.intro) hs ⟨q, hq⟩ ⟨hl, hd, _, (rel.put k eb rv).keeps fun c ys ec => ?_, q, es, ep, hq, h2, h3, h4, h5⟩
  rw [z8 (zk5 ec e (fun z => nomatch z))]
  exact ec
end
section
variable {X : Cx} {pins : List (Addr × Obj)} {σ : St} {H : Hp} {s : Shared} {a : Addr} {kvs : List (Key × V)} {k : Key} {u : Value} {A : Around} {E : Value → Shared → Prop}
end
def NoSl (i : Expr) : Prop := ∀ ov iv, subscripted i false ov iv = operate [ov, iv] (getItem ov iv)
theorem zit {prog : Program} {w : World} {A : Around} {E : Value → Shared → Prop} {s : Shared} {env : Env} {value slice : Expr} {pos : Pos} {T id : String} {Q : Value → Shared → Prop}
  (hl : typeLookup (.type T) "__getitem__" = pure (some (.builtin id))) (hs : NoSl slice)
  (h : wpAny (model prog w) A (eval value env) (fun o s₁ => wpAny (model prog w) A (eval slice env) (fun i s₂ => s₂.TypeIs o T ∧ wpAny (model prog w) A (getItem o i) Q E s₂) E s₁) E s) :
  wpAny (model prog w) A (eval (.Subscript value slice pos) env) Q E s := by
 refine Subscript_ (wpAny_mono h (fun o s₁ h₁ => wpAny_mono h₁ (fun i s₂ h₂ => ?_) fun _ _ x => x) fun _ _ x => x)
 obtain ⟨hT, h₂⟩ := h₂
 unfold subscriptTail
 refine wpAny_bind ?_
 rw [getitemInPython_of_ne hT.not_modules]
 refine wpAny_bind (wpAny_specialOf hT hl ?_)
 have fin : wpAny (model prog w) A (subscripted slice false o i) (fun r s₃ => wpAny (model prog w) A (letTemporaryGo value o r >>= fun _ => pure r) Q E s₃) E s₂ := by
  rw [hs o i]
  exact wpAny_operating (wpAny_mono h₂ (fun r s₃ h₃ => wpAny_bind (wpAny_letTemporaryGo (wpAny_pure h₃))) fun _ _ x => x)
 first
  | exact wpAny_pure (wpAny_bind fin)
  | exact wpAny_bind (wpAny_pure (wpAny_bind fin))
  | exact wpAny_bind fin
theorem zcl {X : Cx} {pins : List (Addr × Obj)} {σ : St} {H : Hp} {s : Shared} {a : Addr} {y : V} {o : Option V} (I : Inv X pins σ H s) (g : DGet H a y o) : s.TypeIs (.ref a) "dict" := by
 rcases g with ⟨kvs, k, e, _, _⟩ | ⟨kvs, k, b, e, _, _, _⟩
 ·obtain ⟨_, _, vs, _, dd⟩ := zea I.hok e
  exact dd.typeIs
 ·obtain ⟨_, _, xs, _, dd⟩ := zeb I.hok e
  exact dd.typeIs
def zi7 (td ty : TE) : TE := fun σ H Q => td σ H fun x H1 => ty σ H1 fun y H2 => ∃ a v, x = .ref a ∧ DGet H2 a y (some v) ∧ Q v H2
def zi8 (td ty tv : TE) : TS := fun D σ H => tv σ H fun v H1 => td σ H1 fun x H2 => ty σ H2 fun y H3 => ∃ a H4, x = .ref a ∧ DPut H3 a y v H4 ∧ D.nx σ H4
section
variable {X : Cx} {o i e value : Expr} {pos pos' tpos : Pos} {td ty tv : TE}
theorem zu (hu : X.A.units + 1 < cLine) (ho : PE X o td) (hi : PE X i ty) (hs : NoSl i) : PE X (.Subscript o i pos) (zi7 td ty) := by
 intro pins s σ H Q I h
 refine zit PySem.F.slot_dict_getitem.lookup hs (thn (ho pins s σ H _ I h) fun u s1 ⟨x, H1, I1, rx, q1⟩ => thn (hi pins s1 σ H1 _ I1 q1) fun iv s2 ⟨y, H2, I2, ry, a, v, ex, g, q2⟩ => ?_)
 subst ex
 obtain rfl : u = Value.ref a := rx
 exact ⟨zcl I2 g, zft hu I2 g ry fun w' s3 I3 rw' => ⟨v, H2, I3, rw', q2⟩⟩
theorem z5j (hu : X.A.units + 1 < cLine) (ho : PE X o td) (hi : PE X i ty) (hv : PE X value tv) (hs : swapsWith value (some (.Subscript o i pos')) pos.line X.env = pure false) :
  PS X (.Assign [.Subscript o i pos'] value pos) (zi8 td ty tv) := by
 intro pins s σ H D I h
 refine wpAny_Assign_Subscript (thn (hv pins s σ H _ I h) fun r s1 ⟨v, H1, I1, rv, q1⟩ => thn (ho pins s1 σ H1 _ I1 q1) fun u s2 ⟨x, H2, I2, rx, q2⟩ => thn (hi pins s2 σ H2 _ I2 q2) fun iv s3 ⟨y, H3, I3, ry, a, H4, ex, g, q3⟩ => ?_) hs
 subst ex
 obtain rfl : u = Value.ref a := rx
 exact zfv hu I3 g ry rv fun s4 I4 => ⟨σ, H4, I4, q3⟩
end
theorem zbr {P : Program} {w : World} {H : Hp} (h : Heap) (hb : sysModules < h.objs.size) : ObjOk P w H (h.push { cls := .type "dict", data := .dict #[] }) h.objs.size (.dK []) :=
 ⟨Nat.zero_le _, beq_eq_false_iff_ne.mpr (Ne.symm (Nat.ne_of_lt hb)), [], .nil, Heap.DictOf.new h⟩
def zfw : TE := fun _ H Q => ∀ p, H p = none → Q (.ref p) (upd H p (.dK []))
section
variable {X : Cx} {pos : Pos}
theorem zh8 : PE X (.Dict [] [] pos) zfw := fun pins s σ H Q I h =>
 wpAny_Dict_empty ⟨.ref s.heap.objs.size, _, I.laid (a := s.heap.objs.size) (o := .dK []) (t' := s.toks) (fun _ _ q => Heap.get?_push_of_some _ q) (Nat.le_refl _) (zbr s.heap I.big), rfl, h _ (I.hok.fresh (Nat.le_refl _))⟩
end
def z8q : List (TE × TE) → St → Hp → (List (V × V) → Hp → Prop) → Prop
 | [], _, H, Q => Q [] H
 | (tk, tv) :: r, σ, H, Q => tk σ H fun x H1 => tv σ H1 fun y H2 => z8q r σ H2 fun ps H3 => Q ((x, y) :: ps) H3
abbrev VV : List (V × V) → List (Value × Value) → Prop := Paired fun p q => RelV p.1 q.1 ∧ RelV p.2 q.2
def PPs (X : Cx) (pos : Pos) (keys : List (Option Expr)) (values : List Expr) (trs : List (TE × TE)) : Prop :=
 ∀ (pins : List (Addr × Obj)) (s : Shared) (σ : St) (H : Hp) (Q : List (V × V) → Hp → Prop), Inv X pins σ H s → z8q trs σ H Q →
  wpAny (model X.prog X.w) X.A (evalPairs (pairTrees keys values X.env pos)) (fun vs s' => ∃ ps H', Inv X pins σ H' s' ∧ VV ps vs ∧ Q ps H') X.xe s
theorem ziu {X : Cx} {pos : Pos} : PPs X pos [] [] [] := fun pins s σ H Q I h => pairTrees_nil_walk ⟨[], H, I, .nil, h⟩
theorem z2b {X : Cx} {pos : Pos} {k v : Expr} {ks : List (Option Expr)} {vs : List Expr} {tk tv : TE} {trs : List (TE × TE)} (hk : PE X k tk) (hv : PE X v tv) (hr : PPs X pos ks vs trs) :
  PPs X pos (some k :: ks) (v :: vs) ((tk, tv) :: trs) := fun pins s σ H Q I h =>
 pairTrees_cons_walk (thn (hk pins s σ H _ I h) fun u s1 ⟨x, H1, I1, rx, q1⟩ => thn (hv pins s1 σ H1 _ I1 q1) fun w2 s2 ⟨y, H2, I2, ry, q2⟩ =>
  thn (hr pins s2 σ H2 _ I2 q2) fun ws s3 ⟨ps, H3, I3, rel, q3⟩ => ⟨(x, y) :: ps, H3, I3, .cons ⟨rx, ry⟩ rel, q3⟩)
def z5k (kvs more : List (Key × V)) : List (Key × V) := more.foldl (fun acc kv => putK acc kv.1 kv.2) kvs
theorem KV.merge : ∀ {more : List (Key × V)} {rs : List (Key × Value)} {kvs : List (Key × V)} {vs : List (Key × Value)}, KV more rs → KV kvs vs → KV (z5k kvs more) (merged vs rs) := by
 intro more rs kvs vs r
 unfold KV at r
 induction r generalizing kvs vs with
 | nil => intro q; exact q
 | @cons p q ps qs h t ih =>
  intro r0
  have e : KV (putK kvs p.1 p.2) (stored vs q.1 q.2) := by
   have := r0.put p.1 h.2
   rw [← h.1]; exact this
  exact ih e
theorem z6b : ∀ (more kvs : List (Key × V)), (z5k kvs more).length ≤ kvs.length + more.length
 | [], kvs => by show kvs.length ≤ kvs.length + 0; omega
 | p :: r, kvs => by
  have h1 := z6b r (putK kvs p.1 p.2)
  have h2 := z55 kvs p.1 p.2
  show (z5k (putK kvs p.1 p.2) r).length ≤ _
  rw [List.length_cons]; omega
theorem z8r {P : Program} {w : World} : ∀ {kvs : List (Key × V)} {ws : List (Value × Value)}, VV (kvs.map fun kv => (kV kv.1, kv.2)) ws → ∃ rs, Carries (z1o P w) ws rs ∧ KV kvs rs
 | [], _, r => by rw [List.map_nil] at r; cases r; exact ⟨[], True.intro, .nil⟩
 | p :: kvs, _, r => by
  rw [List.map_cons] at r
  cases r with
  | @cons a b as bs h t =>
   obtain ⟨rs, c, q⟩ := z8r (P := P) (w := w) t
   obtain ⟨b1, b2⟩ := b
   exact ⟨(p.1, b2) :: rs, ⟨zb9 h.1, rfl, c⟩, .cons ⟨rfl, h.2⟩ q⟩
def zi9 (trs : List (TE × TE)) : TE := fun σ H Q => ∀ p, H p = none → z8q trs σ (upd H p (.dK [])) fun ps H2 => H2 p = some (.dK []) ∧ ∃ kvs : List (Key × V), ps = kvs.map (fun kv => (kV kv.1, kv.2)) ∧ kvs.length ≤ 15 ∧ Q (.ref p) (upd H2 p (.dK (z5k [] kvs)))
theorem ziv {X : Cx} {pos : Pos} {keys : List (Option Expr)} {values : List Expr} {trs : List (TE × TE)} (h : PPs X pos keys values trs) (hall : keys.all (·.isSome) = true) (hl : keys.length = values.length) (h0 : keys ≠ [])
  (h15 : keys.length ≤ 15) : PE X (.Dict keys values pos) (zi9 trs) := by
 intro pins s σ H Q I q
 have hn := I.hok.fresh (Nat.le_refl s.heap.objs.size)
 have I1 := I.laid (a := s.heap.objs.size) (o := .dK []) (h' := s.heap.push { cls := .type "dict", data := .dict #[] }) (t' := s.toks) (fun _ _ q => Heap.get?_push_of_some _ q) (Nat.le_refl _) (zbr s.heap I.big)
 refine wpAny_Dict_walk (knd := z1o X.prog X.w) hall hl h0 h15 (thn (h pins _ σ _ _ I1 (q _ hn)) fun ws s2 ⟨ps, H2, I2, rel, e, kvs, ep, lk, q2⟩ => ?_)
 subst ep
 obtain ⟨rs, c, rk⟩ := z8r (P := X.prog) (w := X.w) rel
 obtain ⟨z, hd, vs0, r0, dd⟩ := zi6 I2.hok e
 cases r0
 refine ⟨rs, c, dd, fun h' dd' hs => ⟨.ref s.heap.objs.size, _, ?_, rfl, q2⟩⟩
 have hz : (z5k [] kvs).length ≤ sizeLine := by
  have h1 := z6b kvs []
  rw [List.length_nil] at h1
  rw [sizeLine_eq]; omega
 have he : ∃ q, h'.get? s.heap.objs.size = some q := let ⟨q, _, _, hq, _⟩ := dd'; ⟨q, hq⟩
 exact z9i I2 (by rw [e]; exact True.intro) hs he (zfu hz hd (rk.merge .nil) dd')
structure M1 (X : Cx) (o : Expr) (m : Str) (apos : Pos) (e : Expr) (cpos : Pos) : Prop where
 base : attributeBase o m X.env (eval o X.env) = eval o X.env
 few : ((backTo cpos (starEach [e] X.env)).all (fun x => !x.1) && (backToKw cpos (keywordEach [] X.env)).all (fun x => x.1.isSome)
  && decide (([e] : List Expr).length + ([] : List Keyword).length + (if ([] : List Keyword).isEmpty then 0 else 1) < 30)) = true
 line : (apos.endLine == cpos.line) = true
 trees : backTo cpos (starEach [e] X.env) = [(false, eval e X.env)]
structure M2 (X : Cx) (o : Expr) (m : Str) (apos : Pos) (e f : Expr) (cpos : Pos) : Prop where
 base : attributeBase o m X.env (eval o X.env) = eval o X.env
 few : ((backTo cpos (starEach [e, f] X.env)).all (fun x => !x.1) && (backToKw cpos (keywordEach [] X.env)).all (fun x => x.1.isSome)
  && decide (([e, f] : List Expr).length + ([] : List Keyword).length + (if ([] : List Keyword).isEmpty then 0 else 1) < 30)) = true
 line : (apos.endLine == cpos.line) = true
 trees : backTo cpos (starEach [e, f] X.env) = [(false, eval e X.env), (false, eval f X.env)]
def IsD (H : Hp) (a : Addr) : Prop := (∃ kvs, Rd H a (.dK kvs)) ∨ ∃ kvs, Rd H a (.dT kvs)
section
variable {X : Cx} {pins : List (Addr × Obj)} {σ : St} {H : Hp} {s : Shared} {a : Addr} {y d : V} {u r : Value} {o : Option V} {A : Around} {E : Value → Shared → Prop}
end
def zju (td ty tx : TE) : TE := fun σ H Q => td σ H fun x H1 => ∃ a, x = .ref a ∧ IsD H1 a ∧ ty σ H1 fun y H2 => tx σ H2 fun z H3 => ∃ o, DGet H3 a y o ∧ Q (o.getD z) H3
section
variable {X : Cx} {o e f : Expr} {apos cpos : Pos} {td ty tx : TE}
end
section
variable {X : Cx} {pins : List (Addr × Obj)} {σ : St} {H : Hp} {s : Shared} {a : Addr} {kvs : List (Key × V)} {A : Around} {E : Value → Shared → Prop}
end
section
variable {X : Cx} {pins : List (Addr × Obj)} {σ : St} {H : Hp} {s : Shared} {a : Addr} {y : V} {u : Value} {A : Around} {E : Value → Shared → Prop}
end
end L2
namespace Att
open PySem PySem.W PySem.Calls PyProof.Rows
section
variable {prog : Program} {w : World} {A : Around} {E : Value → Shared → Prop} {s : Shared} {K : Frag}
end
end Att
namespace L2
open PySem PySem.Spec PyProof.Rows
end L2
namespace L2
open PySem PySem.Spec PyProof.Rows
end L2
namespace L2
open PySem PySem.Spec PyProof.Rows
section
variable {P : Program} {w : World} {K : PySem.W.Frag} {mg : Str → Option Value} {base : Heap}
end
section
variable {X : Cx}
end
section
variable {κ : Type} [DecidableEq κ]
end
end L2
end
section
namespace L2
open PySem PySem.Spec PyProof.Rows
section
variable {X : Cx}
theorem z6p (hc : X.calm = true) : CallR X (.builtin "max") (fun xs H Q => ∃ p ns, xs = [.ref p] ∧ SqL X.K H p ((ns : List Int).map V.int) ∧ ns ≠ [] ∧ ∀ m ∈ ns, (∀ x ∈ ns, x ≤ m) → Q (.int m) H) := by
  intro pins s σ H xs us Q I r h
  obtain ⟨p, ns, rfl, hp, hne0, q⟩ := h
  obtain ⟨u, rfl, ru⟩ := z4z r
  cases ru
  obtain ⟨its, r1, p1, _⟩ := I.list hp
  have hl := r1.length
  rw [List.length_map] at hl
  refine call_max_walk (wpAny_pyIter_list p1.isList ?_)
  obtain ⟨ol, n, hol, hcl, hdl, hsl⟩ := id p1
  have hne : p ≠ s.heap.objs.size := Nat.ne_of_lt (Heap.lt_size hol)
  have hlt : p < s.heap.objs.size := Heap.lt_size hol
  have hpos : 0 < ns.length := by cases ns with | nil => exact absurd rfl hne0 | cons a b => simp
  refine ⟨s.heap.objs.size, [s.heap.objs.size, p], [s.heap.objs.size], its.toArray.size, _, _, fun i j => decide (ns.getD i 0 > ns.getD j 0), rfl, Walks.list (by exact I.ok.hd hc) s.heap.objs.size p hne its.toArray,
    ⟨⟨_, Heap.get?_push_size _ rfl, rfl, rfl⟩, ⟨ol, Heap.get?_push_of_some _ hol, hcl, n, hsl⟩⟩, fun b hb => ?_, by rw [List.size_toArray]; omega, CmpOf.ints_gt (fun i => ns.getD i 0) ?_, fun v h' tk hP k => ?_⟩
  · show b < (s.heap.push _).objs.size
    rw [Heap.size_push]
    rcases List.mem_cons.mp hb with rfl | hb
    · exact Nat.lt_succ_self _
    · rcases List.mem_cons.mp hb with rfl | hb
      · exact Nat.lt_succ_of_lt hlt
      · cases hb
  · intro j v hv
    have hv : its.toArray[j]? = some v := hv
    have e0 : its[j]? = some v := by simpa using hv
    have hj : j < its.length := (List.getElem?_eq_some_iff.mp e0).1
    have e1 : (ns.map V.int)[j]? = some (V.int (ns.getD j 0)) := by
      rw [List.getElem?_map, List.getD_eq_getElem?_getD, List.getElem?_eq_getElem (by omega)]
      rfl
    obtain ⟨w, q1, rw'⟩ := r1.get e1
    rw [e0] at q1
    cases q1
    exact rw'
  · have hP : its.toArray[argBest (fun i j => decide (ns.getD i 0 > ns.getD j 0)) (its.toArray.size - 1)]? = some v := hP
    obtain ⟨b1, b2⟩ := argBest_gt (fun i => ns.getD i 0) (its.toArray.size - 1)
    rw [List.size_toArray, ← hl] at b1 b2 hP
    generalize argBest (fun i j => decide (ns.getD i 0 > ns.getD j 0)) (ns.length - 1) = a at b1 b2 hP
    have e0 : its[a]? = some v := by simpa using hP
    have ha : a < ns.length := by omega
    have e1 : (ns.map V.int)[a]? = some (V.int (ns.getD a 0)) := by
      rw [List.getElem?_map, List.getD_eq_getElem?_getD, List.getElem?_eq_getElem ha]
      rfl
    obtain ⟨w, q1, rw'⟩ := r1.get e1
    rw [e0] at q1
    cases q1
    have I2 : Inv X pins σ H { s with heap := h', toks := tk } := by
     refine I.kept (t' := tk) (h' := h') fun b o e => k b o ?_ (Heap.get?_push_of_some _ e)
     intro z
     have : b = s.heap.objs.size := by simpa using z
     exact absurd (Heap.lt_size e) (by rw [this]; exact Nat.lt_irrefl _)
    refine ⟨.int _, H, I2, rw', q _ ?_ ?_⟩
    · rw [List.getD_eq_getElem?_getD, List.getElem?_eq_getElem ha]
      exact List.getElem_mem ha
    · intro x hx
      obtain ⟨j, hj, rfl⟩ := List.getElem_of_mem hx
      have := b2 j (by omega)
      have e : ns.getD j 0 = ns[j] := by rw [List.getD_eq_getElem?_getD, List.getElem?_eq_getElem hj]; rfl
      rw [e] at this
      exact this
end
end L2
end
section
namespace PySem.W
open PySem PySem.Spec PySem.Calls PyProof.Rows
open Builtin Builtin.Getset_descriptor
section
variable {prog : Program} {w : World} {A : Around} {E : Value → Shared → Prop} {s : Shared} {K : Frag} {x C : Addr} {R : Result → Shared → Prop}
structure ErrCls (K : Frag) (C : Addr) : Prop where
 ga : findIn K (.ref C) "__getattribute__" = some (some (.builtin "BaseException.__getattribute__"))
 no : findIn K (.ref C) "__getattr__" = some none
 cl : findIn K (.ref C) "__class__" = some (some (.builtin "object.__class__"))
 sp : specialIn K (.builtin "object.__class__") "__get__" = some (some (.builtin "getset_descriptor.__get__"))
 tk : takesIn K (.builtin "object.__class__") = some true
 mo : mroIn K C (.type "object") = some true
 mb : mroIn K C (.type "BaseException") = some true
end
end PySem.W
namespace L2
open PySem PySem.Spec PyProof.Rows
section
variable {X : Cx}
def clsV : V → Option Value
 | .ty n => some (.type n)
 | .ref a => some (.ref a)
 | _ => none
theorem Inv.also {pins : List (Addr × Obj)} {σ : St} {H : Hp} {s : Shared} {x : Addr} {o : HO} (I : Inv X pins σ H s) (hx : H x = none) (hm : ¬ Mine X pins x) (ok : ObjOk X.prog X.w (upd H x o) s.heap x o) : Inv X pins σ (upd H x o) s := by
 have nb : ∀ b u, H b = some u → b ≠ x := fun b u e z => by rw [z, hx] at e; cases e
 refine ⟨I.ok, I.os, I.bare, ⟨I.base.keep, I.base.slot, fun b ob e n hb => ?_, I.base.there, fun b ys e => ?_, fun b ob u e => ?_, fun b ps e => ?_⟩, I.loc, I.cell, ?_, fun y c e => ?_, fun p hp => ?_, fun b ob e => ?_, I.len⟩
 ·have : b ≠ x := fun z => hm (.inl ⟨ob, z ▸ e⟩)
  rw [z8 this]
  exact I.base.free b ob e n hb
 ·have q := I.base.tups b ys e
  rw [z8 (nb _ _ q)]
  exact q
 ·have q := I.base.frzs b ob u e
  rw [z8 (nb _ _ q)]
  exact q
 ·obtain ⟨more, q⟩ := I.base.tbls b ps e
  exact ⟨more, by rw [z8 (nb _ _ q)]; exact q⟩
 ·have : X.env.locals ≠ x := fun z => hm (.inr (.inl z.symm))
  rw [z8 this]
  exact I.free
 ·have : c ≠ x := fun z => hm (.inr (.inr (.inl ⟨y, z ▸ e⟩)))
  rw [z8 this]
  exact I.freeC y c e
 ·obtain ⟨a1, a2, a3⟩ := I.pin p hp
  have : p.1 ≠ x := fun z => hm (.inr (.inr (.inr ⟨p, hp, z⟩)))
  exact ⟨a1, by rw [z8 this]; exact a2, a3⟩
 ·by_cases hb : b = x
  ·subst hb
   rw [z7] at e
   cases e
   exact ok
  ·rw [z8 hb] at e
   refine (I.hok b ob e).stay (fun _ _ _ q => q) (fun c q => ?_) fun c ys q => ?_
   ·rw [z8 (nb _ _ q)]; exact q
   ·rw [z8 (nb _ _ q)]; exact q
end
end L2
end
section
namespace PySem
open Sem (wp)
open AutoSeq1 (wpAny_loadPart')
theorem zcm (a : Value) (t : Tok) : checkTypeCall "enumerate" ⟨[a], [(Str.ofString "start", .int 1 t)]⟩ = pure () := by kernel_rfl
theorem zfx (a : Value) (t : Tok) : checkBuiltinCall "enumerate.__new__" ⟨[.type "enumerate", a], [(Str.ofString "start", .int 1 t)]⟩ = pure () := by kernel_rfl
theorem zec (obj a : Value) (t : Tok) : argsOk "object.__init__" ⟨[obj, a], [(Str.ofString "start", .int 1 t)]⟩ := by unfold argsOk; kernel_rfl
theorem zed (l : Addr) (o : Obj) (items : Array Value) (t : Tok) :
  Meets (Builtin.«enumerate.__new__» ⟨[.type "enumerate", .ref l], [(Str.ofString "start", .int 1 t)]⟩) (fun _ R s => s.heap.get? l = some o ∧ s.heap.IsList l items ∧
   R (.ok (.ret (.ref (s.heap.push { cls := .type "list_iterator", data := .fields #[.ref l, .int 0 0] }).objs.size)))
    { s with heap := (s.heap.push { cls := .type "list_iterator", data := .fields #[.ref l, .int 0 0] }).push { cls := .type "enumerate", data := .fields #[.none, .bool false, .ref s.heap.objs.size, rawInt 1, .none, .none] } }) :=
 .of_wp fun prog w A R s h => by
  obtain ⟨h0, g0, d0, t0, o0⟩ := s
  obtain ⟨ho, hL, h⟩ := h
  have hsub := sub_enumerate
  wp_walk using wpAny_loadPart' ho
  refine wpAny_stack_any fun stk => ?_
  refine wpAny_pure ?_
  split
  ·rename_i c _ _ _ _ _
   generalize (c == Value.type "enumerate") = b
   cases b <;> (wp_walk using wpAny_loadPart' ho, wpAny_pyIter_list hL; exact ⟨_, rfl, h⟩)
  ·wp_walk using wpAny_loadPart' ho, wpAny_pyIter_list hL
   exact ⟨_, rfl, h⟩
end PySem
end
section
namespace PySem
open Sem (wp)
theorem zee {prog : Program} {w : World} {A : Around} {E : Value → Shared → Prop} {s : Shared} {l : Addr} {items : Array Value} {t : Tok} {Q : Value → Shared → Prop} (hL : s.heap.IsList l items)
  (h : ∀ h', IsEnum h' (s.heap.objs.size + 1) s.heap.objs.size 1 .none → h'.IsListIter s.heap.objs.size l 0 → h'.objs.size = s.heap.objs.size + 2 →
   (∀ b o, s.heap.get? b = some o → h'.get? b = some o) → Q (.ref (s.heap.objs.size + 1)) { s with heap := h' }) :
  wpAny (model prog w) A (call (.type "enumerate") [.ref l] [(Str.ofString "start", .int 1 t)]) Q E s := by
 have ft := F.called_enumerate
 obtain ⟨c, tl, hmro⟩ := ft.mro
 have f1 := ft.made
 have f2 := ft.sub
 have f3 := ft.notType
 have f4 := ft.canCreate
 have f5 := zcm (.ref l) t
 obtain ⟨o, ho, _⟩ := id hL
 refine wpAny_call (codeAny_of_tree ?_)
 show wpAny _ _ (callAny (.type "enumerate") _) _ _ _
 refine wpAny_pure ⟨Code.quiet_builtin _ (by decide +kernel), ?_⟩
 refine codeAny_builtin F.entry_type_call ?_
 rw [Around.under_plain (weight_type_call_type "enumerate" _ _) (units_type_call_type "enumerate" _ _)]
 repeat (any_goals (first | assumption | wp_step))
 have hz : (s.heap.push { cls := .type "list_iterator", data := .fields #[.ref l, .int 0 0] }).objs.size = s.heap.objs.size + 1 := Heap.size_push ..
 have he : IsEnum ((s.heap.push { cls := .type "list_iterator", data := .fields #[.ref l, .int 0 0] }).push { cls := .type "enumerate", data := .fields #[.none, .bool false, .ref s.heap.objs.size, rawInt 1, .none, .none] }) (s.heap.objs.size + 1) s.heap.objs.size 1 .none := by
  rw [← hz]
  exact Heap.get?_push_size _ rfl
 have hi : ((s.heap.push { cls := .type "list_iterator", data := .fields #[.ref l, .int 0 0] }).push { cls := .type "enumerate", data := .fields #[.none, .bool false, .ref s.heap.objs.size, rawInt 1, .none, .none] }).IsListIter s.heap.objs.size l 0 :=
  ⟨_, Heap.get?_push_of_some _ (Heap.get?_push_size _ rfl), rfl, rfl⟩
 have hsz : ((s.heap.push { cls := .type "list_iterator", data := .fields #[.ref l, .int 0 0] }).push { cls := .type "enumerate", data := .fields #[.none, .bool false, .ref s.heap.objs.size, rawInt 1, .none, .none] }).objs.size = s.heap.objs.size + 2 := by
  rw [Heap.size_push, hz]
 have hq := h _ he hi hsz fun b o x => Heap.get?_push_of_some _ (Heap.get?_push_of_some _ x)
 have hN : wants (fun v s1 => v = Value.ref (s.heap.objs.size + 1) ∧ s1 = { s with heap := (s.heap.push { cls := .type "list_iterator", data := .fields #[.ref l, .int 0 0] }).push { cls := .type "enumerate", data := .fields #[.none, .bool false, .ref s.heap.objs.size, rawInt 1, .none, .none] } }) E (.ok (.ret (.ref (s.heap.push { cls := .type "list_iterator", data := .fields #[.ref l, .int 0 0] }).objs.size)))
   { s with heap := (s.heap.push { cls := .type "list_iterator", data := .fields #[.ref l, .int 0 0] }).push { cls := .type "enumerate", data := .fields #[.none, .bool false, .ref s.heap.objs.size, rawInt 1, .none, .none] } } := by
  rw [hz]
  exact ⟨rfl, rfl⟩
 have hM := zed l o items t prog w A.in1 _ s ⟨ho, hL, hN⟩
 generalize (s.heap.push { cls := .type "list_iterator", data := .fields #[.ref l, .int 0 0] }).push { cls := .type "enumerate", data := .fields #[.none, .bool false, .ref s.heap.objs.size, rawInt 1, .none, .none] } = h9 at he hi hsz hq hM
 have hT : ({ s with heap := h9 } : Shared).TypeIs (.ref (s.heap.objs.size + 1)) "enumerate" := ⟨_, he, rfl⟩
 have hli := ft.init.lookup
 have hbi := ft.init.bind (.ref (s.heap.objs.size + 1))
 refine codeAny_mono (codeAny_call_builtin (R := wants (fun v s1 => v = .ref (s.heap.objs.size + 1) ∧ s1 = { s with heap := h9 }) E) ft.plain F.entry_enumerate_new
  (wpAny_of_eq (zfx _ t) hM)) fun r s1 hr => ?_
 cases r with
 | error e => exact hr
 | ok fl =>
  cases fl with
  | ret v =>
   obtain ⟨rfl, rfl⟩ := hr
   dsimp only
   have hx : (some "enumerate.__new__" != some "object.__new__") = true := by decide
   repeat (any_goals (first | assumption | wp_step))
   refine codeAny_call_builtin ft.init.plain F.entry_object_init (ft.init.check _ _ _ _ _ _ _ _ hT (zec _ _ t) ?_)
   unfold Builtin.«object.__init__»
   repeat (any_goals (first | assumption | wp_step))
  | _ => exact hr.elim
end PySem
end
section
namespace PySem
theorem Draws.late {prog : Program} {w : World} {A : Around} {it : Addr} {fp : List Addr} {n : Nat} {P : Nat → Value → Prop} {St : Nat → Heap → Prop} (D : Draws prog w A it fp n P St) :
  Draws prog w A it fp (n + 1) (fun i x => P (i - 1) x) (fun i h => 1 ≤ i ∧ St (i - 1) h) where
 live := fun i h st => D.live _ _ st.2
 frame := fun i h h' st k => ⟨st.1, D.frame _ _ _ st.2 k⟩
 item := fun i s Q E hi st hQ => D.item (i - 1) s Q E (by have := st.1; omega) st.2 fun x h' tk hP hs hb => hQ x h' tk hP ⟨by omega, by
  have e : i - 1 + 1 = i + 1 - 1 := by have := st.1; omega
  rw [← e]; exact hs⟩ hb
 done := fun s Q E st hE => D.done s Q E st.2 hE
end PySem
namespace L2
open PySem PySem.Spec PyProof.Rows
theorem Inv.turned2 {X : Cx} {pins : List (Addr × Obj)} {σ : St} {H : Hp} {s : Shared} {h' : Heap} {t' : Nat} {e it : Addr} (I : Inv X pins σ H s) (k : ∀ b o, b ≠ e → b ≠ it → s.heap.get? b = some o → h'.get? b = some o) (fe : FpOk X pins H e) (fi : FpOk X pins H it) : Inv X pins σ H { s with heap := h', toks := t' } := by
 obtain ⟨e0, e1, _, e3, e4, e5⟩ := fe
 obtain ⟨i0, i1, _, i3, i4, i5⟩ := fi
 have ne : ∀ b u, H b = some u → b ≠ e := fun b u q z => by rw [z, e0] at q; cases q
 have ni : ∀ b u, H b = some u → b ≠ it := fun b u q z => by rw [z, i0] at q; cases q
 have kc : ∀ b o, b ∉ [e, it] → s.heap.get? b = some o → h'.get? b = some o := fun b o hc q => k b o (fun z => hc (by simp [z])) (fun z => hc (by simp [z])) q
 refine I.step (g' := s.gens) (d' := s.drawn) (ch := [e, it]) (fun b hb => ?_) (fun b o _ _ hc q _ => kc b o hc q) (fun b o _ _ hc q _ => ⟨o.slots, kc b o hc q⟩) (fun _ _ _ _ n => n)
  (fun b o hc q => ⟨o, kc b o hc q⟩) (fun _ _ q => q) (fun _ _ _ q => q) (fun b ps q => ⟨#[], by rw [q]; simp⟩) (fun m hm => ?_) (fun b u q => ?_) I.bare
 ·rcases List.mem_cons.mp hb with z | z
  ·subst z; exact ⟨e3, e1, e4, e5⟩
  ·have z : b = it := by simpa using z
   subst z; exact ⟨i3, i1, i4, i5⟩
 ·obtain ⟨o, es, ep, ho, r⟩ := hm
  exact ⟨o, es, ep, k _ o (Ne.symm e1) (Ne.symm i1) ho, r⟩
 ·refine (I.hok b u q).stay (fun c v hc z => k c v ?_ ?_ z) (fun _ z => z) fun _ _ z => z
  ·rcases hc with y | y
   ·rw [y]; exact ne b u q
   ·exact ne c _ y
  ·rcases hc with y | y
   ·rw [y]; exact ni b u q
   ·exact ni c _ y
def Ite (K : PySem.W.Frag) (a : Addr) : It :=
 ⟨fun i H => ∃ xs x, SqL K H a xs ∧ xs[i]? = some x, fun i H x H' => ∃ T v, x = .ref T ∧ H T = none ∧ H' = upd H T (.tup [.int ((i : Int) + 1), v]) ∧ ∀ xs, SqL K H a xs → xs[i]? = some v, fun i H => ∃ xs, SqL K H a xs ∧ xs.length ≤ i⟩
theorem zh9 {X : Cx} {pins : List (Addr × Obj)} {σ : St} {H : Hp} {s : Shared} (I : Inv X pins σ H s) {T : Addr} (hT : s.heap.objs.size ≤ T) : ¬ Mine X pins T := by
 intro hm
 rcases hm with ⟨o, e⟩ | e | ⟨y, e⟩ | ⟨p, hp, e⟩
 ·exact absurd (Nat.lt_of_lt_of_le (Heap.lt_size e) (Nat.le_trans I.sz hT)) (Nat.lt_irrefl _)
 ·rw [e] at hT
  exact absurd (Nat.lt_of_lt_of_le I.lt hT) (Nat.lt_irrefl _)
 ·obtain ⟨v, q⟩ := I.cell y T e
  exact absurd (Nat.lt_of_lt_of_le q.lt hT) (Nat.lt_irrefl _)
 ·have := Heap.lt_size (I.pin p hp).1
  rw [e] at this
  exact absurd (Nat.lt_of_lt_of_le this hT) (Nat.lt_irrefl _)
theorem zfy {P : Program} {w : World} {K : PySem.W.Frag} {els : List Expr} {x1} {tp : Pos} (a e it : Addr) (hne : e ≠ it) : Turn P w K (.Tuple els x1 tp) (Ite K a) [e, it] e (fun i h => (∃ old, IsEnum h e it (((i + 1 : Nat)) : Int) old) ∧ h.IsListIter it a i) where
 mem := by simp
 obj := fun i h st b hb => by
  obtain ⟨⟨old, he⟩, o, ho, hc, hd⟩ := st
  rcases List.mem_cons.mp hb with z | z
  ·subst z
   exact ⟨_, he, fun v z => by cases z⟩
  ·have z : b = it := by simpa using z
   subst z
   exact ⟨o, ho, fun v z => by rw [hd] at z; cases z⟩
 keep := fun i h h' st k => by
  obtain ⟨⟨old, he⟩, hl⟩ := st
  exact ⟨⟨old, k e (by simp) _ he⟩, hl.at fun o q => k it (by simp) o q⟩
 item := by
  intro X hP hw hK hc i pins s σ H E I hf st hg
  subst hP hw hK
  obtain ⟨xs, x, hq, hx⟩ := hg
  obtain ⟨its, rv, p, hz⟩ := I.list hq
  obtain ⟨⟨old, he⟩, hl⟩ := st
  obtain ⟨u, hu, ru⟩ := rv.get hx
  have hlen := rv.length
  have hi : i < its.length := (List.getElem?_eq_some_iff.mp hu).1
  have fe := hf e (by simp)
  have fi := hf it (by simp)
  have nai : a ≠ it := fun z => by
   obtain ⟨o, ho, hcc, _⟩ := hl
   obtain ⟨o2, n2, ho2, hc2, _⟩ := p
   rw [← z, ho2] at ho
   cases ho
   rw [hc2] at hcc
   injection hcc with y
   exact absurd y (by decide)
  have nae : e ≠ a := fun z => by
   obtain ⟨o2, n2, ho2, hc2, _⟩ := p
   rw [← z, he] at ho2
   cases ho2
   have y : Value.type "enumerate" = Value.type "list" := hc2
   injection y with y
   exact absurd y (by decide)
  have D := (Draws.list (prog := X.prog) (w := X.w) (A := X.A.in1) (by exact I.ok.hd hc) it a nai its.toArray).late
  refine wpAny_pyNext_enum_itemD D he (i := i + 1) ⟨by omega, hl, p.isList⟩ (by rw [List.size_toArray]; omega) hne (by simp [hne, nae]) fun v h' tk hP ho hs hT hsz hk => ?_
  have hv : v = u := by
   have : its.toArray[i + 1 - 1]? = some v := hP
   have e0 : its[i]? = some v := by simpa using this
   rw [hu] at e0
   exact (Option.some.inj e0).symm
  subst hv
  refine ⟨_, rfl, ?_⟩
  have I1 : Inv X pins σ H { s with heap := h', toks := tk + 1 } := I.turned2 (fun b o n1 n2 q => hk b o n1 n2 q) fe fi
  refine wpAny_letOwnedTupleGo_enum (s := { s with heap := h', toks := tk + 1 }) ho fun h2 he2 hs2 => ?_
  obtain ⟨f0, f1, f2, f3, f4, f5⟩ := fe
  have I2 : Inv X pins σ H { s with heap := h2, toks := tk + 1 } := I1.turned (t' := tk + 1) (fun b o hb q => (hs2.2 b hb).trans q) f0 f1 f3 f4 f5
  have hTe : s.heap.objs.size ≠ e := Nat.ne_of_gt (Heap.lt_size he)
  have hT2 : h2.get? s.heap.objs.size = some { cls := .type "tuple", data := .seq #[.int (((i + 1 : Nat)) : Int) tk, v] } := (hs2.2 _ hTe).trans hT
  have hn0 : H s.heap.objs.size = none := I.fresh
  have hm : ¬ Mine X pins s.heap.objs.size := zh9 I (Nat.le_refl _)
  have e1 : (((i + 1 : Nat)) : Int) = (i : Int) + 1 := by omega
  have ok : ObjOk X.prog X.w (upd H s.heap.objs.size (.tup [.int ((i : Int) + 1), x])) h2 s.heap.objs.size (.tup [.int ((i : Int) + 1), x]) := by
   refine ⟨zd (by show 2 ≤ 1000000; decide), [.int (((i + 1 : Nat)) : Int) tk, v], .cons ⟨tk, by rw [e1]⟩ (.cons ru .nil), _, hT2, rfl, _, rfl⟩
  refine ⟨.ref s.heap.objs.size, _, I2.also hn0 hm ok, rfl, ⟨_, x, rfl, hn0, rfl, fun ys hy => by rw [I.list_inj hy hq]; exact hx⟩, ⟨⟨v, ?_⟩, ?_⟩, fun b hb => ?_⟩
  ·exact he2
  ·exact hs.2.1.at fun o q => (hs2.2 it (Ne.symm hne)).trans q
  ·have nb : b ≠ s.heap.objs.size := by
    obtain ⟨o, q⟩ : ∃ o, s.heap.get? b = some o := by
     rcases List.mem_cons.mp hb with z | z
     ·exact ⟨_, z ▸ he⟩
     ·have z : b = it := by simpa using z
      obtain ⟨o, q, _⟩ := hl
      exact ⟨o, z ▸ q⟩
    exact Nat.ne_of_lt (Heap.lt_size q)
   rw [z8 nb]
   exact (hf b hb).1
 done := by
  intro X hP hw hK hc i pins s σ H E I hf st hg
  subst hP hw hK
  obtain ⟨xs, hq, hx⟩ := hg
  obtain ⟨its, rv, p, hz⟩ := I.list hq
  obtain ⟨⟨old, he⟩, hl⟩ := st
  have hlen := rv.length
  have fi := hf it (by simp)
  have D : Draws X.prog X.w X.A.in1 it [it, a] (i + 1) (fun _ _ => False) (fun j h => j = i + 1 ∧ h.IsListIter it a i ∧ h.IsList a its.toArray) := {
   live := fun j h st => (let ⟨o, ho, _⟩ := st.2.1; ⟨o, ho⟩)
   frame := fun j h h' st k => ⟨st.1, st.2.1.at fun o q => k it (by simp) o q, st.2.2.at fun o q => k a (by simp) o q⟩
   item := fun j s Q E hj st _ => absurd st.1 (by omega)
   done := fun s Q E st hE => wpAny_nextOf_list_end (by exact I.ok.hd hc) st.2.1 st.2.2 (by simp; omega) hE }
  obtain ⟨f0, f1, f2, f3, f4, f5⟩ := fi
  exact wpAny_pyNext_enum_endD D he ⟨rfl, hl, p.isList⟩ fun h' hx => ⟨rfl, I.turned (t' := s.toks) (fun b o hb q => hx b o hb q) f0 f1 f3 f4 f5⟩
 self := fun _ _ _ _ _ st h => by
  obtain ⟨⟨old, he⟩, _⟩ := st
  exact wpAny_pyIter_enum he h
section
variable {X : Cx}
theorem z83 {M : Model} {A : Around} {E : Value → Shared → Prop} {s : Shared} {pos : Pos} {T : String} {args : List (Bool × Sem Value)} {keywords : List (Option Str × Sem Value)} {Q : Value → Shared → Prop}
  (hp : args.any (·.1) = false) (hk : keywords.any (·.1.isNone) = false)
  (h : wpAny M A (evalArgs (.type T) true args keywords) (fun b s1 => wpAny M A (call (.type T) ([] ++ b.pos) b.kw) Q E s1) E s) : wpAny M A (callWith pos (.type T) [] args keywords) Q E s := by
 unfold callWith
 refine wpAny_bind (wpAny_holding ?_)
 refine wpAny_mono h (fun b s1 h1 => ?_) fun _ _ z => z
 refine wpAny_bind (wpAny_standAt ?_)
 simp only [hp, hk, Bool.or_false]
 refine wpAny_bind (wpAny_pure ?_)
 refine wpAny_bind (wpAny_mono h1 (fun r s2 hr => ?_) fun _ _ z => z)
 exact wpAny_bind (wpAny_holding (wpAny_point (wpAny_pure hr)))
def zia (K : PySem.W.Frag) (ta tk : TA) : TI := fun σ H R => ta σ H fun vs H1 => tk σ H1 fun ws H2 => ∃ a xs, vs = [.ref a] ∧ ws = [.int 1] ∧ SqL K H2 a xs ∧ R (Ite K a) H2
theorem z9j : bootBuiltins "enumerate" = some (.type "enumerate") := by decide +kernel
theorem zha {els : List Expr} {x1} {tp : Pos} {a c : Expr} {ta tk : TA} {p pos kp : Pos} (hg : Gl X "enumerate") (hm : X.mg "enumerate" = none) (ha : PA X [a] ta) (hk : PK X [⟨some (Str.ofString "start"), c, kp⟩] tk)
  (he : backTo pos (starEach [a] X.env) = (false, eval a X.env) :: backTo pos (starEach [] X.env) := by rfl) (hpl : (backTo pos (starEach [a] X.env)).any (·.1) = false := by rfl) : PI X (.Tuple els x1 tp) (.Call (.Name "enumerate" p) [a] [⟨some (Str.ofString "start"), c, kp⟩] pos) (zia X.K ta tk) := by
 intro pins s σ H R I h
 refine wpAny_Call_Name_kw (z4l I hg hm z9j ?_)
 refine z83 hpl (by rfl) ?_
 rw [he]
 refine evalArgs_kwB (by rfl) ?_
 rw [← he]
 refine thn (ha pos pins s σ H _ I h) fun us s1 ⟨vs, H1, I1, r1, q1⟩ => ?_
 refine thn (hk pos pins s1 σ H1 _ I1 q1) fun ws s2 ⟨zs, H2, I2, r2, q2⟩ => ?_
 obtain ⟨b, xs, e1, e2, hq, q⟩ := q2
 subst e1 e2
 obtain ⟨u, rfl, ru⟩ := r1.one
 cases ru
 obtain ⟨u2, rfl, ru2⟩ := r2.one
 obtain ⟨t, rfl⟩ := ru2
 obtain ⟨its, rv, pl, hz⟩ := I2.list hq
 refine zee pl.isList fun h9 he9 hi9 hsz9 hk9 => ?_
 refine wpAny_pyIter_enum (s := { s2 with heap := h9 }) he9 ?_
 have hne : s2.heap.objs.size + 1 ≠ s2.heap.objs.size := Nat.succ_ne_self _
 refine ⟨s2.heap.objs.size + 1, [s2.heap.objs.size + 1, s2.heap.objs.size], _, _, H2, rfl, I2.kept (t' := s2.toks) hk9, zfy b _ _ hne, ⟨⟨_, he9⟩, hi9⟩, fun d hd => ?_, q⟩
 rcases List.mem_cons.mp hd with z | z
 ·subst z
  exact I2.fpOk (Nat.le_succ _) (I2.hok.fresh (Nat.le_succ _))
 ·have z : d = s2.heap.objs.size := by simpa using z
  subst z
  exact I2.fpOk (Nat.le_refl _) (I2.hok.fresh (Nat.le_refl _))
end
end L2
end
section
namespace L2
open PySem PySem.Spec PyProof.Rows
structure CompScope2 (X : Cx) (sc : Scope) (x y2 : Str) (cap : List Str) (js : List Nat) : Prop where
 kind : sc.kind = .function
 nocell : ∀ y ∈ sc.names, y.2 ≠ .cell
 names : ∀ y ∈ sc.names, y.2 = .local → sc.names.lookup y.1 = some .local
 own : sc.names.lookup x = some .local
 own2 : sc.names.lookup y2 = some .local
 free : ∀ y ∈ sc.names, y.2 = .free → X.env.kindOf y.1 = some .cell ∨ X.env.kindOf y.1 = some .free
 nd : (x :: y2 :: cap).Nodup
 caps : CapOk X sc cap js
section
variable {X : Cx} {sc : Scope} {x y2 : Str} {cap : List Str} {js : List Nat} {pins : List (Addr × Obj)} {σ : St} {H : Hp} {s : Shared}
theorem CompScope2.cells (S : CompScope2 X sc x y2 cap js) (I : Inv X pins σ H s) : ∀ y ∈ sc.names, y.2 = .free → ∃ c, X.env.cells.lookup y.1 = some c := fun y hy hf => I.ok.has y.1 (S.free y hy hf)
theorem CompScope2.sub (S : CompScope2 X sc x y2 cap js) (I : Inv X pins σ H s) {y : Str} {c : Addr} (h : (z1u X.env sc.names []).lookup y = some c) : X.env.cells.lookup y = some c :=
 z5q (S.cells I) (fun _ _ e => by simp at e) h
theorem zcn {s4 : Shared} {h4 : Heap} {t4 : Nat} {fp : List Addr} {C : Addr} {v : Option V} {m : Str → Option Value} (S : CompScope2 X sc x y2 cap js) (I : Inv X pins σ H s) (hfp : ∀ b ∈ fp, FpOk X pins H b) (hlt : ∀ b ∈ fp, b < s.heap.objs.size)
    (hC : s.heap.objs.size ≤ C) (hn : h4.Ns C m) (k : ∀ b o, s.heap.get? b = some o → h4.get? b = some o) :
    Inv (zq X sc (x :: y2 :: cap) s H C fp) [] (none :: none :: capt σ js) H { s with heap := h4, toks := t4 } := by
  have nf : ∀ b ∈ frs X.stack, b < s.heap.objs.size := fun b hb => by
    obtain ⟨_, o, ho, _⟩ := I.stack.mem hb
    exact Heap.lt_size ho
  refine ⟨⟨I.ok.mod, S.kind, I.ok.glob, I.ok.blt, hC, fun y z c h1 h2 => I.ok.inj y z c (S.sub I h1) (S.sub I h2), fun y hy => ?_, fun y c h => absurd h Bool.false_ne_true, I.ok.hd, I.ok.frames, .inl rfl, fun b hb => ⟨Nat.ne_of_lt (Nat.lt_of_lt_of_le (hlt b hb) hC), fun y c e => (hfp b hb).2.2.2.2.1 y c (S.sub I e)⟩, I.bs,
      Nat.le_trans I.ok.bsz I.sz, fun b o e hb => ?_, fun b hb z => ?_, I.stack, I.stkFree⟩, rfl, I.bare, Un.kept k, ⟨m, hn, fun i y v' h1 h2 h3 => ?_⟩, fun y c e => ?_, I.hok.fresh hC, fun y c e => I.freeC y c (S.sub I e), fun p hp => absurd (show p ∈ ([] : List (Addr × Obj)) from hp) (by simp), I.hok.kept k, ?_⟩
  · exact z3i (by
      rcases hy with z | z
      · exact z3z z (.inl rfl) S.nocell
      · exact z3z z (.inr rfl) S.nocell)
  · rcases (hfp b hb).2.2.2.1 with z | z
    · exact I.ok.noex b o e z
    · exact absurd (Nat.lt_of_lt_of_le (Heap.lt_size e) (Nat.le_trans I.ok.bsz z)) (Nat.lt_irrefl _)
  · rcases List.mem_cons.mp (I.stkSub b z) with q | q
    · exact (hfp b hb).2.1 q
    · exact (hfp b hb).2.2.1 q
  · cases i with
    | zero => exact absurd (show (none : Option V) = some v' from Option.some.inj h2) (by simp)
    | succ i =>
     cases i with
     | zero => exact absurd (show (none : Option V) = some v' from Option.some.inj h2) (by simp)
     | succ i =>
      have e1 : cap[i]? = some y := by simpa using h1
      obtain ⟨j, q1, q2, q3, q4⟩ := S.caps.get e1
      have e2 : (capt σ js)[i]? = some (some v') := by simpa using h2
      have e3 : σ[j]? = some (some v') := by
        unfold capt at e2
        rw [List.getElem?_map, q1, Option.map_some] at e2
        have e4 : (σ[j]?).join = some v' := Option.some.inj e2
        cases q : σ[j]? with
        | none => rw [q] at e4; cases e4
        | some w => rw [q] at e4; exact congrArg some e4
      have vis : Vis X.env.scope y := by
        rcases q3 with q3 | q3
        · exact .inr (.inl q3)
        · exact .inr (.inr q3)
      obtain ⟨mX, hnX, hl⟩ := I.loc
      obtain ⟨u, ru, lk⟩ := hl j y v' q2 e3 vis
      refine ⟨u, ru, .inr ?_⟩
      rcases lk with ⟨hk, _⟩ | ⟨hk, c, hc, hcell⟩
      · rcases q3 with q3 | q3
        · rw [q3] at hk; cases hk
        · rw [q3] at hk; cases hk
      · obtain ⟨c', hc'⟩ := z3i (env := X.env) (cs := []) (PySem.mem_of_lookup q4)
        have := S.sub I hc'
        rw [hc] at this
        cases this
        obtain ⟨o, ho, hd⟩ := hcell
        refine ⟨?_, c, hc', ⟨o, k c o ho, hd⟩⟩
        rcases h3 with z | z | z
        · exfalso
          have hz := PySem.mem_of_lookup z
          obtain ⟨⟨n, k'⟩, hn', en⟩ := List.mem_map.mp hz
          by_cases hf : (k' == NameKind.free && X.env.scope.kind == .function && X.env.kindOf n == some .cell) = true
          · simp only [hf, if_true] at en
            cases en
          · simp only [hf, if_false] at en
            cases en
            have := S.names _ hn' rfl
            rw [q4] at this
            cases this
        · exact .inl z
        · exact .inr z
  · obtain ⟨v', o, ho, hd⟩ := I.cell y c (S.sub I e)
    exact ⟨v', o, k c o ho, hd⟩
  · show (none :: none :: capt σ js).length = (x :: y2 :: cap).length
    unfold capt
    rw [List.length_cons, List.length_cons, List.length_cons, List.length_cons, List.length_map, S.caps.len]
end
def z4k (J : It) (g2 : TG) (tc : TT) (te : TE) (js : List Nat) (σ : St) (H1 : Hp) (Q : VK) : Prop :=
 ∃ W : Nat → Nat → List V → Hp → Prop, (∃ m, W 0 m [] H1) ∧ ∀ i m acc H, W i m acc H →
  (J.stop i H ∧ ∀ p, H p = none → Q (.ref p) (upd H p (.lst acc))) ∨
  (J.go i H ∧ acc.length < sizeLine ∧ ∀ x H', J.yld i H x H' → g2 x (none :: none :: capt σ js) H' fun σ2 H4 => (∃ a b, σ2 = a :: b :: capt σ js) ∧ tc σ2 H4 fun b H2 =>
   if b = true then te σ2 H2 fun v H3 => ∃ m', m' < m ∧ W (i + 1) m' (acc ++ [v]) H3 else ∃ m', m' < m ∧ W (i + 1) m' acc H2)
def zfz (wi : TI) (g2 : TG) (tc : TT) (te : TE) (js : List Nat) : TE := fun σ H Q => wi σ H fun J H1 => z4k J g2 tc te js σ H1 Q
section
variable {X : Cx} {sc : Scope} {x y2 : Str} {cap : List Str} {js : List Nat} {pins : List (Addr × Obj)} {σ : St} {H : Hp} {s : Shared} {elt iter tg : Expr} {g2 : TG} {ifs : List Expr} {px pos : Pos} {tc : TT} {te : TE}
theorem zco {J : It} {it : Addr} {fp : List Addr} {tn : Nat → Heap → Prop} {Q : VK} {E : Value → Shared → Prop} {RR : Value → Addr → Result → Shared → Prop} (S : CompScope2 X sc x y2 cap js) (hgt : ∀ s H C fp, PG (zq X sc (x :: y2 :: cap) s H C fp) tg g2) (hcalm : X.calm = true)
  (hc : ∀ s H C fp, PIf (zq X sc (x :: y2 :: cap) s H C fp) ifs tc) (he : ∀ s H C fp, PE (zq X sc (x :: y2 :: cap) s H C fp) elt te)
  (I : Inv X pins σ H s) (T : Turn X.prog X.w X.K tg J fp it tn) (st : tn 0 s.heap) (hfp : ∀ b ∈ fp, FpOk X pins H b) (go : z4k J g2 tc te js σ H Q)
  (hRR : ∀ D C HB sB σB acc its n, s.heap.objs.size ≤ D → s.heap.objs.size ≤ C → D ≠ C → Inv (zq X sc (x :: y2 :: cap) s H C fp) [] σB HB sB → HB D = none → sB.heap.get? D = some { cls := .type "list", data := .seq (its : List Value).toArray n } → Vals acc its → acc.length ≤ sizeLine →
   (∀ p, HB p = none → Q (.ref p) (upd HB p (.lst acc))) → RR (.ref D) C (.ok .next) sB) :
  wpAny (model X.prog X.w) X.A (newList []) (fun acc s₃ => wpAny (model X.prog X.w) X.A (newFunctionEnv sc X.env.globals (z1u X.env sc.names []) [] X.env.qual none .none (some X.env)) (fun cenv s₄ =>
   codeAny (model X.prog X.w) X.A (.compStart (.ListComp elt [⟨tg, iter, ifs, 0⟩] sc pos) 0 (.ref it) acc { cenv with scope := relabel sc X.env }) (RR acc cenv.locals) s₄) E s₃) E s := by
 refine wpAny_newObj_type (wpAny_newFunctionEnv S.nocell (by intro y hy; simp at hy) (fun h₁ hns₁ hsb₁ => ?_) S.kind)
 dsimp only at hns₁ hsb₁ ⊢
 generalize hH2 : s.heap.push { cls := .type "list", dict := none, data := .seq ([] : List Value).toArray } = H2 at hns₁ hsb₁ ⊢
 have hCs : H2.objs.size = s.heap.objs.size + 1 := by rw [← hH2, Heap.size_push]
 have hDC : s.heap.objs.size ≠ H2.objs.size := by rw [hCs]; exact Nat.ne_of_lt (Nat.lt_succ_self _)
 have hCle : s.heap.objs.size ≤ H2.objs.size := by rw [hCs]; exact Nat.le_succ _
 have below : ∀ b, b < s.heap.objs.size → b ≠ H2.objs.size := fun b hb => by rw [hCs]; exact Nat.ne_of_lt (Nat.lt_succ_of_lt hb)
 have old : ∀ b o, s.heap.get? b = some o → h₁.get? b = some o := fun b o e => hsb₁.extBut b o (below b (Heap.lt_size e)) (Heap.get?_push_of_some _ (hH2 ▸ Heap.get?_push_of_some _ e))
 have hacc : h₁.get? s.heap.objs.size = some { cls := .type "list", data := .seq ([] : List Value).toArray 0 } := hsb₁.extBut _ _ hDC (Heap.get?_push_of_some _ (hH2 ▸ Heap.get?_push_size _ rfl))
 have hlt : ∀ b ∈ fp, b < s.heap.objs.size := fun b hb => by
  obtain ⟨o, e, _⟩ := T.obj _ _ st b hb
  exact Heap.lt_size e
 obtain ⟨W, ⟨m0, w0⟩, turn⟩ := go
 have nD : ∀ b ∈ fp, b ≠ s.heap.objs.size := fun b hb => Nat.ne_of_lt (hlt b hb)
 have nfs : s.heap.objs.size ∉ frs X.stack := fun z => by
  obtain ⟨_, o, ho, _⟩ := I.stack.mem z
  exact absurd (Heap.lt_size ho) (Nat.lt_irrefl _)
 have ncl : ∀ y c, (z1u X.env sc.names []).lookup y = some c → c ≠ s.heap.objs.size := fun y c e => by
  obtain ⟨v, o, ho, _⟩ := I.cell y c (S.sub I e)
  exact Nat.ne_of_lt (Heap.lt_size ho)
 have loop : ∀ s₃ : Shared, s₃ = { s with heap := h₁, toks := s.toks + ([] : List (Str × Value)).length } →
   codeAny (model X.prog X.w) X.A (.compLoop (.ListComp elt [⟨tg, iter, ifs, 0⟩] sc pos) 0 (.ref it) (.ref s.heap.objs.size) (compEnvC sc (z1u X.env sc.names []) H2.objs.size X.env))
    (RR (.ref s.heap.objs.size) H2.objs.size) s₃ := by
  rintro s₃ rfl
  have I0 : Inv (zq X sc (x :: y2 :: cap) s H H2.objs.size fp) [] (none :: none :: capt σ js) H { s with heap := h₁, toks := s.toks + ([] : List (Str × Value)).length } := zcn (v := none) S I hfp hlt hCle hns₁ old (s4 := s)
  refine z7o (fun n s' => ∃ i H' acc its k, Inv (zq X sc (x :: y2 :: cap) s H H2.objs.size fp) [] (none :: none :: capt σ js) H' s' ∧ tn i s'.heap ∧ (∀ b ∈ fp, H' b = none) ∧ H' s.heap.objs.size = none ∧
    s'.heap.get? s.heap.objs.size = some { cls := .type "list", data := .seq (its : List Value).toArray k } ∧ Vals acc its ∧ acc.length ≤ sizeLine ∧ W i n acc H') ?_ m0
   ⟨0, H, [], [], 0, I0, T.keep _ _ _ st fun b _ o e => old b o e, fun b hb => (hfp b hb).1, I.hok.fresh (Nat.le_refl _), hacc, .nil, Nat.zero_le _, w0⟩
  rintro n s3 ⟨i, H3, acc, its, kk, I3, st3, fr3, fD3, d3, r3, z3, w3⟩
  have fpY : ∀ {H' : Hp} {pl : List (Addr × Obj)}, (∀ b ∈ fp, H' b = none) → (∀ p ∈ pl, p.1 = s.heap.objs.size) → ∀ b ∈ fp, FpOk (zq X sc (x :: y2 :: cap) s H H2.objs.size fp) pl H' b := fun {H' pl} hn hp b hb =>
   ⟨hn b hb, below b (hlt b hb), fun z => by
    rcases List.mem_cons.mp (I.stkSub b z) with q | q
    ·exact (hfp b hb).2.1 q
    ·exact (hfp b hb).2.2.1 q, .inl hb, fun y c e => (hfp b hb).2.2.2.2.1 y c (S.sub I e), fun p hp' => by
    rw [hp p hp']
    exact Ne.symm (nD b hb)⟩
  have pin3 : Inv (zq X sc (x :: y2 :: cap) s H H2.objs.size fp) [(s.heap.objs.size, { cls := .type "list", data := .seq its.toArray kk })] (none :: none :: capt σ js) H3 s3 := I3.pins_of fun p hp => by
   have e : p = (s.heap.objs.size, { cls := .type "list", data := .seq its.toArray kk }) := by simpa using hp
   subst e
   exact ⟨d3, fD3, hDC, nfs, fun v z => by cases z⟩
  have onlyD : ∀ p ∈ [(s.heap.objs.size, ({ cls := .type "list", data := .seq its.toArray kk } : Obj))], p.1 = s.heap.objs.size := fun p hp => by
   have e : p = (s.heap.objs.size, { cls := .type "list", data := .seq its.toArray kk }) := by simpa using hp
   rw [e]
  rcases turn i n acc H3 w3 with ⟨stop, qn⟩ | ⟨gon, hlen, step⟩
  ·refine wpAny_mono (T.done (zq X sc (x :: y2 :: cap) s H H2.objs.size fp) rfl rfl rfl hcalm i _ s3 _ H3 (fun _ _ => False) pin3 (fpY fr3 onlyD) st3 stop) (fun r s4 hr => ?_) fun _ _ z => z.elim
   obtain ⟨hr, I4⟩ := hr
   subst hr
   have d4 := (I4.pin _ (List.mem_append_right _ List.mem_cons_self)).1
   exact hRR _ _ H3 s4 _ acc its kk (Nat.le_refl _) hCle hDC (I4.pins_of fun p hp => by simp at hp) fD3 d4 r3 z3 qn
  ·refine wpAny_mono (T.item (zq X sc (x :: y2 :: cap) s H H2.objs.size fp) rfl rfl rfl hcalm i _ s3 _ H3 (fun _ _ => False) pin3 (fpY fr3 onlyD) st3 gon) (fun r s4 hr => ?_) fun _ _ z => z.elim
   obtain ⟨u, hr, h4⟩ := hr
   subst hr
   dsimp only
   refine wpAny_mono h4 (fun _ s5 h5 => ?_) fun _ _ z => z.elim
   obtain ⟨xv, H5, I5, r5, y5, st5, fr5⟩ := h5
   have I5' := I5.pinned (fpY fr5 onlyD) (T.obj _ _ st5)
   refine wpAny_mono (hgt s H H2.objs.size fp _ s5 _ H5 _ _ _ I5' r5 (step xv H5 y5)) (fun _ s6 q6 => ?_) fun _ _ z => z.elim
   obtain ⟨σ6, H6, I6', ⟨va, vb, e6⟩, q6⟩ := q6
   subst e6
   refine wpAny_mono (hc s H H2.objs.size fp _ s6 _ H6 _ I6' q6) (fun b s7 q7 => ?_) fun _ _ z => z.elim
   obtain ⟨H7, I7, q7⟩ := q7
   have weak : ∀ {pl : List (Addr × Obj)} {HH : Hp} {ss : Shared}, Inv (zq X sc (x :: y2 :: cap) s H H2.objs.size fp) pl (va :: vb :: capt σ js) HH ss → Inv (zq X sc (x :: y2 :: cap) s H H2.objs.size fp) pl (none :: none :: capt σ js) HH ss := fun J => J.weak rfl fun k v e => by
    cases k with
    | zero => exact absurd (Option.some.inj e) (by simp)
    | succ k =>
     cases k with
     | zero => exact absurd (Option.some.inj e) (by simp)
     | succ k => simpa using e
   have back : ∀ {HH : Hp} {ss : Shared}, Inv (zq X sc (x :: y2 :: cap) s H H2.objs.size fp) ([(s.heap.objs.size, { cls := .type "list", data := .seq its.toArray kk })] ++ z4m fp s5.heap) (va :: vb :: capt σ js) HH ss →
     tn (i + 1) ss.heap ∧ (∀ b ∈ fp, HH b = none) ∧ HH s.heap.objs.size = none ∧ ss.heap.get? s.heap.objs.size = some { cls := .type "list", data := .seq its.toArray kk } := fun {HH ss} K => by
    refine ⟨T.keep _ _ _ st5 fun b hb o e => (K.pin (b, o) (List.mem_append_right _ (List.mem_append_right _ (z31 hb e)))).1, fun b hb => ?_, ?_, ?_⟩
    ·obtain ⟨o, e, d⟩ := T.obj _ _ st5 b hb
     exact (K.pin (b, o) (List.mem_append_right _ (List.mem_append_right _ (z31 hb e)))).2.1
    ·exact (K.pin _ (List.mem_append_right _ (List.mem_append_left _ List.mem_cons_self))).2.1
    ·exact (K.pin _ (List.mem_append_right _ (List.mem_append_left _ List.mem_cons_self))).1
   cases b with
   | false =>
    rw [if_neg Bool.false_ne_true] at q7 ⊢
    obtain ⟨m', hm, w7⟩ := q7
    obtain ⟨b1, b2, b3, b4⟩ := back I7
    exact ⟨m', hm, i + 1, H7, acc, its, kk, (weak I7).pins_of fun p hp => by simp at hp, b1, b2, b3, b4, r3, z3, w7⟩
   | true =>
    rw [if_pos rfl] at q7 ⊢
    refine wpAny_mono (he s H H2.objs.size fp _ s7 _ H7 _ I7 q7) (fun u8 s8 q8 => ?_) fun _ _ z => z.elim
    obtain ⟨v8, H8, I8, r8, m', hm, w8⟩ := q8
    obtain ⟨b1, b2, b3, b4⟩ := back I8
    have hl3 := r3.length
    refine call_meets F.slot_list_append ⟨_, b4, rfl⟩ F.entry_list_append (F.args_list_append_2 _ _) (PySem.list_append s.heap.objs.size its.toArray kk u8 (by rw [List.size_toArray]; omega)) ⟨b4, ?_⟩
    have q := PySem.IsL.update b4 (·.push u8)
    obtain ⟨n', q'⟩ : ∃ n', (s8.heap.update s.heap.objs.size (Obj.mapSeq (·.push u8))).get? s.heap.objs.size = some { cls := .type "list", data := .seq (its ++ [u8]).toArray n' } := by
     rw [show (its ++ [u8]).toArray = its.toArray.push u8 by simp]
     exact ⟨_, q⟩
    refine ⟨m', hm, i + 1, H8, acc ++ [v8], its ++ [u8], _, ?_, T.keep _ _ _ b1 fun b hb o e => (Heap.get?_update_other s8.heap _ (Ne.symm (nD b hb))).trans e, b2, b3, q', r3.append (.cons r8 .nil), by rw [List.length_append, List.length_singleton]; omega, w8⟩
    exact Inv.turned (X := zq X sc (x :: y2 :: cap) s H H2.objs.size fp) (it := s.heap.objs.size) ((weak I8).pins_of (pins' := []) fun p hp => by simp at hp) (fun b o hb e => (Heap.get?_update_other s8.heap _ (Ne.symm hb)).trans e) b3 hDC (.inr (Nat.le_refl _)) ncl (fun p hp => absurd (show p ∈ ([] : List (Addr × Obj)) from hp) (by simp))
 exact codeAny_compStart_list (loop _ rfl) (T.self _ 0 _ _ _ (T.keep _ _ _ st fun b _ o e => old b o e) (loop _ rfl))
theorem z5v {wi : TI} (hcalm : X.calm = true) (S : CompScope2 X sc x y2 cap js) (hgt : ∀ s H C fp, PG (zq X sc (x :: y2 :: cap) s H C fp) tg g2) (hi : PI X tg iter wi) (hc : ∀ s H C fp, PIf (zq X sc (x :: y2 :: cap) s H C fp) ifs tc) (he : ∀ s H C fp, PE (zq X sc (x :: y2 :: cap) s H C fp) elt te)
  (hs : ∀ x, foldedSetIterable iter X.env x = pure x := by intro _; rfl) : PE X (.ListComp elt [⟨tg, iter, ifs, 0⟩] sc pos) (zfz wi g2 tc te js) := by
 intro pins s σ H Q I h
 rw [eval_ListComp]
 refine wpAny_comprehension_free (use := none) rfl hs (z5p (S.cells I)) S.kind S.names (thn (hi pins s σ H _ I h) fun v s1 h1 => thn h1 fun itv s2 h2 => ?_)
 obtain ⟨it, fp, tn, J, H2, e, I2, T, st2, f2, go⟩ := h2
 subst e
 refine zco S hgt hcalm hc he I2 T st2 f2 go fun D C HB sB σB acc its n hD hC hDC IB hHD hd rv hz q => ?_
 obtain ⟨m, hn, _⟩ := IB.loc
 exact ⟨m, hn, fun h' sb => ⟨.ref D, upd HB D (.lst acc), z7z (sc := sc) (x := x) (cap := y2 :: cap) I2 f2 IB hC hD hDC hHD hd rv hz fun b o hb e => sb.extBut b o hb e, rfl, q D hHD⟩⟩
end
end L2
end
section
namespace L2
open PySem PySem.Spec PyProof.Rows
theorem zef (wi : TI) (g2 : TG) (tc : TT) (te : TE) (js : List Nat) (σ : St) (H : Hp) (Q : VK) : zfz wi g2 tc te js σ H Q = wi σ H fun J H1 => z4k J g2 tc te js σ H1 Q := rfl
theorem zg0 (K : PySem.W.Frag) (ta tk : TA) (σ : St) (H : Hp) (R : It → Hp → Prop) : zia K ta tk σ H R = ta σ H fun vs H1 => tk σ H1 fun ws H2 => ∃ a xs, vs = [.ref a] ∧ ws = [.int 1] ∧ SqL K H2 a xs ∧ R (Ite K a) H2 := rfl
section
variable {J : It} {K : PySem.W.Frag} {a : Addr} {xs : List V} {g2 : TG} {tc : TT} {te : TE} {js : List Nat} {σ : St} {H1 : Hp} {Q : VK}
theorem z7p (n : Nat) (hn : n ≤ sizeLine) (Pv : Nat → List V → Hp → Prop) (h0 : Pv 0 [] H1) (hlen : ∀ i acc H, Pv i acc H → acc.length ≤ i)
  (hgo : ∀ i acc H, i < n → Pv i acc H → J.go i H) (hstop : ∀ acc H, Pv n acc H → J.stop n H)
  (hs : ∀ i acc H x H', i < n → Pv i acc H → J.yld i H x H' → g2 x (none :: none :: capt σ js) H' fun σ2 H4 => (∃ a b, σ2 = a :: b :: capt σ js) ∧ tc σ2 H4 fun b H2 => if b = true then te σ2 H2 fun v H3 => Nx n Pv i (acc ++ [v]) H3 else Nx n Pv i acc H2)
  (hd : ∀ acc H, Pv n acc H → ∀ p, H p = none → Q (.ref p) (upd H p (.lst acc))) : z4k J g2 tc te js σ H1 Q := by
 refine ⟨fun i m acc H => m = n - i ∧ i ≤ n ∧ Pv i acc H, ⟨n, by simp, Nat.zero_le _, h0⟩, ?_⟩
 rintro i m acc H ⟨rfl, hi, p⟩
 by_cases hlt : i < n
 ·exact .inr ⟨hgo i acc H hlt p, by have := hlen i acc H p; omega, fun x H' y => hs i acc H x H' hlt p y⟩
 ·have e : i = n := by omega
  subst e
  exact .inl ⟨hstop acc H p, hd acc H p⟩
theorem z4q (hn : xs.length ≤ sizeLine) (sp : Nat → List V → Hp → Prop) (h0 : sp 0 [] H1) (hlen : ∀ i acc H, sp i acc H → acc.length ≤ i) (hl : ∀ i acc H, sp i acc H → SqL K H a xs)
  (hs : ∀ (Nt : List V → Hp → Prop) i acc H x, (∀ acc H, sp (i + 1) acc H → Nt acc H) → xs[i]? = some x → i < xs.length → sp i acc H → g2 x (none :: none :: capt σ js) H fun σ2 H4 => (∃ a b, σ2 = a :: b :: capt σ js) ∧ tc σ2 H4 fun b H2 => if b = true then te σ2 H2 fun v H3 => Nt (acc ++ [v]) H3 else Nt acc H2)
  (hd : ∀ acc H, sp xs.length acc H → ∀ p, H p = none → Q (.ref p) (upd H p (.lst acc))) : z4k (Itl K a) g2 tc te js σ H1 Q := by
 refine z7p xs.length hn sp h0 hlen (fun i acc H hi p => ⟨xs, xs[i], hl i acc H p, by simp [hi]⟩) (fun acc H p => ⟨xs, hl _ acc H p, Nat.le_refl _⟩) (fun i acc H x H' hi p y => ?_) hd
 obtain ⟨e, y⟩ := y
 subst e
 exact hs (Nx xs.length sp i) i acc H' x (fun _ _ h => nx hi h) (y xs (hl i acc H' p)) hi p
theorem zbs (hn : xs.length ≤ sizeLine) (sp : Nat → List V → Hp → Prop) (h0 : sp 0 [] H1) (hlen : ∀ i acc H, sp i acc H → acc.length ≤ i) (hl : ∀ i acc H, sp i acc H → SqL K H a xs)
  (hs : ∀ (Nt : List V → Hp → Prop) i acc H x T, (∀ acc H, sp (i + 1) acc H → Nt acc H) → xs[i]? = some x → i < xs.length → sp i acc H → H T = none → g2 (.ref T) (none :: none :: capt σ js) (upd H T (.tup [.int ((i : Int) + 1), x])) fun σ2 H4 => (∃ a b, σ2 = a :: b :: capt σ js) ∧ tc σ2 H4 fun b H2 => if b = true then te σ2 H2 fun v H3 => Nt (acc ++ [v]) H3 else Nt acc H2)
  (hd : ∀ acc H, sp xs.length acc H → ∀ p, H p = none → Q (.ref p) (upd H p (.lst acc))) : z4k (Ite K a) g2 tc te js σ H1 Q := by
 refine z7p xs.length hn sp h0 hlen (fun i acc H hi p => ⟨xs, xs[i], hl i acc H p, by simp [hi]⟩) (fun acc H p => ⟨xs, hl _ acc H p, Nat.le_refl _⟩) (fun i acc H x H' hi p y => ?_) hd
 obtain ⟨T, v, rfl, hT, rfl, y⟩ := y
 exact hs (Nx xs.length sp i) i acc H v T (fun _ _ h => nx hi h) (y xs (hl i acc H p)) hi p hT
end
section
variable {X : Cx} {k : Nat} {C : Addr} {m : Str} {ps : List Str} {sp : Sp} {o e : Expr} {es : List Expr} {ta : TE} {t : TA} {apos pos : Pos} {E : XK}
theorem z9k {pl : Sem Bool} (hx : z39 (CX1 X.prog X.w) X E) (G : MHas X.prog X.w X.K X.mg X.base (CX1 X.prog X.w) k C m ps sp) (c : Cls X.K C) (hr : Room k X.A) (he : PE X o ta) (ha : PA X (e :: es) t)
  (hst : starEach (e :: es) X.env = (false, eval e X.env) :: starEach es X.env := by rfl) (hpl : (backTo pos (starEach es X.env)).any (·.1) = false := by rfl)
  (ht : eval (.Call (.Attribute o m apos) (e :: es) [] pos) X.env = (do
   let ov ← eval o X.env
   standAt apos.atName
   let (f, first) ← holding [ov] (getMethod ov m pl)
   callWith pos f first (backTo pos (starEach (e :: es) X.env)) (backToKw pos (keywordEach [] X.env))) := by rfl) :
  PE X (.Call (.Attribute o m apos) (e :: es) [] pos) (z76 C m sp [] E ta t) := by
 obtain ⟨f, fd, F, hm, hb⟩ := G
 exact zd6 he c hm F hr hb .nil hx ha hst hpl ht
end
theorem z51 {X : Cx} {K : PySem.W.Frag} {pos : Pos} {es : List Expr} {k : Nat} {t : TGs} (hc : X.calm = true) (h : PGs X es t) (hn : (assignEach es X.env).length = 2 := by rfl) (hst : (assignEach es X.env).findIdx? (·.1) = none := by rfl) (hK : X.K = K := by rfl) : PG X (.Tuple es k pos) (gTup K 2 t) := hK ▸ zbd hc h hn hst
theorem ziw {X : Cx} {k : Nat} {C : Addr} {x : Str} {ps : List Str} {sp : Sp} {p pos : Pos} {e : Expr} {es : List Expr} {t : TA} (G : KHas X.prog X.w X.K X.mg X.base k C ps sp) (hr : Room (k + 1) X.A) (hg : Gl X x) (hm : X.mg x = some (.ref C)) (ha : PA X (e :: es) t) (hdb : (x == ("__debug__" : Str)) = false := by decide)
  (he : starEach (e :: es) X.env = (false, eval e X.env) :: starEach es X.env := by rfl) (hpl : (backTo pos (starEach es X.env)).any (·.1) = false := by rfl) : PE X (.Call (.Name x p) (e :: es) [] pos) (z8h C sp [] E0 t) := by
 obtain ⟨f, fd, F, M, hb⟩ := G
 exact zik M F hr hg hm hb .nil z8k ha hdb he hpl
section
variable {X : Cx}
def tIfX (tc : TT) (tx : TEX) (u : TSX) : TSX := fun D Ex σ H => tc σ H fun b H1 => if b = true then tx σ H1 D.rt Ex else u D Ex σ H1
end
end L2
end
section
namespace PySem
open PyProof.Rows (StrsAre)
theorem zdc (t : SetTable) (j : Nat) : (t.put j).1.led = t.led ∧ (t.put j).1.plain = t.plain := by
 unfold SetTable.put; exact ⟨rfl, rfl⟩
theorem zeg (t : SetTable) (es : Array (Int × Value)) (h : Int) (x : Value) :
  (layNew t es h x).2.1.led = t.led ∧ (t.plain = false → (layNew t es h x).2.1.plain = false) := by
 unfold layNew
 split
 ·dsimp only
  unfold SetTable.orStandIn
  split
  ·exact ⟨(zdc t _).1, fun p => (zdc t _).2.trans p⟩
  ·exact ⟨rfl, fun _ => rfl⟩
 ·exact ⟨rfl, fun _ => rfl⟩
theorem zhb {mask finger moves : Nat} {led plain : Bool} {hs : Array Int} {r : SetTable × Array Nat}
  (e : SetTable.laid mask finger moves led plain hs = some r) : r.1.led = led ∧ r.1.plain = plain := by
 unfold SetTable.laid at e
 simp only [Option.bind_eq_bind, Option.bind_eq_some_iff, Option.some.injEq, Option.pure_def] at e
 obtain ⟨o, _, rfl⟩ := e
 exact ⟨rfl, rfl⟩
theorem zbt (t : SetTable) (es : Array (Int × Value)) (n : Nat) :
  (relayAll t es n).2.1.led = t.led ∧ (t.plain = false → (relayAll t es n).2.1.plain = false) := by
 unfold relayAll
 split
 ·rename_i e
  dsimp only
  split
  ·unfold SetTable.relaid at e
   have := zhb e
   exact ⟨this.1, fun p => this.2.trans p⟩
  ·exact ⟨rfl, fun _ => rfl⟩
 ·exact ⟨rfl, fun _ => rfl⟩
def z1a (D : List Str) (v : Str) : List Str := if v ∈ D then D else D ++ [v]
def z1n (ss : List Str) : List Str := ss.foldl z1a []
theorem z7q (D : List Str) (v k : Str) : k ∈ z1a D v ↔ k ∈ D ∨ k = v := by
 unfold z1a; split
 ·rename_i h
  exact ⟨.inl, fun o => o.elim id fun e => e ▸ h⟩
 ·simp
theorem zat {D : List Str} (h : D.Nodup) (v : Str) : (z1a D v).Nodup := by
 unfold z1a; split
 ·exact h
 ·rename_i hv
  refine List.nodup_append.mpr ⟨h, by simp, ?_⟩
  intro a ha b hb e
  simp at hb; subst hb; subst e; exact hv ha
theorem z7r : ∀ (ss D : List Str) (k : Str), k ∈ ss.foldl z1a D ↔ k ∈ D ∨ k ∈ ss
 | [], D, k => by simp
 | v :: ss, D, k => by
  rw [List.foldl_cons, z7r ss, z7q]; simp [or_assoc]
theorem z6c : ∀ (ss D : List Str), D.Nodup → (ss.foldl z1a D).Nodup
 | [], D, h => h
 | v :: ss, D, h => z6c ss _ (zat h v)
theorem z9l (D : List Str) (v : Str) : (z1a D v).length = if decide (v ∈ D) = true then D.length else D.length + 1 := by
 unfold z1a; by_cases h : v ∈ D <;> simp [h]
theorem z8s : ∀ (ss D : List Str), (ss.foldl z1a D).length ≤ D.length + ss.length
 | [], D => by simp
 | v :: ss, D => by
  have := z8s ss (z1a D v)
  have h2 := z9l D v
  rw [List.foldl_cons, List.length_cons]
  split at h2 <;> omega
theorem zg1 (ss : List Str) : (z1n ss).length ≤ ss.length := by have := z8s ss []; simpa [z1n] using this
theorem zcp (ss : List Str) (i : Nat) (h : i < ss.length) : z1n (ss.take (i + 1)) = z1a (z1n (ss.take i)) ss[i] := by
 unfold z1n; rw [List.take_succ_eq_append_getElem h, List.foldl_append]; rfl
def TextSet (prog : Program) (w : World) (h : Heap) (a : Addr) (D : List Str) (led : Bool) : Prop :=
 ∃ o es ep t, h.get? a = some o ∧ o.ExactSet ∧ o.data = .set es ep t ∧ ElemsOf (strKind prog w) es.toList ∧
  (∀ k, decide (k ∈ D) = true ↔ ∃ e ∈ es.toList, (strKind prog w).is k e.2 = true) ∧
  es.size < scanBound ∧ t.fits es.size = true ∧ es.size = D.length ∧ t.led = led ∧ (es.size ≠ 0 → t.plain = false)
section
variable {prog : Program} {w : World} {A : Around} {E : Value → Shared → Prop} {s : Shared}
theorem TextSet.keep {h h' : Heap} {a : Addr} {D : List Str} {led : Bool} (T : TextSet prog w h a D led)
  (e : ∀ o, h.get? a = some o → h'.get? a = some o) : TextSet prog w h' a D led := by
 obtain ⟨o, es, ep, t, ho, more⟩ := T
 exact ⟨o, es, ep, t, e o ho, more⟩
theorem z6q {g : Bool → Sem Unit} (hg : ∀ (b : Bool) (s₁ : Shared) (Q' : Unit → Shared → Prop), Q' () s₁ → wpAny (model prog w) A (g b) Q' E s₁)
  {a : Addr} {o : Obj} {es : Array (Int × Value)} {ep : Nat} {t : SetTable} (ho : s.heap.get? a = some o) (hx : o.ExactSet)
  (hd : o.data = .set es ep t) {e1 : Array (Int × Value)} {t1 : SetTable} {D : List Str}
  (he : ElemsOf (strKind prog w) e1.toList) (hm : ∀ k, decide (k ∈ D) = true ↔ ∃ e ∈ e1.toList, (strKind prog w).is k e.2 = true)
  (hb : e1.size < scanBound) (hf : t1.fits e1.size = true) (hn : e1.size = D.length) (hp : t1.plain = false)
  {was : Bool} {R : Option Bool → Shared → Prop}
  (h : ∀ h', Heap.SameBut a s.heap h' → TextSet prog w h' a D t1.led → R (some true) { s with heap := h' }) :
  wpAny (model prog w) A (do
   storeSet a e1 t1
   if (!was && t1.tooFull) = true then do
    g (relayAll t1 e1 (SetTable.grown e1.size)).2.2
    storeSet a (relayAll t1 e1 (SetTable.grown e1.size)).1 (relayAll t1 e1 (SetTable.grown e1.size)).2.1
    pure (some true)
   else pure (some true)) R E s := by
 refine wpAny_bind (wpAny_storeSet_of ho hd ?_ (fits_of_scanBound hb))
 obtain ⟨g1, _⟩ := SetOf_store (knd := strKind prog w) ho hx hd he hm hb hf
 have b1 := Heap.SameBut.update s.heap a (Obj.putSet e1 t1)
 split
 ·have pr := relayAll_perm t1 e1 (SetTable.grown e1.size)
  have fr := relayAll_fits t1 e1 (SetTable.grown e1.size)
  have lr := zbt t1 e1 (SetTable.grown e1.size)
  generalize relayAll t1 e1 (SetTable.grown e1.size) = L at pr fr lr ⊢
  obtain ⟨e2, t2, gave⟩ := L
  dsimp only at pr fr lr ⊢
  have sz : e2.size = e1.size := by rw [← Array.length_toList, pr.length_eq, Array.length_toList]
  have hm2 : ∀ k, decide (k ∈ D) = true ↔ ∃ e ∈ e2.toList, (strKind prog w).is k e.2 = true := fun k =>
   (hm k).trans ⟨fun ⟨e, q, z⟩ => ⟨e, pr.mem_iff.mpr q, z⟩, fun ⟨e, q, z⟩ => ⟨e, pr.mem_iff.mp q, z⟩⟩
  refine wpAny_bind (hg _ _ _ ?_)
  refine wpAny_bind (wpAny_storeSet_of g1 rfl ?_ (fits_of_scanBound (by rw [sz]; exact hb)))
  obtain ⟨g2, _⟩ := SetOf_store (knd := strKind prog w) g1 hx rfl (he.perm pr) hm2 (by rw [sz]; exact hb) fr
  refine wpAny_pure (h _ (b1.trans (Heap.SameBut.update _ a _)) ⟨_, e2, _, t2, g2, hx, rfl, he.perm pr, hm2, by rw [sz]; exact hb, fr, sz.trans hn, lr.1, fun _ => lr.2 hp⟩)
 ·exact wpAny_pure (h _ b1 ⟨_, e1, _, t1, g1, hx, rfl, he, hm, hb, hf, hn, rfl, fun _ => hp⟩)
theorem zcq {a : Addr} {D : List Str} {led : Bool} {x : Str} {tk : Tok} {Q : Bool → Shared → Prop} (T : TextSet prog w s.heap a D led)
  (room : D.length + 1 < scanBound)
  (h : ∀ h' b, Heap.SameBut a s.heap h' → TextSet prog w h' a (z1a D x) led → Q b { s with heap := h' }) :
  wpAny (model prog w) A (setAddHashed a (.str x tk) ((strKind prog w).hash x)) Q E s := by
 have is := strKind_is prog w x tk
 obtain ⟨o, es, ep, t, ho, hx, hd, he, hm, hb, hf, hn, hl, hp⟩ := T
 unfold setAddHashed setAddHashedIn
 refine wpAny_holding (wpAny_bind (wpAny_setState_of ho hd hf ?_))
 dsimp only
 rw [byScan_of rfl hb he]
 simp only [↓reduceIte]
 unfold setAddByScan
 refine wpAny_bind ?_
 refine wpAny_bind (wpAny_rule ?_)
 refine wpAny_bind (wpAny_setScan_of is ho hd hf he ?_)
 cases hr : List.findIdx? (fun e => (strKind prog w).is x e.2) es.toList with
 | some j =>
  dsimp only
  obtain ⟨hj, pj, _⟩ := List.findIdx?_eq_some_iff_getElem.mp hr
  have xin : x ∈ D := of_decide_eq_true ((hm x).mpr ⟨es.toList[j], List.getElem_mem hj, pj⟩)
  have same : z1a D x = D := if_pos xin
  refine wpAny_pure (wpAny_pure ?_)
  have := h s.heap false (Heap.SameBut.refl a s.heap) (by rw [same]; exact ⟨o, es, ep, t, ho, hx, hd, he, hm, hb, hf, hn, hl, hp⟩)
  cases s; exact this
 | none =>
  dsimp only
  have xout : x ∉ D := fun q => by
   obtain ⟨e, qe, z⟩ := (hm x).mp (decide_eq_true q)
   have := List.findIdx?_eq_none_iff.mp hr e qe
   rw [z] at this; cases this
  have grow : z1a D x = D ++ [x] := if_neg xout
  have pr := layNew_perm t es ((strKind prog w).hash x) (.str x tk)
  have fr := layNew_fits t es ((strKind prog w).hash x) (.str x tk)
  have lr := zeg t es ((strKind prog w).hash x) (.str x tk)
  generalize layNew t es ((strKind prog w).hash x) (.str x tk) = L at pr fr lr ⊢
  obtain ⟨e1, t1, was, gave⟩ := L
  dsimp only at pr fr lr ⊢
  rw [Array.toList_push] at pr
  have he1 : ElemsOf (strKind prog w) e1.toList := (he.push is rfl).perm pr
  have hm1 : ∀ k, decide (k ∈ z1a D x) = true ↔ ∃ e ∈ e1.toList, (strKind prog w).is k e.2 = true := fun k => by
   rw [← mem_push_iff is hm pr k, ← Bool.decide_or, decide_eq_true_eq, decide_eq_true_eq]
   exact z7q D x k
  have sz : e1.size = es.size + 1 := by rw [← Array.length_toList, pr.length_eq, List.length_append, Array.length_toList]; rfl
  have hn1 : e1.size = (z1a D x).length := by rw [sz, grow, List.length_append, hn]; rfl
  have hb1 : e1.size < scanBound := by rw [sz, hn]; exact room
  have gw : ∀ (b : Bool) (s₁ : Shared) (Q' : Unit → Shared → Prop), Q' () s₁ →
    wpAny (model prog w) A (match b with | true => rule "set.scan.the-table-gave-way" | false => pure ()) Q' E s₁ := fun b s₁ Q' q => by
   cases b
   ·exact wpAny_pure q
   ·exact wpAny_rule q
  refine wpAny_bind (gw _ _ _ ?_)
  split
  ·refine wpAny_bind ?_
   rw [hashByValue_scannable 8 rfl]
   refine wpAny_pure ?_
   refine z6q (t1 := { t1 with plain := false }) gw ho hx hd he1 hm1 hb1 (SetTable.fits_plain_off fr) hn1 rfl fun h' sb T' => ?_
   dsimp only
   refine wpAny_pure (h h' true sb ?_)
   rw [← hl, ← lr.1]; exact T'
  ·rename_i np
   refine wpAny_bind (wpAny_pure ?_)
   simp only [↓reduceIte]
   refine z6q (t1 := t1) gw ho hx hd he1 hm1 hb1 fr hn1 (by simpa using np) fun h' sb T' => ?_
   dsimp only
   refine wpAny_pure (h h' true sb ?_)
   rw [← hl, ← lr.1]; exact T'
end
section
variable {prog : Program} {w : World} {A : Around} {R : Result → Shared → Prop} {I : Addr}
variable {fp wr : List Addr} {G : Array GenState → Array GenState → Prop} {P : Nat → Value → Prop} {St : Nat → Shared → Prop}
theorem z9m {ss : List Str} (W : WalksS prog w A.in1 I fp wr G ss.length P St) (a : Addr) (ha : a ∉ fp)
  {led : Bool} (hv : ∀ i v (h : i < ss.length), P i v → ∃ t, v = .str ss[i] t) (hb : ss.length + 1 < scanBound) :
  ∀ (k i : Nat) (s : Shared), ss.length - i = k → i ≤ ss.length → St i s → TextSet prog w s.heap a (z1n (ss.take i)) led →
   (∀ s', Moved (a :: wr) G s s' → TextSet prog w s'.heap a (z1n ss) led → R (.ok (.ret .none)) s') →
   codeAny (model prog w) A (.builtin "set.update.loop" ⟨[.ref a, .ref I], []⟩) R s := by
 have haw : a ∉ wr := fun h => ha (W.sub _ h)
 intro k
 induction k with
 | zero =>
  intro i s hk hi st T hR
  have ei : i = ss.length := by omega
  subst ei
  rw [List.take_length] at T
  refine codeAny_builtin PyProof.Rows.F.entry_set_update_loop ?_
  rw [Around.under_plainId PyProof.Rows.F.plain_set_update_loop _]
  refine wpAny_bind (m := pyNext (.ref I)) (W.done s _ _ st fun s' mv => ?_)
  refine wpAny_pure (hR s' (mv.mono fun b h => .tail _ h) (T.keep fun o e => mv.heap a o haw e))
 | succ k ih =>
  intro i s hk hi st T hR
  have lt : i < ss.length := by omega
  refine codeAny_builtin PyProof.Rows.F.entry_set_update_loop ?_
  rw [Around.under_plainId PyProof.Rows.F.plain_set_update_loop _]
  refine wpAny_bind (m := pyNext (.ref I)) (W.item i s _ _ lt st fun v s' hP st' mv => ?_)
  obtain ⟨t, rfl⟩ := hv i v lt hP
  have T' := T.keep (h' := s'.heap) fun o e => mv.heap a o haw e
  refine wpAny_bind (m := holding [Value.str ss[i] t] (setAdd a (.str ss[i] t))) (wpAny_holding ?_)
  unfold setAdd
  refine wpAny_holding ?_
  refine wpAny_bind ((strKind prog w).pyHash (k := ss[i]) (strKind_is prog w _ t) ?_)
  have room : (z1n (ss.take i)).length + 1 < scanBound := by
   have := zg1 (ss.take i)
   rw [List.length_take] at this
   omega
  refine zcq (s := { s' with toks := s'.toks + 1 }) T' room fun h2 _ sb T2 => ?_
  have T3 : TextSet prog w h2 a (z1n (ss.take (i + 1))) led := by
   rw [zcp ss i lt]; exact T2
  refine wpAny_pure ⟨plainId_quiet PyProof.Rows.F.plain_set_update_loop _, ih (i + 1) _ (by omega) lt ?_ T3 fun s3 mv3 T4 => ?_⟩
  ·refine W.frame _ s' _ _ st' (Nat.le_succ _) fun b hbf o e => ?_
   rw [sb.2 b fun e' : b = a => ha (e' ▸ hbf)]
   exact e
  ·refine hR s3 (Moved.trans W.gtrans ((mv.mono fun b h => .tail _ h).then_heap (Nat.le_succ _) fun b o hbw e => ?_) mv3) T4
   rw [sb.2 b fun e' : b = a => hbw (e' ▸ .head _)]
   exact e
end
abbrev z2t (w : World) : Bool := !(w.params.followText "set-order")
section
variable {prog : Program} {w : World} {A : Around} {E : Value → Shared → Prop} {s : Shared}
abbrev z1x (led : Bool) : Obj := { cls := .type "set", dict := none, data := .set #[] 0 (.fresh 0 0 led) }
theorem zcr (a : Value) {Q₁ : Value → Shared → Prop}
  (h : Q₁ (.ref s.heap.objs.size) { s with heap := s.heap.push (z1x (z2t w)) }) :
  codeAny (model prog w) A (.call (.builtin "set.__new__") ⟨[.type "set", a], []⟩) (wants Q₁ E) s := by
 refine codeAny_of_tree ?_
 have c := F.newCall_set_1 a
 show wpAny _ A.in1 (checkBuiltinCall "set.__new__" ⟨[.type "set", a], []⟩ >>= fun _ => again (.builtin "set.__new__" ⟨[.type "set", a], []⟩)) _ _ s
 refine wpAny_bind (wpAny_of_eq c (wpAny_pure ⟨plainId_quiet F.plain_set_new _, ?_⟩))
 refine codeAny_builtin F.entry_set_new ?_
 rw [Around.under_plainId F.plain_set_new _]
 unfold Builtin.«set.__new__» Builtin.Frozenset.newClass
 have sub := sub_set_self
 obtain ⟨hp, g, d, tk, os⟩ := s
 dsimp only
 wp_walk
 refine wpAny_askSetting (wpAny_pure ?_)
 dsimp only
 simp only [newObj]
 refine wpAny_bind (wpAny_alloc (wpAny_pure ?_))
 exact wpAny_pure h
theorem zau {h : Heap} {a : Addr} {led : Bool} (g : h.get? a = some (z1x led)) : TextSet prog w h a [] led :=
 ⟨_, #[], 0, .fresh 0 0 led, g, ⟨rfl, rfl, rfl⟩, rfl, fun e q => by simp at q, fun k => by simp, by decide, by cases led <;> decide, rfl, rfl, fun z => absurd rfl z⟩
end
end PySem
end
section
namespace PySem
open PyProof.Rows (StrsAre)
section
variable {prog : Program} {w : World} {A : Around} {E : Value → Shared → Prop} {s : Shared}
theorem z7s : ∀ {vs : List Value} {ss : List Str}, StrsAre vs ss → ∀ (i : Nat) (v : Value) (h : i < ss.length), vs[i]? = some v → ∃ t, v = .str ss[i] t
 | _, _, .nil, i, v, h, e => by simp at e
 | _, _, .cons y t r, 0, v, h, e => by simp at e; exact ⟨t, e.symm⟩
 | _, _, .cons y t r, i + 1, v, h, e => by
  simp only [List.getElem?_cons_succ] at e
  simpa using z7s r i v (by simpa using h) e
theorem z9n {l : Addr} {items : Array Value} {ss : List Str} {Q : Value → Shared → Prop} (hh : A.handled = none)
  (hl : s.heap.IsList l items) (hi : StrsAre items.toList ss) (hb : ss.length + 1 < scanBound)
  (h : ∀ (h' : Heap) (tk : Nat), TextSet prog w h' s.heap.objs.size (z1n ss) (z2t w) → s.toks ≤ tk →
   (∀ b o, s.heap.get? b = some o → h'.get? b = some o) → Q (.ref s.heap.objs.size) { s with heap := h', toks := tk }) :
  wpAny (model prog w) A (call (.type "set") [.ref l]) Q E s := by
 obtain ⟨_, _, mro⟩ := F.called_set.mro
 have made := F.called_set.made
 have self := F.called_set.sub
 refine wpAny_call (codeAny_of_tree ?_)
 show wpAny _ _ (callAny (.type "set") _) _ _ _
 refine wpAny_pure ⟨Code.quiet_builtin _ (by decide +kernel), ?_⟩
 refine codeAny_builtin F.entry_type_call ?_
 rw [Around.under_plain (weight_type_call_type "set" [.ref l] []) rfl]
 have n1 := F.called_set.notType
 have n2 := F.called_set.canCreate
 have n3 := F.typeCall_set_1 (.ref l)
 repeat (any_goals (first | assumption | wp_step))
 refine codeAny_mono (zcr (.ref l) (E := E)
  (Q₁ := fun x s₁ => ∃ led : Bool, led = z2t w ∧ x = .ref s.heap.objs.size ∧ s₁ = { s with heap := s.heap.push (z1x led) }) ⟨_, rfl, rfl, rfl⟩) fun r s₁ hr => ?_
 match r, hr with
 | .error e, hr => exact hr
 | .ok (.ret x), hr =>
  obtain ⟨led, hled, rfl, rfl⟩ := hr
  have gS : (s.heap.push (z1x led)).get? s.heap.objs.size = some (z1x led) := Heap.get?_push_size _ rfl
  have ty : Shared.TypeIs { s with heap := s.heap.push (z1x led) } (.ref s.heap.objs.size) "set" := ⟨_, gS, rfl⟩
  have look := F.called_set.init.lookup
  have bound := F.called_set.init.bind (.ref s.heap.objs.size)
  repeat (any_goals (first | assumption | wp_step))
  refine codeAny_mono (codeAny_call_builtin (R := wants (fun r s₂ => r = .none ∧ ∃ h' tk, s₂ = { s with heap := h', toks := tk } ∧
   TextSet prog w h' s.heap.objs.size (z1n ss) (z2t w) ∧ s.toks ≤ tk ∧ ∀ b o, s.heap.get? b = some o → h'.get? b = some o) E)
   F.called_set.init.plain F.entry_set_init (check_set_init_1 ty ?_)) fun r₂ s₂ hr₂ => ?_
  ·obtain ⟨ol, gl, cl, nl, dl⟩ := hl
   obtain ⟨ocls, odict, odata, oslots⟩ := ol
   simp only at cl dl
   subst cl dl
   have gl' : (s.heap.push (z1x led)).get? l = some { cls := .type "list", dict := odict, data := .seq items nl, slots := oslots } :=
    Heap.get?_push_of_some _ gl
   have m1 := F.sub_list_set
   have m2 := F.sub_list_frozenset
   have m3 : (Value.type "list" == Value.type "dict") = false := by decide
   have isl : (s.heap.push (z1x led)).IsList l items := ⟨_, gl', rfl, nl, rfl⟩
   unfold Builtin.«set.__init__» noKeywords Builtin.Frozenset.updateFrom
   generalize hPI : pyIter = PI
   wp_walk
   subst hPI
   refine wpAny_pyIter_list isl ?_
   refine wpAny_bind (wpAny_runValue ?_)
   have lt : l < s.heap.objs.size := Heap.lt_size gl
   have h3 : A.in1.in1.in1.handled = none := by simp [hh]
   have lI : l ≠ (s.heap.push (z1x led)).objs.size := by
    rw [Heap.size_push]; exact Nat.ne_of_lt (Nat.lt_succ_of_lt lt)
   have aI : s.heap.objs.size ∉ [(s.heap.push (z1x led)).objs.size, l] := by
    rw [Heap.size_push]; intro m
    rcases List.mem_cons.mp m with e | m
    ·exact Nat.ne_of_lt (Nat.lt_succ_self _) e
    ·exact Nat.ne_of_gt lt (List.mem_singleton.mp m)
   have len : items.size = ss.length := by rw [← Array.length_toList]; exact hi.length
   have hv : ∀ (i : Nat) (v : Value) (h : i < ss.length), items[i]? = some v → ∃ t, v = .str ss[i] t :=
    fun i v h e => z7s hi i v h (by rw [Array.getElem?_toList]; exact e)
   have WW := ((Walks.list (prog := prog) (w := w) h3 _ l lI items).toS)
   rw [len] at WW
   refine z9m (led := z2t w) WW s.heap.objs.size aI hv hb (ss.length - 0) 0 _ (by omega) (Nat.zero_le _)
    ⟨⟨_, Heap.get?_push_size _ rfl, rfl, rfl⟩, (isl.push _)⟩ ?s0 ?sR
   case s0 =>
    have g2 : ((s.heap.push (z1x led)).push { cls := .type "list_iterator", data := .fields #[.ref l, .int 0 0] }).get? s.heap.objs.size = some (z1x led) :=
     Heap.get?_push_of_some _ gS
    rw [← hled]; exact zau g2
   case sR =>
    intro s' mv T
    obtain ⟨h', g', d', tk', os'⟩ := s'
    obtain rfl : g' = s.gens := mv.gens
    obtain rfl : d' = s.drawn := mv.drawn
    obtain rfl : os' = s.os := mv.os
    show wpAny _ _ _ _ _ _
    refine wpAny_pure ?_
    show wpAny _ _ (ret Value.none) _ _ _
    refine wpAny_pure ⟨rfl, h', tk', rfl, T, mv.toks, fun b o e => ?_⟩
    have bl := Heap.lt_size e
    refine mv.heap b o ?_ (Heap.get?_push_of_some _ (Heap.get?_push_of_some _ e))
    rw [Heap.size_push]; intro m
    rcases List.mem_cons.mp m with e | m
    ·exact Nat.ne_of_lt bl e
    ·exact Nat.ne_of_lt (Nat.lt_succ_of_lt bl) (List.mem_singleton.mp m)
  ·match r₂, hr₂ with
   | .error e, hr₂ => exact hr₂
   | .ok (.ret r), hr₂ =>
    obtain ⟨rfl, h', tk, rfl, T, lt, old⟩ := hr₂
    repeat (any_goals (first | assumption | wp_step))
    exact h _ _ T lt old
end
end PySem
end
section
namespace PySem
open PyProof.Rows (StrsAre)
section
variable {prog : Program} {w : World} {A : Around} {E : Value → Shared → Prop}
theorem zbu {src : Source} {n : Nat} {Q : Nat → Shared → Prop} {s : Shared} (hn : n ≠ 0)
  (h : ∀ i, i < n → Q i { s with drawn := s.drawn.bump src }) : wpAny (model prog w) A (choose src n) Q E s := by
 intro Γ p hA
 exact ⟨hn, h _ (Nat.mod_lt _ (Nat.pos_of_ne_zero hn))⟩
theorem z46 {α : Type} : ∀ (l : List α) (i : Nat) (h : i < l.length), List.Perm (l[i] :: l.eraseIdx i) l
 | x :: l, 0, h => by simp
 | x :: l, i + 1, h => by
  have := z46 l i (by simpa using h)
  simp only [List.getElem_cons_succ, List.eraseIdx_cons_succ]
  exact (List.Perm.swap ..).trans (this.cons x)
theorem zav {α : Type} : drawOrder 0 ([] : List α) = pure [] := by rw [drawOrder]
theorem z8t {α : Type} (n : Nat) : ∀ (xs : List α) {Q : List α → Shared → Prop} {s : Shared}, xs.length = n →
  (∀ ys d, List.Perm ys xs → Q ys { s with drawn := d }) → wpAny (model prog w) A (drawOrder n xs) Q E s := by
 induction n with
 | zero =>
  intro xs Q s hl h
  have e := List.length_eq_zero_iff.mp hl
  subst e
  rw [zav]
  exact wpAny_pure (h [] s.drawn .nil)
 | succ n ih =>
  intro xs Q s hl h
  cases xs with
  | nil => cases hl
  | cons x xs =>
   rw [drawOrder]
   case x_2 => intro z; cases z
   refine wpAny_bind (zbu (by simp) fun i hi => ?_)
   rw [List.getElem?_eq_getElem hi]
   dsimp only
   refine wpAny_bind (ih _ (by rw [List.length_eraseIdx_of_lt hi]; omega) fun ys d pr => ?_)
   exact wpAny_pure (h _ d ((pr.cons _).trans (z46 _ _ hi)))
theorem z7t {α : Type} (next : Nat → Nat) : ∀ (fuel k : Nat) (left : List α) (out : Array α), left.length = fuel →
  (pickOrder.go next fuel k left out).toList.Perm (out.toList ++ left)
 | 0, k, left, out, h => by
  rw [List.length_eq_zero_iff.mp h]; unfold pickOrder.go; simp
 | fuel + 1, k, left, out, h => by
  unfold pickOrder.go
  have hi : next k % left.length < left.length := Nat.mod_lt _ (by omega)
  rw [List.getElem?_eq_getElem hi]
  dsimp only
  refine (z7t next fuel _ _ _ (by rw [List.length_eraseIdx_of_lt hi]; omega)).trans ?_
  rw [Array.toList_push, List.append_assoc]
  exact (z46 _ _ hi).append_left _
theorem z3s {α : Type} (next : Nat → Nat) (xs : Array α) : (pickOrder next xs).toList.Perm xs.toList := by
 have := z7t next xs.size 0 xs.toList #[] (by simp)
 simpa [pickOrder] using this
end
end PySem
end
section
namespace PySem
open PyProof.Rows (StrsAre)
theorem zaw : entryFor table "set.__iter__" = some Builtin.«frozenset.__iter__» :=
 entryFor_alias (id' := "frozenset.__iter__") (by kernel_rfl) rfl (by decide +kernel) (by kernel_rfl)
theorem zbv (v : Value) : argsOk "set.__iter__" ⟨[v], []⟩ := by unfold argsOk; kernel_rfl
theorem slot_setNext : Slot "set_iterator" "__next__" "set_iterator.__next__" := by
 refine .of (owner := "set_iterator") (n := "__next__") ?_ ?_ ?_ ?_ ?_ ?_
 ·rw [typeLookup_type, builtinLookup_eq_fast]; kernel_rfl
 ·decide +kernel
 ·decide +kernel
 ·decide +kernel
 ·first
   | exact .inl (by decide +kernel)
   | exact .inr (by decide +kernel)
 ·rw [isSubtype_type]; kernel_rfl
theorem z4r : Slot "set_iterator" "__iter__" "set_iterator.__iter__" := by
 refine .of (owner := "set_iterator") (n := "__iter__") ?_ ?_ ?_ ?_ ?_ ?_
 ·rw [typeLookup_type, builtinLookup_eq_fast]; kernel_rfl
 ·decide +kernel
 ·decide +kernel
 ·decide +kernel
 ·first
   | exact .inl (by decide +kernel)
   | exact .inr (by decide +kernel)
 ·rw [isSubtype_type]; kernel_rfl
theorem z3b : entryFor table "set_iterator.__next__" = some Builtin.«set_iterator.__next__» := by
 refine entryFor_of_tree ?_
 kernel_rfl
theorem z3k (v : Value) : argsOk "set_iterator.__next__" ⟨[v], []⟩ := by unfold argsOk; kernel_rfl
section
variable {prog : Program} {w : World} {A : Around} {E : Value → Shared → Prop} {s : Shared}
theorem z2m {Q : Bool → Shared → Prop} (h : Q (w.params.followText "set-order") s) :
  wpAny (model prog w) A setsByText Q E s := by
 unfold setsByText
 exact wpAny_bind (wpAny_askSetting (wpAny_pure h))
abbrev z1g (first : Value) (i : Nat) (a : Addr) (n ep : Nat) : Obj :=
 { cls := .type "set_iterator", data := .fields #[first, .int i 0, .ref a, .int n 0, .int ep 0] }
theorem zeh {a : Addr} {o : Obj} {es : Array (Int × Value)} {ep : Nat} {t : SetTable} {Q : Value → Shared → Prop}
  (ho : s.heap.get? a = some o) (hx : o.ExactSet) (hd : o.data = .set es ep t) (hf : t.fits es.size = true) (hb : es.size < scanBound)
  (hdrawn : w.params.followText "set-order" = false → t.plain = false → es.size > 1 → ∀ (ps : List Nat) d, ps.Perm (List.range es.size) →
   Q (.ref (s.heap.objs.size + 1)) { s with
    heap := (s.heap.push { cls := .type "tuple", data := .seq (ps.map fun (i : Nat) => rawInt i).toArray }).push (z1g (.ref s.heap.objs.size) 0 a es.size ep), drawn := d })
  (hplace : (w.params.followText "set-order" = true ∨ t.plain = true ∨ es.size ≤ 1) →
   Q (.ref s.heap.objs.size) { s with heap := s.heap.push (z1g (.int 0 0) 0 a es.size ep) }) :
  wpAny (model prog w) A (pyIter (.ref a)) Q E s := by
 have ty : s.TypeIs (.ref a) "set" := ⟨o, ho, hx.1⟩
 refine wpAny_pyIter_slot ty F.slot_set_iter (wpAny_call_entry F.slot_set_iter ty zaw ?_ (zbv _))
 unfold Builtin.«frozenset.__iter__» Builtin.Frozenset.slot0 slotArgs
 simp only [List.isEmpty_nil, Bool.not_true, Bool.false_eq_true, ↓reduceIte, bind_assoc, List.length_nil, bne_self_eq_false]
 unfold Builtin.Frozenset.addrOf Builtin.Frozenset.sizeOf setDrawn
 refine wpAny_bind (wpAny_pure ?_)
 dsimp only
 refine wpAny_bind (wpAny_pure ?_)
 refine wpAny_bind (wpAny_bind (wpAny_setEntries_of ho hd hf (wpAny_pure ?_)))
 refine wpAny_bind (wpAny_bind (wpAny_setState_of ho hd hf ?_))
 dsimp only
 refine wpAny_bind (z2m (wpAny_pure ?_))
 have look := slot_setNext.lookup
 by_cases c : (!w.params.followText "set-order" && (!t.plain && decide (es.size > 1))) = true
 ·refine (?_ : wpAny _ _ (if (!w.params.followText "set-order" && (!t.plain && decide (es.size > 1))) = true then _ else _) _ _ _)
  rw [if_pos c]
  simp only [Bool.and_eq_true, Bool.not_eq_true', decide_eq_true_eq] at c
  refine wpAny_bind (z8t _ _ (by simp) fun ps d pr => ?_)
  unfold newTuple
  refine wpAny_bind (wpAny_newObj_type ?_ (by
   have l := fits_of_scanBound hb
   have z := pr.length_eq
   simp only [List.length_range] at z
   show _ ≤ sizeLine
   simp only [List.size_toArray, List.length_map]
   omega))
  refine wpAny_bind (wpAny_setEpoch_of (Heap.get?_push_of_some _ ho) hd hf ?_)
  unfold newFields
  refine wpAny_bind (wpAny_newObj_type (wpAny_pure ⟨_, rfl, "set_iterator", _, ⟨_, Heap.get?_push_size _ rfl, rfl⟩, look, ?_⟩))
  have := hdrawn c.1 c.2.1 c.2.2 ps d pr
  rw [Heap.size_push]
  exact this
 ·refine (?_ : wpAny _ _ (if (!w.params.followText "set-order" && (!t.plain && decide (es.size > 1))) = true then _ else _) _ _ _)
  rw [if_neg c]
  refine wpAny_bind (wpAny_pure ?_)
  refine wpAny_bind (wpAny_setEpoch_of ho hd hf ?_)
  unfold newFields
  refine wpAny_bind (wpAny_newObj_type (wpAny_pure ⟨_, rfl, "set_iterator", _, ⟨_, Heap.get?_push_size _ rfl, rfl⟩, look, ?_⟩))
  refine hplace ?_
  cases hb : w.params.followText "set-order" with
  | true => exact .inl rfl
  | false =>
   cases hp : t.plain with
   | true => exact .inr (.inl rfl)
   | false =>
    refine .inr (.inr ?_)
    rw [hb, hp] at c; simp at c; omega
def SetIterAt (h : Heap) (I : Addr) (first : Value) (i : Nat) (a : Addr) (n ep : Nat) : Prop :=
 ∃ o, h.get? I = some o ∧ o.cls = .type "set_iterator" ∧ o.data = .fields #[first, .int i 0, .ref a, .int n 0, .int ep 0]
theorem zax {I T a : Addr} {i : Nat} {o oT : Obj} {es : Array (Int × Value)} {ep : Nat} {t : SetTable} {ps : List Nat} {nT : Nat} {Q : Option Value → Shared → Prop}
  (ho : s.heap.get? a = some o) (hd : o.data = .set es ep t) (hf : t.fits es.size = true)
  (hi : SetIterAt s.heap I (.ref T) i a es.size ep) (gT : s.heap.get? T = some oT) (dT : oT.data = .seq (ps.map fun (i : Nat) => rawInt i).toArray nT)
  {p : Nat} {e : Int × Value} (hp : ps[i]? = some p) (he : es[p]? = some e)
  (h : ∀ h', SetIterAt h' I (.ref T) (i + 1) a es.size ep → Heap.SameBut I s.heap h' → Q (some e.2) { s with heap := h' }) :
  wpAny (model prog w) A (pyNext (.ref I)) Q E s := by
 obtain ⟨oI, gI, cI, dI⟩ := hi
 have ty : s.TypeIs (.ref I) "set_iterator" := ⟨oI, gI, cI⟩
 unfold pyNext
 refine wpAny_bind (wpAny_attempt (wpAny_callSpecial?_slot (name := Str.ofString "__next__") ty slot_setNext
  (wpAny_call_entry slot_setNext ty z3b ?_ (z3k _))))
 unfold Builtin.«set_iterator.__next__» slotArgs
 simp only [List.isEmpty_nil, Bool.not_true, Bool.false_eq_true, ↓reduceIte, bind_assoc, List.length_nil, bne_self_eq_false]
 refine wpAny_bind (wpAny_pure ?_)
 dsimp only
 refine wpAny_bind (wpAny_fieldsOf gI dI ?_)
 dsimp only
 refine wpAny_bind (wpAny_setEntries_of ho hd hf ?_)
 rw [if_neg (show ¬ ((((es.size : Nat) : Int) != ((es.size : Nat) : Int)) = true) by simp)]
 refine wpAny_bind (wpAny_seqItems gT dT ?_)
 have look : (ps.map fun (i : Nat) => rawInt i).toArray[(↑i : Int).toNat]? = some (.int p 0) := by
  simp [hp, rawInt]
 dsimp only
 rw [look]
 dsimp only
 unfold setNextDrawn
 refine wpAny_bind (wpAny_bind (wpAny_setState_of ho hd hf ?_))
 dsimp only
 rw [if_neg (show ¬ ((ep != (↑ep : Int).toNat) = true) by simp)]
 have look2 : es[(↑p : Int).toNat]? = some e := by simpa using he
 rw [look2]
 dsimp only
 refine wpAny_pure ?_
 refine wpAny_bind (wpAny_setField gI dI (by simp) (wpAny_pure ⟨e.2, rfl, wpAny_pure (h _ ?_ (Heap.SameBut.update ..))⟩))
 refine ⟨_, Heap.get?_update_self _ gI (Obj.isFreed_of_fields (Obj.data_mapFields dI _)), (Obj.cls_mapFields ..).trans cI, ?_⟩
 rw [Obj.data_mapFields dI]
 simp [rawInt]
end
end PySem
end
section
namespace PySem
open PyProof.Rows (StrsAre)
section
variable {prog : Program} {w : World} {A : Around} {E : Value → Shared → Prop} {s : Shared}
theorem z7f {I T a : Addr} {i : Nat} {o oT : Obj} {es : Array (Int × Value)} {ep : Nat} {t : SetTable} {ps : List Nat} {nT : Nat} {Q : Option Value → Shared → Prop}
  (hh : A.handled = none) (ho : s.heap.get? a = some o) (hd : o.data = .set es ep t) (hf : t.fits es.size = true)
  (hi : SetIterAt s.heap I (.ref T) i a es.size ep) (gT : s.heap.get? T = some oT) (dT : oT.data = .seq (ps.map fun (i : Nat) => rawInt i).toArray nT)
  (hp : ps[i]? = none) (h : ∀ h', Heap.ExtBut I s.heap h' → Q none { s with heap := h' }) :
  wpAny (model prog w) A (pyNext (.ref I)) Q E s := by
 obtain ⟨oI, gI, cI, dI⟩ := hi
 have ty : s.TypeIs (.ref I) "set_iterator" := ⟨oI, gI, cI⟩
 unfold pyNext
 refine wpAny_bind (wpAny_attempt (wpAny_callSpecial?_slot (name := Str.ofString "__next__") ty slot_setNext
  (wpAny_call_entry slot_setNext ty z3b ?_ (z3k _))))
 unfold Builtin.«set_iterator.__next__» slotArgs
 simp only [List.isEmpty_nil, Bool.not_true, Bool.false_eq_true, ↓reduceIte, bind_assoc, List.length_nil, bne_self_eq_false]
 refine wpAny_bind (wpAny_pure ?_)
 dsimp only
 refine wpAny_bind (wpAny_fieldsOf gI dI ?_)
 dsimp only
 refine wpAny_bind (wpAny_setEntries_of ho hd hf ?_)
 rw [if_neg (show ¬ ((((es.size : Nat) : Int) != ((es.size : Nat) : Int)) = true) by simp)]
 refine wpAny_bind (wpAny_seqItems gT dT ?_)
 have look : (ps.map fun (i : Nat) => rawInt i).toArray[(↑i : Int).toNat]? = none := by
  simp at hp; simp [hp]
 dsimp only
 rw [look]
 dsimp only
 refine wpAny_bind (wpAny_setField gI dI (by simp) ?_)
 have g2 := Heap.get?_update_self (Obj.mapFields (·.setIfInBounds 0 (rawInt 0))) gI (Obj.isFreed_of_fields (Obj.data_mapFields dI _))
 refine wpAny_bind (wpAny_setField g2 (Obj.data_mapFields dI _) (by simp) ?_)
 refine wpAny_bind ?_
 simp only [newExc, newTuple]
 refine wpAny_bind (wpAny_newObj_type ?_ (by size_fits))
 refine wpAny_bind (m := firstArgMember _ _) (wpAny_of_eq (a := Value.none) (by simp only [firstArgMember]; rfl) ?_)
 refine wpAny_newObj_type ?_ (by size_fits)
 simp only [raiseNew]
 refine wpAny_bind (wpAny_handled ?_)
 rw [show A.in1.handled = none from hh]
 refine wpAny_bind (wpAny_pure (wpAny_throw ?_))
 refine wpAny_bind (wpAny_isInstance (T := "StopIteration") (b := true) ⟨_, Heap.get?_push_size _ rfl, rfl⟩ isSubtype_stop ?_)
 exact wpAny_pure (h _ ((((Heap.SameBut.update ..).trans (Heap.SameBut.update ..)).extBut.push _).push _))
theorem z6r {a : Addr} {o : Obj} {es : Array (Int × Value)} {ep : Nat} {t : SetTable} {slot i : Nat} {Q : Option (Value × Nat) → Shared → Prop}
  (hw : w.params.followText "set-order" = true) (ho : s.heap.get? a = some o) (hd : o.data = .set es ep t) (hf : t.fits es.size = true)
  (h : Q (((pickOrder (w.params.setOrder a ep) es)[i]?).map fun e => (e.2, slot)) s) : wpAny (model prog w) A (setNext a slot i ep) Q E s := by
 unfold setNext
 refine wpAny_bind (wpAny_setState_of ho hd hf ?_)
 dsimp only
 refine wpAny_bind (z2m ?_)
 rw [hw]
 simp only [↓reduceIte, bne_self_eq_false, Bool.false_eq_true]
 unfold setWalk
 refine wpAny_bind (wpAny_bind (wpAny_setState_of ho hd hf ?_))
 dsimp only
 refine wpAny_bind (z2m ?_)
 rw [hw]
 simp only [↓reduceIte]
 refine wpAny_bind (wpAny_askSetting (wpAny_pure ?_))
 exact wpAny_pure h
theorem z7u {a : Addr} {o : Obj} {es : Array (Int × Value)} {ep : Nat} {t : SetTable} {slot i : Nat} {Q : Option (Value × Nat) → Shared → Prop}
  (hw : w.params.followText "set-order" = false) (ho : s.heap.get? a = some o) (hd : o.data = .set es ep t) (hf : t.fits es.size = true)
  (hn : es.size ≤ 1) (hl : t.led = true)
  (h : Q (match es[SetTable.below t.place slot]?, t.place[SetTable.below t.place slot]? with
   | some (_, x), some j => some (x, j + 1)
   | _, _ => none) s) : wpAny (model prog w) A (setNext a slot i ep) Q E s := by
 unfold setNext
 refine wpAny_bind (wpAny_setState_of ho hd hf ?_)
 dsimp only
 refine wpAny_bind (z2m ?_)
 rw [hw]
 simp only [Bool.false_eq_true, ↓reduceIte]
 refine (?_ : wpAny _ _ (if (!t.plain && decide (es.size > 1)) = true then _ else _) _ _ _)
 rw [if_neg (by simp; omega)]
 refine wpAny_bind (m := if (!t.led && !es.isEmpty) = true then unsupported "set:maker-not-led" else pure ()) ?_
 rw [if_neg (by simp [hl])]
 exact wpAny_pure (wpAny_pure h)
end
end PySem
end
section
namespace PySem
open PyProof.Rows (StrsAre)
section
variable {prog : Program} {w : World} {A : Around} {E : Value → Shared → Prop} {s : Shared}
theorem z6s {I a : Addr} {slot i next : Nat} {x : Value} {o : Obj} {es : Array (Int × Value)} {ep : Nat} {t : SetTable} {Q : Option Value → Shared → Prop}
  (ho : s.heap.get? a = some o) (hd : o.data = .set es ep t) (hf : t.fits es.size = true)
  (hi : SetIterAt s.heap I (.int slot 0) i a es.size ep)
  (hs : ∀ (A : Around) (E : Value → Shared → Prop) (Q : Option (Value × Nat) → Shared → Prop), Q (some (x, next)) s → wpAny (model prog w) A (setNext a slot i ep) Q E s)
  (h : ∀ h', SetIterAt h' I (.int next 0) (i + 1) a es.size ep → Heap.SameBut I s.heap h' → Q (some x) { s with heap := h' }) :
  wpAny (model prog w) A (pyNext (.ref I)) Q E s := by
 obtain ⟨oI, gI, cI, dI⟩ := hi
 have ty : s.TypeIs (.ref I) "set_iterator" := ⟨oI, gI, cI⟩
 unfold pyNext
 refine wpAny_bind (wpAny_attempt (wpAny_callSpecial?_slot (name := Str.ofString "__next__") ty slot_setNext
  (wpAny_call_entry slot_setNext ty z3b ?_ (z3k _))))
 unfold Builtin.«set_iterator.__next__» slotArgs
 simp only [List.isEmpty_nil, Bool.not_true, Bool.false_eq_true, ↓reduceIte, bind_assoc, List.length_nil, bne_self_eq_false]
 refine wpAny_bind (wpAny_pure ?_)
 dsimp only
 refine wpAny_bind (wpAny_fieldsOf gI dI ?_)
 dsimp only
 refine wpAny_bind (wpAny_setEntries_of ho hd hf ?_)
 rw [if_neg (show ¬ ((((es.size : Nat) : Int) != ((es.size : Nat) : Int)) = true) by simp)]
 simp only [Int.toNat_natCast]
 refine wpAny_bind (hs _ _ _ ?_)
 dsimp only
 refine wpAny_bind (wpAny_setField gI dI (by simp) ?_)
 have d2 := Obj.data_mapFields dI (·.setIfInBounds 0 (rawInt next))
 have g2 := Heap.get?_update_self (Obj.mapFields (·.setIfInBounds 0 (rawInt next))) gI (Obj.isFreed_of_fields d2)
 refine wpAny_bind (wpAny_setField g2 d2 (by simp) (wpAny_pure ⟨x, rfl, wpAny_pure (h _ ?_ ((Heap.SameBut.update ..).trans (Heap.SameBut.update ..)))⟩))
 refine ⟨_, Heap.get?_update_self _ g2 (Obj.isFreed_of_fields (Obj.data_mapFields d2 _)), ?_, ?_⟩
 ·exact (Obj.cls_mapFields ..).trans ((Obj.cls_mapFields ..).trans cI)
 ·rw [Obj.data_mapFields d2]
  simp [rawInt]
theorem z4s {I a : Addr} {slot i : Nat} {o : Obj} {es : Array (Int × Value)} {ep : Nat} {t : SetTable} {Q : Option Value → Shared → Prop}
  (hh : A.handled = none) (ho : s.heap.get? a = some o) (hd : o.data = .set es ep t) (hf : t.fits es.size = true)
  (hi : SetIterAt s.heap I (.int slot 0) i a es.size ep)
  (hs : ∀ (A : Around) (E : Value → Shared → Prop) (Q : Option (Value × Nat) → Shared → Prop), Q none s → wpAny (model prog w) A (setNext a slot i ep) Q E s)
  (h : ∀ h', Heap.ExtBut I s.heap h' → Q none { s with heap := h' }) :
  wpAny (model prog w) A (pyNext (.ref I)) Q E s := by
 obtain ⟨oI, gI, cI, dI⟩ := hi
 have ty : s.TypeIs (.ref I) "set_iterator" := ⟨oI, gI, cI⟩
 unfold pyNext
 refine wpAny_bind (wpAny_attempt (wpAny_callSpecial?_slot (name := Str.ofString "__next__") ty slot_setNext
  (wpAny_call_entry slot_setNext ty z3b ?_ (z3k _))))
 unfold Builtin.«set_iterator.__next__» slotArgs
 simp only [List.isEmpty_nil, Bool.not_true, Bool.false_eq_true, ↓reduceIte, bind_assoc, List.length_nil, bne_self_eq_false]
 refine wpAny_bind (wpAny_pure ?_)
 dsimp only
 refine wpAny_bind (wpAny_fieldsOf gI dI ?_)
 dsimp only
 refine wpAny_bind (wpAny_setEntries_of ho hd hf ?_)
 rw [if_neg (show ¬ ((((es.size : Nat) : Int) != ((es.size : Nat) : Int)) = true) by simp)]
 simp only [Int.toNat_natCast]
 refine wpAny_bind (hs _ _ _ ?_)
 dsimp only
 refine wpAny_bind (wpAny_setField gI dI (by simp) ?_)
 refine wpAny_bind ?_
 simp only [newExc, newTuple]
 refine wpAny_bind (wpAny_newObj_type ?_ (by size_fits))
 refine wpAny_bind (m := firstArgMember _ _) (wpAny_of_eq (a := Value.none) (by simp only [firstArgMember]; rfl) ?_)
 refine wpAny_newObj_type ?_ (by size_fits)
 simp only [raiseNew]
 refine wpAny_bind (wpAny_handled ?_)
 rw [show A.in1.handled = none from hh]
 refine wpAny_bind (wpAny_pure (wpAny_throw ?_))
 refine wpAny_bind (wpAny_isInstance (T := "StopIteration") (b := true) ⟨_, Heap.get?_push_size _ rfl, rfl⟩ isSubtype_stop ?_)
 exact wpAny_pure (h _ (((Heap.SameBut.update ..).extBut.push _).push _))
theorem z9o (p : Nat) : SetTable.below #[p] 0 = 0 := by
 simp [SetTable.below, SetTable.below.go]
theorem z9p (p : Nat) : SetTable.below #[p] (p + 1) = 1 := by
 simp [SetTable.below, SetTable.below.go]
end
end PySem
end
section
namespace PySem
open PyProof.Rows (StrsAre)
theorem z7g : entryFor table "set_iterator.__iter__" = some Builtin.«dict_keyiterator.__iter__» :=
 entryFor_alias (id' := "dict_keyiterator.__iter__") (by kernel_rfl) rfl (by decide +kernel) (by kernel_rfl)
theorem z84 (v : Value) : argsOk "set_iterator.__iter__" ⟨[v], []⟩ := by unfold argsOk; kernel_rfl
section
variable {prog : Program} {w : World} {A : Around} {E : Value → Shared → Prop} {s : Shared}
theorem z4t {I a : Addr} {first : Value} {i n ep : Nat} {Q : Value → Shared → Prop} (hi : SetIterAt s.heap I first i a n ep)
  (h : Q (.ref I) s) : wpAny (model prog w) A (pyIter (.ref I)) Q E s := by
 obtain ⟨o, g, c, d⟩ := hi
 have ty : s.TypeIs (.ref I) "set_iterator" := ⟨o, g, c⟩
 refine wpAny_pyIter_slot ty z4r (wpAny_call_entry z4r ty z7g ?_ (z84 _))
 show wpAny _ _ (ret (.ref I)) _ _ s
 exact wpAny_pure ⟨_, rfl, "set_iterator", _, ty, slot_setNext.lookup, h⟩
theorem SetIterAt.keep {h h' : Heap} {I a : Addr} {first : Value} {i n ep : Nat} (t : SetIterAt h I first i a n ep)
  (e : ∀ o, h.get? I = some o → h'.get? I = some o) : SetIterAt h' I first i a n ep := by
 obtain ⟨o, g, r⟩ := t
 exact ⟨o, e o g, r⟩
theorem zcs (hh : A.handled = none) {I T a : Addr} {o oT : Obj} {es : Array (Int × Value)} {ep : Nat} {t : SetTable} {ps : List Nat} {nT : Nat}
  (hd : o.data = .set es ep t) (hf : t.fits es.size = true) (dT : oT.data = .seq (ps.map fun (i : Nat) => rawInt i).toArray nT)
  (hI : a ≠ I) (hT : T ≠ I) (pr : ps.Perm (List.range es.size)) :
  WalksS prog w A I [I, a, T] [I] (fun x y => x = y) es.size (fun i v => ∃ p e, ps[i]? = some p ∧ es[p]? = some e ∧ v = e.2)
   (fun i s => SetIterAt s.heap I (.ref T) i a es.size ep ∧ s.heap.get? a = some o ∧ s.heap.get? T = some oT) where
 sub := fun b hb => by simp at hb; simp [hb]
 grefl := fun _ => rfl
 gtrans := fun _ _ _ p q => p.trans q
 frame := fun i s h' tk st _ k => ⟨st.1.keep (k I (by simp)), k a (by simp) _ st.2.1, k T (by simp) _ st.2.2⟩
 item := fun i s Q E lt st hQ => by
  have len : ps.length = es.size := by simpa using pr.length_eq
  have hp : ps[i]? = some ps[i] := List.getElem?_eq_getElem (by omega)
  have mem : ps[i] < es.size := List.mem_range.mp (pr.mem_iff.mp (List.getElem_mem _))
  have he : es[ps[i]]? = some es[ps[i]] := Array.getElem?_eq_getElem mem
  refine zax st.2.1 hd hf st.1 st.2.2 dT hp he fun h' si sb => ?_
  refine hQ _ _ ⟨_, _, hp, he, rfl⟩ ⟨si, ?_, ?_⟩ ⟨fun b o' hb e => ?_, rfl, rfl, rfl, Nat.le_refl _⟩
  ·exact (sb.2 a hI).trans st.2.1
  ·exact (sb.2 T hT).trans st.2.2
  ·exact (sb.2 b (by simpa using hb)).trans e
 done := fun s Q E st hQ => by
  have len : ps.length = es.size := by simpa using pr.length_eq
  refine z7f hh st.2.1 hd hf st.1 st.2.2 dT (List.getElem?_eq_none (by omega)) fun h' xb => ?_
  exact hQ _ ⟨fun b o' hb e => xb b o' (by simpa using hb) e, rfl, rfl, rfl, Nat.le_refl _⟩
 self := fun i s Q E st h => z4t st.1 h
theorem zei (hh : A.handled = none) (hw : w.params.followText "set-order" = true) {I a : Addr} {o : Obj} {es : Array (Int × Value)} {ep : Nat} {t : SetTable}
  (hd : o.data = .set es ep t) (hf : t.fits es.size = true) (hI : a ≠ I) :
  WalksS prog w A I [I, a] [I] (fun x y => x = y) es.size (fun i v => ∃ e, (pickOrder (w.params.setOrder a ep) es)[i]? = some e ∧ v = e.2)
   (fun i s => SetIterAt s.heap I (.int (0 : Nat) 0) i a es.size ep ∧ s.heap.get? a = some o) where
 sub := fun b hb => by simp at hb; simp [hb]
 grefl := fun _ => rfl
 gtrans := fun _ _ _ p q => p.trans q
 frame := fun i s h' tk st _ k => ⟨st.1.keep (k I (by simp)), k a (by simp) _ st.2⟩
 item := fun i s Q E lt st hQ => by
  have len : (pickOrder (w.params.setOrder a ep) es).size = es.size := by
   rw [← Array.length_toList, (z3s _ _).length_eq, Array.length_toList]
  have he : (pickOrder (w.params.setOrder a ep) es)[i]? = some (pickOrder (w.params.setOrder a ep) es)[i] := Array.getElem?_eq_getElem (by omega)
  refine z6s (next := 0) (x := (pickOrder (w.params.setOrder a ep) es)[i].2) st.2 hd hf st.1 (fun A' E' Q' q => z6r hw st.2 hd hf (by rw [he]; exact q)) fun h' si sb => ?_
  refine hQ _ _ ⟨_, he, rfl⟩ ⟨si, (sb.2 a hI).trans st.2⟩ ⟨fun b o' hb e => ?_, rfl, rfl, rfl, Nat.le_refl _⟩
  exact (sb.2 b (by simpa using hb)).trans e
 done := fun s Q E st hQ => by
  have len : (pickOrder (w.params.setOrder a ep) es).size = es.size := by
   rw [← Array.length_toList, (z3s _ _).length_eq, Array.length_toList]
  have he : (pickOrder (w.params.setOrder a ep) es)[es.size]? = none := Array.getElem?_eq_none (by omega)
  refine z4s hh st.2 hd hf st.1 (fun A' E' Q' q => z6r hw st.2 hd hf (by rw [he]; exact q)) fun h' xb => ?_
  exact hQ _ ⟨fun b o' hb e => xb b o' (by simpa using hb) e, rfl, rfl, rfl, Nat.le_refl _⟩
 self := fun i s Q E st h => z4t st.1 h
end
end PySem
end
section
namespace PySem
open PyProof.Rows (StrsAre)
section
variable {prog : Program} {w : World} {A : Around} {E : Value → Shared → Prop} {s : Shared}
theorem z8u {t : SetTable} {n : Nat} (h : t.fits n = true) : t.place.size = n := by
 unfold SetTable.fits at h
 simp only [Bool.and_eq_true, beq_iff_eq] at h
 exact h.1
def z2c (t : SetTable) (i : Nat) : Nat := if i = 0 then 0 else t.place.getD 0 0 + 1
theorem zay {t : SetTable} {es : Array (Int × Value)} (hf : t.fits es.size = true) (hn : es.size ≤ 1) {i : Nat} (lt : i < es.size) :
  (match es[SetTable.below t.place (z2c t i)]?, t.place[SetTable.below t.place (z2c t i)]? with
   | some (_, x), some j => some (x, j + 1)
   | _, _ => none) = some (es[i].2, z2c t (i + 1)) := by
 have sz := z8u hf
 obtain rfl : i = 0 := by omega
 have one : t.place.size = 1 := by omega
 obtain ⟨p, hp⟩ : ∃ p, t.place = #[p] := ⟨t.place[0], by
  apply Array.ext
  ·simpa using one
  ·intro k h1 h2
   simp at h2
   subst h2; rfl⟩
 simp only [z2c, hp, if_true, z9o]
 rw [Array.getElem?_eq_getElem lt]
 simp
theorem zbw {t : SetTable} {es : Array (Int × Value)} (hf : t.fits es.size = true) (hn : es.size ≤ 1) :
  (match es[SetTable.below t.place (z2c t es.size)]?, t.place[SetTable.below t.place (z2c t es.size)]? with
   | some (_, x), some j => some (x, j + 1)
   | _, _ => none) = (none : Option (Value × Nat)) := by
 have sz := z8u hf
 by_cases z : es.size = 0
 ·have e : es = #[] := Array.eq_empty_of_size_eq_zero z
  subst e; simp
 ·have one : t.place.size = 1 := by omega
  obtain ⟨p, hp⟩ : ∃ p, t.place = #[p] := ⟨t.place[0], by
   apply Array.ext
   ·simpa using one
   ·intro k h1 h2
    simp at h2
    subst h2; rfl⟩
  have e1 : es.size = 1 := by omega
  have hs : z2c t es.size = p + 1 := by simp [z2c, e1, hp]
  rw [hs, hp, z9p]
  have : es[1]? = none := Array.getElem?_eq_none (by omega)
  rw [this]
theorem zg2 (hh : A.handled = none) (hw : w.params.followText "set-order" = false) {I a : Addr} {o : Obj} {es : Array (Int × Value)} {ep : Nat} {t : SetTable}
  (hd : o.data = .set es ep t) (hf : t.fits es.size = true) (hn : es.size ≤ 1) (hl : t.led = true) (hI : a ≠ I) :
  WalksS prog w A I [I, a] [I] (fun x y => x = y) es.size (fun i v => ∃ e, es[i]? = some e ∧ v = e.2)
   (fun i s => SetIterAt s.heap I (.int (z2c t i) 0) i a es.size ep ∧ s.heap.get? a = some o) where
 sub := fun b hb => by simp at hb; simp [hb]
 grefl := fun _ => rfl
 gtrans := fun _ _ _ p q => p.trans q
 frame := fun i s h' tk st _ k => ⟨st.1.keep (k I (by simp)), k a (by simp) _ st.2⟩
 item := fun i s Q E lt st hQ => by
  refine z6s (next := z2c t (i + 1)) (x := es[i].2) st.2 hd hf st.1
   (fun A' E' Q' q => z7u hw st.2 hd hf hn hl ((congrArg (fun z => Q' z s) (zay hf hn lt)).mpr q)) fun h' si sb => ?_
  refine hQ _ _ ⟨_, Array.getElem?_eq_getElem lt, rfl⟩ ⟨si, (sb.2 a hI).trans st.2⟩ ⟨fun b o' hb e => ?_, rfl, rfl, rfl, Nat.le_refl _⟩
  exact (sb.2 b (by simpa using hb)).trans e
 done := fun s Q E st hQ => by
  refine z4s hh st.2 hd hf st.1
   (fun A' E' Q' q => z7u hw st.2 hd hf hn hl ((congrArg (fun z => Q' z s) (zbw hf hn)).mpr q)) fun h' xb => ?_
  exact hQ _ ⟨fun b o' hb e => xb b o' (by simpa using hb) e, rfl, rfl, rfl, Nat.le_refl _⟩
 self := fun i s Q E st h => z4t st.1 h
end
end PySem
end
section
namespace PySem
open PyProof.Rows (StrsAre)
section
variable {prog : Program} {w : World} {A : Around} {E : Value → Shared → Prop} {s : Shared}
theorem zhc {a : Addr} {Q : Bool → Shared → Prop} (ty : s.TypeIs (.ref a) "set") (h : Q false s) :
  wpAny (model prog w) A (Builtin.List.listLengthHint (.ref a)) Q E s := by
 unfold Builtin.List.listLengthHint
 refine wpAny_bind (wpAny_specialOf ty F.slot_set_len.lookup ?_)
 generalize e : ("set.__len__" : String) = id
 wp_delta
 have sp : splitId id = some ("set", "__len__") := by subst e; decide +kernel
 rw [sp]
 subst e
 refine wpAny_bind (wpAny_isInstance (b := true) ty sub_set_self ?_)
 refine wpAny_ite_split (fun z => absurd z (by decide)) (fun _ => ?_)
 refine wpAny_ite_split (fun _ => ?_) (fun z => absurd (by decide +kernel) z)
 exact wpAny_bind (wpAny_typeOf ty (wpAny_pure h))
theorem z3l {R : Result → Shared → Prop} {a I S : Addr} {fp : List Addr} {n c : Nat} {P : Nat → Value → Prop} {St : Nat → Shared → Prop} {res : Value} {b : Bool}
  (W : WalksS prog w A.in1 I fp [I] (fun x y => x = y) n P St) (hn : n ≤ sizeLine) (hS : S ∉ fp) (st : St 0 s)
  (gS : s.heap.get? S = some { cls := .type "list", data := .seq #[] c }) (ty : s.TypeIs (.ref a) "set")
  (hR : ∀ s' acc c', Moved (S :: [I]) (fun x y => x = y) s s' → s'.heap.get? S = some { cls := .type "list", dict := none, data := .seq acc c', slots := #[] } → ItemsOf P acc n → R (.ok (.ret res)) s') :
  wpAny (model prog w) A.in1 (do
   let room ← holding [.ref I] (Builtin.List.listLengthHint (.ref a))
   if (room || b) = true then do
    rule "list.extend.makes-room"
    Builtin.List.listTouch (.ref S)
    again (.builtin "list.extend.loop" ⟨[.ref S, .ref I, res], []⟩)
   else again (.builtin "list.extend.loop" ⟨[.ref S, .ref I, res], []⟩))
   (fun fin s' => match fin with | .done f => R (.ok f) s' | .again c' => c'.quiet = true ∧ codeAny (model prog w) A c' R s') (fun e s' => R (.error e) s') s := by
 refine wpAny_bind (wpAny_holding (zhc ty ?_))
 refine wpAny_ite_split (fun _ => ?_) (fun _ => wpAny_pure ⟨plainId_quiet F.plain_extend_loop _, codeAny_extend_loopS W hn S hS res n 0 _ #[] c rfl (Nat.zero_le _) st gS (ItemsOf.nil _) hR⟩)
 refine wpAny_bind (wpAny_rule ?_)
 refine wpAny_bind ?_
 show wpAny _ _ (updateSeq S (·.push .none) >>= fun _ => updateSeq S (·.pop)) _ _ _
 refine wpAny_bind (wpAny_updateSeq gS rfl ?_)
 have g2 := Heap.get?_update_self (Obj.mapSeq (·.push Value.none)) gS rfl
 refine wpAny_updateSeq (hz := by seq_fits) g2 rfl ?_
 have g3 := Heap.get?_update_self (Obj.mapSeq (·.pop)) g2 rfl
 have oth : ∀ q o, q ≠ S → s.heap.get? q = some o → ((s.heap.update S (Obj.mapSeq (·.push Value.none))).update S (Obj.mapSeq (·.pop))).get? q = some o :=
  fun q o hq e => (Heap.get?_update_other _ _ (Ne.symm hq)).trans ((Heap.get?_update_other _ _ (Ne.symm hq)).trans e)
 refine wpAny_pure ⟨plainId_quiet F.plain_extend_loop _, codeAny_extend_loopS W hn S hS res n 0 _ _ _ rfl (Nat.zero_le _) ?_ g3 (ItemsOf.nil _) fun s' acc c' mv g ii => ?_⟩
 ·exact W.frame 0 s _ s.toks st (Nat.le_refl _) fun q hq o e => oth q o (fun z => hS (z ▸ hq)) e
 ·refine hR s' acc c' (Moved.trans W.gtrans ((Moved.refl W.grefl).then_heap (Nat.le_refl _) fun q o hq e => ?_) mv) g ii
  exact oth q o (fun z => hq (z ▸ .head _)) e
end
end PySem
end
section
namespace PySem
open PyProof.Rows (StrsAre)
theorem z7v {α : Type} [BEq α] [LawfulBEq α] : ∀ (D ks : List α), D.Nodup → (∀ x ∈ D, x ∈ ks) → ks.length = D.length → ks.Perm D
 | [], ks, _, _, h => by rw [List.length_eq_zero_iff.mp h]
 | x :: D, ks, nd, sub, h => by
  have xin := sub x (.head _)
  have pe := List.perm_cons_erase xin
  refine pe.trans ((z7v D (ks.erase x) (List.nodup_cons.mp nd).2 (fun y hy => ?_) ?_).cons x)
  ·have ne : y ≠ x := fun e => (List.nodup_cons.mp nd).1 (e ▸ hy)
   exact (List.mem_erase_of_ne ne).mpr (sub y (.tail _ hy))
  ·have := pe.length_eq
   simp only [List.length_cons] at this h
   omega
theorem zg3 {P : Nat → Value → Prop} {L : List (Int × Value)} {acc : Array Value} (h : ItemsOf P acc L.length)
  (hP : ∀ i v, P i v → ∃ e, L[i]? = some e ∧ v = e.2) : acc.toList = L.map (·.2) := by
 apply List.ext_getElem?
 intro i
 by_cases lt : i < L.length
 ·have lt' : i < acc.size := by rw [h.1]; exact lt
  obtain ⟨e, he, hv⟩ := hP i acc[i] (h.2 i acc[i] (Array.getElem?_eq_getElem lt'))
  rw [Array.getElem?_toList, Array.getElem?_eq_getElem lt', List.getElem?_map, he, hv]
  rfl
 ·rw [List.getElem?_eq_none (by rw [Array.length_toList, h.1]; omega), List.getElem?_eq_none (by rw [List.length_map]; omega)]
section
variable {prog : Program} {w : World} {A : Around} {E : Value → Shared → Prop} {s : Shared}
theorem zhd {L : List (Int × Value)} {D : List Str} (he : ElemsOf (strKind prog w) L) (nd : D.Nodup)
  (hm : ∀ k, decide (k ∈ D) = true ↔ ∃ e ∈ L, (strKind prog w).is k e.2 = true) (hn : L.length = D.length) :
  ∃ ks, StrsAre (L.map (·.2)) ks ∧ ks.Perm D := by
 have is : ∀ (k : Str) (v : Value), (strKind prog w).is k v = true → ∃ t, v = .str k t := fun k v z => by
  cases v <;> first
   | (obtain rfl := (by simpa [strKind, Value.isInt, Value.isStrOf] using z : _ = k); exact ⟨_, rfl⟩)
   | cases z
 have ex : ∀ L : List (Int × Value), ElemsOf (strKind prog w) L → ∃ ks, StrsAre (L.map (·.2)) ks ∧ ∀ k e, e ∈ L → (strKind prog w).is k e.2 = true → k ∈ ks := by
  intro L
  induction L with
  | nil => exact fun _ => ⟨[], .nil, fun _ _ z => nomatch z⟩
  | cons e L ih =>
   intro he
   obtain ⟨ks, h1, h2⟩ := ih he.tail
   obtain ⟨k, hk, _⟩ := he.head.1
   obtain ⟨t, ht⟩ := is k e.2 hk
   refine ⟨k :: ks, ?_, fun k' e' m z => ?_⟩
   ·rw [List.map_cons, ht]; exact .cons k t h1
   ·rcases List.mem_cons.mp m with rfl | m
    ·rw [(strKind prog w).inj _ k' k z hk]; exact .head _
    ·exact .tail _ (h2 k' e' m z)
 obtain ⟨ks, h1, h2⟩ := ex L he
 refine ⟨ks, h1, z7v D ks nd (fun k hk => ?_) ?_⟩
 ·obtain ⟨e, m, z⟩ := (hm k).mp (decide_eq_true hk)
  exact h2 k e m z
 ·have := h1.length
  rw [List.length_map] at this
  omega
end
end PySem
end
section
namespace PySem
open PyProof.Rows (StrsAre)
section
variable {prog : Program} {w : World} {A : Around} {E : Value → Shared → Prop} {s : Shared}
theorem zaz {a : Addr} {D : List Str} {Q : List Value → Shared → Prop} (hh : A.handled = none) (nd : D.Nodup)
  (T : TextSet prog w s.heap a D (z2t w))
  (h : ∀ s' vs ks, StrsAre vs ks → ks.Perm D → (∀ b o, s.heap.get? b = some o → s'.heap.get? b = some o) → s'.gens = s.gens → s'.os = s.os →
   s.toks ≤ s'.toks → Q vs s') : wpAny (model prog w) A (collect (.ref a)) Q E s := by
 obtain ⟨o, es, ep, t, ho, hx, hd, he, hm, hb, hf, hn, hl, hp⟩ := T
 have la := Heap.lt_size ho
 unfold collect
 refine wpAny_bind (wpAny_runValue (codeAny_builtin F.entry_proto_collect ?_))
 rw [Around.under_plainId F.plain_proto_collect _]
 refine wpAny_bind (m := newList []) (wpAny_newObj_type ?_)
 refine wpAny_pure ⟨plainId_quiet F.plain_list_iadd _, codeAny_builtin F.entry_list_iadd ?_⟩
 rw [Around.under_plainId F.plain_list_iadd _]
 show wpAny _ A.in1 (Builtin.List.listExtendWith (.ref s.heap.objs.size) (.ref a) (.ref s.heap.objs.size)) _ _ _
 unfold Builtin.List.listExtendWith
 generalize hH : s.heap.push { cls := .type "list", data := .seq ([] : List Value).toArray } = H
 have ho1 : H.get? a = some o := by rw [← hH]; exact Heap.get?_push_of_some _ ho
 have gS : H.get? s.heap.objs.size = some { cls := .type "list", data := .seq #[] } := by rw [← hH]; exact Heap.get?_push_size _ rfl
 have zH : H.objs.size = s.heap.objs.size + 1 := by rw [← hH, Heap.size_push]
 have ty : Shared.TypeIs { s with heap := H } (.ref a) "set" := ⟨o, ho1, hx.1⟩
 refine wpAny_bind (wpAny_typeOf ty ?_)
 have h1 : Builtin.List.listSameRef (.ref s.heap.objs.size) (.ref a) = false := by
  simp only [Builtin.List.listSameRef, beq_eq_false_iff_ne]; exact Nat.ne_of_gt la
 have h2 : (Value.type "set" == Value.type "list") = false := by decide
 have h3 : (Value.type "set" == Value.type "tuple") = false := by decide
 simp only [h1, h2, h3, Bool.or_false, Bool.false_eq_true, if_false]
 have hz := fits_of_scanBound hb
 have fin : ∀ (s1 s' : Shared) (I : Addr) (P : Nat → Value → Prop) (L : List (Int × Value)) (acc : Array Value) (c : Nat),
   (∀ b o, H.get? b = some o → s1.heap.get? b = some o) → s1.gens = s.gens → s1.os = s.os → s1.toks = s.toks → s.heap.objs.size < I →
   L.Perm es.toList → (∀ i v, P i v → ∃ e, L[i]? = some e ∧ v = e.2) →
   Moved (s.heap.objs.size :: [I]) (fun x y => x = y) s1 s' → ItemsOf P acc es.size → Q acc.toList s' := by
  intro s1 s' I P L acc c k0 k1 k2 k3 k4 pr hP mv ii
  have len : L.length = es.size := by rw [pr.length_eq, Array.length_toList]
  rw [← len] at ii
  rw [zg3 ii hP]
  have hm2 : ∀ k, decide (k ∈ D) = true ↔ ∃ e ∈ L, (strKind prog w).is k e.2 = true := fun k =>
   (hm k).trans ⟨fun ⟨e, q, z⟩ => ⟨e, pr.mem_iff.mpr q, z⟩, fun ⟨e, q, z⟩ => ⟨e, pr.mem_iff.mp q, z⟩⟩
  obtain ⟨ks, t1, t2⟩ := zhd (he.perm pr) nd hm2 (len.trans hn)
  refine h s' _ ks t1 t2 (fun b o' e => ?_) (mv.gens.symm.trans k1) (mv.os.trans k2) (k3 ▸ mv.toks)
  have lb := Heap.lt_size e
  refine mv.heap b o' (fun m => ?_) (k0 b o' (by rw [← hH]; exact Heap.get?_push_of_some _ e))
  rcases List.mem_cons.mp m with q | m
  ·exact Nat.ne_of_lt lb q
  ·exact Nat.ne_of_lt (Nat.lt_trans lb k4) (List.mem_singleton.mp m)
 have h4 : A.in1.handled = none := by simp [hh]
 let K : Value → Shared → Prop := fun v s' => wpAny (model prog w) A (match v with
  | .ref a => do
   match (← load a).data with
   | .seq xs _ => pure xs.toList
   | _ => unsupported "internal:collect"
  | _ => unsupported "internal:collect") Q E s'
 have aS : s.heap.objs.size ≠ a := Nat.ne_of_gt la
 have laH : a < H.objs.size := Heap.lt_size ho1
 refine wpAny_bind (zeh ho1 hx hd hf hb ?_ ?_)
 ·intro w1 w2 w3 ps d pr
  have len : ps.length = es.size := by simpa using pr.length_eq
  have gT : ((H.push { cls := .type "tuple", data := .seq (ps.map fun (i : Nat) => rawInt i).toArray }).push (z1g (.ref H.objs.size) 0 a es.size ep)).get? H.objs.size
    = some { cls := .type "tuple", data := .seq (ps.map fun (i : Nat) => rawInt i).toArray } := Heap.get?_push_of_some _ (Heap.get?_push_size _ rfl)
  have gI : ((H.push { cls := .type "tuple", data := .seq (ps.map fun (i : Nat) => rawInt i).toArray }).push (z1g (.ref H.objs.size) 0 a es.size ep)).get? (H.objs.size + 1)
    = some (z1g (.ref H.objs.size) 0 a es.size ep) := by
   have z2 : (H.push { cls := .type "tuple", data := .seq (ps.map fun (i : Nat) => rawInt i).toArray }).objs.size = H.objs.size + 1 := Heap.size_push ..
   rw [← z2]
   exact Heap.get?_push_size _ rfl
  have two : ∀ b o', H.get? b = some o' → ((H.push { cls := .type "tuple", data := .seq (ps.map fun (i : Nat) => rawInt i).toArray }).push (z1g (.ref H.objs.size) 0 a es.size ep)).get? b = some o' :=
   fun b o' e => Heap.get?_push_of_some _ (Heap.get?_push_of_some _ e)
  have W := zcs (prog := prog) (w := w) (A := A.in1) h4 (I := H.objs.size + 1) (T := H.objs.size) (a := a) (o := o) (ps := ps) (nT := 0)
   (oT := { cls := .type "tuple", data := .seq (ps.map fun (i : Nat) => rawInt i).toArray }) hd hf rfl
   (Nat.ne_of_lt (Nat.lt_succ_of_lt laH)) (Nat.ne_of_lt (Nat.lt_succ_self _)) pr
  have out : s.heap.objs.size ∉ [H.objs.size + 1, a, H.objs.size] := by
   rw [zH]; intro m
   rcases List.mem_cons.mp m with q | m
   ·exact Nat.ne_of_lt (Nat.lt_succ_of_lt (Nat.lt_succ_self _)) q
   ·rcases List.mem_cons.mp m with q | m
    ·exact aS q
    ·exact Nat.ne_of_lt (Nat.lt_succ_self _) (List.mem_singleton.mp m)
  refine z3l (a := a) (R := wants K E) (b := _) W hz out ?_ (c := 0) ?_ ?_ ?_
  ·exact ⟨⟨_, gI, rfl, rfl⟩, two _ _ ho1, gT⟩
  ·exact two _ _ gS
  ·exact ⟨o, two _ _ ho1, hx.1⟩
  intro s' acc c' mv g ii
  show wpAny _ _ (load _ >>= _) _ _ _
  refine wpAny_bind (wpAny_load g (wpAny_pure ?_))
  refine fin { s with heap := (H.push { cls := .type "tuple", data := .seq (ps.map fun (i : Nat) => rawInt i).toArray }).push (z1g (.ref H.objs.size) 0 a es.size ep), drawn := d } s' (H.objs.size + 1) _ (ps.map fun p => es.getD p default) acc c' two rfl rfl rfl (by rw [zH]; exact Nat.lt_succ_of_lt (Nat.lt_succ_self _)) ?_ ?_ mv ii
  ·refine (pr.map _).trans ?_
   have : (List.range es.size).map (fun p => es.getD p default) = es.toList := by
    apply List.ext_getElem?
    intro i
    by_cases lt : i < es.size
    ·simp [lt]
    ·simp [lt]
   rw [this]
  ·rintro i v ⟨p, e, hp', he', rfl⟩
   refine ⟨e, ?_, rfl⟩
   rw [List.getElem?_map, hp']
   obtain ⟨lt, q⟩ := Array.getElem?_eq_some_iff.mp he'
   simp [lt, q]
 ·intro w1
  have gI : (H.push (z1g (.int 0 0) 0 a es.size ep)).get? H.objs.size = some (z1g (.int 0 0) 0 a es.size ep) := Heap.get?_push_size _ rfl
  have one : ∀ b o', H.get? b = some o' → (H.push (z1g (.int 0 0) 0 a es.size ep)).get? b = some o' := fun b o' e => Heap.get?_push_of_some _ e
  have out : s.heap.objs.size ∉ [H.objs.size, a] := by
   rw [zH]; intro m
   rcases List.mem_cons.mp m with q | m
   ·exact Nat.ne_of_lt (Nat.lt_succ_self _) q
   ·exact aS (List.mem_singleton.mp m)
  have lI : s.heap.objs.size < H.objs.size := by rw [zH]; exact Nat.lt_succ_self _
  cases hw : w.params.followText "set-order" with
  | true =>
   have W := zei (prog := prog) (A := A.in1) h4 hw (I := H.objs.size) (a := a) (o := o) hd hf (Nat.ne_of_lt laH)
   refine z3l (a := a) (R := wants K E) (b := _) W hz out ?_ (c := 0) ?_ ?_ ?_
   ·exact ⟨⟨_, gI, rfl, rfl⟩, one _ _ ho1⟩
   ·exact one _ _ gS
   ·exact ⟨o, one _ _ ho1, hx.1⟩
   intro s' acc c' mv g ii
   show wpAny _ _ (load _ >>= _) _ _ _
   refine wpAny_bind (wpAny_load g (wpAny_pure ?_))
   refine fin { s with heap := H.push (z1g (.int 0 0) 0 a es.size ep) } s' H.objs.size _ (pickOrder (w.params.setOrder a ep) es).toList acc c' one rfl rfl rfl lI (z3s _ _) ?_ mv ii
   rintro i v ⟨e, q, rfl⟩
   exact ⟨e, by rw [Array.getElem?_toList]; exact q, rfl⟩
  | false =>
   have small : es.size ≤ 1 := by
    rcases w1 with q | q | q
    ·rw [hw] at q; cases q
    ·by_cases z : es.size = 0
     ·omega
     ·rw [hp z] at q; cases q
    ·exact q
   have W := zg2 (prog := prog) (A := A.in1) h4 hw (I := H.objs.size) (a := a) (o := o) hd hf small (hl.trans (by simp [z2t, hw])) (Nat.ne_of_lt laH)
   refine z3l (a := a) (R := wants K E) (b := _) W hz out ?_ (c := 0) ?_ ?_ ?_
   ·exact ⟨⟨_, gI, rfl, rfl⟩, one _ _ ho1⟩
   ·exact one _ _ gS
   ·exact ⟨o, one _ _ ho1, hx.1⟩
   intro s' acc c' mv g ii
   show wpAny _ _ (load _ >>= _) _ _ _
   refine wpAny_bind (wpAny_load g (wpAny_pure ?_))
   refine fin { s with heap := H.push (z1g (.int 0 0) 0 a es.size ep) } s' H.objs.size _ es.toList acc c' one rfl rfl rfl lI (.refl _) ?_ mv ii
   rintro i v ⟨e, q, rfl⟩
   exact ⟨e, by rw [Array.getElem?_toList]; exact q, rfl⟩
end
end PySem
end
section
namespace PySem
open PyProof.Rows
section
variable {prog : Program} {w : World} {A : Around} {E : Value → Shared → Prop} {s : Shared}
theorem z9q {a : Addr} {D : List Str} {Q : Value → Shared → Prop} (hh : A.handled = none) (nd : D.Nodup) (h64 : D.length < 64)
  (T : TextSet prog w s.heap a D (z2t w))
  (h : ∀ s' l vs ks e, StrsAre vs ks → ks.Perm D → sortedS ks = true → (∀ b o, s.heap.get? b = some o → s'.heap.get? b = some o ∧ b ≠ l) →
   s'.heap.get? l = some (seqObj "list" vs.toArray e) → s.heap.get? l = none → s'.gens = s.gens → s'.os = s.os → s.toks ≤ s'.toks → Q (.ref l) s') :
  wpAny (model prog w) A (call (.builtin "sorted") [.ref a]) Q E s := by
 refine Calls.call_function_entry kind_sorted plain_sorted entry_sorted (args_sorted1 _) ?_
 unfold Builtin.«sorted»
 refine wpAny_bind (m := checkCount "sorted" 1 1 _) (wpAny_pure ?_)
 refine wpAny_bind (zaz (by simpa using hh) nd T fun s1 vs ks t1 t2 k0 k1 k2 k3 => ?_)
 have v64 : vs.length < 64 := by rw [t1.length, t2.length_eq]; exact h64
 have fit : vs.length ≤ sizeLine := Nat.le_trans (Nat.le_of_lt v64) (by decide)
 refine wpAny_bind (wpAny_newList ?_ fit)
 have hS := Heap.get?_push_size (h := s1.heap) (o := seqObj "list" vs.toArray 0) rfl
 refine wpAny_bind (wpAny_holding (wpAny_call_entry slot_list_sort ⟨_, hS, rfl⟩ entry_list_sort
  (list_sort_treeK strKind_oneLt hS t1.keysOf (fun v₁ v₂ rest e => keyKind_strs (by rw [← e]; exact t1)) v64 fun st' a1 a2 => ⟨_, rfl, ?_⟩) (args_list_sort _)))
 obtain ⟨ks', u1, u2, u3⟩ := sorted_out_str t1 a1 a2
 refine wpAny_pure ⟨_, rfl, ?_⟩
 obtain ⟨e, ge⟩ := sortedHeap_at (out := (arrOf st').map (·.2)) hS
 refine h _ s1.heap.objs.size ((arrOf st').map (·.2)).toList ks' e u1 (u2.trans t2) u3 (fun b o q => ?_) ?_ ?_ k1 k2 k3
 ·have lb := Heap.lt_size (k0 b o q)
  refine ⟨?_, Nat.ne_of_lt lb⟩
  refine (sortedHeap_old (Nat.ne_of_lt lb) ?_).trans (Heap.get?_push_of_some _ (k0 b o q))
  rw [Heap.size_push]; exact Nat.lt_succ_of_lt lb
 ·exact ge
 ·cases z : s.heap.get? s1.heap.objs.size with
  | none => rfl
  | some o => exact absurd (Heap.lt_size (k0 _ o z)) (Nat.lt_irrefl _)
end
end PySem
end
section
namespace L2
open PySem PySem.Spec PyProof.Rows
def tso (P : Program) (w : World) (a : Addr) (D : List Str) : HO := .ext fun h => TextSet P w h a D (z2t w)
theorem zjv {P : Program} {w : World} {H : Hp} {h : Heap} {a : Addr} {D : List Str} (T : TextSet P w h a D (z2t w)) : ObjOk P w H h a (tso P w a D) := by
 refine ⟨T, ?_, fun h1 h2 t k => TextSet.keep t k⟩
 obtain ⟨o, es, ep, t, ho, _⟩ := T
 exact ⟨o, ho⟩
theorem zdd : ∀ {ss : List Str} {us : List Value}, Vals (ss.map V.str) us → StrsAre us ss
 | [], _, h => by cases h; exact .nil
 | s :: ss, _, h => by
  cases h with
  | cons h1 t =>
   obtain ⟨k, rfl⟩ := h1
   exact .cons s k (zdd t)
theorem zde : ∀ {us : List Value} {ss : List Str}, StrsAre us ss → Vals (ss.map V.str) us
 | _, _, .nil => .nil
 | _, _, .cons y t r => .cons ⟨t, rfl⟩ (zde r)
theorem zct {P : Program} {w : World} {H : Hp} {h : Heap} {a : Addr} {o : HO} (x : ObjOk P w H h a o) : ∃ u, h.get? a = some u := by
 cases o with
 | lst xs => obtain ⟨_, _, _, _, e⟩ := x; exact ⟨_, e⟩
 | tup xs => obtain ⟨_, _, _, _, e, _⟩ := x; exact ⟨_, e⟩
 | dK kvs => obtain ⟨_, _, _, _, _, _, _, e, _⟩ := x; exact ⟨_, e⟩
 | dT kvs => obtain ⟨_, _, _, _, _, _, _, e, _⟩ := x; exact ⟨_, e⟩
 | set S n => obtain ⟨_, _, _, _, e, _⟩ := x; exact ⟨_, e⟩
 | ins C dx fs => obtain ⟨_, _, _, e, _⟩ := x; exact ⟨_, e⟩
 | own y => obtain ⟨_, e⟩ := x; exact ⟨_, e⟩
 | xd fs => obtain ⟨_, ⟨_, _, _, e, _⟩, _⟩ := x; exact ⟨_, e⟩
 | rng lo hi => obtain ⟨_, _, _, e⟩ := x; exact ⟨_, e⟩
 | frz ob u => obtain ⟨e, _⟩ := x; exact ⟨_, e⟩
 | tbl ps => exact ⟨_, show h.get? a = some _ from x⟩
 | met f y => exact ⟨_, show h.get? a = some _ from x⟩
 | ext φ => obtain ⟨_, ⟨_, e⟩, _⟩ := x; exact ⟨_, e⟩
section
variable {X : Cx}
theorem zg4 (hc : X.calm = true) : CallR X (.type "set") (fun xs H Q => ∃ p ss, xs = [.ref p] ∧ SqL X.K H p ((ss : List Str).map V.str) ∧ ss.length + 1 < scanBound ∧ ∀ d, H d = none → Q (.ref d) (upd H d (tso X.prog X.w d (z1n ss)))) := by
 intro pins s σ H xs us Q I r h
 obtain ⟨p, ss, rfl, hp, hb, q⟩ := h
 obtain ⟨u, rfl, ru⟩ := z4z r
 cases ru
 obtain ⟨its, r1, pl, hz⟩ := I.list hp
 refine z9n (ss := ss) (I.ok.hd hc) pl.isList (by simpa using zdd r1) hb fun h' tk T ht hk => ?_
 exact ⟨.ref _, _, I.laid (t' := tk) hk (Nat.le_refl _) (zjv T), rfl, q _ I.fresh⟩
theorem zbx (hc : X.calm = true) : CallR X (.builtin "sorted") (fun xs H Q => ∃ a D, xs = [.ref a] ∧ H a = some (tso X.prog X.w a D) ∧ D.Nodup ∧ D.length < 64 ∧ ∀ l ks, H l = none → ks.Perm D → sortedS ks = true → Q (.ref l) (upd H l (.lst ((ks : List Str).map V.str)))) := by
 intro pins s σ H xs us Q I r h
 obtain ⟨a, D, rfl, ha, nd, h64, q⟩ := h
 obtain ⟨u, rfl, ru⟩ := z4z r
 cases ru
 obtain ⟨T, -, -⟩ := (show ObjOk X.prog X.w H s.heap a (tso X.prog X.w a D) from I.hok a _ ha)
 refine z9q (I.ok.hd hc) nd h64 T fun s' l vs ks e t1 t2 t3 hk hl hn hg ho ht => ?_
 have hz : (ks.map V.str).length ≤ sizeLine := by
  rw [List.length_map, t2.length_eq]; exact Nat.le_trans (Nat.le_of_lt h64) (by decide)
 have k : ∀ b u, s.heap.get? b = some u → s'.heap.get? b = some u := fun b u e => (hk b u e).1
 have hHl : H l = none := by
  cases z : H l with
  | none => rfl
  | some o =>
   obtain ⟨u, hu⟩ := zct (I.hok l o z)
   exact absurd rfl (hk l u hu).2
 have un : Un (frs X.stack) [] H (upd H l (.lst (ks.map V.str))) s.heap s'.heap := by
  refine ⟨fun b u z _ _ _ => k b u z, fun b u z _ _ _ => ⟨u.slots, k b u z⟩, fun b u z n _ => ?_, fun b u z _ => ⟨u, k b u z⟩, fun b ys z => ?_, fun b u ys z => ?_, fun b ps z => ⟨#[], ?_⟩⟩
  ·rw [z8 (hk b u z).2]; exact n
  ·rw [z8 (za z hHl)]; exact z
  ·rw [z8 (za z hHl)]; exact z
  ·rw [z8 (za z hHl), z]; simp
 have hok : HOk X.prog X.w (upd H l (.lst (ks.map V.str))) s'.heap := fun b u e' => by
  by_cases hb : b = l
  ·subst hb; rw [z7] at e'; cases e'
   exact ⟨hz, vs, e, zde t1, hl⟩
  ·rw [z8 hb] at e'
   exact (I.hok b u e').stay (fun c v _ q => k c v q) (fun c q => by rw [z8 (za q hHl)]; exact q) fun c xs q => by rw [z8 (za q hHl)]; exact q
 exact ⟨.ref l, _, I.call' ho un hok (by rw [hg]; exact I.bare) (fun b z => absurd z (by simp)), rfl, q l ks hHl t2 t3⟩
end
end L2
end
section
namespace L2
open PySem PySem.Spec PyProof.Rows
theorem MHas.never {P : Program} {w : World} {K : PySem.W.Frag} {mg : Str → Option Value} {base : Heap} {k : Nat} {C : Addr} {m : Str} {ps : List Str} {sp : Sp} (G : MHas P w K mg base (CX1 P w) k C m ps sp) : MHas P w K mg base CX0 k C m ps (fun vs H Q _ => sp vs H Q E0) := by
 obtain ⟨f, fd, F, hm, hb⟩ := G
 refine ⟨f, fd, ⟨fun vs H Q E h => F.len vs H Q E0 h, fun A outer s H args us vs Q E hr he hb hv hs => codeAny_mono (F.run A outer s H args us vs Q E0 hr he hb hv hs) fun r s' h => ?_⟩, hm, hb⟩
 cases r with
 | error e =>
  obtain ⟨_, _, _, _, _, _, _, _, _, _, _, _, _, z⟩ := h
  exact z
 | ok fl => cases fl <;> exact h
section
variable {X : Cx}
theorem PS.nox {st : Stmt} {t : TS} (h : PS X.nox st t) : PS X st t := fun pins s σ H D I hw =>
 wpAny_mono (h pins s σ H D (I.wish _) hw) (fun _ _ q => q.unwish) fun _ _ z => False.elim z
end
end L2
end
section
namespace L2
open PySem PySem.Spec PyProof.Rows
theorem zby : ∀ {ns : List Int} {us : List Value}, Vals (ns.map V.int) us → IntsAre us ns
 | [], _, h => by cases h; exact .nil
 | s :: ss, _, h => by
  cases h with
  | cons h1 t =>
   obtain ⟨k, rfl⟩ := h1
   exact .cons s k (zby t)
theorem zbz : ∀ {us : List Value} {ns : List Int}, IntsAre us ns → Vals (ns.map V.int) us
 | _, _, .nil => .nil
 | _, _, .cons y t r => .cons ⟨t, rfl⟩ (zbz r)
section
variable {X : Cx}
theorem zc0 : CallR X (.builtin "sorted") (fun xs H Q => ∃ p ns, xs = [.ref p] ∧ SqL X.K H p ((ns : List Int).map V.int) ∧ ns.length < 64 ∧ ∀ l ks, H l = none → ks.Perm ns → ks.Pairwise (· ≤ ·) → Q (.ref l) (upd H l (.lst ((ks : List Int).map V.int)))) := by
 intro pins s σ H xs us Q I r h
 obtain ⟨p, ns, rfl, hp, h64, q⟩ := h
 obtain ⟨u, rfl, ru⟩ := z4z r
 cases ru
 obtain ⟨its, r1, pl, hz⟩ := I.list hp
 have hl := r1.length
 rw [List.length_map] at hl
 refine sorted_ints pl.isList (zby r1) (by omega) fun out ns' a1 a2 a3 => ?_
 obtain ⟨e, he⟩ := sortedAll_at s.heap its out
 have zz : (ns'.map V.int).length ≤ sizeLine := by
  rw [List.length_map, a2.length_eq]; exact Nat.le_trans (Nat.le_of_lt h64) (by decide)
 exact ⟨.ref _, _, I.laid (a := s.heap.objs.size + 1) (o := .lst (ns'.map V.int)) (t' := s.toks) (fun _ _ => sortedAll_old) (Nat.le_succ _) ⟨zz, out.toList, e, zbz a1, he⟩, rfl, q _ _ (I.hok.fresh (Nat.le_succ _)) a2 a3⟩
end
end L2
end
section
namespace PySem
open PySem.W PySem.Spec PyProof.Rows
section
variable {prog : Program} {w : World} {A : Around} {E : Value → Shared → Prop} {s : Shared}
def zka (s : Shared) (s' : Shared) : Prop := ∃ h' tk, s' = { s with heap := h', toks := tk } ∧ ∀ b o, s.heap.get? b = some o → h'.get? b = some o
theorem zhe {n qual x : Str} {params : Arguments} {body : Expr} {scope : Scope} {pm ctv v : Value} {c' f : Addr} {Q : Value → Shared → Prop} (hroom : A.depth < recursionLimit)
  (ho : s.heap.get? f = some (kla_obj n qual params body scope [] pm c' ctv)) (hcd : s.heap.CodeRec (.ref c') qual) (hlim : s.heap.NoLimit)
  (hb : bindArgs (kla_fn n qual params body scope [] pm (.ref c') ctv) ⟨[v], []⟩ = pure [(x, v)])
  (hco : scope.isCoroutine = false) (hgen : scope.isGenerator = false) (hk : scope.kind = .function) (hcell : ∀ y ∈ scope.names, y.2 ≠ .cell) (hloc : scope.names.lookup x = some .local)
  (h : ∀ h₁, h₁.Ns s.heap.objs.size (fun y => [(x, v)].reverse.lookup y) → (∀ b o, s.heap.get? b = some o → h₁.get? b = some o) →
   wpAny (model prog w) (A.deeper (newEnv scope s.heap.objs.size mainGlobals [] (qual ++ ".<locals>.") (some f) (.ref c') none builtinsNs)) (eval body (newEnv scope s.heap.objs.size mainGlobals [] (qual ++ ".<locals>.") (some f) (.ref c') none builtinsNs)) Q (fun _ _ => False) { s with heap := h₁, toks := s.toks + 1 }) :
  wpAny (model prog w) A (call (.ref f) [v]) Q E s := by
 refine wpAny_call (kla_callFunE hroom ho rfl hco hgen rfl hcd ?_)
 rw [hb]
 refine wpAny_pure (wpAny_newFunctionEnv hcell (fun y hy => ?_) (fun h₁ hns hsb => ⟨hlim.fresh _ hsb, ?_⟩) hk)
 ·rw [List.mem_singleton.mp hy]; exact hloc
 ·have hk₁ : ∀ b o, s.heap.get? b = some o → h₁.get? b = some o := fun b o e => hsb.extBut b o (Nat.ne_of_lt (Heap.lt_size e)) (Heap.get?_push_of_some _ e)
  exact kla_codeExpr (wpAny_mono (h h₁ hns hk₁) (fun v s' hq => hq) fun _ _ z => z.elim)
end
end PySem
namespace L2
open PySem PySem.W PySem.Spec PyProof.Rows
def zba (c' : Addr) (qual : Str) : HO := .ext fun h => h.CodeRec (.ref c') qual
theorem zhf {P : Program} {w : World} {H : Hp} {h : Heap} {c' : Addr} {qual : Str} (C : h.CodeRec (.ref c') qual) : ObjOk P w H h c' (zba c' qual) := by
 refine ⟨C, ?_, fun h1 h2 x k => ?_⟩
 ·obtain ⟨c, o, vs, t, e, g, _⟩ := C
  cases e
  exact ⟨o, g⟩
 ·obtain ⟨c, o, vs, t, e, g, r⟩ := x
  cases e
  exact ⟨_, o, vs, t, rfl, k o g, r⟩
def TbOk (H : Hp) (Pt : Addr) (pos : Pos) (qual : Str) : Prop := H Pt = some (.tbl #[]) ∨ ∃ c', H Pt = some (.tbl #[rawInt pos.line, rawInt pos.col, .ref c']) ∧ H c' = some (zba c' qual)
theorem TbOk.some {H : Hp} {Pt : Addr} {pos : Pos} {qual : Str} (h : TbOk H Pt pos qual) : ∃ ps, H Pt = some (.tbl ps) := by
 rcases h with h | ⟨c', h, _⟩
 ·exact ⟨_, h⟩
 ·exact ⟨_, h⟩
theorem TbOk.mono {H H' : Hp} {Pt : Addr} {pos : Pos} {qual : Str} (h : TbOk H Pt pos qual) (s : Same H H') : TbOk H' Pt pos qual := by
 rcases h with h | ⟨c', h, h2⟩
 ·exact .inl (s _ _ h)
 ·exact .inr ⟨c', s _ _ h, s _ _ h2⟩
theorem zhg (pos : Pos) (c' : Addr) : codeAmong pos (#[rawInt pos.line, rawInt pos.col, .ref c'] : Array Value).toList = some (.ref c') := by
 simp [codeAmong, rawInt]
section
variable {X : Cx} {pins : List (Addr × Obj)} {σ : St} {H : Hp} {s : Shared} {c Pt : Addr} {pos : Pos} {params : Arguments} {body : Expr} {scope : Scope}
theorem zhh {Q : Value → Shared → Prop} (I : Inv X pins σ H s) (hcode : X.env.code = .ref c) (hC : codeHdIn X.K c Pt = true) (BA : X.base.BuiltinsAt X.mg Pt) (hT : TbOk H Pt pos (X.env.qual ++ "<lambda>"))
  (hdef : defaultsOf params X.env = ([], [])) (hcl : closureFor scope X.env = pure [])
  (h : ∀ (f c' : Addr) (ctv pm : Value) (H' : Hp) (s' : Shared), Inv X pins σ H' s' → s'.heap.get? f = some (kla_obj "<lambda>" (X.env.qual ++ "<lambda>") params body scope [] pm c' ctv) → s'.heap.CodeRec (.ref c') (X.env.qual ++ "<lambda>") →
   TbOk H' Pt pos (X.env.qual ++ "<lambda>") → (∀ b o, H b = some o → b ≠ Pt → H' b = some o) → H' f = none → Q (.ref f) s') :
  wpAny (model X.prog X.w) X.A (eval (.Lambda params body scope pos) X.env) Q X.xe s := by
 refine kla_eval hdef ?_
 have hg : s.heap.Ns mainGlobals X.mg := by
  obtain ⟨o, es, ep, e, r⟩ := I.mod.glob
  exact ⟨o, es, ep, I.bk _ _ e, r⟩
 have CH := codeHd_of_K I.kIn hC
 have hb : s.heap.BuiltinsAt X.mg Pt := by
  obtain ⟨bm, o, b1, b2, b3, b4, b5, b6⟩ := BA
  exact ⟨bm, o, b1, b2, b3, b4, I.bk _ _ b5, b6⟩
 have hgP : mainGlobals ≠ Pt := fun z => by
  obtain ⟨o, es, ep, e, r⟩ := I.mod.glob
  have := (I.bs _ _ e).2
  obtain ⟨ps, hp⟩ := hT.some
  rw [z, hp] at this
  cases this
 rcases hT with hT | ⟨c', hT, hc'⟩
 ·have hP : s.heap.get? Pt = some (tabObj #[]) := I.hok Pt _ hT
  refine kla_makeFunction hcl I.ok.glob hg hcode CH hP trivial rfl hgP hb fun c' ctv h' tk hx hge hlt hrec htb => ?_
  have hc0 : H c' = none := I.hok.fresh hge
  have ncP : c' ≠ Pt := fun z => by rw [z, hT] at hc0; cases hc0
  have hf0 : H h'.objs.size = none := I.hok.fresh (Nat.le_trans hge (Nat.le_of_lt hlt))
  have kp : ∀ (ob : Obj) (b : Addr) (o : Obj), b ≠ Pt → s.heap.get? b = some o → (h'.push ob).get? b = some o := fun ob b o nb e => Heap.get?_push_of_some _ (hx b o nb e)
  have htb' : h'.get? Pt = some (tabObj #[rawInt pos.line, rawInt pos.col, .ref c']) := by simpa using htb
  refine h h'.objs.size c' ctv _ (upd (upd H c' (zba c' (X.env.qual ++ "<lambda>"))) Pt (.tbl #[rawInt pos.line, rawInt pos.col, .ref c'])) _ (I.un (t' := tk) ⟨fun b o e n _ _ => ?_, fun b o e n _ _ => ⟨o.slots, ?_⟩, fun b o e n _ => ?_, fun b o e _ => ?_, fun b xs e => ?_, fun b o u e => ?_, fun b ps e => ?_⟩ ?_) (Heap.get?_push_size _ rfl) (hrec.keeps fun b o e => Heap.get?_push_of_some _ e) (.inr ⟨c', z7, ?_⟩) (fun b o e nb => ?_) ?_
  ·exact kp _ b o (fun z => by rw [z, hT] at n; cases n) e
  ·exact kp _ b o (fun z => by rw [z, hT] at n; cases n) e
  ·rw [z8 (fun z => by rw [z, hT] at n; cases n), z8 (Nat.ne_of_lt (Nat.lt_of_lt_of_le (Heap.lt_size e) hge))]
   exact n
  ·by_cases z : b = Pt
   ·rw [z]; exact ⟨_, Heap.get?_push_of_some _ htb'⟩
   ·exact ⟨o, kp _ b o z e⟩
  ·rw [z8 (fun z => by rw [z, hT] at e; cases e), z8 (za e hc0)]; exact e
  ·rw [z8 (fun z => by rw [z, hT] at e; cases e), z8 (za e hc0)]; exact e
  ·by_cases z : b = Pt
   ·subst z
    rw [hT] at e
    cases e
    exact ⟨#[rawInt pos.line, rawInt pos.col, .ref c'], by rw [z7]; simp⟩
   ·exact ⟨#[], by rw [z8 z, z8 (za e hc0), e]; simp⟩
  ·intro b u e
   by_cases z : b = Pt
   ·subst z
    rw [z7] at e
    cases e
    exact Heap.get?_push_of_some _ htb'
   ·rw [z8 z] at e
    by_cases z2 : b = c'
    ·subst z2
     rw [z7] at e
     cases e
     exact zhf (hrec.keeps fun b o e => Heap.get?_push_of_some _ e)
    ·rw [z8 z2] at e
     refine (I.hok b u e).stay (fun d v hd q => kp _ d v ?_ q) (fun d q => ?_) fun d xs q => ?_
     ·rintro rfl
      rcases hd with hd | hd
      ·exact z hd.symm
      ·rw [hT] at hd; cases hd
     ·rw [z8 (fun y => by rw [y, hT] at q; cases q), z8 (za q hc0)]; exact q
     ·rw [z8 (fun y => by rw [y, hT] at q; cases q), z8 (za q hc0)]; exact q
  ·rw [z8 ncP, z7]
  ·rw [z8 nb, z8 (za e hc0)]; exact e
  ·rw [z8 (fun z => by rw [z, hT] at hf0; cases hf0), z8 (Nat.ne_of_gt hlt)]; exact hf0
 ·have hP : s.heap.get? Pt = some (tabObj #[rawInt pos.line, rawInt pos.col, .ref c']) := I.hok Pt _ hT
  obtain ⟨C, -, -⟩ := (show ObjOk X.prog X.w H s.heap c' (zba c' (X.env.qual ++ "<lambda>")) from I.hok c' _ hc')
  refine kla_makeFunctionHit hcl I.ok.glob hg hcode CH hP trivial (zhg pos c') hb fun ctv h' tk hk hsz => ?_
  have k2 : ∀ (ob : Obj) (b : Addr) (o : Obj), s.heap.get? b = some o → (h'.push ob).get? b = some o := fun ob b o e => Heap.get?_push_of_some _ (hk b o e)
  exact h h'.objs.size c' ctv _ H _ (I.kept (t' := tk) (k2 _)) (Heap.get?_push_size _ rfl) (C.keeps (k2 _)) (.inr ⟨c', hT, hc'⟩) (fun b o e _ => e) (I.hok.fresh hsz)
end
end L2
end
section
namespace PySem
open PySem.W PySem.Spec PyProof.Rows
structure LamX (x : Str) (params : Arguments) (scope : Scope) : Prop where
 bind : ∀ (qual : Str) (body : Expr) (pm cdv ctv v : Value), bindArgs (kla_fn "<lambda>" qual params body scope [] pm cdv ctv) ⟨[v], []⟩ = pure [(x, v)]
 co : scope.isCoroutine = false
 gen : scope.isGenerator = false
 kind : scope.kind = .function
 cell : ∀ y ∈ scope.names, y.2 ≠ .cell
 loc : scope.names.lookup x = some .local
 db : (x == ("__debug__" : Str)) = false
section
variable {prog : Program} {w : World} {A : Around} {E : Value → Shared → Prop} {s : Shared}
theorem zhi {qual x : Str} {params : Arguments} {scope : Scope} {pm ctv u : Value} {c' f a : Addr} {i : Nat} {k : Nat} {p1 p2 p3 : Pos} {its : Array Value} (L : LamX x params scope) (hroom : A.depth < recursionLimit)
  (ho : s.heap.get? f = some (kla_obj "<lambda>" qual params (.Subscript (.Name x p1) (.Constant (.int (i : Int)) k p2) p3) scope [] pm c' ctv)) (hcd : s.heap.CodeRec (.ref c') qual) (hlim : s.heap.NoLimit)
  (ht : IsTup s.heap a its) (hi : its[i]? = some u) (hz : its.size < 2 ^ 62) :
  wpAny (model prog w) A (call (.ref f) [.ref a]) (fun v s' => v = u ∧ zka s s') E s := by
 have hil : i < its.size := (Array.getElem?_eq_some_iff.mp hi).1
 refine zhe hroom ho hcd hlim (L.bind _ _ _ _ _ _) L.co L.gen L.kind L.cell L.loc fun h₁ hns hk => ?_
 have hm : (fun y => [(x, (Value.ref a))].reverse.lookup y) x = some (.ref a) := by simp
 have htup : IsTup h₁ a its := by
  obtain ⟨o, e, r⟩ := ht
  exact ⟨o, hk _ _ e, r⟩
 refine Subscript_ (wpAny_Name (wpAny_loadName_local L.kind L.loc hns hm (wpAny_Constant_int ?_)) L.db)
 refine subscriptTail_builtinR (x := u) (s := { s with heap := h₁, toks := s.toks + 1 + 1 }) (show Shared.TypeIs _ _ _ from htup.typeIs) slot_tuple_getitem.lookup (getItem_tuple (j := i) htup (by omega) (by omega) ?_ hi ⟨rfl, rfl, h₁, _, rfl, hk⟩)
 exact seqIndex_of (by omega) (by omega)
end
end PySem
namespace L2
open PySem PySem.W PySem.Spec PyProof.Rows
section
variable {X : Cx} {pins : List (Addr × Obj)} {σ : St} {H : Hp} {s : Shared}
theorem zc1 {g h h' : Heap} {L : Addr} {m : Str → Option Value} {own : List (Addr × Obj)} (k : ∀ b o, g.get? b = some o → h.get? b = some o) (F : Fr g L h' m) (N : News g L h' (z4h g h L ++ own)) : ∀ b o, b ≠ L → h.get? b = some o → h'.get? b = some o := fun b o nb e => by
 cases q : g.get? b with
 | some u =>
  have := k b u q
  rw [e] at this; cases this
  exact F.keep b _ q
 | none => exact (N (b, o) (List.mem_append_left _ (z7j nb q e))).1
theorem Inv.walked {m : Str → Option Value} {h' : Heap} {t' : Nat} (I : Inv X pins σ H s) (hn : s.heap.Ns X.env.locals m) (hn' : h'.Ns X.env.locals m) (k : ∀ b o, b ≠ X.env.locals → s.heap.get? b = some o → h'.get? b = some o) : Inv X pins σ H { s with heap := h', toks := t' } := by
 have hf := I.free
 refine I.step (g' := s.gens) (d' := s.drawn) (ch := []) (fun _ z => nomatch z) (fun b o nb _ _ e _ => k b o nb e) (fun b o nb _ _ e _ => ⟨o.slots, k b o nb e⟩) (fun _ _ _ _ n => n) (fun b o _ e => ?_) (fun _ _ e => e) (fun _ _ _ e => e) (fun b ps e => ⟨#[], by rw [e]; simp⟩) (fun m' hm => ?_) (fun b u e => ?_) I.bare
 ·by_cases z : b = X.env.locals
  ·obtain ⟨o', es, ep, ho, _⟩ := hn'
   exact ⟨o', z ▸ ho⟩
  ·exact ⟨o, k b o z e⟩
 ·rw [hm.eq_nsMap, ← hn.eq_nsMap]
  exact hn'
 ·refine (I.hok b u e).stay (fun c v hc q => k c v ?_ q) (fun _ q => q) fun _ _ q => q
  rintro rfl
  rcases hc with hc | hc
  ·rw [← hc, hf] at e; cases e
  ·rw [hf] at hc; cases hc
def But1 (a : Addr) (H H' : Hp) : Prop := ∀ b o, H b = some o → b ≠ a → H' b = some o
end
end L2
end
section
namespace L2
open PySem PySem.Spec PyProof.Rows
structure OnlyT (ts : List Addr) (H : Hp) : Prop where
 all : ∀ b u, H b = some u → (b ∈ ts ∧ u = .tbl #[]) ∨ ∃ o xs, u = .frz o (.lst xs)
 tab : ∀ t ∈ ts, H t = some (.tbl #[])
def z6t (ts : List Addr) (a : Addr) (o : HO) : Hp := fun b => if b ∈ ts then some (.tbl #[]) else if b = a then some o else none
theorem zjw {h h' : Heap} (k : ∀ b o, h.get? b = some o → h'.get? b = some o ∨ (isCodeTable h b ∧ o = PySem.W.tabObj #[] ∧ ∃ more, h'.get? b = some (PySem.W.tabObj more))) : OldK h h' := by
 refine ⟨fun b o e => ?_, fun b o e => ?_⟩
 ·rcases k b o e with z | ⟨z1, rfl, more, z2⟩
  ·exact .inl z
  ·exact .inr (.inl ⟨z1, rfl, #[], more, rfl, by rw [z2]; simp [PySem.W.tabObj]⟩)
 ·rcases k b o e with z | ⟨_, _, more, z⟩
  ·exact ⟨_, z⟩
  ·exact ⟨_, z⟩
section
variable {P : Program} {w : World} {K : PySem.W.Frag} {mg mb : Str → Option Value} {k : Nat} {fa a : Addr} {fd : FuncData} {x : Str} {sp : Sp} {s₁ : Shared} {vs : List Value} {ns : List Int} {ts : List Addr}
theorem lawT (KX : K.In s₁.heap) (gl : s₁.heap.Ns mainGlobals mg) (bl : s₁.heap.Ns builtinsNs mb) (bb : ∀ x : Str, x ≠ "__name__" → mb x = bootBuiltins x) (lim : s₁.heap.NoLimit) (gn : s₁.gens = #[])
  (sc : s₁.heap.get? a = some { cls := .type "list", data := .seq vs.toArray }) (hi : IntsAre vs ns) (hl : ns.length ≤ sizeLine) (hr : Room k callerA)
  (tabs : ∀ t ∈ ts, s₁.heap.get? t = some (PySem.W.tabObj #[])) (codes : ∀ t ∈ ts, ∃ c, PySem.W.codeHdIn K c t = true) (notK : ∀ t ∈ ts, K.lookup t = none)
  (bm : ∃ bm ob, mg "__builtins__" = some (.ref bm) ∧ bm ≠ builtinsNs ∧ s₁.heap.get? bm = some ob ∧ ob.cls = .type "module" ∧ ob.dict = some builtinsNs ∧ ob.data = .plain)
  (F : ∀ base : Heap, K.In base → base.Ns mainGlobals mg → (∀ t ∈ ts, base.BuiltinsAt mg t) → FnOk P w K mg base CX0 k fa fd [x] sp) (bind : ∀ (s : Shared) (u : Value), BindsTo s fd ⟨[u], []⟩ [(x, u)])
  (hsp : ∀ H : Hp, OnlyT ts H → SqL K H a (ns.map V.int) → sp [.ref a] H (fun v _ => v = .bl true) fun _ _ _ => False) :
  codeAny (model P w) callerA (.call (.ref fa) ⟨[.ref a], []⟩) (fun r s' => r = .ok (.ret (.bool true)) ∧ OldK s₁.heap s'.heap ∧ s'.os = s₁.os ∧ AllBare s'.gens) s₁ := by
 have rv := zaj hi
 have lv := hi.length
 have ant : a ∉ ts := fun z => by have := tabs a z; rw [sc] at this; cases this
 have main : ∀ H : Hp, OnlyT ts H → SqL K H a (ns.map V.int) → HOk P w H s₁.heap → (∀ b u, H b = some u → K.lookup b = none ∧ (b = a ∨ b ∈ ts)) →
   codeAny (model P w) callerA (.call (.ref fa) ⟨[.ref a], []⟩) (fun r s' => r = .ok (.ret (.bool true)) ∧ OldK s₁.heap s'.heap ∧ s'.os = s₁.os ∧ AllBare s'.gens) s₁ := by
  intro H only seq hok lone
  have untracked : ∀ {b : Addr} {o : Obj}, s₁.heap.get? b = some o → (∀ i n, o.data ≠ .seq i n) → (∀ i, o.data ≠ .fields i) → H b = none := fun {b o} e n1 n2 => by
   cases q : H b with
   | none => rfl
   | some u =>
    rcases (lone b u q).2 with z | z
    ·rw [z, sc] at e; cases e; exact (n1 _ _ rfl).elim
    ·have := tabs b z; rw [e] at this; cases this; exact (n2 _ rfl).elim
  have inB : ∀ {b : Addr} {o : Obj}, s₁.heap.get? b = some o → H b = none → (hidT s₁.heap H).get? b = some o := fun e n => zgv e n
  have nsB : ∀ {b : Addr} {m : Str → Option Value}, s₁.heap.Ns b m → (hidT s₁.heap H).Ns b m := fun {b m} ⟨o, es, ep, e, d, r⟩ =>
   ⟨o, es, ep, inB e (untracked e (fun i n z => by rw [d] at z; cases z) fun i z => by rw [d] at z; cases z), d, r⟩
  have kB : K.In (hidT s₁.heap H) := fun b o e => inB (KX b o e) (by
   cases q : H b with
   | none => rfl
   | some u => rw [(lone b u q).1] at e; cases e)
  have bB : ∀ t ∈ ts, (hidT s₁.heap H).BuiltinsAt mg t := fun t ht => by
   obtain ⟨m, ob, b1, b2, b3, b4, b5, b6⟩ := bm
   refine ⟨m, ob, b1, b2, fun z => ?_, fun z => ?_, inB b3 (untracked b3 (fun i n z => by rw [b6] at z; cases z) fun i z => by rw [b6] at z; cases z), b4, b5, b6⟩
   ·obtain ⟨o, es, ep, e, d, _⟩ := gl
    rw [← z, b3] at e; cases e; rw [b6] at d; cases d
   ·have := tabs t ht; rw [← z, b3] at this; cases this; cases b6
  have M : Mod K mg (hidT s₁.heap H) := ⟨kB, nsB gl, ⟨mb, nsB bl, bb⟩, let ⟨mc, h1, h2⟩ := lim; ⟨mc, nsB h1, h2⟩⟩
  have E : Env0 P w K mg (hidT s₁.heap H) callerA [] s₁ H := ⟨rfl, M, fun b o e => zif e, Nat.le_of_eq (zey _ _), trivial, (fun b hb => by cases hb), hok, .of_eq gn⟩
  refine codeAny_mono ((F _ kB (nsB gl) bB).run callerA [] s₁ H ⟨[.ref a], []⟩ [.ref a] [.ref a] _ _ hr E (bind s₁ (.ref a)) (.cons rfl .nil) (hsp H only seq)) fun r s' h => ?_
  cases r with
  | error e => exact False.elim h
  | ok fl =>
   cases fl with
   | next => exact False.elim h
   | brk => exact False.elim h
   | cont => exact False.elim h
   | ret u =>
    obtain ⟨v, H', os, bare, un, hok', r', q⟩ := h
    have q' : v = .bl true := q
    subst q'
    obtain rfl : u = Value.bool true := r'
    refine ⟨rfl, zjw fun b o e => ?_, os, bare⟩
    cases q : H b with
    | none => exact .inl (un.keep b o e q (fun z => by cases z) (fun z => by cases z))
    | some u =>
     rcases only.all b u q with ⟨z, rfl⟩ | ⟨ob, xs, rfl⟩
     ·obtain ⟨more, h2⟩ := un.tbls b _ q
      have h3 : s'.heap.get? b = some (PySem.W.tabObj (#[] ++ more)) := hok' b _ h2
      have h4 := tabs b z
      rw [e] at h4
      obtain ⟨c, hc⟩ := codes b z
      obtain ⟨oc, vs', _, _, _, _, _, _, _, g1, g2, g3, g4, _⟩ := PySem.W.codeHd_of_K KX hc
      exact .inr ⟨⟨c, oc, vs', g1, g2, g3, g4⟩, Option.some.inj h4, _, h3⟩
     ·have h2 := un.frzs b ob _ q
      obtain ⟨e1, _⟩ := hok b _ q
      obtain ⟨e2, _⟩ := hok' b _ h2
      rw [e] at e1
      cases e1
      exact .inl e2
 by_cases hk : K.lookup a = none
 ·have sa : z6t ts a (HO.frz { cls := .type "list", data := .seq vs.toArray } (.lst (ns.map V.int))) a = some (.frz { cls := .type "list", data := .seq vs.toArray } (.lst (ns.map V.int))) := by
   unfold z6t
   rw [if_neg ant, if_pos rfl]
  have cs : ∀ b u, z6t ts a (HO.frz { cls := .type "list", data := .seq vs.toArray } (.lst (ns.map V.int))) b = some u → (b ∈ ts ∧ u = .tbl #[]) ∨ (b = a ∧ u = .frz { cls := .type "list", data := .seq vs.toArray } (.lst (ns.map V.int))) := fun b u e => by
   unfold z6t at e
   split at e
   ·rename_i z; cases e; exact .inl ⟨z, rfl⟩
   ·split at e
    ·rename_i z; cases e; exact .inr ⟨z, rfl⟩
    ·cases e
  refine main (z6t ts a (HO.frz { cls := .type "list", data := .seq vs.toArray } (.lst (ns.map V.int)))) ⟨fun b u e => ?_, fun t ht => if_pos ht⟩ (.inl (.inr ⟨_, sa⟩)) (fun b u e => ?_) fun b u e => ?_
  ·rcases cs b u e with z | ⟨_, z⟩
   ·exact .inl z
   ·exact .inr ⟨_, _, z⟩
  ·rcases cs b u e with ⟨z, rfl⟩ | ⟨rfl, rfl⟩
   ·exact tabs b z
   ·exact ⟨sc, by rw [List.length_map]; exact hl, vs, _, rv, sc⟩
  ·rcases cs b u e with ⟨z, _⟩ | ⟨rfl, _⟩
   ·exact ⟨notK b z, .inr z⟩
   ·exact ⟨hk, .inl rfl⟩
 ·cases hk' : K.lookup a with
  | none => exact absurd hk' hk
  | some o =>
   have e := KX a o hk'
   rw [sc] at e
   cases e
   have cs : ∀ b u, (fun b => if b ∈ ts then some (HO.tbl #[]) else none : Hp) b = some u → b ∈ ts ∧ u = .tbl #[] := fun b u e => by
    dsimp only at e
    split at e
    ·rename_i z; cases e; exact ⟨z, rfl⟩
    ·cases e
   refine main _ ⟨fun b u e => .inl (cs b u e), fun t ht => if_pos ht⟩ (.inr ⟨_, vs.toArray, _, hk', rfl, rfl, rfl, by rw [List.size_toArray, lv]; exact hl, by simpa using rv⟩) (fun b u e => ?_) fun b u e => ?_
   ·obtain ⟨z, rfl⟩ := cs b u e
    exact tabs b z
   ·exact ⟨notK b (cs b u e).1, .inr (cs b u e).1⟩
end
end L2
end
section
namespace L2
open PySem PySem.Spec PyProof.Rows
def DefC (K : PySem.W.Frag) (mg : Str → Option Value) (x : Str) (st : Stmt) (ps : List Str) (c : Addr) : Prop :=
 ∃ (f : Addr) (oc : Value) (od : Option Addr) (kV doc pm : Value) (an : Option Addr) (ct : Value) (osl : Array (Option Value)), K.lookup f = some ⟨oc, od, .func (PySem.W.fnOf x x (z3f st) (z1q st) (zf st) .none kV doc pm an (.ref c) ct), osl⟩ ∧
  PySem.W.codeIn K (.ref c) x = true ∧ PySem.W.keepIn K (.ref f) = true ∧ mg x = some (.ref f) ∧ Binds K (PySem.W.fnOf x x (z3f st) (z1q st) (zf st) .none kV doc pm an (.ref c) ct) ps []
theorem DefC.ok {P : Program} {w : World} {K : PySem.W.Frag} {mg : Str → Option Value} {base : Heap} {x : Str} {st : Stmt} {N ps : List Str} {k : Nat} {sp : Sp} {c : Addr} (D : DefC K mg x st ps c) (S : FnScope N ps (zf st)) (len : ∀ vs H Q E, sp vs H Q E → vs.length = ps.length)
  (hbody : ∀ (f : Addr) (A : Around) (outer : List Env) (s : Shared) (H : Hp) (vs : List V) (Q : VK) (E : XK), Room k (A.deeper (envOfC x (zf st) s.heap.objs.size f (.ref c))) → sp vs H Q E →
   ∃ t, PSs (cxOf CX0 P w K mg base N x (zf st) f (.ref c) A outer s H E).nox (z1q st) t ∧ t { nx := fun _ H' => Q .non H', rt := Q } (start N vs) H) : Has P w K mg base (k + 1) x ps sp := by
 obtain ⟨f, oc, od, kV, doc, pm, an, ct, osl, lk, hcd, kp, hm, hb⟩ := D
 refine ⟨f, _, ze1 lk hcd S len fun A outer s H vs Q E hr hsp => ?_, hm, kp, hb, oc, od, osl, lk⟩
 obtain ⟨t, h, q⟩ := hbody f A outer s H vs Q E hr hsp
 exact ⟨t, h.nox, q⟩
def z85 (vs : Array Value) : Bool := (match vs.getD 18 .none with | .str _ _ => true | _ => false) && (match vs.getD 7 .none with | .int _ _ => true | _ => false) &&
 (match vs.getD 9 .none with | .bool _ => true | _ => false) && (match vs.getD 10 .none with | .int _ _ => true | _ => false)
theorem zg5 {K : PySem.W.Frag} {c t : Addr} {od : Option Addr} {vs : Array Value} {sl : Array (Option Value)} (e : K.lookup c = some ⟨.type "code", od, .fields vs, sl⟩) (h : vs[11]? = some (.ref t)) (r : z85 vs = true) (n : (c != t) = true) : PySem.W.codeHdIn K c t = true := by
 unfold z85 at r
 simp only [Bool.and_eq_true] at r
 unfold PySem.W.codeHdIn
 simp only [e, h]
 simp only [beq_self_eq_true, Bool.true_and, Bool.and_eq_true]
 exact ⟨⟨⟨⟨r.1.1.1, r.1.1.2⟩, r.1.2⟩, r.2⟩, n⟩
theorem walk_ofT {l : PySem.W.OpenLaw} {n k : Nat} {q : Program} {loose : List Str} {XP : (Str → Option Value) → Heap → Prop} {YP : World → Heap → Prop} {d : DefRec} {K : Params → PySem.W.Frag} {ts : List Addr} {sp : List Addr → PySem.W.Frag → Sp} {x : Str}
  (hn : l.most = some n) (hn2 : n ≤ sizeLine) (hdf : d.params.defaults = []) (hr : Room k callerA)
  (hY : ∀ (w : World) (h : Heap), YP w h → (K w.params).In h ∧ ∀ t ∈ ts, h.get? t = some (PySem.W.tabObj #[]))
  (F : ∀ (w : World) (mg : Str → Option Value) (fa : Addr) (h : Heap), (K w.params).In h → h.Ns mainGlobals mg → mg d.name = some (.ref fa) →
   (∀ t ∈ ts, (∃ c, PySem.W.codeHdIn (K w.params) c t = true) ∧ (K w.params).lookup t = none) ∧
   ∃ fd : FuncData, (∀ (s : Shared) (u : Value), BindsTo s fd ⟨[u], []⟩ [(x, u)]) ∧
    ∀ base : Heap, (K w.params).In base → base.Ns mainGlobals mg → (∀ t ∈ ts, base.BuiltinsAt mg t) → FnOk l.prog w (K w.params) mg base CX0 k fa fd [x] (sp ts (K w.params)))
  (hsp : ∀ (K : PySem.W.Frag) (H : Hp) (a : Addr) (ns : List Int), ns.length ≤ n → OnlyT ts H → SqL K H a (ns.map V.int) → sp ts K [.ref a] H (fun v _ => v = .bl true) fun _ _ _ => False) :
  PySem.W.WalkO q loose XP YP l.row.toRowW d [] (fun f vs => PySem.call f vs) := by
 refine Att.attach_call hn hdf fun w s₀ s₁ mg mb fa o pm cd doc a vs ns G Y ho hd hcd hmg hobj hints hlen hg => ?_
 obtain ⟨KX, TX⟩ := hY w _ Y
 obtain ⟨ht, fd, hb, hF⟩ := F w mg fa _ KX G.T.g hmg
 exact lawT KX G.T.g G.T.b G.T.builtins G.T.nolimit hg hobj hints (Nat.le_trans hlen hn2) hr TX (fun t h => (ht t h).1) (fun t h => (ht t h).2) G.T.bmain hF hb fun H hO hS => hsp (K w.params) H a ns hlen hO hS
end L2
end
section
namespace L2
open PySem PySem.W PySem.Spec PyProof.Rows
theorem ObjOk.there {P : Program} {w : World} {H : Hp} {h : Heap} {a : Addr} {o : HO} (x : ObjOk P w H h a o) : ∃ u, h.get? a = some u := by
 cases o with
 | lst xs => obtain ⟨_, _, _, _, e⟩ := x; exact ⟨_, e⟩
 | tup xs => obtain ⟨_, _, _, u, e, _⟩ := x; exact ⟨u, e⟩
 | dK kvs => obtain ⟨_, _, _, _, o, _, _, e, _⟩ := x; exact ⟨_, e⟩
 | dT kvs => obtain ⟨_, _, _, _, o, _, _, e, _⟩ := x; exact ⟨_, e⟩
 | set S n => obtain ⟨o, _, _, _, e, _⟩ := x; exact ⟨_, e⟩
 | ins C dx fs => obtain ⟨_, _, _, e, _⟩ := x; exact ⟨_, e⟩
 | own y => obtain ⟨_, e⟩ := x; exact ⟨_, e⟩
 | xd fs => obtain ⟨_, ⟨_, _, _, e, _⟩, _⟩ := x; exact ⟨_, e⟩
 | rng lo hi => obtain ⟨_, _, _, e⟩ := x; exact ⟨_, e⟩
 | frz ob u => obtain ⟨e, _⟩ := x; exact ⟨_, e⟩
 | tbl ps => exact ⟨_, (show h.get? a = some _ from x)⟩
 | met f y => exact ⟨_, (show h.get? a = some _ from x)⟩
 | ext φ => exact x.2.1
theorem HOk.gone {P : Program} {w : World} {H : Hp} {h : Heap} {a : Addr} (x : HOk P w H h) (e : h.get? a = none) : H a = none := by
 cases q : H a with
 | none => rfl
 | some u =>
  obtain ⟨o, ho⟩ := (x a u q).there
  rw [e] at ho; cases ho
theorem zjx {α : Type} {kz : List Int} {vs : List α} {ps : List (Int × α)} (hp : ps.Perm (kz.zip vs)) (hs : ps.Pairwise fun p q => p.1 ≤ q.1) (hk : kz.Pairwise (· < ·)) : ps = kz.zip vs := by
 have up : (kz.zip vs).Pairwise fun p q => p.1 < q.1 := by
  clear hp hs
  induction kz generalizing vs with
  | nil => exact List.Pairwise.nil
  | cons a kz ih =>
   cases vs with
   | nil => exact List.Pairwise.nil
   | cons v vs =>
    obtain ⟨h1, h2⟩ := List.pairwise_cons.mp hk
    exact List.pairwise_cons.mpr ⟨fun q hq => h1 _ (List.of_mem_zip hq).1, ih h2⟩
 have one : ∀ {L : List (Int × α)}, L.Pairwise (fun p q => p.1 < q.1) → ∀ x ∈ L, ∀ y ∈ L, x.1 = y.1 → x = y := by
  intro L hL
  induction hL with
  | nil => exact fun x hx => by cases hx
  | cons h1 _ ih =>
   intro x hx y hy e
   rcases List.mem_cons.mp hx with hx | hx <;> rcases List.mem_cons.mp hy with hy | hy
   ·rw [hx, hy]
   ·have := h1 y hy; rw [hx] at e; omega
   ·have := h1 x hx; rw [hy] at e; omega
   ·exact ih x hx y hy e
 refine List.Perm.eq_of_pairwise (le := fun p q : Int × α => p.1 ≤ q.1) (fun a b ha hb h1 h2 => one up a (hp.mem_iff.mp ha) b hb (by omega)) hs (up.imp fun h => Int.le_of_lt h) hp
section
variable {X : Cx} {pins : List (Addr × Obj)} {σ : St} {H : Hp} {s : Shared}
theorem Inv.walkedL {m : Str → Option Value} {h' : Heap} {t' : Nat} {D : Addr} {o : HO} (I : Inv X pins σ H s) (hn : s.heap.Ns X.env.locals m) (hn' : h'.Ns X.env.locals m) (k : ∀ b o, b ≠ X.env.locals → s.heap.get? b = some o → h'.get? b = some o)
  (hD : s.heap.get? D = none) (new : ObjOk X.prog X.w (upd H D o) h' D o) : Inv X pins σ (upd H D o) { s with heap := h', toks := t' } := by
 have hf := I.free
 have h0 : H D = none := HOk.gone I.hok hD
 have nD : ∀ b o, s.heap.get? b = some o → b ≠ D := fun b o e z => by rw [z, hD] at e; cases e
 refine I.step (g' := s.gens) (d' := s.drawn) (ch := []) (fun _ z => nomatch z) (fun b o nb _ _ e _ => k b o nb e) (fun b o nb _ _ e _ => ⟨o.slots, k b o nb e⟩) (fun b o _ e n => by rw [z8 (nD b o e)]; exact n) (fun b o _ e => ?_) (fun b _ e => by rw [z8 (za e h0)]; exact e) (fun b _ _ e => by rw [z8 (za e h0)]; exact e) (fun b ps e => ⟨#[], by rw [z8 (za e h0), e]; simp⟩) (fun m' hm => ?_) (fun b u e => ?_) I.bare
 ·by_cases z : b = X.env.locals
  ·obtain ⟨o', es, ep, ho, _⟩ := hn'
   exact ⟨o', z ▸ ho⟩
  ·exact ⟨o, k b o z e⟩
 ·rw [hm.eq_nsMap, ← hn.eq_nsMap]
  exact hn'
 ·by_cases z : b = D
  ·subst z
   rw [z7] at e
   cases e
   exact new
  ·rw [z8 z] at e
   refine (I.hok b u e).stay (fun c v hc q => k c v ?_ q) (fun c q => by rw [z8 (za q h0)]; exact q) fun c _ q => by rw [z8 (za q h0)]; exact q
   rintro rfl
   rcases hc with hc | hc
   ·rw [← hc, hf] at e; cases e
   ·rw [hf] at hc; cases hc
def zdf (K : PySem.W.Frag) (Pt : Addr) (pos : Pos) (qual : Str) (i : Nat) (te : TA) : TE := fun σ H Q => te σ H fun xs H1 => ∃ (l : Addr) (L : List (Addr × List V)) (kf : Nat → Int), xs = [.ref l] ∧ SqL K H1 l (L.map fun q => V.ref q.1) ∧ L.length < 64 ∧ TbOk H1 Pt pos qual ∧
 (∀ (n : Nat) (q : Addr × List V), L[n]? = some q → H1 q.1 = some (.tup q.2) ∧ q.2[i]? = some (V.int (kf n))) ∧ (∀ a b, a < b → b < L.length → kf a < kf b) ∧
 ∀ (H2 : Hp) (r : Addr), But1 Pt H1 H2 → TbOk H2 Pt pos qual → H2 r = none → Q (.ref r) (upd H2 r (.lst (L.map fun q => V.ref q.1)))
theorem zb0 {e : Expr} {ta : TA} {c Pt : Addr} {x : Str} {i : Nat} {params : Arguments} {scope : Scope} {kk : Nat} {p pos kp lp p1 p2 p3 : Pos} (hr : Room 2 X.A) (hc : X.calm = true) (hg : Gl X "sorted") (hm : X.mg "sorted" = none) (ha : PA X [e] ta)
  (hcode : X.env.code = .ref c) (hC : codeHdIn X.K c Pt = true) (BA : X.base.BuiltinsAt X.mg Pt) (hdef : defaultsOf params X.env = ([], [])) (hcl : closureFor scope X.env = pure []) (LX : LamX x params scope)
  (he : backTo pos (starEach [e] X.env) = (false, eval e X.env) :: backTo pos (starEach [] X.env) := by rfl) (hpl : (backTo pos (starEach [e] X.env)).any (·.1) = false := by rfl) :
  PE X (.Call (.Name "sorted" p) [e] [⟨some (Str.ofString "key"), .Lambda params (.Subscript (.Name x p1) (.Constant (.int (i : Int)) kk p2) p3) scope lp, kp⟩] pos) (zdf X.K Pt lp (X.env.qual ++ "<lambda>") i ta) := by
 intro pins s σ H Q I h
 refine wpAny_Call_Name_kw (z4l I hg hm boot_sorted ?_)
 refine callWith_kw (thn (ha pos pins s σ H _ I h) fun us s1 ⟨vs, H1, I1, r1, q1⟩ => ?_) he hpl (by rfl) (by rfl)
 obtain ⟨l, L, kf, e1, hl, h64, hT, hL, hup, q⟩ := q1
 subst e1
 obtain ⟨u, rfl, ru⟩ := z4z r1
 cases ru
 refine kws_cons (zhh I1 hcode hC BA hT hdef hcl fun f c' ctv pm H2 s2 I2 hf hcd hT2 hB hf0 => kws_nil ?_)
 show wpAny _ _ (call (.builtin "sorted") [.ref l] [(Str.ofString "key", .ref f)]) _ _ _
 obtain ⟨ps0, hP0⟩ : ∃ ps, H1 Pt = some (.tbl ps) := hT.some
 have hl2 : SqL X.K H2 l (L.map fun q => V.ref q.1) := by
  rcases hl with (z | ⟨o, z⟩) | z
  ·exact .inl (.inl (hB _ _ z fun y => by rw [y, hP0] at z; cases z))
  ·exact .inl (.inr ⟨o, hB _ _ z fun y => by rw [y, hP0] at z; cases z⟩)
  ·exact .inr z
 obtain ⟨its, rv, pl, hz⟩ := I2.list hl2
 have hlen : L.length = its.length := by have := rv.length; rwa [List.length_map] at this
 obtain ⟨m, hn, _⟩ := id I2.loc
 have F : Fr X.base X.env.locals s2.heap m := ⟨hn, I2.bk, Nat.le_trans I2.ok.bsz I2.ok.above⟩
 have N : News X.base X.env.locals s2.heap (z4h X.base s2.heap X.env.locals) := zgw
 obtain ⟨oL, esL, epL, hoL, hdL, _⟩ := id hn
 have notL : ∀ (b : Addr) (o : Obj), s2.heap.get? b = some o → (∀ es ep, o.data ≠ .dict es ep) → b ≠ X.env.locals := fun b o e hd z => by
  rw [z, hoL] at e; cases e; exact hd _ _ hdL
 have nfL : f ≠ X.env.locals := notL f _ hf fun es ep z => by cases z
 refine ksk_sorted (b := false) (f := .ref f) (kz := (List.range its.length).map kf) F N pl.isList (by simp) (by omega) (ksk_s1 _ _) (fun x => ksk_l1 _ _) (fun x => ksk_t1 f x) (fun n v k hv hk hh tk own F' N' => ?_) fun D h' tk out c F' N' hlt hout => ?_
 ·have hj : n < its.length := (List.getElem?_eq_some_iff.mp hv).1
  have hj' : n < L.length := by omega
  have ek : k = kf n := by
   rw [List.getElem?_map, List.getElem?_range hj] at hk
   exact (Option.some.inj hk).symm
  have g1 : (L.map fun q => V.ref q.1)[n]? = some (V.ref (L[n]).1) := by rw [List.getElem?_map, List.getElem?_eq_getElem hj']; rfl
  obtain ⟨w', q1, q2⟩ := rv.get g1
  rw [hv] at q1; cases q1
  obtain rfl : v = Value.ref (L[n]).1 := q2
  obtain ⟨ht, hi⟩ := hL n L[n] (List.getElem?_eq_getElem hj')
  have ht2 : H2 (L[n]).1 = some (.tup (L[n]).2) := hB _ _ ht fun z => by rw [z, hP0] at ht; cases ht
  obtain ⟨zt, tits, rt, hTup⟩ := I2.hok _ _ ht2
  obtain ⟨u1, hu1, t1, rfl⟩ := rt.get hi
  have kA := zc1 I2.bk F' N'
  have tup' : IsTup hh (L[n]).1 tits.toArray := by
   obtain ⟨o, e, hcT, n, hdT⟩ := hTup
   exact ⟨o, kA _ _ (notL _ o e fun es ep z => by rw [hdT] at z; cases z) e, hcT, n, hdT⟩
  have cd' : hh.CodeRec (.ref c') (X.env.qual ++ "<lambda>") := by
   obtain ⟨cc, o, vs, t, ec, g, hd, hv⟩ := hcd
   exact ⟨cc, o, vs, t, ec, kA _ _ (notL _ o g fun es ep z => by rw [hd] at z; cases z) g, hd, hv⟩
  have hsz : tits.toArray.size < 2 ^ 62 := by
   have := rt.length
   rw [List.size_toArray, ← this]
   have h3 : (L[n]).2.length ≤ sizeLine := zt
   exact Nat.lt_of_le_of_lt h3 (by decide)
  rw [ek]
  refine wpAny_mono (zhi (A := X.A.in1.in1) (s := { s2 with heap := hh, toks := tk }) LX (hr.in1.in1).depth (kA _ _ nfL hf) cd' (I2.ok.mod.nolimit.keeps F'.keep) tup' (u := .int (kf n) t1) (by simpa using hu1) hsz) (fun v' s' hq => ?_) fun _ _ z => z
  obtain ⟨rfl, h3, tk3, rfl, hk3⟩ := hq
  exact ⟨h3, tk3, t1, rfl, rfl, F'.kept hk3, N'.grown hk3⟩
 ·obtain ⟨ps, pp, po, pr⟩ := hout
  have ez := zjx pp (by simpa using pr) (by
   rw [List.pairwise_map]
   refine List.Pairwise.imp_of_mem (fun {a b} ma mb hab => hup a b hab ?_) List.pairwise_lt_range
   rw [hlen]; exact List.mem_range.mp mb)
  have eo : out = its.toArray := by
   rw [ez, List.map_snd_zip (by simp)] at po
   rw [← po]
  subst eo
  have fresh : s2.heap.get? D = none := by
   cases eo : s2.heap.get? D with
   | none => rfl
   | some o => exact absurd (hlt _ (z7j (N' _ (.head _)).2.1 (N' _ (.head _)).2.2 eo)) (Nat.lt_irrefl _)
  refine ⟨.ref D, upd H2 D (.lst (L.map fun q => V.ref q.1)), I2.walkedL hn F'.ns (zc1 I2.bk F' (own := []) (by rw [List.append_nil]; exact fun q hq => N' q (.tail _ hq))) fresh ⟨?_, its, c, rv, (N' _ (.head _)).1⟩, rfl, q H2 D hB hT2 (HOk.gone I2.hok fresh)⟩
  rw [List.length_map]
  exact Nat.le_trans (Nat.le_of_lt h64) (by decide)
end
end L2
end
namespace Fg
open PySem L2
local macro_rules | `(tactic| walk_at "rd") => `(tactic| simp only [cxOf, L2.start, tSeq, zhv, tAsg, tBM, tBM0, zb8, gSub, gNil, zhx, tRet, zk7, tIfS, zhw, tOp, tUn, tSl, zi2, zd8, zjf, tIsN, tCB, zdz, tNil, tTup, tLst, tVar, tC, zdt, tB, tAnd, tOr, tNot, zht, tOrV, zhu, tIf, zf5, ze0, tFld, sFld, z76, zfp, z8h, zdf, zfo, tTry, zi3, clsV, zfr, gTup, zi7, zju, zi9, zfw, z8q, zi8, zh5, zfj, zfk, zhz, iStr, iTup, zfl, zef, zg0, tIfX, tYes, capt, rI, rI0, rU, rEq, rNe, tyV, scal,
 Option.join_some, List.map_cons, List.map_nil, List.cons_append, List.nil_append, List.append_nil, List.replicate, List.length_cons, List.length_nil, Nat.reduceAdd, Nat.reduceSub, List.getElem?_cons_zero, List.getElem?_cons_succ, List.set_cons_zero, List.set_cons_succ,
 Option.some.injEq, V.str.injEq, V.int.injEq, V.bl.injEq, V.ref.injEq, V.ty.injEq, List.cons.injEq, exists_eq_left', exists_eq_left, exists_and_left, and_true, true_and, reduceCtorEq, if_true, if_false])
def top (i : Nat) : Stmt := PySem.Challenge.pw_fencegate_k11_council_day.main.body.getD i (.Pass ⟨0, 0, 0, 0⟩)
abbrev z86 : Stmt := top 9
abbrev z6u : Stmt := top 10
abbrev z87 : Stmt := top 11
abbrev z35 : Stmt := z1e (top 13) 0
abbrev z47 : Stmt := z1e (top 13) 1
abbrev z48 : Stmt := z1e (top 13) 2
abbrev z49 : Stmt := z1e (top 13) 3
abbrev z2i : Stmt := z1e (top 13) 4
abbrev z2y : Stmt := z1e (top 13) 5
abbrev z4a : Stmt := z1e (top 13) 6
abbrev z4b : Stmt := z1e (top 13) 7
abbrev z2z : Stmt := z1e (top 15) 0
abbrev z2v : Stmt := z1e (top 15) 1
abbrev z2n : Stmt := z1e (top 15) 2
abbrev z3t : Stmt := z1e (top 15) 3
abbrev z3u : Stmt := z1e (top 15) 4
abbrev z4c : Stmt := z1e (top 15) 5
abbrev z3m : Stmt := z1e (top 15) 6
abbrev z3c : Stmt := z1e (top 15) 7
abbrev z3v : Stmt := z1e (top 15) 8
abbrev z3w : Stmt := z1e (top 15) 9
abbrev z6v : Stmt := top 17
abbrev z2d : Stmt := top 18
abbrev z56 : Stmt := top 19
abbrev z4u : Stmt := top 20
abbrev z4v : Stmt := top 21
abbrev z57 : Stmt := top 22
abbrev z4w : Stmt := top 23
abbrev z4x : Stmt := top 24
abbrev z58 : Stmt := top 25
abbrev z5w : Stmt := top 26
abbrev z5x : Stmt := top 27
abbrev z4d : Stmt := top 28
abbrev z5y : Stmt := top 29
abbrev z4e : Stmt := top 30
abbrev z59 : Stmt := top 31
abbrev z5a : Stmt := top 32
abbrev z3x : Stmt := top 33
abbrev z20 : Stmt := top 34
abbrev z4y : Stmt := top 35
abbrev z2w : Stmt := top 36
abbrev z79 : Stmt := top 37
structure Txt (K : PySem.W.Frag) (mg : Str → Option Value) (C_Council C_Down C_InTheWay C_Keeper C_NotFree C_OldNumber C_UnknownKeeper Pt__law_notes cd__law_notes : Addr) : Prop where
 z : True
 b_all : mg "all" = none
 b_bool : mg "bool" = none
 b_enumerate : mg "enumerate" = none
 b_int : mg "int" = none
 b_isinstance : mg "isinstance" = none
 b_len : mg "len" = none
 b_list : mg "list" = none
 b_max : mg "max" = none
 b_min : mg "min" = none
 b_range : mg "range" = none
 b_set : mg "set" = none
 b_sorted : mg "sorted" = none
 b_str : mg "str" = none
 b_tuple : mg "tuple" = none
 g_Council : mg "Council" = some (.ref C_Council)
 g_Down : mg "Down" = some (.ref C_Down)
 g_InTheWay : mg "InTheWay" = some (.ref C_InTheWay)
 g_Keeper : mg "Keeper" = some (.ref C_Keeper)
 g_NotFree : mg "NotFree" = some (.ref C_NotFree)
 g_OldNumber : mg "OldNumber" = some (.ref C_OldNumber)
 g_UnknownKeeper : mg "UnknownKeeper" = some (.ref C_UnknownKeeper)
 pg_Council : PySem.W.plainGet K C_Council Str.empty = true
 hd_Council : PySem.W.hasDictIn K C_Council = true
 po_Council : PySem.W.plainOver K C_Council = true
 sa_Council : PySem.W.findIn K (.ref C_Council) "__setattr__" = some (some (.builtin "object.__setattr__"))
 n_Council_keepers : NoAttr K C_Council "keepers"
 n_Council_most : NoAttr K C_Council "most"
 pg_Keeper : PySem.W.plainGet K C_Keeper Str.empty = true
 hd_Keeper : PySem.W.hasDictIn K C_Keeper = true
 po_Keeper : PySem.W.plainOver K C_Keeper = true
 sa_Keeper : PySem.W.findIn K (.ref C_Keeper) "__setattr__" = some (some (.builtin "object.__setattr__"))
 n_Keeper_up : NoAttr K C_Keeper "up"
 n_Keeper_top : NoAttr K C_Keeper "top"
 n_Keeper_kept : NoAttr K C_Keeper "kept"
 x_Down : PySem.W.excIn K C_Down [.type "ValueError", .type "Exception", .type "BaseException", .type "object"] "ValueError.__new__" = true
 x_InTheWay : PySem.W.excIn K C_InTheWay [.type "ValueError", .type "Exception", .type "BaseException", .type "object"] "ValueError.__new__" = true
 x_NotFree : PySem.W.excIn K C_NotFree [.type "ValueError", .type "Exception", .type "BaseException", .type "object"] "ValueError.__new__" = true
 x_OldNumber : PySem.W.excIn K C_OldNumber [.type "ValueError", .type "Exception", .type "BaseException", .type "object"] "ValueError.__new__" = true
 x_UnknownKeeper : PySem.W.excIn K C_UnknownKeeper [.type "ValueError", .type "Exception", .type "BaseException", .type "object"] "ValueError.__new__" = true
 sb_Down_NotFree : PySem.W.subIn K (.ref C_Down) (.ref C_NotFree) = some false
 sb_InTheWay_NotFree : PySem.W.subIn K (.ref C_InTheWay) (.ref C_NotFree) = some false
 sb_NotFree_NotFree : PySem.W.subIn K (.ref C_NotFree) (.ref C_NotFree) = some true
 sb_OldNumber_NotFree : PySem.W.subIn K (.ref C_OldNumber) (.ref C_NotFree) = some false
 sb_UnknownKeeper_NotFree : PySem.W.subIn K (.ref C_UnknownKeeper) (.ref C_NotFree) = some false
 hd__law_notes : PySem.W.codeHdIn K cd__law_notes Pt__law_notes = true
theorem Txt.cl_Council {K : PySem.W.Frag} {mg : Str → Option Value} {C_Council C_Down C_InTheWay C_Keeper C_NotFree C_OldNumber C_UnknownKeeper Pt__law_notes cd__law_notes : Addr} (T : Txt K mg C_Council C_Down C_InTheWay C_Keeper C_NotFree C_OldNumber C_UnknownKeeper Pt__law_notes cd__law_notes) : Cls K C_Council := ⟨T.pg_Council, T.hd_Council, T.po_Council, T.sa_Council⟩
theorem Txt.cl_Keeper {K : PySem.W.Frag} {mg : Str → Option Value} {C_Council C_Down C_InTheWay C_Keeper C_NotFree C_OldNumber C_UnknownKeeper Pt__law_notes cd__law_notes : Addr} (T : Txt K mg C_Council C_Down C_InTheWay C_Keeper C_NotFree C_OldNumber C_UnknownKeeper Pt__law_notes cd__law_notes) : Cls K C_Keeper := ⟨T.pg_Keeper, T.hd_Keeper, T.po_Keeper, T.sa_Keeper⟩
theorem sc_within : FnScope ["inner", "outer", "outer_names"] ["inner", "outer"] (zf z86) := ⟨rfl, rfl, rfl, by decide +kernel, rfl, by decide +kernel, by decide +kernel⟩
theorem zej : FnScope ["one", "other"] ["one", "other"] (zf z6u) := ⟨rfl, rfl, rfl, by decide +kernel, rfl, by decide +kernel, by decide +kernel⟩
theorem zg6 : FnScope ["lock", "shared", "other", "other_shared"] ["lock", "shared", "other", "other_shared"] (zf z87) := ⟨rfl, rfl, rfl, by decide +kernel, rfl, by decide +kernel, by decide +kernel⟩
theorem z6w : FnScope ["self"] ["self"] (zf z35) := ⟨rfl, rfl, rfl, by decide +kernel, rfl, by decide +kernel, by decide +kernel⟩
theorem z9r : FnScope ["self"] ["self"] (zf z47) := ⟨rfl, rfl, rfl, by decide +kernel, rfl, by decide +kernel, by decide +kernel⟩
theorem z9s : FnScope ["self"] ["self"] (zf z48) := ⟨rfl, rfl, rfl, by decide +kernel, rfl, by decide +kernel, by decide +kernel⟩
theorem z9t : FnScope ["self", "tick"] ["self", "tick"] (zf z49) := ⟨rfl, rfl, rfl, by decide +kernel, rfl, by decide +kernel, by decide +kernel⟩
theorem sc_Keeper_names_in_way : FnScope ["self", "holder", "lock", "shared", "tick", "others"] ["self", "holder", "lock", "shared", "tick"] (zf z2i) := ⟨rfl, rfl, rfl, by decide +kernel, rfl, by decide +kernel, by decide +kernel⟩
theorem z6d : FnScope ["self", "holder", "lock", "shared", "tick"] ["self", "holder", "lock", "shared", "tick"] (zf z2y) := ⟨rfl, rfl, rfl, by decide +kernel, rfl, by decide +kernel, by decide +kernel⟩
theorem sc_Keeper_take : FnScope ["self", "number", "holder", "lock", "shared", "tick", "time", "others"] ["self", "number", "holder", "lock", "shared", "tick", "time"] (zf z4a) := ⟨rfl, rfl, rfl, by decide +kernel, rfl, by decide +kernel, by decide +kernel⟩
theorem z9u : FnScope ["self", "number", "tick"] ["self", "number", "tick"] (zf z4b) := ⟨rfl, rfl, rfl, by decide +kernel, rfl, by decide +kernel, by decide +kernel⟩
theorem z6e : FnScope ["self", "many"] ["self", "many"] (zf z2z) := ⟨rfl, rfl, rfl, by decide +kernel, rfl, by decide +kernel, by decide +kernel⟩
theorem z5z : FnScope ["self", "place"] ["self", "place"] (zf z2v) := ⟨rfl, rfl, rfl, by decide +kernel, rfl, by decide +kernel, by decide +kernel⟩
theorem z5l : FnScope ["self"] ["self"] (zf z2n) := ⟨rfl, rfl, rfl, by decide +kernel, rfl, by decide +kernel, by decide +kernel⟩
theorem sc_Council_fall : FnScope ["self", "keeper", "chosen", "was_up"] ["self", "keeper"] (zf z3t) := ⟨rfl, rfl, rfl, by decide +kernel, rfl, by decide +kernel, by decide +kernel⟩
theorem sc_Council_rise : FnScope ["self", "keeper", "chosen", "was_up"] ["self", "keeper"] (zf z3u) := ⟨rfl, rfl, rfl, by decide +kernel, rfl, by decide +kernel, by decide +kernel⟩
theorem z9v : FnScope ["self"] ["self"] (zf z4c) := ⟨rfl, rfl, rfl, by decide +kernel, rfl, by decide +kernel, by decide +kernel⟩
theorem z88 : FnScope ["self", "keeper", "tick"] ["self", "keeper", "tick"] (zf z3m) := ⟨rfl, rfl, rfl, by decide +kernel, rfl, by decide +kernel, by decide +kernel⟩
theorem z7h : FnScope ["self", "holder", "lock", "shared", "tick"] ["self", "holder", "lock", "shared", "tick"] (zf z3c) := ⟨rfl, rfl, rfl, by decide +kernel, rfl, by decide +kernel, by decide +kernel⟩
theorem sc_Council_give : FnScope ["self", "holder", "lock", "shared", "tick", "time", "sayers", "number", "place"] ["self", "holder", "lock", "shared", "tick", "time"] (zf z3v) := ⟨rfl, rfl, rfl, by decide +kernel, rfl, by decide +kernel, by decide +kernel⟩
theorem sc_Council_drop : FnScope ["self", "number", "tick", "droppers", "place", "keeper"] ["self", "number", "tick"] (zf z3w) := ⟨rfl, rfl, rfl, by decide +kernel, rfl, by decide +kernel, by decide +kernel⟩
theorem zek : FnScope ["_law_script", "_law_k"] ["_law_script", "_law_k"] (zf z6v) := ⟨rfl, rfl, rfl, by decide +kernel, rfl, by decide +kernel, by decide +kernel⟩
theorem z6x : FnScope ["_law_found", "_law_due"] ["_law_found", "_law_due"] (zf z2d) := ⟨rfl, rfl, rfl, by decide +kernel, rfl, by decide +kernel, by decide +kernel⟩
theorem sc__law_name : FnScope ["_law_cell", "_law_k", "_law_signs", "_law_rest", "_law_many", "_law_spot", "_law_made", "_law_j", "_law_place"] ["_law_cell", "_law_k"] (zf z56) := ⟨rfl, rfl, rfl, by decide +kernel, rfl, by decide +kernel, by decide +kernel⟩
theorem zb1 : FnScope ["_law_cell", "_law_many"] ["_law_cell", "_law_many"] (zf z4u) := ⟨rfl, rfl, rfl, by decide +kernel, rfl, by decide +kernel, by decide +kernel⟩
theorem sc__law_locks : FnScope ["_law_cell", "_law_words", "_law_many", "_law_made", "_law_rest", "_law_k", "_law_parent", "_law_path"] ["_law_cell", "_law_words", "_law_many"] (zf z4v) := ⟨rfl, rfl, rfl, by decide +kernel, rfl, by decide +kernel, by decide +kernel⟩
theorem sc__law_some : FnScope ["_law_cell", "_law_names_here", "_law_found", "_law_rest", "_law_name_here"] ["_law_cell", "_law_names_here"] (zf z57) := ⟨rfl, rfl, rfl, by decide +kernel, rfl, by decide +kernel, by decide +kernel⟩
theorem sc__law_setup : FnScope ["_law_script", "_law_keepers", "_law_holders", "_law_locks_here", "_law_sharing", "_law_stores"] ["_law_script"] (zf z4w) := ⟨rfl, rfl, rfl, by decide +kernel, rfl, by decide +kernel, by decide +kernel⟩
theorem sc__law_asked : FnScope ["_law_rest", "_law_k", "_law_setup_here", "_law_holder", "_law_lock", "_law_shared"] ["_law_rest", "_law_k", "_law_setup_here"] (zf z4x) := ⟨rfl, rfl, rfl, by decide +kernel, rfl, by decide +kernel, by decide +kernel⟩
theorem sc__law_line : FnScope ["_law_one", "_law_other", "_law_first", "_law_second", "_law_many"] ["_law_one", "_law_other"] (zf z58) := ⟨rfl, rfl, rfl, by decide +kernel, rfl, by decide +kernel, by decide +kernel⟩
theorem zcu : FnScope ["_law_lock", "_law_shared", "_law_other", "_law_other_shared"] ["_law_lock", "_law_shared", "_law_other", "_law_other_shared"] (zf z5w) := ⟨rfl, rfl, rfl, by decide +kernel, rfl, by decide +kernel, by decide +kernel⟩
theorem zcv : FnScope ["_law_setup_here"] ["_law_setup_here"] (zf z5x) := ⟨rfl, rfl, rfl, by decide +kernel, rfl, by decide +kernel, by decide +kernel⟩
theorem sc__law_naming : FnScope ["_law_state", "_law_asking", "_law_keeper", "_law_found", "_law_note"] ["_law_state", "_law_asking", "_law_keeper"] (zf z4d) := ⟨rfl, rfl, rfl, by decide +kernel, rfl, by decide +kernel, by decide +kernel⟩
theorem zcw : FnScope ["_law_state"] ["_law_state"] (zf z5y) := ⟨rfl, rfl, rfl, by decide +kernel, rfl, by decide +kernel, by decide +kernel⟩
theorem z9w : FnScope ["_law_state", "_law_asking"] ["_law_state", "_law_asking"] (zf z4e) := ⟨rfl, rfl, rfl, by decide +kernel, rfl, by decide +kernel, by decide +kernel⟩
theorem zc2 : FnScope ["_law_state", "_law_asking"] ["_law_state", "_law_asking"] (zf z59) := ⟨rfl, rfl, rfl, by decide +kernel, rfl, by decide +kernel, by decide +kernel⟩
theorem sc__law_give : FnScope ["_law_state", "_law_asking", "_law_by", "_law_number", "_law_holder", "_law_lock", "_law_shared", "_law_end", "_law_notes_here", "_law_note", "_law_k"] ["_law_state", "_law_asking"] (zf z5a) := ⟨rfl, rfl, rfl, by decide +kernel, rfl, by decide +kernel, by decide +kernel⟩
theorem sc__law_dropped : FnScope ["_law_state", "_law_number", "_law_found", "_law_notes_here", "_law_note"] ["_law_state", "_law_number"] (zf z3x) := ⟨rfl, rfl, rfl, by decide +kernel, rfl, by decide +kernel, by decide +kernel⟩
theorem sc__law_notes : FnScope ["_law_state", "_law_keeper", "_law_found", "_law_note"] ["_law_state", "_law_keeper"] (zf z20) := ⟨rfl, rfl, rfl, by decide +kernel, rfl, by decide +kernel, by decide +kernel⟩
theorem sc__law_given : FnScope ["_law_council", "_law_asking", "_law_tick", "_law_refused"] ["_law_council", "_law_asking", "_law_tick"] (zf z4y) := ⟨rfl, rfl, rfl, by decide +kernel, rfl, by decide +kernel, by decide +kernel⟩
theorem sc__law_council_deed : FnScope ["_law_council", "_law_state", "_law_cell", "_law_k", "_law_setup_here", "_law_rest", "_law_event", "_law_asking", "_law_found", "_law_by", "_law_number", "_law_keeper", "_law_changed"] ["_law_council", "_law_state", "_law_cell", "_law_k"] (zf z2w) := ⟨rfl, rfl, rfl, by decide +kernel, rfl, by decide +kernel, by decide +kernel⟩
theorem sc_law : FnScope ["_law_script", "_law_setup_here", "_law_council", "_law_state", "_law_k", "_law_cell", "_law_event", "_law_asking", "_law_found", "_law_keeper"] ["_law_script"] (zf z79) := ⟨rfl, rfl, rfl, by decide +kernel, rfl, by decide +kernel, by decide +kernel⟩
variable {C_Council C_Down C_InTheWay C_Keeper C_NotFree C_OldNumber C_UnknownKeeper Pt__law_notes cd__law_notes : Addr}
variable {ts : List Addr}
section
variable {P : Program} {w : World} {K : PySem.W.Frag} {mg : Str → Option Value} {base : Heap}
def sp (a : Str) : List Str := Txt.split a "/"
def z6y (a b : Str) : Bool := decide ((sp a).take (sp b).length = sp b)
def zc3 : Sp := fun vs H Q _ => ∃ a b : Str, vs = [.str a, .str b] ∧ a.length ≤ 1000 ∧ b.length ≤ 1000 ∧ z50 H Q (.bl (z6y a b))
theorem zg7 (F : Def K mg "within" z86 ["inner", "outer"]) (T : Txt K mg C_Council C_Down C_InTheWay C_Keeper C_NotFree C_OldNumber C_UnknownKeeper Pt__law_notes cd__law_notes) : Has P w K mg base 1 "within" ["inner", "outer"] (zc3) := by
 refine F.ok sc_within (fun vs H Q E h => ?_) (fun f cdv A outer s H vs Q E hr h => ?_)
 ·obtain ⟨a, b, rfl, _⟩ := h
  rfl
 ·obtain ⟨a, b, rfl, ha, hb, k⟩ := h
  have hu := hr.units0
  refine ⟨_, (z9 (zi (i := 2) sc_within.nd rfl (Or.inl rfl) (z2f PySem.F.plainAttrs_str PySem.F.slot_str_split PySem.F.type_str_split z5t (pv 1) (z0 zj z6)))
   (zb (zk (z1d (zfh hu) (z4n z9g (z2f PySem.F.plainAttrs_str PySem.F.slot_str_split PySem.F.type_str_split z5t (pv 0) (z0 zj z6)) z5f (z5g (zg zp rfl T.b_len (by decide +kernel) (z0 (pv 2) z6)))) (pv 2) (zl _))))), ?_⟩
  walk_at "rd"
  refine z78 rfl (by omega) fun p hp => z78 rfl (by omega) fun q hq => ?_
  have npq : p ≠ q := za z7 hq
  refine ⟨_, rfl, _, .inl (SqL.of (by rw [z8 npq, z7])), _, _, rfl, SqL.of z7, fun r hr' => ?_⟩
  have nr : ∀ b, b = p ∨ b = q → b ≠ r := fun b hb z => by
   subst z
   rcases hb with rfl | rfl
   ·rw [z8 npq, z7] at hr'; cases hr'
   ·rw [z7] at hr'; cases hr'
  refine ⟨_, _, _, _, rfl, rfl, SqL.of z7, SqL.of (by rw [z8 (nr p (.inl rfl)), z8 npq, z7]), ?_, z2h _, ?_⟩
  ·rw [List.length_map, z8n, ← List.map_take]
   exact z2h _
  ·rw [List.length_map, z8n, ← List.map_take]
   have e : eqVs (List.map V.str (List.take (sp b).length (sp a))) (List.map V.str (sp b)) = z6y a b := z5s _ _
   show Q (.bl (eqVs (List.map V.str (List.take (sp b).length (sp a))) (List.map V.str (sp b)))) _
   rw [e]
   exact k _ (((Same.upd hp).trans (Same.upd hq)).trans (Same.upd hr'))
def onl (a b : Str) : Bool := z6y a b || z6y b a
def spOn : Sp := fun vs H Q _ => ∃ a b : Str, vs = [.str a, .str b] ∧ a.length ≤ 1000 ∧ b.length ≤ 1000 ∧ z50 H Q (.bl (onl a b))
theorem zel (F : Def K mg "on_line" z6u ["one", "other"]) (T : Txt K mg C_Council C_Down C_InTheWay C_Keeper C_NotFree C_OldNumber C_UnknownKeeper Pt__law_notes cd__law_notes) (G_within : Has P w K mg base 1 "within" ["inner", "outer"] (zc3)) : Has P w K mg base 2 "on_line" ["one", "other"] (spOn) := by
 refine F.ok zej (fun vs H Q E h => ?_) (fun f cdv A outer s H vs Q E hr h => ?_)
 ·obtain ⟨a, b, rfl, _⟩ := h
  rfl
 ·obtain ⟨a, b, rfl, ha, hb, k⟩ := h
  refine ⟨_, (zb (zk (zk6 (zo G_within (hr.mono (by decide)) rfl (z0 (pv 0) (z0 (pv 1) z6))) (z1z (zo G_within (hr.mono (by decide)) rfl (z0 (pv 1) (z0 (pv 0) z6))))))), ?_⟩
  walk_at "rd"
  refine ⟨a, b, rfl, ha, hb, fun H1 s1 => ⟨_, rfl, ?_⟩⟩
  cases e : z6y a b with
  | true =>
   rw [if_pos rfl]
   have := k H1 s1
   simpa [onl, e] using this
  | false =>
   rw [if_neg Bool.false_ne_true]
   refine ⟨b, a, rfl, hb, ha, fun H2 s2 => ?_⟩
   have := k H2 (s1.trans s2)
   simpa [onl, e] using this
def zib : Sp := fun vs H Q _ => ∃ (a b : Str) (x y : Bool), vs = [.str a, .bl x, .str b, .bl y] ∧ a.length ≤ 1000 ∧ b.length ≤ 1000 ∧ z50 H Q (.bl (onl a b && !(x && y)))
theorem zg8 (F : Def K mg "in_way" z87 ["lock", "shared", "other", "other_shared"]) (T : Txt K mg C_Council C_Down C_InTheWay C_Keeper C_NotFree C_OldNumber C_UnknownKeeper Pt__law_notes cd__law_notes) (G_on_line : Has P w K mg base 2 "on_line" ["one", "other"] (spOn)) : Has P w K mg base 3 "in_way" ["lock", "shared", "other", "other_shared"] (zib) := by
 refine F.ok zg6 (fun vs H Q E h => ?_) (fun f cdv A outer s H vs Q E hr h => ?_)
 ·obtain ⟨a, b, x, y, rfl, _⟩ := h
  rfl
 ·obtain ⟨a, b, x, y, rfl, ha, hb, k⟩ := h
  refine ⟨_, (zb (zk (z25 (zo G_on_line (hr.mono (by decide)) rfl (z0 (pv 0) (z0 (pv 2) z6))) (z1z (zbc (z25 (pv 1) (z1z (pv 3)))))))), ?_⟩
  walk_at "rd"
  refine ⟨a, b, rfl, ha, hb, fun H1 s1 => ⟨_, rfl, ?_⟩⟩
  have := k H1 s1
  cases e : onl a b <;> cases x <;> simp_all
structure Nt where
 n : Int
 h : Str
 l : Str
 sh : Bool
 e : Int
def Nt.vals (x : Nt) : List V := [.int x.n, .str x.h, .str x.l, .bl x.sh, .int x.e]
abbrev NL := List (Addr × Nt)
def refs (L : NL) : List V := L.map fun q => V.ref q.1
structure NotesAt (H : Hp) (L : NL) : Prop where
 tu : ∀ q ∈ L, H q.1 = some (.tup q.2.vals)
 sm : ∀ q ∈ L, q.2.h.length ≤ 1000 ∧ q.2.l.length ≤ 1000
theorem NotesAt.mono {H H' : Hp} {L : NL} (h : NotesAt H L) (s : Same H H') : NotesAt H' L := ⟨fun q hq => s _ _ (h.tu q hq), h.sm⟩
theorem NotesAt.sub {H : Hp} {L L' : NL} (h : NotesAt H L) (s : ∀ q ∈ L', q ∈ L) : NotesAt H L' := ⟨fun q hq => h.tu q (s q hq), fun q hq => h.sm q (s q hq)⟩
theorem n1 : ¬ (("up" : Str) = "top") := by decide +kernel
theorem n2 : ¬ (("up" : Str) = "kept") := by decide +kernel
theorem n3 : ¬ (("top" : Str) = "kept") := by decide +kernel
def kf (u : Bool) (t : Int) (l : Addr) : List (Str × V) := [("up", .bl u), ("top", .int t), ("kept", .ref l)]
theorem z7a (u : Bool) (t : Int) (l : Addr) : (kf u t l).lookup ("up" : Str) = some (.bl u) := by simp [kf, List.lookup_cons]
theorem zg9 (u : Bool) (t : Int) (l : Addr) : (kf u t l).lookup ("top" : Str) = some (.int t) := by
 have e : (("top" : Str) == "up") = false := by decide +kernel
 simp [kf, List.lookup_cons, e]
theorem z33 (u : Bool) (t : Int) (l : Addr) : (kf u t l).lookup ("kept" : Str) = some (.ref l) := by
 have e : (("kept" : Str) == "up") = false := by decide +kernel
 have e' : (("kept" : Str) == "top") = false := by decide +kernel
 simp [kf, List.lookup_cons, e, e']
theorem z41 (u : Bool) (t : Int) (l : Addr) {m : Str} (h1 : (m == "up") = false) (h2 : (m == "top") = false) (h3 : (m == "kept") = false) : (kf u t l).lookup m = none := by
 simp [kf, List.lookup_cons, h1, h2, h3]
theorem zkb (u : Bool) (t : Int) (l : Addr) : putF "kept" (.ref l) (putF "top" (.int t) (putF "up" (.bl u) [])) = kf u t l := by
 simp [putF, kf, n1, n2, n3]
theorem zap (u u' : Bool) (t : Int) (l : Addr) : putF "up" (.bl u') (kf u t l) = kf u' t l := by simp [putF, kf]
theorem zem (u : Bool) (t t' : Int) (l : Addr) : putF "top" (.int t') (kf u t l) = kf u t' l := by simp [putF, kf, n1]
theorem z5b (u : Bool) (t : Int) (l l' : Addr) : putF "kept" (.ref l') (kf u t l) = kf u t l' := by simp [putF, kf, n2, n3]
structure KeeperAt (C : Addr) (H : Hp) (k : Addr) (u : Bool) (t : Int) (L : NL) : Prop where
 ob : ∃ dx l, H k = some (.ins C dx (kf u t l)) ∧ H l = some (.lst (refs L))
 nt : NotesAt H L
 len : L.length ≤ 1000
theorem KeeperAt.mono {C : Addr} {H H' : Hp} {k : Addr} {u : Bool} {t : Int} {L : NL} (h : KeeperAt C H k u t L) (s : Same H H') : KeeperAt C H' k u t L := by
 obtain ⟨⟨dx, l, h1, h2⟩, h3, h4⟩ := h
 exact ⟨⟨dx, l, s _ _ h1, s _ _ h2⟩, h3.mono s, h4⟩
def But (k : Addr) (H H' : Hp) : Prop := ∀ b o, H b = some o → b ≠ k → H' b = some o
theorem But.of {k : Addr} {H H' : Hp} (s : Same H H') : But k H H' := fun b o e _ => s b o e
theorem z2o {L : NL} {i : Nat} {x : V} (h : (refs L)[i]? = some x) : ∃ q, L[i]? = some q ∧ x = .ref q.1 := by
 unfold refs at h
 rw [List.getElem?_map] at h
 cases e : L[i]? with
 | none => rw [e] at h; cases h
 | some q => rw [e] at h; exact ⟨q, rfl, (Option.some.inj h).symm⟩
theorem z14 (L : NL) : (refs L).length = L.length := List.length_map _
theorem z1i {α : Type} (p : α → Bool) {L : List α} {i : Nat} {x : α} (h : L[i]? = some x) : (L.take (i + 1)).filter p = (L.take i).filter p ++ (if p x = true then [x] else []) := by
 rw [List.take_succ, h, List.filter_append]
 simp [List.filter_cons]
theorem zv {H H' : Hp} {p : Addr} (s : Same H H') (h : H' p = none) : H p = none := by
 cases e : H p with
 | none => rfl
 | some o => rw [s _ _ e] at h; cases h
def zga (C : Addr) : Sp := fun vs H Q _ => ∃ (k dx : Addr), vs = [.ref k] ∧ H k = some (.ins C dx []) ∧ ∀ (H' : Hp), KeeperAt C H' k true 0 [] → (∃ dx l, H' k = some (.ins C dx (kf true 0 l)) ∧ H l = none) → But k H H' → Q .non H'
theorem z6z (F : KDef K C_Keeper "Keeper.__init__" z35 ["self"]) (T : Txt K mg C_Council C_Down C_InTheWay C_Keeper C_NotFree C_OldNumber C_UnknownKeeper Pt__law_notes cd__law_notes) : KHas P w K mg base 1 C_Keeper ["self"] (zga C_Keeper) := by
 refine F.ok z6w (fun vs H Q E h => ?_) (fun f cdv A outer s H vs Q E hr h => ?_)
 ·obtain ⟨k, dx, rfl, _⟩ := h
  rfl
 ·obtain ⟨k, dx, rfl, hk, q⟩ := h
  refine ⟨_, (z9 (z38 (pv 0) z24 rfl)
   (z9 (z38 (pv 0) z4 rfl)
   (zb (z38 (pv 0) (z1b z6) rfl)))), ?_⟩
  walk_at "rd"
  refine ⟨_, _, _, hk, T.cl_Keeper, T.n_Keeper_up, by decide, _, _, _, z7, T.cl_Keeper, T.n_Keeper_top, by show (1 : Nat) < 1000; decide, Nat.zero_le _, fun p hp => ?_⟩
  have nkp : k ≠ p := za z7 hp
  refine ⟨_, _, _, by rw [z8 nkp, z7], T.cl_Keeper, T.n_Keeper_kept, by simp [putF, n1], ?_⟩
  rw [zkb]
  refine q _ ⟨⟨dx, p, z7, by rw [z8 nkp.symm, z7]; rfl⟩, ⟨by simp, by simp⟩, by simp⟩ ⟨dx, p, z7, ?_⟩ fun b o e nb => ?_
  ·rw [z8 nkp.symm, z8 nkp.symm] at hp
   exact hp
  have nbp : b ≠ p := fun z => by
   subst z
   rw [z8 nb, z8 nb, e] at hp
   cases hp
  rw [z8 nb, z8 nbp, z8 nb, z8 nb]
  exact e
def z16 (tick : Int) (L : NL) : NL := L.filter fun q => decide (tick < q.2.e)
def z8v (C : Addr) : Sp := fun vs H Q _ => ∃ (k : Addr) (u : Bool) (t : Int) (L : NL) (tick : Int), vs = [.ref k, .int tick] ∧ KeeperAt C H k u t L ∧ ∀ (r : Addr) (H' : Hp), H r = none → H' r = some (.lst (refs (z16 tick L))) → Same H H' → Q (.ref r) H'
theorem z9x (F : MDef K C_Keeper "live" "Keeper.live" z49 ["self", "tick"]) (T : Txt K mg C_Council C_Down C_InTheWay C_Keeper C_NotFree C_OldNumber C_UnknownKeeper Pt__law_notes cd__law_notes) : MHas P w K mg base CX0 1 C_Keeper "live" ["self", "tick"] (z8v C_Keeper) := by
 refine F.ok z9t (fun vs H Q E h => ?_) (fun f cdv A outer s H vs Q E hr h => ?_)
 ·obtain ⟨k, u, t, L, tick, rfl, _⟩ := h
  rfl
 ·obtain ⟨k, u, t, L, tick, rfl, hk, q⟩ := h
  refine ⟨_, (zb (zk (z1v (x := "note") (cap := ["tick"]) (js := [1]) rfl ⟨rfl, by decide +kernel, by decide +kernel, rfl, zw rfl, by decide +kernel, ⟨⟨rfl, Or.inl rfl, rfl⟩, trivial⟩⟩ (z18 (z26 (pv 0) rfl)) (fun _ _ _ _ => (z2g (zm z75 (pv 1) (zh (z1w (K := K)) (pv 0) z4 (fun _ _ => rfl)) (zl _)))) (fun _ _ _ _ => (pv 0))))), ?_⟩
  walk_at "rd"
  obtain ⟨⟨dx, l, h1, h2⟩, hn, hlen⟩ := hk
  refine ⟨_, _, _, h1, T.cl_Keeper, T.n_Keeper_kept, _, z33 u t l, l, rfl, ⟨_, SqL.of h2⟩, ?_⟩
  refine z1j (xs := refs L) (by rw [z14]; exact zd (by omega)) (fun i acc H' => acc = refs (z16 tick (L.take i)) ∧ H' = H) ⟨by simp [z16, refs], rfl⟩ ?_ ?_ ?_ ?_
  ·rintro i acc H' ⟨rfl, -⟩
   rw [z14]
   exact Nat.le_trans (List.length_filter_le _ _) (by rw [List.length_take]; omega)
  ·rintro i acc H' ⟨-, rfl⟩
   exact SqL.of h2
  ·rintro Nn i acc H' x hN hx hi ⟨rfl, rfl⟩
   obtain ⟨y, hy, rfl⟩ := z2o hx
   walk_at "rd"
   refine ⟨_, _, _, _, rfl, rfl, SqT.of (hn.tu _ (List.mem_of_getElem? hy)), zc (j := 4) rfl, ?_⟩
   have st := z1i (fun q : Addr × Nt => decide (tick < q.2.e)) hy
   by_cases hc : tick < y.2.e
   ·refine ⟨_, rfl, ?_⟩
    simp only [hc, decide_true, if_true]
    refine hN _ _ ⟨?_, rfl⟩
    unfold z16
    rw [st]
    simp [hc, refs]
   ·refine ⟨_, rfl, ?_⟩
    simp only [hc, decide_false, Bool.false_eq_true, if_false]
    refine hN _ _ ⟨?_, rfl⟩
    unfold z16
    rw [st]
    simp [hc, refs]
  ·rintro acc H' ⟨rfl, rfl⟩ p hp
   rw [z14, List.take_length]
   exact q p _ hp z7 (Same.upd hp)
def z30 (hd lk : Str) (sh : Bool) (x : Nt) : Bool := decide (x.h ≠ hd) && (onl lk x.l && !(sh && x.sh))
def z2r (L : NL) (hd lk : Str) (sh : Bool) (tick : Int) : Bool := !((z16 tick L).any fun q => z30 hd lk sh q.2)
def othf (hd : Str) (L : NL) : NL := L.filter fun q => decide (q.2.h ≠ hd)
def wayf (lk : Str) (sh : Bool) (L : NL) : List Str := (L.filter fun q => onl lk q.2.l && !(sh && q.2.sh)).map fun q => q.2.h
def z60 (L : NL) (hd lk : Str) (sh : Bool) (tick : Int) : List Str := wayf lk sh (othf hd (z16 tick L))
theorem z7w : ∀ (ss D : List Str), (ss.foldl z1a D).length ≤ D.length + ss.length
 | [], D => Nat.le_refl _
 | v :: ss, D => by
  rw [List.foldl_cons]
  refine Nat.le_trans (z7w ss _) ?_
  unfold z1a
  split
  ·simp only [List.length_cons]; omega
  ·simp only [List.length_append, List.length_cons, List.length_nil]; omega
theorem zix (ss : List Str) : (z1n ss).length ≤ ss.length := by
 have := z7w ss []
 simpa [z1n] using this
theorem ziy {ss ks : List Str} (h : ks.Perm (z1n ss)) : ks = [] ↔ ss = [] := by
 constructor
 ·rintro rfl
  cases ss with
  | nil => rfl
  | cons v ss =>
   have : v ∈ z1n (v :: ss) := (z7r (v :: ss) [] v).mpr (.inr (by simp))
   rw [← h.mem_iff] at this
   cases this
 ·rintro rfl
  exact List.Perm.eq_nil h
theorem zgb (L : NL) (hd lk : Str) (sh : Bool) (tick : Int) : decide (z60 L hd lk sh tick = []) = z2r L hd lk sh tick := by
 unfold z60 wayf othf z2r
 rw [Bool.eq_iff_iff]
 simp only [decide_eq_true_eq, List.map_eq_nil_iff, List.filter_eq_nil_iff, List.mem_filter, Bool.not_eq_true', List.any_eq_false, z30, Bool.and_eq_true, and_imp]
 constructor
 ·intro h x hx h1
  exact h x hx h1.1 h1.2
 ·intro h x hx h1 h2
  exact h x hx ⟨h1, h2⟩
def zc4 (C : Addr) : Sp := fun vs H Q _ => ∃ (k : Addr) (u : Bool) (t : Int) (L : NL) (hd lk : Str) (sh : Bool) (tick : Int), vs = [.ref k, .str hd, .str lk, .bl sh, .int tick] ∧ KeeperAt C H k u t L ∧ L.length ≤ 63 ∧ lk.length ≤ 1000 ∧
 ∀ (r : Addr) (ks : List Str) (H' : Hp), H r = none → H' r = some (.lst (ks.map V.str)) → ks.Perm (z1n (z60 L hd lk sh tick)) → PyProof.Rows.sortedS ks = true → Same H H' → Q (.ref r) H'
theorem z5c (F : MDef K C_Keeper "names_in_way" "Keeper.names_in_way" z2i ["self", "holder", "lock", "shared", "tick"]) (T : Txt K mg C_Council C_Down C_InTheWay C_Keeper C_NotFree C_OldNumber C_UnknownKeeper Pt__law_notes cd__law_notes) (G_in_way : Has P w K mg base 3 "in_way" ["lock", "shared", "other", "other_shared"] (zib)) (G_Keeper_live : MHas P w K mg base CX0 1 C_Keeper "live" ["self", "tick"] (z8v C_Keeper)) : MHas P w K mg base CX0 4 C_Keeper "names_in_way" ["self", "holder", "lock", "shared", "tick"] (zc4 C_Keeper) := by
 refine F.ok sc_Keeper_names_in_way (fun vs H Q E h => ?_) (fun f cdv A outer s H vs Q E hr h => ?_)
 ·obtain ⟨k, u, t, L, hd, lk, sh, tick, rfl, _⟩ := h
  rfl
 ·obtain ⟨k, u, t, L, hd, lk, sh, tick, rfl, hk, h63, hl, q⟩ := h
  have hu := hr.units0
  refine ⟨_, (z9 (z8m (x := "note") (cap := ["holder"]) (js := [1]) (i := 5) rfl ⟨rfl, by decide +kernel, by decide +kernel, rfl, zw rfl, by decide +kernel, ⟨⟨rfl, Or.inl rfl, rfl⟩, trivial⟩⟩ sc_Keeper_names_in_way.nd rfl (Or.inl rfl) (z18 (z1y G_Keeper_live T.cl_Keeper (hr.mono (by decide)) (pv 0) (z0 (pv 4) z6))) (fun _ _ _ _ => (z2g (zm z2l (zh (z1w (K := K)) (pv 0) z4 (fun _ _ => rfl)) (pv 1) (zl _)))) (fun _ _ _ _ => (pv 0)))
   (zb (zk (zg (zbx rfl) rfl T.b_sorted (by decide +kernel) (z0 (zag (zg4 rfl) rfl T.b_set (by decide +kernel) (z0 (z1v (x := "note") (cap := ["lock", "shared"]) (js := [2, 3]) rfl ⟨rfl, by decide +kernel, by decide +kernel, rfl, zw rfl, by decide +kernel, ⟨⟨rfl, Or.inl rfl, rfl⟩, ⟨⟨rfl, Or.inl rfl, rfl⟩, trivial⟩⟩⟩ (z18 (pv 5)) (fun _ _ _ _ => (z2g (z1f (zo G_in_way (hr.mono (by decide)) rfl (z0 (pv 1) (z0 (pv 2) (z0 (zh (z1w (K := K)) (pv 0) z4 (fun _ _ => rfl)) (z0 (zh (z1w (K := K)) (pv 0) z4 (fun _ _ => rfl)) z6)))))))) (fun _ _ _ _ => (zh (z1w (K := K)) (pv 0) z4 (fun _ _ => rfl)))) z6)) z6))))), ?_⟩
  walk_at "rd"
  obtain ⟨⟨dx, l, h1, h2⟩, hn, hlen⟩ := id hk
  refine ⟨_, _, h1, z41 u t l (by decide +kernel) (by decide +kernel) (by decide +kernel), k, u, t, L, tick, rfl, hk, fun r H1 hr0 hr1 hs1 => ⟨r, rfl, ⟨_, SqL.of hr1⟩, ?_⟩⟩
  have hn1 : NotesAt H1 (z16 tick L) := (hn.mono hs1).sub fun q h => (List.mem_filter.mp h).1
  have l1 : (z16 tick L).length ≤ 63 := Nat.le_trans (List.length_filter_le _ _) h63
  refine z1j (xs := refs (z16 tick L)) (by rw [z14]; exact zd (by omega)) (fun i acc H' => acc = refs (othf hd ((z16 tick L).take i)) ∧ H' = H1) ⟨by simp [othf, refs], rfl⟩ ?_ ?_ ?_ ?_
  ·rintro i acc H' ⟨rfl, -⟩
   rw [z14]
   exact Nat.le_trans (List.length_filter_le _ _) (by rw [List.length_take]; omega)
  ·rintro i acc H' ⟨-, rfl⟩
   exact SqL.of hr1
  ·rintro Nn i acc H' x hN hx hi ⟨rfl, rfl⟩
   obtain ⟨y, hy, rfl⟩ := z2o hx
   walk_at "rd"
   have st := z1i (fun q : Addr × Nt => decide (q.2.h ≠ hd)) hy
   refine ⟨_, _, _, _, rfl, rfl, SqT.of (hn1.tu _ (List.mem_of_getElem? hy)), zc (j := 1) rfl, ?_⟩
   by_cases hc : y.2.h = hd
   ·refine ⟨rfl, ?_⟩
    simp only [V.str.injEq, hc, decide_true, Bool.not_true, Bool.false_eq_true, if_false]
    refine hN _ _ ⟨?_, rfl⟩
    unfold othf
    rw [st]
    simp [hc]
   ·refine ⟨rfl, ?_⟩
    simp only [V.str.injEq, hc, decide_false, Bool.not_false, if_true]
    refine hN _ _ ⟨?_, rfl⟩
    unfold othf
    rw [st]
    simp [hc, refs]
  rintro acc H' ⟨rfl, rfl⟩ p hp
  rw [z14, List.take_length]
  refine ⟨p, rfl, ⟨_, SqL.of z7⟩, ?_⟩
  have s2 := hs1.trans (Same.upd (o := .lst (refs (othf hd (z16 tick L)))) hp)
  have gp : upd H' p (.lst (refs (othf hd (z16 tick L)))) p = some (.lst (refs (othf hd (z16 tick L)))) := z7
  generalize upd H' p (.lst (refs (othf hd (z16 tick L)))) = H2 at s2 gp ⊢
  have hn2 : NotesAt H2 (othf hd (z16 tick L)) := (hn.mono s2).sub fun q h => (List.mem_filter.mp (List.mem_filter.mp h).1).1
  have l2 : (othf hd (z16 tick L)).length ≤ 63 := Nat.le_trans (List.length_filter_le _ _) l1
  have eW : z60 L hd lk sh tick = wayf lk sh (othf hd (z16 tick L)) := rfl
  generalize othf hd (z16 tick L) = O at gp hn2 l2 eW ⊢
  refine z1j (xs := refs O) (by rw [z14]; exact zd (by omega)) (fun i acc H' => acc = (wayf lk sh (O.take i)).map V.str ∧ Same H2 H') ⟨by simp [wayf], Same.refl _⟩ ?_ ?_ ?_ ?_
  ·rintro i acc H' ⟨rfl, -⟩
   rw [List.length_map]
   unfold wayf
   rw [List.length_map]
   exact Nat.le_trans (List.length_filter_le _ _) (by rw [List.length_take]; omega)
  ·rintro i acc H' ⟨-, s3⟩
   exact SqL.of (s3 _ _ gp)
  ·rintro Nn i acc H' x hN hx hi ⟨rfl, s3⟩
   obtain ⟨y, hy, rfl⟩ := z2o hx
   walk_at "rd"
   have st := z1i (fun q : Addr × Nt => onl lk q.2.l && !(sh && q.2.sh)) hy
   have ty := hn2.tu _ (List.mem_of_getElem? hy)
   have sm := hn2.sm _ (List.mem_of_getElem? hy)
   refine ⟨_, _, _, _, rfl, rfl, SqT.of (s3 _ _ ty), zc (j := 2) rfl, ?_⟩
   refine ⟨_, _, _, _, rfl, rfl, SqT.of (s3 _ _ ty), zc (j := 3) rfl, ?_⟩
   refine ⟨_, _, _, _, rfl, hl, sm.2, fun H4 s4 => ⟨_, rfl, ?_⟩⟩
   cases hw : (onl lk y.2.l && !(sh && y.2.sh)) with
   | true =>
    rw [if_pos rfl]
    refine ⟨_, _, _, _, rfl, rfl, SqT.of (s4 _ _ (s3 _ _ ty)), zc (j := 1) rfl, hN _ _ ⟨?_, s3.trans s4⟩⟩
    unfold wayf
    rw [st, hw]
    simp
   | false =>
    rw [if_neg Bool.false_ne_true]
    refine hN _ _ ⟨?_, s3.trans s4⟩
    unfold wayf
    rw [st, hw]
    simp
  rintro acc H' ⟨rfl, s3⟩ p2 hp2
  rw [z14, List.take_length, ← eW]
  have l3 : (z60 L hd lk sh tick).length ≤ 63 := by
   rw [eW]
   unfold wayf
   rw [List.length_map]
   exact Nat.le_trans (List.length_filter_le _ _) l2
  refine ⟨p2, rfl, _, SqL.of z7, Nat.lt_of_le_of_lt (Nat.succ_le_succ l3) (by decide +kernel), fun d hd' => ⟨_, z7, z6c _ _ List.nodup_nil, Nat.lt_of_le_of_lt (zix _) (by omega), fun l' ks hl' hperm hsort => ?_⟩⟩
  have s5 := ((s2.trans s3).trans (Same.upd (o := .lst ((z60 L hd lk sh tick).map V.str)) hp2)).trans (Same.upd (o := tso P w d (z1n (z60 L hd lk sh tick))) hd')
  exact q l' ks _ (zv s5 hl') z7 hperm hsort (s5.trans (Same.upd hl'))
def zc5 (C : Addr) : Sp := fun vs H Q _ => ∃ (k : Addr) (u : Bool) (t : Int) (L : NL) (hd lk : Str) (sh : Bool) (tick : Int), vs = [.ref k, .str hd, .str lk, .bl sh, .int tick] ∧ KeeperAt C H k u t L ∧ L.length ≤ 63 ∧ lk.length ≤ 1000 ∧ z50 H Q (.bl (z2r L hd lk sh tick))
theorem z6f (F : MDef K C_Keeper "says_free" "Keeper.says_free" z2y ["self", "holder", "lock", "shared", "tick"]) (T : Txt K mg C_Council C_Down C_InTheWay C_Keeper C_NotFree C_OldNumber C_UnknownKeeper Pt__law_notes cd__law_notes) (G_Keeper_names_in_way : MHas P w K mg base CX0 4 C_Keeper "names_in_way" ["self", "holder", "lock", "shared", "tick"] (zc4 C_Keeper)) : MHas P w K mg base CX0 5 C_Keeper "says_free" ["self", "holder", "lock", "shared", "tick"] (zc5 C_Keeper) := by
 refine F.ok z6d (fun vs H Q E h => ?_) (fun f cdv A outer s H vs Q E hr h => ?_)
 ·obtain ⟨k, u, t, L, hd, lk, sh, tick, rfl, _⟩ := h
  rfl
 ·obtain ⟨k, u, t, L, hd, lk, sh, tick, rfl, hk, h63, hl, q⟩ := h
  have hu := hr.units0
  refine ⟨_, (zb (zk (z1d (zbn hu) (z1y G_Keeper_names_in_way T.cl_Keeper (hr.mono (by decide)) (pv 0) (z0 (pv 1) (z0 (pv 2) (z0 (pv 3) (z0 (pv 4) z6))))) (z1b z6) (zl _)))), ?_⟩
  walk_at "rd"
  obtain ⟨⟨dx, l, h1, h2⟩, hn, hlen⟩ := id hk
  refine ⟨_, _, h1, z41 u t l (by decide +kernel) (by decide +kernel) (by decide +kernel), k, u, t, L, hd, lk, sh, tick, rfl, hk, h63, hl, fun r ks H1 hr0 hr1 hp hs s1 => ⟨Nat.zero_le _, fun p hp0 => ⟨r, rfl, _, SqL.of (Same.upd hp0 _ _ hr1), SqL.of z7, ?_⟩⟩⟩
  have e : (ks.map V.str).isEmpty = z2r L hd lk sh tick := by
   rw [← zgb, Bool.eq_iff_iff]
   simp only [List.isEmpty_iff, List.map_eq_nil_iff, decide_eq_true_eq]
   exact ziy hp
  rw [e]
  exact q _ (s1.trans (Same.upd hp0))
def z42 (hd lk : Str) (L : NL) : NL := L.filter fun q => !(decide (q.2.h = hd) && decide (q.2.l = lk))
def zgc (C CD CO CI : Addr) : Sp := fun vs H Q E => ∃ (k : Addr) (u : Bool) (t : Int) (L : NL) (n : Int) (hd lk : Str) (sh : Bool) (tick time : Int), vs = [.ref k, .int n, .str hd, .str lk, .bl sh, .int tick, .int time] ∧ KeeperAt C H k u t L ∧ L.length ≤ 62 ∧ hd.length ≤ 1000 ∧ lk.length ≤ 1000 ∧
 (u = false → E (.ref CD) none H) ∧ (u = true → n ≤ t → E (.ref CO) none H) ∧ (u = true → t < n → z2r L hd lk sh tick = false → ∀ H', Same H H' → E (.ref CI) none H') ∧
 (u = true → t < n → z2r L hd lk sh tick = true → ∀ (p : Addr) (H' : Hp), H p = none → KeeperAt C H' k u n (z42 hd lk L ++ [(p, ⟨n, hd, lk, sh, tick + time⟩)]) → (∃ dx l, H' k = some (.ins C dx (kf u n l)) ∧ H l = none) → But k H H' → Q .non H')
theorem z9y (F : MDef K C_Keeper "take" "Keeper.take" z4a ["self", "number", "holder", "lock", "shared", "tick", "time"]) (T : Txt K mg C_Council C_Down C_InTheWay C_Keeper C_NotFree C_OldNumber C_UnknownKeeper Pt__law_notes cd__law_notes) (G_Keeper_says_free : MHas P w K mg base CX0 5 C_Keeper "says_free" ["self", "holder", "lock", "shared", "tick"] (zc5 C_Keeper)) : MHas P w K mg base (CX1 P w) 6 C_Keeper "take" ["self", "number", "holder", "lock", "shared", "tick", "time"] (zgc C_Keeper C_Down C_OldNumber C_InTheWay) := by
 refine F.okx sc_Keeper_take (fun vs H Q E h => ?_) (fun f cdv A outer s H vs Q E hr h => ?_)
 ·obtain ⟨k, u, t, L, n, hd, lk, sh, tick, time, rfl, _⟩ := h
  rfl
 ·obtain ⟨k, u, t, L, n, hd, lk, sh, tick, time, rfl, hk, h900, hh, hl, e1, e2, e3, q⟩ := h
  have hu := hr.units0
  refine ⟨_, (z9 (zx (z37 (z1f (z26 (pv 0) rfl))) (zb (z4p z45 rfl PySem.F.excBase_ValueError T.x_Down rfl T.g_Down (z0 zj z6))) zn)
   (z9 (zx (zm zdr (pv 1) (z26 (pv 0) rfl) (zl _)) (zb (z4p z45 rfl PySem.F.excBase_ValueError T.x_OldNumber rfl T.g_OldNumber (z0 zj z6))) zn)
   (z9 (zx (z37 (z1f (z1y G_Keeper_says_free T.cl_Keeper (hr.mono (by decide)) (pv 0) (z0 (pv 2) (z0 (pv 3) (z0 (pv 4) (z0 (pv 5) z6))))))) (zb (z4p z45 rfl PySem.F.excBase_ValueError T.x_InTheWay rfl T.g_InTheWay (z0 zj z6))) zn)
   (z9 (z8m (x := "note") (cap := ["holder", "lock"]) (js := [2, 3]) (i := 7) rfl ⟨rfl, by decide +kernel, by decide +kernel, rfl, zw rfl, by decide +kernel, ⟨⟨rfl, Or.inl rfl, rfl⟩, ⟨⟨rfl, Or.inl rfl, rfl⟩, trivial⟩⟩⟩ sc_Keeper_take.nd rfl (Or.inl rfl) (z18 (z26 (pv 0) rfl)) (fun _ _ _ _ => (z2g (zm (zh7 (K := K) hu) (z1k (z0 (zh (z1w (K := K)) (pv 0) z4 (fun _ _ => rfl)) (z0 (zh (z1w (K := K)) (pv 0) z4 (fun _ _ => rfl)) z6))) (z1k (z0 (pv 1) (z0 (pv 2) z6))) (zl _)))) (fun _ _ _ _ => (pv 0)))
   (z9 (z38 (pv 0) (ze zjl (pv 7) (z1b (z0 (z1k (z0 (pv 1) (z0 (pv 2) (z0 (pv 3) (z0 (pv 4) (z0 (ze z13 (pv 5) (pv 6)) z6)))))) z6))) rfl)
   (zb (z38 (pv 0) (pv 1) rfl))))))), ?_⟩
  walk_at "rd"
  obtain ⟨⟨dx, l, h1, h2⟩, hn, hlen⟩ := id hk
  refine ⟨_, _, _, h1, T.cl_Keeper, T.n_Keeper_up, _, z7a u t l, u, rfl, ?_⟩
  cases hup : u with
  | false => exact ⟨zd (by decide), e1 hup⟩
  | true =>
  rw [if_neg (by decide)]
  refine ⟨_, _, _, h1, T.cl_Keeper, T.n_Keeper_top, _, zg9 u t l, t, rfl, ?_⟩
  by_cases hnt : n ≤ t
  ·rw [if_pos (decide_eq_true hnt)]
   exact ⟨zd (by decide), e2 hup hnt⟩
  rw [if_neg (by simpa using hnt)]
  refine ⟨_, _, h1, z41 u t l (by decide +kernel) (by decide +kernel) (by decide +kernel), k, u, t, L, hd, lk, sh, tick, rfl, hk, by omega, hl, fun H1 s1 => ⟨_, rfl, ?_⟩⟩
  cases hf : z2r L hd lk sh tick with
  | false => exact ⟨zd (by decide), e3 hup (by omega) hf H1 s1⟩
  | true =>
  rw [if_neg (by decide)]
  have hn1 := hn.mono s1
  refine ⟨_, _, _, s1 _ _ h1, T.cl_Keeper, T.n_Keeper_kept, _, z33 u t l, l, rfl, ⟨_, SqL.of (s1 _ _ h2)⟩, ?_⟩
  refine z1j (xs := refs L) (by rw [z14]; exact zd (by omega)) (fun i acc H' => acc = refs (z42 hd lk (L.take i)) ∧ Same H1 H') ⟨by simp [z42, refs], Same.refl _⟩ ?_ ?_ ?_ ?_
  ·rintro i acc H' ⟨rfl, -⟩
   rw [z14]
   exact Nat.le_trans (List.length_filter_le _ _) (by rw [List.length_take]; omega)
  ·rintro i acc H' ⟨-, s2⟩
   exact SqL.of (s2 _ _ (s1 _ _ h2))
  ·rintro Nn i acc H' x hN hx hi ⟨rfl, s2⟩
   obtain ⟨y, hy, rfl⟩ := z2o hx
   walk_at "rd"
   have ty := hn1.tu _ (List.mem_of_getElem? hy)
   refine ⟨_, _, _, _, rfl, rfl, SqT.of (s2 _ _ ty), zc (j := 1) rfl, ?_⟩
   refine ⟨_, _, _, _, rfl, rfl, SqT.of (s2 _ _ ty), zc (j := 2) rfl, ?_⟩
   refine ⟨zd (by decide), fun p hp => ⟨zd (by decide), fun r hr' => ?_⟩⟩
   have npr : p ≠ r := za z7 hr'
   refine ⟨_, _, _, _, rfl, rfl, SqT.of (by rw [z8 npr, z7]), SqT.of z7, rfl, rfl, ?_⟩
   have st := z1i (fun q : Addr × Nt => !(decide (q.2.h = hd) && decide (q.2.l = lk))) hy
   have s3 : Same H1 (upd (upd H' p (.tup [V.str y.2.h, V.str y.2.l])) r (.tup [V.str hd, V.str lk])) := (s2.trans (Same.upd hp)).trans (Same.upd hr')
   have ev : eqVs [V.str y.2.h, V.str y.2.l] [V.str hd, V.str lk] = (decide (y.2.h = hd) && decide (y.2.l = lk)) := by
    have := z5s [y.2.h, y.2.l] [hd, lk]
    simp only [List.map_cons, List.map_nil] at this
    rw [this]
    simp [Bool.decide_and]
   simp only [ev, if_true]
   cases hc : (decide (y.2.h = hd) && decide (y.2.l = lk)) with
   | true =>
    refine ⟨_, rfl, ?_⟩
    rw [if_neg (by decide)]
    refine hN _ _ ⟨?_, s3⟩
    unfold z42
    rw [st, hc]
    simp
   | false =>
    refine ⟨_, rfl, ?_⟩
    rw [if_pos (by decide)]
    refine hN _ _ ⟨?_, s3⟩
    unfold z42
    rw [st, hc]
    simp [refs]
  ·rintro acc H2 ⟨rfl, s2⟩ p hp
   rw [z14, List.take_length]
   refine ⟨zd (by decide), fun p1 hp1 => ⟨zd (by decide), fun p2 hp2 => ?_⟩⟩
   have n01 : p ≠ p1 := za z7 hp1
   have n12 : p1 ≠ p2 := za z7 hp2
   have n02 : p ≠ p2 := za (by rw [z8 n01]; exact z7) hp2
   have kl : (z42 hd lk L).length ≤ L.length := List.length_filter_le _ _
   refine ⟨_, _, _, _, rfl, rfl, by rw [z8 n02, z8 n01, z7], z7, zd (by rw [z14]; show _ + 1 ≤ _; omega), fun p3 hp3 => ?_⟩
   have n13 : p1 ≠ p3 := za (by rw [z8 n12]; exact z7) hp3
   have s3 := (((s1.trans s2).trans (Same.upd (o := .lst (refs (z42 hd lk L))) hp)).trans (Same.upd (o := .tup [V.int n, V.str hd, V.str lk, V.bl sh, V.int (tick + time)]) hp1)).trans (Same.upd (o := .lst [V.ref p1]) hp2)
   have s4 := s3.trans (Same.upd (o := .lst (refs (z42 hd lk L) ++ [V.ref p1])) hp3)
   have nk3 : k ≠ p3 := za (s3 _ _ h1) hp3
   refine ⟨_, _, _, s4 _ _ h1, T.cl_Keeper, T.n_Keeper_kept, by show (3 : Nat) < 1000; decide, _, _, _, z7, T.cl_Keeper, T.n_Keeper_top, by rw [z5b]; show (3 : Nat) < 1000; decide, ?_⟩
   rw [z5b, zem]
   have hp1' : H p1 = none := zv ((s1.trans s2).trans (Same.upd hp)) hp1
   have nk1 : p1 ≠ k := fun z => by rw [z, h1] at hp1'; cases hp1'
   refine q hup (by omega) hf p1 _ hp1' ⟨⟨dx, p3, z7, ?_⟩, ⟨fun x hx => ?_, fun x hx => ?_⟩, ?_⟩ ⟨dx, p3, z7, zv s3 hp3⟩ fun b o e nb => ?_
   ·rw [z8 nk3.symm, z8 nk3.symm, z7]
    simp [refs]
   ·rcases List.mem_append.mp hx with z | z
    ·have tz := hn.tu _ (List.mem_filter.mp z).1
     have nz : x.1 ≠ k := fun e => by rw [e, h1] at tz; cases tz
     rw [z8 nz, z8 nz]
     exact s4 _ _ tz
    ·have : x = (p1, ⟨n, hd, lk, sh, tick + time⟩) := by simpa using z
     subst this
     show upd _ k _ p1 = _
     rw [z8 nk1, z8 nk1, z8 n13, z8 n12, z7]
     rfl
   ·rcases List.mem_append.mp hx with z | z
    ·exact hn.sm _ (List.mem_filter.mp z).1
    ·have : x = (p1, ⟨n, hd, lk, sh, tick + time⟩) := by simpa using z
     subst this
     exact ⟨hh, hl⟩
   ·rw [List.length_append]
    show _ + 1 ≤ _
    omega
   ·rw [z8 nb, z8 nb]
    exact s4 _ _ e
def z8w (C : Addr) (b : Bool) : Sp := fun vs H Q _ => ∃ (k : Addr) (u : Bool) (t : Int) (L : NL), vs = [.ref k] ∧ KeeperAt C H k u t L ∧ ∀ (H' : Hp), KeeperAt C H' k b t L → (∀ dx l, H k = some (.ins C dx (kf u t l)) → H' k = some (.ins C dx (kf b t l))) → But k H H' → Q .non H'
theorem zgd {C : Addr} {H : Hp} {k : Addr} {u b : Bool} {t : Int} {L : NL} {dx l : Addr} (hk : KeeperAt C H k u t L) (h1 : H k = some (.ins C dx (kf u t l))) (h2 : H l = some (.lst (refs L))) : KeeperAt C (upd H k (.ins C dx (kf b t l))) k b t L := by
 have nl : l ≠ k := fun z => by rw [z, h1] at h2; cases h2
 refine ⟨⟨dx, l, z7, by rw [z8 nl]; exact h2⟩, ⟨fun x hx => ?_, hk.nt.sm⟩, hk.len⟩
 have tz := hk.nt.tu _ hx
 have nz : x.1 ≠ k := fun e => by rw [e, h1] at tz; cases tz
 rw [z8 nz]
 exact tz
theorem z9z (F : MDef K C_Keeper "fall" "Keeper.fall" z47 ["self"]) (T : Txt K mg C_Council C_Down C_InTheWay C_Keeper C_NotFree C_OldNumber C_UnknownKeeper Pt__law_notes cd__law_notes) : MHas P w K mg base CX0 1 C_Keeper "fall" ["self"] (z8w C_Keeper false) := by
 refine F.ok z9r (fun vs H Q E h => ?_) (fun f cdv A outer s H vs Q E hr h => ?_)
 ·obtain ⟨k, u, t, L, rfl, _⟩ := h
  rfl
 ·obtain ⟨k, u, t, L, rfl, hk, q⟩ := h
  refine ⟨_, (zb (z38 (pv 0) z24 rfl)), ?_⟩
  walk_at "rd"
  obtain ⟨⟨dx, l, h1, h2⟩, hn, hlen⟩ := id hk
  refine ⟨_, _, _, h1, T.cl_Keeper, T.n_Keeper_up, by show (3 : Nat) < 1000; decide, ?_⟩
  rw [zap]
  exact q _ (zgd hk h1 h2) (fun dx' l' e => by rw [h1] at e; injection e with e; injection e with e1 e2 e3; rw [z7, e2]; have := congrArg (List.lookup ("kept" : Str)) e3; rw [z33, z33] at this; injection this with this; injection this with this; rw [this]) fun b o e nb => by rw [z8 nb]; exact e
theorem za0 (F : MDef K C_Keeper "rise" "Keeper.rise" z48 ["self"]) (T : Txt K mg C_Council C_Down C_InTheWay C_Keeper C_NotFree C_OldNumber C_UnknownKeeper Pt__law_notes cd__law_notes) : MHas P w K mg base CX0 1 C_Keeper "rise" ["self"] (z8w C_Keeper true) := by
 refine F.ok z9s (fun vs H Q E h => ?_) (fun f cdv A outer s H vs Q E hr h => ?_)
 ·obtain ⟨k, u, t, L, rfl, _⟩ := h
  rfl
 ·obtain ⟨k, u, t, L, rfl, hk, q⟩ := h
  refine ⟨_, (zb (z38 (pv 0) z24 rfl)), ?_⟩
  walk_at "rd"
  obtain ⟨⟨dx, l, h1, h2⟩, hn, hlen⟩ := id hk
  refine ⟨_, _, _, h1, T.cl_Keeper, T.n_Keeper_up, by show (3 : Nat) < 1000; decide, ?_⟩
  rw [zap]
  exact q _ (zgd hk h1 h2) (fun dx' l' e => by rw [h1] at e; injection e with e; injection e with e1 e2 e3; rw [z7, e2]; have := congrArg (List.lookup ("kept" : Str)) e3; rw [z33, z33] at this; injection this with this; injection this with this; rw [this]) fun b o e nb => by rw [z8 nb]; exact e
def z21 (tick : Int) (N : List Nt) : List Nt := N.filter fun x => decide (tick < x.e)
def z8x (N : List Nt) (hd lk : Str) (sh : Bool) (tick : Int) : Bool := !((z21 tick N).any fun x => z30 hd lk sh x)
def z34 (hd lk : Str) (N : List Nt) : List Nt := N.filter fun x => !(decide (x.h = hd) && decide (x.l = lk))
theorem z70 (tick : Int) (L : NL) : (z16 tick L).map (·.2) = z21 tick (L.map (·.2)) := by
 unfold z16 z21
 rw [List.filter_map]
 rfl
theorem z8y (L : NL) (hd lk : Str) (sh : Bool) (tick : Int) : z2r L hd lk sh tick = z8x (L.map (·.2)) hd lk sh tick := by
 unfold z2r z8x
 rw [← z70, List.any_map]
 rfl
theorem zge (hd lk : Str) (L : NL) : (z42 hd lk L).map (·.2) = z34 hd lk (L.map (·.2)) := by
 unfold z42 z34
 rw [List.filter_map]
 rfl
structure KN where
 u : Bool
 t : Int
 N : List Nt
theorem KeeperAt.but {C k k2 dx : Addr} {fs : List (Str × V)} {H H' : Hp} {u : Bool} {t : Int} {L : NL} (h : KeeperAt C H k2 u t L) (b : But k H H') (hk : H k = some (.ins C dx fs)) (ne : k2 ≠ k) : KeeperAt C H' k2 u t L := by
 obtain ⟨⟨dx2, l, h1, h2⟩, hn, hl⟩ := h
 have nl : l ≠ k := fun z => by rw [z, hk] at h2; cases h2
 refine ⟨⟨dx2, l, b _ _ h1 ne, b _ _ h2 nl⟩, ⟨fun q hq => b _ _ (hn.tu q hq) fun z => ?_, hn.sm⟩, hl⟩
 have := hn.tu q hq
 rw [z, hk] at this
 cases this
theorem n5 : ¬ (("keepers" : Str) = "most") := by decide +kernel
def cf (l : Addr) (m : Int) : List (Str × V) := [("keepers", .ref l), ("most", .int m)]
theorem z61 (l : Addr) (m : Int) : (cf l m).lookup ("keepers" : Str) = some (.ref l) := by simp [cf, List.lookup_cons]
theorem ziz (l : Addr) (m : Int) : (cf l m).lookup ("most" : Str) = some (.int m) := by
 have e : (("most" : Str) == "keepers") = false := by decide +kernel
 simp [cf, List.lookup_cons, e]
theorem z22 (l : Addr) (m : Int) {x : Str} (h1 : (x == "keepers") = false) (h2 : (x == "most") = false) : (cf l m).lookup x = none := by
 simp [cf, List.lookup_cons, h1, h2]
theorem zkc (l : Addr) (m : Int) : putF "most" (.int m) (putF "keepers" (.ref l) []) = cf l m := by simp [putF, cf, n5]
def KAt (C : Addr) (H : Hp) (k l : Addr) (s : KN) : Prop := (∃ dx, H k = some (.ins C dx (kf s.u s.t l))) ∧ ∃ L : NL, L.map (·.2) = s.N ∧ KeeperAt C H k s.u s.t L
theorem KAt.mono {C : Addr} {H H' : Hp} {k l : Addr} {s : KN} (h : KAt C H k l s) (e : Same H H') : KAt C H' k l s := let ⟨⟨dx, z⟩, L, a, b⟩ := h; ⟨⟨dx, e _ _ z⟩, L, a, b.mono e⟩
theorem KAt.ob {C : Addr} {H : Hp} {k l : Addr} {s : KN} (h : KAt C H k l s) : ∃ dx fs, H k = some (.ins C dx fs) := let ⟨⟨dx, z⟩, _⟩ := h; ⟨dx, _, z⟩
theorem zc6 {u u' : Bool} {t t' : Int} {l l' : Addr} (h : kf u t l = kf u' t' l') : l = l' := by
 have := congrArg (List.lookup ("kept" : Str)) h
 rw [z33, z33] at this
 injection this with this
 injection this
theorem KAt.list {C : Addr} {H : Hp} {k l : Addr} {s : KN} (h : KAt C H k l s) : ∃ xs, H l = some (.lst xs) := by
 obtain ⟨⟨dx, z⟩, L, -, ⟨dx', l', h1, h2⟩, -, -⟩ := h
 rw [z] at h1
 injection h1 with h1
 injection h1 with a b c
 rw [zc6 c]
 exact ⟨_, h2⟩
theorem KAt.upd {C : Addr} {H : Hp} {k l p : Addr} {s : KN} {xs : List V} {o : HO} (h : KAt C H k l s) (hp : H p = some (.lst xs)) (hn : l ≠ p) : KAt C (upd H p o) k l s := by
 obtain ⟨⟨dx, z⟩, L, e, ⟨dx', l', h1, h2⟩, hn', hl⟩ := h
 have el : l' = l := by
  rw [z] at h1
  injection h1 with h1
  injection h1 with a b c
  exact (zc6 c).symm
 have nk : k ≠ p := fun q => by rw [q, hp] at z; cases z
 refine ⟨⟨dx, by rw [z8 nk]; exact z⟩, L, e, ⟨dx', l', by rw [z8 nk]; exact h1, by rw [z8 (by rw [el]; exact hn)]; exact h2⟩, ⟨fun q hq => ?_, hn'.sm⟩, hl⟩
 have nq : q.1 ≠ p := fun y => by have := hn'.tu q hq; rw [y, hp] at this; cases this
 rw [z8 nq]
 exact hn'.tu q hq
structure CAt (CC CK : Addr) (H : Hp) (c l : Addr) (ks ls : List Addr) (ss : List KN) : Prop where
 ob : ∃ dx, H c = some (.ins CC dx (cf l ((ks.length : Int) / 2 + 1)))
 li : H l = some (.lst (ks.map V.ref))
 kp : ∀ (i : Nat) (k : Addr), ks[i]? = some k → ∃ s l', ss[i]? = some s ∧ ls[i]? = some l' ∧ KAt CK H k l' s
 nd : ks.Nodup
 ln : ss.length = ks.length
 l2 : ls.length = ks.length
 sz : ks.length ≤ 100
theorem CAt.mono {CC CK : Addr} {H H' : Hp} {c l : Addr} {ks ls : List Addr} {ss : List KN} (h : CAt CC CK H c l ks ls ss) (s : Same H H') : CAt CC CK H' c l ks ls ss := by
 obtain ⟨⟨dx, h1⟩, h2, h3, h4, h5, h6, h7⟩ := h
 exact ⟨⟨dx, s _ _ h1⟩, s _ _ h2, fun i k e => (let ⟨u, l', e1, e2, e3⟩ := h3 i k e; ⟨u, l', e1, e2, e3.mono s⟩), h4, h5, h6, h7⟩
theorem CAt.upd {CC CK : Addr} {H : Hp} {c l p : Addr} {ks ls : List Addr} {ss : List KN} {xs : List V} {o : HO} (h : CAt CC CK H c l ks ls ss) (hp : H p = some (.lst xs)) (n1 : l ≠ p) (n2 : p ∉ ls) : CAt CC CK (upd H p o) c l ks ls ss := by
 obtain ⟨⟨dx, h1⟩, h2, h3, h4, h5, h6, h7⟩ := h
 refine ⟨⟨dx, by rw [z8 (fun q => by rw [q, hp] at h1; cases h1)]; exact h1⟩, by rw [z8 n1]; exact h2, fun i k e => ?_, h4, h5, h6, h7⟩
 obtain ⟨u, l', e1, e2, e3⟩ := h3 i k e
 exact ⟨u, l', e1, e2, e3.upd hp fun q => n2 (q ▸ List.mem_of_getElem? e2)⟩
def LsOk (H : Hp) (ls ls' : List Addr) : Prop := ∀ x ∈ ls', x ∈ ls ∨ H x = none
theorem LsOk.refl (H : Hp) (ls : List Addr) : LsOk H ls ls := fun x hx => .inl hx
def ButK (ks : List Addr) (H H' : Hp) : Prop := ∀ b o, H b = some o → b ∉ ks → H' b = some o
theorem ButK.of {ks : List Addr} {H H' : Hp} (s : Same H H') : ButK ks H H' := fun b o e _ => s b o e
theorem ButK.trans {ks : List Addr} {H H1 H2 : Hp} (a : ButK ks H H1) (b : ButK ks H1 H2) : ButK ks H H2 := fun c o e n => b c o (a c o e n) n
theorem ButK.but {ks : List Addr} {H H' : Hp} {k : Addr} (b : But k H H') (h : k ∈ ks) : ButK ks H H' := fun c o e n => b c o e fun z => n (z ▸ h)
theorem CAt.mem {CC CK : Addr} {H : Hp} {c l : Addr} {ks ls : List Addr} {ss : List KN} (h : CAt CC CK H c l ks ls ss) {k : Addr} (hk : k ∈ ks) : ∃ dx fs, H k = some (.ins CK dx fs) := by
 obtain ⟨j, hj, e⟩ := List.getElem_of_mem hk
 obtain ⟨s, l', -, -, hs⟩ := h.kp j k (by rw [List.getElem?_eq_getElem hj, e])
 exact hs.ob
theorem CAt.lsome {CC CK : Addr} {H : Hp} {c l : Addr} {ks ls : List Addr} {ss : List KN} (h : CAt CC CK H c l ks ls ss) {x : Addr} (hx : x ∈ ls) : ∃ xs, H x = some (.lst xs) := by
 obtain ⟨j, hj, e⟩ := List.getElem_of_mem hx
 obtain ⟨s, l', -, e2, hs⟩ := h.kp j _ (List.getElem?_eq_getElem (by rw [← h.l2]; exact hj))
 rw [List.getElem?_eq_getElem hj] at e2
 injection e2 with e2
 rw [← e, e2]
 exact hs.list
theorem z62 {α : Type} {xs : List α} {i : Nat} {x : α} (h : xs[i]? = some x) : xs.set i x = xs := by
 apply List.ext_getElem?
 intro j
 by_cases hj : j = i
 ·subst hj
  rw [List.getElem?_set_self (List.getElem?_eq_some_iff.mp h).1, h]
 ·rw [List.getElem?_set_ne (Ne.symm hj)]
theorem CAt.set {CC CK : Addr} {H H' : Hp} {c l k l1 : Addr} {ks ls : List Addr} {ss : List KN} {j : Nat} {s : KN} (h : CAt CC CK H c l ks ls ss) (hj : ks[j]? = some k) (hk : KAt CK H' k l1 s) (hb : But k H H') : CAt CC CK H' c l ks (ls.set j l1) (ss.set j s) := by
 obtain ⟨s0, l0, hu, hl0, hku⟩ := h.kp j k hj
 obtain ⟨dxk, fk, h1⟩ := hku.ob
 obtain ⟨dx, hob⟩ := h.ob
 have hjl : j < ks.length := (List.getElem?_eq_some_iff.mp hj).1
 refine ⟨⟨dx, hb _ _ hob fun z => ?_⟩, hb _ _ h.li fun z => ?_, fun i k2 e => ?_, h.nd, by rw [List.length_set]; exact h.ln, by rw [List.length_set]; exact h.l2, h.sz⟩
 ·rw [z, h1] at hob
  injection hob with hob
  injection hob with a1 a2 a3
  subst a1
  obtain ⟨⟨dy, g1⟩, -⟩ := hku
  rw [h1] at g1
  injection g1 with g1
  injection g1 with b1 b2 b3
  rw [b3] at a3
  have := congrArg (List.lookup ("up" : Str)) a3
  rw [z7a, z22 _ _ (by decide +kernel) (by decide +kernel)] at this
  cases this
 ·have := h.li
  rw [z, h1] at this
  cases this
 ·by_cases hij : i = j
  ·subst hij
   rw [hj] at e
   cases e
   exact ⟨s, l1, by rw [List.getElem?_set_self (by rw [h.ln]; exact hjl)], by rw [List.getElem?_set_self (by rw [h.l2]; exact hjl)], hk⟩
  ·obtain ⟨u2, l2', e2, e2', ⟨dx2, z2⟩, L2, e3, hk2⟩ := h.kp i k2 e
   have nk2 : k2 ≠ k := fun z => hij ?_
   ·exact ⟨u2, l2', by rw [List.getElem?_set_ne (Ne.symm hij)]; exact e2, by rw [List.getElem?_set_ne (Ne.symm hij)]; exact e2', ⟨dx2, hb _ _ z2 nk2⟩, L2, e3, hk2.but hb h1 nk2⟩
   have hil : i < ks.length := (List.getElem?_eq_some_iff.mp e).1
   have ei : ks[i] = k := by rw [← z]; exact (List.getElem?_eq_some_iff.mp e).2
   have ej : ks[j] = k := (List.getElem?_eq_some_iff.mp hj).2
   rcases Nat.lt_trichotomy i j with y | y | y
   ·exact absurd (ei.trans ej.symm) (List.pairwise_iff_getElem.mp h.nd i j hil hjl y)
   ·exact y
   ·exact absurd (ej.trans ei.symm) (List.pairwise_iff_getElem.mp h.nd j i hjl hil y)
def z3n (n : Nat) : List KN := List.replicate n ⟨true, 0, []⟩
def zdg (CC CK : Addr) : Sp := fun vs H Q _ => ∃ (c dx : Addr) (n : Nat), vs = [.ref c, .int n] ∧ n ≤ 100 ∧ H c = some (.ins CC dx []) ∧ ∀ (l : Addr) (ks ls : List Addr) (H' : Hp), ks.length = n → CAt CC CK H' c l ks ls (z3n n) → (∀ b o, H b = some o → b ≠ c → H' b = some o) → (∀ k ∈ ks, H k = none) → (∀ x ∈ ls, H x = none) → H l = none → Q .non H'
theorem z6g (F : KDef K C_Council "Council.__init__" z2z ["self", "many"]) (T : Txt K mg C_Council C_Down C_InTheWay C_Keeper C_NotFree C_OldNumber C_UnknownKeeper Pt__law_notes cd__law_notes) (G_Keeper___init__ : KHas P w K mg base 1 C_Keeper ["self"] (zga C_Keeper)) : KHas P w K mg base 3 C_Council ["self", "many"] (zdg C_Council C_Keeper) := by
 refine F.ok z6e (fun vs H Q E h => ?_) (fun f cdv A outer s H vs Q E hr h => ?_)
 ·obtain ⟨c, dx, n, rfl, _⟩ := h
  rfl
 ·obtain ⟨c, dx, n, rfl, hn, hc, q⟩ := h
  refine ⟨_, (z9 (z38 (pv 0) (z1v (x := "place") (cap := []) (js := []) rfl ⟨rfl, by decide +kernel, by decide +kernel, rfl, zw rfl, by decide +kernel, trivial⟩ (z2k rfl T.b_range (z0 (pv 1) z6)) (fun _ _ _ _ => z32) (fun _ _ _ _ => (zis G_Keeper___init__ (hr.mono (by decide)) rfl T.g_Keeper))) rfl)
   (zb (z38 (pv 0) (ze z13 (ze z17 (zg zp rfl T.b_len (by decide +kernel) (z0 (z26 (pv 0) rfl) z6)) z4) z4) rfl))), ?_⟩
  walk_at "rd"
  refine ⟨⟨by omega, by omega⟩, ?_⟩
  rw [Int.toNat_natCast]
  refine z2x (zd (by omega)) (fun i acc H' => ∃ ks : List Addr, acc = ks.map V.ref ∧ ks.length = i ∧ ks.Nodup ∧ (∀ k ∈ ks, H k = none ∧ ∃ l1, H l1 = none ∧ KAt C_Keeper H' k l1 ⟨true, 0, []⟩) ∧ Same H H') ⟨[], rfl, rfl, List.nodup_nil, fun k hk => (by cases hk), Same.refl _⟩ ?_ ?_ ?_
  ·rintro i acc H' ⟨ks, rfl, rfl, -⟩
   rw [List.length_map]
   exact Nat.le_refl _
  ·rintro Nn i acc H' hN hi ⟨ks, rfl, hl, hnd, hks, sH⟩
   walk_at "rd"
   intro x d hx hd hne
   refine ⟨x, d, rfl, z7, fun H3 hk3 hz3 hb3 => ⟨rfl, hN _ _ ⟨ks ++ [x], by simp, by simp [hl], ?_, ?_, ?_⟩⟩⟩
   ·rw [List.nodup_append]
    refine ⟨hnd, by simp, fun a ha b hb => ?_⟩
    have : b = x := by simpa using hb
    rw [this]
    rintro rfl
    obtain ⟨-, l1, -, ⟨_, e⟩, -⟩ := hks a ha
    rw [e] at hx
    cases hx
   ·have s3 : Same H' H3 := fun b o e => by
     have n1 : b ≠ x := za e hx
     have n2 : b ≠ d := za e hd
     exact hb3 b o (by rw [z8 n1, z8 n2]; exact e) n1
    intro k hk
    rcases List.mem_append.mp hk with z | z
    ·obtain ⟨a1, l1, a2, a3⟩ := hks k z
     exact ⟨a1, l1, a2, a3.mono s3⟩
    ·have : k = x := by simpa using z
     subst this
     obtain ⟨dx3, l3, z3, n3⟩ := hz3
     have n3' : H' l3 = none := by
      cases e : H' l3 with
      | none => rfl
      | some o =>
       have na : l3 ≠ k := za e hx
       have nb : l3 ≠ d := za e hd
       rw [z8 na, z8 nb, e] at n3
       cases n3
     exact ⟨zv sH hx, l3, zv sH n3', ⟨dx3, z3⟩, [], rfl, hk3⟩
   ·intro b o e
    have e1 := sH _ _ e
    have n1 : b ≠ x := za e1 hx
    have n2 : b ≠ d := za e1 hd
    exact hb3 b o (by rw [z8 n1, z8 n2]; exact e1) n1
  ·rintro acc H' ⟨ks, rfl, hl, hnd, hks, sH⟩ p hp
   have s2 := sH.trans (Same.upd (o := .lst (ks.map V.ref)) hp)
   have gp : (upd H' p (.lst (ks.map V.ref))) p = some (.lst (ks.map V.ref)) := z7
   have hks2 : ∀ k ∈ ks, H k = none ∧ ∃ l1, H l1 = none ∧ KAt C_Keeper (upd H' p (.lst (ks.map V.ref))) k l1 ⟨true, 0, []⟩ := fun k hk => let ⟨a1, l1, a2, a3⟩ := hks k hk; ⟨a1, l1, a2, a3.mono (Same.upd hp)⟩
   have hp0 : H p = none := zv sH hp
   generalize upd H' p (.lst (ks.map V.ref)) = H2 at s2 gp hks2 ⊢
   have nkc : ∀ k ∈ ks, k ≠ c := fun k hk z => by have := (hks2 k hk).1; rw [z, hc] at this; cases this
   have gc2 := s2 _ _ hc
   have ncp : c ≠ p := fun z => by rw [z, gp] at gc2; cases gc2
   refine ⟨_, _, _, gc2, T.cl_Council, T.n_Council_keepers, by decide, ?_⟩
   have kk : (putF (Str.ofString "keepers") (V.ref p) []).lookup (Str.ofString "keepers") = some (V.ref p) := by simp [putF, List.lookup_cons]
   have gp1 : (upd H2 c (HO.ins C_Council dx (putF (Str.ofString "keepers") (V.ref p) []))) p = some (.lst (ks.map V.ref)) := by rw [z8 ncp.symm]; exact gp
   refine ⟨_, _, _, z7, T.cl_Council, T.n_Council_keepers, _, kk, p, rfl, _, .inl (SqL.of gp1), cdiv (by decide) (by decide), _, _, _, z7, T.cl_Council, T.n_Council_most, by simp [putF], ?_⟩
   rw [zkc, List.length_map]
   have but2 : ∀ b o, H2 b = some o → b ≠ c → (upd (upd H2 c (HO.ins C_Council dx (putF (Str.ofString "keepers") (V.ref p) []))) c (HO.ins C_Council dx (cf p ((ks.length : Int) / 2 + 1)))) b = some o := fun b o e nb => by
    rw [z8 nb, z8 nb]
    exact e
   obtain ⟨lf, hlf⟩ : ∃ lf : Addr → Addr, ∀ k ∈ ks, H (lf k) = none ∧ KAt C_Keeper H2 k (lf k) ⟨true, 0, []⟩ := by
    refine ⟨fun k => if h : k ∈ ks then Classical.choose (hks2 k h).2 else k, fun k hk => ?_⟩
    simp only [hk, dite_true]
    exact Classical.choose_spec (hks2 k hk).2
   refine q p ks (ks.map lf) _ hl ⟨⟨dx, z7⟩, but2 _ _ gp ncp.symm, fun i k e => ⟨⟨true, 0, []⟩, lf k, ?_, by rw [List.getElem?_map, e]; rfl, ?_⟩, hnd, by unfold z3n; rw [List.length_replicate, hl], List.length_map _, by omega⟩ (fun b o e nb => but2 b o (s2 _ _ e) nb) (fun k hk => (hks2 k hk).1) (fun x hx => ?_) hp0
   ·have := (List.getElem?_eq_some_iff.mp e).1
    unfold z3n
    rw [List.getElem?_replicate, if_pos (by omega)]
   ·obtain ⟨⟨dz, z⟩, L, eL, ⟨dk, lk, a1, a2⟩, a3, a4⟩ := (hlf k (List.mem_of_getElem? e)).2
    have nk := nkc k (List.mem_of_getElem? e)
    have eL0 : L = [] := List.map_eq_nil_iff.mp eL
    subst eL0
    exact ⟨⟨dz, but2 _ _ z nk⟩, [], rfl, ⟨dk, lk, but2 _ _ a1 nk, but2 _ _ a2 fun z => by rw [z, gc2] at a2; cases a2⟩, ⟨fun y hy => (by cases hy), fun y hy => (by cases hy)⟩, a4⟩
   ·obtain ⟨k, hk, rfl⟩ := List.mem_map.mp hx
    exact (hlf k hk).1
def z8z (CC CK CU : Addr) : Sp := fun vs H Q E => ∃ (c l : Addr) (ks ls : List Addr) (ss : List KN) (p : Int), vs = [.ref c, .int p] ∧ CAt CC CK H c l ks ls ss ∧ (¬ (1 ≤ p ∧ p ≤ (ks.length : Int)) → E (.ref CU) none H) ∧ (∀ (j : Nat) (k : Addr), p = (j : Int) + 1 → ks[j]? = some k → Q (.ref k) H)
theorem z63 (F : MDef K C_Council "keeper_at" "Council.keeper_at" z2v ["self", "place"]) (T : Txt K mg C_Council C_Down C_InTheWay C_Keeper C_NotFree C_OldNumber C_UnknownKeeper Pt__law_notes cd__law_notes) : MHas P w K mg base (CX1 P w) 1 C_Council "keeper_at" ["self", "place"] (z8z C_Council C_Keeper C_UnknownKeeper) := by
 refine F.okx z5z (fun vs H Q E h => ?_) (fun f cdv A outer s H vs Q E hr h => ?_)
 ·obtain ⟨c, l, ks, ls, us, p, rfl, _⟩ := h
  rfl
 ·obtain ⟨c, l, ks, ls, us, p, rfl, hc, e1, q⟩ := h
  refine ⟨_, (z9 (zx (z37 (zgy zdr zdr z4 (pv 1) (zg zp rfl T.b_len (by decide +kernel) (z0 (z26 (pv 0) rfl) z6)))) (zb (z4p z45 rfl PySem.F.excBase_ValueError T.x_UnknownKeeper rfl T.g_UnknownKeeper (z0 zj z6))) zn)
   (zb (zk (zh ix_list (z26 (pv 0) rfl) (ze z2q (pv 1) z4) (fun _ _ => rfl))))), ?_⟩
  walk_at "rd"
  obtain ⟨dx, hob⟩ := hc.ob
  by_cases h1 : 1 ≤ p
  ·rw [if_pos (by simpa using h1)]
   refine ⟨_, _, _, hob, T.cl_Council, T.n_Council_keepers, _, z61 _ _, l, rfl, _, .inl (SqL.of hc.li), ?_⟩
   rw [List.length_map]
   by_cases h2 : p ≤ (ks.length : Int)
   ·rw [if_neg (by simpa using h2)]
    obtain ⟨j, ej⟩ := Int.eq_ofNat_of_zero_le (show 0 ≤ p - 1 by omega)
    have hj : j < ks.length := by omega
    refine ⟨_, _, _, hob, T.cl_Council, T.n_Council_keepers, _, z61 _ _, l, _, _, _, rfl, rfl, SqL.of hc.li, by rw [ej]; exact zc (v := V.ref ks[j]) (by rw [List.getElem?_map, List.getElem?_eq_getElem hj]; rfl), q j _ (by omega) (List.getElem?_eq_getElem hj)⟩
   ·rw [if_pos (by simpa using h2)]
    exact ⟨zd (by decide), e1 fun z => h2 z.2⟩
  ·rw [if_neg (by simpa using h1), if_pos (by decide)]
   exact ⟨zd (by decide), e1 fun z => h1 z.1⟩
def ptup (L : List (Addr × Nat × Addr)) : List V := L.map fun q => V.ref q.1
theorem z3d (L : List (Addr × Nat × Addr)) : (ptup L).length = L.length := List.length_map _
theorem z64 {L : List (Addr × Nat × Addr)} {i : Nat} {x : V} (hx : (ptup L)[i]? = some x) : ∃ y, L[i]? = some y ∧ x = V.ref y.1 := by
 unfold ptup at hx
 rw [List.getElem?_map] at hx
 cases e : L[i]? with
 | none => rw [e] at hx; cases hx
 | some y => rw [e] at hx; exact ⟨y, rfl, (Option.some.inj hx).symm⟩
def upAt (ss : List KN) (j : Nat) : Bool := match ss[j]? with | some s => s.u | none => false
def upl (ss : List KN) (n : Nat) : List Nat := (List.range n).filter (upAt ss)
theorem z5m (ss : List KN) (n : Nat) : (upl ss n).length ≤ n := Nat.le_trans (List.length_filter_le _ _) (by rw [List.length_range]; exact Nat.le_refl _)
theorem z2u {ss : List KN} {n j : Nat} (h : j ∈ upl ss n) : j < n ∧ upAt ss j = true := ⟨List.mem_range.mp (List.mem_filter.mp h).1, (List.mem_filter.mp h).2⟩
theorem z52 (ss : List KN) (n : Nat) : (upl ss n).Nodup := List.Nodup.sublist List.filter_sublist List.nodup_range
structure Pairs (H : Hp) (ks : List Addr) (ss : List KN) (L : List (Addr × Nat × Addr)) : Prop where
 mp : L.map (·.2.1) = upl ss ks.length
 tu : ∀ q ∈ L, H q.1 = some (.tup [.int ((q.2.1 : Int) + 1), .ref q.2.2])
 at_ : ∀ q ∈ L, ks[q.2.1]? = some q.2.2
theorem Pairs.mono {H H' : Hp} {ks : List Addr} {ss : List KN} {L : List (Addr × Nat × Addr)} (h : Pairs H ks ss L) (s : Same H H') : Pairs H' ks ss L := ⟨h.mp, fun q hq => s _ _ (h.tu q hq), h.at_⟩
theorem Pairs.len {H : Hp} {ks : List Addr} {ss : List KN} {L : List (Addr × Nat × Addr)} (h : Pairs H ks ss L) : L.length ≤ ks.length := by
 have := congrArg List.length h.mp
 rw [List.length_map] at this
 rw [this]
 exact z5m _ _
theorem Pairs.take {H : Hp} {ks : List Addr} {ss : List KN} {L : List (Addr × Nat × Addr)} (h : Pairs H ks ss L) (i : Nat) : (L.take i).map (·.2.1) = (upl ss ks.length).take i := by rw [List.map_take, h.mp]
def z90 (CC CK : Addr) : Sp := fun vs H Q _ => ∃ (c l : Addr) (ks ls : List Addr) (ss : List KN), vs = [.ref c] ∧ CAt CC CK H c l ks ls ss ∧ ∀ (r : Addr) (L : List (Addr × Nat × Addr)) (H' : Hp), Pairs H' ks ss L → H r = none → H' r = some (.lst (ptup L)) → Same H H' → Q (.ref r) H'
theorem z5n (F : MDef K C_Council "up_keepers" "Council.up_keepers" z2n ["self"]) (T : Txt K mg C_Council C_Down C_InTheWay C_Keeper C_NotFree C_OldNumber C_UnknownKeeper Pt__law_notes cd__law_notes) : MHas P w K mg base CX0 1 C_Council "up_keepers" ["self"] (z90 C_Council C_Keeper) := by
 refine F.ok z5l (fun vs H Q E h => ?_) (fun f cdv A outer s H vs Q E hr h => ?_)
 ·obtain ⟨c, l, ks, ls, us, rfl, _⟩ := h
  rfl
 ·obtain ⟨c, l, ks, ls, us, rfl, hc, q⟩ := h
  refine ⟨_, (zb (zk (z5v (x := "place") (y2 := "keeper") (cap := []) (js := []) rfl ⟨rfl, by decide +kernel, by decide +kernel, rfl, rfl, zw rfl, by decide +kernel, trivial⟩ (fun _ _ _ _ => z51 (K := K) rfl (z1p (z15 (i := 0) (show List.Nodup [("place" : Str), ("keeper" : Str)] from by decide +kernel) rfl (Or.inl rfl)) (z1p (z15 (i := 1) (show List.Nodup [("place" : Str), ("keeper" : Str)] from by decide +kernel) rfl (Or.inl rfl)) z4j))) (zha rfl T.b_enumerate (z0 (z26 (pv 0) rfl) z6) (zil z4 zjg)) (fun _ _ _ _ => (z2g (z1f (zbo (K := K) (pv 1) rfl)))) (fun _ _ _ _ => (z1k (z0 (pv 0) (z0 (pv 1) z6))))))), ?_⟩
  walk_at "rd"
  obtain ⟨dx, hob⟩ := hc.ob
  have hsz := hc.sz
  refine ⟨_, _, _, hob, T.cl_Council, T.n_Council_keepers, _, z61 _ _, l, rfl, _, SqL.of hc.li, ?_⟩
  refine zbs (xs := ks.map V.ref) (by rw [List.length_map]; exact zd (by omega)) (fun i acc H' => ∃ L : List (Addr × Nat × Addr), acc = ptup L ∧ L.map (·.2.1) = upl us i ∧ (∀ q ∈ L, H' q.1 = some (.tup [.int ((q.2.1 : Int) + 1), .ref q.2.2]) ∧ ks[q.2.1]? = some q.2.2) ∧ L.length ≤ i ∧ Same H H') ⟨[], rfl, rfl, fun q hq => (by cases hq), Nat.le_refl _, Same.refl _⟩ ?_ ?_ ?_ ?_
  ·rintro i acc H' ⟨L, rfl, -, -, hl, -⟩
   unfold ptup
   rw [List.length_map]
   exact hl
  ·rintro i acc H' ⟨L, rfl, -, -, -, sH⟩
   exact SqL.of (sH _ _ hc.li)
  ·rintro Nn i acc H' x Ta hN hx hi ⟨L, rfl, hm, hT, hl, sH⟩ hTa
   obtain ⟨k, hk, rfl⟩ : ∃ k, ks[i]? = some k ∧ x = V.ref k := by
    rw [List.getElem?_map] at hx
    cases e : ks[i]? with
    | none => rw [e] at hx; cases hx
    | some k => rw [e] at hx; exact ⟨k, rfl, (Option.some.inj hx).symm⟩
   obtain ⟨s, l1, hu, hl1, -, Ls, -, hku⟩ := hc.kp i k hk
   have sT := Same.upd (o := .tup [V.int ((i : Int) + 1), V.ref k]) hTa
   obtain ⟨⟨dk, lk, a1, a2⟩, -, -⟩ := id (hku.mono (sH.trans sT))
   have eu : upAt us i = s.u := by unfold upAt; rw [hu]
   have step : upl us (i + 1) = upl us i ++ (if s.u = true then [i] else []) := by
    unfold upl
    rw [List.range_succ, List.filter_append]
    congr 1
    rw [List.filter_cons, eu]
    cases s.u <;> rfl
   have hT2 : ∀ q ∈ L, (upd H' Ta (.tup [V.int ((i : Int) + 1), V.ref k])) q.1 = some (.tup [.int ((q.2.1 : Int) + 1), .ref q.2.2]) ∧ ks[q.2.1]? = some q.2.2 := fun q hq => ⟨sT _ _ (hT q hq).1, (hT q hq).2⟩
   refine ⟨Ta, _, rfl, SqT.of z7, rfl, ?_⟩
   walk_at "rd"
   refine ⟨_, _, ⟨rfl, rfl⟩, _, _, rfl, rfl, ⟨_, rfl⟩, k, rfl, _, _, _, a1, T.cl_Keeper, T.n_Keeper_up, _, z7a s.u s.t lk, s.u, rfl, ?_⟩
   cases hsu : s.u with
   | false =>
    rw [hsu] at step
    rw [if_neg Bool.false_ne_true]
    exact hN _ _ ⟨L, rfl, by rw [step, hm]; simp, hT2, by omega, sH.trans sT⟩
   | true =>
    rw [hsu] at step
    rw [if_pos rfl]
    refine ⟨zd (by decide), fun pt hpt => hN _ _ ⟨L ++ [(pt, i, k)], by simp [ptup], by rw [step, List.map_append, hm]; rfl, fun y hy => ?_, by rw [List.length_append]; show L.length + 1 ≤ _; omega, (sH.trans sT).trans (Same.upd hpt)⟩⟩
    rcases List.mem_append.mp hy with z | z
    ·exact ⟨(Same.upd hpt) _ _ (hT2 y z).1, (hT2 y z).2⟩
    ·have : y = (pt, i, k) := by simpa using z
     subst this
     exact ⟨z7, hk⟩
  ·rintro acc H' ⟨L, rfl, hm, hT, hl, sH⟩ p hp
   rw [List.length_map] at hm
   exact q p L _ ⟨hm, fun y hy => (Same.upd hp) _ _ (hT y hy).1, fun y hy => (hT y hy).2⟩ (zv sH hp) z7 (sH.trans (Same.upd hp))
def spFR (CC CK CU : Addr) (b : Bool) : Sp := fun vs H Q E => ∃ (c l : Addr) (ks ls : List Addr) (ss : List KN) (p : Int), vs = [.ref c, .int p] ∧ CAt CC CK H c l ks ls ss ∧ (¬ (1 ≤ p ∧ p ≤ (ks.length : Int)) → E (.ref CU) none H) ∧
 (∀ (j : Nat) (k : Addr) (s : KN) (H' : Hp), p = (j : Int) + 1 → ks[j]? = some k → ss[j]? = some s → CAt CC CK H' c l ks ls (ss.set j ⟨b, s.t, s.N⟩) → But k H H' → Q (.bl (if b then !s.u else s.u)) H')
theorem z91 (F : MDef K C_Council "fall" "Council.fall" z3t ["self", "keeper"]) (T : Txt K mg C_Council C_Down C_InTheWay C_Keeper C_NotFree C_OldNumber C_UnknownKeeper Pt__law_notes cd__law_notes) (G_Keeper_fall : MHas P w K mg base CX0 1 C_Keeper "fall" ["self"] (z8w C_Keeper false)) (G_Council_keeper_at : MHas P w K mg base (CX1 P w) 1 C_Council "keeper_at" ["self", "place"] (z8z C_Council C_Keeper C_UnknownKeeper)) : MHas P w K mg base (CX1 P w) 2 C_Council "fall" ["self", "keeper"] (spFR C_Council C_Keeper C_UnknownKeeper false) := by
 refine F.okx sc_Council_fall (fun vs H Q E h => ?_) (fun f cdv A outer s H vs Q E hr h => ?_)
 ·obtain ⟨c, l, ks, ls, us, p, rfl, _⟩ := h
  rfl
 ·obtain ⟨c, l, ks, ls, us, p, rfl, hc, e1, q⟩ := h
  refine ⟨_, (z9 (zi (i := 2) sc_Council_fall.nd rfl (Or.inl rfl) (z9k z6m G_Council_keeper_at T.cl_Council (hr.mono (by decide)) (pv 0) (z0 (pv 1) z6)))
   (z9 (zi (i := 3) sc_Council_fall.nd rfl (Or.inl rfl) (z26 (pv 2) rfl))
   (z9 (z1h (z3q G_Keeper_fall T.cl_Keeper (hr.mono (by decide)) (pv 2)))
   (zb (zk (pv 3)))))), ?_⟩
  walk_at "rd"
  obtain ⟨dx, hob⟩ := hc.ob
  refine ⟨_, _, hob, z22 _ _ (by decide +kernel) (by decide +kernel), c, l, ks, ls, us, p, rfl, hc, e1, fun j k ej hj => ?_⟩
  obtain ⟨s, l1, hu, hl1, ⟨dk1, z1⟩, Ls, eL, hk⟩ := hc.kp j k hj
  obtain ⟨⟨dk, lk, a1, a2⟩, -, -⟩ := id hk
  refine ⟨k, rfl, _, _, _, a1, T.cl_Keeper, T.n_Keeper_up, _, z7a s.u s.t lk, k, rfl, _, _, a1, z41 s.u s.t lk (by decide +kernel) (by decide +kernel) (by decide +kernel), k, s.u, s.t, Ls, rfl, hk, fun H1 hk1 hz1 hb1 => ?_⟩
  have hset := hc.set hj (s := ⟨false, s.t, s.N⟩) ⟨⟨dk1, hz1 _ _ z1⟩, Ls, eL, hk1⟩ hb1
  rw [z62 hl1] at hset
  have := q j k s H1 ej hj hu hset hb1
  simpa using this
theorem z92 (F : MDef K C_Council "rise" "Council.rise" z3u ["self", "keeper"]) (T : Txt K mg C_Council C_Down C_InTheWay C_Keeper C_NotFree C_OldNumber C_UnknownKeeper Pt__law_notes cd__law_notes) (G_Keeper_rise : MHas P w K mg base CX0 1 C_Keeper "rise" ["self"] (z8w C_Keeper true)) (G_Council_keeper_at : MHas P w K mg base (CX1 P w) 1 C_Council "keeper_at" ["self", "place"] (z8z C_Council C_Keeper C_UnknownKeeper)) : MHas P w K mg base (CX1 P w) 2 C_Council "rise" ["self", "keeper"] (spFR C_Council C_Keeper C_UnknownKeeper true) := by
 refine F.okx sc_Council_rise (fun vs H Q E h => ?_) (fun f cdv A outer s H vs Q E hr h => ?_)
 ·obtain ⟨c, l, ks, ls, us, p, rfl, _⟩ := h
  rfl
 ·obtain ⟨c, l, ks, ls, us, p, rfl, hc, e1, q⟩ := h
  refine ⟨_, (z9 (zi (i := 2) sc_Council_rise.nd rfl (Or.inl rfl) (z9k z6m G_Council_keeper_at T.cl_Council (hr.mono (by decide)) (pv 0) (z0 (pv 1) z6)))
   (z9 (zi (i := 3) sc_Council_rise.nd rfl (Or.inl rfl) (z26 (pv 2) rfl))
   (z9 (z1h (z3q G_Keeper_rise T.cl_Keeper (hr.mono (by decide)) (pv 2)))
   (zb (zk (zbc (pv 3))))))), ?_⟩
  walk_at "rd"
  obtain ⟨dx, hob⟩ := hc.ob
  refine ⟨_, _, hob, z22 _ _ (by decide +kernel) (by decide +kernel), c, l, ks, ls, us, p, rfl, hc, e1, fun j k ej hj => ?_⟩
  obtain ⟨s, l1, hu, hl1, ⟨dk1, z1⟩, Ls, eL, hk⟩ := hc.kp j k hj
  obtain ⟨⟨dk, lk, a1, a2⟩, -, -⟩ := id hk
  refine ⟨k, rfl, _, _, _, a1, T.cl_Keeper, T.n_Keeper_up, _, z7a s.u s.t lk, k, rfl, _, _, a1, z41 s.u s.t lk (by decide +kernel) (by decide +kernel) (by decide +kernel), k, s.u, s.t, Ls, rfl, hk, fun H1 hk1 hz1 hb1 => ?_⟩
  have hset := hc.set hj (s := ⟨true, s.t, s.N⟩) ⟨⟨dk1, hz1 _ _ z1⟩, Ls, eL, hk1⟩ hb1
  rw [z62 hl1] at hset
  have := q j k s H1 ej hj hu hset hb1
  simpa using this
def za1 (CC CK CU : Addr) : Sp := fun vs H Q E => ∃ (c l : Addr) (ks ls : List Addr) (ss : List KN) (p tick : Int), vs = [.ref c, .int p, .int tick] ∧ CAt CC CK H c l ks ls ss ∧ (¬ (1 ≤ p ∧ p ≤ (ks.length : Int)) → E (.ref CU) none H) ∧
 (∀ (j : Nat) (s : KN), p = (j : Int) + 1 → ss[j]? = some s → ∀ (r : Addr) (L : NL) (H' : Hp), H r = none → H' r = some (.lst (refs L)) → NotesAt H' L → L.map (·.2) = z21 tick s.N → Same H H' → Q (.ref r) H')
theorem z89 (F : MDef K C_Council "notes" "Council.notes" z3m ["self", "keeper", "tick"]) (T : Txt K mg C_Council C_Down C_InTheWay C_Keeper C_NotFree C_OldNumber C_UnknownKeeper Pt__law_notes cd__law_notes) (G_Keeper_live : MHas P w K mg base CX0 1 C_Keeper "live" ["self", "tick"] (z8v C_Keeper)) (G_Council_keeper_at : MHas P w K mg base (CX1 P w) 1 C_Council "keeper_at" ["self", "place"] (z8z C_Council C_Keeper C_UnknownKeeper)) : MHas P w K mg base (CX1 P w) 2 C_Council "notes" ["self", "keeper", "tick"] (za1 C_Council C_Keeper C_UnknownKeeper) := by
 refine F.okx z88 (fun vs H Q E h => ?_) (fun f cdv A outer s H vs Q E hr h => ?_)
 ·obtain ⟨c, l, ks, ls, us, p, tick, rfl, _⟩ := h
  rfl
 ·obtain ⟨c, l, ks, ls, us, p, tick, rfl, hc, e1, q⟩ := h
  refine ⟨_, (zb (zk (z1y G_Keeper_live T.cl_Keeper (hr.mono (by decide)) (z9k z6m G_Council_keeper_at T.cl_Council (hr.mono (by decide)) (pv 0) (z0 (pv 1) z6)) (z0 (pv 2) z6)))), ?_⟩
  walk_at "rd"
  obtain ⟨dx, hob⟩ := hc.ob
  refine ⟨_, _, hob, z22 _ _ (by decide +kernel) (by decide +kernel), c, l, ks, ls, us, p, rfl, hc, e1, fun j k ej hj => ?_⟩
  obtain ⟨s, l1, hu, hl1, ⟨dk1, z1⟩, Ls, eL, hk⟩ := hc.kp j k hj
  obtain ⟨⟨dk, lk, a1, a2⟩, hn, -⟩ := id hk
  exact ⟨k, rfl, _, _, a1, z41 s.u s.t lk (by decide +kernel) (by decide +kernel) (by decide +kernel), k, s.u, s.t, Ls, tick, rfl, hk, fun r H1 hr0 hr1 s1 => q j s ej hu r (z16 tick Ls) H1 hr0 hr1 ((hn.mono s1).sub fun q h => (List.mem_filter.mp h).1) (by rw [z70, eL]) s1⟩
def frAt (ss : List KN) (hd lk : Str) (sh : Bool) (tick : Int) (j : Nat) : Bool := match ss[j]? with | some s => z8x s.N hd lk sh tick | none => false
def sayl (ss : List KN) (n : Nat) (hd lk : Str) (sh : Bool) (tick : Int) : List Nat := (upl ss n).filter (frAt ss hd lk sh tick)
def zy (js : List Nat) : List V := js.map fun (j : Nat) => V.int ((j : Int) + 1)
theorem zhj (ss : List KN) (n : Nat) (hd lk : Str) (sh : Bool) (tick : Int) : (sayl ss n hd lk sh tick).length ≤ n := Nat.le_trans (List.length_filter_le _ _) (z5m _ _)
def z7b (ss : List KN) : Prop := ∀ s ∈ ss, s.N.length ≤ 62
def z8a (CC CK : Addr) : Sp := fun vs H Q _ => ∃ (c l : Addr) (ks ls : List Addr) (ss : List KN) (hd lk : Str) (sh : Bool) (tick : Int), vs = [.ref c, .str hd, .str lk, .bl sh, .int tick] ∧ CAt CC CK H c l ks ls ss ∧ z7b ss ∧ lk.length ≤ 1000 ∧ ∀ (r : Addr) (H' : Hp), H r = none → H' r = some (.lst (zy (sayl ss ks.length hd lk sh tick))) → Same H H' → Q (.ref r) H'
theorem z7i (F : MDef K C_Council "sayers" "Council.sayers" z3c ["self", "holder", "lock", "shared", "tick"]) (T : Txt K mg C_Council C_Down C_InTheWay C_Keeper C_NotFree C_OldNumber C_UnknownKeeper Pt__law_notes cd__law_notes) (G_Keeper_says_free : MHas P w K mg base CX0 5 C_Keeper "says_free" ["self", "holder", "lock", "shared", "tick"] (zc5 C_Keeper)) (G_Council_up_keepers : MHas P w K mg base CX0 1 C_Council "up_keepers" ["self"] (z90 C_Council C_Keeper)) : MHas P w K mg base CX0 6 C_Council "sayers" ["self", "holder", "lock", "shared", "tick"] (z8a C_Council C_Keeper) := by
 refine F.ok z7h (fun vs H Q E h => ?_) (fun f cdv A outer s H vs Q E hr h => ?_)
 ·obtain ⟨c, l, ks, ls, ss, hd, lk, sh, tick, rfl, _⟩ := h
  rfl
 ·obtain ⟨c, l, ks, ls, ss, hd, lk, sh, tick, rfl, hc, hsm, hl, q⟩ := h
  refine ⟨_, (zb (zk (z5v (x := "place") (y2 := "keeper") (cap := ["holder", "lock", "shared", "tick"]) (js := [1, 2, 3, 4]) rfl ⟨rfl, by decide +kernel, by decide +kernel, rfl, rfl, zw rfl, by decide +kernel, ⟨⟨rfl, Or.inl rfl, rfl⟩, ⟨⟨rfl, Or.inl rfl, rfl⟩, ⟨⟨rfl, Or.inl rfl, rfl⟩, ⟨⟨rfl, Or.inl rfl, rfl⟩, trivial⟩⟩⟩⟩⟩ (fun _ _ _ _ => z51 (K := K) rfl (z1p (z15 (i := 0) (show List.Nodup [("place" : Str), ("keeper" : Str), ("holder" : Str), ("lock" : Str), ("shared" : Str), ("tick" : Str)] from by decide +kernel) rfl (Or.inl rfl)) (z1p (z15 (i := 1) (show List.Nodup [("place" : Str), ("keeper" : Str), ("holder" : Str), ("lock" : Str), ("shared" : Str), ("tick" : Str)] from by decide +kernel) rfl (Or.inl rfl)) z4j))) (z18 (z3q G_Council_up_keepers T.cl_Council (hr.mono (by decide)) (pv 0))) (fun _ _ _ _ => (z2g (z1f (z1y G_Keeper_says_free T.cl_Keeper (hr.mono (by decide)) (pv 1) (z0 (pv 2) (z0 (pv 3) (z0 (pv 4) (z0 (pv 5) z6)))))))) (fun _ _ _ _ => (pv 0))))), ?_⟩
  walk_at "rd"
  obtain ⟨dx, hob⟩ := hc.ob
  have hsz := hc.sz
  refine ⟨_, _, hob, z22 _ _ (by decide +kernel) (by decide +kernel), c, l, ks, ls, ss, rfl, hc, fun r L H1 hL hr0 gr s1 => ⟨r, rfl, ⟨_, SqL.of gr⟩, ?_⟩⟩
  have hll := hL.len
  refine z4q (xs := ptup L) (by rw [z3d]; exact zd (by omega)) (fun i acc H' => acc = zy (((upl ss ks.length).take i).filter (frAt ss hd lk sh tick)) ∧ Same H1 H') ⟨rfl, Same.refl _⟩ ?_ ?_ ?_ ?_
  ·rintro i acc H' ⟨rfl, -⟩
   unfold zy
   rw [List.length_map]
   exact Nat.le_trans (List.length_filter_le _ _) (by rw [List.length_take]; omega)
  ·rintro i acc H' ⟨-, s2⟩
   exact SqL.of (s2 _ _ gr)
  ·rintro Nn i acc H' x hN hx hi ⟨rfl, s2⟩
   obtain ⟨y, hy, rfl⟩ := z64 hx
   have my := List.mem_of_getElem? hy
   refine ⟨y.1, _, rfl, SqT.of (s2 _ _ (hL.tu y my)), rfl, ?_⟩
   walk_at "rd"
   obtain ⟨s, l1, hu, hl1, -, Ls, eL, hk⟩ := (hc.mono (s1.trans s2)).kp y.2.1 y.2.2 (hL.at_ y my)
   obtain ⟨⟨dk, lk', a1, a2⟩, hn, -⟩ := id hk
   have l62 : Ls.length ≤ 62 := by
    have := hsm s (List.mem_of_getElem? hu)
    rw [← eL, List.length_map] at this
    exact this
   have gi : (upl ss ks.length)[i]? = some y.2.1 := by rw [← hL.mp, List.getElem?_map, hy]; rfl
   have stp := z1i (frAt ss hd lk sh tick) gi
   have ef : frAt ss hd lk sh tick y.2.1 = z2r Ls hd lk sh tick := by
    unfold frAt
    rw [hu, z8y, eL]
   refine ⟨_, _, ⟨rfl, rfl⟩, _, _, rfl, rfl, ⟨_, rfl⟩, _, rfl, _, _, a1, z41 s.u s.t lk' (by decide +kernel) (by decide +kernel) (by decide +kernel), y.2.2, s.u, s.t, Ls, hd, lk, sh, tick, rfl, hk, by omega, hl, fun H3 s3 => ⟨_, rfl, ?_⟩⟩
   cases hf : z2r Ls hd lk sh tick with
   | true =>
    rw [if_pos rfl]
    refine hN _ _ ⟨?_, s2.trans s3⟩
    rw [stp, ef, hf]
    simp [zy]
   | false =>
    rw [if_neg Bool.false_ne_true]
    refine hN _ _ ⟨?_, s2.trans s3⟩
    rw [stp, ef, hf]
    simp
  ·rintro acc H' ⟨rfl, s2⟩ p hp
   have e : (upl ss ks.length).take (ptup L).length = upl ss ks.length := by
    rw [z3d, ← hL.take, List.take_length, hL.mp]
   rw [e]
   exact q p _ (zv (s1.trans s2) hp) z7 ((s1.trans s2).trans (Same.upd hp))
def z93 (ss : List KN) (m : Int) : Prop := (∃ s ∈ ss, s.u = true ∧ s.t = m) ∧ ∀ s ∈ ss, s.u = true → s.t ≤ m
def z28 (ss : List KN) (sl : List Nat) (x : Nt) : List KN := ss.mapIdx fun j s => if j ∈ sl then ⟨s.u, x.n, z34 x.h x.l s.N ++ [x]⟩ else s
theorem zgf (ss : List KN) (x : Nt) : z28 ss [] x = ss := by
 unfold z28
 apply List.ext_getElem?
 intro i
 rw [List.getElem?_mapIdx]
 simp
theorem zen {ss : List KN} {sl : List Nat} {x : Nt} {i j : Nat} {s : KN} (hj : sl[i]? = some j) (hs : ss[j]? = some s) (nd : sl.Nodup) : z28 ss (sl.take (i + 1)) x = (z28 ss (sl.take i) x).set j ⟨s.u, x.n, z34 x.h x.l s.N ++ [x]⟩ ∧ (z28 ss (sl.take i) x)[j]? = some s := by
 have nj : j ∉ sl.take i := fun h => by
  obtain ⟨k, hk, e⟩ := List.getElem_of_mem h
  rw [List.length_take] at hk
  have e2 : sl[k]? = some j := by rw [List.getElem_take] at e; rw [List.getElem?_eq_getElem (by omega), e]
  have := (List.getElem?_inj (by omega) nd).mp (e2.trans hj.symm)
  omega
 constructor
 ·unfold z28
  apply List.ext_getElem?
  intro k
  rw [List.getElem?_mapIdx, List.take_succ, hj]
  by_cases hk : k = j
  ·subst hk
   have hl : k < ss.length := (List.getElem?_eq_some_iff.mp hs).1
   rw [List.getElem?_set_self (by rw [List.length_mapIdx]; exact hl), hs]
   simp
  ·rw [List.getElem?_set_ne (Ne.symm hk), List.getElem?_mapIdx]
   simp [hk]
 ·unfold z28
  rw [List.getElem?_mapIdx, hs]
  simp [nj]
def zgg (CC CK CN : Addr) : Sp := fun vs H Q E => ∃ (c l : Addr) (ks ls : List Addr) (ss : List KN) (hd lk : Str) (sh : Bool) (tick time : Int), vs = [.ref c, .str hd, .str lk, .bl sh, .int tick, .int time] ∧ CAt CC CK H c l ks ls ss ∧ z7b ss ∧ hd.length ≤ 1000 ∧ lk.length ≤ 1000 ∧
 (((sayl ss ks.length hd lk sh tick).length : Int) < (ks.length : Int) / 2 + 1 → ∀ H', Same H H' → E (.ref CN) none H') ∧
 (¬ ((sayl ss ks.length hd lk sh tick).length : Int) < (ks.length : Int) / 2 + 1 → ∀ (m : Int), z93 ss m → ∀ (r p : Addr) (ls' : List Addr) (H' : Hp), LsOk H ls ls' → CAt CC CK H' c l ks ls' (z28 ss (sayl ss ks.length hd lk sh tick) ⟨1 + m, hd, lk, sh, tick + time⟩) →
  H' r = some (.tup [.int (1 + m), .ref p]) → H' p = some (.lst (zy (sayl ss ks.length hd lk sh tick))) → H r = none → H p = none → ButK ks H H' → Q (.ref r) H')
theorem z94 (F : MDef K C_Council "give" "Council.give" z3v ["self", "holder", "lock", "shared", "tick", "time"]) (T : Txt K mg C_Council C_Down C_InTheWay C_Keeper C_NotFree C_OldNumber C_UnknownKeeper Pt__law_notes cd__law_notes) (G_Keeper_take : MHas P w K mg base (CX1 P w) 6 C_Keeper "take" ["self", "number", "holder", "lock", "shared", "tick", "time"] (zgc C_Keeper C_Down C_OldNumber C_InTheWay)) (G_Council_keeper_at : MHas P w K mg base (CX1 P w) 1 C_Council "keeper_at" ["self", "place"] (z8z C_Council C_Keeper C_UnknownKeeper)) (G_Council_up_keepers : MHas P w K mg base CX0 1 C_Council "up_keepers" ["self"] (z90 C_Council C_Keeper)) (G_Council_sayers : MHas P w K mg base CX0 6 C_Council "sayers" ["self", "holder", "lock", "shared", "tick"] (z8a C_Council C_Keeper)) : MHas P w K mg base (CX1 P w) 7 C_Council "give" ["self", "holder", "lock", "shared", "tick", "time"] (zgg C_Council C_Keeper C_NotFree) := by
 refine F.okx sc_Council_give (fun vs H Q E h => ?_) (fun f cdv A outer s H vs Q E hr h => ?_)
 ·obtain ⟨c, l, ks, ls, ss, hd, lk, sh, tick, time, rfl, _⟩ := h
  rfl
 ·obtain ⟨c, l, ks, ls, ss, hd, lk, sh, tick, time, rfl, hc, hsm, hh, hl, e1, q⟩ := h
  refine ⟨_, (z9 (zi (i := 6) sc_Council_give.nd rfl (Or.inl rfl) (z1y G_Council_sayers T.cl_Council (hr.mono (by decide)) (pv 0) (z0 (pv 1) (z0 (pv 2) (z0 (pv 3) (z0 (pv 4) z6))))))
   (z9 (zx (zm z75 (zg zp rfl T.b_len (by decide +kernel) (z0 (pv 6) z6)) (z26 (pv 0) rfl) (zl _)) (zb (z4p z45 rfl PySem.F.excBase_ValueError T.x_NotFree rfl T.g_NotFree (z0 zj z6))) zn)
   (z9 (zi (i := 7) sc_Council_give.nd rfl (Or.inl rfl) (ze z13 z4 (zg (z6p rfl) rfl T.b_max (by decide +kernel) (z0 (z5v (x := "place") (y2 := "keeper") (cap := []) (js := []) rfl ⟨rfl, by decide +kernel, by decide +kernel, rfl, rfl, zw rfl, by decide +kernel, trivial⟩ (fun _ _ _ _ => z51 (K := K) rfl (z1p (z15 (i := 0) (show List.Nodup [("place" : Str), ("keeper" : Str)] from by decide +kernel) rfl (Or.inl rfl)) (z1p (z15 (i := 1) (show List.Nodup [("place" : Str), ("keeper" : Str)] from by decide +kernel) rfl (Or.inl rfl)) z4j))) (z18 (z3q G_Council_up_keepers T.cl_Council (hr.mono (by decide)) (pv 0))) (fun _ _ _ _ => z32) (fun _ _ _ _ => (zbo (K := K) (pv 1) rfl))) z6))))
   (z9 (PS.nox (z2p PassesOwn.never rfl (z18 (pv 6)) (z15 (i := 8) sc_Council_give.nd rfl (Or.inl rfl)) (zb (z1h (z1y (MHas.never G_Keeper_take) T.cl_Keeper (hr.mono (by decide)) (z1y (MHas.never G_Council_keeper_at) T.cl_Council (hr.mono (by decide)) (pv 0) (z0 (pv 8) z6)) (z0 (pv 7) (z0 (pv 1) (z0 (pv 2) (z0 (pv 3) (z0 (pv 4) (z0 (pv 5) z6)))))))))))
   (zb (zk (z1k (z0 (pv 7) (z0 (pv 6) z6))))))))), ?_⟩
  walk_at "rd"
  obtain ⟨dx, hob⟩ := hc.ob
  have hsz := hc.sz
  have hsl := zhj ss ks.length hd lk sh tick
  refine ⟨_, _, hob, z22 _ _ (by decide +kernel) (by decide +kernel), c, l, ks, ls, ss, hd, lk, sh, tick, rfl, hc, hsm, hl, fun r H1 hr0 gr s1 => ?_⟩
  have snd : (sayl ss ks.length hd lk sh tick).Nodup := List.Nodup.sublist List.filter_sublist (z52 _ _)
  have smem : ∀ j ∈ sayl ss ks.length hd lk sh tick, j < ks.length ∧ upAt ss j = true ∧ frAt ss hd lk sh tick j = true := fun j hj => by
   obtain ⟨a, b⟩ := List.mem_filter.mp hj
   exact ⟨(z2u a).1, (z2u a).2, b⟩
  generalize sayl ss ks.length hd lk sh tick = sl at e1 q gr hsl snd smem
  refine ⟨r, rfl, _, .inl (SqL.of gr), _, _, _, s1 _ _ hob, T.cl_Council, T.n_Council_most, _, ziz _ _, _, rfl, ?_⟩
  have epl : (zy sl).length = sl.length := List.length_map _
  rw [epl]
  by_cases hlt : (sl.length : Int) < (ks.length : Int) / 2 + 1
  ·rw [if_pos (decide_eq_true hlt)]
   exact ⟨zd (by decide), e1 hlt H1 s1⟩
  rw [if_neg (by simpa using hlt)]
  have q := q hlt
  have hc1 := hc.mono s1
  refine ⟨_, _, s1 _ _ hob, z22 _ _ (by decide +kernel) (by decide +kernel), c, l, ks, ls, ss, rfl, hc1, fun r2 L H2 hL hr2 gr2 s2 => ⟨r2, rfl, ⟨_, SqL.of gr2⟩, ?_⟩⟩
  have hll := hL.len
  have hc2 := hc1.mono s2
  have stAt : ∀ y ∈ L, ∃ s, ss[y.2.1]? = some s ∧ s.u = true ∧ ∃ dx lk', H2 y.2.2 = some (.ins C_Keeper dx (kf s.u s.t lk')) := fun y hy => by
   obtain ⟨s, l1, hu, hl1, -, Ls, eL, ⟨dk, lk', a1, a2⟩, -, -⟩ := hc2.kp y.2.1 y.2.2 (hL.at_ y hy)
   have hm : y.2.1 ∈ upl ss ks.length := by rw [← hL.mp]; exact List.mem_map_of_mem hy
   have := (z2u hm).2
   unfold upAt at this
   rw [hu] at this
   exact ⟨s, hu, this, dk, lk', a1⟩
  refine z4q (xs := ptup L) (by rw [z3d]; exact zd (by omega)) (fun i acc H' => H2 = H' ∧ ∃ ns : List Int, acc = ns.map V.int ∧ ns.length = (L.take i).length ∧ (∀ x ∈ ns, ∃ s ∈ ss, s.u = true ∧ s.t = x) ∧ ∀ y ∈ L.take i, ∀ s, ss[y.2.1]? = some s → s.t ∈ ns) ⟨rfl, [], rfl, rfl, (fun x hx => by cases hx), (fun y hy => by cases hy)⟩ ?_ ?_ ?_ ?_
  ·rintro i acc H' ⟨-, ns, rfl, en, -⟩
   rw [List.length_map, en, List.length_take]
   omega
  ·rintro i acc H' ⟨rfl, -⟩
   exact SqL.of gr2
  ·rintro Nn i acc H' x hN hx hi ⟨rfl, ns, rfl, en, hn1, hn2⟩
   obtain ⟨y, hy, rfl⟩ := z64 hx
   have my := List.mem_of_getElem? hy
   refine ⟨y.1, _, rfl, SqT.of (hL.tu y my), rfl, ?_⟩
   walk_at "rd"
   obtain ⟨s, hu, hup, dk, lk', a1⟩ := stAt y my
   refine ⟨_, _, ⟨rfl, rfl⟩, _, _, rfl, rfl, ⟨_, rfl⟩, y.2.2, rfl, _, _, _, a1, T.cl_Keeper, T.n_Keeper_top, _, zg9 s.u s.t lk', hN _ _ ⟨rfl, ns ++ [s.t], by simp, ?_, fun x hx => ?_, fun z hz s' hs' => ?_⟩⟩
   ·rw [List.length_append, en, List.take_succ, hy]
    simp
   ·rcases List.mem_append.mp hx with hx | hx
    ·exact hn1 x hx
    ·have : x = s.t := by simpa using hx
     exact ⟨s, List.mem_of_getElem? hu, hup, this.symm⟩
   ·rw [List.take_succ, hy] at hz
    rcases List.mem_append.mp hz with hz | hz
    ·exact List.mem_append_left _ (hn2 z hz s' hs')
    ·have : z = y := by simpa using hz
     rw [this, hu] at hs'
     cases hs'
     simp
  rintro acc H' ⟨rfl, ns, rfl, en, hn1, hn2⟩ p hp
  rw [z3d, List.take_length] at en hn2
  have lsl : 0 < sl.length := by
   have : (0 : Int) ≤ (ks.length : Int) / 2 := Int.ediv_nonneg (by omega) (by decide)
   omega
  obtain ⟨j0, hj0⟩ : ∃ j, j ∈ sl := ⟨sl[0], List.getElem_mem lsl⟩
  have memL : ∀ j, j < ks.length → upAt ss j = true → ∃ y ∈ L, y.2.1 = j := fun j hj hu => by
   have : j ∈ upl ss ks.length := List.mem_filter.mpr ⟨List.mem_range.mpr hj, hu⟩
   rw [← hL.mp] at this
   obtain ⟨y, hy, e⟩ := List.mem_map.mp this
   exact ⟨y, hy, e⟩
  have nne : ns ≠ [] := by
   obtain ⟨a, b, -⟩ := smem j0 hj0
   obtain ⟨y, hy, -⟩ := memL j0 a b
   intro z
   rw [z] at en
   have : L = [] := List.length_eq_zero_iff.mp en.symm
   rw [this] at hy
   cases hy
  have s3 := s2.trans (Same.upd (o := .lst (ns.map V.int)) hp)
  refine ⟨p, rfl, ns, SqL.of z7, nne, fun m hm hmax => ⟨r, rfl, ⟨_, SqL.of (s3 _ _ gr)⟩, ?_⟩⟩
  have top : z93 ss m := ⟨hn1 m hm, fun s hs hup => by
   obtain ⟨j, hj, e⟩ := List.getElem_of_mem hs
   have ej : ss[j]? = some s := by rw [List.getElem?_eq_getElem hj, e]
   obtain ⟨y, hy, e2⟩ := memL j (by rw [← hc.ln]; exact hj) (by unfold upAt; rw [ej]; exact hup)
   exact hmax _ (hn2 y hy s (by rw [e2]; exact ej))⟩
  generalize upd H2 p (.lst (ns.map V.int)) = H3 at s3 ⊢
  have hc3 := hc1.mono s3
  have gr3 := s3 _ _ gr
  refine z27 (xs := zy sl) (fun i σ H' => ∃ (v8 : Option V) (ls' : List Addr), σ = [some (V.ref c), some (V.str hd), some (V.str lk), some (V.bl sh), some (V.int tick), some (V.int time), some (V.ref r), some (V.int (1 + m)), v8] ∧ LsOk H ls ls' ∧ CAt C_Council C_Keeper H' c l ks ls' (z28 ss (sl.take i) ⟨1 + m, hd, lk, sh, tick + time⟩) ∧ ButK ks H3 H') ⟨_, ls, rfl, LsOk.refl _ _, by rw [List.take_zero, zgf]; exact hc3, fun b o e _ => e⟩ ?_ ?_ ?_
  ·rintro i σ H' - ⟨v8, ls', rfl, -, -, b⟩
   refine SqL.of (b _ _ gr3 fun z => ?_)
   obtain ⟨_, _, e⟩ := hc3.mem z
   rw [gr3] at e
   cases e
  ·rintro Pv hP i x σ H' hx ⟨v8, ls', rfl, hls, hci, b⟩
   unfold zy at hx
   rw [List.getElem?_map] at hx
   cases ej : sl[i]? with
   | none => rw [ej] at hx; cases hx
   | some j =>
   rw [ej] at hx
   cases hx
   walk_at "rd"
   obtain ⟨hjl, hju, hjf⟩ := smem j (List.mem_of_getElem? ej)
   have hjk : ks[j]? = some ks[j] := List.getElem?_eq_getElem hjl
   obtain ⟨s, l1, hs, -, -⟩ := hc3.kp j _ hjk
   obtain ⟨eg, eg2⟩ := zen (x := ⟨1 + m, hd, lk, sh, tick + time⟩) ej hs snd
   obtain ⟨dxi, hobi⟩ := hci.ob
   refine ⟨_, _, hobi, z22 _ _ (by decide +kernel) (by decide +kernel), c, l, ks, ls', _, _, rfl, hci, fun z => absurd ⟨by omega, by omega⟩ z, fun j' k' ej' hk' => ?_⟩
   have ejj : j' = j := by omega
   subst ejj
   obtain ⟨s', l2, hs', hl2, -, Ls, eL, hk⟩ := hci.kp j' k' hk'
   rw [eg2] at hs'
   cases hs'
   obtain ⟨⟨dk, lk', a1, a2⟩, hn, -⟩ := id hk
   have l62 : Ls.length ≤ 62 := by
    have := hsm s (List.mem_of_getElem? hs)
    rw [← eL, List.length_map] at this
    exact this
   have hup : s.u = true := by unfold upAt at hju; rw [hs] at hju; exact hju
   have hfr : z2r Ls hd lk sh tick = true := by unfold frAt at hjf; rw [hs] at hjf; rw [z8y, eL]; exact hjf
   have hlt2 : s.t < 1 + m := by have := top.2 s (List.mem_of_getElem? hs) hup; omega
   refine ⟨k', rfl, _, _, a1, z41 s.u s.t lk' (by decide +kernel) (by decide +kernel) (by decide +kernel), k', s.u, s.t, Ls, 1 + m, hd, lk, sh, tick, time, rfl, hk, l62, hh, hl, fun z => (by rw [hup] at z; cases z), fun _ z => (by omega), fun _ _ z => (by rw [hfr] at z; cases z), fun _ _ _ pn H5 hpn hk5 hz5 hb5 => ?_⟩
   obtain ⟨dx5, l5, z5, n5'⟩ := hz5
   have n50 : H l5 = none := by
    cases e : H l5 with
    | none => rfl
    | some o =>
     by_cases z : l5 ∈ ks
     ·obtain ⟨_, _, e2⟩ := hci.mem z
      rw [n5'] at e2
      cases e2
     ·rw [((ButK.of (s1.trans s3)).trans b) _ _ e z] at n5'
      cases n5'
   refine hP _ _ _ ⟨_, ls'.set j' l5, rfl, fun x hx => ?_, ?_, b.trans (ButK.but hb5 (List.mem_of_getElem? hk'))⟩
   ·rcases List.mem_or_eq_of_mem_set hx with z | z
    ·exact hls x z
    ·exact .inr (z ▸ n50)
   rw [eg]
   refine hci.set hk' ⟨⟨dx5, z5⟩, _, ?_, hk5⟩ hb5
   rw [List.map_append, zge, eL]
   rfl
  ·rintro σ H' ⟨v8, ls', rfl, hls, hci, b⟩
   walk_at "rd"
   have epl' : (zy sl).length = sl.length := List.length_map _
   rw [epl', List.take_length] at hci
   refine ⟨zd (by decide), fun pr hpr => ?_⟩
   have nrk : r ∉ ks := fun z => by
    obtain ⟨_, _, e⟩ := hc3.mem z
    rw [gr3] at e
    cases e
   have b0 : ButK ks H H' := (ButK.of (s1.trans s3)).trans b
   have hpr0 : H pr = none := by
    cases e : H pr with
    | none => rfl
    | some o =>
     by_cases z : pr ∈ ks
     ·obtain ⟨_, _, e2⟩ := hci.mem z
      rw [hpr] at e2
      cases e2
     ·rw [b0 _ _ e z] at hpr
      cases hpr
   exact q m top pr r ls' _ hls (hci.mono (Same.upd hpr)) z7 (Same.upd hpr _ _ (b _ _ gr3 nrk)) hpr0 hr0 (b0.trans (ButK.of (Same.upd hpr)))
def spAt (K : PySem.W.Frag) : Sp := fun vs H Q _ => ∃ (p : Addr) (ns : List Int) (k : Nat), vs = [.ref p, .int k] ∧ SqL K H p (ns.map V.int) ∧ ns.length ≤ 1000 ∧ Q (.int (ns.getD k 0)) H
theorem zeo (F : Def K mg "_law_at" z6v ["_law_script", "_law_k"]) (T : Txt K mg C_Council C_Down C_InTheWay C_Keeper C_NotFree C_OldNumber C_UnknownKeeper Pt__law_notes cd__law_notes) : Has P w K mg base 1 "_law_at" ["_law_script", "_law_k"] (spAt K) := by
 refine F.ok zek (fun vs H Q E h => ?_) (fun f cdv A outer s H vs Q E hr h => ?_)
 ·obtain ⟨p, ns, k, rfl, _⟩ := h
  rfl
 ·obtain ⟨p, ns, k, rfl, hp, hl, q⟩ := h
  refine ⟨_, (z9 (zx (zm z75 (pv 1) (zg zp rfl T.b_len (by decide +kernel) (z0 (pv 0) z6)) (zl _)) (zb (zk (zh ix_list (pv 0) (pv 1) (fun _ _ => rfl)))) zn)
   (zb (zk z4))), ?_⟩
  walk_at "rd"
  refine ⟨_, .inl hp, ?_⟩
  rw [List.length_map]
  by_cases hk : k < ns.length
  ·rw [if_pos (by simpa using hk)]
   refine ⟨p, _, _, _, rfl, rfl, hp, zc (v := .int (ns.getD k 0)) ?_, q⟩
   rw [List.getElem?_map, List.getD_eq_getElem?_getD, List.getElem?_eq_getElem hk]
   rfl
  ·rw [if_neg (by simpa using hk)]
   have e : ns.getD k 0 = 0 := by rw [List.getD_eq_getElem?_getD, List.getElem?_eq_none (by omega)]; rfl
   rw [← e]
   exact q
def abc : Str := "abcdefghijklmnopqrstuvwxyz0123456789"
theorem zj0 : ∀ n, n < 36 → ∃ c, abc.cps.toList[n]? = some c := by
 intro n hn
 have l : abc.cps.toList.length = 36 := by decide +kernel
 exact ⟨_, List.getElem?_eq_getElem (by omega)⟩
theorem zjy (j : Int) (h0 : 0 ≤ j) (h1 : j < 36) : ∃ c, atI abc.cps.toList j = some c := by
 obtain ⟨n, rfl⟩ := Int.eq_ofNat_of_zero_le h0
 obtain ⟨c, hc⟩ := zj0 n (by omega)
 exact ⟨c, zc hc⟩
theorem zgh {d : Nat} {n : Nat} (h : n ≤ 100) : MulOk ⟨#[d]⟩ (n : Int) := by
 have f : ∀ m : _root_.Fin 101, (decide ((m.val : Int) < 1) || (decide (¬ ((1 : Int) > (2 ^ 63 - 1) / (m.val : Int))) && (Builtin.Str.tooLong (1 * m.val) == false))) = true := by decide +kernel
 have g := f ⟨n, by omega⟩
 dsimp only at g
 rw [Bool.or_eq_true, Bool.and_eq_true] at g
 have l : (⟨#[d]⟩ : Str).length = 1 := rfl
 refine ⟨?_, fun h1 _ => ?_, fun h1 _ => ?_⟩
 ·rw [Bool.or_eq_false_iff]
  exact ⟨decide_eq_false (by omega), decide_eq_false (by omega)⟩
 ·rcases g with g | g
  ·exact absurd (of_decide_eq_true g) h1
  ·rw [l]
   exact of_decide_eq_true g.1
 ·rcases g with g | g
  ·exact absurd (of_decide_eq_true g) h1
  ·rw [l, Int.toNat_natCast]
   exact eq_of_beq g.2
theorem zc7 (d : Nat) : ∀ (m : Nat) (acc : Array Nat), ((List.replicate m #[d]).foldl (· ++ ·) acc).size = acc.size + m
 | 0, acc => rfl
 | m + 1, acc => by
  rw [List.replicate_succ, List.foldl_cons, zc7 d m, Array.size_append]
  show acc.size + 1 + m = _
  omega
theorem za2 (d n : Nat) : (Txt.mul ⟨#[d]⟩ (n : Int)).length = n := by
 unfold Txt.mul
 by_cases h1 : (n : Int) < 1
 ·rw [if_pos h1]
  have : n = 0 := by omega
  subst this
  rfl
 ·rw [if_neg h1]
  by_cases h2 : n = 1
  ·subst h2
   rfl
  ·rw [if_neg (by simp; exact ⟨by omega, by show ¬ (1 = 0); decide⟩)]
   show ((List.replicate (n : Int).toNat #[d]).foldl (· ++ ·) #[]).size = n
   rw [zc7, Int.toNat_natCast]
   show 0 + n = n
   omega
def zc8 : Sp := fun vs H Q _ => ∃ (c : Int) (k : Nat), vs = [.int c, .int k] ∧ k ≤ 10 ∧ ∀ z : Str, z.length ≤ 16 → Q (.str z) H
theorem zc9 (F : Def K mg "_law_name" z56 ["_law_cell", "_law_k"]) (T : Txt K mg C_Council C_Down C_InTheWay C_Keeper C_NotFree C_OldNumber C_UnknownKeeper Pt__law_notes cd__law_notes) : Has P w K mg base 1 "_law_name" ["_law_cell", "_law_k"] (zc8) := by
 refine F.ok sc__law_name (fun vs H Q E h => ?_) (fun f cdv A outer s H vs Q E hr h => ?_)
 ·obtain ⟨c, k, rfl, _⟩ := h
  rfl
 ·obtain ⟨c, k, rfl, hk, q⟩ := h
  have hu := hr.units0
  refine ⟨_, (z9 (zi (i := 2) sc__law_name.nd rfl (Or.inl rfl) zj)
   (z9 (zi (i := 3) sc__law_name.nd rfl (Or.inl rfl) (ze z17 (pv 0) z4))
   (z9 (zx (zm z19 (ze z11 (pv 0) z4) z4 (zl _)) (z9 (zx (zm zds (pv 1) z4 (zl _)) (zb (zk (ze z3h (zh z5h (pv 2) (ze z11 (ze z13 (pv 3) z4) z4) (fun _ _ => rfl)) (ze z8p (zh z5h (pv 2) (ze z11 (pv 3) z4) (fun _ _ => rfl)) (ze z2q (pv 1) z4))))) zn)
   (zb (zk (ze z8p (zh z5h (pv 2) (ze z11 (pv 3) z4) (fun _ _ => rfl)) (ze z13 (pv 1) z4))))) zn)
   (z9 (zx (zm z19 (ze z11 (pv 0) z4) z4 (zl _)) (zb (zk (ze z3h (zh z5h (pv 2) (ze z11 (ze z13 (pv 3) (ze z6i z4 (pv 1))) z4) (fun _ _ => rfl)) (z4n zjn zj z5f (z5g (ze z11 (ze z13 (ze z17 (pv 3) z4) (ze z6i z4 (pv 1))) z4)))))) zn)
   (z9 (zi (i := 4) sc__law_name.nd rfl (Or.inl rfl) (ze z13 z4 (ze z11 (pv 3) z4)))
   (z9 (zi (i := 5) sc__law_name.nd rfl (Or.inl rfl) (ze z11 (ze z17 (pv 3) z4) (pv 4)))
   (z9 (zi (i := 6) sc__law_name.nd rfl (Or.inl rfl) zj)
   (z9 (z2p PassesOwn.never rfl (z2k rfl T.b_range (z0 (pv 4) z6)) (z15 (i := 7) sc__law_name.nd rfl (Or.inl rfl)) (z9 (zi (i := 8) sc__law_name.nd rfl (Or.inl rfl) (ze z13 (ze z17 (pv 3) z4) (ze z6i z4 (pv 7))))
   (z3p (zx (zm z19 (pv 7) (pv 5) (zl _)) (zb (zi (i := 8) sc__law_name.nd rfl (Or.inl rfl) (ze z13 (ze z17 (pv 3) z4) (ze z6i z4 (pv 1))))) zn)
   (zb (zi (i := 6) sc__law_name.nd rfl (Or.inl rfl) (ze z3h (pv 6) (zh z5h (pv 2) (ze z11 (pv 8) z4) (fun _ _ => rfl))))))))
   (zb (zk (pv 6))))))))))), ?_⟩
  walk_at "rd"
  have sgn : ∀ (j : Int) (R : VK), 0 ≤ j → j < 36 → (∀ d : Nat, R (.str ⟨#[d]⟩) H) → rIxS (V.str "abcdefghijklmnopqrstuvwxyz0123456789") (V.int j) H R := fun j R h0 h1 k => by
   obtain ⟨d, hd⟩ := zjy j h0 h1
   exact ⟨abc, _, d, rfl, rfl, by decide, hd, k d⟩
  refine ⟨cdiv (by decide) (by decide), by decide, ite2 (fun _ => ite2 (fun h8 => ?_) (fun h8 => ?_)) (fun _ => ⟨by decide, ite2 (fun _ => ?_) (fun _ => ?_)⟩)⟩
  ·have h8' : 8 ≤ k := by have := of_decide_eq_true h8; omega
   have e7 : (k : Int) - 7 = ((k - 7 : Nat) : Int) := by omega
   rw [e7]
   refine ⟨by decide, sgn _ _ (by omega) (by omega) fun d => ⟨by decide, sgn _ _ (by omega) (by omega) fun d' => ⟨_, rfl, zgh (by omega), _, rfl, ?_, q _ ?_⟩⟩⟩
   ·rw [za2]
    exact zd (by show 1 + _ ≤ _; omega)
   ·rw [PySem.Str.length_append, za2]
    show 1 + _ ≤ _
    omega
  ·have e7 : (k : Int) + 1 = ((k + 1 : Nat) : Int) := by omega
   rw [e7]
   refine ⟨by decide, sgn _ _ (by omega) (by omega) fun d => ⟨_, rfl, zgh (by omega), q _ ?_⟩⟩
   rw [za2]
   omega
  ·have l7 : ∀ u, (Txt.slice ("k0stemz" : Str) none u).length ≤ 7 := fun u => Txt.slice_le _ _ _
   refine ⟨.inl ⟨by decide, by decide⟩, by decide, sgn _ _ (by omega) (by omega) fun d => ⟨cdiv (by decide) (by decide), .inl ⟨by decide, by decide⟩, by decide, by decide, _, rfl, ?_, q _ ?_⟩⟩
   ·have := l7 (some ((c / 3 / 36 + 3 * (k : Int)) % 8))
    exact zd (by show 1 + _ ≤ _; omega)
   ·have := l7 (some ((c / 3 / 36 + 3 * (k : Int)) % 8))
    rw [PySem.Str.length_append]
    show 1 + _ ≤ _
    omega
  ·refine ⟨by decide, cdiv (by decide) (by decide), by omega, ⟨by omega, by omega⟩, ?_⟩
   refine z40 (fun i σ H' => H' = H ∧ ∃ (z : Str) (v v' : Option V), σ = [some (V.int c), some (V.int k), some (V.str "abcdefghijklmnopqrstuvwxyz0123456789"), some (V.int (c / 3)), some (V.int (1 + c / 3 % 8)), some (V.int (c / 3 / 8 % (1 + c / 3 % 8))), some (V.str z), v, v'] ∧ z.length = i) ⟨rfl, _, _, _, rfl, rfl⟩ ?_ ?_
   ·rintro Pv hP i σ H' hi ⟨rfl, z, v, v', rfl, hz⟩
    walk_at "rd"
    refine ⟨cdiv (by decide) (by decide), .inl ⟨by decide, by decide⟩, ?_⟩
    refine z5u (fun σ H2 => H2 = H' ∧ ∃ (r : Int), σ = [some (V.int c), some (V.int k), some (V.str "abcdefghijklmnopqrstuvwxyz0123456789"), some (V.int (c / 3)), some (V.int (1 + c / 3 % 8)), some (V.int (c / 3 / 8 % (1 + c / 3 % 8))), some (V.str z), some (V.int (0 + i)), some (V.int r)]) (fun Mid hM => ?_) ?_
    ·walk_at "rd"
     exact ite2 (fun _ => ⟨cdiv (by decide) (by decide), .inl ⟨by decide, by decide⟩, hM _ _ ⟨rfl, _, rfl⟩⟩) (fun _ => hM _ _ ⟨rfl, _, rfl⟩)
    ·rintro σ H2 ⟨rfl, r, rfl⟩
     walk_at "rd"
     refine ⟨by decide, sgn _ _ (by omega) (by omega) fun d => ⟨_, rfl, zd (by show _ + 1 ≤ _; omega), hP _ _ _ ⟨rfl, _, _, _, rfl, ?_⟩⟩⟩
     rw [PySem.Str.length_append]
     show _ + 1 = _
     omega
   ·rintro σ H' ⟨rfl, z, v, v', rfl, hz⟩
    walk_at "rd"
    exact q z (by omega)
def zdh : Sp := fun vs H Q _ => ∃ (c : Int) (m : Nat), vs = [.int c, .int m] ∧ m ≤ 10 ∧ ∀ (r : Addr) (zs : List Str) (H' : Hp), zs.length = m → (∀ z ∈ zs, z.length ≤ 16) → H r = none → H' r = some (.lst (zs.map V.str)) → Same H H' → Q (.ref r) H'
theorem zb2 (F : Def K mg "_law_names" z4u ["_law_cell", "_law_many"]) (T : Txt K mg C_Council C_Down C_InTheWay C_Keeper C_NotFree C_OldNumber C_UnknownKeeper Pt__law_notes cd__law_notes) (G__law_name : Has P w K mg base 1 "_law_name" ["_law_cell", "_law_k"] (zc8)) : Has P w K mg base 2 "_law_names" ["_law_cell", "_law_many"] (zdh) := by
 refine F.ok zb1 (fun vs H Q E h => ?_) (fun f cdv A outer s H vs Q E hr h => ?_)
 ·obtain ⟨c, m, rfl, _⟩ := h
  rfl
 ·obtain ⟨c, m, rfl, hm, q⟩ := h
  have hu := hr.units0
  refine ⟨_, (zb (zk (z1v (x := "_law_k") (cap := ["_law_cell"]) (js := [0]) rfl ⟨rfl, by decide +kernel, by decide +kernel, rfl, zw rfl, by decide +kernel, ⟨⟨rfl, Or.inl rfl, rfl⟩, trivial⟩⟩ (z2k rfl T.b_range (z0 (pv 1) z6)) (fun _ _ _ _ => z32) (fun _ _ _ _ => (zo G__law_name (hr.mono (by decide)) rfl (z0 (pv 1) (z0 (pv 0) z6))))))), ?_⟩
  walk_at "rd"
  refine ⟨⟨by omega, by omega⟩, ?_⟩
  rw [Int.toNat_natCast]
  refine z2x (zd (by omega)) (fun i acc H' => H' = H ∧ ∃ zs : List Str, acc = zs.map V.str ∧ zs.length = i ∧ ∀ z ∈ zs, z.length ≤ 16) ⟨rfl, [], rfl, rfl, by simp⟩ ?_ ?_ ?_
  ·rintro i acc H' ⟨-, zs, rfl, rfl, -⟩
   rw [List.length_map]
   exact Nat.le_refl _
  ·rintro Nn i acc H' hN hi ⟨rfl, zs, rfl, hl, hz⟩
   walk_at "rd"
   refine ⟨c, i, by simp, by omega, fun z hz' => hN _ _ ⟨rfl, zs ++ [z], by simp, by simp [hl], ?_⟩⟩
   intro y hy
   rcases List.mem_append.mp hy with h | h
   ·exact hz y h
   ·have : y = z := by simpa using h
    rw [this]
    exact hz'
  ·rintro acc H' ⟨rfl, zs, rfl, hl, hz⟩ p hp
   exact q p zs _ hl hz hp z7 (Same.upd hp)
def zdi : Sp := fun vs H Q _ => ∃ (c w' : Int) (m : Nat), vs = [.int c, .int w', .int m] ∧ m ≤ 10 ∧ ∀ (r : Addr) (zs : List Str) (H' : Hp), zs.length = m → (∀ z ∈ zs, z.length ≤ 200) → H r = none → H' r = some (.lst (zs.map V.str)) → Same H H' → Q (.ref r) H'
theorem zb3 (F : Def K mg "_law_locks" z4v ["_law_cell", "_law_words", "_law_many"]) (T : Txt K mg C_Council C_Down C_InTheWay C_Keeper C_NotFree C_OldNumber C_UnknownKeeper Pt__law_notes cd__law_notes) (G__law_name : Has P w K mg base 1 "_law_name" ["_law_cell", "_law_k"] (zc8)) : Has P w K mg base 2 "_law_locks" ["_law_cell", "_law_words", "_law_many"] (zdi) := by
 refine F.ok sc__law_locks (fun vs H Q E h => ?_) (fun f cdv A outer s H vs Q E hr h => ?_)
 ·obtain ⟨c, w', m, rfl, _⟩ := h
  rfl
 ·obtain ⟨c, w', m, rfl, hm, q⟩ := h
  have hu := hr.units0
  refine ⟨_, (z9 (zi (i := 3) sc__law_locks.nd rfl (Or.inl rfl) (z1b z6))
   (z9 (zi (i := 4) sc__law_locks.nd rfl (Or.inl rfl) (ze z17 (pv 0) z4))
   (z9 (z2p PassesOwn.never rfl (z2k rfl T.b_range (z0 (pv 2) z6)) (z15 (i := 5) sc__law_locks.nd rfl (Or.inl rfl)) (z9 (zi (i := 6) sc__law_locks.nd rfl (Or.inl rfl) (zi1 zf3 z4))
   (z3p (zx (zm z19 (ze z11 (pv 0) z4) z4 (zl _)) (zb (zi (i := 6) sc__law_locks.nd rfl (Or.inl rfl) (ze z2q (pv 5) z4))) zn)
   (z3p (zx (zm z19 (ze z11 (pv 0) z4) z4 (zl _)) (zb (zi (i := 6) sc__law_locks.nd rfl (Or.inl rfl) (ze z2q (zg (zab rfl) rfl T.b_min (by decide +kernel) (z0 (pv 5) (z0 z4 z6))) z4))) zn)
   (z3p (zx (zm z19 (ze z11 (pv 0) z4) z4 (zl _)) (zb (zi (i := 6) sc__law_locks.nd rfl (Or.inl rfl) (ze z17 (ze z2q (pv 5) z4) z4))) zn)
   (z3p (zx (zm zds (ze z11 (pv 0) z4) z4 (zl _)) (z9 (zi (i := 6) sc__law_locks.nd rfl (Or.inl rfl) (ze z2q (ze z11 (pv 4) (ze z13 (pv 5) z4)) z4))
   (zb (zi (i := 4) sc__law_locks.nd rfl (Or.inl rfl) (ze z17 (pv 4) (ze z13 (pv 5) z4))))) zn)
   (z9 (zi (i := 7) sc__law_locks.nd rfl (Or.inl rfl) (zo G__law_name (hr.mono (by decide)) rfl (z0 (pv 1) (z0 (pv 5) z6))))
   (z3p (zx (PW.pt (z36 (zm zds (pv 6) z4 (zl _)) (z4i (zm z75 (z2f PySem.F.plainAttrs_str PySem.F.slot_str_count PySem.F.type_str_count zh6 (zh ix_list (pv 3) (pv 6) (fun _ _ => rfl)) (z0 zj z6)) z4 (zl _))))) (zb (zi (i := 7) sc__law_locks.nd rfl (Or.inl rfl) (ze z3h (ze z3h (zh ix_list (pv 3) (pv 6) (fun _ _ => rfl)) zj) (pv 7)))) zn)
   (zb (z1h (z2f PySem.F.plainAttrs_list PySem.F.slot_list_append PySem.F.type_list_append z1t (pv 3) (z0 (pv 7) z6))))))))))))
   (zb (zk (pv 3)))))), ?_⟩
  walk_at "rd"
  refine ⟨by decide, fun p hp => ⟨cdiv (by decide) (by decide), ⟨by omega, by omega⟩, ?_⟩⟩
  rw [Int.toNat_natCast]
  let Inv := fun (i : Nat) (zs : List Str) (H' : Hp) => zs.length = i ∧ (∀ z ∈ zs, z.length ≤ 20 * i) ∧ H' p = some (.lst (zs.map V.str)) ∧ Same H H'
  refine z40 (fun i σ H' => ∃ (zs : List Str) (r : Int) (v5 v6 v7 : Option V), σ = [some (.int c), some (.int w'), some (.int m), some (.ref p), some (.int r), v5, v6, v7] ∧ Inv i zs H') ⟨[], _, _, _, _, rfl, rfl, (fun z hz => by cases hz), z7, Same.upd hp⟩ ?_ ?_
  ·rintro Pv hP i σ H' hi ⟨zs, r, v5, v6, v7, rfl, hI⟩
   walk_at "rd"
   refine z5u (fun σ H2 => H' = H2 ∧ ∃ (pa r : Int), -1 ≤ pa ∧ pa < i ∧ σ = [some (.int c), some (.int w'), some (.int m), some (.ref p), some (.int r), some (.int (0 + i)), some (.int pa), v7]) (fun Mid hM => ?_) ?_
   ·walk_at "rd"
    exact ⟨by decide, ite2 (fun _ => hM _ _ ⟨rfl, _, _, by omega, by omega, rfl⟩) (fun _ => hM _ _ ⟨rfl, _, _, by omega, by omega, rfl⟩)⟩
   rintro σ H2 ⟨rfl, pa, r, p1, p2, rfl⟩
   refine z5u (fun σ H2 => H' = H2 ∧ ∃ (pa r : Int), -1 ≤ pa ∧ pa < i ∧ σ = [some (.int c), some (.int w'), some (.int m), some (.ref p), some (.int r), some (.int (0 + i)), some (.int pa), v7]) (fun Mid hM => ?_) ?_
   ·walk_at "rd"
    refine ⟨by decide, ite2 (fun _ => ⟨_, _, ⟨rfl, rfl⟩, hM _ _ ⟨rfl, _, _, ?_, ?_, rfl⟩⟩) (fun _ => hM _ _ ⟨rfl, _, _, p1, p2, rfl⟩)⟩ <;> (split <;> omega)
   rintro σ H2 ⟨rfl, pa, r, p1, p2, rfl⟩
   refine z5u (fun σ H2 => H' = H2 ∧ ∃ (pa r : Int), -1 ≤ pa ∧ pa < i ∧ σ = [some (.int c), some (.int w'), some (.int m), some (.ref p), some (.int r), some (.int (0 + i)), some (.int pa), v7]) (fun Mid hM => ?_) ?_
   ·walk_at "rd"
    exact ⟨by decide, ite2 (fun _ => ⟨cdiv (by decide) (by decide), hM _ _ ⟨rfl, _, _, by omega, by omega, rfl⟩⟩) (fun _ => hM _ _ ⟨rfl, _, _, p1, p2, rfl⟩)⟩
   rintro σ H2 ⟨rfl, pa, r, p1, p2, rfl⟩
   refine z5u (fun σ H2 => H' = H2 ∧ ∃ (pa r : Int), -1 ≤ pa ∧ pa < i ∧ σ = [some (.int c), some (.int w'), some (.int m), some (.ref p), some (.int r), some (.int (0 + i)), some (.int pa), v7]) (fun Mid hM => ?_) ?_
   ·walk_at "rd"
    have b1 := Int.emod_nonneg r (b := 0 + (i : Int) + 1) (by omega)
    have b2 := Int.emod_lt_of_pos r (b := 0 + (i : Int) + 1) (by omega)
    exact ⟨by decide, ite2 (fun _ => ⟨by omega, cdiv (by omega) (by omega), hM _ _ ⟨rfl, _, _, by omega, by omega, rfl⟩⟩) (fun _ => hM _ _ ⟨rfl, _, _, p1, p2, rfl⟩)⟩
   rintro σ H2 ⟨rfl, pa, r, p1, p2, rfl⟩
   obtain ⟨hl, hz, hg, hs⟩ := hI
   walk_at "rd"
   refine ⟨w', i, by simp, by omega, fun z hz16 => ?_⟩
   refine z5u (fun σ H2 => H' = H2 ∧ ∃ z : Str, z.length ≤ 20 * (i + 1) ∧ σ = [some (.int c), some (.int w'), some (.int m), some (.ref p), some (.int r), some (.int (0 + i)), some (.int pa), some (.str z)]) (fun Mid hM => ?_) ?_
   ·walk_at "rd"
    refine ite2 (fun h0 => ?_) (fun _ => hM _ _ ⟨rfl, z, by omega, rfl⟩)
    obtain ⟨n, rfl⟩ := Int.eq_ofNat_of_zero_le (of_decide_eq_true h0)
    have hn : n < zs.length := by omega
    have gn : (zs.map V.str)[n]? = some (.str zs[n]) := by rw [List.getElem?_map, List.getElem?_eq_getElem hn]; rfl
    have bn := hz _ (List.getElem_mem hn)
    have l1 : ("/" : Str).length = 1 := rfl
    refine ⟨_, _, _, _, rfl, rfl, SqL.of hg, zc gn, trivial, _, rfl, ite2 (fun _ => ?_) (fun _ => hM _ _ ⟨rfl, z, by omega, rfl⟩)⟩
    refine ⟨_, _, _, _, rfl, rfl, SqL.of hg, zc gn, _, rfl, zd (by omega), zd (by rw [PySem.Str.length_append]; omega), hM _ _ ⟨rfl, _, ?_, rfl⟩⟩
    rw [PySem.Str.length_append, PySem.Str.length_append]
    omega
   rintro σ H2 ⟨rfl, y, hy, rfl⟩
   walk_at "rd"
   refine ⟨.inl ⟨_, SqL.of hg⟩, _, _, _, rfl, rfl, hg, by rw [List.length_map]; exact z1l (by omega), hP _ _ _ ⟨zs ++ [y], _, _, _, _, rfl, by simp [hl], fun x hx => ?_, ?_, ?_⟩⟩
   ·rcases List.mem_append.mp hx with h | h
    ·have := hz x h
     omega
    ·have : x = y := by simpa using h
     rw [this]
     exact hy
   ·rw [z7, List.map_append]
    rfl
   ·intro b o e
    rw [z8 (za e hp)]
    exact hs b o e
  ·rintro σ H' ⟨zs, r, v5, v6, v7, rfl, hl, hz, hg, hs⟩
   walk_at "rd"
   exact q p zs H' hl (fun z h => by have := hz z h; omega) hp hg hs
def zep (a b : Str) : Bool := decide ((sp a).take (min (sp a).length (sp b).length) = (sp b).take (min (sp a).length (sp b).length))
def zgi : Sp := fun vs H Q _ => ∃ a b : Str, vs = [.str a, .str b] ∧ a.length ≤ 1000 ∧ b.length ≤ 1000 ∧ z50 H Q (.bl (zep a b))
theorem zca (F : Def K mg "_law_line" z58 ["_law_one", "_law_other"]) (T : Txt K mg C_Council C_Down C_InTheWay C_Keeper C_NotFree C_OldNumber C_UnknownKeeper Pt__law_notes cd__law_notes) : Has P w K mg base 1 "_law_line" ["_law_one", "_law_other"] (zgi) := by
 refine F.ok sc__law_line (fun vs H Q E h => ?_) (fun f cdv A outer s H vs Q E hr h => ?_)
 ·obtain ⟨a, b, rfl, _⟩ := h
  rfl
 ·obtain ⟨a, b, rfl, ha, hb, k⟩ := h
  have hu := hr.units0
  refine ⟨_, (z9 (zi (i := 2) sc__law_line.nd rfl (Or.inl rfl) (z2f PySem.F.plainAttrs_str PySem.F.slot_str_split PySem.F.type_str_split z5t (pv 0) (z0 zj z6)))
   (z9 (zi (i := 3) sc__law_line.nd rfl (Or.inl rfl) (z2f PySem.F.plainAttrs_str PySem.F.slot_str_split PySem.F.type_str_split z5t (pv 1) (z0 zj z6)))
   (z9 (zi (i := 4) sc__law_line.nd rfl (Or.inl rfl) (zg (zab rfl) rfl T.b_min (by decide +kernel) (z0 (zg zp rfl T.b_len (by decide +kernel) (z0 (pv 2) z6)) (z0 (zg zp rfl T.b_len (by decide +kernel) (z0 (pv 3) z6)) z6))))
   (zb (zk (z1d (zfh hu) (z4n z9g (pv 2) z5f (z5g (pv 4))) (z4n z9g (pv 3) z5f (z5g (pv 4))) (zl _))))))), ?_⟩
  walk_at "rd"
  refine z78 rfl (by omega) fun p hp => z78 rfl (by omega) fun q hq => ?_
  have npq : p ≠ q := za z7 hq
  have gp : (upd (upd H p (.lst ((Txt.split a "/").map V.str))) q (.lst ((Txt.split b "/").map V.str))) p = some (.lst ((Txt.split a "/").map V.str)) := by rw [z8 npq, z7]
  refine ⟨_, rfl, _, .inl (SqL.of gp), _, rfl, _, .inl (SqL.of z7), _, _, ⟨rfl, rfl⟩, _, _, rfl, SqL.of gp, fun r hr' => ?_⟩
  have nr : ∀ b, b = p ∨ b = q → b ≠ r := fun b hb z => by
   subst z
   rcases hb with rfl | rfl
   ·rw [gp] at hr'; cases hr'
   ·rw [z7] at hr'; cases hr'
  have em : (if ((List.map V.str (Txt.split b "/")).length : Int) < ((List.map V.str (Txt.split a "/")).length : Int) then ((List.map V.str (Txt.split b "/")).length : Int) else ((List.map V.str (Txt.split a "/")).length : Int)) = ((min (sp a).length (sp b).length : Nat) : Int) := by
   rw [List.length_map, List.length_map]
   show (if ((sp b).length : Int) < ((sp a).length : Int) then ((sp b).length : Int) else ((sp a).length : Int)) = _
   split <;> omega
  rw [em]
  refine ⟨_, _, rfl, SqL.of (by rw [z8 (nr q (.inr rfl)), z7]), fun t ht => ?_⟩
  have nrt : r ≠ t := za z7 ht
  have c1 : cutV (List.map V.str (Txt.split a "/")) none (some ((min (sp a).length (sp b).length : Nat) : Int)) = ((sp a).take (min (sp a).length (sp b).length)).map V.str := by rw [z8n, ← List.map_take]; rfl
  have c2 : cutV (List.map V.str (Txt.split b "/")) none (some ((min (sp a).length (sp b).length : Nat) : Int)) = ((sp b).take (min (sp a).length (sp b).length)).map V.str := by rw [z8n, ← List.map_take]; rfl
  refine ⟨_, _, _, _, rfl, rfl, SqL.of (by rw [z8 nrt, z7]), SqL.of z7, by rw [c1]; exact z2h _, by rw [c2]; exact z2h _, ?_⟩
  have e : eqVs (cutV (List.map V.str (Txt.split a "/")) none (some ((min (sp a).length (sp b).length : Nat) : Int))) (cutV (List.map V.str (Txt.split b "/")) none (some ((min (sp a).length (sp b).length : Nat) : Int))) = zep a b := by
   rw [c1, c2, z5s]
   rfl
  show Q (.bl (eqVs _ _)) _
  rw [e]
  exact k _ ((((Same.upd hp).trans (Same.upd hq)).trans (Same.upd hr')).trans (Same.upd ht))
theorem zhk (a b : Str) : onl a b = onl b a := by unfold onl; rw [Bool.or_comm]
theorem zhl {α : Type} [DecidableEq α] (A B : List α) : (decide (A.take B.length = B) || decide (B.take A.length = A)) = decide (A.take (min A.length B.length) = B.take (min A.length B.length)) := by
 rw [Bool.eq_iff_iff]
 simp only [Bool.or_eq_true, decide_eq_true_eq]
 constructor
 ·rintro (h | h)
  ·have hl : B.length ≤ A.length := by have := congrArg List.length h; rw [List.length_take] at this; omega
   rw [Nat.min_eq_right hl, h, List.take_length]
  ·have hl : A.length ≤ B.length := by have := congrArg List.length h; rw [List.length_take] at this; omega
   rw [Nat.min_eq_left hl, h, List.take_length]
 ·intro h
  by_cases hl : B.length ≤ A.length
  ·rw [Nat.min_eq_right hl, List.take_length] at h
   exact .inl h
  ·rw [Nat.min_eq_left (by omega), List.take_length] at h
   exact .inr h.symm
theorem zj1 (a b : Str) : onl a b = zep a b := zhl (sp a) (sp b)
def zgj : Sp := fun vs H Q _ => ∃ (a b : Str) (x y : Bool), vs = [.str a, .bl x, .str b, .bl y] ∧ a.length ≤ 1000 ∧ b.length ≤ 1000 ∧ z50 H Q (.bl (onl a b && !(x && y)))
theorem zcx (F : Def K mg "_law_way" z5w ["_law_lock", "_law_shared", "_law_other", "_law_other_shared"]) (T : Txt K mg C_Council C_Down C_InTheWay C_Keeper C_NotFree C_OldNumber C_UnknownKeeper Pt__law_notes cd__law_notes) (G__law_line : Has P w K mg base 1 "_law_line" ["_law_one", "_law_other"] (zgi)) : Has P w K mg base 2 "_law_way" ["_law_lock", "_law_shared", "_law_other", "_law_other_shared"] (zgj) := by
  refine F.ok zcu (fun vs H Q E h => ?_) (fun f cdv A outer s H vs Q E hr h => ?_)
  · obtain ⟨a, b, x, y, rfl, _⟩ := h
    rfl
  · obtain ⟨a, b, x, y, rfl, ha, hb, q⟩ := h
    have hu := hr.units0
    refine ⟨_, (zb (zk (z25 (zbc (z25 (pv 1) (z1z (pv 3)))) (z1z (zo G__law_line (hr.mono (by decide)) rfl (z0 (pv 0) (z0 (pv 2) z6))))))), ?_⟩
    walk_at "rd"
    have e := zj1 a b
    cases x <;> cases y <;> simp only [Bool.not_true, Bool.not_false, if_true, if_false, Bool.false_eq_true] <;>
    first
    | (refine ⟨a, b, rfl, ha, hb, fun H' s' => ?_⟩
       have := q H' s'
       rw [e] at this
       simpa using this)
    | (have := q H (Same.refl _)
       simpa using this)
def z7c (v : V) : Prop := (∃ i, v = .int i) ∨ (∃ z, v = .str z) ∨ (∃ b, v = .bl b)
def Alike (H : Hp) : Nat → V → V → Prop
 | 0, v, v' => v = v' ∧ z7c v
 | n + 1, v, v' => (v = v' ∧ z7c v) ∨ ∃ (a b : Addr) (xs ys : List V), v = .ref a ∧ v' = .ref b ∧ ((H a = some (.lst xs) ∧ H b = some (.lst ys)) ∨ (H a = some (.tup xs) ∧ H b = some (.tup ys))) ∧ xs.length = ys.length ∧ xs.length ≤ 1000 ∧
   ∀ (i : Nat) (x y : V), xs[i]? = some x → ys[i]? = some y → Alike H n x y
theorem Alike.mono {H H' : Hp} (s : Same H H') : ∀ {n : Nat} {v v' : V}, Alike H n v v' → Alike H' n v v'
 | 0, _, _, h => h
 | n + 1, _, _, .inl h => .inl h
 | n + 1, _, _, .inr ⟨a, b, xs, ys, e1, e2, h, hl, hz, k⟩ => .inr ⟨a, b, xs, ys, e1, e2, h.elim (fun z => .inl ⟨s _ _ z.1, s _ _ z.2⟩) (fun z => .inr ⟨s _ _ z.1, s _ _ z.2⟩), hl, hz, fun i x y hx hy => Alike.mono s (k i x y hx hy)⟩
theorem Alike.up {H : Hp} : ∀ {n : Nat} {v v' : V}, Alike H n v v' → Alike H (n + 1) v v'
 | 0, _, _, h => .inl h
 | n + 1, _, _, .inl h => .inl h
 | n + 1, _, _, .inr ⟨a, b, xs, ys, e1, e2, h, hl, hz, k⟩ => .inr ⟨a, b, xs, ys, e1, e2, h, hl, hz, fun i x y hx hy => (k i x y hx hy).up⟩
def z2j (n : Nat) : Sp := fun vs H Q _ => ∃ v v', vs = [v, v'] ∧ Alike H n v v' ∧ z50 H Q (.bl true)
theorem zhm (F : Def K mg "_law_same" z2d ["_law_found", "_law_due"]) (T : Txt K mg C_Council C_Down C_InTheWay C_Keeper C_NotFree C_OldNumber C_UnknownKeeper Pt__law_notes cd__law_notes) (G__law_same : Has P w K mg base 0 "_law_same" ["_law_found", "_law_due"] (zdb)) : Has P w K mg base 1 "_law_same" ["_law_found", "_law_due"] (z2j 0) := by
 refine F.ok z6x (fun vs H Q E h => ?_) (fun f cdv A outer s H vs Q E hr h => ?_)
 ·obtain ⟨v, v', rfl, _⟩ := h
  rfl
 ·have hu := hr.units0
  obtain ⟨v, v', rfl, pv', q⟩ := h
  replace pv' : v = v' ∧ z7c v := pv'
  ·obtain ⟨rfl, pv'⟩ := pv'
   refine ⟨_, (z9 (zx (z1f (zg z6o rfl T.b_isinstance (by decide +kernel) (z0 (pv 1) (z0 (z1k (z0 (zr (v := .ty "list") rfl T.b_list (by decide +kernel) rfl) (z0 (zr (v := .ty "tuple") rfl T.b_tuple (by decide +kernel) rfl) z6))) z6)))) (z9 (zx (PW.pt (z8f (zm z2l (zg z10 rfl T.b_isinstance (by decide +kernel) (z0 (pv 0) (z0 (zr (v := .ty "list") rfl T.b_list (by decide +kernel) rfl) z6))) (zg z10 rfl T.b_isinstance (by decide +kernel) (z0 (pv 1) (z0 (zr (v := .ty "list") rfl T.b_list (by decide +kernel) rfl) z6))) (zl _)) (z6h (zm z2l (zg z10 rfl T.b_isinstance (by decide +kernel) (z0 (pv 0) (z0 (zr (v := .ty "tuple") rfl T.b_tuple (by decide +kernel) rfl) z6))) (zg z10 rfl T.b_isinstance (by decide +kernel) (z0 (pv 1) (z0 (zr (v := .ty "tuple") rfl T.b_tuple (by decide +kernel) rfl) z6))) (zl _))))) (zb (zk z24)) zn)
   (zb (zk (z25 (z1d z19 (zg zp rfl T.b_len (by decide +kernel) (z0 (pv 0) z6)) (zg zp rfl T.b_len (by decide +kernel) (z0 (pv 1) z6)) (zl _)) (z1z (zg (z54 rfl) rfl T.b_all (by decide +kernel) (z0 (z1v (x := "_law_k") (cap := ["_law_found", "_law_due"]) (js := [0, 1]) rfl ⟨rfl, by decide +kernel, by decide +kernel, rfl, zw rfl, by decide +kernel, ⟨⟨rfl, Or.inl rfl, rfl⟩, ⟨⟨rfl, Or.inl rfl, rfl⟩, trivial⟩⟩⟩ (z2k rfl T.b_range (z0 (zg zp rfl T.b_len (by decide +kernel) (z0 (pv 1) z6)) z6)) (fun _ _ _ _ => z32) (fun _ _ _ _ => (zo G__law_same (hr.mono (by decide)) rfl (z0 (zh (z3r (K := K)) (pv 1) (pv 0) (fun _ _ => rfl)) (z0 (zh (z3r (K := K)) (pv 2) (pv 0) (fun _ _ => rfl)) z6))))) z6))))))) zn)
   (z9 (zx (zm z2l (zg z10 rfl T.b_isinstance (by decide +kernel) (z0 (pv 0) (z0 (zr (v := .ty "bool") rfl T.b_bool (by decide +kernel) rfl) z6))) (zg z10 rfl T.b_isinstance (by decide +kernel) (z0 (pv 1) (z0 (zr (v := .ty "bool") rfl T.b_bool (by decide +kernel) rfl) z6))) (zl _)) (zb (zk z24)) zn)
   (z9 (zx (z1f (zg z10 rfl T.b_isinstance (by decide +kernel) (z0 (pv 1) (z0 (zr (v := .ty "int") rfl T.b_int (by decide +kernel) rfl) z6)))) (zb (zk (z25 (zg z10 rfl T.b_isinstance (by decide +kernel) (z0 (pv 0) (z0 (zr (v := .ty "int") rfl T.b_int (by decide +kernel) rfl) z6))) (z1z (z1d z19 (pv 0) (pv 1) (zl _)))))) zn)
   (zb (zk (z25 (zg z10 rfl T.b_isinstance (by decide +kernel) (z0 (pv 0) (z0 (zr (v := .ty "str") rfl T.b_str (by decide +kernel) rfl) z6))) (z1z (z1d z19 (pv 0) (pv 1) (zl _))))))))), ?_⟩
   walk_at "rd"
   refine ⟨zd (by decide), fun p hp => ?_⟩
   have s1 := q _ (Same.upd (o := .tup [V.ty "list", V.ty "tuple"]) hp)
   rcases pv' with ⟨i, rfl⟩ | ⟨z, rfl⟩ | ⟨b, rfl⟩
   ·refine ⟨_, _, ⟨rfl, rfl⟩, _, _, SqT.of z7, _, .int i, _, (z3g K).1, ?_⟩
    rw [if_neg Bool.false_ne_true]
    refine ⟨_, _, ⟨rfl, rfl⟩, _, .int i, _, z3j K, _, _, ⟨rfl, rfl⟩, _, .int i, _, z3j K, ?_⟩
    rw [if_neg (by decide)]
    refine ⟨_, _, ⟨rfl, rfl⟩, _, .int i, _, (z1c K).1, ?_⟩
    rw [if_pos rfl]
    refine ⟨_, _, ⟨rfl, rfl⟩, _, .int i, _, (z1c K).1, ?_⟩
    rw [if_pos rfl]
    exact ⟨rfl, by simpa using s1⟩
   ·refine ⟨_, _, ⟨rfl, rfl⟩, _, _, SqT.of z7, _, .str z, _, (z3g K).2.2.1, ?_⟩
    rw [if_neg Bool.false_ne_true]
    refine ⟨_, _, ⟨rfl, rfl⟩, _, .str z, _, (z1c K).2.2.2.2.2.1, _, _, ⟨rfl, rfl⟩, _, .str z, _, (z1c K).2.2.2.2.2.1, ?_⟩
    rw [if_neg (by decide)]
    refine ⟨_, _, ⟨rfl, rfl⟩, _, .str z, _, (z1c K).2.2.1, ?_⟩
    rw [if_neg Bool.false_ne_true]
    refine ⟨_, _, ⟨rfl, rfl⟩, _, .str z, _, (z1c K).2.2.2.1, ?_⟩
    rw [if_pos rfl]
    exact ⟨rfl, by simpa using s1⟩
   ·refine ⟨_, _, ⟨rfl, rfl⟩, _, _, SqT.of z7, _, .bl b, _, (z3g K).2.1, ?_⟩
    rw [if_neg Bool.false_ne_true]
    refine ⟨_, _, ⟨rfl, rfl⟩, _, .bl b, _, z3a K, _, _, ⟨rfl, rfl⟩, _, .bl b, _, z3a K, ?_⟩
    rw [if_neg (by decide)]
    refine ⟨_, _, ⟨rfl, rfl⟩, _, .bl b, _, (z1c K).2.1, ?_⟩
    rw [if_pos rfl]
    refine ⟨_, _, ⟨rfl, rfl⟩, _, .bl b, _, (z1c K).2.1, ?_⟩
    rw [if_pos rfl]
    exact ⟨rfl, by simpa using s1⟩
theorem z8b {n : Nat} (F : Def K mg "_law_same" z2d ["_law_found", "_law_due"]) (T : Txt K mg C_Council C_Down C_InTheWay C_Keeper C_NotFree C_OldNumber C_UnknownKeeper Pt__law_notes cd__law_notes) (G__law_same : Has P w K mg base (n + 1) "_law_same" ["_law_found", "_law_due"] (z2j n)) : Has P w K mg base (n + 1 + 1) "_law_same" ["_law_found", "_law_due"] (z2j (n + 1)) := by
 refine F.ok z6x (fun vs H Q E h => ?_) (fun f cdv A outer s H vs Q E hr h => ?_)
 ·obtain ⟨v, v', rfl, _⟩ := h
  rfl
 ·have hu := hr.units0
  obtain ⟨v, v', rfl, pv', q⟩ := h
  rcases pv' with pv' | ⟨a, b, xs, ys, rfl, rfl, hab, hlm, hz, kk⟩
  ·obtain ⟨rfl, pv'⟩ := pv'
   refine ⟨_, (z9 (zx (z1f (zg z6o rfl T.b_isinstance (by decide +kernel) (z0 (pv 1) (z0 (z1k (z0 (zr (v := .ty "list") rfl T.b_list (by decide +kernel) rfl) (z0 (zr (v := .ty "tuple") rfl T.b_tuple (by decide +kernel) rfl) z6))) z6)))) (z9 (zx (PW.pt (z8f (zm z2l (zg z10 rfl T.b_isinstance (by decide +kernel) (z0 (pv 0) (z0 (zr (v := .ty "list") rfl T.b_list (by decide +kernel) rfl) z6))) (zg z10 rfl T.b_isinstance (by decide +kernel) (z0 (pv 1) (z0 (zr (v := .ty "list") rfl T.b_list (by decide +kernel) rfl) z6))) (zl _)) (z6h (zm z2l (zg z10 rfl T.b_isinstance (by decide +kernel) (z0 (pv 0) (z0 (zr (v := .ty "tuple") rfl T.b_tuple (by decide +kernel) rfl) z6))) (zg z10 rfl T.b_isinstance (by decide +kernel) (z0 (pv 1) (z0 (zr (v := .ty "tuple") rfl T.b_tuple (by decide +kernel) rfl) z6))) (zl _))))) (zb (zk z24)) zn)
   (zb (zk (z25 (z1d z19 (zg zp rfl T.b_len (by decide +kernel) (z0 (pv 0) z6)) (zg zp rfl T.b_len (by decide +kernel) (z0 (pv 1) z6)) (zl _)) (z1z (zg (z54 rfl) rfl T.b_all (by decide +kernel) (z0 (z1v (x := "_law_k") (cap := ["_law_found", "_law_due"]) (js := [0, 1]) rfl ⟨rfl, by decide +kernel, by decide +kernel, rfl, zw rfl, by decide +kernel, ⟨⟨rfl, Or.inl rfl, rfl⟩, ⟨⟨rfl, Or.inl rfl, rfl⟩, trivial⟩⟩⟩ (z2k rfl T.b_range (z0 (zg zp rfl T.b_len (by decide +kernel) (z0 (pv 1) z6)) z6)) (fun _ _ _ _ => z32) (fun _ _ _ _ => (zo G__law_same (hr.mono (by omega)) rfl (z0 (zh (z3r (K := K)) (pv 1) (pv 0) (fun _ _ => rfl)) (z0 (zh (z3r (K := K)) (pv 2) (pv 0) (fun _ _ => rfl)) z6))))) z6))))))) zn)
   (z9 (zx (zm z2l (zg z10 rfl T.b_isinstance (by decide +kernel) (z0 (pv 0) (z0 (zr (v := .ty "bool") rfl T.b_bool (by decide +kernel) rfl) z6))) (zg z10 rfl T.b_isinstance (by decide +kernel) (z0 (pv 1) (z0 (zr (v := .ty "bool") rfl T.b_bool (by decide +kernel) rfl) z6))) (zl _)) (zb (zk z24)) zn)
   (z9 (zx (z1f (zg z10 rfl T.b_isinstance (by decide +kernel) (z0 (pv 1) (z0 (zr (v := .ty "int") rfl T.b_int (by decide +kernel) rfl) z6)))) (zb (zk (z25 (zg z10 rfl T.b_isinstance (by decide +kernel) (z0 (pv 0) (z0 (zr (v := .ty "int") rfl T.b_int (by decide +kernel) rfl) z6))) (z1z (z1d z19 (pv 0) (pv 1) (zl _)))))) zn)
   (zb (zk (z25 (zg z10 rfl T.b_isinstance (by decide +kernel) (z0 (pv 0) (z0 (zr (v := .ty "str") rfl T.b_str (by decide +kernel) rfl) z6))) (z1z (z1d z19 (pv 0) (pv 1) (zl _))))))))), ?_⟩
   walk_at "rd"
   refine ⟨zd (by decide), fun p hp => ?_⟩
   have s1 := q _ (Same.upd (o := .tup [V.ty "list", V.ty "tuple"]) hp)
   rcases pv' with ⟨i, rfl⟩ | ⟨z, rfl⟩ | ⟨b, rfl⟩
   ·refine ⟨_, _, ⟨rfl, rfl⟩, _, _, SqT.of z7, _, .int i, _, (z3g K).1, ?_⟩
    rw [if_neg Bool.false_ne_true]
    refine ⟨_, _, ⟨rfl, rfl⟩, _, .int i, _, z3j K, _, _, ⟨rfl, rfl⟩, _, .int i, _, z3j K, ?_⟩
    rw [if_neg (by decide)]
    refine ⟨_, _, ⟨rfl, rfl⟩, _, .int i, _, (z1c K).1, ?_⟩
    rw [if_pos rfl]
    refine ⟨_, _, ⟨rfl, rfl⟩, _, .int i, _, (z1c K).1, ?_⟩
    rw [if_pos rfl]
    exact ⟨rfl, by simpa using s1⟩
   ·refine ⟨_, _, ⟨rfl, rfl⟩, _, _, SqT.of z7, _, .str z, _, (z3g K).2.2.1, ?_⟩
    rw [if_neg Bool.false_ne_true]
    refine ⟨_, _, ⟨rfl, rfl⟩, _, .str z, _, (z1c K).2.2.2.2.2.1, _, _, ⟨rfl, rfl⟩, _, .str z, _, (z1c K).2.2.2.2.2.1, ?_⟩
    rw [if_neg (by decide)]
    refine ⟨_, _, ⟨rfl, rfl⟩, _, .str z, _, (z1c K).2.2.1, ?_⟩
    rw [if_neg Bool.false_ne_true]
    refine ⟨_, _, ⟨rfl, rfl⟩, _, .str z, _, (z1c K).2.2.2.1, ?_⟩
    rw [if_pos rfl]
    exact ⟨rfl, by simpa using s1⟩
   ·refine ⟨_, _, ⟨rfl, rfl⟩, _, _, SqT.of z7, _, .bl b, _, (z3g K).2.1, ?_⟩
    rw [if_neg Bool.false_ne_true]
    refine ⟨_, _, ⟨rfl, rfl⟩, _, .bl b, _, z3a K, _, _, ⟨rfl, rfl⟩, _, .bl b, _, z3a K, ?_⟩
    rw [if_neg (by decide)]
    refine ⟨_, _, ⟨rfl, rfl⟩, _, .bl b, _, (z1c K).2.1, ?_⟩
    rw [if_pos rfl]
    refine ⟨_, _, ⟨rfl, rfl⟩, _, .bl b, _, (z1c K).2.1, ?_⟩
    rw [if_pos rfl]
    exact ⟨rfl, by simpa using s1⟩
  ·skip
   refine ⟨_, (z9 (zx (z1f (zg z6o rfl T.b_isinstance (by decide +kernel) (z0 (pv 1) (z0 (z1k (z0 (zr (v := .ty "list") rfl T.b_list (by decide +kernel) rfl) (z0 (zr (v := .ty "tuple") rfl T.b_tuple (by decide +kernel) rfl) z6))) z6)))) (z9 (zx (PW.pt (z8f (zm z2l (zg z10 rfl T.b_isinstance (by decide +kernel) (z0 (pv 0) (z0 (zr (v := .ty "list") rfl T.b_list (by decide +kernel) rfl) z6))) (zg z10 rfl T.b_isinstance (by decide +kernel) (z0 (pv 1) (z0 (zr (v := .ty "list") rfl T.b_list (by decide +kernel) rfl) z6))) (zl _)) (z6h (zm z2l (zg z10 rfl T.b_isinstance (by decide +kernel) (z0 (pv 0) (z0 (zr (v := .ty "tuple") rfl T.b_tuple (by decide +kernel) rfl) z6))) (zg z10 rfl T.b_isinstance (by decide +kernel) (z0 (pv 1) (z0 (zr (v := .ty "tuple") rfl T.b_tuple (by decide +kernel) rfl) z6))) (zl _))))) (zb (zk z24)) zn)
   (zb (zk (z25 (z1d z19 (zg zp rfl T.b_len (by decide +kernel) (z0 (pv 0) z6)) (zg zp rfl T.b_len (by decide +kernel) (z0 (pv 1) z6)) (zl _)) (z1z (zg (z54 rfl) rfl T.b_all (by decide +kernel) (z0 (z1v (x := "_law_k") (cap := ["_law_found", "_law_due"]) (js := [0, 1]) rfl ⟨rfl, by decide +kernel, by decide +kernel, rfl, zw rfl, by decide +kernel, ⟨⟨rfl, Or.inl rfl, rfl⟩, ⟨⟨rfl, Or.inl rfl, rfl⟩, trivial⟩⟩⟩ (z2k rfl T.b_range (z0 (zg zp rfl T.b_len (by decide +kernel) (z0 (pv 1) z6)) z6)) (fun _ _ _ _ => z32) (fun _ _ _ _ => (zo G__law_same (hr.mono (by omega)) rfl (z0 (zh (z3r (K := K)) (pv 1) (pv 0) (fun _ _ => rfl)) (z0 (zh (z3r (K := K)) (pv 2) (pv 0) (fun _ _ => rfl)) z6))))) z6))))))) zn)
   (z9 (zx (zm z2l (zg z10 rfl T.b_isinstance (by decide +kernel) (z0 (pv 0) (z0 (zr (v := .ty "bool") rfl T.b_bool (by decide +kernel) rfl) z6))) (zg z10 rfl T.b_isinstance (by decide +kernel) (z0 (pv 1) (z0 (zr (v := .ty "bool") rfl T.b_bool (by decide +kernel) rfl) z6))) (zl _)) (zb (zk z24)) zn)
   (z9 (zx (z1f (zg z10 rfl T.b_isinstance (by decide +kernel) (z0 (pv 1) (z0 (zr (v := .ty "int") rfl T.b_int (by decide +kernel) rfl) z6)))) (zb (zk (z25 (zg z10 rfl T.b_isinstance (by decide +kernel) (z0 (pv 0) (z0 (zr (v := .ty "int") rfl T.b_int (by decide +kernel) rfl) z6))) (z1z (z1d z19 (pv 0) (pv 1) (zl _)))))) zn)
   (zb (zk (z25 (zg z10 rfl T.b_isinstance (by decide +kernel) (z0 (pv 0) (z0 (zr (v := .ty "str") rfl T.b_str (by decide +kernel) rfl) z6))) (z1z (z1d z19 (pv 0) (pv 1) (zl _))))))))), ?_⟩
   walk_at "rd"
   refine ⟨zd (by decide), fun p hp => ?_⟩
   have s1 := Same.upd (o := .tup [V.ty "list", V.ty "tuple"]) hp
   rcases hab with ⟨ha, hb⟩ | ⟨ha, hb⟩
   ·have ha1 := s1 _ _ ha
    have hb1 := s1 _ _ hb
    refine ⟨_, _, ⟨rfl, rfl⟩, _, _, SqT.of z7, _, .lst hb1, _, (z3g K).2.2.2.1, ?_⟩
    rw [if_pos rfl]
    refine ⟨_, _, ⟨rfl, rfl⟩, _, .lst ha1, _, z6a K, _, _, ⟨rfl, rfl⟩, _, .lst hb1, _, z6a K, ?_⟩
    rw [if_neg (by decide)]
    refine ⟨_, _, ⟨rfl, rfl⟩, _, .lst ha1, _, (z1c K).2.2.2.2.2.2.2.2, _, _, ⟨rfl, rfl⟩, _, .lst hb1, _, (z1c K).2.2.2.2.2.2.2.2, ?_⟩
    rw [if_neg (by decide)]
    refine ⟨xs, .inl (SqL.of ha1), ys, .inl (SqL.of hb1), ?_⟩
    rw [if_pos (by rw [hlm]; simp)]
    refine ⟨ys, .inl (SqL.of hb1), ⟨by omega, by omega⟩, ?_⟩
    rw [Int.toNat_natCast, ← hlm]
    refine z2x (zd (by omega)) (fun i acc H' => acc = (List.replicate i true).map V.bl ∧ Same (upd H p (.tup [V.ty "list", V.ty "tuple"])) H') ⟨rfl, Same.refl _⟩ ?_ ?_ ?_
    ·rintro i acc H' ⟨rfl, -⟩
     simp
    ·rintro Nn i acc H' hN hi ⟨rfl, s2⟩
     walk_at "rd"
     have ei : ((0 : Int) + (i : Int)) = (i : Int) := by omega
     rw [ei]
     have gx : xs[i]? = some xs[i] := List.getElem?_eq_getElem hi
     have gy : ys[i]? = some (ys[i]'(by omega)) := List.getElem?_eq_getElem (by omega)
     refine (.inl ⟨_, _, _, _, rfl, rfl, SqL.of (s2 _ _ ha1), zc gx, ?_⟩)
     refine (.inl ⟨_, _, _, _, rfl, rfl, SqL.of (s2 _ _ hb1), zc gy, ?_⟩)
     refine ⟨_, _, rfl, (kk i _ _ gx gy).mono (s1.trans s2), fun H3 s3 => hN _ _ ⟨?_, s2.trans s3⟩⟩
     rw [List.replicate_succ', List.map_append]
     rfl
    ·rintro acc H' ⟨rfl, s2⟩ r hr'
     refine ⟨_, rfl, _, SqL.of z7, ?_⟩
     have e : (List.replicate xs.length true).all id = true := by simp
     rw [e]
     exact q _ ((s1.trans s2).trans (Same.upd hr'))
   ·have ha1 := s1 _ _ ha
    have hb1 := s1 _ _ hb
    refine ⟨_, _, ⟨rfl, rfl⟩, _, _, SqT.of z7, _, .tup hb1, _, (z3g K).2.2.2.2, ?_⟩
    rw [if_pos rfl]
    refine ⟨_, _, ⟨rfl, rfl⟩, _, .tup ha1, _, (z1c K).2.2.2.2.2.2.2.1, _, _, ⟨rfl, rfl⟩, _, .tup hb1, _, (z1c K).2.2.2.2.2.2.2.1, ?_⟩
    rw [if_neg (by decide)]
    refine ⟨_, _, ⟨rfl, rfl⟩, _, .tup ha1, _, (z1c K).2.2.2.2.2.2.1, _, _, ⟨rfl, rfl⟩, _, .tup hb1, _, (z1c K).2.2.2.2.2.2.1, ?_⟩
    rw [if_neg (by decide)]
    refine ⟨xs, .inr (SqT.of ha1), ys, .inr (SqT.of hb1), ?_⟩
    rw [if_pos (by rw [hlm]; simp)]
    refine ⟨ys, .inr (SqT.of hb1), ⟨by omega, by omega⟩, ?_⟩
    rw [Int.toNat_natCast, ← hlm]
    refine z2x (zd (by omega)) (fun i acc H' => acc = (List.replicate i true).map V.bl ∧ Same (upd H p (.tup [V.ty "list", V.ty "tuple"])) H') ⟨rfl, Same.refl _⟩ ?_ ?_ ?_
    ·rintro i acc H' ⟨rfl, -⟩
     simp
    ·rintro Nn i acc H' hN hi ⟨rfl, s2⟩
     walk_at "rd"
     have ei : ((0 : Int) + (i : Int)) = (i : Int) := by omega
     rw [ei]
     have gx : xs[i]? = some xs[i] := List.getElem?_eq_getElem hi
     have gy : ys[i]? = some (ys[i]'(by omega)) := List.getElem?_eq_getElem (by omega)
     refine (.inr (.inl ⟨_, _, _, _, rfl, rfl, SqT.of (s2 _ _ ha1), zc gx, ?_⟩))
     refine (.inr (.inl ⟨_, _, _, _, rfl, rfl, SqT.of (s2 _ _ hb1), zc gy, ?_⟩))
     refine ⟨_, _, rfl, (kk i _ _ gx gy).mono (s1.trans s2), fun H3 s3 => hN _ _ ⟨?_, s2.trans s3⟩⟩
     rw [List.replicate_succ', List.map_append]
     rfl
    ·rintro acc H' ⟨rfl, s2⟩ r hr'
     refine ⟨_, rfl, _, SqL.of z7, ?_⟩
     have e : (List.replicate xs.length true).all id = true := by simp
     rw [e]
     exact q _ ((s1.trans s2).trans (Same.upd hr'))
theorem zhn (F : Def K mg "_law_same" z2d ["_law_found", "_law_due"]) (T : Txt K mg C_Council C_Down C_InTheWay C_Keeper C_NotFree C_OldNumber C_UnknownKeeper Pt__law_notes cd__law_notes) (G__law_same : Has P w K mg base 2 "_law_same" ["_law_found", "_law_due"] (z2j 1)) : Has P w K mg base 3 "_law_same" ["_law_found", "_law_due"] (z2j 2) := z8b F T G__law_same
theorem zho (F : Def K mg "_law_same" z2d ["_law_found", "_law_due"]) (T : Txt K mg C_Council C_Down C_InTheWay C_Keeper C_NotFree C_OldNumber C_UnknownKeeper Pt__law_notes cd__law_notes) (G__law_same : Has P w K mg base 3 "_law_same" ["_law_found", "_law_due"] (z2j 2)) : Has P w K mg base 4 "_law_same" ["_law_found", "_law_due"] (z2j 3) := z8b F T G__law_same
def zgk : Sp := fun vs H Q _ => ∃ (c : Int) (p : Addr) (zs : List Str), vs = [.int c, .ref p] ∧ H p = some (.lst (zs.map V.str)) ∧ zs.length ≤ 10 ∧ ∀ (r : Addr) (ys : List Str) (H' : Hp), ys.length ≤ 10 → (∀ y ∈ ys, y ∈ zs) → H r = none → H' r = some (.lst (ys.map V.str)) → Same H H' → Q (.ref r) H'
theorem zcb (F : Def K mg "_law_some" z57 ["_law_cell", "_law_names_here"]) (T : Txt K mg C_Council C_Down C_InTheWay C_Keeper C_NotFree C_OldNumber C_UnknownKeeper Pt__law_notes cd__law_notes) : Has P w K mg base 1 "_law_some" ["_law_cell", "_law_names_here"] (zgk) := by
 refine F.ok sc__law_some (fun vs H Q E h => ?_) (fun f cdv A outer s H vs Q E hr h => ?_)
 ·obtain ⟨c, p, zs, rfl, _⟩ := h
  rfl
 ·obtain ⟨c, p, zs, rfl, hp, hl, q⟩ := h
  refine ⟨_, (z9 (zi (i := 2) sc__law_some.nd rfl (Or.inl rfl) (z1b z6))
   (z9 (zi (i := 3) sc__law_some.nd rfl (Or.inl rfl) (pv 0))
   (z9 (z2p PassesOwn.never rfl (z18 (pv 1)) (z15 (i := 4) sc__law_some.nd rfl (Or.inl rfl)) (z3p (zx (zm z19 (ze z11 (pv 3) z4) z4 (zl _)) (zb (z1h (z2f PySem.F.plainAttrs_list PySem.F.slot_list_append PySem.F.type_list_append z1t (pv 2) (z0 (pv 4) z6)))) zn)
   (zb (zi (i := 3) sc__law_some.nd rfl (Or.inl rfl) (ze z17 (pv 3) z4)))))
   (zb (zk (pv 2)))))), ?_⟩
  walk_at "rd"
  refine ⟨Nat.zero_le _, fun r hr0 => ⟨⟨_, SqL.of (Same.upd hr0 _ _ hp)⟩, ?_⟩⟩
  have npr : p ≠ r := za hp hr0
  refine z27 (xs := zs.map V.str) (fun i σ H' => ∃ (c' : Int) (v4 : Option V) (ys : List Str), σ = [some (V.int c), some (V.ref p), some (V.ref r), some (V.int c'), v4] ∧ ys.length ≤ i ∧ (∀ y ∈ ys, y ∈ zs) ∧ H' r = some (.lst (ys.map V.str)) ∧ Same H H') ⟨c, _, [], rfl, Nat.le_refl _, (fun y hy => by cases hy), z7, Same.upd hr0⟩ ?_ ?_ ?_
  ·rintro i σ H' - ⟨c', v4, ys, rfl, -, -, -, s1⟩
   exact SqL.of (s1 _ _ hp)
  ·rintro Pv hP i x σ H' hx ⟨c', v4, ys, rfl, ly, my, gr, s1⟩
   rw [List.getElem?_map] at hx
   cases e : zs[i]? with
   | none => rw [e] at hx; cases hx
   | some z =>
   rw [e] at hx
   cases hx
   walk_at "rd"
   have mz := List.mem_of_getElem? e
   have il : i < zs.length := (List.getElem?_eq_some_iff.mp e).1
   refine z5u (fun σ H2 => ∃ ys : List Str, σ = [some (V.int c), some (V.ref p), some (V.ref r), some (V.int c'), some (V.str z)] ∧ ys.length ≤ i + 1 ∧ (∀ y ∈ ys, y ∈ zs) ∧ H2 r = some (.lst (ys.map V.str)) ∧ Same H H2) (fun Mid hM => ?_) ?_
   ·walk_at "rd"
    refine ⟨by decide, ite2 (fun _ => ?_) (fun _ => hM _ _ ⟨ys, rfl, by omega, my, gr, s1⟩)⟩
    refine ⟨.inl ⟨_, SqL.of gr⟩, _, _, _, rfl, rfl, gr, z1l (by rw [List.length_map]; omega), hM _ _ ⟨ys ++ [z], rfl, by rw [List.length_append]; show _ + 1 ≤ _; omega, fun y hy => ?_, by rw [z7]; simp, fun b o hb => ?_⟩⟩
    ·rcases List.mem_append.mp hy with hy | hy
     ·exact my y hy
     ·rw [List.mem_singleton.mp hy]; exact mz
    ·rw [z8 (za hb hr0)]; exact s1 _ _ hb
   ·rintro σ H2 ⟨ys, rfl, ly, my, gr, s1⟩
    walk_at "rd"
    exact ⟨cdiv (by decide) (by decide), hP _ _ _ ⟨_, _, ys, rfl, ly, my, gr, s1⟩⟩
  ·rintro σ H' ⟨c', v4, ys, rfl, ly, my, gr, s1⟩
   walk_at "rd"
   rw [List.length_map] at ly
   exact q r ys H' (by omega) my hr0 gr s1
structure Su where
 n : Nat
 ph : Addr
 pl : Addr
 pc : Addr
 pt : Addr
 hs : List Str
 lks : List Str
 shs : List Str
 sts : List Str
structure SuAt (H : Hp) (a : Addr) (u : Su) : Prop where
 tu : H a = some (.tup [.int (u.n : Int), .ref u.ph, .ref u.pl, .ref u.pc, .ref u.pt])
 gh : H u.ph = some (.lst (u.hs.map V.str))
 gl : H u.pl = some (.lst (u.lks.map V.str))
 gc : H u.pc = some (.lst (u.shs.map V.str))
 gt : H u.pt = some (.lst (u.sts.map V.str))
structure Su.ok (u : Su) : Prop where
 n1 : 1 ≤ u.n
 n5 : u.n ≤ 5
 h1 : 1 ≤ u.hs.length
 h8 : u.hs.length ≤ 8
 l1 : 1 ≤ u.lks.length
 l10 : u.lks.length ≤ 10
 c10 : u.shs.length ≤ 10
 t4 : u.sts.length ≤ 4
 hl : ∀ z ∈ u.hs, z.length ≤ 16
 ll : ∀ z ∈ u.lks, z.length ≤ 200
theorem SuAt.mono {H H' : Hp} {a : Addr} {u : Su} (h : SuAt H a u) (s : Same H H') : SuAt H' a u := ⟨s _ _ h.tu, s _ _ h.gh, s _ _ h.gl, s _ _ h.gc, s _ _ h.gt⟩
def zdj (K : PySem.W.Frag) : Sp := fun vs H Q _ => ∃ (a : Addr) (ns : List Int), vs = [.ref a] ∧ SqL K H a (ns.map V.int) ∧ ns.length ≤ 63 ∧ ∀ (r : Addr) (u : Su) (H' : Hp), SuAt H' r u → u.ok → Same H H' → Q (.ref r) H'
theorem zb4 (F : Def K mg "_law_setup" z4w ["_law_script"]) (T : Txt K mg C_Council C_Down C_InTheWay C_Keeper C_NotFree C_OldNumber C_UnknownKeeper Pt__law_notes cd__law_notes) (G__law_at : Has P w K mg base 1 "_law_at" ["_law_script", "_law_k"] (spAt K)) (G__law_names : Has P w K mg base 2 "_law_names" ["_law_cell", "_law_many"] (zdh)) (G__law_locks : Has P w K mg base 2 "_law_locks" ["_law_cell", "_law_words", "_law_many"] (zdi)) (G__law_some : Has P w K mg base 1 "_law_some" ["_law_cell", "_law_names_here"] (zgk)) : Has P w K mg base 3 "_law_setup" ["_law_script"] (zdj K) := by
 refine F.ok sc__law_setup (fun vs H Q E h => ?_) (fun f cdv A outer s H vs Q E hr h => ?_)
 ·obtain ⟨a, ns, rfl, _⟩ := h
  rfl
 ·obtain ⟨a, ns, rfl, ha, hns, q⟩ := h
  have hu := hr.units0
  refine ⟨_, (z9 (zi (i := 1) sc__law_setup.nd rfl (Or.inl rfl) (ze z13 z4 (ze z11 (zo G__law_at (hr.mono (by decide)) rfl (z0 (pv 0) (z0 z4 z6))) z4)))
   (z9 (zi (i := 2) sc__law_setup.nd rfl (Or.inl rfl) (zo G__law_names (hr.mono (by decide)) rfl (z0 (ze z17 (zo G__law_at (hr.mono (by decide)) rfl (z0 (pv 0) (z0 z4 z6))) z4) (z0 (ze z13 z4 (ze z11 (ze z13 (zo G__law_at (hr.mono (by decide)) rfl (z0 (pv 0) (z0 z4 z6))) z4) z4)) z6))))
   (z9 (zi (i := 3) sc__law_setup.nd rfl (Or.inl rfl) (zo G__law_locks (hr.mono (by decide)) rfl (z0 (zo G__law_at (hr.mono (by decide)) rfl (z0 (pv 0) (z0 z4 z6))) (z0 (ze z17 (zo G__law_at (hr.mono (by decide)) rfl (z0 (pv 0) (z0 z4 z6))) z4) (z0 (ze z13 z4 (ze z11 (ze z13 (zo G__law_at (hr.mono (by decide)) rfl (z0 (pv 0) (z0 z4 z6))) z4) z4)) z6)))))
   (z9 (zi (i := 4) sc__law_setup.nd rfl (Or.inl rfl) (zo G__law_some (hr.mono (by decide)) rfl (z0 (ze z2q (ze z17 (zo G__law_at (hr.mono (by decide)) rfl (z0 (pv 0) (z0 z4 z6))) z4) z4) (z0 (pv 3) z6))))
   (z9 (zi (i := 5) sc__law_setup.nd rfl (Or.inl rfl) (zo G__law_names (hr.mono (by decide)) rfl (z0 (ze z17 (zo G__law_at (hr.mono (by decide)) rfl (z0 (pv 0) (z0 z4 z6))) z4) (z0 (zh ix_list (z1b (z0 z4 (z0 z4 (z0 z4 (z0 z4 (z0 z4 (z0 z4 (z0 z4 (z0 z4 z6))))))))) (ze z11 (zo G__law_at (hr.mono (by decide)) rfl (z0 (pv 0) (z0 z4 z6))) z4) (fun _ _ => rfl)) z6))))
   (zb (zk (z1k (z0 (pv 1) (z0 (pv 2) (z0 (pv 3) (z0 (pv 4) (z0 (pv 5) z6))))))))))))), ?_⟩
  walk_at "rd"
  refine ⟨a, ns, 0, rfl, ha, by omega, _, rfl, by decide, ?_⟩
  obtain ⟨n, en⟩ := Int.eq_ofNat_of_zero_le (show 0 ≤ 1 + ns.getD 0 0 % 5 by omega)
  rw [en]
  refine ⟨a, ns, 0, rfl, ha, by omega, _, rfl, cdiv (by decide) (by decide), a, ns, 1, rfl, ha, by omega, _, rfl, by decide, ?_⟩
  obtain ⟨m, em⟩ := Int.eq_ofNat_of_zero_le (show 0 ≤ 1 + (ns.getD 1 0 + 2) % 8 by omega)
  rw [em]
  refine ⟨_, m, rfl, by omega, fun ph hz H1 hl1 hN1 hp0 gh s1 => ?_⟩
  refine ⟨a, ns, 2, rfl, s1.seq ha, by omega, a, ns, 1, rfl, s1.seq ha, by omega, _, rfl, cdiv (by decide) (by decide), a, ns, 3, rfl, s1.seq ha, by omega, _, rfl, by decide, ?_⟩
  obtain ⟨m2, em2⟩ := Int.eq_ofNat_of_zero_le (show 0 ≤ 1 + (ns.getD 3 0 + 2) % 10 by omega)
  rw [em2]
  refine ⟨_, _, m2, rfl, by omega, fun pl lz H2 hl2 hN2 lp0 gl s2 => ?_⟩
  have s12 := s1.trans s2
  refine ⟨a, ns, 3, rfl, s12.seq ha, by omega, _, rfl, cdiv (by decide) (by decide), ?_⟩
  refine ⟨_, pl, lz, rfl, gl, by omega, fun pc cz H3 hl3 hN3 cp0 gc s3 => ?_⟩
  have s13 := s12.trans s3
  refine ⟨a, ns, 4, rfl, s13.seq ha, by omega, _, rfl, cdiv (by decide) (by decide), zd (by decide), fun p4 hp4 => ?_⟩
  have u4 := Same.upd (o := .lst [V.int 1, V.int 2, V.int 1, V.int 4, V.int 1, V.int 3, V.int 0, V.int 1]) hp4
  have g4 : upd H3 p4 (.lst [V.int 1, V.int 2, V.int 1, V.int 4, V.int 1, V.int 3, V.int 0, V.int 1]) p4 = some (.lst [V.int 1, V.int 2, V.int 1, V.int 4, V.int 1, V.int 3, V.int 0, V.int 1]) := z7
  generalize upd H3 p4 (.lst [V.int 1, V.int 2, V.int 1, V.int 4, V.int 1, V.int 3, V.int 0, V.int 1]) = H4 at u4 g4 ⊢
  refine ⟨a, ns, 4, rfl, (s13.trans u4).seq ha, by omega, _, rfl, by decide, ?_⟩
  obtain ⟨m3, em3, hm3⟩ : ∃ m3 : Nat, atI [V.int 1, V.int 2, V.int 1, V.int 4, V.int 1, V.int 3, V.int 0, V.int 1] (ns.getD 4 0 % 8) = some (V.int (m3 : Int)) ∧ m3 ≤ 4 := by
   rcases (show ns.getD 4 0 % 8 = 0 ∨ ns.getD 4 0 % 8 = 1 ∨ ns.getD 4 0 % 8 = 2 ∨ ns.getD 4 0 % 8 = 3 ∨ ns.getD 4 0 % 8 = 4 ∨ ns.getD 4 0 % 8 = 5 ∨ ns.getD 4 0 % 8 = 6 ∨ ns.getD 4 0 % 8 = 7 by omega) with e | e | e | e | e | e | e | e
   ·exact ⟨1, by rw [e]; exact zc (j := 0) rfl, by decide⟩
   ·exact ⟨2, by rw [e]; exact zc (j := 1) rfl, by decide⟩
   ·exact ⟨1, by rw [e]; exact zc (j := 2) rfl, by decide⟩
   ·exact ⟨4, by rw [e]; exact zc (j := 3) rfl, by decide⟩
   ·exact ⟨1, by rw [e]; exact zc (j := 4) rfl, by decide⟩
   ·exact ⟨3, by rw [e]; exact zc (j := 5) rfl, by decide⟩
   ·exact ⟨0, by rw [e]; exact zc (j := 6) rfl, by decide⟩
   ·exact ⟨1, by rw [e]; exact zc (j := 7) rfl, by decide⟩
  refine ⟨_, _, _, _, rfl, rfl, SqL.of g4, em3, ?_⟩
  refine ⟨_, m3, rfl, by omega, fun pt tz H5 hl5 hN5 tp0 gt s5 => ⟨zd (by decide), fun r hr0 => ?_⟩⟩
  have u6 := Same.upd (o := .tup [V.int (n : Int), V.ref ph, V.ref pl, V.ref pc, V.ref pt]) hr0
  have s45 := u4.trans s5
  exact q r ⟨n, ph, pl, pc, pt, hz, lz, cz, tz⟩ _ ⟨z7, u6 _ _ (s45 _ _ (s3 _ _ (s2 _ _ gh))), u6 _ _ (s45 _ _ (s3 _ _ gl)), u6 _ _ (s45 _ _ gc), u6 _ _ gt⟩ ⟨by show 1 ≤ n; omega, by show n ≤ 5; omega, by show 1 ≤ hz.length; omega, by show hz.length ≤ 8; omega, by show 1 ≤ lz.length; omega, by show lz.length ≤ 10; omega, hl3, by show tz.length ≤ 4; omega, hN1, hN2⟩ ((s13.trans s45).trans u6)
def za3 : Sp := fun vs H Q _ => ∃ (c k : Int) (a : Addr) (u : Su), vs = [.int c, .int k, .ref a] ∧ SuAt H a u ∧ u.ok ∧ ∀ (r : Addr) (hd lk : Str) (sh : Bool) (tm : Int) (H' : Hp), hd ∈ u.hs → lk ∈ u.lks → 1 ≤ tm → tm ≤ 1000 → H' r = some (.tup [.str "ask", .str hd, .str lk, .bl sh, .int tm]) → Same H H' → Q (.ref r) H'
theorem zcc {zs : List Str} (h : 1 ≤ zs.length) (i : Int) : ∃ z ∈ zs, atI (zs.map V.str) (i % (zs.length : Int)) = some (V.str z) := by
 have h0 : 0 ≤ i % (zs.length : Int) := Int.emod_nonneg _ (by omega)
 have h1 : i % (zs.length : Int) < (zs.length : Int) := Int.emod_lt_of_pos _ (by omega)
 obtain ⟨j, ej⟩ := Int.eq_ofNat_of_zero_le h0
 have hj : j < zs.length := by omega
 refine ⟨zs[j], List.getElem_mem hj, ?_⟩
 rw [ej]
 exact zc (by rw [List.getElem?_map, List.getElem?_eq_getElem hj]; rfl)
theorem zeq {X : Cx} {K : PySem.W.Frag} (hu : X.A.units < cLine) (h : X.K = K := by rfl) : OpR X (compareOp .Eq) (fun x y H Q => ∃ p q xs, x = .ref p ∧ y = .ref q ∧ SqL K H p xs ∧ SqL K H q [] ∧ Q (.bl xs.isEmpty) H) := h ▸ zbn hu
structure Nk where
 k : Nat
 x : Nt
def Nk.vals (q : Nk) : List V := [.int ((q.k : Int) + 1), .int q.x.n, .str q.x.h, .str q.x.l, .bl q.x.sh, .int q.x.e]
abbrev KL := List (Addr × Nk)
def refk (L : KL) : List V := L.map fun q => V.ref q.1
theorem z3e (L : KL) : (refk L).length = L.length := List.length_map _
theorem z65 {L : KL} {i : Nat} {x : V} (h : (refk L)[i]? = some x) : ∃ q, L[i]? = some q ∧ x = .ref q.1 := by
 unfold refk at h
 rw [List.getElem?_map] at h
 cases e : L[i]? with
 | none => rw [e] at h; cases h
 | some q => rw [e] at h; exact ⟨q, rfl, (Option.some.inj h).symm⟩
def KsAt (H : Hp) (L : KL) : Prop := ∀ q ∈ L, H q.1 = some (.tup q.2.vals)
def cyv (x : Nt) : List V := [.str x.h, .int x.n, .str x.l, .bl x.sh, .int x.e]
structure Sv where
 now : Int
 ps : Addr
 pu : Addr
 pt : Addr
 pn : Addr
 pr : Addr
 pc : Addr
 pk : Addr
 po : Addr
 pl : Addr
 us : List Bool
 ts : List Int
 N : KL
 C : NL
 lg : List V
def stw (S : Sv) : List (Key × V) := [(.inr "now", .int S.now), (.inr "setup", .ref S.ps), (.inr "ups", .ref S.pu), (.inr "tops", .ref S.pt), (.inr "notes", .ref S.pn), (.inr "row", .ref S.pr), (.inr "carry", .ref S.pc), (.inr "sleep", .ref S.pk), (.inr "took", .ref S.po), (.inr "log", .ref S.pl)]
section
variable {H : Hp} {d : Addr} {S : Sv}
theorem z53 {k : Key} {v : V} (e : H d = some (.dK (stw S))) (h : valV (stw S) k = some v) : DGet H d (kV k) (some v) := by
 have := DGet.k (k := k) e
 rwa [h] at this
theorem z29 (e : H d = some (.dK (stw S))) : DGet H d (.str "now") (some (.int S.now)) := z53 (k := .inr "now") e (by kernel_rfl)
theorem z8c (e : H d = some (.dK (stw S))) : DGet H d (.str "setup") (some (.ref S.ps)) := z53 (k := .inr "setup") e (by kernel_rfl)
theorem z95 (e : H d = some (.dK (stw S))) : DGet H d (.str "ups") (some (.ref S.pu)) := z53 (k := .inr "ups") e (by kernel_rfl)
theorem za4 (e : H d = some (.dK (stw S))) : DGet H d (.str "tops") (some (.ref S.pt)) := z53 (k := .inr "tops") e (by kernel_rfl)
theorem z66 (e : H d = some (.dK (stw S))) : DGet H d (.str "notes") (some (.ref S.pn)) := z53 (k := .inr "notes") e (by kernel_rfl)
theorem zjz (e : H d = some (.dK (stw S))) : DGet H d (.str "row") (some (.ref S.pr)) := z53 (k := .inr "row") e (by kernel_rfl)
theorem zcd (e : H d = some (.dK (stw S))) : DGet H d (.str "carry") (some (.ref S.pc)) := z53 (k := .inr "carry") e (by kernel_rfl)
theorem zgl (e : H d = some (.dK (stw S))) : DGet H d (.str "log") (some (.ref S.pl)) := z53 (k := .inr "log") e (by kernel_rfl)
theorem ten (S : Sv) : (stw S).length < sizeLine := z1l (by show 10 ≤ 1000; decide)
theorem z96 {k : Key} {v : V} {S' : Sv} (e : H d = some (.dK (stw S))) (h : putK (stw S) k v = stw S') : DPut H d (kV k) v (upd H d (.dK (stw S'))) := by
 have := DPut.k (k := k) (v := v) e (ten S)
 rwa [h] at this
theorem zer (e : H d = some (.dK (stw S))) (n : Int) : DPut H d (.str "now") (.int n) (upd H d (.dK (stw { S with now := n }))) := z96 (k := .inr "now") e (by kernel_rfl)
theorem z71 (e : H d = some (.dK (stw S))) (p : Addr) (N : KL) : DPut H d (.str "notes") (.ref p) (upd H d (.dK (stw { S with pn := p, N := N }))) := z96 (k := .inr "notes") e (by kernel_rfl)
theorem zes (e : H d = some (.dK (stw S))) (p : Addr) : DPut H d (.str "row") (.ref p) (upd H d (.dK (stw { S with pr := p }))) := z96 (k := .inr "row") e (by kernel_rfl)
theorem zce (e : H d = some (.dK (stw S))) (p : Addr) (C : NL) : DPut H d (.str "carry") (.ref p) (upd H d (.dK (stw { S with pc := p, C := C }))) := z96 (k := .inr "carry") e (by kernel_rfl)
end
def Sv.lists (S : Sv) : List Addr := [S.pu, S.pt, S.pn, S.pr, S.pc, S.pl]
def Su.lists (u : Su) : List Addr := [u.ph, u.pl, u.pc, u.pt]
structure StAt (H : Hp) (d : Addr) (S : Sv) (u : Su) : Prop where
 st : H d = some (.dK (stw S))
 su : SuAt H S.ps u
 gu : H S.pu = some (.lst (S.us.map V.bl))
 gt : H S.pt = some (.lst (S.ts.map V.int))
 gn : H S.pn = some (.lst (refk S.N))
 kn : KsAt H S.N
 gr : H S.pr = some (.lst [])
 gc : H S.pc = some (.lst (refs S.C))
 kc : ∀ q ∈ S.C, H q.1 = some (.tup (cyv q.2))
 gl : H S.pl = some (.lst S.lg)
 nd : S.lists.Nodup
 sd : ∀ p ∈ S.lists, p ∉ u.lists
theorem StAt.mono {H H' : Hp} {d : Addr} {S : Sv} {u : Su} (h : StAt H d S u) (s : Same H H') : StAt H' d S u :=
 ⟨s _ _ h.st, h.su.mono s, s _ _ h.gu, s _ _ h.gt, s _ _ h.gn, fun q hq => s _ _ (h.kn q hq), s _ _ h.gr, s _ _ h.gc, fun q hq => s _ _ (h.kc q hq), s _ _ h.gl, h.nd, h.sd⟩
theorem StAt.butK {CC CK : Addr} {H H' : Hp} {c l : Addr} {ks ls : List Addr} {ss : List KN} {d : Addr} {S : Sv} {u : Su} (h : StAt H d S u) (hc : CAt CC CK H c l ks ls ss) (s : ButK ks H H') : StAt H' d S u := by
 have st : ∀ b o, H b = some o → (∀ C dx fs, o ≠ .ins C dx fs) → H' b = some o := fun b o e no => s b o e fun hb => by
  obtain ⟨dx, fs, z⟩ := hc.mem hb
  rw [e] at z
  cases z
  exact no _ _ _ rfl
 have L : ∀ b xs, H b = some (.lst xs) → H' b = some (.lst xs) := fun b xs e => st b _ e fun _ _ _ z => by cases z
 have T : ∀ b xs, H b = some (.tup xs) → H' b = some (.tup xs) := fun b xs e => st b _ e fun _ _ _ z => by cases z
 exact ⟨st _ _ h.st (fun _ _ _ z => by cases z), ⟨T _ _ h.su.tu, L _ _ h.su.gh, L _ _ h.su.gl, L _ _ h.su.gc, L _ _ h.su.gt⟩, L _ _ h.gu, L _ _ h.gt, L _ _ h.gn, fun q hq => T _ _ (h.kn q hq), L _ _ h.gr, L _ _ h.gc, fun q hq => T _ _ (h.kc q hq), L _ _ h.gl, h.nd, h.sd⟩
abbrev own (d : Addr) (S : Sv) : List Addr := [d, S.pu, S.pt, S.pc, S.pl]
theorem zk0 (n : Nat) (b : Bool) : (List.replicate n [V.bl b]).flatten = (List.replicate n b).map V.bl := by
 induction n with
 | zero => rfl
 | succ n ih => rw [List.replicate_succ, List.flatten_cons, ih, List.replicate_succ, List.map_cons]; rfl
theorem zj2 (n : Nat) (b : Int) : (List.replicate n [V.int b]).flatten = (List.replicate n b).map V.int := by
 induction n with
 | zero => rfl
 | succ n ih => rw [List.replicate_succ, List.flatten_cons, ih, List.replicate_succ, List.map_cons]; rfl
def zic : Sp := fun vs H Q _ => ∃ (a : Addr) (u : Su), vs = [.ref a] ∧ SuAt H a u ∧ u.ok ∧ ∀ (d : Addr) (S : Sv) (H' : Hp), StAt H' d S u → S.ps = a → S.now = 0 → S.us = List.replicate u.n true → S.ts = List.replicate u.n 0 → S.N = [] → S.C = [] → S.lg = [] → H d = none → (∀ p ∈ S.lists, H p = none) → Same H H' → Q (.ref d) H'
theorem zj3 (y : Str) (zs : List Str) : inV (.str y) (zs.map V.str) = decide (y ∈ zs) := by
 induction zs with
 | nil => rfl
 | cons a zs ih =>
  show (eqV (.str a) (.str y) || inV (.str y) (zs.map V.str)) = _
  rw [ih]
  show ((a == y) || decide (y ∈ zs)) = _
  by_cases h : a = y
  ·subst h; simp
  ·have h' : ¬ y = a := fun z => h z.symm
   simp [h, h']
def upL (us : List Bool) : List Nat := (List.range us.length).filter fun j => us.getD j false
theorem z7d (us : List Bool) : (upL us).length ≤ us.length := Nat.le_trans (List.length_filter_le _ _) (by rw [List.length_range]; exact Nat.le_refl _)
theorem zet {p : Nat → Bool} (i : Nat) : (List.range (i + 1)).filter p = (List.range i).filter p ++ (if p i = true then [i] else []) := by
 rw [List.range_succ, List.filter_append]
 simp [List.filter_cons]
def z97 (K : PySem.W.Frag) : Sp := fun vs H Q _ => ∃ (d : Addr) (S : Sv) (u : Su), vs = [.ref d] ∧ StAt H d S u ∧ u.ok ∧ S.us.length = u.n ∧ ∀ (r : Addr) (H' : Hp), H r = none → H' r = some (.lst (zy (upL S.us))) → Same H H' → Q (.ref r) H'
theorem zcy (F : Def K mg "_law_ups" z5y ["_law_state"]) (T : Txt K mg C_Council C_Down C_InTheWay C_Keeper C_NotFree C_OldNumber C_UnknownKeeper Pt__law_notes cd__law_notes) : Has P w K mg base 1 "_law_ups" ["_law_state"] (z97 K) := by
 refine F.ok zcw (fun vs H Q E h => ?_) (fun f cdv A outer s H vs Q E hr h => ?_)
 ·obtain ⟨d, S, u, rfl, _⟩ := h
  rfl
 ·obtain ⟨d, S, u, rfl, hS, hok, hn, q⟩ := h
  have hu := hr.units0
  have hu2 := z3y hr
  have n5 := hok.n5
  refine ⟨_, (zb (zk (z1v (x := "_law_k") (cap := ["_law_state"]) (js := [0]) rfl ⟨rfl, by decide +kernel, by decide +kernel, rfl, zw rfl, by decide +kernel, ⟨⟨rfl, Or.inl rfl, rfl⟩, trivial⟩⟩ (z2k rfl T.b_range (z0 (zh ix_tup (zu hu2 (pv 0) zj (fun _ _ => rfl)) z4 (fun _ _ => rfl)) z6)) (fun _ _ _ _ => (z2g (z1f (zh (zan (K := K)) (zu hu2 (pv 1) zj (fun _ _ => rfl)) (pv 0) (fun _ _ => rfl))))) (fun _ _ _ _ => (ze z13 (pv 0) z4))))), ?_⟩
  walk_at "rd"
  refine ⟨_, z8c hS.st, _, _, _, _, rfl, rfl, SqT.of hS.su.tu, zc (j := 0) rfl, _, rfl, ⟨by omega, by omega⟩, ?_⟩
  rw [Int.toNat_natCast]
  refine z2x (zd (by omega)) (fun i acc H' => H' = H ∧ acc = zy ((List.range i).filter fun j => S.us.getD j false)) ⟨rfl, rfl⟩ ?_ ?_ ?_
  ·rintro i acc H' ⟨-, rfl⟩
   unfold zy
   rw [List.length_map]
   exact Nat.le_trans (List.length_filter_le _ _) (by rw [List.length_range]; exact Nat.le_refl _)
  ·rintro Nn i acc H' hN hi ⟨rfl, rfl⟩
   walk_at "rd"
   simp only [Int.zero_add]
   have hi2 : i < S.us.length := by omega
   have gb : (S.us.map V.bl)[i]? = some (.bl S.us[i]) := by rw [List.getElem?_map, List.getElem?_eq_getElem hi2]; rfl
   have eb : S.us.getD i false = S.us[i] := by rw [List.getD_eq_getElem?_getD, List.getElem?_eq_getElem hi2]; rfl
   refine ⟨_, z95 hS.st, _, _, _, _, rfl, rfl, SqL.of hS.gu, zc gb, _, rfl, ?_⟩
   have stp := zet (p := fun j => S.us.getD j false) i
   simp only [eb] at stp
   cases e : S.us[i] with
   | true =>
    rw [if_pos rfl]
    refine hN _ _ ⟨rfl, ?_⟩
    rw [stp, e]
    simp [zy]
   | false =>
    rw [if_neg Bool.false_ne_true]
    refine hN _ _ ⟨rfl, ?_⟩
    rw [stp, e]
    simp [zy]
  ·rintro acc H' ⟨rfl, rfl⟩ p hp
   refine q p _ hp ?_ (Same.upd hp)
   rw [z7]
   unfold upL
   rw [hn]
def z2s (k : Nat) (now : Int) (hd lk : Str) (sh : Bool) (zs : List Str) (q : Nk) : List Str := if (decide (q.k = k) && decide (now < q.x.e) && z30 hd lk sh q.x && !decide (q.x.h ∈ zs)) = true then zs ++ [q.x.h] else zs
def nmOf (k : Nat) (now : Int) (hd lk : Str) (sh : Bool) (N : List Nk) : List Str := N.foldl (z2s k now hd lk sh) []
theorem zgm (k : Nat) (now : Int) (hd lk : Str) (sh : Bool) (N : List Nk) (q : Nk) : nmOf k now hd lk sh (N ++ [q]) = z2s k now hd lk sh (nmOf k now hd lk sh N) q := by
 unfold nmOf
 rw [List.foldl_append]
 rfl
theorem z4f {α β : Type} (f : α → β) {L : List α} {i : Nat} {x : α} (h : L[i]? = some x) : (L.take (i + 1)).map f = (L.take i).map f ++ [f x] := by
 rw [List.take_succ, h, List.map_append]
 rfl
theorem zgn {k : Nat} {now : Int} {hd lk : Str} {sh : Bool} {zs : List Str} {q : Nk} (h : zs ≠ []) : z2s k now hd lk sh zs q ≠ [] := by
 unfold z2s
 split
 ·simp
 ·exact h
theorem z98 {k : Nat} {now : Int} {hd lk : Str} {sh : Bool} : ∀ (N : List Nk) {zs : List Str}, zs ≠ [] → N.foldl (z2s k now hd lk sh) zs ≠ []
 | [], _, h => h
 | q :: N, _, h => z98 N (zgn h)
theorem zk1 (k : Nat) (now : Int) (hd lk : Str) (sh : Bool) (N : List Nk) : nmOf k now hd lk sh N = [] ↔ ∀ q ∈ N, q.k = k → now < q.x.e → z30 hd lk sh q.x = false := by
 unfold nmOf
 induction N with
 | nil => exact ⟨fun _ q hq => (by cases hq), fun _ => rfl⟩
 | cons a N ih =>
  rw [List.foldl_cons]
  by_cases c : (decide (a.k = k) && decide (now < a.x.e) && z30 hd lk sh a.x) = true
  ·have e : z2s k now hd lk sh [] a = [a.x.h] := by
    unfold z2s
    rw [c]
    rfl
   rw [e]
   refine ⟨fun h => absurd h (z98 N (by simp)), fun h => ?_⟩
   simp only [Bool.and_eq_true, decide_eq_true_eq] at c
   have := h a (List.mem_cons_self ..) c.1.1 c.1.2
   rw [c.2] at this
   cases this
  ·have e : z2s k now hd lk sh [] a = [] := by
    unfold z2s
    rw [if_neg]
    intro z
    rw [Bool.and_eq_true] at z
    exact c z.1
   rw [e, ih]
   refine ⟨fun h q hq => ?_, fun h q hq => h q (List.mem_cons_of_mem _ hq)⟩
   rcases List.mem_cons.mp hq with rfl | hq
   ·intro h1 h2
    cases eb : z30 hd lk sh q.x with
    | false => rfl
    | true => exact absurd (by rw [decide_eq_true h1, decide_eq_true h2, eb]; rfl) c
   ·exact h q hq
def zcf (K : PySem.W.Frag) : Sp := fun vs H Q _ => ∃ (d a : Addr) (S : Sv) (u : Su) (z : Int) (hd lk : Str) (sh : Bool) (tm : Int) (k : Nat), vs = [.ref d, .ref a, .int ((k : Int) + 1)] ∧ StAt H d S u ∧ H a = some (.tup [.int z, .str hd, .str lk, .bl sh, .int tm]) ∧ lk.length ≤ 1000 ∧ (∀ q ∈ S.N, q.2.x.l.length ≤ 1000) ∧ S.N.length ≤ 400 ∧
 ∀ (r : Addr) (H' : Hp), H r = none → H' r = some (.lst ((nmOf k S.now hd lk sh (S.N.map (·.2))).map V.str)) → Same H H' → Q (.ref r) H'
theorem za5 (F : Def K mg "_law_naming" z4d ["_law_state", "_law_asking", "_law_keeper"]) (T : Txt K mg C_Council C_Down C_InTheWay C_Keeper C_NotFree C_OldNumber C_UnknownKeeper Pt__law_notes cd__law_notes) (G__law_way : Has P w K mg base 2 "_law_way" ["_law_lock", "_law_shared", "_law_other", "_law_other_shared"] (zgj)) : Has P w K mg base 3 "_law_naming" ["_law_state", "_law_asking", "_law_keeper"] (zcf K) := by
 refine F.ok sc__law_naming (fun vs H Q E h => ?_) (fun f cdv A outer s H vs Q E hr h => ?_)
 ·obtain ⟨d, a, S, u, z, hd, lk, sh, tm, k, rfl, _⟩ := h
  rfl
 ·obtain ⟨d, a, S, u, z, hd, lk, sh, tm, k, rfl, hS, ga, hlk, hll, hn, q⟩ := h
  have hu := hr.units0
  have hu2 := z3y hr
  refine ⟨_, (z9 (zi (i := 3) sc__law_naming.nd rfl (Or.inl rfl) (z1b z6))
   (z9 (z2p PassesOwn.never rfl (z18 (zu hu2 (pv 0) zj (fun _ _ => rfl))) (z15 (i := 4) sc__law_naming.nd rfl (Or.inl rfl)) (zb (zx (PW.pt (z36 (zm z19 (zh ix_tup (pv 4) z4 (fun _ _ => rfl)) (pv 2) (zl _)) (z36 (zm z8g (zh ix_tup (pv 4) z4 (fun _ _ => rfl)) (zu hu2 (pv 0) zj (fun _ _ => rfl)) (zl _)) (z36 (zm z2l (zh ix_tup (pv 4) z4 (fun _ _ => rfl)) (zh ix_tup (pv 1) z4 (fun _ _ => rfl)) (zl _)) (z4i (zm z6l (zh ix_tup (pv 4) z4 (fun _ _ => rfl)) (pv 3) (by with_unfolding_all rfl))))))) (zb (zx (z1f (zo G__law_way (hr.mono (by decide)) rfl (z0 (zh ix_tup (pv 4) z4 (fun _ _ => rfl)) (z0 (zh ix_tup (pv 4) z4 (fun _ _ => rfl)) (z0 (zh ix_tup (pv 1) z4 (fun _ _ => rfl)) (z0 (zh ix_tup (pv 1) z4 (fun _ _ => rfl)) z6)))))) (zb (z1h (z2f PySem.F.plainAttrs_list PySem.F.slot_list_append PySem.F.type_list_append z1t (pv 3) (z0 (zh ix_tup (pv 4) z4 (fun _ _ => rfl)) z6)))) zn)) zn)))
   (zb (zk (pv 3))))), ?_⟩
  walk_at "rd"
  refine ⟨Nat.zero_le _, fun p hp => ?_⟩
  have s1 := Same.upd (o := .lst []) hp
  have g1 : upd H p (.lst []) p = some (.lst []) := z7
  generalize upd H p (.lst []) = H1 at s1 g1 ⊢
  refine ⟨_, z66 (s1 _ _ hS.st), _, rfl, ⟨_, SqL.of (s1 _ _ hS.gn)⟩, ?_⟩
  refine z27 (xs := refk S.N) (fun i σ H' => ∃ (zs : List Str) (v4 : Option V), σ = [some (V.ref d), some (V.ref a), some (V.int ((k : Int) + 1)), some (V.ref p), v4] ∧ zs.length ≤ i ∧ H' p = some (.lst (zs.map V.str)) ∧ zs = nmOf k S.now hd lk sh ((S.N.take i).map (·.2)) ∧ Same H H') ⟨[], _, rfl, Nat.le_refl _, g1, rfl, s1⟩ ?_ ?_ ?_
  ·rintro i σ H' - ⟨zs, v4, -, -, -, -, s2⟩
   exact SqL.of (s2 _ _ hS.gn)
  ·rintro Pv hP i x σ H' hx ⟨zs, v4, rfl, lz, gz, iz, s2⟩
   obtain ⟨y, hy, rfl⟩ := z65 hx
   have my := List.mem_of_getElem? hy
   have hi : i < S.N.length := (List.getElem?_eq_some_iff.mp hy).1
   have stp : nmOf k S.now hd lk sh ((S.N.take (i + 1)).map (·.2)) = z2s k S.now hd lk sh zs y.2 := by
    rw [z4f _ hy, zgm, ← iz]
   have no : ∀ H2, Same H' H2 → (decide (y.2.k = k) && decide (S.now < y.2.x.e) && z30 hd lk sh y.2.x && !decide (y.2.x.h ∈ zs)) = false → Pv (i + 1) [some (V.ref d), some (V.ref a), some (V.int ((k : Int) + 1)), some (V.ref p), some (V.ref y.1)] H2 := fun H2 s3 e => hP _ _ _ ⟨zs, _, rfl, by omega, s3 _ _ gz, by rw [stp]; unfold z2s; rw [if_neg (by rw [e]; exact Bool.false_ne_true)], s2.trans s3⟩
   have hy1 := s2 _ _ (hS.kn y my)
   have hst := s2 _ _ hS.st
   have ga2 := s2 _ _ ga
   walk_at "rd"
   refine ⟨_, _, _, _, rfl, rfl, SqT.of hy1, zc (j := 0) rfl, rfl, ?_⟩
   by_cases c1 : y.2.k = k
   rotate_left
   ·rw [if_neg (by simp; omega)]
    exact no _ (Same.refl _) (by simp [c1])
   rw [if_pos (decide_eq_true (congrArg V.int (by rw [c1])))]
   refine ⟨_, _, _, _, rfl, rfl, SqT.of hy1, zc (j := 5) rfl, _, z29 hst, _, rfl, _, rfl, ?_⟩
   by_cases c2 : S.now < y.2.x.e
   rotate_left
   ·rw [if_neg (by simpa using c2)]
    exact no _ (Same.refl _) (by simp [c2])
   rw [if_pos (decide_eq_true c2)]
   refine ⟨_, _, _, _, rfl, rfl, SqT.of hy1, zc (j := 2) rfl, _, _, _, _, rfl, rfl, SqT.of ga2, zc (j := 1) rfl, rfl, ?_⟩
   by_cases c3 : y.2.x.h = hd
   ·rw [if_neg (by simp [c3])]
    exact no _ (Same.refl _) (by simp [z30, c3])
   rw [if_pos (by simp [c3])]
   refine ⟨_, _, _, _, rfl, rfl, SqT.of hy1, zc (j := 2) rfl, ?_⟩
   refine ⟨_, _, rfl, .inl (SqL.of gz), rfl, z2h _, _, rfl, ?_⟩
   rw [if_pos rfl, zj3]
   by_cases c4 : y.2.x.h ∈ zs
   ·rw [if_neg (by simp [c4])]
    exact no _ (Same.refl _) (by simp [c4])
   rw [if_pos (by simp [c4])]
   refine ⟨_, _, _, _, rfl, rfl, SqT.of hy1, zc (j := 3) rfl, _, _, _, _, rfl, rfl, SqT.of hy1, zc (j := 4) rfl, _, _, _, _, rfl, rfl, SqT.of ga2, zc (j := 2) rfl, _, _, _, _, rfl, rfl, SqT.of ga2, zc (j := 3) rfl, ?_⟩
   refine ⟨_, _, _, _, rfl, hll y my, hlk, fun H2 s3 => ⟨_, rfl, ?_⟩⟩
   have eb : z30 hd lk sh y.2.x = (onl y.2.x.l lk && !(y.2.x.sh && sh)) := by
    unfold z30
    rw [decide_eq_true c3, Bool.true_and, zhk, Bool.and_comm sh]
   by_cases c5 : (onl y.2.x.l lk && !(y.2.x.sh && sh)) = true
   ·rw [if_pos c5]
    refine ⟨.inl ⟨_, SqL.of (s3 _ _ gz)⟩, _, _, _, _, rfl, rfl, SqT.of (s3 _ _ hy1), zc (j := 2) rfl, ?_⟩
    refine ⟨_, _, _, rfl, rfl, s3 _ _ gz, z1l (by rw [List.length_map]; omega), hP _ _ _ ⟨zs ++ [y.2.x.h], _, rfl, by rw [List.length_append]; show _ + 1 ≤ _; omega, by rw [z7]; simp, ?_, fun b o e => ?_⟩⟩
    ·rw [stp]
     unfold z2s
     rw [if_pos]
     rw [eb, c5]
     simp [c1, c2, c4]
    ·rw [z8 (za e hp)]
     exact s3 _ _ (s2 _ _ e)
   ·rw [if_neg c5]
    refine no _ s3 ?_
    rw [eb]
    simp only [Bool.not_eq_true] at c5
    rw [c5]
    simp
  ·rintro σ H' ⟨zs, v4, rfl, lz, gz, iz, s2⟩
   walk_at "rd"
   rw [z3e, List.take_length] at iz
   exact q p H' hp (by rw [← iz]; exact gz) s2
def sayL (S : Sv) (hd lk : Str) (sh : Bool) : List Nat := (upL S.us).filter fun k => (nmOf k S.now hd lk sh (S.N.map (·.2))).isEmpty
theorem z8d (S : Sv) (hd lk : Str) (sh : Bool) : (sayL S hd lk sh).length ≤ S.us.length := Nat.le_trans (List.length_filter_le _ _) (z7d _)
theorem z1m (js : List Nat) : (zy js).length = js.length := List.length_map _
theorem z72 {js : List Nat} {i : Nat} {x : V} (h : (zy js)[i]? = some x) : ∃ j, js[i]? = some j ∧ x = V.int ((j : Int) + 1) := by
 unfold zy at h
 rw [List.getElem?_map] at h
 cases e : js[i]? with
 | none => rw [e] at h; cases h
 | some j => rw [e] at h; exact ⟨j, rfl, (Option.some.inj h).symm⟩
def SayP (S : Sv) (u : Su) : Prop := u.ok ∧ S.us.length = u.n ∧ (∀ q ∈ S.N, q.2.x.l.length ≤ 1000) ∧ S.N.length ≤ 400
def z73 (K : PySem.W.Frag) : Sp := fun vs H Q _ => ∃ (d a : Addr) (S : Sv) (u : Su) (z : Int) (hd lk : Str) (sh : Bool) (tm : Int), vs = [.ref d, .ref a] ∧ StAt H d S u ∧ H a = some (.tup [.int z, .str hd, .str lk, .bl sh, .int tm]) ∧ lk.length ≤ 1000 ∧ SayP S u ∧
 ∀ (r : Addr) (H' : Hp), H r = none → H' r = some (.lst (zy (sayL S hd lk sh))) → Same H H' → Q (.ref r) H'
theorem za6 (F : Def K mg "_law_sayers" z4e ["_law_state", "_law_asking"]) (T : Txt K mg C_Council C_Down C_InTheWay C_Keeper C_NotFree C_OldNumber C_UnknownKeeper Pt__law_notes cd__law_notes) (G__law_naming : Has P w K mg base 3 "_law_naming" ["_law_state", "_law_asking", "_law_keeper"] (zcf K)) (G__law_ups : Has P w K mg base 1 "_law_ups" ["_law_state"] (z97 K)) : Has P w K mg base 4 "_law_sayers" ["_law_state", "_law_asking"] (z73 K) := by
 refine F.ok z9w (fun vs H Q E h => ?_) (fun f cdv A outer s H vs Q E hr h => ?_)
 ·obtain ⟨d, a, S, u, z, hd, lk, sh, tm, rfl, _⟩ := h
  rfl
 ·obtain ⟨d, a, S, u, z, hd, lk, sh, tm, rfl, hS, ga, hlk, ⟨hok, hun, hll, hn⟩, q⟩ := h
  have hu := hr.units0
  have hu2 := z3y hr
  have n5 := hok.n5
  refine ⟨_, (zb (zk (z1v (x := "_law_k") (cap := ["_law_state", "_law_asking"]) (js := [0, 1]) rfl ⟨rfl, by decide +kernel, by decide +kernel, rfl, zw rfl, by decide +kernel, ⟨⟨rfl, Or.inl rfl, rfl⟩, ⟨⟨rfl, Or.inl rfl, rfl⟩, trivial⟩⟩⟩ (z18 (zo G__law_ups (hr.mono (by decide)) rfl (z0 (pv 0) z6))) (fun _ _ _ _ => (z2g (zm (zeq (K := K) hu) (zo G__law_naming (hr.mono (by decide)) rfl (z0 (pv 1) (z0 (pv 2) (z0 (pv 0) z6)))) (z1b z6) (zl _)))) (fun _ _ _ _ => (pv 0))))), ?_⟩
  walk_at "rd"
  refine ⟨d, S, u, rfl, hS, hok, hun, fun r H1 hr0 gr s1 => ⟨r, rfl, ⟨_, SqL.of gr⟩, ?_⟩⟩
  have lu := z7d S.us
  refine z1j (xs := zy (upL S.us)) (by rw [z1m]; exact zd (by omega)) (fun i acc H' => acc = zy (((upL S.us).take i).filter fun k => (nmOf k S.now hd lk sh (S.N.map (·.2))).isEmpty) ∧ Same H1 H') ⟨rfl, Same.refl _⟩ ?_ ?_ ?_ ?_
  ·rintro i acc H' ⟨rfl, -⟩
   rw [z1m]
   exact Nat.le_trans (List.length_filter_le _ _) (by rw [List.length_take]; omega)
  ·rintro i acc H' ⟨-, s2⟩
   exact SqL.of (s2 _ _ gr)
  ·rintro Nn i acc H' x hN hx hi ⟨rfl, s2⟩
   obtain ⟨k, hk, rfl⟩ := z72 hx
   walk_at "rd"
   have s12 := s1.trans s2
   have stp := z1i (fun k => (nmOf k S.now hd lk sh (S.N.map (·.2))).isEmpty) hk
   refine ⟨d, a, S, u, z, hd, lk, sh, tm, k, rfl, hS.mono s12, s12 _ _ ga, hlk, hll, hn, fun r2 H2 hr2 gr2 s3 => ?_⟩
   refine ⟨Nat.zero_le _, fun p hp => ?_⟩
   have s4 := Same.upd (o := .lst []) hp
   refine ⟨_, rfl, _, SqL.of (s4 _ _ gr2), SqL.of z7, ?_⟩
   have ee : ((nmOf k S.now hd lk sh (S.N.map (·.2))).map V.str).isEmpty = (nmOf k S.now hd lk sh (S.N.map (·.2))).isEmpty := by
    cases nmOf k S.now hd lk sh (S.N.map (·.2)) <;> rfl
   rw [ee]
   by_cases c : (nmOf k S.now hd lk sh (S.N.map (·.2))).isEmpty = true
   ·rw [if_pos c]
    refine hN _ _ ⟨?_, s2.trans (s3.trans s4)⟩
    rw [stp, if_pos c]
    simp [zy]
   ·rw [if_neg c]
    refine hN _ _ ⟨?_, s2.trans (s3.trans s4)⟩
    rw [stp, if_neg c]
    simp [zy]
  ·rintro acc H' ⟨rfl, s2⟩ p hp
   refine q p _ (zv (s1.trans s2) hp) ?_ ((s1.trans s2).trans (Same.upd hp))
   rw [z7, z1m, List.take_length]
   rfl
def zdk (K : PySem.W.Frag) : Sp := fun vs H Q _ => ∃ (d a : Addr) (S : Sv) (u : Su) (z : Int) (hd lk : Str) (sh : Bool) (tm : Int), vs = [.ref d, .ref a] ∧ StAt H d S u ∧ H a = some (.tup [.int z, .str hd, .str lk, .bl sh, .int tm]) ∧ lk.length ≤ 1000 ∧ SayP S u ∧
 z50 H Q (.bl (decide ((u.n : Int) < 2 * ((sayL S hd lk sh).length : Int))))
theorem zcg (F : Def K mg "_law_free" z59 ["_law_state", "_law_asking"]) (T : Txt K mg C_Council C_Down C_InTheWay C_Keeper C_NotFree C_OldNumber C_UnknownKeeper Pt__law_notes cd__law_notes) (G__law_sayers : Has P w K mg base 4 "_law_sayers" ["_law_state", "_law_asking"] (z73 K)) : Has P w K mg base 5 "_law_free" ["_law_state", "_law_asking"] (zdk K) := by
 refine F.ok zc2 (fun vs H Q E h => ?_) (fun f cdv A outer s H vs Q E hr h => ?_)
 ·obtain ⟨d, a, S, u, z, hd, lk, sh, tm, rfl, _⟩ := h
  rfl
 ·obtain ⟨d, a, S, u, z, hd, lk, sh, tm, rfl, hS, ga, hlk, hp, q⟩ := h
  have hu := hr.units0
  have hu2 := z3y hr
  refine ⟨_, (zb (zk (z1d z8g (ze z6i z4 (zg zp rfl T.b_len (by decide +kernel) (z0 (zo G__law_sayers (hr.mono (by decide)) rfl (z0 (pv 0) (z0 (pv 1) z6))) z6))) (zh ix_tup (zu hu2 (pv 0) zj (fun _ _ => rfl)) z4 (fun _ _ => rfl)) (zl _)))), ?_⟩
  walk_at "rd"
  refine ⟨d, a, S, u, z, hd, lk, sh, tm, rfl, hS, ga, hlk, hp, fun r H1 hr0 gr s1 => ?_⟩
  exact ⟨r, rfl, _, .inl (SqL.of gr), .inl ⟨by decide, by decide⟩, _, z8c (s1 _ _ hS.st), _, _, _, _, rfl, rfl, SqT.of (s1 _ _ hS.su.tu), zc (j := 0) rfl, _, rfl, by rw [z1m]; exact q _ s1⟩
theorem zhp (j : Nat) (js : List Nat) : inV (V.int ((j : Int) + 1)) (zy js) = decide (j ∈ js) := by
 unfold inV zy
 rw [List.any_map, Bool.eq_iff_iff]
 simp only [List.any_eq_true, decide_eq_true_eq, Function.comp]
 constructor
 ·rintro ⟨x, hx, e⟩
  have : j = x := by
   simp [eqV] at e
   omega
  exact this ▸ hx
 ·intro h
  exact ⟨j, h, by simp [eqV]⟩
theorem zeu (js : List Nat) : (zy js).all z2e = true := by
 unfold zy
 rw [List.all_map, List.all_eq_true]
 intro x _
 rfl
theorem zdl {n m : Nat} (h : m < n) : ixN n (m : Int) = some m := by
 unfold ixN
 simp
 omega
def z1s (now : Int) (sl : List Nat) (hd lk : Str) (q : Nk) : Bool := decide (now < q.x.e) && !(decide (q.k ∈ sl) && (decide (q.x.h = hd) && decide (q.x.l = lk)))
def z7e (N : List Nk) (now : Int) (sl : List Nat) (x : Nt) : List Nk := N.filter (z1s now sl x.h x.l) ++ sl.map fun k => ⟨k, x⟩
def topS (ts : List Int) (sl : List Nat) (n : Int) : List Int := ts.mapIdx fun j t => if j ∈ sl then n else t
theorem z67 (ts : List Int) (sl : List Nat) (n : Int) : (topS ts sl n).length = ts.length := List.length_mapIdx
theorem zhq (ts : List Int) (n : Int) : topS ts [] n = ts := by
 unfold topS
 apply List.ext_getElem?
 intro j
 rw [List.getElem?_mapIdx]
 cases ts[j]? <;> simp
theorem zgo {ts : List Int} {sl : List Nat} {n : Int} {i j : Nat} (hj : sl[i]? = some j) : topS ts (sl.take (i + 1)) n = (topS ts (sl.take i) n).set j n := by
 have et : sl.take (i + 1) = sl.take i ++ [j] := by rw [List.take_succ, hj]; rfl
 apply List.ext_getElem?
 intro k
 by_cases hk : k = j
 ·subst hk
  by_cases hl : k < ts.length
  ·rw [List.getElem?_set_self (by rw [z67]; exact hl)]
   unfold topS
   rw [List.getElem?_mapIdx, List.getElem?_eq_getElem hl, et]
   simp
  ·rw [List.getElem?_eq_none (by rw [z67]; omega), List.getElem?_eq_none (by rw [List.length_set, z67]; omega)]
 ·rw [List.getElem?_set_ne (Ne.symm hk)]
  unfold topS
  rw [List.getElem?_mapIdx, List.getElem?_mapIdx, et]
  cases ts[k]? with
  | none => rfl
  | some t => simp [hk]
def zch (us : List Bool) (ts : List Int) (m : Int) : Prop := (∃ j ∈ upL us, ts[j]? = some m) ∧ ∀ j ∈ upL us, ∀ t, ts[j]? = some t → t ≤ m
def zdm (K : PySem.W.Frag) : Sp := fun vs H Q _ => ∃ (d a : Addr) (S : Sv) (u : Su) (z : Int) (hd lk : Str) (sh : Bool) (tm : Int), vs = [.ref d, .ref a] ∧ StAt H d S u ∧ H a = some (.tup [.int z, .str hd, .str lk, .bl sh, .int tm]) ∧ lk.length ≤ 1000 ∧ SayP S u ∧ S.ts.length = u.n ∧ sayL S hd lk sh ≠ [] ∧ S.C.length ≤ 400 ∧ S.lg.length ≤ 400 ∧
 ∀ (m : Int) (S' : Sv) (H' : Hp) (pl pb : Addr), zch S.us S.ts m → StAt H' d S' u → S'.now = S.now → S'.ps = S.ps → S'.us = S.us → S'.ts = topS S.ts (sayL S hd lk sh) (1 + m) → S'.N.map (·.2) = z7e (S.N.map (·.2)) S.now (sayL S hd lk sh) ⟨1 + m, hd, lk, sh, S.now + tm⟩ → S'.C.length ≤ S.C.length + 1 → S'.lg = S.lg ++ [.ref pl] →
  H' pl = some (.tup [.str "given", .int S.now, .str hd, .str lk, .bl sh, .int (1 + m), .int (S.now + tm), .ref pb]) → (∀ p ∈ S'.lists, p ∈ S.lists ∨ H p = none) → ButK (own d S) H H' → Q .non H'
theorem zci (F : Def K mg "_law_give" z5a ["_law_state", "_law_asking"]) (T : Txt K mg C_Council C_Down C_InTheWay C_Keeper C_NotFree C_OldNumber C_UnknownKeeper Pt__law_notes cd__law_notes) (G__law_ups : Has P w K mg base 1 "_law_ups" ["_law_state"] (z97 K)) (G__law_sayers : Has P w K mg base 4 "_law_sayers" ["_law_state", "_law_asking"] (z73 K)) : Has P w K mg base 5 "_law_give" ["_law_state", "_law_asking"] (zdm K) := by
 refine F.ok sc__law_give (fun vs H Q E h => ?_) (fun f cdv A outer s H vs Q E hr h => ?_)
 ·obtain ⟨d, a, S, u, z, hd, lk, sh, tm, rfl, _⟩ := h
  rfl
 ·obtain ⟨d, a, S, u, z, hd, lk, sh, tm, rfl, hS, ga, hlk, hp, htn, hne, hC, hlg, q⟩ := h
  have hu := hr.units0
  have hu2 := z3y hr
  refine ⟨_, (z9 (zi (i := 2) sc__law_give.nd rfl (Or.inl rfl) (zo G__law_sayers (hr.mono (by decide)) rfl (z0 (pv 0) (z0 (pv 1) z6))))
   (z9 (zi (i := 3) sc__law_give.nd rfl (Or.inl rfl) (ze z13 z4 (zg (z6p rfl) rfl T.b_max (by decide +kernel) (z0 (z1v (x := "_law_k") (cap := ["_law_state"]) (js := [0]) rfl ⟨rfl, by decide +kernel, by decide +kernel, rfl, zw rfl, by decide +kernel, ⟨⟨rfl, Or.inl rfl, rfl⟩, trivial⟩⟩ (z18 (zo G__law_ups (hr.mono (by decide)) rfl (z0 (pv 0) z6))) (fun _ _ _ _ => z32) (fun _ _ _ _ => (zh (zan (K := K)) (zu hu2 (pv 1) zj (fun _ _ => rfl)) (ze z2q (pv 0) z4) (fun _ _ => rfl)))) z6))))
   (z9 (zbe (z1k (z0 (zh ix_tup (pv 1) z4 (fun _ _ => rfl)) (z0 (zh ix_tup (pv 1) z4 (fun _ _ => rfl)) (z0 (zh ix_tup (pv 1) z4 (fun _ _ => rfl)) z6)))) (zbd rfl (z1p (z15 (i := 4) sc__law_give.nd rfl (Or.inr rfl)) (z1p (z15 (i := 5) sc__law_give.nd rfl (Or.inr rfl)) (z1p (z15 (i := 6) sc__law_give.nd rfl (Or.inl rfl)) z4j)))))
   (z9 (zi (i := 7) sc__law_give.nd rfl (Or.inl rfl) (ze z13 (zu hu2 (pv 0) zj (fun _ _ => rfl)) (zh ix_tup (pv 1) z4 (fun _ _ => rfl))))
   (z9 (zi (i := 8) sc__law_give.nd rfl (Or.inl rfl) (z1b z6))
   (z9 (z2p PassesOwn.never rfl (z18 (zu hu2 (pv 0) zj (fun _ _ => rfl))) (z15 (i := 9) sc__law_give.nd rfl (Or.inl rfl)) (zb (zx (PW.pt (z36 (zm z8g (zh ix_tup (pv 9) z4 (fun _ _ => rfl)) (zu hu2 (pv 0) zj (fun _ _ => rfl)) (zl _)) (z4i (z37 (PW.pt (z36 (zm zah (zh ix_tup (pv 9) z4 (fun _ _ => rfl)) (pv 2) (by with_unfolding_all rfl)) (z36 (zm z19 (zh ix_tup (pv 9) z4 (fun _ _ => rfl)) (pv 4) (zl _)) (z4i (zm z19 (zh ix_tup (pv 9) z4 (fun _ _ => rfl)) (pv 5) (zl _)))))))))) (zb (z1h (z2f PySem.F.plainAttrs_list PySem.F.slot_list_append PySem.F.type_list_append z1t (pv 8) (z0 (pv 9) z6)))) zn)))
   (z9 (z2p PassesOwn.never rfl (z18 (pv 2)) (z15 (i := 10) sc__law_give.nd rfl (Or.inl rfl)) (z9 (z1h (z2f PySem.F.plainAttrs_list PySem.F.slot_list_append PySem.F.type_list_append z1t (pv 8) (z0 (z1k (z0 (pv 10) (z0 (pv 3) (z0 (pv 4) (z0 (pv 5) (z0 (pv 6) (z0 (pv 7) z6))))))) z6)))
   (zb (zbe (pv 3) (zez (zu hu2 (pv 0) zj (fun _ _ => rfl)) (ze z2q (pv 10) z4) zbj)))))
   (z9 (z5j hu2 (pv 0) zj (pv 8) rfl)
   (z9 (z5j hu2 (pv 0) zj (z1v (x := "_law_one") (cap := ["_law_holder"]) (js := [4]) rfl ⟨rfl, by decide +kernel, by decide +kernel, rfl, zw rfl, by decide +kernel, ⟨⟨rfl, Or.inl rfl, rfl⟩, trivial⟩⟩ (z18 (zu hu2 (pv 0) zj (fun _ _ => rfl))) (fun _ _ _ _ => (z2g (zm z2l (zh (z1w (K := K)) (pv 0) z4 (fun _ _ => rfl)) (pv 1) (zl _)))) (fun _ _ _ _ => (pv 0))) rfl)
   (z9 (z5j hu2 (pv 0) zj (z1v (x := "_law_one") (cap := ["_law_holder", "_law_lock"]) (js := [4, 5]) rfl ⟨rfl, by decide +kernel, by decide +kernel, rfl, zw rfl, by decide +kernel, ⟨⟨rfl, Or.inl rfl, rfl⟩, ⟨⟨rfl, Or.inl rfl, rfl⟩, trivial⟩⟩⟩ (z18 (zu hu2 (pv 0) zj (fun _ _ => rfl))) (fun _ _ _ _ => (z2g (PW.pt (z8f (zm z2l (zh (z1w (K := K)) (pv 0) z4 (fun _ _ => rfl)) (pv 1) (zl _)) (z6h (zm z2l (zh (z1w (K := K)) (pv 0) z4 (fun _ _ => rfl)) (pv 2) (zl _))))))) (fun _ _ _ _ => (pv 0))) rfl)
   (z9 (z1h (z2f PySem.F.plainAttrs_list PySem.F.slot_list_append PySem.F.type_list_append z1t (zu hu2 (pv 0) zj (fun _ _ => rfl)) (z0 (z1k (z0 (pv 4) (z0 (pv 3) (z0 (pv 5) (z0 (pv 6) (z0 (pv 7) z6)))))) z6)))
   (zb (z1h (z2f PySem.F.plainAttrs_list PySem.F.slot_list_append PySem.F.type_list_append z1t (zu hu2 (pv 0) zj (fun _ _ => rfl)) (z0 (z1k (z0 zj (z0 (zu hu2 (pv 0) zj (fun _ _ => rfl)) (z0 (pv 4) (z0 (pv 5) (z0 (pv 6) (z0 (pv 3) (z0 (pv 7) (z0 (zag zar rfl T.b_tuple (by decide +kernel) (z0 (pv 2) z6)) z6))))))))) z6))))))))))))))), ?_⟩
  walk_at "rd"
  obtain ⟨hok, hun, hll, hn⟩ := id hp
  have n5 := hok.n5
  refine ⟨d, a, S, u, z, hd, lk, sh, tm, rfl, hS, ga, hlk, hp, fun rb H1 hrb grb s1 => ?_⟩
  refine ⟨d, S, u, rfl, hS.mono s1, hok, hun, fun r2 H2 hr2 gr2 s2 => ⟨r2, rfl, ⟨_, SqL.of gr2⟩, ?_⟩⟩
  have lu := z7d S.us
  have s12 := s1.trans s2
  have h2 := hS.mono s12
  have jlt : ∀ j ∈ upL S.us, j < S.ts.length := fun j hj => by
   have := List.mem_range.mp (List.mem_filter.mp hj).1
   omega
  refine z1j (xs := zy (upL S.us)) (by rw [z1m]; exact zd (by omega)) (fun i acc H' => H' = H2 ∧ acc = (((upL S.us).take i).map fun j => S.ts.getD j 0).map V.int) ⟨rfl, rfl⟩ ?_ ?_ ?_ ?_
  ·rintro i acc H' ⟨-, rfl⟩
   rw [List.length_map, List.length_map, List.length_take]
   omega
  ·rintro i acc H' ⟨rfl, -⟩
   exact SqL.of gr2
  ·rintro Nn i acc H' x hN hx hi ⟨rfl, rfl⟩
   obtain ⟨k, hk, rfl⟩ := z72 hx
   walk_at "rd"
   have e1 : (k : Int) + 1 - 1 = (k : Int) := by omega
   rw [e1]
   have hkl := jlt k (List.mem_of_getElem? hk)
   refine ⟨_, za4 h2.st, _, _, _, _, rfl, rfl, SqL.of h2.gt, zc (v := .int (S.ts.getD k 0)) ?_, hN _ _ ⟨rfl, ?_⟩⟩
   ·rw [List.getElem?_map, List.getD_eq_getElem?_getD, List.getElem?_eq_getElem hkl]; rfl
   ·rw [z4f _ hk]
    simp
  rintro acc H' ⟨rfl, rfl⟩ pm hpm
  rw [z1m, List.take_length]
  refine ⟨pm, rfl, _, SqL.of z7, ?_, fun m hm hmax => ?_⟩
  ·intro e
   have : sayL S hd lk sh = [] := by
    unfold sayL
    rw [List.map_eq_nil_iff.mp e]
    rfl
   exact hne this
  have hT : zch S.us S.ts m := by
   obtain ⟨j, hj, ej⟩ := List.mem_map.mp hm
   have hjl := jlt j hj
   refine ⟨⟨j, hj, ?_⟩, fun k hk t ht => ?_⟩
   ·rw [← ej, List.getD_eq_getElem?_getD, List.getElem?_eq_getElem hjl]; rfl
   ·refine hmax t (List.mem_map.mpr ⟨k, hk, ?_⟩)
    rw [List.getD_eq_getElem?_getD, ht]; rfl
  have s3 := s12.trans (Same.upd (o := .lst (((upL S.us).map fun j => S.ts.getD j 0).map V.int)) hpm)
  have grb3 := Same.upd (o := .lst (((upL S.us).map fun j => S.ts.getD j 0).map V.int)) hpm _ _ (s2 _ _ grb)
  generalize upd H' pm _ = H3 at s3 grb3 ⊢
  refine ⟨_, _, _, _, rfl, rfl, SqT.of (s3 _ _ ga), zc (j := 1) rfl, _, _, _, _, rfl, rfl, SqT.of (s3 _ _ ga), zc (j := 2) rfl, _, _, _, _, rfl, rfl, SqT.of (s3 _ _ ga), zc (j := 3) rfl, zd (by decide), fun p3 hp3 => ⟨_, SqT.of z7, rfl, _, _, rfl, _, _, rfl, _, _, rfl, rfl, ?_⟩⟩
  have s4 := s3.trans (Same.upd (o := .tup [V.str hd, V.str lk, V.bl sh]) hp3)
  have grb4 := Same.upd (o := .tup [V.str hd, V.str lk, V.bl sh]) hp3 _ _ grb3
  generalize upd H3 p3 (.tup [V.str hd, V.str lk, V.bl sh]) = H4 at s4 grb4 ⊢
  have h4 := hS.mono s4
  refine ⟨_, z29 h4.st, ?_⟩
  refine ⟨_, _, _, _, rfl, rfl, SqT.of (s4 _ _ ga), zc (j := 4) rfl, _, rfl, _, rfl, Nat.zero_le _, fun pn hpn => ?_⟩
  have hpn0 : H pn = none := zv s4 hpn
  have s5 := s4.trans (Same.upd (o := .lst []) hpn)
  have grb5 := Same.upd (o := .lst []) hpn _ _ grb4
  have g5 : upd H4 pn (.lst []) pn = some (.lst (refk [])) := z7
  have s45 := Same.upd (o := .lst []) hpn
  generalize upd H4 pn (.lst []) = H5 at s5 grb5 g5 s45 ⊢
  refine ⟨_, z66 (s5 _ _ hS.st), _, rfl, ⟨_, SqL.of (s5 _ _ hS.gn)⟩, ?_⟩
  refine z27 (xs := refk S.N) (fun i σ H' => ∃ (v9 : Option V), σ = [some (V.ref d), some (V.ref a), some (V.ref rb), some (V.int (1 + m)), some (V.str hd), some (V.str lk), some (V.bl sh), some (V.int (S.now + tm)), some (V.ref pn), v9, none] ∧ H' pn = some (.lst (refk ((S.N.take i).filter fun q => z1s S.now (sayL S hd lk sh) hd lk q.2))) ∧ Same H4 H') ⟨_, rfl, g5, s45⟩ ?_ ?_ ?_
  ·rintro i σ H' - ⟨v9, -, -, s6⟩
   exact SqL.of (s6 _ _ h4.gn)
  ·rintro Pv hP i x σ H' hx ⟨v9, rfl, gp, s6⟩
   obtain ⟨y, hy, rfl⟩ := z65 hx
   have my := List.mem_of_getElem? hy
   have hi : i < S.N.length := (List.getElem?_eq_some_iff.mp hy).1
   have stp := z1i (fun q : Addr × Nk => z1s S.now (sayL S hd lk sh) hd lk q.2) hy
   have hy1 := s6 _ _ (h4.kn y my)
   have hst := s6 _ _ h4.st
   have lF : ((S.N.take i).filter fun q => z1s S.now (sayL S hd lk sh) hd lk q.2).length ≤ 400 := Nat.le_trans (List.length_filter_le _ _) (by rw [List.length_take]; omega)
   have no : z1s S.now (sayL S hd lk sh) hd lk y.2 = false → Pv (i + 1) [some (V.ref d), some (V.ref a), some (V.ref rb), some (V.int (1 + m)), some (V.str hd), some (V.str lk), some (V.bl sh), some (V.int (S.now + tm)), some (V.ref pn), some (V.ref y.1), none] H' := fun e => hP _ _ _ ⟨_, rfl, by rw [stp, if_neg (by rw [e]; exact Bool.false_ne_true), List.append_nil]; exact gp, s6⟩
   have yes : z1s S.now (sayL S hd lk sh) hd lk y.2 = true → z77 (V.ref pn) [V.ref y.1] H' (fun _ H1 => Pv (i + 1) [some (V.ref d), some (V.ref a), some (V.ref rb), some (V.int (1 + m)), some (V.str hd), some (V.str lk), some (V.bl sh), some (V.int (S.now + tm)), some (V.ref pn), some (V.ref y.1), none] H1) := fun e => by
    refine ⟨_, _, _, rfl, rfl, gp, z1l (by rw [z3e]; omega), hP _ _ _ ⟨_, rfl, by rw [z7, stp, if_pos e]; simp [refk], fun b o hb => ?_⟩⟩
    rw [z8 (za hb hpn)]
    exact s6 _ _ hb
   walk_at "rd"
   have grb6 : H' rb = some (.lst (zy (sayL S hd lk sh))) := s6 _ _ grb4
   refine ⟨_, _, _, _, rfl, rfl, SqT.of hy1, zc (j := 5) rfl, _, z29 hst, _, rfl, _, rfl, ?_⟩
   by_cases c1 : S.now < y.2.x.e
   rotate_left
   ·rw [if_neg (by simpa using c1)]
    exact no (by unfold z1s; simp [c1])
   rw [if_pos (decide_eq_true c1)]
   refine ⟨_, _, _, _, rfl, rfl, SqT.of hy1, zc (j := 0) rfl, _, _, rfl, .inl (SqL.of grb6), rfl, zeu _, _, rfl, ?_⟩
   rw [if_neg Bool.false_ne_true, zhp]
   by_cases c2 : y.2.k ∈ sayL S hd lk sh
   rotate_left
   ·rw [if_neg (by simpa using c2), if_pos (by decide)]
    exact ⟨.inl ⟨_, SqL.of gp⟩, yes (by unfold z1s; simp [c1, c2])⟩
   rw [if_pos (decide_eq_true c2)]
   refine ⟨_, _, _, _, rfl, rfl, SqT.of hy1, zc (j := 2) rfl, rfl, ?_⟩
   by_cases c3 : y.2.x.h = hd
   rotate_left
   ·rw [if_neg (by simpa using c3), if_pos (by decide)]
    exact ⟨.inl ⟨_, SqL.of gp⟩, yes (by unfold z1s; simp [c1, c3])⟩
   rw [if_pos (decide_eq_true (congrArg V.str c3))]
   refine ⟨_, _, _, _, rfl, rfl, SqT.of hy1, zc (j := 3) rfl, rfl, ?_⟩
   by_cases c4 : y.2.x.l = lk
   ·rw [if_neg (by simp [c4])]
    exact no (by unfold z1s; simp [c2, c3, c4])
   ·rw [if_pos (by simp [c4])]
    exact ⟨.inl ⟨_, SqL.of gp⟩, yes (by unfold z1s; simp [c1, c4])⟩
  rintro σ H' ⟨v9, rfl, gp, s6⟩
  rw [z3e, List.take_length] at gp
  walk_at "rd"
  have ndt : d ≠ S.pt := fun e => by have := h4.st; rw [e, h4.gt] at this; cases this
  have npt : pn ≠ S.pt := fun e => by rw [e, h4.gt] at hpn; cases hpn
  have nrb : rb ≠ S.pt := fun e => by have := hS.gt; rw [← e, hrb] at this; cases this
  refine ⟨⟨_, SqL.of (s6 _ _ grb4)⟩, ?_⟩
  have lsl : (sayL S hd lk sh).length ≤ 5 := by have := z8d S hd lk sh; omega
  have jl2 : ∀ j ∈ sayL S hd lk sh, j < S.ts.length := fun j hj => jlt j (List.mem_filter.mp hj).1
  have lF : (S.N.filter fun q => z1s S.now (sayL S hd lk sh) hd lk q.2).length ≤ 400 := Nat.le_trans (List.length_filter_le _ _) hn
  have kF : ∀ z ∈ S.N.filter (fun q => z1s S.now (sayL S hd lk sh) hd lk q.2), z ∈ S.N := fun z hz => (List.mem_filter.mp hz).1
  have eF : (S.N.filter fun q => z1s S.now (sayL S hd lk sh) hd lk q.2).map (·.2) = (S.N.map (·.2)).filter (z1s S.now (sayL S hd lk sh) hd lk) := by rw [List.filter_map]; rfl
  generalize hF : (S.N.filter fun q => z1s S.now (sayL S hd lk sh) hd lk q.2) = F1 at gp lF kF eF
  refine z27 (xs := zy (sayL S hd lk sh)) (fun i σ H' => ∃ (M : KL) (v9 v10 : Option V), σ = [some (V.ref d), some (V.ref a), some (V.ref rb), some (V.int (1 + m)), some (V.str hd), some (V.str lk), some (V.bl sh), some (V.int (S.now + tm)), some (V.ref pn), v9, v10] ∧ M.map (·.2) = ((sayL S hd lk sh).take i).map (fun k => ⟨k, ⟨1 + m, hd, lk, sh, S.now + tm⟩⟩) ∧ KsAt H' M ∧ H' pn = some (.lst (refk (F1 ++ M))) ∧ H' S.pt = some (.lst ((topS S.ts ((sayL S hd lk sh).take i) (1 + m)).map V.int)) ∧ But S.pt H4 H') ⟨[], _, _, rfl, rfl, (fun z hz => by cases hz), by rw [List.append_nil]; exact gp, by rw [List.take_zero, zhq]; exact s6 _ _ h4.gt, But.of s6⟩ ?_ ?_ ?_
  ·rintro i σ H7 - ⟨M, v9, v10, -, -, -, -, -, b7⟩
   exact SqL.of (b7 _ _ grb4 nrb)
  ·rintro Pv hP i x σ H7 hx ⟨M, v9, v10, rfl, eM, kM, g7, t7, b7⟩
   obtain ⟨k, hk, rfl⟩ := z72 hx
   have hkl := jl2 k (List.mem_of_getElem? hk)
   have lM : M.length ≤ 5 := by
    have := congrArg List.length eM
    rw [List.length_map, List.length_map, List.length_take] at this
    omega
   walk_at "rd"
   refine ⟨.inl ⟨_, SqL.of g7⟩, zd (by decide), fun pa hpa => ?_⟩
   have s8 := Same.upd (o := .tup [V.int ((k : Int) + 1), V.int (1 + m), V.str hd, V.str lk, V.bl sh, V.int (S.now + tm)]) hpa
   have g8 : upd H7 pa (.tup [V.int ((k : Int) + 1), V.int (1 + m), V.str hd, V.str lk, V.bl sh, V.int (S.now + tm)]) pa = some (.tup (Nk.vals ⟨k, ⟨1 + m, hd, lk, sh, S.now + tm⟩⟩)) := z7
   generalize upd H7 pa _ = H8 at s8 g8 ⊢
   have g78 := s8 _ _ g7
   refine ⟨_, _, _, rfl, rfl, g78, z1l (by rw [z3e, List.length_append]; omega), ?_⟩
   have npa : S.pt ≠ pa := fun e => by rw [← e, t7] at hpa; cases hpa
   have stp := zgo (ts := S.ts) (n := 1 + m) hk
   have np8 : H8 pn ≠ none := by rw [g78]; exact fun z => by cases z
   have hst : H7 d = some (.dK (stw S)) := b7 _ _ h4.st ndt
   have nd8 : d ≠ pn := fun e => by rw [e, g7] at hst; cases hst
   have g9 : upd H8 pn (.lst (refk (F1 ++ M) ++ [V.ref pa])) pn = some (.lst (refk (F1 ++ (M ++ [(pa, ⟨k, ⟨1 + m, hd, lk, sh, S.now + tm⟩⟩)])))) := by rw [z7]; simp [refk]
   have f9 : ∀ b o, H8 b = some o → b ≠ pn → upd H8 pn (.lst (refk (F1 ++ M) ++ [V.ref pa])) b = some o := fun b o e nb => by rw [z8 nb]; exact e
   have e1 : (k : Int) + 1 - 1 = (k : Int) := by omega
   generalize upd H8 pn (.lst (refk (F1 ++ M) ++ [V.ref pa])) = H9 at g9 f9 ⊢
   have t9 : H9 S.pt = some (.lst ((topS S.ts ((sayL S hd lk sh).take i) (1 + m)).map V.int)) := f9 _ _ (s8 _ _ t7) npt.symm
   refine ⟨_, za4 (f9 _ _ (s8 _ _ hst) nd8), ?_⟩
   rw [e1]
   refine ⟨S.pt, _, k, k, rfl, rfl, t9, zdl (by rw [List.length_map, z67]; exact hkl), hP _ _ _ ⟨M ++ [(pa, ⟨k, ⟨1 + m, hd, lk, sh, S.now + tm⟩⟩)], _, _, rfl, ?_, fun z hz => ?_, ?_, ?_, fun b o e nb => ?_⟩⟩
   ·rw [List.map_append, eM, z4f _ hk]
    rfl
   ·have hz8 : H8 z.1 = some (.tup z.2.vals) := by
     rcases List.mem_append.mp hz with hz | hz
     ·exact s8 _ _ (kM z hz)
     ·rw [List.mem_singleton.mp hz]; exact g8
    have hz9 := f9 _ _ hz8 fun e => by rw [e, g78] at hz8; cases hz8
    rw [z8 (fun e => by rw [e, t9] at hz9; cases hz9)]
    exact hz9
   ·rw [z8 npt]; exact g9
   ·rw [z7, stp, List.map_set]
   ·rw [z8 nb]
    refine f9 _ _ (s8 _ _ (b7 b o e nb)) fun z => ?_
    rw [z, hpn] at e
    cases e
  rintro σ H7 ⟨M, v9', v10, rfl, eM, kM, g7, t7, b7⟩
  rw [z1m, List.take_length] at eM t7
  walk_at "rd"
  have hst : H7 d = some (.dK (stw S)) := b7 _ _ h4.st ndt
  have f7 : ∀ b o, H b = some o → b ≠ S.pt → H7 b = some o := fun b o e nb => b7 _ _ (s4 _ _ e) nb
  have dom7 : ∀ b, H7 b = none → H b = none := fun b e => by
   cases eb : H b with
   | none => rfl
   | some o =>
    by_cases z : b = S.pt
    ·rw [z, t7] at e; cases e
    ·rw [f7 b o eb z] at e; cases e
  obtain ⟨S1, eS1⟩ : ∃ S1 : Sv, S1 = { S with pn := pn, N := F1 ++ M } := ⟨_, rfl⟩
  refine ⟨_, z71 hst pn (F1 ++ M), ?_⟩
  rw [← eS1]
  have g8d : upd H7 d (.dK (stw S1)) d = some (.dK (stw S1)) := z7
  have f8 : ∀ b o, H7 b = some o → b ≠ d → upd H7 d (.dK (stw S1)) b = some o := fun b o e nb => by rw [z8 nb]; exact e
  have dom8 : ∀ b, upd H7 d (.dK (stw S1)) b = none → H7 b = none := fun b e => by
   by_cases z : b = d
   ·rw [z, z7] at e; cases e
   ·rwa [z8 z] at e
  generalize upd H7 d (.dK (stw S1)) = H8 at g8d f8 dom8 ⊢
  have nl : ∀ b xs, H7 b = some (.lst xs) → b ≠ d := fun b xs e z => by rw [z, hst] at e; cases e
  have nt : ∀ b xs, H7 b = some (.tup xs) → b ≠ d := fun b xs e z => by rw [z, hst] at e; cases e
  obtain ⟨hnd, hsd⟩ := And.intro hS.nd hS.sd
  have npu_pt : S.pu ≠ S.pt := by have := hS.nd; simp [Sv.lists] at this; exact this.1.1
  have npr_pt : S.pr ≠ S.pt := by have := hS.nd; simp [Sv.lists] at this; exact fun e => this.2.1.2.1 e.symm
  have npc_pt : S.pc ≠ S.pt := by have := hS.nd; simp [Sv.lists] at this; exact fun e => this.2.1.2.2.1 e.symm
  have npl_pt : S.pl ≠ S.pt := by have := hS.nd; simp [Sv.lists] at this; exact fun e => this.2.1.2.2.2 e.symm
  have npu_pl : S.pu ≠ S.pl := by have := hS.nd; simp [Sv.lists] at this; exact this.1.2.2.2.2
  have u7 := f7 _ _ hS.gu npu_pt
  have r7 := f7 _ _ hS.gr npr_pt
  have c7 := f7 _ _ hS.gc npc_pt
  have l7 := f7 _ _ hS.gl npl_pt
  have r8 := f8 _ _ r7 (nl _ _ r7)
  have ePr : S1.pr = S.pr := by rw [eS1]
  have ePc : S1.pc = S.pc := by rw [eS1]
  have ePl : S1.pl = S.pl := by rw [eS1]
  have eNow : S1.now = S.now := by rw [eS1]
  have q8 := zjz g8d
  rw [ePr] at q8
  refine ⟨_, q8, _, rfl, ⟨_, SqL.of r8⟩, ?_⟩
  refine z1j (xs := []) (zd (by decide)) (fun j acc H' => H' = H8 ∧ acc = []) ⟨rfl, rfl⟩ ?_ ?_ ?_ ?_
  ·rintro j acc H' ⟨-, rfl⟩
   exact Nat.zero_le _
  ·rintro j acc H' ⟨rfl, -⟩
   exact SqL.of r8
  ·rintro Nn j acc H' x hN hx hj ⟨rfl, rfl⟩
   cases hx
  rintro acc H' ⟨rfl, rfl⟩ pr2 hpr2
  have s9 := Same.upd (o := .lst []) hpr2
  have g9 : upd H' pr2 (.lst []) pr2 = some (.lst []) := z7
  generalize upd H' pr2 (.lst []) = H9 at s9 g9 ⊢
  refine ⟨_, zes (s9 _ _ g8d) pr2, ?_⟩
  obtain ⟨S2, eS2⟩ : ∃ S2 : Sv, S2 = { S1 with pr := pr2 } := ⟨_, rfl⟩
  rw [← eS2]
  have g9d := s9 _ _ g8d
  have g10d : upd H9 d (.dK (stw S2)) d = some (.dK (stw S2)) := z7
  have f10 : ∀ b o, H9 b = some o → b ≠ d → upd H9 d (.dK (stw S2)) b = some o := fun b o e nb => by rw [z8 nb]; exact e
  have dom10 : ∀ b, upd H9 d (.dK (stw S2)) b = none → H9 b = none := fun b e => by
   by_cases z : b = d
   ·rw [z, z7] at e; cases e
   ·rwa [z8 z] at e
  generalize upd H9 d (.dK (stw S2)) = H10 at g10d f10 dom10 ⊢
  have f710 : ∀ b o, H7 b = some o → b ≠ d → H10 b = some o := fun b o e nb => f10 _ _ (s9 _ _ (f8 _ _ e nb)) nb
  have c10 := f710 _ _ c7 (nl _ _ c7)
  have kc10 : ∀ z ∈ S.C, H10 z.1 = some (.tup (cyv z.2)) := fun z hz => by
   have h1 := f7 _ _ (hS.kc z hz) fun e => by have := hS.kc z hz; rw [e, hS.gt] at this; cases this
   exact f710 _ _ h1 (nt _ _ h1)
  have ePc2 : S2.pc = S.pc := by rw [eS2]; exact ePc
  have q10 := zcd g10d
  rw [ePc2] at q10
  refine ⟨_, q10, _, rfl, ⟨_, SqL.of c10⟩, ?_⟩
  refine z1j (xs := refs S.C) (by rw [z14]; exact zd (by omega)) (fun j acc H' => H' = H10 ∧ acc = refs ((S.C.take j).filter fun q => !(decide (q.2.h = hd) && decide (q.2.l = lk)))) ⟨rfl, rfl⟩ ?_ ?_ ?_ ?_
  ·rintro j acc H' ⟨-, rfl⟩
   rw [z14]
   exact Nat.le_trans (List.length_filter_le _ _) (by rw [List.length_take]; omega)
  ·rintro j acc H' ⟨rfl, -⟩
   exact SqL.of c10
  ·rintro Nn j acc H' x hN hx hj ⟨rfl, rfl⟩
   obtain ⟨y, hy, rfl⟩ := z2o hx
   have stp := z1i (fun q : Addr × Nt => !(decide (q.2.h = hd) && decide (q.2.l = lk))) hy
   have hy1 := kc10 y (List.mem_of_getElem? hy)
   walk_at "rd"
   refine ⟨_, _, _, _, rfl, rfl, SqT.of hy1, zc (j := 0) rfl, rfl, ?_⟩
   by_cases c1 : y.2.h = hd
   ·rw [if_neg (by simp [c1])]
    refine ⟨_, _, _, _, rfl, rfl, SqT.of hy1, zc (j := 2) rfl, rfl, ?_⟩
    by_cases c2 : y.2.l = lk
    ·rw [if_neg (by simp [c2])]
     refine hN _ _ ⟨rfl, ?_⟩
     rw [stp, if_neg (by simp [c1, c2]), List.append_nil]
    ·rw [if_pos (by simp [c2])]
     refine hN _ _ ⟨rfl, ?_⟩
     rw [stp, if_pos (by simp [c2])]
     simp [refs]
   ·rw [if_pos (by simp [c1])]
    refine hN _ _ ⟨rfl, ?_⟩
    rw [stp, if_pos (by simp [c1])]
    simp [refs]
  rintro acc H' ⟨rfl, rfl⟩ pc2 hpc2
  rw [z14, List.take_length]
  have kC2 : ∀ z ∈ S.C.filter (fun q => !(decide (q.2.h = hd) && decide (q.2.l = lk))), z ∈ S.C := fun z hz => (List.mem_filter.mp hz).1
  have lC2 : (S.C.filter fun q => !(decide (q.2.h = hd) && decide (q.2.l = lk))).length ≤ S.C.length := List.length_filter_le _ _
  generalize (S.C.filter fun q => !(decide (q.2.h = hd) && decide (q.2.l = lk))) = C2 at kC2 lC2 ⊢
  have s11 := Same.upd (o := .lst (refs C2)) hpc2
  have g11 : upd H' pc2 (.lst (refs C2)) pc2 = some (.lst (refs C2)) := z7
  generalize upd H' pc2 (.lst (refs C2)) = H11 at s11 g11 ⊢
  refine ⟨_, zce (s11 _ _ g10d) pc2 C2, ?_⟩
  obtain ⟨S3, eS3⟩ : ∃ S3 : Sv, S3 = { S2 with pc := pc2, C := C2 } := ⟨_, rfl⟩
  rw [← eS3]
  have npd : pc2 ≠ d := fun e => by rw [e, s11 _ _ g10d] at g11; cases g11
  have g12d : upd H11 d (.dK (stw S3)) d = some (.dK (stw S3)) := z7
  have f12 : ∀ b o, H11 b = some o → b ≠ d → upd H11 d (.dK (stw S3)) b = some o := fun b o e nb => by rw [z8 nb]; exact e
  generalize upd H11 d (.dK (stw S3)) = H12 at g12d f12 ⊢
  have ePc3 : S3.pc = pc2 := by rw [eS3]
  have q12 := zcd g12d
  rw [ePc3] at q12
  have c12 := f12 _ _ g11 npd
  refine ⟨_, q12, .inl ⟨_, SqL.of c12⟩, zd (by decide), fun py hpy => ?_⟩
  have s13 := Same.upd (o := .tup [V.str hd, V.int (1 + m), V.str lk, V.bl sh, V.int (S.now + tm)]) hpy
  have g13 : upd H12 py (.tup [V.str hd, V.int (1 + m), V.str lk, V.bl sh, V.int (S.now + tm)]) py = some (.tup (cyv ⟨1 + m, hd, lk, sh, S.now + tm⟩)) := z7
  generalize upd H12 py _ = H13 at s13 g13 ⊢
  have c13 := s13 _ _ c12
  refine ⟨pc2, _, _, rfl, rfl, c13, z1l (by rw [z14]; omega), ?_⟩
  have g14c : upd H13 pc2 (.lst (refs C2 ++ [V.ref py])) pc2 = some (.lst (refs (C2 ++ [(py, ⟨1 + m, hd, lk, sh, S.now + tm⟩)]))) := by rw [z7]; simp [refs]
  have f14 : ∀ b o, H13 b = some o → b ≠ pc2 → upd H13 pc2 (.lst (refs C2 ++ [V.ref py])) b = some o := fun b o e nb => by rw [z8 nb]; exact e
  have dom14 : ∀ b, upd H13 pc2 (.lst (refs C2 ++ [V.ref py])) b = none → H13 b = none := fun b e => by
   by_cases z : b = pc2
   ·rw [z, z7] at e; cases e
   ·rwa [z8 z] at e
  generalize upd H13 pc2 (.lst (refs C2 ++ [V.ref py])) = H14 at g14c f14 dom14 ⊢
  have f1014 : ∀ b o, H' b = some o → b ≠ d → H14 b = some o := fun b o e nb => f14 _ _ (s13 _ _ (f12 _ _ (s11 _ _ e) nb)) (za e hpc2)
  have f714 : ∀ b o, H7 b = some o → b ≠ d → H14 b = some o := fun b o e nb => f1014 _ _ (f710 _ _ e nb) nb
  have g14d : H14 d = some (.dK (stw S3)) := f14 _ _ (s13 _ _ g12d) npd.symm
  have ePl3 : S3.pl = S.pl := by rw [eS3, eS2, eS1]
  have eNow3 : S3.now = S.now := by rw [eS3, eS2, eS1]
  have q14 := zgl g14d
  rw [ePl3] at q14
  have n14 := z29 g14d
  rw [eNow3] at n14
  have l14 := f714 _ _ l7 (nl _ _ l7)
  have rb7 := b7 _ _ grb4 nrb
  have rb14 := f714 _ _ rb7 (nl _ _ rb7)
  refine ⟨_, q14, .inl ⟨_, SqL.of l14⟩, _, n14, _, .inl ⟨SqL.of rb14, fun pb hpb => ⟨zd (by decide), fun pg hpg => ?_⟩⟩⟩
  have s15 := Same.upd (o := .tup (zy (sayL S hd lk sh))) hpb
  generalize upd H14 pb (.tup (zy (sayL S hd lk sh))) = H15 at s15 hpg ⊢
  have s16 := s15.trans (Same.upd (o := .tup [V.str "given", V.int S.now, V.str hd, V.str lk, V.bl sh, V.int (1 + m), V.int (S.now + tm), V.ref pb]) hpg)
  have g16 : upd H15 pg (.tup [V.str "given", V.int S.now, V.str hd, V.str lk, V.bl sh, V.int (1 + m), V.int (S.now + tm), V.ref pb]) pg = some (.tup [V.str "given", V.int S.now, V.str hd, V.str lk, V.bl sh, V.int (1 + m), V.int (S.now + tm), V.ref pb]) := z7
  generalize upd H15 pg _ = H16 at s16 g16 ⊢
  have l16 := s16 _ _ l14
  refine ⟨_, _, _, rfl, rfl, l16, z1l (by omega), ?_⟩
  have g17l : upd H16 S.pl (.lst (S.lg ++ [V.ref pg])) S.pl = some (.lst (S.lg ++ [V.ref pg])) := z7
  have f17 : ∀ b o, H16 b = some o → b ≠ S.pl → upd H16 S.pl (.lst (S.lg ++ [V.ref pg])) b = some o := fun b o e nb => by rw [z8 nb]; exact e
  generalize upd H16 S.pl (.lst (S.lg ++ [V.ref pg])) = H17 at g17l f17 ⊢
  have F7 : ∀ b o, H7 b = some o → b ≠ d → b ≠ S.pl → H17 b = some o := fun b o e n1 n2 => f17 _ _ (s16 _ _ (f714 _ _ e n1)) n2
  have FH : ∀ b o, H b = some o → b ≠ S.pt → b ≠ d → b ≠ S.pl → H17 b = some o := fun b o e n1 n2 n3 => F7 _ _ (f7 _ _ e n1) n2 n3
  have FT : ∀ b xs, H b = some (.tup xs) → H17 b = some (.tup xs) := fun b xs e => FH _ _ e (fun z => by rw [z, hS.gt] at e; cases e) (fun z => by rw [z, hS.st] at e; cases e) (fun z => by rw [z, hS.gl] at e; cases e)
  have FL : ∀ b xs, H b = some (.lst xs) → b ∉ S.lists → H17 b = some (.lst xs) := fun b xs e nb => FH _ _ e (fun z => nb (by rw [z]; simp [Sv.lists])) (fun z => by rw [z, hS.st] at e; cases e) (fun z => nb (by rw [z]; simp [Sv.lists]))
  have su := hS.su
  have nS : ∀ x ∈ u.lists, x ∉ S.lists := fun x hx hx2 => hS.sd x hx2 hx
  have dl : S.pl ≠ d := nl _ _ l7
  have hpr2n : H pr2 = none := dom7 _ (dom8 _ hpr2)
  have hpc2n : H pc2 = none := by
   have h10 := dom10 _ hpc2
   exact dom7 _ (dom8 _ (zv s9 h10))
  subst eS1
  subst eS2
  subst eS3
  have pn_pl : pn ≠ S.pl := fun e => by rw [e, h4.gl] at hpn; cases hpn
  have pn_pu : pn ≠ S.pu := fun e => by rw [e, h4.gu] at hpn; cases hpn
  have l8 := f8 _ _ l7 (nl _ _ l7)
  have pr_pl : pr2 ≠ S.pl := fun e => by rw [e, l8] at hpr2; cases hpr2
  have pr_pu : pr2 ≠ S.pu := fun e => by rw [e, f8 _ _ u7 (nl _ _ u7)] at hpr2; cases hpr2
  have pr_pt : pr2 ≠ S.pt := fun e => by rw [e, f8 _ _ t7 (nl _ _ t7)] at hpr2; cases hpr2
  have pr_pn : pr2 ≠ pn := fun e => by rw [e, f8 _ _ g7 (nl _ _ g7)] at hpr2; cases hpr2
  have pr_d : pr2 ≠ d := fun e => by rw [e, g8d] at hpr2; cases hpr2
  have pc_pl : pc2 ≠ S.pl := fun e => by rw [e, f710 _ _ l7 (nl _ _ l7)] at hpc2; cases hpc2
  have pc_pu : pc2 ≠ S.pu := fun e => by rw [e, f710 _ _ u7 (nl _ _ u7)] at hpc2; cases hpc2
  have pc_pt : pc2 ≠ S.pt := fun e => by rw [e, f710 _ _ t7 (nl _ _ t7)] at hpc2; cases hpc2
  have pc_pn : pc2 ≠ pn := fun e => by rw [e, f710 _ _ g7 (nl _ _ g7)] at hpc2; cases hpc2
  have r10 := f10 _ _ g9 pr_d
  have pc_pr : pc2 ≠ pr2 := fun e => by rw [e, r10] at hpc2; cases hpc2
  have py_pc : py ≠ pc2 := fun e => by rw [e, c12] at hpy; cases hpy
  have g14y := f14 _ _ g13 py_pc
  have tl : ∀ b xs, H16 b = some (.tup xs) → b ≠ S.pl := fun b xs e z => by rw [z, l16] at e; cases e
  refine q m ⟨S.now, S.ps, S.pu, S.pt, pn, pr2, pc2, S.pk, S.po, S.pl, S.us, topS S.ts (sayL S hd lk sh) (1 + m), F1 ++ M, C2 ++ [(py, ⟨1 + m, hd, lk, sh, S.now + tm⟩)], S.lg ++ [V.ref pg]⟩ H17 pg pb hT
   ⟨f17 _ _ (s16 _ _ g14d) dl.symm, ⟨FT _ _ su.tu, FL _ _ su.gh (nS _ (by simp [Su.lists])), FL _ _ su.gl (nS _ (by simp [Su.lists])), FL _ _ su.gc (nS _ (by simp [Su.lists])), FL _ _ su.gt (nS _ (by simp [Su.lists]))⟩,
    F7 _ _ u7 (nl _ _ u7) npu_pl, F7 _ _ t7 (nl _ _ t7) npl_pt.symm, F7 _ _ g7 (nl _ _ g7) pn_pl, fun z hz => ?_, f17 _ _ (s16 _ _ (f1014 _ _ r10 pr_d)) pr_pl, f17 _ _ (s16 _ _ g14c) pc_pl, fun z hz => ?_, g17l, ?_, fun x hx hx2 => ?_⟩
   rfl rfl rfl rfl ?_ ?_ rfl (f17 _ _ g16 (tl _ _ g16)) (fun x hx => ?_) fun b o e nb => ?_
  ·rcases List.mem_append.mp hz with hz | hz
   ·exact FT _ _ (hS.kn z (kF z hz))
   ·have := kM z hz
    exact F7 _ _ this (nt _ _ this) fun e => by rw [e, l7] at this; cases this
  ·rcases List.mem_append.mp hz with hz | hz
   ·exact FT _ _ (hS.kc z (kC2 z hz))
   ·rw [List.mem_singleton.mp hz]
    have := s16 _ _ g14y
    exact f17 _ _ this (tl _ _ this)
  ·show [S.pu, S.pt, pn, pr2, pc2, S.pl].Nodup
   simp [npu_pt, npu_pl, pn_pu.symm, pr_pu.symm, pc_pu.symm, npt.symm, pr_pt.symm, pc_pt.symm, npl_pt.symm, pr_pn.symm, pc_pn.symm, pn_pl, pc_pr.symm, pr_pl, pc_pl]
  ·have hx3 : x ∈ [S.pu, S.pt, pn, pr2, pc2, S.pl] := hx
   have hsu : ∃ xs, H x = some (.lst xs) := by
    simp only [Su.lists, List.mem_cons, List.not_mem_nil, or_false] at hx2
    rcases hx2 with rfl | rfl | rfl | rfl
    ·exact ⟨_, su.gh⟩
    ·exact ⟨_, su.gl⟩
    ·exact ⟨_, su.gc⟩
    ·exact ⟨_, su.gt⟩
   obtain ⟨xs, ex⟩ := hsu
   simp only [List.mem_cons, List.not_mem_nil, or_false] at hx3
   rcases hx3 with rfl | rfl | rfl | rfl | rfl | rfl
   ·exact hS.sd _ (by simp [Sv.lists]) hx2
   ·exact hS.sd _ (by simp [Sv.lists]) hx2
   ·rw [hpn0] at ex; cases ex
   ·rw [hpr2n] at ex; cases ex
   ·rw [hpc2n] at ex; cases ex
   ·exact hS.sd _ (by simp [Sv.lists]) hx2
  ·show (F1 ++ M).map (·.2) = _
   rw [List.map_append, eF, eM]
   rfl
  ·show (C2 ++ [(py, _)]).length ≤ _
   rw [List.length_append]
   show _ + 1 ≤ _
   omega
  ·have hx3 : x ∈ [S.pu, S.pt, pn, pr2, pc2, S.pl] := hx
   simp only [List.mem_cons, List.not_mem_nil, or_false] at hx3
   rcases hx3 with rfl | rfl | rfl | rfl | rfl | rfl
   ·exact .inl (by simp [Sv.lists])
   ·exact .inl (by simp [Sv.lists])
   ·exact .inr hpn0
   ·exact .inr hpr2n
   ·exact .inr hpc2n
   ·exact .inl (by simp [Sv.lists])
  ·simp only [own, List.mem_cons, List.not_mem_nil, or_false, not_or] at nb
   exact FH b o e nb.2.2.1 nb.1 nb.2.2.2.2
def isDr (num now : Int) (us : List Bool) (q : Nk) : Bool := decide (q.x.n = num) && (decide (now < q.x.e) && us.getD q.k false)
def z99 (K : PySem.W.Frag) : Sp := fun vs H Q _ => ∃ (d : Addr) (S : Sv) (u : Su) (num : Int), vs = [.ref d, .int num] ∧ StAt H d S u ∧ SayP S u ∧ (∀ q ∈ S.N, q.2.k < u.n) ∧ (S.N.filter fun q => isDr num S.now S.us q.2).length < 64 ∧
 ∀ (r pn : Addr) (ks : List Int) (H' : Hp), ks.Perm ((S.N.filter fun q => isDr num S.now S.us q.2).map fun q => (q.2.k : Int) + 1) → ks.Pairwise (· ≤ ·) → H' r = some (.lst (ks.map V.int)) → StAt H' d { S with pn := pn, N := S.N.filter fun q => !isDr num S.now S.us q.2 } u → H pn = none → H r = none → ButK [d] H H' → Q (.ref r) H'
theorem z9a (F : Def K mg "_law_dropped" z3x ["_law_state", "_law_number"]) (T : Txt K mg C_Council C_Down C_InTheWay C_Keeper C_NotFree C_OldNumber C_UnknownKeeper Pt__law_notes cd__law_notes) : Has P w K mg base 1 "_law_dropped" ["_law_state", "_law_number"] (z99 K) := by
 refine F.ok sc__law_dropped (fun vs H Q E h => ?_) (fun f cdv A outer s H vs Q E hr h => ?_)
 ·obtain ⟨d, S, u, num, rfl, _⟩ := h
  rfl
 ·obtain ⟨d, S, u, num, rfl, hS, ⟨hok, hun, hll, hn⟩, hk, h64, q⟩ := h
  have hu := hr.units0
  have hu2 := z3y hr
  refine ⟨_, (z9 (zi (i := 2) sc__law_dropped.nd rfl (Or.inl rfl) (z1b z6))
   (z9 (zi (i := 3) sc__law_dropped.nd rfl (Or.inl rfl) (z1b z6))
   (z9 (z2p PassesOwn.never rfl (z18 (zu hu2 (pv 0) zj (fun _ _ => rfl))) (z15 (i := 4) sc__law_dropped.nd rfl (Or.inl rfl)) (zb (zx (PW.pt (z36 (zm z19 (zh ix_tup (pv 4) z4 (fun _ _ => rfl)) (pv 1) (zl _)) (z36 (zm z8g (zh ix_tup (pv 4) z4 (fun _ _ => rfl)) (zu hu2 (pv 0) zj (fun _ _ => rfl)) (zl _)) (z4i (z1f (zh ix_list (zu hu2 (pv 0) zj (fun _ _ => rfl)) (ze z2q (zh ix_tup (pv 4) z4 (fun _ _ => rfl)) z4) (fun _ _ => rfl))))))) (zb (z1h (z2f PySem.F.plainAttrs_list PySem.F.slot_list_append PySem.F.type_list_append z1t (pv 2) (z0 (zh ix_tup (pv 4) z4 (fun _ _ => rfl)) z6)))) (zb (z1h (z2f PySem.F.plainAttrs_list PySem.F.slot_list_append PySem.F.type_list_append z1t (pv 3) (z0 (pv 4) z6)))))))
   (z9 (z5j hu2 (pv 0) zj (pv 3) rfl)
   (zb (zk (zg zc0 rfl T.b_sorted (by decide +kernel) (z0 (pv 2) z6)))))))), ?_⟩
  walk_at "rd"
  refine ⟨Nat.zero_le _, fun pf hpf => ⟨Nat.zero_le _, fun pn hpn => ?_⟩⟩
  have s1 := Same.upd (o := .lst []) hpf
  have g1 : upd H pf (.lst []) pf = some (.lst []) := z7
  generalize upd H pf (.lst []) = H1 at s1 g1 hpn ⊢
  have s2 := Same.upd (o := .lst []) hpn
  have g2 : upd H1 pn (.lst []) pn = some (.lst []) := z7
  have g2f := s2 _ _ g1
  have nfn : pf ≠ pn := fun e => by rw [e, hpn] at g1; cases g1
  generalize upd H1 pn (.lst []) = H2 at s2 g2 g2f ⊢
  have s12 := s1.trans s2
  have hpn0 : H pn = none := zv s1 hpn
  refine ⟨_, z66 (s12 _ _ hS.st), _, rfl, ⟨_, SqL.of (s12 _ _ hS.gn)⟩, ?_⟩
  refine z27 (xs := refk S.N) (fun i σ H' => ∃ (v4 : Option V), σ = [some (V.ref d), some (V.int num), some (V.ref pf), some (V.ref pn), v4] ∧ H' pf = some (.lst ((((S.N.take i).filter fun q => isDr num S.now S.us q.2).map fun q => (q.2.k : Int) + 1).map V.int)) ∧ H' pn = some (.lst (refk ((S.N.take i).filter fun q => !isDr num S.now S.us q.2))) ∧ Same H H') ⟨_, rfl, g2f, g2, s12⟩ ?_ ?_ ?_
  ·rintro i σ H' - ⟨v4, -, -, -, s3⟩
   exact SqL.of (s3 _ _ hS.gn)
  ·rintro Pv hP i x σ H' hx ⟨v4, rfl, gf, gn, s3⟩
   obtain ⟨y, hy, rfl⟩ := z65 hx
   have my := List.mem_of_getElem? hy
   have hi : i < S.N.length := (List.getElem?_eq_some_iff.mp hy).1
   have st1 := z1i (fun q : Addr × Nk => isDr num S.now S.us q.2) hy
   have st2 := z1i (fun q : Addr × Nk => !isDr num S.now S.us q.2) hy
   have hy1 := s3 _ _ (hS.kn y my)
   have hst := s3 _ _ hS.st
   have l1 : ((S.N.take i).filter fun q => isDr num S.now S.us q.2).length ≤ 400 := Nat.le_trans (List.length_filter_le _ _) (by rw [List.length_take]; omega)
   have l2 : ((S.N.take i).filter fun q => !isDr num S.now S.us q.2).length ≤ 400 := Nat.le_trans (List.length_filter_le _ _) (by rw [List.length_take]; omega)
   have yes : isDr num S.now S.us y.2 = true → z77 (V.ref pf) [V.int ((y.2.k : Int) + 1)] H' (fun _ H1 => Pv (i + 1) [some (V.ref d), some (V.int num), some (V.ref pf), some (V.ref pn), some (V.ref y.1)] H1) := fun e => by
    refine ⟨_, _, _, rfl, rfl, gf, z1l (by rw [List.length_map, List.length_map]; omega), hP _ _ _ ⟨_, rfl, by rw [z7, st1, if_pos e]; simp, by rw [z8 nfn.symm, st2, if_neg (by rw [e]; exact Bool.false_ne_true), List.append_nil]; exact gn, fun b o hb => ?_⟩⟩
    rw [z8 (za hb hpf)]
    exact s3 _ _ hb
   have no : isDr num S.now S.us y.2 = false → z77 (V.ref pn) [V.ref y.1] H' (fun _ H1 => Pv (i + 1) [some (V.ref d), some (V.int num), some (V.ref pf), some (V.ref pn), some (V.ref y.1)] H1) := fun e => by
    refine ⟨_, _, _, rfl, rfl, gn, z1l (by rw [z3e]; omega), hP _ _ _ ⟨_, rfl, by rw [z8 nfn, st1, if_neg (by rw [e]; exact Bool.false_ne_true), List.append_nil]; exact gf, by rw [z7, st2, if_pos (by rw [e]; rfl)]; simp [refk], fun b o hb => ?_⟩⟩
    rw [z8 (za hb hpn0)]
    exact s3 _ _ hb
   walk_at "rd"
   have hyk : y.2.k < S.us.length := by have := hk y my; omega
   have gb : (S.us.map V.bl)[y.2.k]? = some (.bl S.us[y.2.k]) := by rw [List.getElem?_map, List.getElem?_eq_getElem hyk]; rfl
   have eb : S.us.getD y.2.k false = S.us[y.2.k] := by rw [List.getD_eq_getElem?_getD, List.getElem?_eq_getElem hyk]; rfl
   refine ⟨_, _, _, _, rfl, rfl, SqT.of hy1, zc (j := 1) rfl, rfl, ?_⟩
   by_cases c1 : y.2.x.n = num
   rotate_left
   ·rw [if_neg (by simpa using c1)]
    exact ⟨.inl ⟨_, SqL.of gn⟩, no (by unfold isDr; simp [c1])⟩
   rw [if_pos (decide_eq_true (congrArg V.int c1))]
   refine ⟨_, _, _, _, rfl, rfl, SqT.of hy1, zc (j := 5) rfl, _, z29 hst, _, rfl, _, rfl, ?_⟩
   by_cases c2 : S.now < y.2.x.e
   rotate_left
   ·rw [if_neg (by simpa using c2)]
    exact ⟨.inl ⟨_, SqL.of gn⟩, no (by unfold isDr; simp [c2])⟩
   rw [if_pos (decide_eq_true c2)]
   refine ⟨_, z95 hst, _, _, _, _, rfl, rfl, SqT.of hy1, zc (j := 0) rfl, _, rfl, ?_⟩
   rw [show ((y.2.k : Int) + 1) - 1 = (y.2.k : Int) by omega]
   refine ⟨_, _, _, _, rfl, rfl, SqL.of (s3 _ _ hS.gu), zc gb, _, rfl, ?_⟩
   cases c3 : S.us[y.2.k] with
   | true =>
    rw [if_pos rfl]
    exact ⟨.inl ⟨_, SqL.of gf⟩, _, _, _, _, rfl, rfl, SqT.of hy1, zc (j := 0) rfl, yes (by unfold isDr; rw [eb, c3]; simp [c1, c2])⟩
   | false =>
    rw [if_neg Bool.false_ne_true]
    exact ⟨.inl ⟨_, SqL.of gn⟩, no (by unfold isDr; rw [eb, c3]; simp)⟩
  rintro σ H' ⟨v4, rfl, gf, gn, s3⟩
  rw [z3e, List.take_length] at gf gn
  walk_at "rd"
  have hst := s3 _ _ hS.st
  refine ⟨_, z71 hst pn (S.N.filter fun q => !isDr num S.now S.us q.2), ?_⟩
  have nfd : pf ≠ d := fun e => by rw [e, hst] at gf; cases gf
  have nnd : pn ≠ d := fun e => by rw [e, hst] at gn; cases gn
  have fL : ∀ b xs, H' b = some (.lst xs) → upd H' d (.dK (stw { S with pn := pn, N := S.N.filter fun q => !isDr num S.now S.us q.2 })) b = some (.lst xs) := fun b xs e => by rw [z8 (fun z => by rw [z, hst] at e; cases e)]; exact e
  have fT : ∀ b xs, H' b = some (.tup xs) → upd H' d (.dK (stw { S with pn := pn, N := S.N.filter fun q => !isDr num S.now S.us q.2 })) b = some (.tup xs) := fun b xs e => by rw [z8 (fun z => by rw [z, hst] at e; cases e)]; exact e
  have g4 : upd H' d (.dK (stw { S with pn := pn, N := S.N.filter fun q => !isDr num S.now S.us q.2 })) d = some (.dK (stw { S with pn := pn, N := S.N.filter fun q => !isDr num S.now S.us q.2 })) := z7
  have b4 : ∀ b o, H b = some o → b ≠ d → upd H' d (.dK (stw { S with pn := pn, N := S.N.filter fun q => !isDr num S.now S.us q.2 })) b = some o := fun b o e nb => by rw [z8 nb]; exact s3 _ _ e
  have d4 : ∀ b, upd H' d (.dK (stw { S with pn := pn, N := S.N.filter fun q => !isDr num S.now S.us q.2 })) b = none → H b = none := fun b e => by
   by_cases z : b = d
   ·rw [z, z7] at e; cases e
   ·rw [z8 z] at e; exact zv s3 e
  generalize upd H' d _ = H4 at fL fT g4 b4 d4 ⊢
  have hS3 := hS.mono s3
  refine ⟨_, SqL.of (fL _ _ gf), by rw [List.length_map]; exact h64, fun r ks hr0 hp hs => ?_⟩
  have s5 := Same.upd (o := .lst (ks.map V.int)) hr0
  have nn : ∀ x ∈ S.lists, x ≠ pn := fun x hx e => by
   have : ∃ xs, H x = some (.lst xs) := by
    simp only [Sv.lists, List.mem_cons, List.not_mem_nil, or_false] at hx
    rcases hx with rfl | rfl | rfl | rfl | rfl | rfl
    ·exact ⟨_, hS.gu⟩
    ·exact ⟨_, hS.gt⟩
    ·exact ⟨_, hS.gn⟩
    ·exact ⟨_, hS.gr⟩
    ·exact ⟨_, hS.gc⟩
    ·exact ⟨_, hS.gl⟩
   obtain ⟨xs, ex⟩ := this
   rw [e, hpn0] at ex
   cases ex
  have hnd := hS.nd
  have st4 : StAt H4 d { S with pn := pn, N := S.N.filter fun q => !isDr num S.now S.us q.2 } u := by
   refine ⟨g4, ⟨fT _ _ hS3.su.tu, fL _ _ hS3.su.gh, fL _ _ hS3.su.gl, fL _ _ hS3.su.gc, fL _ _ hS3.su.gt⟩, fL _ _ hS3.gu, fL _ _ hS3.gt, fL _ _ gn, fun z hz => fT _ _ (hS3.kn z (List.mem_filter.mp hz).1), fL _ _ hS3.gr, fL _ _ hS3.gc, fun z hz => fT _ _ (hS3.kc z hz), fL _ _ hS3.gl, ?_, fun x hx hx2 => ?_⟩
   ·show [S.pu, S.pt, pn, S.pr, S.pc, S.pl].Nodup
    have a1 := nn S.pu (by simp [Sv.lists])
    have a2 := nn S.pt (by simp [Sv.lists])
    have a3 := nn S.pr (by simp [Sv.lists])
    have a4 := nn S.pc (by simp [Sv.lists])
    have a5 := nn S.pl (by simp [Sv.lists])
    simp only [Sv.lists, List.nodup_cons, List.mem_cons, List.not_mem_nil, or_false, not_or, List.nodup_nil, and_true, not_false_eq_true] at hnd ⊢
    obtain ⟨⟨x1, x2, x3, x4, x5⟩, ⟨y1, y2, y3, y4⟩, ⟨z1, z2, z3⟩, ⟨w1, w2⟩, v⟩ := hnd
    exact ⟨⟨x1, a1, x3, x4, x5⟩, ⟨a2, y2, y3, y4⟩, ⟨a3.symm, a4.symm, a5.symm⟩, ⟨w1, w2⟩, v⟩
   ·have hx3 : x ∈ [S.pu, S.pt, pn, S.pr, S.pc, S.pl] := hx
    simp only [List.mem_cons, List.not_mem_nil, or_false] at hx3
    rcases hx3 with rfl | rfl | rfl | rfl | rfl | rfl
    ·exact hS.sd _ (by simp [Sv.lists]) hx2
    ·exact hS.sd _ (by simp [Sv.lists]) hx2
    ·simp only [Su.lists, List.mem_cons, List.not_mem_nil, or_false] at hx2
     rcases hx2 with rfl | rfl | rfl | rfl
     ·rw [hS.su.gh] at hpn0; cases hpn0
     ·rw [hS.su.gl] at hpn0; cases hpn0
     ·rw [hS.su.gc] at hpn0; cases hpn0
     ·rw [hS.su.gt] at hpn0; cases hpn0
    ·exact hS.sd _ (by simp [Sv.lists]) hx2
    ·exact hS.sd _ (by simp [Sv.lists]) hx2
    ·exact hS.sd _ (by simp [Sv.lists]) hx2
  refine q r pn ks _ hp hs z7 (st4.mono s5) hpn0 (d4 _ hr0) fun b o e nb => s5 _ _ (b4 b o e (by simpa using nb))
def z4g (n : Int) (L : NL) : NL := L.filter fun q => decide (q.2.n ≠ n)
def hasn (n : Int) (L : NL) : Bool := L.any fun q => decide (q.2.n = n)
def zgp (C : Addr) : Sp := fun vs H Q _ => ∃ (k : Addr) (u : Bool) (t : Int) (L : NL) (n tick : Int), vs = [.ref k, .int n, .int tick] ∧ KeeperAt C H k u t L ∧
 ((u && hasn n (z16 tick L)) = false → ∀ (H' : Hp), Same H H' → Q (.bl false) H') ∧ ((u && hasn n (z16 tick L)) = true → ∀ (H' : Hp) (dx p3 : Addr), H p3 = none → H' k = some (.ins C dx (kf u t p3)) → KeeperAt C H' k u t (z4g n L) → But k H H' → Q (.bl true) H')
theorem za7 (F : MDef K C_Keeper "drop" "Keeper.drop" z4b ["self", "number", "tick"]) (T : Txt K mg C_Council C_Down C_InTheWay C_Keeper C_NotFree C_OldNumber C_UnknownKeeper Pt__law_notes cd__law_notes) (G_Keeper_live : MHas P w K mg base CX0 1 C_Keeper "live" ["self", "tick"] (z8v C_Keeper)) : MHas P w K mg base CX0 2 C_Keeper "drop" ["self", "number", "tick"] (zgp C_Keeper) := by
 refine F.ok z9u (fun vs H Q E h => ?_) (fun f cdv A outer s H vs Q E hr h => ?_)
 ·obtain ⟨k, u, t, L, n, tick, rfl, _⟩ := h
  rfl
 ·obtain ⟨k, u, t, L, n, tick, rfl, hk, q1, q2⟩ := h
  have hu := hr.units0
  refine ⟨_, (z9 (zx (PW.pt (z8f (z37 (z1f (z26 (pv 0) rfl))) (z6h (zm z6l (pv 1) (z1v (x := "note") (cap := []) (js := []) rfl ⟨rfl, by decide +kernel, by decide +kernel, rfl, zw rfl, by decide +kernel, trivial⟩ (z18 (z1y G_Keeper_live T.cl_Keeper (hr.mono (by decide)) (pv 0) (z0 (pv 2) z6))) (fun _ _ _ _ => z32) (fun _ _ _ _ => (zh (z1w (K := K)) (pv 0) z4 (fun _ _ => rfl)))) (by with_unfolding_all rfl))))) (zb (zk z24)) zn)
   (z9 (z38 (pv 0) (z1v (x := "note") (cap := ["number"]) (js := [1]) rfl ⟨rfl, by decide +kernel, by decide +kernel, rfl, zw rfl, by decide +kernel, ⟨⟨rfl, Or.inl rfl, rfl⟩, trivial⟩⟩ (z18 (z26 (pv 0) rfl)) (fun _ _ _ _ => (z2g (zm z2l (zh (z1w (K := K)) (pv 0) z4 (fun _ _ => rfl)) (pv 1) (zl _)))) (fun _ _ _ _ => (pv 0))) rfl)
   (zb (zk z24)))), ?_⟩
  walk_at "rd"
  obtain ⟨⟨dx, l, h1, h2⟩, hn, hlen⟩ := id hk
  refine ⟨_, _, _, h1, T.cl_Keeper, T.n_Keeper_up, _, z7a u t l, u, rfl, ?_⟩
  cases hup : u with
  | false => exact q1 (by rw [hup]; rfl) H (Same.refl _)
  | true =>
  rw [if_neg (by decide)]
  refine ⟨_, _, h1, z41 u t l (by decide +kernel) (by decide +kernel) (by decide +kernel), k, u, t, L, tick, rfl, hk, fun r H1 hr0 hr1 hs1 => ⟨r, rfl, ⟨_, SqL.of hr1⟩, ?_⟩⟩
  have hl1 : (z16 tick L).length ≤ L.length := List.length_filter_le _ _
  have hn1 : NotesAt H1 (z16 tick L) := (hn.mono hs1).sub fun q h => (List.mem_filter.mp h).1
  refine z1j (xs := refs (z16 tick L)) (by rw [z14]; exact zd (by omega)) (fun i acc H' => acc = ((z16 tick L).take i).map (fun q => V.int q.2.n) ∧ H1 = H') ⟨by simp, rfl⟩ ?_ ?_ ?_ ?_
  ·rintro i acc H' ⟨rfl, -⟩
   rw [List.length_map, List.length_take]
   omega
  ·rintro i acc H' ⟨-, rfl⟩
   exact SqL.of hr1
  ·rintro Nn i acc H' x hN hx hi ⟨rfl, rfl⟩
   obtain ⟨y, hy, rfl⟩ := z2o hx
   walk_at "rd"
   refine ⟨_, _, _, _, rfl, rfl, SqT.of (hn1.tu _ (List.mem_of_getElem? hy)), zc (j := 0) rfl, hN _ _ ⟨?_, rfl⟩⟩
   rw [List.take_succ, hy, List.map_append]
   rfl
  ·rintro acc H' ⟨rfl, rfl⟩ p hp
   rw [z14, List.take_length]
   have s2 := hs1.trans (Same.upd (o := .lst ((z16 tick L).map fun q => V.int q.2.n)) hp)
   have ein : inV (V.int n) ((z16 tick L).map fun q => V.int q.2.n) = hasn n (z16 tick L) := by
    unfold inV hasn
    rw [List.any_map]
    congr 1
   refine ⟨p, _, rfl, .inl (SqL.of z7), rfl, ?_, ?_⟩
   ·rw [List.all_eq_true]
    intro x hx
    obtain ⟨y, _, rfl⟩ := List.mem_map.mp hx
    rfl
   rw [ein]
   refine ⟨_, rfl, ?_⟩
   cases hh : hasn n (z16 tick L) with
   | false =>
    rw [if_pos (by decide)]
    exact q1 (by rw [hup, hh]; rfl) _ s2
   | true =>
   rw [if_neg (by decide)]
   refine ⟨_, _, _, s2 _ _ h1, T.cl_Keeper, T.n_Keeper_kept, _, z33 u t l, l, rfl, ⟨_, SqL.of (s2 _ _ h2)⟩, ?_⟩
   refine z1j (xs := refs L) (by rw [z14]; exact zd (by omega)) (fun i acc H' => acc = refs (z4g n (L.take i)) ∧ upd H1 p (.lst ((z16 tick L).map fun q => V.int q.2.n)) = H') ⟨by simp [z4g, refs], rfl⟩ ?_ ?_ ?_ ?_
   ·rintro i acc H' ⟨rfl, -⟩
    rw [z14]
    exact Nat.le_trans (List.length_filter_le _ _) (by rw [List.length_take]; omega)
   ·rintro i acc H' ⟨-, rfl⟩
    exact SqL.of (s2 _ _ h2)
   ·rintro Nn i acc H' x hN hx hi ⟨rfl, rfl⟩
    obtain ⟨y, hy, rfl⟩ := z2o hx
    walk_at "rd"
    refine ⟨_, _, _, _, rfl, rfl, SqT.of (s2 _ _ (hn.tu _ (List.mem_of_getElem? hy))), zc (j := 0) rfl, rfl, ?_⟩
    have st := z1i (fun q : Addr × Nt => decide (q.2.n ≠ n)) hy
    by_cases hc : y.2.n = n
    ·rw [if_neg (by simp [hc])]
     refine hN _ _ ⟨?_, rfl⟩
     unfold z4g
     rw [st]
     simp [hc]
    ·rw [if_pos (by simp [hc])]
     refine hN _ _ ⟨?_, rfl⟩
     unfold z4g
     rw [st]
     simp [hc, refs]
   ·rintro acc H' ⟨rfl, rfl⟩ p3 hp3
    rw [z14, List.take_length]
    have s3 := s2.trans (Same.upd (o := .lst (refs (z4g n L))) hp3)
    refine ⟨_, _, _, s3 _ _ h1, T.cl_Keeper, T.n_Keeper_kept, by show (3 : Nat) < 1000; decide, ?_⟩
    rw [z5b]
    have nk3 : k ≠ p3 := za (s2 _ _ h1) hp3
    refine q2 (by rw [hup, hh]; rfl) _ dx p3 (zv s2 hp3) z7 ⟨⟨dx, p3, z7, by rw [z8 nk3.symm, z7]⟩, ⟨fun x hx => ?_, fun x hx => hn.sm _ (List.mem_filter.mp hx).1⟩, Nat.le_trans (List.length_filter_le _ _) hlen⟩ fun b o e nb => ?_
    ·have tz := hn.tu _ (List.mem_filter.mp hx).1
     have nz : x.1 ≠ k := fun e => by rw [e, h1] at tz; cases tz
     rw [z8 nz]
     exact s3 _ _ tz
    ·rw [z8 nb]
     exact s3 _ _ e
def hasN (num tick : Int) (s : KN) : Bool := (z21 tick s.N).any fun x => decide (x.n = num)
def z2a (num tick : Int) (s : KN) : KN := if (s.u && hasN num tick s) = true then ⟨s.u, s.t, s.N.filter fun x => decide (x.n ≠ num)⟩ else s
def z23 (ss : List KN) (js : List Nat) (num tick : Int) : List KN := ss.mapIdx fun j s => if j ∈ js then z2a num tick s else s
def drAt (ss : List KN) (num tick : Int) (j : Nat) : Bool := match ss[j]? with | some s => hasN num tick s | none => false
theorem zgq (ss : List KN) (num tick : Int) : z23 ss [] num tick = ss := by
 unfold z23
 apply List.ext_getElem?
 intro j
 rw [List.getElem?_mapIdx]
 cases ss[j]? <;> simp
theorem zev {ss : List KN} {js : List Nat} {num tick : Int} {i j : Nat} {s : KN} (hj : js[i]? = some j) (hs : ss[j]? = some s) (nd : js.Nodup) : z23 ss (js.take (i + 1)) num tick = (z23 ss (js.take i) num tick).set j (z2a num tick s) ∧ (z23 ss (js.take i) num tick)[j]? = some s := by
 have et : js.take (i + 1) = js.take i ++ [j] := by rw [List.take_succ, hj]; rfl
 have nj : j ∉ js.take i := fun h => by
  obtain ⟨k, hk, e⟩ := List.getElem_of_mem h
  rw [List.length_take] at hk
  have e2 : js[k]? = some j := by rw [List.getElem_take] at e; rw [List.getElem?_eq_getElem (by omega), e]
  have := (List.getElem?_inj (by omega) nd).mp (e2.trans hj.symm)
  omega
 constructor
 ·apply List.ext_getElem?
  intro k
  by_cases hk : k = j
  ·subst hk
   rw [List.getElem?_set_self (by unfold z23; rw [List.length_mapIdx]; exact (List.getElem?_eq_some_iff.mp hs).1)]
   unfold z23
   rw [List.getElem?_mapIdx, hs, et]
   simp
  ·rw [List.getElem?_set_ne (Ne.symm hk)]
   unfold z23
   rw [List.getElem?_mapIdx, List.getElem?_mapIdx, et]
   cases ss[k]? with
   | none => rfl
   | some t => simp [hk]
 ·unfold z23
  rw [List.getElem?_mapIdx, hs]
  simp [nj]
def zdn (CC CK : Addr) : Sp := fun vs H Q _ => ∃ (c l : Addr) (ks ls : List Addr) (ss : List KN) (num tick : Int), vs = [.ref c, .int num, .int tick] ∧ CAt CC CK H c l ks ls ss ∧ z7b ss ∧
 ∀ (r : Addr) (ls' : List Addr) (H' : Hp), LsOk H ls ls' → CAt CC CK H' c l ks ls' (z23 ss (upl ss ks.length) num tick) → H r = none → H' r = some (.lst (zy ((upl ss ks.length).filter (drAt ss num tick)))) → ButK ks H H' → Q (.ref r) H'
theorem z9b (F : MDef K C_Council "drop" "Council.drop" z3w ["self", "number", "tick"]) (T : Txt K mg C_Council C_Down C_InTheWay C_Keeper C_NotFree C_OldNumber C_UnknownKeeper Pt__law_notes cd__law_notes) (G_Keeper_drop : MHas P w K mg base CX0 2 C_Keeper "drop" ["self", "number", "tick"] (zgp C_Keeper)) (G_Council_up_keepers : MHas P w K mg base CX0 1 C_Council "up_keepers" ["self"] (z90 C_Council C_Keeper)) : MHas P w K mg base CX0 3 C_Council "drop" ["self", "number", "tick"] (zdn C_Council C_Keeper) := by
 refine F.ok sc_Council_drop (fun vs H Q E h => ?_) (fun f cdv A outer s H vs Q E hr h => ?_)
 ·obtain ⟨c, l, ks, ls, ss, num, tick, rfl, _⟩ := h
  rfl
 ·obtain ⟨c, l, ks, ls, ss, num, tick, rfl, hc, hsm, q⟩ := h
  have hu := hr.units0
  refine ⟨_, (z9 (zi (i := 3) sc_Council_drop.nd rfl (Or.inl rfl) (z1b z6))
   (z9 (z2p PassesOwn.never rfl (z18 (z3q G_Council_up_keepers T.cl_Council (hr.mono (by decide)) (pv 0))) (zbd rfl (z1p (z15 (i := 4) sc_Council_drop.nd rfl (Or.inl rfl)) (z1p (z15 (i := 5) sc_Council_drop.nd rfl (Or.inl rfl)) z4j))) (zb (zx (z1f (z1y G_Keeper_drop T.cl_Keeper (hr.mono (by decide)) (pv 5) (z0 (pv 1) (z0 (pv 2) z6)))) (zb (z1h (z2f PySem.F.plainAttrs_list PySem.F.slot_list_append PySem.F.type_list_append z1t (pv 3) (z0 (pv 4) z6)))) zn)))
   (zb (zk (pv 3))))), ?_⟩
  walk_at "rd"
  obtain ⟨dx, hob⟩ := hc.ob
  have hsz := hc.sz
  refine ⟨Nat.zero_le _, fun p hp => ?_⟩
  have s1 := Same.upd (o := .lst []) hp
  have g1 : upd H p (.lst []) p = some (.lst (zy [])) := z7
  generalize upd H p (.lst []) = H1 at s1 g1 ⊢
  refine ⟨_, _, s1 _ _ hob, z22 _ _ (by decide +kernel) (by decide +kernel), c, l, ks, ls, ss, rfl, hc.mono s1, fun r L H2 hL hr0 gr s2 => ⟨r, rfl, ⟨_, SqL.of gr⟩, ?_⟩⟩
  have lL := hL.len
  have s12 := s1.trans s2
  have npl : ∀ x ∈ ls, x ≠ p := fun x hx e => by obtain ⟨xs, ex⟩ := hc.lsome hx; rw [e, hp] at ex; cases ex
  have nlp : l ≠ p := fun e => by have := hc.li; rw [e, hp] at this; cases this
  refine z27 (xs := ptup L) (fun i σ H' => ∃ (ls' : List Addr) (v4 v5 : Option V), σ = [some (V.ref c), some (V.int num), some (V.int tick), some (V.ref p), v4, v5] ∧ H' p = some (.lst (zy (((upl ss ks.length).take i).filter (drAt ss num tick)))) ∧ LsOk H2 ls ls' ∧ CAt C_Council C_Keeper H' c l ks ls' (z23 ss ((upl ss ks.length).take i) num tick) ∧ (∀ b o, H2 b = some o → b ∉ ks → b ≠ p → H' b = some o)) ⟨ls, _, _, rfl, s2 _ _ g1, LsOk.refl _ _, by rw [List.take_zero, zgq]; exact hc.mono s12, fun b o e _ _ => e⟩ ?_ ?_ ?_
  ·rintro i σ H' - ⟨ls', v4, v5, -, -, -, hc3, b3⟩
   refine SqL.of (b3 _ _ gr (fun hk => ?_) ?_)
   ·obtain ⟨dx, fs, z⟩ := (hc.mono s12).mem hk
    rw [gr] at z
    cases z
   ·intro e
    rw [e, g1] at hr0
    cases hr0
  ·rintro Pv hP i x σ H' hx ⟨ls', v4, v5, rfl, gp, lo, hc3, b3⟩
   obtain ⟨y, hy, rfl⟩ := z64 hx
   have my := List.mem_of_getElem? hy
   have hj : (upl ss ks.length)[i]? = some y.2.1 := by rw [← hL.mp, List.getElem?_map, hy]; rfl
   have stp := z1i (drAt ss num tick) hj
   obtain ⟨s, l0, hs, hl0, -⟩ := hc.kp y.2.1 y.2.2 (hL.at_ y my)
   obtain ⟨dst, ds⟩ := zev (num := num) (tick := tick) hj hs (z52 ss ks.length)
   obtain ⟨s', l1, hs', hl1, hK⟩ := hc3.kp y.2.1 y.2.2 (hL.at_ y my)
   obtain rfl : s' = s := by rw [ds] at hs'; exact (Option.some.inj hs').symm
   have ty : H' y.1 = some (.tup [.int ((y.2.1 : Int) + 1), .ref y.2.2]) := b3 _ _ (hL.tu y my) (fun hk => by obtain ⟨dx, fs, z⟩ := (hc.mono s12).mem hk; rw [hL.tu y my] at z; cases z) (fun e => by have := hL.tu y my; rw [e, s2 _ _ g1] at this; cases this)
   have eD : drAt ss num tick y.2.1 = hasN num tick s' := by unfold drAt; rw [hs]
   walk_at "rd"
   obtain ⟨⟨dk, a1⟩, Ls, eLs, hku⟩ := id hK
   have su : s'.u = true := by
    have := (z2u (List.mem_of_getElem? hj)).2
    unfold upAt at this
    rw [hs] at this
    exact this
   have eh : hasn num (z16 tick Ls) = hasN num tick s' := by
    unfold hasn hasN
    rw [← eLs, ← z70, List.any_map]
    rfl
   have lp : (((upl ss ks.length).take i).filter (drAt ss num tick)).length ≤ 100 := Nat.le_trans (List.length_filter_le _ _) (by rw [List.length_take]; have := z5m ss ks.length; omega)
   have pk : p ∉ ks := fun hk => by obtain ⟨dx, fs, z⟩ := hc3.mem hk; rw [gp] at z; cases z
   refine ⟨_, SqT.of ty, rfl, _, _, rfl, _, _, rfl, rfl, _, rfl, _, _, a1, z41 _ _ _ (by decide +kernel) (by decide +kernel) (by decide +kernel), ?_⟩
   refine ⟨y.2.2, s'.u, s'.t, Ls, num, tick, rfl, hku, fun e H4 s4 => ⟨false, rfl, ?_⟩, fun e H4 dx4 p3 hp3 a4 k4 b4 => ⟨true, rfl, ?_⟩⟩
   ·rw [if_neg Bool.false_ne_true]
    rw [su, Bool.true_and, eh] at e
    have eS : z2a num tick s' = s' := by unfold z2a; rw [if_neg (by rw [e, Bool.and_false]; exact Bool.false_ne_true)]
    refine hP _ _ _ ⟨ls', _, _, rfl, ?_, lo, ?_, fun b o eb n1 n2 => s4 _ _ (b3 b o eb n1 n2)⟩
    ·rw [stp, if_neg (by rw [eD, e]; exact Bool.false_ne_true), List.append_nil]
     exact s4 _ _ gp
    ·rw [dst, eS, z62 ds]
     exact hc3.mono s4
   ·rw [if_pos rfl]
    rw [su, Bool.true_and, eh] at e
    have eS : z2a num tick s' = ⟨s'.u, s'.t, s'.N.filter fun x => decide (x.n ≠ num)⟩ := by unfold z2a; rw [if_pos (by rw [e, su]; rfl)]
    have hK4 : KAt C_Keeper H4 y.2.2 p3 ⟨s'.u, s'.t, s'.N.filter fun x => decide (x.n ≠ num)⟩ := ⟨⟨dx4, a4⟩, z4g num Ls, by show (z4g num Ls).map (·.2) = _; rw [← eLs]; unfold z4g; rw [List.filter_map]; rfl, k4⟩
    have hc4 := hc3.set (hL.at_ y my) hK4 b4
    rw [← eS, ← dst] at hc4
    have kk : y.2.2 ∈ ks := List.mem_of_getElem? (hL.at_ y my)
    have gp4 := b4 _ _ gp fun z => pk (z ▸ kk)
    have h23 : H2 p3 = none := by
     cases e2 : H2 p3 with
     | none => rfl
     | some o =>
      exfalso
      by_cases z1 : p3 ∈ ks
      ·obtain ⟨dx, fs, z⟩ := hc3.mem z1
       rw [hp3] at z; cases z
      ·by_cases z2 : p3 = p
       ·rw [z2, gp] at hp3; cases hp3
       ·rw [b3 _ _ e2 z1 z2] at hp3; cases hp3
    have lo4 : LsOk H2 ls (ls'.set y.2.1 p3) := fun x hx => by
     rcases List.mem_or_eq_of_mem_set hx with h | h
     ·exact lo x h
     ·rw [h]; exact .inr h23
    have np4 : p ∉ ls'.set y.2.1 p3 := fun hx => by
     rcases lo4 p hx with h | h
     ·exact npl p h rfl
     ·rw [s2 _ _ g1] at h; cases h
    refine ⟨.inl ⟨_, SqL.of gp4⟩, _, _, _, rfl, rfl, gp4, z1l (by rw [z1m]; omega), hP _ _ _ ⟨ls'.set y.2.1 p3, _, _, rfl, ?_, lo4, hc4.upd gp4 nlp np4, fun b o eb n1 n2 => ?_⟩⟩
    ·rw [z7, stp, if_pos (by rw [eD]; exact e)]
     simp [zy]
    ·rw [z8 n2]
     exact b4 _ _ (b3 b o eb n1 n2) fun z => n1 (z ▸ kk)
  rintro σ H' ⟨ls', v4, v5, rfl, gp, lo, hc3, b3⟩
  walk_at "rd"
  have hlen : (ptup L).length = (upl ss ks.length).length := by rw [z3d, ← hL.mp, List.length_map]
  rw [hlen, List.take_length] at gp hc3
  refine q p ls' H' (fun x hx => ?_) hc3 hp gp fun b o e nb => b3 _ _ (s12 _ _ e) nb (za e hp)
  rcases lo x hx with h | h
  ·exact .inl h
  ·exact .inr (zv s12 h)
structure Rel (S : Sv) (ss : List KN) (n : Nat) : Prop where
 us : S.us = ss.map (·.u)
 ts : S.ts = ss.map (·.t)
 ln : ss.length = n
 nt : ∀ j s, ss[j]? = some s → z21 S.now s.N = ((S.N.map (·.2)).filter fun q => decide (q.k = j) && decide (S.now < q.x.e)).map (·.x)
 pw : ∀ s ∈ ss, s.N.Pairwise (fun a b => a.n < b.n) ∧ (∀ x ∈ s.N, x.n ≤ s.t) ∧ 0 ≤ s.t
 kb : ∀ q ∈ S.N, q.2.k < n
theorem Rel.ups {S : Sv} {ss : List KN} {n : Nat} (h : Rel S ss n) : upL S.us = upl ss n := by
 unfold upL upl
 rw [h.us, List.length_map, h.ln]
 refine List.filter_congr fun j hj => ?_
 have hl : j < ss.length := by rw [h.ln]; exact List.mem_range.mp hj
 unfold upAt
 rw [List.getD_eq_getElem?_getD, List.getElem?_map, List.getElem?_eq_getElem hl]
 rfl
theorem Rel.naming {S : Sv} {ss : List KN} {n : Nat} (h : Rel S ss n) {j : Nat} {s : KN} (hs : ss[j]? = some s) (f : Nt → Bool) : ((z21 S.now s.N).any f) = ((S.N.map (·.2)).any fun q => decide (q.k = j) && (decide (S.now < q.x.e) && f q.x)) := by
 rw [h.nt j s hs, List.any_map, List.any_filter]
 congr 1
 funext q
 simp [Bool.and_assoc]
theorem Rel.say {S : Sv} {ss : List KN} {n : Nat} (h : Rel S ss n) (hd lk : Str) (sh : Bool) : sayL S hd lk sh = sayl ss n hd lk sh S.now := by
 unfold sayL sayl
 rw [h.ups]
 refine List.filter_congr fun j hj => ?_
 have hl : j < ss.length := by rw [h.ln]; exact (z2u hj).1
 have hs : ss[j]? = some ss[j] := List.getElem?_eq_getElem hl
 unfold frAt
 rw [hs]
 show _ = z8x ss[j].N hd lk sh S.now
 unfold z8x
 rw [h.naming hs, Bool.eq_iff_iff, List.isEmpty_iff, zk1]
 simp only [Bool.not_eq_true', List.any_eq_false, Bool.and_eq_true, decide_eq_true_eq, not_and, Bool.not_eq_true]
theorem Rel.top {S : Sv} {ss : List KN} {n : Nat} (h : Rel S ss n) {m m' : Int} (h1 : zch S.us S.ts m) (h2 : z93 ss m') : m = m' := by
 obtain ⟨⟨j, hj, ej⟩, a⟩ := h1
 obtain ⟨⟨s, ms, us, es⟩, b⟩ := h2
 rw [h.ups] at hj a
 rw [h.ts] at ej a
 have hl : j < ss.length := by rw [h.ln]; exact (z2u hj).1
 have hsj : ss[j]? = some ss[j] := List.getElem?_eq_getElem hl
 rw [List.getElem?_map, hsj] at ej
 have ej' : ss[j].t = m := Option.some.inj ej
 have uj := (z2u hj).2
 unfold upAt at uj
 rw [hsj] at uj
 have x1 := b ss[j] (List.getElem_mem hl) uj
 obtain ⟨i, hi, ei⟩ := List.getElem_of_mem ms
 have hi2 : ss[i]? = some s := by rw [List.getElem?_eq_getElem hi, ei]
 have ui : i ∈ upl ss n := List.mem_filter.mpr ⟨List.mem_range.mpr (by rw [← h.ln]; exact hi), by unfold upAt; rw [hi2]; exact us⟩
 have x2 := a i ui s.t (by rw [List.getElem?_map, hi2]; rfl)
 omega
theorem Rel.later {S : Sv} {ss : List KN} {n : Nat} (h : Rel S ss n) {t : Int} (ht : S.now ≤ t) : Rel { S with now := t } ss n := by
 refine ⟨h.us, h.ts, h.ln, fun j s hs => ?_, h.pw, h.kb⟩
 have e := congrArg (List.filter fun x => decide (t < x.e)) (h.nt j s hs)
 unfold z21 at e ⊢
 rw [List.filter_filter, List.filter_map, List.filter_filter] at e
 have l1 : (s.N.filter fun a => decide (t < a.e) && decide (S.now < a.e)) = s.N.filter fun x => decide (t < x.e) := List.filter_congr fun x _ => by
  by_cases c : t < x.e
  ·have : S.now < x.e := by omega
   simp [c, this]
  ·simp [c]
 rw [l1] at e
 show s.N.filter (fun x => decide (t < x.e)) = _
 rw [e]
 congr 1
 refine List.filter_congr fun q _ => ?_
 show (decide (t < q.x.e) && (decide (q.k = j) && decide (S.now < q.x.e))) = (decide (q.k = j) && decide (t < q.x.e))
 by_cases c : t < q.x.e
 ·have : S.now < q.x.e := by omega
  simp [c, this]
 ·simp [c]
theorem Rel.stand {S : Sv} {ss : List KN} {n j : Nat} {s : KN} (h : Rel S ss n) (hs : ss[j]? = some s) (b : Bool) : Rel { S with us := S.us.set j b } (ss.set j ⟨b, s.t, s.N⟩) n := by
 have hl : j < ss.length := (List.getElem?_eq_some_iff.mp hs).1
 refine ⟨?_, ?_, by rw [List.length_set]; exact h.ln, fun i s' hs' => ?_, fun s' hs' => ?_, h.kb⟩
 ·show S.us.set j b = _
  rw [h.us, List.map_set]
 ·show S.ts = _
  rw [h.ts, List.map_set, z62]
  rw [List.getElem?_map, hs]; rfl
 ·by_cases e : i = j
  ·subst e
   rw [List.getElem?_set_self hl] at hs'
   cases hs'
   exact h.nt i s hs
  ·rw [List.getElem?_set_ne (Ne.symm e)] at hs'
   exact h.nt i s' hs'
 ·rcases List.mem_or_eq_of_mem_set hs' with z | z
  ·exact h.pw s' z
  ·rw [z]; exact h.pw s (List.mem_of_getElem? hs)
theorem Rel.give {S S' : Sv} {ss : List KN} {n : Nat} (h : Rel S ss n) {hd lk : Str} {sh : Bool} {m tm : Int} (ht : 1 ≤ tm) (hT : z93 ss m) (e1 : S'.now = S.now) (e2 : S'.us = S.us) (e3 : S'.ts = topS S.ts (sayL S hd lk sh) (1 + m)) (e4 : S'.N.map (·.2) = z7e (S.N.map (·.2)) S.now (sayL S hd lk sh) ⟨1 + m, hd, lk, sh, S.now + tm⟩) :
  Rel S' (z28 ss (sayl ss n hd lk sh S.now) ⟨1 + m, hd, lk, sh, S.now + tm⟩) n := by
 rw [← h.say]
 have up : ∀ j ∈ sayL S hd lk sh, j < n ∧ upAt ss j = true := fun j hj => by
  rw [h.say] at hj
  exact z2u (List.mem_filter.mp hj).1
 have hm0 : 0 ≤ m := by
  obtain ⟨⟨s, ms, -, es⟩, -⟩ := hT
  have := (h.pw s ms).2.2
  omega
 have gl : (z28 ss (sayL S hd lk sh) ⟨1 + m, hd, lk, sh, S.now + tm⟩).length = ss.length := by unfold z28; exact List.length_mapIdx
 have get : ∀ j, (z28 ss (sayL S hd lk sh) ⟨1 + m, hd, lk, sh, S.now + tm⟩)[j]? = (ss[j]?).map fun s => if j ∈ sayL S hd lk sh then ⟨s.u, 1 + m, z34 hd lk s.N ++ [⟨1 + m, hd, lk, sh, S.now + tm⟩]⟩ else s := fun j => by
  unfold z28
  rw [List.getElem?_mapIdx]
 generalize hsl : sayL S hd lk sh = sl at up gl get e3 e4
 refine ⟨?_, ?_, by rw [gl]; exact h.ln, fun j s' hs' => ?_, fun s' ms' => ?_, fun q hq => ?_⟩
 ·rw [e2, h.us]
  apply List.ext_getElem?
  intro j
  rw [List.getElem?_map, List.getElem?_map, get]
  cases ss[j]? with
  | none => rfl
  | some s => by_cases c : j ∈ sl <;> simp [c]
 ·rw [e3, h.ts]
  apply List.ext_getElem?
  intro j
  unfold topS
  rw [List.getElem?_mapIdx, List.getElem?_map, List.getElem?_map, get]
  cases ss[j]? with
  | none => rfl
  | some s => by_cases c : j ∈ sl <;> simp [c]
 ·rw [get] at hs'
  cases es : ss[j]? with
  | none => rw [es] at hs'; cases hs'
  | some s =>
  rw [es] at hs'
  have ht0 := h.nt j s es
  rw [e1, e4]
  unfold z7e
  rw [List.filter_append, List.map_append, List.filter_filter]
  have hlive : S.now < S.now + tm := by omega
  by_cases c : j ∈ sl
  ·have e5 : s' = ⟨s.u, 1 + m, z34 hd lk s.N ++ [⟨1 + m, hd, lk, sh, S.now + tm⟩]⟩ := by
    have := Option.some.inj hs'
    dsimp only at this
    rw [if_pos c] at this
    exact this.symm
   rw [e5]
   show z21 S.now (z34 hd lk s.N ++ [⟨1 + m, hd, lk, sh, S.now + tm⟩]) = _
   have l1 : z21 S.now (z34 hd lk s.N ++ [⟨1 + m, hd, lk, sh, S.now + tm⟩]) = z34 hd lk (z21 S.now s.N) ++ [⟨1 + m, hd, lk, sh, S.now + tm⟩] := by
    unfold z21 z34
    rw [List.filter_append, List.filter_filter, List.filter_filter]
    congr 1
    ·refine List.filter_congr fun x _ => Bool.and_comm _ _
    ·simp [hlive]
   rw [l1, ht0]
   congr 1
   ·unfold z34
    rw [List.filter_map, List.filter_filter]
    congr 1
    refine List.filter_congr fun q _ => ?_
    show (!(decide (q.x.h = hd) && decide (q.x.l = lk)) && (decide (q.k = j) && decide (S.now < q.x.e))) = (decide (q.k = j) && decide (S.now < q.x.e) && z1s S.now sl hd lk q)
    unfold z1s
    by_cases cj : q.k = j
    ·subst cj
     simp only [c, decide_true, Bool.true_and]
     cases decide (S.now < q.x.e) <;> cases decide (q.x.h = hd) <;> cases decide (q.x.l = lk) <;> rfl
    ·simp [cj]
   ·have nd : sl.Nodup := by
     rw [← hsl]
     exact List.Nodup.sublist List.filter_sublist (List.Nodup.sublist List.filter_sublist List.nodup_range)
    rw [List.filter_map, List.map_map]
    have e6 : sl.filter ((fun q : Nk => decide (q.k = j) && decide (S.now < q.x.e)) ∘ fun k => (⟨k, ⟨1 + m, hd, lk, sh, S.now + tm⟩⟩ : Nk)) = [j] := by
     have : ((fun q : Nk => decide (q.k = j) && decide (S.now < q.x.e)) ∘ fun k => (⟨k, ⟨1 + m, hd, lk, sh, S.now + tm⟩⟩ : Nk)) = fun k => decide (k = j) := by
      funext k
      simp [hlive]
     rw [this]
     clear hsl up gl get e3 e4 hs' this
     induction sl with
     | nil => cases c
     | cons a sl ih =>
      obtain ⟨n1, n2⟩ := List.nodup_cons.mp nd
      by_cases ca : a = j
      ·subst ca
       rw [List.filter_cons_of_pos (by simp), List.filter_eq_nil_iff.mpr]
       intro x hx hh
       exact n1 (of_decide_eq_true hh ▸ hx)
      ·rw [List.filter_cons_of_neg (by simpa using ca)]
       exact ih ((List.mem_cons.mp c).resolve_left (fun z => ca z.symm)) n2
    rw [e6]
    rfl
  ·have e5 : s' = s := by
    have := Option.some.inj hs'
    dsimp only at this
    rw [if_neg c] at this
    exact this.symm
   rw [e5, ht0]
   have e6 : (sl.map fun k => (⟨k, ⟨1 + m, hd, lk, sh, S.now + tm⟩⟩ : Nk)).filter (fun q => decide (q.k = j) && decide (S.now < q.x.e)) = [] := by
    rw [List.filter_eq_nil_iff]
    intro q hq
    obtain ⟨k, hk, rfl⟩ := List.mem_map.mp hq
    have : k ≠ j := fun z => c (z ▸ hk)
    simp [this]
   rw [e6, List.map_nil, List.append_nil]
   congr 1
   refine List.filter_congr fun q _ => ?_
   show (decide (q.k = j) && decide (S.now < q.x.e)) = (decide (q.k = j) && decide (S.now < q.x.e) && z1s S.now sl hd lk q)
   unfold z1s
   by_cases cj : q.k = j
   ·subst cj
    simp [c]
   ·simp [cj]
 ·obtain ⟨j, hj⟩ := List.getElem?_of_mem ms'
  rw [get] at hj
  cases es : ss[j]? with
  | none => rw [es] at hj; cases hj
  | some s =>
  rw [es] at hj
  have hp := h.pw s (List.mem_of_getElem? es)
  have := Option.some.inj hj
  dsimp only at this
  by_cases c : j ∈ sl
  ·rw [if_pos c] at this
   rw [← this]
   have us : s.u = true := by
    have := (up j c).2
    unfold upAt at this
    rw [es] at this
    exact this
   have hle := hT.2 s (List.mem_of_getElem? es) us
   refine ⟨?_, ?_, by show 0 ≤ 1 + m; omega⟩
   ·rw [List.pairwise_append]
    refine ⟨List.Pairwise.sublist List.filter_sublist hp.1, List.pairwise_singleton _ _, fun a ha b hb => ?_⟩
    rw [List.mem_singleton.mp hb]
    have := hp.2.1 a (List.mem_filter.mp ha).1
    show a.n < 1 + m
    omega
   ·intro x hx
    show x.n ≤ 1 + m
    rcases List.mem_append.mp hx with hx | hx
    ·have := hp.2.1 x (List.mem_filter.mp hx).1
     omega
    ·rw [List.mem_singleton.mp hx]
     exact Int.le_refl _
  ·rw [if_neg c] at this
   rw [← this]
   exact hp
 ·have hq2 : q.2 ∈ S'.N.map (·.2) := List.mem_map_of_mem hq
  rw [e4] at hq2
  unfold z7e at hq2
  rcases List.mem_append.mp hq2 with z | z
  ·obtain ⟨y, hy, ey⟩ := List.mem_map.mp (List.mem_filter.mp z).1
   rw [← ey]
   exact h.kb y hy
  ·obtain ⟨k, hk, ek⟩ := List.mem_map.mp z
   rw [← ek]
   exact (up k hk).1
theorem Rel.drop {S : Sv} {ss : List KN} {n : Nat} (h : Rel S ss n) (num : Int) (pn : Addr) :
  Rel { S with pn := pn, N := S.N.filter fun q => !isDr num S.now S.us q.2 } (z23 ss (upl ss n) num S.now) n := by
 have gl : (z23 ss (upl ss n) num S.now).length = ss.length := by unfold z23; exact List.length_mapIdx
 have get : ∀ j, (z23 ss (upl ss n) num S.now)[j]? = (ss[j]?).map fun s => if j ∈ upl ss n then z2a num S.now s else s := fun j => by
  unfold z23
  rw [List.getElem?_mapIdx]
 have du : ∀ s : KN, (z2a num S.now s).u = s.u := fun s => by unfold z2a; split <;> rfl
 have dt : ∀ s : KN, (z2a num S.now s).t = s.t := fun s => by unfold z2a; split <;> rfl
 have ds : ∀ s : KN, ∀ x ∈ (z2a num S.now s).N, x ∈ s.N := fun s x hx => by
  unfold z2a at hx
  split at hx
  ·exact (List.mem_filter.mp hx).1
  ·exact hx
 have dp : ∀ s : KN, s.N.Pairwise (fun a b => a.n < b.n) → (z2a num S.now s).N.Pairwise (fun a b => a.n < b.n) := fun s hs => by
  unfold z2a
  split
  ·exact List.Pairwise.sublist List.filter_sublist hs
  ·exact hs
 refine ⟨?_, ?_, by rw [gl]; exact h.ln, fun j s' hs' => ?_, fun s' ms' => ?_, fun q hq => h.kb q (List.mem_filter.mp hq).1⟩
 ·show S.us = _
  rw [h.us]
  apply List.ext_getElem?
  intro j
  rw [List.getElem?_map, List.getElem?_map, get]
  cases ss[j]? with
  | none => rfl
  | some s => by_cases c : j ∈ upl ss n <;> simp [c, du]
 ·show S.ts = _
  rw [h.ts]
  apply List.ext_getElem?
  intro j
  rw [List.getElem?_map, List.getElem?_map, get]
  cases ss[j]? with
  | none => rfl
  | some s => by_cases c : j ∈ upl ss n <;> simp [c, dt]
 ·rw [get] at hs'
  cases es : ss[j]? with
  | none => rw [es] at hs'; cases hs'
  | some s =>
  rw [es] at hs'
  have hs2 := Option.some.inj hs'
  dsimp only at hs2
  have ht0 := h.nt j s es
  have hjl : j < ss.length := (List.getElem?_eq_some_iff.mp es).1
  have eus : S.us.getD j false = s.u := by rw [h.us, List.getD_eq_getElem?_getD, List.getElem?_map, es]; rfl
  show z21 S.now s'.N = ((List.map (·.2) (S.N.filter fun q => !isDr num S.now S.us q.2)).filter fun q => decide (q.k = j) && decide (S.now < q.x.e)).map (·.x)
  have eN : (S.N.filter fun q => !isDr num S.now S.us q.2).map (·.2) = (S.N.map (·.2)).filter fun q => !isDr num S.now S.us q := by rw [List.filter_map]; rfl
  rw [eN, List.filter_filter]
  have key : ((S.N.map (·.2)).filter fun q => (decide (q.k = j) && decide (S.now < q.x.e)) && !isDr num S.now S.us q) = (((S.N.map (·.2)).filter fun q => decide (q.k = j) && decide (S.now < q.x.e)).filter fun q => !(s.u && decide (q.x.n = num))) := by
   rw [List.filter_filter]
   refine List.filter_congr fun q _ => ?_
   unfold isDr
   by_cases cj : q.k = j
   ·rw [cj, eus]
    cases decide (S.now < q.x.e) <;> cases decide (q.x.n = num) <;> cases s.u <;> simp
   ·simp [cj]
  rw [key]
  have e7 : (((S.N.map (·.2)).filter fun q => decide (q.k = j) && decide (S.now < q.x.e)).filter fun q => !(s.u && decide (q.x.n = num))).map (·.x) = (z21 S.now s.N).filter fun x => !(s.u && decide (x.n = num)) := by
   rw [ht0]
   generalize ((S.N.map (·.2)).filter fun q => decide (q.k = j) && decide (S.now < q.x.e)) = G
   rw [List.filter_map]
   rfl
  rw [e7]
  by_cases c : j ∈ upl ss n
  ·rw [if_pos c] at hs2
   have us : s.u = true := by
    have := (z2u c).2
    unfold upAt at this
    rw [es] at this
    exact this
   rw [← hs2]
   unfold z2a
   by_cases hh : hasN num S.now s = true
   ·rw [if_pos (by rw [us, hh]; rfl)]
    unfold z21
    rw [List.filter_filter, List.filter_filter]
    refine List.filter_congr fun x _ => ?_
    rw [us]
    by_cases cn : x.n = num <;> simp [cn]
   ·rw [if_neg (by rw [us, Bool.true_and]; exact hh)]
    symm
    rw [List.filter_eq_self]
    intro x hx
    have : ¬ (x.n = num) := fun z => hh (List.any_eq_true.mpr ⟨x, hx, decide_eq_true z⟩)
    simp [this]
  ·rw [if_neg c] at hs2
   have us : s.u = false := by
    cases eu : s.u with
    | false => rfl
    | true =>
     refine absurd (List.mem_filter.mpr ⟨List.mem_range.mpr (by rw [← h.ln]; exact hjl), ?_⟩) c
     unfold upAt
     rw [es]
     exact eu
   rw [← hs2, us]
   symm
   rw [List.filter_eq_self]
   intro x _
   rfl
 ·obtain ⟨j, hj⟩ := List.getElem?_of_mem ms'
  rw [get] at hj
  cases es : ss[j]? with
  | none => rw [es] at hj; cases hj
  | some s =>
  rw [es] at hj
  have hp := h.pw s (List.mem_of_getElem? es)
  have hs2 := Option.some.inj hj
  dsimp only at hs2
  by_cases c : j ∈ upl ss n
  ·rw [if_pos c] at hs2
   rw [← hs2]
   exact ⟨dp s hp.1, fun x hx => by rw [dt]; exact hp.2.1 x (ds s x hx), by rw [dt]; exact hp.2.2⟩
  ·rw [if_neg c] at hs2
   rw [← hs2]
   exact hp
theorem zgr {N : List Nt} (h : N.Pairwise fun a b => a.n < b.n) (num : Int) : (N.filter fun x => decide (x.n = num)).length ≤ 1 := by
 induction h with
 | nil => simp
 | cons h1 _ ih =>
  rename_i a l _
  by_cases c : a.n = num
  ·rw [List.filter_cons_of_pos (by simpa using c), List.filter_eq_nil_iff.mpr]
   ·simp
   ·intro x hx hh
    have := h1 x hx
    have := of_decide_eq_true hh
    omega
  ·rw [List.filter_cons_of_neg (by simpa using c)]
   exact ih
theorem Rel.dr_nodup {S : Sv} {ss : List KN} {n : Nat} (h : Rel S ss n) (num : Int) : ((S.N.filter fun q => isDr num S.now S.us q.2).map fun q => q.2.k).Nodup := by
 rw [List.nodup_iff_count]
 intro j
 rw [List.count_eq_countP, List.countP_map, List.countP_eq_length_filter, List.filter_filter]
 by_cases hj : j < ss.length
 ·have es : ss[j]? = some ss[j] := List.getElem?_eq_getElem hj
  have ht0 := h.nt j _ es
  have hp := h.pw _ (List.getElem_mem hj)
  have h1 := zgr (List.Pairwise.sublist (List.filter_sublist (p := fun x => decide (S.now < x.e))) hp.1) num
  have h2 : (ss[j].N.filter fun x => decide (S.now < x.e)) = z21 S.now ss[j].N := rfl
  rw [h2, ht0, List.filter_map, List.length_map, List.filter_filter, List.filter_map, List.length_map] at h1
  refine Nat.le_trans ?_ h1
  refine List.Sublist.length_le ?_
  have : (S.N.filter fun a => (((fun x => x == j) ∘ fun q : Addr × Nk => q.2.k) a && isDr num S.now S.us a.2)) = ((S.N.filter ((fun a : Nk => ((fun x : Nt => decide (x.n = num)) ∘ fun x : Nk => x.x) a && (decide (a.k = j) && decide (S.now < a.x.e))) ∘ fun x : Addr × Nk => x.2)).filter fun a => S.us.getD a.2.k false) := by
   rw [List.filter_filter]
   refine List.filter_congr fun q _ => ?_
   show ((q.2.k == j) && isDr num S.now S.us q.2) = (S.us.getD q.2.k false && (decide (q.2.x.n = num) && (decide (q.2.k = j) && decide (S.now < q.2.x.e))))
   unfold isDr
   rw [show (q.2.k == j) = decide (q.2.k = j) from by rw [Bool.eq_iff_iff]; simp]
   cases decide (q.2.k = j) <;> cases decide (q.2.x.n = num) <;> cases decide (S.now < q.2.x.e) <;> cases S.us.getD q.2.k false <;> rfl
  rw [this]
  exact List.filter_sublist
 ·refine Nat.le_trans (Nat.le_of_eq ?_) (Nat.zero_le 1)
  rw [List.length_eq_zero_iff, List.filter_eq_nil_iff]
  intro q hq hh
  rw [Bool.and_eq_true] at hh
  have h1 : (q.2.k == j) = true := hh.1
  have := h.kb q hq
  have h2 : q.2.k = j := by simpa using h1
  rw [h.ln] at hj
  omega
theorem Rel.dr_perm {S : Sv} {ss : List KN} {n : Nat} (h : Rel S ss n) (num : Int) : ((S.N.filter fun q => isDr num S.now S.us q.2).map fun q => q.2.k).Perm ((upl ss n).filter (drAt ss num S.now)) := by
 have nd := h.dr_nodup num
 have nu : ((upl ss n).filter (drAt ss num S.now)).Nodup := List.Nodup.sublist List.filter_sublist (z52 ss n)
 rw [List.perm_ext_iff_of_nodup nd nu]
 intro j
 rw [List.mem_map, List.mem_filter]
 constructor
 ·rintro ⟨q, hq, rfl⟩
  obtain ⟨mq, dq⟩ := List.mem_filter.mp hq
  have kl := h.kb q mq
  have hj : q.2.k < ss.length := by rw [h.ln]; exact kl
  have es : ss[q.2.k]? = some ss[q.2.k] := List.getElem?_eq_getElem hj
  unfold isDr at dq
  rw [Bool.and_eq_true, Bool.and_eq_true] at dq
  have hus : S.us.getD q.2.k false = ss[q.2.k].u := by rw [h.us, List.getD_eq_getElem?_getD, List.getElem?_map, es]; rfl
  refine ⟨List.mem_filter.mpr ⟨List.mem_range.mpr kl, ?_⟩, ?_⟩
  ·unfold upAt
   rw [es]
   show ss[q.2.k].u = true
   rw [← hus]
   exact dq.2.2
  ·unfold drAt
   rw [es]
   show hasN num S.now ss[q.2.k] = true
   unfold hasN
   rw [h.naming es, List.any_eq_true]
   refine ⟨q.2, List.mem_map_of_mem mq, ?_⟩
   rw [dq.1, dq.2.1]
   simp
 ·rintro ⟨hj, hd⟩
  obtain ⟨jn, ju⟩ := z2u hj
  have hjl : j < ss.length := by rw [h.ln]; exact jn
  have es : ss[j]? = some ss[j] := List.getElem?_eq_getElem hjl
  unfold drAt at hd
  rw [es] at hd
  have hd2 : hasN num S.now ss[j] = true := hd
  unfold hasN at hd2
  rw [h.naming es, List.any_eq_true] at hd2
  obtain ⟨x, mx, hx⟩ := hd2
  obtain ⟨q, mq, rfl⟩ := List.mem_map.mp mx
  rw [Bool.and_eq_true, Bool.and_eq_true] at hx
  have ek := of_decide_eq_true hx.1
  refine ⟨q, List.mem_filter.mpr ⟨mq, ?_⟩, ek⟩
  unfold isDr
  unfold upAt at ju
  rw [es] at ju
  rw [hx.2.1, hx.2.2, ek, h.us, List.getD_eq_getElem?_getD, List.getElem?_map, es]
  exact ju
theorem Rel.dropped {S : Sv} {ss : List KN} {n : Nat} (h : Rel S ss n) (num : Int) {ks : List Int} (hp : ks.Perm ((S.N.filter fun q => isDr num S.now S.us q.2).map fun q => (q.2.k : Int) + 1)) (hs : ks.Pairwise (· ≤ ·)) : ks.map V.int = zy ((upl ss n).filter (drAt ss num S.now)) := by
 have nd := h.dr_nodup num
 have e1 : ((S.N.filter fun q => isDr num S.now S.us q.2).map fun q => (q.2.k : Int) + 1) = (((S.N.filter fun q => isDr num S.now S.us q.2).map fun q => q.2.k).map fun j : Nat => (j : Int) + 1) := by rw [List.map_map]; rfl
 have nu : ((upl ss n).filter (drAt ss num S.now)).Nodup := List.Nodup.sublist List.filter_sublist (z52 ss n)
 have pm := h.dr_perm num
 rw [e1] at hp
 have hp2 := hp.trans (pm.map fun j : Nat => (j : Int) + 1)
 have so : (((upl ss n).filter (drAt ss num S.now)).map fun j : Nat => (j : Int) + 1).Pairwise (· ≤ ·) := by
  rw [List.pairwise_map]
  refine List.Pairwise.imp (R := fun a b : Nat => a < b) (fun hab => by omega) ?_
  exact List.Pairwise.sublist (List.filter_sublist.trans List.filter_sublist) List.pairwise_lt_range
 have e2 : ks = ((upl ss n).filter (drAt ss num S.now)).map fun j : Nat => (j : Int) + 1 := List.Perm.eq_of_pairwise (le := fun a b : Int => a ≤ b) (fun a b _ _ h1 h2 => by omega) hs so hp2
 rw [e2]
 unfold zy
 rw [List.map_map]
 rfl
def zdo (CC CK : Addr) : Sp := fun vs H Q _ => ∃ (c a l : Addr) (ks ls : List Addr) (ss : List KN) (z : Int) (hd lk : Str) (sh : Bool) (tick time : Int), vs = [.ref c, .ref a, .int tick] ∧ H a = some (.tup [.int z, .str hd, .str lk, .bl sh, .int time]) ∧ CAt CC CK H c l ks ls ss ∧ z7b ss ∧ hd.length ≤ 1000 ∧ lk.length ≤ 1000 ∧
 (((sayl ss ks.length hd lk sh tick).length : Int) < (ks.length : Int) / 2 + 1 → ∀ (r : Addr) (H' : Hp), H' r = some (.tup [.str "refused"]) → Same H H' → Q (.ref r) H') ∧
 (¬ ((sayl ss ks.length hd lk sh tick).length : Int) < (ks.length : Int) / 2 + 1 → ∀ (m : Int), z93 ss m → ∀ (r p : Addr) (ls' : List Addr) (H' : Hp), LsOk H ls ls' → CAt CC CK H' c l ks ls' (z28 ss (sayl ss ks.length hd lk sh tick) ⟨1 + m, hd, lk, sh, tick + time⟩) →
  H' r = some (.tup [.int (1 + m), .ref p]) → H' p = some (.lst (zy (sayl ss ks.length hd lk sh tick))) → H r = none → H p = none → ButK ks H H' → Q (.ref r) H')
theorem zb5 (F : Def K mg "_law_given" z4y ["_law_council", "_law_asking", "_law_tick"]) (T : Txt K mg C_Council C_Down C_InTheWay C_Keeper C_NotFree C_OldNumber C_UnknownKeeper Pt__law_notes cd__law_notes) (G_Council_give : MHas P w K mg base (CX1 P w) 7 C_Council "give" ["self", "holder", "lock", "shared", "tick", "time"] (zgg C_Council C_Keeper C_NotFree)) : Has P w K mg base 8 "_law_given" ["_law_council", "_law_asking", "_law_tick"] (zdo C_Council C_Keeper) := by
 refine F.ok sc__law_given (fun vs H Q E h => ?_) (fun f cdv A outer s H vs Q E hr h => ?_)
 ·obtain ⟨c, a, l, ks, ls, ss, z, hd, lk, sh, tick, time, rfl, _⟩ := h
  rfl
 ·obtain ⟨c, a, l, ks, ls, ss, z, hd, lk, sh, tick, time, rfl, ha, hc, hsm, hh, hl, q1, q2⟩ := h
  refine ⟨_, (z9 (zjt (ziq (zjr G_Council_give T.cl_Council (hr.mono (by decide)) (pv 0) (z0 (zh ix_tup (pv 1) z4 (fun _ _ => rfl)) (z0 (zh ix_tup (pv 1) z4 (fun _ _ => rfl)) (z0 (zh ix_tup (pv 1) z4 (fun _ _ => rfl)) (z0 (pv 2) (z0 (zh ix_tup (pv 1) z4 (fun _ _ => rfl)) z6))))))) (zir rfl T.g_NotFree T.x_NotFree (by decide +kernel) (fun _ => (zb (zi (i := 3) sc__law_given.nd rfl (Or.inl rfl) (z1k (z0 zj z6))))) zjs))
   (zb (zk (pv 3)))), ?_⟩
  walk_at "rd"
  obtain ⟨dx, hob⟩ := hc.ob
  refine ⟨_, _, hob, z22 _ _ (by decide +kernel) (by decide +kernel), ?_⟩
  refine ⟨_, _, _, _, rfl, rfl, SqT.of ha, zc (j := 1) rfl, ?_⟩
  refine ⟨_, _, _, _, rfl, rfl, SqT.of ha, zc (j := 2) rfl, ?_⟩
  refine ⟨_, _, _, _, rfl, rfl, SqT.of ha, zc (j := 3) rfl, ?_⟩
  refine ⟨_, _, _, _, rfl, rfl, SqT.of ha, zc (j := 4) rfl, ?_⟩
  refine ⟨c, l, ks, ls, ss, hd, lk, sh, tick, time, rfl, hc, hsm, hh, hl, fun hlt H1 s1 => ?_, fun hlt m hm r p ls' H1 h1 h2 h3 h4 h6 h7 h5 => q2 hlt m hm r p ls' H1 h1 h2 h3 h4 h6 h7 h5⟩
  refine ⟨true, T.sb_NotFree_NotFree, ?_⟩
  rw [if_pos rfl]
  exact ⟨zd (by decide), fun p hp => q1 hlt p _ z7 (s1.trans (Same.upd hp))⟩
theorem atI_last (xs : List V) (v : V) : atI (xs ++ [v]) (-1) = some v := by
 unfold atI ixN
 rw [if_neg (by decide), if_pos (by rw [List.length_append]; show -((xs.length + 1 : Nat) : Int) ≤ -1; omega)]
 have e : ((-1 : Int) + ((xs ++ [v]).length : Int)).toNat = xs.length := by rw [List.length_append]; show ((-1 : Int) + ((xs.length + 1 : Nat) : Int)).toNat = _; omega
 rw [e]
 simp
theorem z43 (js : List Nat) : ∀ v ∈ zy js, z7c v := fun v hv => by
 unfold zy at hv
 obtain ⟨j, _, rfl⟩ := List.mem_map.mp hv
 exact .inl ⟨_, rfl⟩
theorem z3o {H : Hp} {a b : Addr} {xs : List V} {n : Nat} (h : (H a = some (.lst xs) ∧ H b = some (.lst xs)) ∨ (H a = some (.tup xs) ∧ H b = some (.tup xs))) (hp : ∀ v ∈ xs, z7c v) (hl : xs.length ≤ 1000) : Alike H (n + 1) (.ref a) (.ref b) := by
 refine .inr ⟨a, b, xs, xs, rfl, rfl, h, rfl, hl, fun i x y hx hy => ?_⟩
 rw [hx] at hy
 cases hy
 cases n with
 | zero => exact ⟨rfl, hp x (List.mem_of_getElem? hx)⟩
 | succ n => exact .inl ⟨rfl, hp x (List.mem_of_getElem? hx)⟩
theorem zcz {ss : List KN} {sl : List Nat} {x : Nt} {i : Nat} (h : ∀ s ∈ ss, s.N.length ≤ i) : ∀ s ∈ z28 ss sl x, s.N.length ≤ i + 1 := fun s hs => by
 unfold z28 at hs
 obtain ⟨j, hj⟩ := List.getElem?_of_mem hs
 rw [List.getElem?_mapIdx] at hj
 cases e : ss[j]? with
 | none => rw [e] at hj; cases hj
 | some s0 =>
  rw [e] at hj
  have h0 := h s0 (List.mem_of_getElem? e)
  have := Option.some.inj hj
  dsimp only at this
  by_cases c : j ∈ sl
  ·rw [if_pos c] at this
   rw [← this]
   show (z34 x.h x.l s0.N ++ [x]).length ≤ i + 1
   rw [List.length_append]
   have : (z34 x.h x.l s0.N).length ≤ s0.N.length := List.length_filter_le _ _
   show _ + 1 ≤ _
   omega
  ·rw [if_neg c] at this
   rw [← this]
   omega
theorem CAt.butO {CC CK : Addr} {H H' : Hp} {c l : Addr} {ks ls os : List Addr} {ss : List KN} (h : CAt CC CK H c l ks ls ss) (b : ButK os H H') (hos : ∀ x ∈ os, (∃ xs, H x = some (.lst xs)) ∨ ∃ kv, H x = some (.dK kv)) (n1 : l ∉ os) (n2 : ∀ x ∈ ls, x ∉ os) : CAt CC CK H' c l ks ls ss := by
 have ni : ∀ x C dx fs, H x = some (.ins C dx fs) → x ∉ os := fun x C dx fs e hx => by
  rcases hos x hx with ⟨xs, z⟩ | ⟨kv, z⟩
  ·rw [e] at z; cases z
  ·rw [e] at z; cases z
 have nt : ∀ x xs, H x = some (.tup xs) → x ∉ os := fun x xs e hx => by
  rcases hos x hx with ⟨xs, z⟩ | ⟨kv, z⟩
  ·rw [e] at z; cases z
  ·rw [e] at z; cases z
 obtain ⟨⟨dx, h1⟩, h2, h3, h4, h5, h6, h7⟩ := h
 refine ⟨⟨dx, b _ _ h1 (ni _ _ _ _ h1)⟩, b _ _ h2 n1, fun i k e => ?_, h4, h5, h6, h7⟩
 obtain ⟨s, l', e1, e2, ⟨dx2, z⟩, L, eL, ⟨dx', l2, g1, g2⟩, hn, hl⟩ := h3 i k e
 have el : l2 = l' := by
  rw [z] at g1
  injection g1 with g1
  injection g1 with a b c
  exact (zc6 c).symm
 subst el
 exact ⟨s, l2, e1, e2, ⟨dx2, b _ _ z (ni _ _ _ _ z)⟩, L, eL, ⟨dx', l2, b _ _ g1 (ni _ _ _ _ g1), b _ _ g2 (n2 _ (List.mem_of_getElem? e2))⟩, ⟨fun q hq => b _ _ (hn.tu q hq) (nt _ _ (hn.tu q hq)), hn.sm⟩, hl⟩
structure Sb (S : Sv) (ss : List KN) (i : Nat) : Prop where
 nN : S.N.length ≤ 5 * i
 nS : ∀ s ∈ ss, s.N.length ≤ i
 nC : S.C.length ≤ i
 nL : S.lg.length ≤ i
 nl : ∀ q ∈ S.N, q.2.x.l.length ≤ 1000
theorem Sb.now {S : Sv} {ss : List KN} {i : Nat} {t : Int} (h : Sb S ss i) : Sb { S with now := t } ss i := ⟨h.nN, h.nS, h.nC, h.nL, h.nl⟩
structure Day (CC CK : Addr) (H : Hp) (c l : Addr) (ks ls : List Addr) (ss : List KN) (d : Addr) (S : Sv) (u : Su) (i : Nat) : Prop where
 ca : CAt CC CK H c l ks ls ss
 st : StAt H d S u
 rl : Rel S ss u.n
 kn : ks.length = u.n
 sb : Sb S ss i
 ap : ∀ p ∈ S.lists, p ≠ l ∧ p ∉ ls
theorem Day.mono {CC CK : Addr} {H H' : Hp} {c l : Addr} {ks ls : List Addr} {ss : List KN} {d : Addr} {S : Sv} {u : Su} {i : Nat} (h : Day CC CK H c l ks ls ss d S u i) (s : Same H H') : Day CC CK H' c l ks ls ss d S u i := ⟨h.ca.mono s, h.st.mono s, h.rl, h.kn, h.sb, h.ap⟩
theorem Sb.up {S : Sv} {ss : List KN} {i : Nat} (h : Sb S ss i) : Sb S ss (i + 1) := ⟨by have := h.nN; omega, fun s hs => by have := h.nS s hs; omega, by have := h.nC; omega, by have := h.nL; omega, h.nl⟩
theorem Day.up {CC CK : Addr} {H : Hp} {c l : Addr} {ks ls : List Addr} {ss : List KN} {d : Addr} {S : Sv} {u : Su} {i : Nat} (h : Day CC CK H c l ks ls ss d S u i) : Day CC CK H c l ks ls ss d S u (i + 1) := ⟨h.ca, h.st, h.rl, h.kn, h.sb.up, h.ap⟩
theorem Day.say {CC CK : Addr} {H : Hp} {c l : Addr} {ks ls : List Addr} {ss : List KN} {d : Addr} {S : Sv} {u : Su} {i : Nat} (h : Day CC CK H c l ks ls ss d S u i) (hok : u.ok) (hi : i ≤ 60) : SayP S u := ⟨hok, by rw [h.rl.us, List.length_map]; exact h.rl.ln, h.sb.nl, by have := h.sb.nN; omega⟩
theorem Day.own {CC CK : Addr} {H : Hp} {c l : Addr} {ks ls : List Addr} {ss : List KN} {d : Addr} {S : Sv} {u : Su} {i : Nat} (h : Day CC CK H c l ks ls ss d S u i) : (∀ x ∈ d :: S.lists, (∃ xs, H x = some (.lst xs)) ∨ ∃ kv, H x = some (.dK kv)) ∧ l ∉ d :: S.lists ∧ ∀ x ∈ ls, x ∉ d :: S.lists := by
 refine ⟨fun x hx => ?_, fun hx => ?_, fun x hx hx2 => ?_⟩
 ·simp only [Sv.lists, List.mem_cons, List.not_mem_nil, or_false] at hx
  rcases hx with rfl | rfl | rfl | rfl | rfl | rfl | rfl
  ·exact .inr ⟨_, h.st.st⟩
  ·exact .inl ⟨_, h.st.gu⟩
  ·exact .inl ⟨_, h.st.gt⟩
  ·exact .inl ⟨_, h.st.gn⟩
  ·exact .inl ⟨_, h.st.gr⟩
  ·exact .inl ⟨_, h.st.gc⟩
  ·exact .inl ⟨_, h.st.gl⟩
 ·rcases List.mem_cons.mp hx with z | z
  ·have := h.ca.li; rw [z, h.st.st] at this; cases this
  ·exact (h.ap l z).1 rfl
 ·rcases List.mem_cons.mp hx2 with z | z
  ·obtain ⟨xs, e⟩ := h.ca.lsome hx; rw [z, h.st.st] at e; cases e
  ·exact (h.ap x z).2 hx
theorem StAt.setU {H : Hp} {d : Addr} {S : Sv} {u : Su} (h : StAt H d S u) (j : Nat) (b : Bool) : StAt (upd H S.pu (.lst ((S.us.set j b).map V.bl))) d { S with us := S.us.set j b } u := by
 have nl := h.nd
 simp only [Sv.lists, List.nodup_cons, List.mem_cons, List.not_mem_nil, or_false, not_or] at nl
 obtain ⟨⟨x1, x2, x3, x4, x5⟩, -⟩ := nl
 have T : ∀ a xs, H a = some (.tup xs) → upd H S.pu (.lst ((S.us.set j b).map V.bl)) a = some (.tup xs) := fun a xs e => by rw [z8 (fun z => by rw [z, h.gu] at e; cases e)]; exact e
 have L : ∀ a xs, H a = some (.lst xs) → a ≠ S.pu → upd H S.pu (.lst ((S.us.set j b).map V.bl)) a = some (.lst xs) := fun a xs e ne => by rw [z8 ne]; exact e
 have nu : ∀ x ∈ u.lists, x ≠ S.pu := fun x hx e => h.sd S.pu (by simp [Sv.lists]) (e ▸ hx)
 exact ⟨by rw [z8 (fun z => by have := h.st; rw [z, h.gu] at this; cases this)]; exact h.st, ⟨T _ _ h.su.tu, L _ _ h.su.gh (nu _ (by simp [Su.lists])), L _ _ h.su.gl (nu _ (by simp [Su.lists])), L _ _ h.su.gc (nu _ (by simp [Su.lists])), L _ _ h.su.gt (nu _ (by simp [Su.lists]))⟩, z7, L _ _ h.gt (Ne.symm x1), L _ _ h.gn (Ne.symm x2), fun q hq => T _ _ (h.kn q hq), L _ _ h.gr (Ne.symm x3), L _ _ h.gc (Ne.symm x4), fun q hq => T _ _ (h.kc q hq), L _ _ h.gl (Ne.symm x5), h.nd, h.sd⟩
theorem StAt.setN {H : Hp} {d : Addr} {S : Sv} {u : Su} (h : StAt H d S u) (t : Int) : StAt (upd H d (.dK (stw { S with now := t }))) d { S with now := t } u := by
 have T : ∀ a xs, H a = some (.tup xs) → upd H d (.dK (stw { S with now := t })) a = some (.tup xs) := fun a xs e => by rw [z8 (fun z => by rw [z, h.st] at e; cases e)]; exact e
 have L : ∀ a xs, H a = some (.lst xs) → upd H d (.dK (stw { S with now := t })) a = some (.lst xs) := fun a xs e => by rw [z8 (fun z => by rw [z, h.st] at e; cases e)]; exact e
 exact ⟨z7, ⟨T _ _ h.su.tu, L _ _ h.su.gh, L _ _ h.su.gl, L _ _ h.su.gc, L _ _ h.su.gt⟩, L _ _ h.gu, L _ _ h.gt, L _ _ h.gn, fun q hq => T _ _ (h.kn q hq), L _ _ h.gr, L _ _ h.gc, fun q hq => T _ _ (h.kc q hq), L _ _ h.gl, h.nd, h.sd⟩
theorem zj4 (p : Int) (hp : 1 ≤ p) (j : Int) (h0 : 0 ≤ j) (h4 : j < 4) : ∃ t : Int, atI [V.int 1, V.int 2, V.int 5, V.int p] j = some (.int t) ∧ 1 ≤ t := by
 obtain ⟨n, rfl⟩ := Int.eq_ofNat_of_zero_le h0
 match n, h4 with
 | 0, _ => exact ⟨1, zc rfl, by decide⟩
 | 1, _ => exact ⟨2, zc rfl, by decide⟩
 | 2, _ => exact ⟨5, zc rfl, by decide⟩
 | 3, _ => exact ⟨p, zc rfl, hp⟩
theorem zd0 {ss : List KN} {js : List Nat} {num tick : Int} {i : Nat} (h : ∀ s ∈ ss, s.N.length ≤ i) : ∀ s ∈ z23 ss js num tick, s.N.length ≤ i := fun s hs => by
 unfold z23 at hs
 obtain ⟨j, hj⟩ := List.getElem?_of_mem hs
 rw [List.getElem?_mapIdx] at hj
 cases e : ss[j]? with
 | none => rw [e] at hj; cases hj
 | some s0 =>
  rw [e] at hj
  have h0 := h s0 (List.mem_of_getElem? e)
  have := Option.some.inj hj
  dsimp only at this
  by_cases c : j ∈ js
  ·rw [if_pos c] at this
   rw [← this]
   unfold z2a
   split
   ·exact Nat.le_trans (List.length_filter_le _ _) h0
   ·exact h0
  ·rw [if_neg c] at this
   rw [← this]
   exact h0
def zgs (CC CK : Addr) : Sp := fun vs H Q _ => ∃ (c l : Addr) (ks ls : List Addr) (ss : List KN) (d : Addr) (S : Sv) (u : Su) (i : Nat) (cell : Int) (k : Nat), vs = [.ref c, .ref d, .int cell, .int k] ∧ Day CC CK H c l ks ls ss d S u i ∧ u.ok ∧ i ≤ 60 ∧
 ∀ (ls' : List Addr) (ss' : List KN) (S' : Sv) (H' : Hp), Day CC CK H' c l ks ls' ss' d S' u (i + 1) → S'.ps = S.ps → (∀ p ∈ S'.lists, p ∈ S.lists ∨ H p = none) → (∀ b o, H b = some o → b ∉ ks → b ∉ d :: S.lists → H' b = some o) → Q (.bl true) H'
theorem z68 (F : Def K mg "_law_council_deed" z2w ["_law_council", "_law_state", "_law_cell", "_law_k"]) (T : Txt K mg C_Council C_Down C_InTheWay C_Keeper C_NotFree C_OldNumber C_UnknownKeeper Pt__law_notes cd__law_notes) (G_Council_fall : MHas P w K mg base (CX1 P w) 2 C_Council "fall" ["self", "keeper"] (spFR C_Council C_Keeper C_UnknownKeeper false)) (G_Council_rise : MHas P w K mg base (CX1 P w) 2 C_Council "rise" ["self", "keeper"] (spFR C_Council C_Keeper C_UnknownKeeper true)) (G_Council_drop : MHas P w K mg base CX0 3 C_Council "drop" ["self", "number", "tick"] (zdn C_Council C_Keeper)) (G__law_same : Has P w K mg base 4 "_law_same" ["_law_found", "_law_due"] (z2j 3)) (G__law_asked : Has P w K mg base 1 "_law_asked" ["_law_rest", "_law_k", "_law_setup_here"] (za3)) (G__law_sayers : Has P w K mg base 4 "_law_sayers" ["_law_state", "_law_asking"] (z73 K)) (G__law_free : Has P w K mg base 5 "_law_free" ["_law_state", "_law_asking"] (zdk K)) (G__law_give : Has P w K mg base 5 "_law_give" ["_law_state", "_law_asking"] (zdm K)) (G__law_dropped : Has P w K mg base 1 "_law_dropped" ["_law_state", "_law_number"] (z99 K)) (G__law_given : Has P w K mg base 8 "_law_given" ["_law_council", "_law_asking", "_law_tick"] (zdo C_Council C_Keeper)) : Has P w K mg base 9 "_law_council_deed" ["_law_council", "_law_state", "_law_cell", "_law_k"] (zgs C_Council C_Keeper) := by
 refine F.ok sc__law_council_deed (fun vs H Q E h => ?_) (fun f cdv A outer s H vs Q E hr h => ?_)
 ·obtain ⟨c, l, ks, ls, ss, d, S, u, i, cell, k, rfl, _⟩ := h
  rfl
 ·obtain ⟨c, l, ks, ls, ss, d, S, u, i, cell, k, rfl, hD, hok, hi, q⟩ := h
  have hu := hr.units0
  have hu2 := z3y hr
  refine ⟨_, (z9 (zi (i := 4) sc__law_council_deed.nd rfl (Or.inl rfl) (zu hu2 (pv 1) zj (fun _ _ => rfl)))
   (z9 (zi (i := 5) sc__law_council_deed.nd rfl (Or.inl rfl) (ze z17 (pv 2) z4))
   (z9 (zx (zm z75 (ze z11 (pv 2) z4) z4 (zl _)) (z9 (zi (i := 6) sc__law_council_deed.nd rfl (Or.inl rfl) (zo G__law_asked (hr.mono (by decide)) rfl (z0 (pv 5) (z0 (pv 3) (z0 (pv 4) z6)))))
   (z9 (zi (i := 7) sc__law_council_deed.nd rfl (Or.inl rfl) (z1k (z0 (zu hu2 (pv 1) zj (fun _ _ => rfl)) (z0 (zh ix_tup (pv 6) z4 (fun _ _ => rfl)) (z0 (zh ix_tup (pv 6) z4 (fun _ _ => rfl)) (z0 (zh ix_tup (pv 6) z4 (fun _ _ => rfl)) (z0 (zh ix_tup (pv 6) z4 (fun _ _ => rfl)) z6)))))))
   (z9 (zi (i := 8) sc__law_council_deed.nd rfl (Or.inl rfl) (zo G__law_given (hr.mono (by decide)) rfl (z0 (pv 0) (z0 (pv 7) (z0 (zu hu2 (pv 1) zj (fun _ _ => rfl)) z6)))))
   (z9 (zx (z37 (z1f (zo G__law_free (hr.mono (by decide)) rfl (z0 (pv 1) (z0 (pv 7) z6))))) (zb (zk (zo G__law_same (hr.mono (by decide)) rfl (z0 (pv 8) (z0 (z1k (z0 zj z6)) z6))))) zn)
   (z9 (zi (i := 9) sc__law_council_deed.nd rfl (Or.inl rfl) (zo G__law_sayers (hr.mono (by decide)) rfl (z0 (pv 1) (z0 (pv 7) z6))))
   (z9 (z1h (zo G__law_give (hr.mono (by decide)) rfl (z0 (pv 1) (z0 (pv 7) z6))))
   (zb (zk (zo G__law_same (hr.mono (by decide)) rfl (z0 (pv 8) (z0 (z1k (z0 (zh ix_tup (zh ix_list (zu hu2 (pv 1) zj (fun _ _ => rfl)) (zi1 zf3 z4) (fun _ _ => rfl)) z4 (fun _ _ => rfl)) (z0 (pv 9) z6))) z6))))))))))) zn)
   (z9 (zx (zm z19 (ze z11 (pv 2) z4) z4 (zl _)) (z9 (zi (i := 10) sc__law_council_deed.nd rfl (Or.inl rfl) (ze z11 (pv 5) (ze z13 (zg (z6p rfl) rfl T.b_max (by decide +kernel) (z0 (zu hu2 (pv 1) zj (fun _ _ => rfl)) z6)) z4)))
   (zb (zk (zo G__law_same (hr.mono (by decide)) rfl (z0 (z1y G_Council_drop T.cl_Council (hr.mono (by decide)) (pv 0) (z0 (pv 10) (z0 (zu hu2 (pv 1) zj (fun _ _ => rfl)) z6))) (z0 (zo G__law_dropped (hr.mono (by decide)) rfl (z0 (pv 1) (z0 (pv 10) z6))) z6)))))) zn)
   (z9 (zx (zm z75 (ze z11 (pv 2) z4) z4 (zl _)) (z9 (zi (i := 11) sc__law_council_deed.nd rfl (Or.inl rfl) (ze z13 z4 (ze z11 (ze z13 (pv 5) (ze z17 (pv 3) z4)) (zh ix_tup (pv 4) z4 (fun _ _ => rfl)))))
   (z9 (zi (i := 12) sc__law_council_deed.nd rfl (Or.inl rfl) (z1d z19 (zh ix_list (zu hu2 (pv 1) zj (fun _ _ => rfl)) (ze z2q (pv 11) z4) (fun _ _ => rfl)) (z1d z19 (ze z11 (pv 2) z4) z4 (zl _)) (zl _)))
   (z9 (zbe (z1d z19 (ze z11 (pv 2) z4) z4 (zl _)) (zez (zu hu2 (pv 1) zj (fun _ _ => rfl)) (ze z2q (pv 11) z4) zbj))
   (z9 (zx (zm z19 (ze z11 (pv 2) z4) z4 (zl _)) (zb (zk (zo G__law_same (hr.mono (by decide)) rfl (z0 (z1y (MHas.never G_Council_fall) T.cl_Council (hr.mono (by decide)) (pv 0) (z0 (pv 11) z6)) (z0 (pv 12) z6))))) zn)
   (zb (zk (zo G__law_same (hr.mono (by decide)) rfl (z0 (z1y (MHas.never G_Council_rise) T.cl_Council (hr.mono (by decide)) (pv 0) (z0 (pv 11) z6)) (z0 (pv 12) z6))))))))) zn)
   (z9 (z5j hu2 (pv 1) zj (ze z13 (zu hu2 (pv 1) zj (fun _ _ => rfl)) (zh ix_list (z1b (z0 z4 (z0 z4 (z0 z4 (z0 (ze z13 z4 (ze z11 (ze z17 (pv 5) z4) z4)) z6))))) (ze z11 (pv 5) z4) (fun _ _ => rfl))) rfl)
   (zb (zk z24)))))))), ?_⟩
  walk_at "rd"
  have kn := hD.kn
  have frm : ∀ H', Same H H' → ∀ b o, H b = some o → b ∉ ks → b ∉ d :: S.lists → H' b = some o := fun H' s b o e _ _ => s b o e
  refine ⟨_, z8c hD.st.st, cdiv (by decide) (by decide), by decide, ite2 (fun c1 => ?_) (fun c1 => ⟨by decide, ite2 (fun c2 => ?_) (fun c2 => ⟨by decide, ite2 (fun c3 => ?_) (fun c3 => ?_)⟩)⟩)⟩
  ·refine ⟨_, _, S.ps, u, rfl, hD.st.su, hok, fun pe hd lk sh tm H1 mhd mlk t1 t2 ge s1 => ?_⟩
   have D1 := hD.mono s1
   refine ⟨_, z29 D1.st.st, _, _, _, _, rfl, rfl, SqT.of ge, zc (j := 1) rfl, _, _, _, _, rfl, rfl, SqT.of ge, zc (j := 2) rfl, _, _, _, _, rfl, rfl, SqT.of ge, zc (j := 3) rfl, _, _, _, _, rfl, rfl, SqT.of ge, zc (j := 4) rfl, zd (by decide), fun pa hpa => ?_⟩
   have s2 := s1.trans (Same.upd (o := .tup [V.int S.now, V.str hd, V.str lk, V.bl sh, V.int tm]) hpa)
   have D2 := D1.mono (Same.upd (o := .tup [V.int S.now, V.str hd, V.str lk, V.bl sh, V.int tm]) hpa)
   have ga : upd H1 pa (.tup [V.int S.now, V.str hd, V.str lk, V.bl sh, V.int tm]) pa = some (.tup [V.int S.now, V.str hd, V.str lk, V.bl sh, V.int tm]) := z7
   generalize upd H1 pa _ = H2 at s2 D2 ga ⊢
   have hsm : z7b ss := fun s hs => by have := hD.sb.nS s hs; omega
   have hdl := hok.hl hd mhd
   have lkl := hok.ll lk mlk
   have eS := hD.rl.say hd lk sh
   refine ⟨_, z29 D2.st.st, ?_⟩
   refine ⟨c, pa, l, ks, ls, ss, S.now, hd, lk, sh, S.now, tm, rfl, ga, D2.ca, hsm, by omega, by omega, fun hlt r H3 gr s3 => ?_, fun hlt m hm r pb ls' H3 lo hc3 gr gb hr0 hb0 bk => ?_⟩
   ·have D3 := D2.mono s3
    refine ⟨d, pa, S, u, S.now, hd, lk, sh, tm, rfl, D3.st, s3 _ _ ga, by omega, D3.say hok hi, fun H4 s4 => ⟨_, rfl, ?_⟩⟩
    rw [kn, ← eS] at hlt
    rw [if_pos (by simp; omega)]
    refine ⟨zd (by decide), fun pr hpr => ⟨_, _, rfl, ?_, fun H6 s6 => ?_⟩⟩
    ·exact z3o (.inr ⟨Same.upd hpr _ _ (s4 _ _ gr), z7⟩) (fun v hv => by rw [List.mem_singleton.mp hv]; exact .inr (.inl ⟨_, rfl⟩)) (by decide)
    ·have sE := (s4.trans (Same.upd (o := .tup [V.str "refused"]) hpr)).trans s6
     exact q ls ss S H6 (D3.mono sE).up rfl (fun p hp => .inl hp) (frm _ (s2.trans (s3.trans sE)))
   ·have st3 := D2.st.butK D2.ca bk
    have tk : ∀ b xs, H2 b = some (.tup xs) → H3 b = some (.tup xs) := fun b xs e => bk _ _ e fun hb => by obtain ⟨dx, fs, z⟩ := D2.ca.mem hb; rw [e] at z; cases z
    have ga3 := tk _ _ ga
    have sP := D2.say hok hi
    refine ⟨d, pa, S, u, S.now, hd, lk, sh, tm, rfl, st3, ga3, by omega, sP, fun H4 s4 => ⟨_, rfl, ?_⟩⟩
    rw [kn] at hlt hc3 gb
    rw [← eS] at hlt gb
    rw [if_neg (by simp; omega)]
    refine ⟨d, pa, S, u, S.now, hd, lk, sh, tm, rfl, st3.mono s4, s4 _ _ ga3, by omega, sP, fun r7 H5 hr7 gr7 s5 => ?_⟩
    have s35 := s4.trans s5
    have st5 := st3.mono s35
    have n1 := hok.n1
    have hn5 := hok.n5
    have nN := hD.sb.nN
    have nC := hD.sb.nC
    have nL := hD.sb.nL
    have tsl : S.ts.length = u.n := by rw [hD.rl.ts, List.length_map]; exact hD.rl.ln
    have sll : (sayL S hd lk sh).length ≤ 5 := by have := z8d S hd lk sh; have := sP.2.1; omega
    refine ⟨d, pa, S, u, S.now, hd, lk, sh, tm, rfl, st5, s35 _ _ ga3, by omega, sP, tsl, fun e => ?_, by omega, by omega, fun m' S' H6 pg pb2 hT' st6 e1 e2 e3 e4 e5 e6 e7 g6 l6 b6 => ?_⟩
    ·rw [e] at hlt
     simp at hlt
     omega
    have em : m' = m := hD.rl.top hT' hm
    subst em
    obtain ⟨ho, hol, hols⟩ := D2.own
    have ownS : ∀ x ∈ own d S, x ∈ d :: S.lists := fun x hx => by
     simp only [own, Sv.lists, List.mem_cons, List.not_mem_nil, or_false] at hx ⊢
     rcases hx with h | h | h | h | h <;> simp [h]
    have nown : ∀ b, H2 b = none → b ∉ own d S := fun b e hb => by
     rcases ho b (ownS b hb) with ⟨xs, z⟩ | ⟨kv, z⟩
     ·rw [e] at z; cases z
     ·rw [e] at z; cases z
    have town : ∀ b xs, H2 b = some (.tup xs) → b ∉ own d S := fun b xs e hb => by
     rcases ho b (ownS b hb) with ⟨xs, z⟩ | ⟨kv, z⟩
     ·rw [e] at z; cases z
     ·rw [e] at z; cases z
    have gr6 := b6 _ _ (s35 _ _ gr) (nown r hr0)
    have gb6 := b6 _ _ (s35 _ _ gb) (nown pb hb0)
    have st3o : ∀ x ∈ own d S, ∃ o, H3 x = some o := fun x hx => by
     simp only [own, List.mem_cons, List.not_mem_nil, or_false] at hx
     rcases hx with rfl | rfl | rfl | rfl | rfl
     ·exact ⟨_, st3.st⟩
     ·exact ⟨_, st3.gu⟩
     ·exact ⟨_, st3.gt⟩
     ·exact ⟨_, st3.gc⟩
     ·exact ⟨_, st3.gl⟩
    have n7 : r7 ∉ own d S := fun hb => by
     obtain ⟨o, z⟩ := st3o r7 hb
     rw [s4 _ _ z] at hr7; cases hr7
    have gr76 := b6 _ _ gr7 n7
    have q6 := zgl st6.st
    refine ⟨_, q6, _, _, _, _, rfl, rfl, SqL.of st6.gl, by rw [e7]; exact atI_last _ _, _, _, _, _, rfl, rfl, SqT.of g6, zc (j := 5) rfl, zd (by decide), fun pd hpd => ⟨_, _, rfl, ?_, fun H8 s8 => ?_⟩⟩
    ·have sd := Same.upd (o := .tup [V.int (1 + m'), V.ref r7]) hpd
     refine .inr ⟨r, pd, _, _, rfl, rfl, .inr ⟨sd _ _ gr6, z7⟩, rfl, (show 2 ≤ 1000 by decide), fun j x y hx hy => ?_⟩
     match j, hx, hy with
     | 0, hx, hy => cases hx; cases hy; exact .inl ⟨rfl, .inl ⟨_, rfl⟩⟩
     | 1, hx, hy =>
      cases hx; cases hy
      exact z3o (.inl ⟨sd _ _ gb6, sd _ _ gr76⟩) (z43 _) (by rw [z1m]; omega)
     | j + 2, hx, hy => cases hx
    ·have s68 := (Same.upd (o := .tup [V.int (1 + m'), V.ref r7]) hpd).trans s8
     have nls : ∀ x ∈ ls', x ∉ d :: S.lists := fun x hx hx2 => by
      rcases lo x hx with z | z
      ·exact hols x z hx2
      ·rcases ho x hx2 with ⟨xs, y⟩ | ⟨kv, y⟩
       ·rw [z] at y; cases y
       ·rw [z] at y; cases y
     have hos3 : ∀ x ∈ own d S, (∃ xs, H5 x = some (.lst xs)) ∨ ∃ kv, H5 x = some (.dK kv) := fun x hx => by
      simp only [own, List.mem_cons, List.not_mem_nil, or_false] at hx
      rcases hx with rfl | rfl | rfl | rfl | rfl
      ·exact .inr ⟨_, st5.st⟩
      ·exact .inl ⟨_, st5.gu⟩
      ·exact .inl ⟨_, st5.gt⟩
      ·exact .inl ⟨_, st5.gc⟩
      ·exact .inl ⟨_, st5.gl⟩
     have hc5 := hc3.mono s35
     have hc6 := hc5.butO b6 hos3 (fun h => hol (ownS _ h)) (fun x hx h => nls x hx (ownS _ h))
     refine q ls' _ S' H8 ⟨hc6.mono s68, st6.mono s68, hD.rl.give t1 hm e1 e3 e4 e5, kn, ⟨?_, zcz hD.sb.nS, ?_, ?_, ?_⟩, fun p hp => ?_⟩ e2 (fun p hp => ?_) fun b o e nk nd => ?_
     ·have := congrArg List.length e5
      rw [List.length_map] at this
      unfold z7e at this
      rw [List.length_append, List.length_map] at this
      dsimp only at this
      have h1 := List.length_filter_le (z1s S.now (sayL S hd lk sh) hd lk) (S.N.map (·.2))
      rw [List.length_map] at h1
      omega
     ·omega
     ·rw [e7, List.length_append]
      show _ + 1 ≤ _
      omega
     ·intro x hx
      have hx2 : x.2 ∈ S'.N.map (·.2) := List.mem_map_of_mem hx
      rw [e5] at hx2
      unfold z7e at hx2
      rcases List.mem_append.mp hx2 with z | z
      ·obtain ⟨y, hy, ey⟩ := List.mem_map.mp (List.mem_filter.mp z).1
       rw [← ey]
       exact hD.sb.nl y hy
      ·obtain ⟨k', hk', ek⟩ := List.mem_map.mp z
       rw [← ek]
       show lk.length ≤ 1000
       omega
     ·rcases l6 p hp with z | z
      ·exact ⟨(hD.ap p z).1, fun h => nls p h (List.mem_cons_of_mem _ z)⟩
      ·refine ⟨fun e => ?_, fun h => ?_⟩
       ·rw [e, hc5.li] at z; cases z
       ·obtain ⟨xs, y⟩ := hc5.lsome h
        rw [z] at y; cases y
     ·rcases l6 p hp with z | z
      ·exact .inl z
      ·right
       have z3 := zv s35 z
       cases eH : H p with
       | none => rfl
       | some o =>
        exfalso
        by_cases nk : p ∈ ks
        ·obtain ⟨dx, fs, y⟩ := hc3.mem nk
         rw [z3] at y; cases y
        ·rw [bk _ _ (s2 _ _ eH) nk] at z3; cases z3
     ·exact s68 _ _ (b6 _ _ (s35 _ _ (bk _ _ (s2 _ _ e) nk)) fun h => nd (ownS _ h))
  ·have n1 := hok.n1
   have n5 := hok.n5
   have tsl : S.ts.length = u.n := by rw [hD.rl.ts, List.length_map]; exact hD.rl.ln
   refine ⟨_, za4 hD.st.st, _, rfl, S.ts, SqL.of hD.st.gt, (fun e => by rw [e] at tsl; simp at tsl; omega), fun m hm _ => ?_⟩
   have hm0 : 0 ≤ m := by
    rw [hD.rl.ts] at hm
    obtain ⟨s, hs, rfl⟩ := List.mem_map.mp hm
    exact (hD.rl.pw s hs).2.2
   obtain ⟨dx, hob⟩ := hD.ca.ob
   refine ⟨by omega, _, _, hob, z22 _ _ (by decide +kernel) (by decide +kernel), _, z29 hD.st.st, ?_⟩
   generalize cell / 8 % (m + 2) = num
   have hsm : z7b ss := fun s hs => by have := hD.sb.nS s hs; omega
   refine ⟨c, l, ks, ls, ss, num, S.now, rfl, hD.ca, hsm, fun r ls' H1 lo hc1 hr0 gr bk => ?_⟩
   rw [kn] at hc1 gr
   have st1 := hD.st.butK hD.ca bk
   have h64 : (S.N.filter fun q => isDr num S.now S.us q.2).length < 64 := by
    have := (hD.rl.dr_perm num).length_eq
    rw [List.length_map] at this
    have h1 := List.length_filter_le (drAt ss num S.now) (upl ss u.n)
    have h2 := z5m ss u.n
    omega
   refine ⟨d, S, u, num, rfl, st1, hD.say hok hi, hD.rl.kb, h64, fun r2 pn ks2 H2 hp hs gr2 st2 hpn hr2 b2 => ?_⟩
   rw [hD.rl.dropped num hp hs] at gr2
   have nrd : r ∉ [d] := fun h => by rw [List.mem_singleton.mp h, hD.st.st] at hr0; cases hr0
   have gr3 := b2 _ _ gr nrd
   refine ⟨_, _, rfl, z3o (.inl ⟨gr3, gr2⟩) (z43 _) ?_, fun H3 s3 => ?_⟩
   ·rw [z1m]
    have h1 := List.length_filter_le (drAt ss num S.now) (upl ss u.n)
    have h2 := z5m ss u.n
    omega
   have hl1 : ∀ x ∈ ls', x ∉ [d] := fun x hx h => by
    obtain ⟨xs, z⟩ := hc1.lsome hx
    rw [List.mem_singleton.mp h, st1.st] at z; cases z
   have hc2 := hc1.butO b2 (fun x hx => .inr (by rw [List.mem_singleton.mp hx]; exact ⟨_, st1.st⟩)) (fun h => by have := hc1.li; rw [List.mem_singleton.mp h, st1.st] at this; cases this) hl1
   obtain ⟨ho, hol, hols⟩ := hD.own
   have nls : ∀ x ∈ ls', x ∉ d :: S.lists := fun x hx hx2 => by
    rcases lo x hx with z | z
    ·exact hols x z hx2
    ·rcases ho x hx2 with ⟨xs, y⟩ | ⟨kv, y⟩
     ·rw [z] at y; cases y
     ·rw [z] at y; cases y
   have dom1 : H pn = none := by
    cases eH : H pn with
    | none => rfl
    | some o =>
     exfalso
     by_cases nk : pn ∈ ks
     ·obtain ⟨dx, fs, y⟩ := hc1.mem nk
      rw [hpn] at y; cases y
     ·rw [bk _ _ eH nk] at hpn; cases hpn
   have lmem : ∀ p ∈ ({ S with pn := pn, N := S.N.filter fun q => !isDr num S.now S.us q.2 } : Sv).lists, p ∈ S.lists ∨ p = pn := fun p hp => by
    have hp2 : p ∈ [S.pu, S.pt, pn, S.pr, S.pc, S.pl] := hp
    simp only [List.mem_cons, List.not_mem_nil, or_false] at hp2
    rcases hp2 with h | h | h | h | h | h
    ·exact .inl (by simp [Sv.lists, h])
    ·exact .inl (by simp [Sv.lists, h])
    ·exact .inr h
    ·exact .inl (by simp [Sv.lists, h])
    ·exact .inl (by simp [Sv.lists, h])
    ·exact .inl (by simp [Sv.lists, h])
   refine q ls' _ { S with pn := pn, N := S.N.filter fun q => !isDr num S.now S.us q.2 } H3 ⟨hc2.mono s3, st2.mono s3, hD.rl.drop num pn, kn, ⟨?_, fun s hs => ?_, ?_, ?_, fun x hx => hD.sb.nl x (List.mem_filter.mp hx).1⟩, fun p hp => ?_⟩ rfl (fun p hp => ?_) fun b o e nk nd => ?_
   ·have := hD.sb.nN
    have h1 : (S.N.filter fun q => !isDr num S.now S.us q.2).length ≤ S.N.length := List.length_filter_le _ _
    show (S.N.filter fun q => !isDr num S.now S.us q.2).length ≤ _
    omega
   ·have := zd0 hD.sb.nS s hs
    omega
   ·have := hD.sb.nC
    show S.C.length ≤ _
    omega
   ·have := hD.sb.nL
    show S.lg.length ≤ _
    omega
   ·rcases lmem p hp with z | z
    ·exact ⟨(hD.ap p z).1, fun h => nls p h (List.mem_cons_of_mem _ z)⟩
    ·rw [z]
     refine ⟨fun e => ?_, fun h => ?_⟩
     ·rw [e, hc1.li] at hpn; cases hpn
     ·obtain ⟨xs, y⟩ := hc1.lsome h
      rw [hpn] at y; cases y
   ·rcases lmem p hp with z | z
    ·exact .inl z
    ·rw [z]; exact .inr dom1
   ·exact s3 _ _ (b2 _ _ (bk _ _ e nk) fun h => nd (by rw [List.mem_singleton.mp h]; exact List.mem_cons_self ..))
  ·have n1 := hok.n1
   have usl : S.us.length = u.n := by rw [hD.rl.us, List.length_map]; exact hD.rl.ln
   have h0 : 0 ≤ (cell / 8 + (k : Int) / 2) % (u.n : Int) := Int.emod_nonneg _ (by omega)
   have h1 : (cell / 8 + (k : Int) / 2) % (u.n : Int) < (u.n : Int) := Int.emod_lt_of_pos _ (by omega)
   refine ⟨cdiv (by decide) (by decide), _, _, _, _, rfl, rfl, SqT.of hD.st.su.tu, zc (j := 0) rfl, _, rfl, by omega, _, z95 hD.st.st, ?_⟩
   generalize (cell / 8 + (k : Int) / 2) % (u.n : Int) = ji at h0 h1 ⊢
   obtain ⟨j, rfl⟩ := Int.eq_ofNat_of_zero_le h0
   rw [show (1 : Int) + (j : Int) - 1 = (j : Int) by omega]
   have hj : j < S.us.length := by omega
   have hjs : j < ss.length := by rw [hD.rl.ln]; omega
   have hsj : ss[j]? = some ss[j] := List.getElem?_eq_getElem hjs
   have gb : (S.us.map V.bl)[j]? = some (.bl ss[j].u) := by rw [hD.rl.us, List.map_map, List.getElem?_map, hsj]; rfl
   refine ⟨_, _, _, _, rfl, rfl, SqL.of hD.st.gu, zc gb, by decide, rfl, by decide, _, z95 hD.st.st, S.pu, _, _, j, rfl, rfl, hD.st.gu, zdl (by rw [List.length_map]; exact hj), by decide, ?_⟩
   rw [← List.map_set]
   obtain ⟨ho, hol, hols⟩ := hD.own
   have pu_l : l ≠ S.pu := fun e => (hD.ap S.pu (by simp [Sv.lists])).1 e.symm
   have pu_ls : S.pu ∉ ls := (hD.ap S.pu (by simp [Sv.lists])).2
   obtain ⟨dx, hob⟩ := hD.ca.ob
   have fin : ∀ (b : Bool) (H4 : Hp) (kk : Addr), ks[j]? = some kk → CAt C_Council C_Keeper H4 c l ks ls (ss.set j ⟨b, ss[j].t, ss[j].N⟩) → But kk (upd H S.pu (.lst ((S.us.set j b).map V.bl))) H4 → ∀ H5, Same H4 H5 → Q (.bl true) H5 := fun b H4 kk hk ca4 b4 H5 s5 => by
    have ca3 : CAt C_Council C_Keeper (upd H S.pu (.lst ((S.us.set j b).map V.bl))) c l ks ls ss := hD.ca.upd hD.st.gu pu_l pu_ls
    have st4 := (hD.st.setU j b).butK ca3 (ButK.but b4 (List.mem_of_getElem? hk))
    refine q ls _ { S with us := S.us.set j b } H5 ⟨ca4.mono s5, st4.mono s5, hD.rl.stand hsj b, kn, ⟨?_, fun s hs => ?_, ?_, ?_, hD.sb.nl⟩, hD.ap⟩ rfl (fun p hp => .inl hp) fun b' o e nk nd => ?_
    ·have := hD.sb.nN
     show S.N.length ≤ _
     omega
    ·rcases List.mem_or_eq_of_mem_set hs with z | z
     ·have := hD.sb.nS s z
      omega
     ·rw [z]
      have := hD.sb.nS ss[j] (List.getElem_mem hjs)
      show ss[j].N.length ≤ _
      omega
    ·have := hD.sb.nC
     show S.C.length ≤ _
     omega
    ·have := hD.sb.nL
     show S.lg.length ≤ _
     omega
    ·refine s5 _ _ (b4 _ _ ?_ fun z => nk (z ▸ List.mem_of_getElem? hk))
     rw [z8 (fun z => nd (by rw [z]; simp [Sv.lists]))]
     exact e
   have ca3 : ∀ b : Bool, CAt C_Council C_Keeper (upd H S.pu (.lst ((S.us.set j b).map V.bl))) c l ks ls ss := fun b => hD.ca.upd hD.st.gu pu_l pu_ls
   have inr : ¬ ¬ (1 ≤ (1 + (j : Int)) ∧ (1 + (j : Int)) ≤ (ks.length : Int)) := fun h => h ⟨by omega, by omega⟩
   refine ite2 (fun c5 => ?_) (fun c5 => ?_)
   ·have e5 : cell % 8 = 5 := of_decide_eq_true c5
    have e6 : decide (cell % 8 = 6) = false := by rw [e5]; decide
    rw [e6]
    obtain ⟨dx3, hob3⟩ := (ca3 false).ob
    refine ⟨_, _, hob3, z22 _ _ (by decide +kernel) (by decide +kernel), c, l, ks, ls, ss, _, rfl, ca3 false, fun h => absurd h inr, fun j' kk s H4 ej hk hs ca4 b4 => ?_⟩
    obtain rfl : j' = j := by omega
    rw [hsj] at hs
    cases hs
    refine ⟨_, _, rfl, .inl ⟨?_, .inr (.inr ⟨_, rfl⟩)⟩, fin false H4 kk hk ca4 b4⟩
    rw [e5]
    cases ss[j'].u <;> simp
   ·have e6 : cell % 8 = 6 := by
     have a1 : ¬ cell % 8 < 4 := by simpa using c1
     have a2 : ¬ cell % 8 = 4 := by simpa using c2
     have a3 : cell % 8 < 7 := of_decide_eq_true c3
     have a5 : ¬ cell % 8 = 5 := by simpa using c5
     omega
    have e6' : decide (cell % 8 = 6) = true := decide_eq_true e6
    rw [e6']
    obtain ⟨dx3, hob3⟩ := (ca3 true).ob
    refine ⟨_, _, hob3, z22 _ _ (by decide +kernel) (by decide +kernel), c, l, ks, ls, ss, _, rfl, ca3 true, fun h => absurd h inr, fun j' kk s H4 ej hk hs ca4 b4 => ?_⟩
    obtain rfl : j' = j := by omega
    rw [hsj] at hs
    cases hs
    refine ⟨_, _, rfl, .inl ⟨?_, .inr (.inr ⟨_, rfl⟩)⟩, fin true H4 kk hk ca4 b4⟩
    rw [e6]
    cases ss[j'].u <;> simp
  ·refine ⟨_, z29 hD.st.st, cdiv (by decide) (by decide), by decide, zd (by decide), fun p hp => ⟨by decide, ?_⟩⟩
   obtain ⟨t, et, ht⟩ := zj4 (1 + cell / 8 / 4 % 1000) (by omega) (cell / 8 % 4) (by omega) (by omega)
   have s1 := Same.upd (o := .lst [V.int 1, V.int 2, V.int 5, V.int (1 + cell / 8 / 4 % 1000)]) hp
   have g1 : upd H p (.lst [V.int 1, V.int 2, V.int 5, V.int (1 + cell / 8 / 4 % 1000)]) p = some (.lst [V.int 1, V.int 2, V.int 5, V.int (1 + cell / 8 / 4 % 1000)]) := z7
   generalize upd H p _ = H1 at s1 g1 ⊢
   have D1 := hD.mono s1
   refine ⟨_, _, _, _, rfl, rfl, SqL.of g1, et, _, rfl, _, rfl, _, zer D1.st.st (S.now + t), ?_⟩
   have b2 : ButK [d] H1 (upd H1 d (.dK (stw { S with now := S.now + t }))) := fun b o e nb => by rw [z8 (fun z => nb (by rw [z]; exact List.mem_singleton_self _))]; exact e
   have hc2 := D1.ca.butO b2 (fun x hx => .inr (by rw [List.mem_singleton.mp hx]; exact ⟨_, D1.st.st⟩)) (fun h => by have := D1.ca.li; rw [List.mem_singleton.mp h, D1.st.st] at this; cases this) (fun x hx h => by obtain ⟨xs, z⟩ := D1.ca.lsome hx; rw [List.mem_singleton.mp h, D1.st.st] at z; cases z)
   refine q ls ss { S with now := S.now + t } _ ⟨hc2, D1.st.setN _, hD.rl.later (by omega), kn, hD.sb.up.now, hD.ap⟩ rfl (fun p hp => .inl hp) fun b o e nk nd => b2 _ _ (s1 _ _ e) fun h => nd (by rw [List.mem_singleton.mp h]; exact List.mem_cons_self ..)
def z69 (S : Sv) (j : Nat) : List Nt := ((S.N.map (·.2)).filter fun q => decide (q.k = j) && decide (S.now < q.x.e)).map (·.x)
abbrev tbN (H : Hp) (Pt : Addr) : Prop := TbOk H Pt ⟨268, 34, 268, 64⟩ (Str.ofString "_law_notes" ++ ".<locals>." ++ "<lambda>")
theorem z9c {H H1 : Hp} {Pt : Addr} (h : But1 Pt H H1) (t : tbN H Pt) {b : Addr} {o : HO} (e : H b = some o) (n : ∀ ps, o ≠ .tbl ps) : H1 b = some o := h b o e fun z => by
 obtain ⟨ps, hp⟩ := t.some
 rw [z, hp] at e
 cases e
 exact n ps rfl
def TuL (H : Hp) (L : NL) : Prop := ∀ q ∈ L, H q.1 = some (.tup q.2.vals)
def z8e (Pt : Addr) : Sp := fun vs H Q _ => ∃ (d : Addr) (S : Sv) (u : Su) (j : Nat), vs = [.ref d, .int ((j : Int) + 1)] ∧ StAt H d S u ∧ S.N.length ≤ 400 ∧ (z69 S j).length < 64 ∧ (z69 S j).Pairwise (fun a b => a.n < b.n) ∧ tbN H Pt ∧
 ∀ (r : Addr) (L : NL) (H' : Hp), H r = none → H' r = some (.lst (refs L)) → TuL H' L → L.map (·.2) = z69 S j → But1 Pt H H' → tbN H' Pt → Q (.ref r) H'
theorem zb6 (F : DefC K mg "_law_notes" z20 ["_law_state", "_law_keeper"] cd__law_notes) (T : Txt K mg C_Council C_Down C_InTheWay C_Keeper C_NotFree C_OldNumber C_UnknownKeeper Pt__law_notes cd__law_notes) (BA : base.BuiltinsAt mg Pt__law_notes) : Has P w K mg base 3 "_law_notes" ["_law_state", "_law_keeper"] (z8e Pt__law_notes) := by
 refine F.ok sc__law_notes (fun vs H Q E h => ?_) (fun f A outer s H vs Q E hr h => ?_)
 ·obtain ⟨d, S, u, j, rfl, _⟩ := h
  rfl
 ·obtain ⟨d, S, u, j, rfl, hS, hn, h64, hpw, hT, q⟩ := h
  have hu := hr.units0
  have hu2 := z3y hr
  refine ⟨_, (z9 (zi (i := 2) sc__law_notes.nd rfl (Or.inl rfl) (z1b z6))
   (z9 (z2p PassesOwn.never rfl (z18 (zu hu2 (pv 0) zj (fun _ _ => rfl))) (z15 (i := 3) sc__law_notes.nd rfl (Or.inl rfl)) (zb (zx (PW.pt (z36 (zm z19 (zh ix_tup (pv 3) z4 (fun _ _ => rfl)) (pv 1) (zl _)) (z4i (zm z8g (zh ix_tup (pv 3) z4 (fun _ _ => rfl)) (zu hu2 (pv 0) zj (fun _ _ => rfl)) (zl _))))) (zb (z1h (z2f PySem.F.plainAttrs_list PySem.F.slot_list_append PySem.F.type_list_append z1t (pv 2) (z0 (z4n zji (pv 3) (z5g z4) z5f) z6)))) zn)))
   (zb (zk (zb0 (hr.mono (by decide)) rfl rfl T.b_sorted (z0 (pv 2) z6) rfl T.hd__law_notes BA rfl rfl ⟨fun _ _ _ _ _ _ => rfl, rfl, rfl, rfl, by decide +kernel, rfl, by decide +kernel⟩))))), ?_⟩
  walk_at "rd"
  refine ⟨Nat.zero_le _, fun p hp => ?_⟩
  have s1 := Same.upd (o := .lst []) hp
  have g1 : upd H p (.lst []) p = some (.lst []) := z7
  generalize upd H p (.lst []) = H1 at s1 g1 ⊢
  refine ⟨_, z66 (s1 _ _ hS.st), _, rfl, ⟨_, SqL.of (s1 _ _ hS.gn)⟩, ?_⟩
  refine z27 (xs := refk S.N) (fun i σ H' => ∃ (L : NL) (v3 : Option V), σ = [some (V.ref d), some (V.int ((j : Int) + 1)), some (V.ref p), v3] ∧ L.length ≤ i ∧ H' p = some (.lst (refs L)) ∧ TuL H' L ∧ L.map (·.2) = (((S.N.take i).filter fun q => decide (q.2.k = j) && decide (S.now < q.2.x.e)).map fun q => q.2.x) ∧ Same H H') ⟨[], _, rfl, Nat.le_refl _, g1, (fun q hq => by cases hq), rfl, s1⟩ ?_ ?_ ?_
  ·rintro i σ H' - ⟨L, v3, -, -, -, -, -, s2⟩
   exact SqL.of (s2 _ _ hS.gn)
  ·rintro Pv hP i x σ H' hx ⟨L, v3, rfl, lL, gL, tL, iL, s2⟩
   obtain ⟨y, hy, rfl⟩ := z65 hx
   have my := List.mem_of_getElem? hy
   have hi : i < S.N.length := (List.getElem?_eq_some_iff.mp hy).1
   have stp := z1i (fun q : Addr × Nk => decide (q.2.k = j) && decide (S.now < q.2.x.e)) hy
   have no : (decide (y.2.k = j) && decide (S.now < y.2.x.e)) = false → Pv (i + 1) [some (V.ref d), some (V.int ((j : Int) + 1)), some (V.ref p), some (V.ref y.1)] H' := fun e => hP _ _ _ ⟨L, _, rfl, by omega, gL, tL, by rw [stp, if_neg (by rw [e]; exact Bool.false_ne_true), List.append_nil]; exact iL, s2⟩
   have hy1 := s2 _ _ (hS.kn y my)
   have hst := s2 _ _ hS.st
   walk_at "rd"
   refine ⟨_, _, _, _, rfl, rfl, SqT.of hy1, zc (j := 0) rfl, rfl, ?_⟩
   by_cases c1 : y.2.k = j
   rotate_left
   ·rw [if_neg (by simp; omega)]
    exact no (by simp [c1])
   rw [if_pos (decide_eq_true (congrArg V.int (by rw [c1])))]
   refine ⟨_, _, _, _, rfl, rfl, SqT.of hy1, zc (j := 5) rfl, _, z29 hst, _, rfl, _, rfl, ?_⟩
   by_cases c2 : S.now < y.2.x.e
   rotate_left
   ·rw [if_neg (by simpa using c2)]
    exact no (by simp [c2])
   rw [if_pos (decide_eq_true c2)]
   have e6 : cutV y.2.vals (some 1) none = y.2.x.vals := rfl
   refine ⟨.inl ⟨_, SqL.of gL⟩, y.1, y.2.vals, rfl, SqT.of hy1, (by rintro ⟨z, -⟩; cases z), fun pt hpt => ?_⟩
   rw [e6]
   have s3 := Same.upd (o := .tup y.2.x.vals) hpt
   have g3 : upd H' pt (.tup y.2.x.vals) pt = some (.tup y.2.x.vals) := z7
   generalize upd H' pt (.tup y.2.x.vals) = H2 at s3 g3 ⊢
   refine ⟨_, _, _, rfl, rfl, s3 _ _ gL, z1l (by rw [z14]; omega), hP _ _ _ ⟨L ++ [(pt, y.2.x)], _, rfl, by rw [List.length_append]; show _ + 1 ≤ _; omega, by rw [z7]; simp [refs], fun z hz => ?_, by rw [stp, if_pos (by rw [decide_eq_true c1, decide_eq_true c2]; rfl), List.map_append, List.map_append, iL]; rfl, fun b o e => ?_⟩⟩
   ·have hz2 : H2 z.1 = some (.tup z.2.vals) := by
     rcases List.mem_append.mp hz with hz | hz
     ·exact s3 _ _ (tL z hz)
     ·rw [List.mem_singleton.mp hz]; exact g3
    rw [z8 (fun e => by rw [e, s3 _ _ gL] at hz2; cases hz2)]
    exact hz2
   ·rw [z8 (za e hp)]
    exact s3 _ _ (s2 _ _ e)
  rintro σ H' ⟨L, v3, rfl, lL, gL, tL, iL, s2⟩
  rw [z3e, List.take_length] at iL
  walk_at "rd"
  have eK : L.map (·.2) = z69 S j := by
   rw [iL]
   unfold z69
   rw [List.filter_map, List.map_map]
   rfl
  have lK : L.length < 64 := by have := congrArg List.length eK; rw [List.length_map] at this; omega
  have get : ∀ n, n < L.length → (z69 S j)[n]? = some (L.getD n (0, ⟨0, "", "", false, 0⟩)).2 := fun n hn => by
   rw [← eK, List.getElem?_map, List.getD_eq_getElem?_getD, List.getElem?_eq_getElem hn]
   rfl
  refine ⟨L.map fun q => (q.1, q.2.vals), by rw [List.map_map]; exact SqL.of gL, by rw [List.length_map]; exact lK, hT.mono s2, fun n => (L.getD n (0, ⟨0, "", "", false, 0⟩)).2.n, fun n z hz => ?_, fun a b hab hb => ?_, fun H2 r hB hT2 hr2 => ?_⟩
  ·rw [List.getElem?_map] at hz
   cases e : L[n]? with
   | none => rw [e] at hz; cases hz
   | some y =>
    rw [e] at hz
    cases hz
    refine ⟨tL y (List.mem_of_getElem? e), ?_⟩
    show some (V.int y.2.n) = some (V.int (L.getD n (0, ⟨0, "", "", false, 0⟩)).2.n)
    rw [List.getD_eq_getElem?_getD, e]
    rfl
  ·rw [List.length_map] at hb
   have ha : a < L.length := by omega
   obtain ⟨i1, e1⟩ := List.getElem?_eq_some_iff.mp (get a ha)
   obtain ⟨i2, e2⟩ := List.getElem?_eq_some_iff.mp (get b hb)
   have := List.pairwise_iff_getElem.mp hpw a b i1 i2 hab
   rw [e1, e2] at this
   exact this
  ·have hB2 : But1 Pt__law_notes H (upd H2 r (.lst (refs L))) := fun b o e nb => by
    have := hB b o (s2 _ _ e) nb
    rw [z8 (za this hr2)]
    exact this
   have hr0 : H r = none := by
    cases e : H r with
    | none => rfl
    | some o =>
     by_cases z : r = Pt__law_notes
     ·obtain ⟨ps, hp2⟩ := hT2.some
      rw [z, hp2] at hr2; cases hr2
     ·rw [hB r o (s2 _ _ e) z] at hr2; cases hr2
   rw [List.map_map]
   refine q r L _ hr0 z7 (fun z hz => ?_) eK hB2 (hT2.mono (Same.upd hr2))
   have hz2 : H2 z.1 = some (.tup z.2.vals) := z9c hB (hT.mono s2) (tL z hz) fun _ y => by cases y
   rw [z8 (za hz2 hr2)]
   exact hz2
def zgt (CC CK : Addr) : Sp := fun vs H Q _ => ∃ (c l : Addr) (ks ls : List Addr) (ss : List KN), vs = [.ref c] ∧ CAt CC CK H c l ks ls ss ∧ ∀ (r : Addr) (H' : Hp), H r = none → H' r = some (.lst (zy (upl ss ks.length))) → Same H H' → Q (.ref r) H'
theorem za8 (F : MDef K C_Council "ups" "Council.ups" z4c ["self"]) (T : Txt K mg C_Council C_Down C_InTheWay C_Keeper C_NotFree C_OldNumber C_UnknownKeeper Pt__law_notes cd__law_notes) (G_Council_up_keepers : MHas P w K mg base CX0 1 C_Council "up_keepers" ["self"] (z90 C_Council C_Keeper)) : MHas P w K mg base CX0 2 C_Council "ups" ["self"] (zgt C_Council C_Keeper) := by
 refine F.ok z9v (fun vs H Q E h => ?_) (fun f cdv A outer s H vs Q E hr h => ?_)
 ·obtain ⟨c, l, ks, ls, ss, rfl, _⟩ := h
  rfl
 ·obtain ⟨c, l, ks, ls, ss, rfl, hc, q⟩ := h
  refine ⟨_, (zb (zk (z5v (x := "place") (y2 := "keeper") (cap := []) (js := []) rfl ⟨rfl, by decide +kernel, by decide +kernel, rfl, rfl, zw rfl, by decide +kernel, trivial⟩ (fun _ _ _ _ => z51 (K := K) rfl (z1p (z15 (i := 0) (show List.Nodup [("place" : Str), ("keeper" : Str)] from by decide +kernel) rfl (Or.inl rfl)) (z1p (z15 (i := 1) (show List.Nodup [("place" : Str), ("keeper" : Str)] from by decide +kernel) rfl (Or.inl rfl)) z4j))) (z18 (z3q G_Council_up_keepers T.cl_Council (hr.mono (by decide)) (pv 0))) (fun _ _ _ _ => z32) (fun _ _ _ _ => (pv 0))))), ?_⟩
  walk_at "rd"
  obtain ⟨dx, hob⟩ := hc.ob
  have hsz := hc.sz
  refine ⟨_, _, hob, z22 _ _ (by decide +kernel) (by decide +kernel), c, l, ks, ls, ss, rfl, hc, fun r L H1 hL hr0 gr s1 => ⟨r, rfl, ⟨_, SqL.of gr⟩, ?_⟩⟩
  have hll := hL.len
  refine z4q (xs := ptup L) (by rw [z3d]; exact zd (by omega)) (fun i acc H' => acc = zy ((upl ss ks.length).take i) ∧ H1 = H') ⟨rfl, rfl⟩ ?_ ?_ ?_ ?_
  ·rintro i acc H' ⟨rfl, -⟩
   unfold zy
   rw [List.length_map, List.length_take]
   omega
  ·rintro i acc H' ⟨-, rfl⟩
   exact SqL.of gr
  ·rintro Nn i acc H' x hN hx hi ⟨rfl, rfl⟩
   obtain ⟨y, hy, rfl⟩ := z64 hx
   have gi : (upl ss ks.length)[i]? = some y.2.1 := by rw [← hL.mp, List.getElem?_map, hy]; rfl
   refine ⟨y.1, _, rfl, SqT.of (hL.tu y (List.mem_of_getElem? hy)), rfl, ?_⟩
   walk_at "rd"
   refine ⟨_, _, ⟨rfl, rfl⟩, _, _, rfl, rfl, ⟨_, rfl⟩, hN _ _ ⟨?_, rfl⟩⟩
   rw [List.take_succ, gi]
   simp [zy]
  ·rintro acc H' ⟨rfl, rfl⟩ p hp
   have e : (upl ss ks.length).take (ptup L).length = upl ss ks.length := by
    rw [z3d, ← hL.take, List.take_length, hL.mp]
   rw [e]
   exact q p _ (zv s1 hp) z7 (s1.trans (Same.upd hp))
def AP (K : PySem.W.Frag) (a d : Addr) (xs : List V) (H : Hp) (S : Sv) : Prop := (∀ H', SqL K H' a xs) ∨ ((∀ H', H' a = H a → SqL K H' a xs) ∧ (∃ o, H a = some o ∧ (∀ C dx fs, o ≠ .ins C dx fs) ∧ ∀ ps, o ≠ .tbl ps) ∧ a ∉ d :: S.lists)
theorem AP.sq {K : PySem.W.Frag} {a d : Addr} {xs : List V} {H : Hp} {S : Sv} (h : AP K a d xs H S) : SqL K H a xs := by
 rcases h with h | ⟨h, -, -⟩
 ·exact h H
 ·exact h H rfl
theorem AP.mono {K : PySem.W.Frag} {a d : Addr} {xs : List V} {H H' : Hp} {S : Sv} (h : AP K a d xs H S) (s : Same H H') : AP K a d xs H' S := by
 rcases h with h | ⟨h, ⟨o, e, no, nt⟩, n⟩
 ·exact .inl h
 ·have e' := s _ _ e
  exact .inr ⟨fun H2 z => h H2 (by rw [z, e', e]), ⟨o, e', no, nt⟩, n⟩
theorem AP.start {K : PySem.W.Frag} {a d : Addr} {xs : List V} {H H' : Hp} {S : Sv} (h : SqL K H a xs) (s : Same H H') (hd : H d = none) (hl : ∀ p ∈ S.lists, H p = none) : AP K a d xs H' S := by
 rcases h with (z | ⟨o, z⟩) | z
 ·have z' := s _ _ z
  refine .inr ⟨fun H2 e => .inl (.inl (by rw [e]; exact z')), ⟨_, z', (fun _ _ _ y => by cases y), fun _ y => by cases y⟩, fun hm => ?_⟩
  rcases List.mem_cons.mp hm with y | y
  ·rw [← y, z] at hd; cases hd
  ·rw [hl a y] at z; cases z
 ·have z' := s _ _ z
  refine .inr ⟨fun H2 e => .inl (.inr ⟨o, by rw [e]; exact z'⟩), ⟨_, z', (fun _ _ _ y => by cases y), fun _ y => by cases y⟩, fun hm => ?_⟩
  rcases List.mem_cons.mp hm with y | y
  ·rw [← y, z] at hd; cases hd
  ·rw [hl a y] at z; cases z
 ·exact .inl fun H' => .inr z
theorem AP.step {K : PySem.W.Frag} {a d : Addr} {xs : List V} {H H' : Hp} {S S' : Sv} {CC CK c l : Addr} {ks ls : List Addr} {ss : List KN} (h : AP K a d xs H S) (hc : CAt CC CK H c l ks ls ss) (hl : ∀ p ∈ S'.lists, p ∈ S.lists ∨ H p = none) (hf : ∀ b o, H b = some o → b ∉ ks → b ∉ d :: S.lists → H' b = some o) : AP K a d xs H' S' := by
 rcases h with h | ⟨h, ⟨o, e, no, nt⟩, n⟩
 ·exact .inl h
 ·have nk : a ∉ ks := fun hk => by obtain ⟨dx, fs, z⟩ := hc.mem hk; rw [e] at z; cases z; exact no _ _ _ rfl
  have e' := hf _ _ e nk n
  refine .inr ⟨fun H2 z => h H2 (by rw [z, e', e]), ⟨o, e', no, nt⟩, fun hm => ?_⟩
  rcases List.mem_cons.mp hm with y | y
  ·exact n (by rw [y]; exact List.mem_cons_self ..)
  ·rcases hl a y with z | z
   ·exact n (List.mem_cons_of_mem _ z)
   ·rw [e] at z; cases z
theorem AP.keep {K : PySem.W.Frag} {a d : Addr} {xs : List V} {H H' : Hp} {S : Sv} (h : AP K a d xs H S) (k : ∀ b o, H b = some o → (∀ ps, o ≠ .tbl ps) → H' b = some o) : AP K a d xs H' S := by
 rcases h with h | ⟨h, ⟨o, e, no, nt⟩, n⟩
 ·exact .inl h
 ·have e' := k _ _ e nt
  exact .inr ⟨fun H2 z => h H2 (by rw [z, e', e]), ⟨o, e', no, nt⟩, n⟩
theorem Day.keep {CC CK : Addr} {H H' : Hp} {c l : Addr} {ks ls : List Addr} {ss : List KN} {d : Addr} {S : Sv} {u : Su} {i : Nat} (h : Day CC CK H c l ks ls ss d S u i) (k : ∀ b o, H b = some o → (∀ ps, o ≠ .tbl ps) → H' b = some o) : Day CC CK H' c l ks ls ss d S u i := by
 obtain ⟨⟨⟨dx, h1⟩, h2, h3, h4, h5, h6, h7⟩, st, rl, kn, sb, ap⟩ := h
 have L : ∀ b xs, H b = some (.lst xs) → H' b = some (.lst xs) := fun b xs e => k b _ e fun _ z => by cases z
 have T : ∀ b xs, H b = some (.tup xs) → H' b = some (.tup xs) := fun b xs e => k b _ e fun _ z => by cases z
 have I : ∀ b C dx fs, H b = some (.ins C dx fs) → H' b = some (.ins C dx fs) := fun b C dx fs e => k b _ e fun _ z => by cases z
 refine ⟨⟨⟨dx, I _ _ _ _ h1⟩, L _ _ h2, fun i k' e => ?_, h4, h5, h6, h7⟩, ⟨k _ _ st.st (fun _ z => by cases z), ⟨T _ _ st.su.tu, L _ _ st.su.gh, L _ _ st.su.gl, L _ _ st.su.gc, L _ _ st.su.gt⟩, L _ _ st.gu, L _ _ st.gt, L _ _ st.gn, fun q hq => T _ _ (st.kn q hq), L _ _ st.gr, L _ _ st.gc, fun q hq => T _ _ (st.kc q hq), L _ _ st.gl, st.nd, st.sd⟩, rl, kn, sb, ap⟩
 obtain ⟨s, l', e1, e2, ⟨dx2, z⟩, N, eN, ⟨dx', l2, g1, g2⟩, hn, hl⟩ := h3 i k' e
 exact ⟨s, l', e1, e2, ⟨dx2, I _ _ _ _ z⟩, N, eN, ⟨dx', l2, I _ _ _ _ g1, L _ _ g2⟩, ⟨fun q hq => T _ _ (hn.tu q hq), hn.sm⟩, hl⟩
theorem zj5 {CC CK : Addr} {H H' : Hp} {c l : Addr} {ks ls : List Addr} {ss : List KN} {d : Addr} {S : Sv} {u : Su} {i : Nat} {Pt : Addr} {pos : Pos} {qual : Str} (t : TbOk H Pt pos qual) (hD : Day CC CK H c l ks ls ss d S u i) (f : ∀ b o, H b = some o → b ∉ ks → b ∉ d :: S.lists → H' b = some o) : TbOk H' Pt pos qual := by
 have go : ∀ b o, H b = some o → (∀ C dx fs, o ≠ .ins C dx fs) → (∀ xs, o ≠ .lst xs) → (∀ kv, o ≠ .dK kv) → H' b = some o := fun b o e n1 n2 n3 => f b o e (fun hb => by obtain ⟨dx, fs, z⟩ := hD.ca.mem hb; rw [e] at z; cases z; exact n1 _ _ _ rfl) fun hb => by
  rcases hD.own.1 b hb with ⟨xs, z⟩ | ⟨kv, z⟩
  ·rw [e] at z; cases z; exact n2 _ rfl
  ·rw [e] at z; cases z; exact n3 _ rfl
 rcases t with z | ⟨c', z, z2⟩
 ·exact .inl (go _ _ z (fun _ _ _ y => by cases y) (fun _ y => by cases y) fun _ y => by cases y)
 ·exact .inr ⟨c', go _ _ z (fun _ _ _ y => by cases y) (fun _ y => by cases y) (fun _ y => by cases y), go _ _ z2 (fun _ _ _ y => by cases y) (fun _ y => by cases y) fun _ y => by cases y⟩
theorem zgu {S : Sv} {n : Nat} (h1 : S.us = List.replicate n true) (h2 : S.ts = List.replicate n 0) (h3 : S.N = []) : Rel S (z3n n) n := by
 have hs : ∀ s ∈ z3n n, s = ⟨true, 0, []⟩ := fun s hs => List.eq_of_mem_replicate hs
 refine ⟨by rw [h1]; unfold z3n; rw [List.map_replicate], by rw [h2]; unfold z3n; rw [List.map_replicate], by unfold z3n; rw [List.length_replicate], fun j s e => ?_, fun s ms => ?_, fun q hq => by rw [h3] at hq; cases hq⟩
 ·rw [hs s (List.mem_of_getElem? e), h3]
  rfl
 ·rw [hs s ms]
  exact ⟨List.Pairwise.nil, (fun x hx => by cases hx), Int.le_refl _⟩
theorem zhr (x : Nt) : ∀ v ∈ x.vals, z7c v := by
 intro v hv
 simp only [Nt.vals, List.mem_cons, List.not_mem_nil, or_false] at hv
 rcases hv with rfl | rfl | rfl | rfl | rfl
 ·exact .inl ⟨_, rfl⟩
 ·exact .inr (.inl ⟨_, rfl⟩)
 ·exact .inr (.inl ⟨_, rfl⟩)
 ·exact .inr (.inr ⟨_, rfl⟩)
 ·exact .inl ⟨_, rfl⟩
theorem zd1 {H : Hp} {a b : Addr} {L M : NL} (ha : H a = some (.lst (refs L))) (hb : H b = some (.lst (refs M))) (hL : ∀ q ∈ L, H q.1 = some (.tup q.2.vals)) (hM : ∀ q ∈ M, H q.1 = some (.tup q.2.vals)) (e : L.map (·.2) = M.map (·.2)) (hl : L.length ≤ 1000) : Alike H 3 (.ref a) (.ref b) := by
 have hlm : L.length = M.length := by have := congrArg List.length e; simpa using this
 refine .inr ⟨a, b, _, _, rfl, rfl, .inl ⟨ha, hb⟩, by rw [z14, z14]; exact hlm, by rw [z14]; exact hl, fun i x y hx hy => ?_⟩
 obtain ⟨q, hq, rfl⟩ := z2o hx
 obtain ⟨r, hr, rfl⟩ := z2o hy
 have ee : q.2 = r.2 := by
  have h1 : (L.map (·.2))[i]? = (M.map (·.2))[i]? := by rw [e]
  rw [List.getElem?_map, List.getElem?_map, hq, hr] at h1
  simpa using h1
 have t1 := hL q (List.mem_of_getElem? hq)
 have t2 := hM r (List.mem_of_getElem? hr)
 rw [← ee] at t2
 refine .inr ⟨_, _, _, _, rfl, rfl, .inr ⟨t1, t2⟩, rfl, by show 5 ≤ 1000; decide, fun j x y hx hy => ?_⟩
 rw [hx] at hy
 cases hy
 exact .inl ⟨rfl, zhr _ _ (List.mem_of_getElem? hx)⟩
theorem z9d {CC CK CU : Addr} {H : Hp} {c l : Addr} {ks ls : List Addr} {ss : List KN} {d : Addr} {S : Sv} {u : Su} {i : Nat} {Pt : Addr} {j : Nat} {QQ : V → V → Hp → Prop} {E1 E2 E3 : XK} (D : Day CC CK H c l ks ls ss d S u i) (hi : i ≤ 60) (T : tbN H Pt) (hj : j < u.n)
  (q : ∀ (r : Addr) (xs : List V) (H9 : Hp), H r = none → H9 r = some (.lst xs) → (∀ b o, H b = some o → (∀ ps, o ≠ .tbl ps) → H9 b = some o) → tbN H9 Pt → QQ (.ref r) (.bl true) H9) :
  za1 CC CK CU [.ref c, .int ((j : Int) + 1), .int S.now] H (fun x H1 => z8e Pt [.ref d, .int ((j : Int) + 1)] H1 (fun y H2 => z2j 3 [x, y] H2 (fun z H3 => QQ x z H3) E3) E2) E1 := by
 have kn := D.kn
 refine ⟨c, l, ks, ls, ss, _, _, rfl, D.ca, fun n => absurd ⟨by omega, by omega⟩ n, fun j' s ej hs r L H1 hr0 gr hN eL s1 => ?_⟩
 obtain rfl : j = j' := by omega
 have ms := List.mem_of_getElem? hs
 have eK : z21 S.now s.N = z69 S j := D.rl.nt j s hs
 have nS := D.sb.nS s ms
 have nN := D.sb.nN
 have ll : (z21 S.now s.N).length ≤ s.N.length := List.length_filter_le _ _
 have T1 := T.mono s1
 have lL : L.length ≤ 60 := by have := congrArg List.length eL; rw [List.length_map] at this; omega
 refine ⟨d, S, u, j, rfl, (D.mono s1).st, by omega, by rw [← eK]; omega, by rw [← eK]; exact List.Pairwise.sublist List.filter_sublist (D.rl.pw s ms).1, T1, fun r2 L2 H2 hr2 gr2 tL2 eL2 hB hT2 => ?_⟩
 have gr' := z9c hB T1 gr fun _ z => by cases z
 refine ⟨_, _, rfl, zd1 gr' gr2 (fun z hz => z9c hB T1 (hN.tu z hz) fun _ y => by cases y) tL2 (by rw [eL, eL2, eK]) (by omega), fun H3 s3 => q r _ H3 hr0 (s3 _ _ gr') (fun b o e n => s3 _ _ (z9c hB T1 (s1 _ _ e) n)) (hT2.mono s3)⟩
theorem zhs (a : Int) {n : Nat} (h : 1 ≤ n) : 0 ≤ a % (n : Int) ∧ a % (n : Int) < (n : Int) := ⟨Int.emod_nonneg _ (by omega), Int.emod_lt_of_pos _ (by omega)⟩
def spLaw (ts : List Addr) (K : PySem.W.Frag) : Sp := fun vs H Q _ => ∃ (a : Addr) (ns : List Int), vs = [.ref a] ∧ SqL K H a (ns.map V.int) ∧ ns.length ≤ 63 ∧ (∀ t ∈ ts, H t = some (.tbl #[])) ∧ ∀ H', Q (.bl true) H'
theorem zk2 (F : Def K mg "law" z79 ["_law_script"]) (T : Txt K mg C_Council C_Down C_InTheWay C_Keeper C_NotFree C_OldNumber C_UnknownKeeper Pt__law_notes cd__law_notes) (G_Council___init__ : KHas P w K mg base 3 C_Council ["self", "many"] (zdg C_Council C_Keeper)) (G_Council_ups : MHas P w K mg base CX0 2 C_Council "ups" ["self"] (zgt C_Council C_Keeper)) (G_Council_notes : MHas P w K mg base (CX1 P w) 2 C_Council "notes" ["self", "keeper", "tick"] (za1 C_Council C_Keeper C_UnknownKeeper)) (G_Council_sayers : MHas P w K mg base CX0 6 C_Council "sayers" ["self", "holder", "lock", "shared", "tick"] (z8a C_Council C_Keeper)) (G__law_same : Has P w K mg base 4 "_law_same" ["_law_found", "_law_due"] (z2j 3)) (G__law_setup : Has P w K mg base 3 "_law_setup" ["_law_script"] (zdj K)) (G__law_asked : Has P w K mg base 1 "_law_asked" ["_law_rest", "_law_k", "_law_setup_here"] (za3)) (G__law_new : Has P w K mg base 1 "_law_new" ["_law_setup_here"] (zic)) (G__law_ups : Has P w K mg base 1 "_law_ups" ["_law_state"] (z97 K)) (G__law_sayers : Has P w K mg base 4 "_law_sayers" ["_law_state", "_law_asking"] (z73 K)) (G__law_notes : Has P w K mg base 3 "_law_notes" ["_law_state", "_law_keeper"] (z8e Pt__law_notes)) (G__law_council_deed : Has P w K mg base 9 "_law_council_deed" ["_law_council", "_law_state", "_law_cell", "_law_k"] (zgs C_Council C_Keeper)) (mt__law_notes : Pt__law_notes ∈ ts) : Has P w K mg base 10 "law" ["_law_script"] (spLaw ts K) := by
 refine F.ok sc_law (fun vs H Q E h => ?_) (fun f cdv A outer s H vs Q E hr h => ?_)
 ·obtain ⟨a, ns, rfl, _⟩ := h
  rfl
 ·obtain ⟨a, ns, rfl, ha, hns, hts, q⟩ := h
  have hu := hr.units0
  have hu2 := z3y hr
  refine ⟨_, (z9 (zi (i := 1) sc_law.nd rfl (Or.inl rfl) (zo G__law_setup (hr.mono (by decide)) rfl (z0 (pv 0) z6)))
   (z9 (zi (i := 2) sc_law.nd rfl (Or.inl rfl) (ziw G_Council___init__ (hr.mono (by decide)) rfl T.g_Council (z0 (zh ix_tup (pv 1) z4 (fun _ _ => rfl)) z6)))
   (z9 (zi (i := 3) sc_law.nd rfl (Or.inl rfl) (zo G__law_new (hr.mono (by decide)) rfl (z0 (pv 1) z6)))
   (z9 (z2p PassesOwn.never rfl (zaa rfl T.b_range (z0 z4 (z0 (zg zp rfl T.b_len (by decide +kernel) (z0 (pv 0) z6)) z6))) (z15 (i := 4) sc_law.nd rfl (Or.inl rfl)) (z9 (zi (i := 5) sc_law.nd rfl (Or.inl rfl) (zh ix_list (pv 0) (pv 4) (fun _ _ => rfl)))
   (z9 (zx (z37 (z1f (zo G__law_council_deed (hr.mono (by decide)) rfl (z0 (pv 2) (z0 (pv 3) (z0 (pv 5) (z0 (pv 4) z6))))))) (zb (zk z24)) zn)
   (z9 (zi (i := 6) sc_law.nd rfl (Or.inl rfl) (zo G__law_asked (hr.mono (by decide)) rfl (z0 (ze z17 (pv 5) z4) (z0 (ze z13 (pv 4) z4) (z0 (pv 1) z6)))))
   (z9 (zi (i := 7) sc_law.nd rfl (Or.inl rfl) (z1k (z0 (zu hu2 (pv 3) zj (fun _ _ => rfl)) (z0 (zh ix_tup (pv 6) z4 (fun _ _ => rfl)) (z0 (zh ix_tup (pv 6) z4 (fun _ _ => rfl)) (z0 (zh ix_tup (pv 6) z4 (fun _ _ => rfl)) (z0 (zh ix_tup (pv 6) z4 (fun _ _ => rfl)) z6)))))))
   (z9 (zi (i := 8) sc_law.nd rfl (Or.inl rfl) (z1y G_Council_sayers T.cl_Council (hr.mono (by decide)) (pv 2) (z0 (zh ix_tup (pv 6) z4 (fun _ _ => rfl)) (z0 (zh ix_tup (pv 6) z4 (fun _ _ => rfl)) (z0 (zh ix_tup (pv 6) z4 (fun _ _ => rfl)) (z0 (zu hu2 (pv 3) zj (fun _ _ => rfl)) z6))))))
   (z9 (zx (z37 (z1f (zo G__law_same (hr.mono (by decide)) rfl (z0 (pv 8) (z0 (zo G__law_sayers (hr.mono (by decide)) rfl (z0 (pv 3) (z0 (pv 7) z6))) z6))))) (zb (zk z24)) zn)
   (z9 (z1h (zfd PySem.F.plainAttrs_list PySem.F.slot_list_clear PySem.F.type_list_clear zbl (pv 8)))
   (z9 (zi (i := 9) sc_law.nd rfl (Or.inl rfl) (ze z13 z4 (ze z11 (ze z13 (pv 5) (pv 4)) (zh ix_tup (pv 1) z4 (fun _ _ => rfl)))))
   (z9 (zi (i := 8) sc_law.nd rfl (Or.inl rfl) (z1y (MHas.never G_Council_notes) T.cl_Council (hr.mono (by decide)) (pv 2) (z0 (pv 9) (z0 (zu hu2 (pv 3) zj (fun _ _ => rfl)) z6))))
   (z9 (zx (z37 (z1f (zo G__law_same (hr.mono (by decide)) rfl (z0 (pv 8) (z0 (zo G__law_notes (hr.mono (by decide)) rfl (z0 (pv 3) (z0 (pv 9) z6))) z6))))) (zb (zk z24)) zn)
   (zb (z1h (zfd PySem.F.plainAttrs_list PySem.F.slot_list_clear PySem.F.type_list_clear zbl (pv 8)))))))))))))))
   (z9 (z2p PassesOwn.never rfl (zaa rfl T.b_range (z0 z4 (z0 (ze z13 (zh ix_tup (pv 1) z4 (fun _ _ => rfl)) z4) z6))) (z15 (i := 9) sc_law.nd rfl (Or.inl rfl)) (zb (zx (z37 (z1f (zo G__law_same (hr.mono (by decide)) rfl (z0 (z1y (MHas.never G_Council_notes) T.cl_Council (hr.mono (by decide)) (pv 2) (z0 (pv 9) (z0 (zu hu2 (pv 3) zj (fun _ _ => rfl)) z6))) (z0 (zo G__law_notes (hr.mono (by decide)) rfl (z0 (pv 3) (z0 (pv 9) z6))) z6))))) (zb (zk z24)) zn)))
   (zb (zk (zo G__law_same (hr.mono (by decide)) rfl (z0 (z3q G_Council_ups T.cl_Council (hr.mono (by decide)) (pv 2)) (z0 (zo G__law_ups (hr.mono (by decide)) rfl (z0 (pv 3) z6)) z6)))))))))), ?_⟩
  walk_at "rd"
  refine ⟨a, ns, rfl, ha, hns, fun ps u H1 hS hok s1 => ?_⟩
  have n5 := hok.n5
  have n1 := hok.n1
  have l1 := hok.l1
  have l10 := hok.l10
  refine ⟨_, _, _, _, rfl, rfl, SqT.of hS.tu, zc (j := 0) rfl, fun c dx hc0 hdx ndx => ?_⟩
  refine ⟨c, dx, u.n, rfl, by omega, z7, fun l ks ls H3 hkl hca hb hk0 hl0 hll0 => ⟨rfl, ?_⟩⟩
  have s13 : Same H1 H3 := fun b o e => hb b o (by rw [z8 (za e hc0), z8 (za e hdx)]; exact e) (za e hc0)
  refine ⟨ps, u, rfl, hS.mono s13, hok, fun d S H4 st eps enow eus ets eN eC eL hd0 hl4 s4 => ?_⟩
  have s14 := s13.trans s4
  have A4 : AP K a d (ns.map V.int) H4 S := AP.start (s1.seq ha) s14 (zv s13 hd0) (fun p hp => zv s13 (hl4 p hp))
  have D4 : Day C_Council C_Keeper H4 c l ks ls (z3n u.n) d S u 0 := by
   refine ⟨hca.mono s4, st, zgu eus ets eN, hkl, ⟨by rw [eN]; exact Nat.le_refl _, fun s hs => ?_, by rw [eC]; exact Nat.le_refl _, by rw [eL]; exact Nat.le_refl _, fun z hz => by rw [eN] at hz; cases hz⟩, fun p hp => ⟨fun e => ?_, fun h => ?_⟩⟩
   ·rw [List.eq_of_mem_replicate hs]
    exact Nat.le_refl _
   ·have := hl4 p hp
    rw [e, hca.li] at this; cases this
   ·obtain ⟨xs, z⟩ := hca.lsome h
    rw [hl4 p hp] at z; cases z
  have T4 : tbN H4 Pt__law_notes := TbOk.mono (.inl (hts _ mt__law_notes)) (s1.trans s14)
  refine ⟨_, .inl A4.sq, _, _, ⟨rfl, rfl⟩, ⟨by decide, by decide, by rw [List.length_map]; omega, by rw [List.length_map]; omega⟩, ?_⟩
  rw [List.length_map]
  refine z40 (fun i σ H' => ∃ (ls' : List Addr) (ss' : List KN) (S' : Sv) (v4 v5 v6 v7 v8 v9 : Option V), σ = [some (V.ref a), some (V.ref ps), some (V.ref c), some (V.ref d), v4, v5, v6, v7, v8, v9] ∧ Day C_Council C_Keeper H' c l ks ls' ss' d S' u i ∧ S'.ps = ps ∧ AP K a d (ns.map V.int) H' S' ∧ tbN H' Pt__law_notes) ⟨ls, _, S, none, none, none, none, none, none, rfl, D4, eps, A4, T4⟩ ?_ ?_
  ·rintro Pv hP i σ H' hi ⟨ls', ss', S', v4, v5, v6, v7, v8, v9, rfl, hD, eps', hA, hT⟩
   have hi63 : 5 + i < ns.length := by omega
   have gc : (ns.map V.int)[5 + i]? = some (.int ns[5 + i]) := by rw [List.getElem?_map, List.getElem?_eq_getElem hi63]; rfl
   generalize ns[5 + i] = cell at gc
   have e5 : (5 : Int) + (i : Int) = ((5 + i : Nat) : Int) := by omega
   walk_at "rd"
   simp only [e5]
   refine ⟨_, _, _, _, rfl, rfl, hA.sq, zc gc, ?_⟩
   refine ⟨c, l, ks, ls', ss', d, S', u, i, cell, 5 + i, rfl, hD, hok, by omega, fun ls5 ss5 S5 H5 D5 ep5 l5 f5 => ⟨true, rfl, ?_⟩⟩
   rw [if_neg (by decide)]
   have A5 := hA.step hD.ca l5 f5
   have T5 := zj5 hT hD f5
   have ep5' : S5.ps = ps := by rw [ep5, eps']
   have su5 := D5.st.su
   rw [ep5'] at su5
   have n5' : i + 1 ≤ 60 := by omega
   have sP := D5.say hok n5'
   refine ⟨_, rfl, cdiv (by decide) (by decide), _, _, _, u, rfl, su5, hok, fun r6 hd lk sh tm H6 mhd mlk tm1 tm2 g6 s6 => ?_⟩
   have D6 := D5.mono s6
   have lkl := hok.ll lk mlk
   have i6 : ∀ H', Same H6 H' → SqT K H' r6 [.str "ask", .str hd, .str lk, .bl sh, .int tm] := fun H' s => SqT.of (s _ _ g6)
   have i6' := i6 _ (Same.refl _)
   refine ⟨_, z29 D6.st.st, _, _, _, _, rfl, rfl, i6', zc (j := 1) rfl, _, _, _, _, rfl, rfl, i6', zc (j := 2) rfl, _, _, _, _, rfl, rfl, i6', zc (j := 3) rfl, _, _, _, _, rfl, rfl, i6', zc (j := 4) rfl, zd (by decide), fun pa hpa => ?_⟩
   have s7 := Same.upd (o := .tup [V.int S5.now, V.str hd, V.str lk, V.bl sh, V.int tm]) hpa
   have g7 : upd H6 pa (.tup [V.int S5.now, V.str hd, V.str lk, V.bl sh, V.int tm]) pa = some (.tup [V.int S5.now, V.str hd, V.str lk, V.bl sh, V.int tm]) := z7
   generalize upd H6 pa (.tup [V.int S5.now, V.str hd, V.str lk, V.bl sh, V.int tm]) = H7 at s7 g7 ⊢
   have D7 := D6.mono s7
   have i7 := i6 _ s7
   obtain ⟨dx7, hob⟩ := D7.ca.ob
   refine ⟨_, _, hob, z22 _ _ (by decide +kernel) (by decide +kernel), _, _, _, _, rfl, rfl, i7, zc (j := 1) rfl, _, _, _, _, rfl, rfl, i7, zc (j := 2) rfl, _, _, _, _, rfl, rfl, i7, zc (j := 3) rfl, _, z29 D7.st.st, ?_⟩
   refine ⟨c, l, ks, ls5, ss5, hd, lk, sh, S5.now, rfl, D7.ca, fun s hs => by have := D7.sb.nS s hs; omega, by omega, fun r8 H8 hr8 gr8 s8 => ?_⟩
   refine ⟨d, pa, S5, u, S5.now, hd, lk, sh, tm, rfl, (D7.mono s8).st, s8 _ _ g7, by omega, sP, fun r9 H9 hr9 gr9 s9 => ?_⟩
   rw [D7.kn, ← D7.rl.say] at gr8
   refine ⟨_, _, rfl, z3o (.inl ⟨s9 _ _ gr8, gr9⟩) (z43 _) (by rw [z1m]; have := z8d S5 hd lk sh; have := sP.2.1; omega), fun Ha sa => ⟨true, rfl, ?_⟩⟩
   rw [if_neg (by decide)]
   have grA := (s9.trans sa) _ _ gr8
   refine ⟨.inl ⟨_, SqL.of grA⟩, _, _, rfl, rfl, grA, ?_⟩
   have sE : Same H5 (upd Ha r8 (.lst [])) := fun b o e => by
    have := (s6.trans s7) b o e
    rw [z8 (za this hr8)]
    exact (s8.trans (s9.trans sa)) b o this
   generalize upd Ha r8 (.lst []) = Hb at sE ⊢
   have Db := D5.mono sE
   have Tb := T5.mono sE
   have sub := su5.mono sE
   walk_at "rd"
   have sz := zhs (cell + ((5 + i : Nat) : Int)) n1
   obtain ⟨j, ej, hj⟩ : ∃ j : Nat, (cell + ((5 + i : Nat) : Int)) % (u.n : Int) = (j : Int) ∧ j < u.n := ⟨((cell + ((5 + i : Nat) : Int)) % (u.n : Int)).toNat, by rw [Int.toNat_of_nonneg sz.1], by omega⟩
   obtain ⟨dxb, hob'⟩ := Db.ca.ob
   refine ⟨_, _, _, _, rfl, rfl, SqT.of sub.tu, zc (j := 0) rfl, _, rfl, by omega, _, _, hob', z22 _ _ (by decide +kernel) (by decide +kernel), _, z29 Db.st.st, ?_⟩
   rw [ej, Int.add_comm 1 (j : Int)]
   refine z9d (QQ := fun x z H3 => ∃ c_1, z = V.bl c_1 ∧ if (!c_1) = true then Q (V.bl false) H3 else _) Db n5' Tb hj fun r xs H9 hr0 g9 k9 T9 => ⟨true, rfl, ?_⟩
   rw [if_neg (by decide)]
   have kE : ∀ b o, Hb b = some o → (∀ ps, o ≠ .tbl ps) → upd H9 r (.lst []) b = some o := fun b o e n => by rw [z8 (za e hr0)]; exact k9 b o e n
   have tE : tbN (upd H9 r (.lst [])) Pt__law_notes := by
    rcases T9 with z | ⟨c', z, z2⟩
    ·exact .inl (by rw [z8 (fun y => by rw [y, g9] at z; cases z)]; exact z)
    ·exact .inr ⟨c', by rw [z8 (fun y => by rw [y, g9] at z; cases z)]; exact z, by rw [z8 (fun y => by rw [y, g9] at z2; cases z2)]; exact z2⟩
   exact ⟨.inl ⟨_, SqL.of g9⟩, _, _, rfl, rfl, g9, hP _ _ _ ⟨ls5, ss5, S5, _, _, _, _, _, _, rfl, Db.keep kE, ep5', (A5.mono sE).keep kE, tE⟩⟩
  rintro σ H' ⟨ls', ss', S', v4, v5, v6, v7, v8, v9, rfl, hD, eps', hA, hT⟩
  walk_at "rd"
  have hi60 : (ns.length - 5 : Int).toNat ≤ 60 := by omega
  generalize (ns.length - 5 : Int).toNat = i at hD hi60
  have su := hD.st.su
  rw [eps'] at su
  refine ⟨_, _, _, _, rfl, rfl, SqT.of su.tu, zc (j := 0) rfl, _, rfl, _, _, ⟨rfl, rfl⟩, ⟨by decide, by decide, by omega, by omega⟩, ?_⟩
  have en : ((u.n : Int) + 1 - 1).toNat = u.n := by omega
  rw [en]
  refine z40 (fun j σ H7 => ∃ v9 : Option V, σ = [some (V.ref a), some (V.ref ps), some (V.ref c), some (V.ref d), v4, v5, v6, v7, v8, v9] ∧ Day C_Council C_Keeper H7 c l ks ls' ss' d S' u i ∧ tbN H7 Pt__law_notes) ⟨_, rfl, hD, hT⟩ ?_ ?_
  ·rintro Pv hP j σ H7 hj ⟨v9, rfl, D7, T7⟩
   walk_at "rd"
   obtain ⟨dx7, hob⟩ := D7.ca.ob
   refine ⟨_, _, hob, z22 _ _ (by decide +kernel) (by decide +kernel), _, z29 D7.st.st, ?_⟩
   rw [Int.add_comm 1 (j : Int)]
   refine z9d (QQ := fun x z H3 => ∃ c_1, z = V.bl c_1 ∧ if (!c_1) = true then Q (V.bl false) H3 else _) D7 hi60 T7 hj fun r xs H9 hr0 g9 k9 T9 => ⟨true, rfl, ?_⟩
   rw [if_neg (by decide)]
   exact hP _ _ _ ⟨_, rfl, D7.keep k9, T9⟩
  ·rintro σ H7 ⟨v9, rfl, D7, T7⟩
   walk_at "rd"
   obtain ⟨dx7, hob⟩ := D7.ca.ob
   have lu := z7d S'.us
   have eu : S'.us.length = u.n := by rw [D7.rl.us, List.length_map]; exact D7.rl.ln
   refine ⟨_, _, hob, z22 _ _ (by decide +kernel) (by decide +kernel), c, l, ks, ls', ss', rfl, D7.ca, fun r H8 hr0 gr s8 => ⟨d, S', u, rfl, (D7.mono s8).st, hok, eu, fun r2 H9 hr2 gr2 s9 => ?_⟩⟩
   rw [D7.kn, ← D7.rl.ups] at gr
   exact ⟨_, _, rfl, z3o (.inl ⟨s9 _ _ gr, gr2⟩) (z43 _) (by rw [z1m]; omega), fun Ha sa => q _⟩
theorem zd2 (F : Def K mg "_law_new" z5x ["_law_setup_here"]) (T : Txt K mg C_Council C_Down C_InTheWay C_Keeper C_NotFree C_OldNumber C_UnknownKeeper Pt__law_notes cd__law_notes) : Has P w K mg base 1 "_law_new" ["_law_setup_here"] (zic) := by
 refine F.ok zcv (fun vs H Q E h => ?_) (fun f cdv A outer s H vs Q E hr h => ?_)
 ·obtain ⟨a, u, rfl, _⟩ := h
  rfl
 ·obtain ⟨a, u, rfl, hS, hok, q⟩ := h
  have hu := hr.units0
  have hu2 := z3y hr
  refine ⟨_, (zb (zk (ziv (z2b zj z4 (z2b zj (pv 0) (z2b zj (ze zfe (z1b (z0 z24 z6)) (zh ix_tup (pv 0) z4 (fun _ _ => rfl))) (z2b zj (ze zfe (z1b (z0 z4 z6)) (zh ix_tup (pv 0) z4 (fun _ _ => rfl))) (z2b zj (z1b z6) (z2b zj (z1b z6) (z2b zj (z1b z6) (z2b zj zh8 (z2b zj (z1b z6) (z2b zj (z1b z6) ziu)))))))))) rfl rfl (by simp) (by decide)))), ?_⟩
  walk_at "rd"
  have n5 := hok.n5
  intro p hp
  have sa := Same.upd (o := .dK []) hp
  have ga : upd H p (.dK []) p = some (.dK []) := z7
  generalize upd H p (.dK []) = Ha at sa ga ⊢
  refine ⟨zd (by decide), fun p1 hp1 => ?_⟩
  have sb := Same.upd (o := .lst [V.bl true]) hp1
  have gb : upd Ha p1 (.lst [V.bl true]) p1 = some (.lst [V.bl true]) := z7
  generalize upd Ha p1 (.lst [V.bl true]) = Hb at sb gb ⊢
  have sHb := sa.trans sb
  refine ⟨_, _, _, _, rfl, rfl, SqT.of (sHb _ _ hS.tu), zc (j := 0) rfl, p1, u.n, _, rfl, rfl, gb, by omega, by omega, zd (by show 1 * (u.n : Int).toNat ≤ 1000000; omega), fun pu hpu => ?_⟩
  rw [Int.toNat_natCast, zk0]
  have sc := Same.upd (o := .lst ((List.replicate u.n true).map V.bl)) hpu
  have gc : upd Hb pu (.lst ((List.replicate u.n true).map V.bl)) pu = some (.lst ((List.replicate u.n true).map V.bl)) := z7
  generalize upd Hb pu (.lst ((List.replicate u.n true).map V.bl)) = Hc at sc gc ⊢
  have sHc := sHb.trans sc
  refine ⟨zd (by decide), fun p2 hp2 => ?_⟩
  have sd := Same.upd (o := .lst [V.int 0]) hp2
  have gd : upd Hc p2 (.lst [V.int 0]) p2 = some (.lst [V.int 0]) := z7
  generalize upd Hc p2 (.lst [V.int 0]) = Hd at sd gd ⊢
  have sHd := sHc.trans sd
  refine ⟨_, _, _, _, rfl, rfl, SqT.of (sHd _ _ hS.tu), zc (j := 0) rfl, p2, u.n, _, rfl, rfl, gd, by omega, by omega, zd (by show 1 * (u.n : Int).toNat ≤ 1000000; omega), fun pt hpt => ?_⟩
  rw [Int.toNat_natCast, zj2]
  have se := Same.upd (o := .lst ((List.replicate u.n (0 : Int)).map V.int)) hpt
  have ge : upd Hd pt (.lst ((List.replicate u.n (0 : Int)).map V.int)) pt = some (.lst ((List.replicate u.n (0 : Int)).map V.int)) := z7
  generalize upd Hd pt (.lst ((List.replicate u.n (0 : Int)).map V.int)) = He at se ge ⊢
  have sHe := sHd.trans se
  refine ⟨Nat.zero_le _, fun p3 hp3 => ?_⟩
  have sf := Same.upd (o := .lst []) hp3
  have gf : upd He p3 (.lst []) p3 = some (.lst []) := z7
  generalize upd He p3 (.lst []) = Hf at sf gf ⊢
  have sHf := sHe.trans sf
  refine ⟨Nat.zero_le _, fun p4 hp4 => ?_⟩
  have sg := Same.upd (o := .lst []) hp4
  have gg : upd Hf p4 (.lst []) p4 = some (.lst []) := z7
  generalize upd Hf p4 (.lst []) = Hg at sg gg ⊢
  have sHg := sHf.trans sg
  refine ⟨Nat.zero_le _, fun p5 hp5 => ?_⟩
  have sh := Same.upd (o := .lst []) hp5
  have gh : upd Hg p5 (.lst []) p5 = some (.lst []) := z7
  generalize upd Hg p5 (.lst []) = Hh at sh gh ⊢
  have sHh := sHg.trans sh
  intro p6 hp6
  have si := Same.upd (o := .dK []) hp6
  generalize upd Hh p6 (.dK []) = Hi at si ⊢
  have sHi := sHh.trans si
  refine ⟨Nat.zero_le _, fun p7 hp7 => ?_⟩
  have sj := Same.upd (o := .lst []) hp7
  generalize upd Hi p7 (.lst []) = Hj at sj ⊢
  have sHj := sHi.trans sj
  refine ⟨Nat.zero_le _, fun p8 hp8 => ?_⟩
  have sk := Same.upd (o := .lst []) hp8
  have gk : upd Hj p8 (.lst []) p8 = some (.lst []) := z7
  generalize upd Hj p8 (.lst []) = Hk at sk gk ⊢
  have sHk := sHj.trans sk
  have ijk := si.trans (sj.trans sk)
  have hk' := sh.trans ijk
  have gk' := sg.trans hk'
  have fk := sf.trans gk'
  have ek := se.trans fk
  have ck := sd.trans ek
  have Gp := (sb.trans (sc.trans ck)) _ _ ga
  have Gu := ck _ _ gc
  have Gt := fk _ _ ge
  have G3 := gk' _ _ gf
  have G4 := hk' _ _ gg
  have G5 := ijk _ _ gh
  refine ⟨Gp, [(.inr "now", .int 0), (.inr "setup", .ref a), (.inr "ups", .ref pu), (.inr "tops", .ref pt), (.inr "notes", .ref p3), (.inr "row", .ref p4), (.inr "carry", .ref p5), (.inr "sleep", .ref p6), (.inr "took", .ref p7), (.inr "log", .ref p8)], rfl, (show 10 ≤ 15 by decide), ?_⟩
  have em : z5k [] [((.inr "now" : Key), V.int 0), (.inr "setup", .ref a), (.inr "ups", .ref pu), (.inr "tops", .ref pt), (.inr "notes", .ref p3), (.inr "row", .ref p4), (.inr "carry", .ref p5), (.inr "sleep", .ref p6), (.inr "took", .ref p7), (.inr "log", .ref p8)] = stw ⟨0, a, pu, pt, p3, p4, p5, p6, p7, p8, List.replicate u.n true, List.replicate u.n 0, [], [], []⟩ := by kernel_rfl
  rw [em]
  have up : ∀ b xs, Hk b = some (.lst xs) → upd Hk p (.dK (stw ⟨0, a, pu, pt, p3, p4, p5, p6, p7, p8, List.replicate u.n true, List.replicate u.n 0, [], [], []⟩)) b = some (.lst xs) := fun b xs e => by
   rw [z8 (fun z => by rw [z, Gp] at e; cases e)]; exact e
  have upT : ∀ b xs, Hk b = some (.tup xs) → upd Hk p (.dK (stw ⟨0, a, pu, pt, p3, p4, p5, p6, p7, p8, List.replicate u.n true, List.replicate u.n 0, [], [], []⟩)) b = some (.tup xs) := fun b xs e => by
   rw [z8 (fun z => by rw [z, Gp] at e; cases e)]; exact e
  have fr : ∀ x ∈ [pu, pt, p3, p4, p5, p8], H x = none := fun x hx => by
   simp only [List.mem_cons, List.not_mem_nil, or_false] at hx
   rcases hx with rfl | rfl | rfl | rfl | rfl | rfl
   ·exact zv sHb hpu
   ·exact zv sHd hpt
   ·exact zv sHe hp3
   ·exact zv sHf hp4
   ·exact zv sHg hp5
   ·exact zv sHj hp8
  have Sk : SuAt Hk a u := hS.mono sHk
  refine q p ⟨0, a, pu, pt, p3, p4, p5, p6, p7, p8, List.replicate u.n true, List.replicate u.n 0, [], [], []⟩ _ ⟨z7, ⟨upT _ _ Sk.tu, up _ _ Sk.gh, up _ _ Sk.gl, up _ _ Sk.gc, up _ _ Sk.gt⟩, up _ _ Gu, up _ _ Gt, up _ _ G3, (fun z hz => by cases hz), up _ _ G4, up _ _ G5, (fun z hz => by cases hz), up _ _ gk, ?_, ?_⟩ rfl rfl rfl rfl rfl rfl rfl hp fr ?_
  ·show [pu, pt, p3, p4, p5, p8].Nodup
   have a1 : pu ≠ pt := za (sd _ _ gc) hpt
   have a2 : pu ≠ p3 := za (se _ _ (sd _ _ gc)) hp3
   have a3 : pu ≠ p4 := za (sf _ _ (se _ _ (sd _ _ gc))) hp4
   have a4 : pu ≠ p5 := za (sg _ _ (sf _ _ (se _ _ (sd _ _ gc)))) hp5
   have jj := (sh.trans si).trans sj
   have a5 : pu ≠ p8 := za (jj _ _ (sg _ _ (sf _ _ (se _ _ (sd _ _ gc))))) hp8
   have b2 : pt ≠ p3 := za ge hp3
   have b3 : pt ≠ p4 := za (sf _ _ ge) hp4
   have b4 : pt ≠ p5 := za (sg _ _ (sf _ _ ge)) hp5
   have b5 : pt ≠ p8 := za (jj _ _ (sg _ _ (sf _ _ ge))) hp8
   have c3 : p3 ≠ p4 := za gf hp4
   have c4 : p3 ≠ p5 := za (sg _ _ gf) hp5
   have c5 : p3 ≠ p8 := za (jj _ _ (sg _ _ gf)) hp8
   have d4 : p4 ≠ p5 := za gg hp5
   have d5 : p4 ≠ p8 := za (jj _ _ gg) hp8
   have e5 : p5 ≠ p8 := za ((si.trans sj) _ _ gh) hp8
   simp [a1, a2, a3, a4, a5, b2, b3, b4, b5, c3, c4, c5, d4, d5, e5]
  ·intro x hx hx2
   have := fr x hx
   simp only [Su.lists, List.mem_cons, List.not_mem_nil, or_false] at hx2
   rcases hx2 with rfl | rfl | rfl | rfl
   ·rw [hS.gh] at this; cases this
   ·rw [hS.gl] at this; cases this
   ·rw [hS.gc] at this; cases this
   ·rw [hS.gt] at this; cases this
  ·intro b o e
   rw [z8 (za e hp)]
   exact sHk _ _ e
theorem zb7 (F : Def K mg "_law_asked" z4x ["_law_rest", "_law_k", "_law_setup_here"]) (T : Txt K mg C_Council C_Down C_InTheWay C_Keeper C_NotFree C_OldNumber C_UnknownKeeper Pt__law_notes cd__law_notes) : Has P w K mg base 1 "_law_asked" ["_law_rest", "_law_k", "_law_setup_here"] (za3) := by
 refine F.ok sc__law_asked (fun vs H Q E h => ?_) (fun f cdv A outer s H vs Q E hr h => ?_)
 ·obtain ⟨c, k, a, u, rfl, _⟩ := h
  rfl
 ·obtain ⟨c, k, a, u, rfl, hS, hok, q⟩ := h
  have hu := hr.units0
  refine ⟨_, (z9 (zi (i := 3) sc__law_asked.nd rfl (Or.inl rfl) (zh ix_list (zh ix_tup (pv 2) z4 (fun _ _ => rfl)) (ze z11 (ze z13 (pv 0) (pv 1)) (zg zp rfl T.b_len (by decide +kernel) (z0 (zh ix_tup (pv 2) z4 (fun _ _ => rfl)) z6))) (fun _ _ => rfl)))
   (z9 (zi (i := 0) sc__law_asked.nd rfl (Or.inl rfl) (ze z17 (pv 0) z4))
   (z9 (zi (i := 4) sc__law_asked.nd rfl (Or.inl rfl) (zh ix_list (zh ix_tup (pv 2) z4 (fun _ _ => rfl)) (ze z11 (ze z13 (pv 0) (ze z17 (pv 1) z4)) (zg zp rfl T.b_len (by decide +kernel) (z0 (zh ix_tup (pv 2) z4 (fun _ _ => rfl)) z6))) (fun _ _ => rfl)))
   (z9 (zi (i := 0) sc__law_asked.nd rfl (Or.inl rfl) (ze z17 (pv 0) z4))
   (z9 (zi (i := 5) sc__law_asked.nd rfl (Or.inl rfl) (z25 (z1d zah (pv 4) (zh ix_tup (pv 2) z4 (fun _ _ => rfl)) (by with_unfolding_all rfl)) (z1z (z1d z19 (ze z11 (ze z13 (pv 0) (pv 1)) z4) z4 (zl _)))))
   (z9 (zi (i := 0) sc__law_asked.nd rfl (Or.inl rfl) (ze z17 (pv 0) z4))
   (zb (zk (z1k (z0 zj (z0 (pv 3) (z0 (pv 4) (z0 (pv 5) (z0 (zh ix_list (z1b (z0 z4 (z0 z4 (z0 z4 (z0 z4 (z0 z4 (z0 z4 (z0 z4 (z0 (ze z13 z4 (ze z11 (ze z17 (pv 0) z4) z4)) z6))))))))) (ze z11 (ze z13 (pv 0) (pv 1)) z4) (fun _ _ => rfl)) z6)))))))))))))), ?_⟩
  walk_at "rd"
  refine ⟨_, _, _, _, rfl, rfl, SqT.of hS.tu, zc (j := 1) rfl, ?_⟩
  refine ⟨_, _, _, _, rfl, rfl, SqT.of hS.tu, zc (j := 1) rfl, ?_⟩
  obtain ⟨hd, mhd, ahd⟩ := zcc hok.h1 (c + k)
  obtain ⟨lk, mlk, alk⟩ := zcc hok.l1 (c / 8 + k / 3)
  have h1 := hok.h1
  have l1 := hok.l1
  refine ⟨_, rfl, _, .inl (SqL.of hS.gh), by rw [List.length_map]; omega, ?_⟩
  rw [List.length_map]
  refine ⟨_, _, _, _, rfl, rfl, SqL.of hS.gh, ahd, cdiv (by decide) (by decide), ?_⟩
  refine ⟨_, _, _, _, rfl, rfl, SqT.of hS.tu, zc (j := 2) rfl, cdiv (by decide) (by decide), ?_⟩
  refine ⟨_, _, _, _, rfl, rfl, SqT.of hS.tu, zc (j := 2) rfl, _, rfl, _, .inl (SqL.of hS.gl), by rw [List.length_map]; omega, ?_⟩
  rw [List.length_map]
  refine ⟨_, _, _, _, rfl, rfl, SqL.of hS.gl, alk, cdiv (by decide) (by decide), ?_⟩
  refine ⟨_, _, _, _, rfl, rfl, SqT.of hS.tu, zc (j := 3) rfl, ?_⟩
  refine ⟨_, _, rfl, .inl (SqL.of hS.gc), rfl, z2h _, _, rfl, ?_⟩
  have fin : ∀ (sh : Bool), CDiv (c / 8 / 10) 2 ∧ CDiv (c / 8 / 10 / 2) 8 ∧ (0 : Int) < 1000 ∧ 8 ≤ sizeLine ∧ ∀ (p : Addr), H p = none → (0 : Int) < 8 ∧ rIxL K (V.ref p) (V.int ((c / 8 / 10 / 2 + k) % 8)) (upd H p (.lst [V.int 5, V.int 2, V.int 30, V.int 1, V.int 9, V.int 1000, V.int 3, V.int (1 + c / 8 / 10 / 2 / 8 % 1000)])) fun x_6 H1 => 5 ≤ sizeLine ∧ ∀ (p : Addr), H1 p = none → Q (V.ref p) (upd H1 p (.tup [V.str (Str.ofString "ask"), V.str hd, V.str lk, V.bl sh, x_6])) := fun sh => by
   refine ⟨cdiv (by decide) (by decide), cdiv (by decide) (by decide), by decide, zd (by decide), fun p hp => ⟨by decide, ?_⟩⟩
   generalize c / 8 / 10 / 2 = d
   obtain ⟨tm, etm, t1, t2⟩ : ∃ tm : Int, atI [V.int 5, V.int 2, V.int 30, V.int 1, V.int 9, V.int 1000, V.int 3, V.int (1 + d / 8 % 1000)] ((d + k) % 8) = some (V.int tm) ∧ 1 ≤ tm ∧ tm ≤ 1000 := by
    rcases (show (d + k) % 8 = 0 ∨ (d + k) % 8 = 1 ∨ (d + k) % 8 = 2 ∨ (d + k) % 8 = 3 ∨ (d + k) % 8 = 4 ∨ (d + k) % 8 = 5 ∨ (d + k) % 8 = 6 ∨ (d + k) % 8 = 7 by omega) with e | e | e | e | e | e | e | e
    ·exact ⟨5, by rw [e]; exact zc (j := 0) rfl, by decide, by decide⟩
    ·exact ⟨2, by rw [e]; exact zc (j := 1) rfl, by decide, by decide⟩
    ·exact ⟨30, by rw [e]; exact zc (j := 2) rfl, by decide, by decide⟩
    ·exact ⟨1, by rw [e]; exact zc (j := 3) rfl, by decide, by decide⟩
    ·exact ⟨9, by rw [e]; exact zc (j := 4) rfl, by decide, by decide⟩
    ·exact ⟨1000, by rw [e]; exact zc (j := 5) rfl, by decide, by decide⟩
    ·exact ⟨3, by rw [e]; exact zc (j := 6) rfl, by decide, by decide⟩
    ·exact ⟨_, by rw [e]; exact zc (j := 7) rfl, by omega, by omega⟩
   refine ⟨_, _, _, _, rfl, rfl, SqL.of z7, etm, zd (by decide), fun r hr0 => ?_⟩
   exact q r hd lk sh tm _ mhd mlk t1 t2 z7 ((Same.upd hp).trans (Same.upd hr0))
  rw [if_neg Bool.false_ne_true]
  cases inV (V.str lk) (u.shs.map V.str) with
  | true =>
   rw [if_pos rfl]
   exact ⟨by decide, fin _⟩
  | false =>
   rw [if_neg Bool.false_ne_true]
   exact fin false
end
theorem all_mk {l : PySem.W.OpenLaw} {w : World} {K : PySem.W.Frag} {h : Heap} {mg : Str → Option Value} {fa : Addr} (X : K.In h) (G : h.Ns mainGlobals mg) (hfa : mg "law" = some (.ref fa))
  {C_Council : Addr}
  {C_Down : Addr}
  {C_InTheWay : Addr}
  {C_Keeper : Addr}
  {C_NotFree : Addr}
  {C_OldNumber : Addr}
  {C_UnknownKeeper : Addr}
  {Pt__law_notes : Addr}
  {cd__law_notes : Addr}
  {ts : List Addr}
  (y_b_all : PySem.W.nsIn K mainGlobals "all" = some none)
  (y_b_bool : PySem.W.nsIn K mainGlobals "bool" = some none)
  (y_b_enumerate : PySem.W.nsIn K mainGlobals "enumerate" = some none)
  (y_b_int : PySem.W.nsIn K mainGlobals "int" = some none)
  (y_b_isinstance : PySem.W.nsIn K mainGlobals "isinstance" = some none)
  (y_b_len : PySem.W.nsIn K mainGlobals "len" = some none)
  (y_b_list : PySem.W.nsIn K mainGlobals "list" = some none)
  (y_b_max : PySem.W.nsIn K mainGlobals "max" = some none)
  (y_b_min : PySem.W.nsIn K mainGlobals "min" = some none)
  (y_b_range : PySem.W.nsIn K mainGlobals "range" = some none)
  (y_b_set : PySem.W.nsIn K mainGlobals "set" = some none)
  (y_b_sorted : PySem.W.nsIn K mainGlobals "sorted" = some none)
  (y_b_str : PySem.W.nsIn K mainGlobals "str" = some none)
  (y_b_tuple : PySem.W.nsIn K mainGlobals "tuple" = some none)
  (y_g_Council : PySem.W.nsIn K mainGlobals "Council" = some (some (.ref C_Council)))
  (y_g_Down : PySem.W.nsIn K mainGlobals "Down" = some (some (.ref C_Down)))
  (y_g_InTheWay : PySem.W.nsIn K mainGlobals "InTheWay" = some (some (.ref C_InTheWay)))
  (y_g_Keeper : PySem.W.nsIn K mainGlobals "Keeper" = some (some (.ref C_Keeper)))
  (y_g_NotFree : PySem.W.nsIn K mainGlobals "NotFree" = some (some (.ref C_NotFree)))
  (y_g_OldNumber : PySem.W.nsIn K mainGlobals "OldNumber" = some (some (.ref C_OldNumber)))
  (y_g_UnknownKeeper : PySem.W.nsIn K mainGlobals "UnknownKeeper" = some (some (.ref C_UnknownKeeper)))
  (y_pg_Council : PySem.W.plainGet K C_Council Str.empty = true)
  (y_hd_Council : PySem.W.hasDictIn K C_Council = true)
  (y_po_Council : PySem.W.plainOver K C_Council = true)
  (y_sa_Council : PySem.W.findIn K (.ref C_Council) "__setattr__" = some (some (.builtin "object.__setattr__")))
  (y_n_Council_keepers : PySem.W.findIn K (.ref C_Council) "keepers" = some none)
  (y_n_Council_most : PySem.W.findIn K (.ref C_Council) "most" = some none)
  (y_pg_Keeper : PySem.W.plainGet K C_Keeper Str.empty = true)
  (y_hd_Keeper : PySem.W.hasDictIn K C_Keeper = true)
  (y_po_Keeper : PySem.W.plainOver K C_Keeper = true)
  (y_sa_Keeper : PySem.W.findIn K (.ref C_Keeper) "__setattr__" = some (some (.builtin "object.__setattr__")))
  (y_n_Keeper_up : PySem.W.findIn K (.ref C_Keeper) "up" = some none)
  (y_n_Keeper_top : PySem.W.findIn K (.ref C_Keeper) "top" = some none)
  (y_n_Keeper_kept : PySem.W.findIn K (.ref C_Keeper) "kept" = some none)
  (y_x_Down : PySem.W.excIn K C_Down [.type "ValueError", .type "Exception", .type "BaseException", .type "object"] "ValueError.__new__" = true)
  (y_x_InTheWay : PySem.W.excIn K C_InTheWay [.type "ValueError", .type "Exception", .type "BaseException", .type "object"] "ValueError.__new__" = true)
  (y_x_NotFree : PySem.W.excIn K C_NotFree [.type "ValueError", .type "Exception", .type "BaseException", .type "object"] "ValueError.__new__" = true)
  (y_x_OldNumber : PySem.W.excIn K C_OldNumber [.type "ValueError", .type "Exception", .type "BaseException", .type "object"] "ValueError.__new__" = true)
  (y_x_UnknownKeeper : PySem.W.excIn K C_UnknownKeeper [.type "ValueError", .type "Exception", .type "BaseException", .type "object"] "ValueError.__new__" = true)
  (y_sb_Down_NotFree : PySem.W.subIn K (.ref C_Down) (.ref C_NotFree) = some false)
  (y_sb_InTheWay_NotFree : PySem.W.subIn K (.ref C_InTheWay) (.ref C_NotFree) = some false)
  (y_sb_NotFree_NotFree : PySem.W.subIn K (.ref C_NotFree) (.ref C_NotFree) = some true)
  (y_sb_OldNumber_NotFree : PySem.W.subIn K (.ref C_OldNumber) (.ref C_NotFree) = some false)
  (y_sb_UnknownKeeper_NotFree : PySem.W.subIn K (.ref C_UnknownKeeper) (.ref C_NotFree) = some false)
  {f0 : Addr} {d0 : FuncData}
  (a0 : W.nsIn K mainGlobals "within" = some (some (.ref f0)))
  (F0 : Fun K "within" "within" z86 f0 d0)
  {f1 : Addr} {d1 : FuncData}
  (a1 : W.nsIn K mainGlobals "on_line" = some (some (.ref f1)))
  (F1 : Fun K "on_line" "on_line" z6u f1 d1)
  {f2 : Addr} {d2 : FuncData}
  (a2 : W.nsIn K mainGlobals "in_way" = some (some (.ref f2)))
  (F2 : Fun K "in_way" "in_way" z87 f2 d2)
  {f3 : Addr} {d3 : FuncData}
  (a3 : W.findIn K (.ref C_Keeper) "__init__" = some (some (.ref f3))) (i3 : W.isFn K (.ref f3) = true)
  (F3 : Fun K "__init__" "Keeper.__init__" z35 f3 d3)
  {f4 : Addr} {d4 : FuncData}
  (a4 : W.findIn K (.ref C_Keeper) "fall" = some (some (.ref f4))) (i4 : W.isFn K (.ref f4) = true)
  (F4 : Fun K "fall" "Keeper.fall" z47 f4 d4)
  {f5 : Addr} {d5 : FuncData}
  (a5 : W.findIn K (.ref C_Keeper) "rise" = some (some (.ref f5))) (i5 : W.isFn K (.ref f5) = true)
  (F5 : Fun K "rise" "Keeper.rise" z48 f5 d5)
  {f6 : Addr} {d6 : FuncData}
  (a6 : W.findIn K (.ref C_Keeper) "live" = some (some (.ref f6))) (i6 : W.isFn K (.ref f6) = true)
  (F6 : Fun K "live" "Keeper.live" z49 f6 d6)
  {f7 : Addr} {d7 : FuncData}
  (a7 : W.findIn K (.ref C_Keeper) "names_in_way" = some (some (.ref f7))) (i7 : W.isFn K (.ref f7) = true)
  (F7 : Fun K "names_in_way" "Keeper.names_in_way" z2i f7 d7)
  {f8 : Addr} {d8 : FuncData}
  (a8 : W.findIn K (.ref C_Keeper) "says_free" = some (some (.ref f8))) (i8 : W.isFn K (.ref f8) = true)
  (F8 : Fun K "says_free" "Keeper.says_free" z2y f8 d8)
  {f9 : Addr} {d9 : FuncData}
  (a9 : W.findIn K (.ref C_Keeper) "take" = some (some (.ref f9))) (i9 : W.isFn K (.ref f9) = true)
  (F9 : Fun K "take" "Keeper.take" z4a f9 d9)
  {f10 : Addr} {d10 : FuncData}
  (a10 : W.findIn K (.ref C_Keeper) "drop" = some (some (.ref f10))) (i10 : W.isFn K (.ref f10) = true)
  (F10 : Fun K "drop" "Keeper.drop" z4b f10 d10)
  {f11 : Addr} {d11 : FuncData}
  (a11 : W.findIn K (.ref C_Council) "__init__" = some (some (.ref f11))) (i11 : W.isFn K (.ref f11) = true)
  (F11 : Fun K "__init__" "Council.__init__" z2z f11 d11)
  {f12 : Addr} {d12 : FuncData}
  (a12 : W.findIn K (.ref C_Council) "keeper_at" = some (some (.ref f12))) (i12 : W.isFn K (.ref f12) = true)
  (F12 : Fun K "keeper_at" "Council.keeper_at" z2v f12 d12)
  {f13 : Addr} {d13 : FuncData}
  (a13 : W.findIn K (.ref C_Council) "up_keepers" = some (some (.ref f13))) (i13 : W.isFn K (.ref f13) = true)
  (F13 : Fun K "up_keepers" "Council.up_keepers" z2n f13 d13)
  {f14 : Addr} {d14 : FuncData}
  (a14 : W.findIn K (.ref C_Council) "fall" = some (some (.ref f14))) (i14 : W.isFn K (.ref f14) = true)
  (F14 : Fun K "fall" "Council.fall" z3t f14 d14)
  {f15 : Addr} {d15 : FuncData}
  (a15 : W.findIn K (.ref C_Council) "rise" = some (some (.ref f15))) (i15 : W.isFn K (.ref f15) = true)
  (F15 : Fun K "rise" "Council.rise" z3u f15 d15)
  {f16 : Addr} {d16 : FuncData}
  (a16 : W.findIn K (.ref C_Council) "ups" = some (some (.ref f16))) (i16 : W.isFn K (.ref f16) = true)
  (F16 : Fun K "ups" "Council.ups" z4c f16 d16)
  {f17 : Addr} {d17 : FuncData}
  (a17 : W.findIn K (.ref C_Council) "notes" = some (some (.ref f17))) (i17 : W.isFn K (.ref f17) = true)
  (F17 : Fun K "notes" "Council.notes" z3m f17 d17)
  {f18 : Addr} {d18 : FuncData}
  (a18 : W.findIn K (.ref C_Council) "sayers" = some (some (.ref f18))) (i18 : W.isFn K (.ref f18) = true)
  (F18 : Fun K "sayers" "Council.sayers" z3c f18 d18)
  {f19 : Addr} {d19 : FuncData}
  (a19 : W.findIn K (.ref C_Council) "give" = some (some (.ref f19))) (i19 : W.isFn K (.ref f19) = true)
  (F19 : Fun K "give" "Council.give" z3v f19 d19)
  {f20 : Addr} {d20 : FuncData}
  (a20 : W.findIn K (.ref C_Council) "drop" = some (some (.ref f20))) (i20 : W.isFn K (.ref f20) = true)
  (F20 : Fun K "drop" "Council.drop" z3w f20 d20)
  {f21 : Addr} {d21 : FuncData}
  (a21 : W.nsIn K mainGlobals "_law_at" = some (some (.ref f21)))
  (F21 : Fun K "_law_at" "_law_at" z6v f21 d21)
  {f22 : Addr} {d22 : FuncData}
  (a22 : W.nsIn K mainGlobals "_law_same" = some (some (.ref f22)))
  (F22 : Fun K "_law_same" "_law_same" z2d f22 d22)
  {f23 : Addr} {d23 : FuncData}
  (a23 : W.nsIn K mainGlobals "_law_name" = some (some (.ref f23)))
  (F23 : Fun K "_law_name" "_law_name" z56 f23 d23)
  {f24 : Addr} {d24 : FuncData}
  (a24 : W.nsIn K mainGlobals "_law_names" = some (some (.ref f24)))
  (F24 : Fun K "_law_names" "_law_names" z4u f24 d24)
  {f25 : Addr} {d25 : FuncData}
  (a25 : W.nsIn K mainGlobals "_law_locks" = some (some (.ref f25)))
  (F25 : Fun K "_law_locks" "_law_locks" z4v f25 d25)
  {f26 : Addr} {d26 : FuncData}
  (a26 : W.nsIn K mainGlobals "_law_some" = some (some (.ref f26)))
  (F26 : Fun K "_law_some" "_law_some" z57 f26 d26)
  {f27 : Addr} {d27 : FuncData}
  (a27 : W.nsIn K mainGlobals "_law_setup" = some (some (.ref f27)))
  (F27 : Fun K "_law_setup" "_law_setup" z4w f27 d27)
  {f28 : Addr} {d28 : FuncData}
  (a28 : W.nsIn K mainGlobals "_law_asked" = some (some (.ref f28)))
  (F28 : Fun K "_law_asked" "_law_asked" z4x f28 d28)
  {f29 : Addr} {d29 : FuncData}
  (a29 : W.nsIn K mainGlobals "_law_line" = some (some (.ref f29)))
  (F29 : Fun K "_law_line" "_law_line" z58 f29 d29)
  {f30 : Addr} {d30 : FuncData}
  (a30 : W.nsIn K mainGlobals "_law_way" = some (some (.ref f30)))
  (F30 : Fun K "_law_way" "_law_way" z5w f30 d30)
  {f31 : Addr} {d31 : FuncData}
  (a31 : W.nsIn K mainGlobals "_law_new" = some (some (.ref f31)))
  (F31 : Fun K "_law_new" "_law_new" z5x f31 d31)
  {f32 : Addr} {d32 : FuncData}
  (a32 : W.nsIn K mainGlobals "_law_naming" = some (some (.ref f32)))
  (F32 : Fun K "_law_naming" "_law_naming" z4d f32 d32)
  {f33 : Addr} {d33 : FuncData}
  (a33 : W.nsIn K mainGlobals "_law_ups" = some (some (.ref f33)))
  (F33 : Fun K "_law_ups" "_law_ups" z5y f33 d33)
  {f34 : Addr} {d34 : FuncData}
  (a34 : W.nsIn K mainGlobals "_law_sayers" = some (some (.ref f34)))
  (F34 : Fun K "_law_sayers" "_law_sayers" z4e f34 d34)
  {f35 : Addr} {d35 : FuncData}
  (a35 : W.nsIn K mainGlobals "_law_free" = some (some (.ref f35)))
  (F35 : Fun K "_law_free" "_law_free" z59 f35 d35)
  {f36 : Addr} {d36 : FuncData}
  (a36 : W.nsIn K mainGlobals "_law_give" = some (some (.ref f36)))
  (F36 : Fun K "_law_give" "_law_give" z5a f36 d36)
  {f37 : Addr} {d37 : FuncData}
  (a37 : W.nsIn K mainGlobals "_law_dropped" = some (some (.ref f37)))
  (F37 : Fun K "_law_dropped" "_law_dropped" z3x f37 d37)
  {f38 : Addr} {od38 an38 : Option Addr} {sl38 : Array (Option Value)} {oc38 kV38 dc38 pm38 cd38 ct38 : Value}
  (a38 : W.nsIn K mainGlobals "_law_notes" = some (some (.ref f38)))
  (l38 : K.lookup f38 = some ⟨oc38, od38, .func (PySem.W.fnOf "_law_notes" "_law_notes" (z3f z20) (z1q z20) (zf z20) .none kV38 dc38 pm38 an38 cd38 ct38), sl38⟩) (c38 : PySem.W.codeIn K cd38 "_law_notes" = true) (k38 : PySem.W.keepIn K (.ref f38) = true)
  {f39 : Addr} {d39 : FuncData}
  (a39 : W.nsIn K mainGlobals "_law_given" = some (some (.ref f39)))
  (F39 : Fun K "_law_given" "_law_given" z4y f39 d39)
  {f40 : Addr} {d40 : FuncData}
  (a40 : W.nsIn K mainGlobals "_law_council_deed" = some (some (.ref f40)))
  (F40 : Fun K "_law_council_deed" "_law_council_deed" z2w f40 d40)
  {f41 : Addr} {d41 : FuncData}
  (a41 : W.nsIn K mainGlobals "law" = some (some (.ref f41)))
  (F41 : Fun K "law" "law" z79 f41 d41)
  (mk_Council : PySem.W.makesIn K C_Council = true) (kc_Council : PySem.W.keepIn K (.ref C_Council) = true)
  (mk_Keeper : PySem.W.makesIn K C_Keeper = true) (kc_Keeper : PySem.W.keepIn K (.ref C_Keeper) = true)
  {vs__law_notes : Array Value} {od__law_notes : Option Addr} {sl__law_notes : Array (Option Value)} (y_cu__law_notes : cd38 = Value.ref cd__law_notes) (y_cg__law_notes : K.lookup cd__law_notes = some ⟨.type "code", od__law_notes, .fields vs__law_notes, sl__law_notes⟩) (y_cw__law_notes : vs__law_notes[11]? = some (.ref Pt__law_notes)) (y_cz__law_notes : z85 vs__law_notes = true) (y_cn__law_notes : (cd__law_notes != Pt__law_notes) = true) (y_ck__law_notes : K.lookup Pt__law_notes = none)
  (y_ts : ts = [Pt__law_notes])
  : (∀ t ∈ ts, (∃ c, PySem.W.codeHdIn K c t = true) ∧ K.lookup t = none) ∧ ∃ fd : FuncData, (∀ (s : Shared) (v : Value), BindsTo s fd ⟨[v], []⟩ [("_law_script", v)]) ∧ ∀ base : Heap, K.In base → base.Ns mainGlobals mg → (∀ t ∈ ts, base.BuiltinsAt mg t) → FnOk l.prog w K mg base CX0 10 fa fd ["_law_script"] (spLaw ts K) := by
 have e := hfa.symm.trans (PySem.W.mg_of X G a41)
 cases e
 subst y_cu__law_notes
 have T : Txt K mg C_Council C_Down C_InTheWay C_Keeper C_NotFree C_OldNumber C_UnknownKeeper Pt__law_notes cd__law_notes := ⟨trivial, PySem.W.mg_none_of X G y_b_all, PySem.W.mg_none_of X G y_b_bool, PySem.W.mg_none_of X G y_b_enumerate, PySem.W.mg_none_of X G y_b_int, PySem.W.mg_none_of X G y_b_isinstance, PySem.W.mg_none_of X G y_b_len, PySem.W.mg_none_of X G y_b_list, PySem.W.mg_none_of X G y_b_max, PySem.W.mg_none_of X G y_b_min, PySem.W.mg_none_of X G y_b_range, PySem.W.mg_none_of X G y_b_set, PySem.W.mg_none_of X G y_b_sorted, PySem.W.mg_none_of X G y_b_str, PySem.W.mg_none_of X G y_b_tuple, PySem.W.mg_of X G y_g_Council, PySem.W.mg_of X G y_g_Down, PySem.W.mg_of X G y_g_InTheWay, PySem.W.mg_of X G y_g_Keeper, PySem.W.mg_of X G y_g_NotFree, PySem.W.mg_of X G y_g_OldNumber, PySem.W.mg_of X G y_g_UnknownKeeper, y_pg_Council, y_hd_Council, y_po_Council, y_sa_Council, y_n_Council_keepers, y_n_Council_most, y_pg_Keeper, y_hd_Keeper, y_po_Keeper, y_sa_Keeper, y_n_Keeper_up, y_n_Keeper_top, y_n_Keeper_kept, y_x_Down, y_x_InTheWay, y_x_NotFree, y_x_OldNumber, y_x_UnknownKeeper, y_sb_Down_NotFree, y_sb_InTheWay_NotFree, y_sb_NotFree_NotFree, y_sb_OldNumber_NotFree, y_sb_UnknownKeeper_NotFree, (zg5 y_cg__law_notes y_cw__law_notes y_cz__law_notes y_cn__law_notes)⟩
 obtain ⟨_, _, kV, dc, pm, an, cd, ct, _, rfl, _, _⟩ := id F41.ex
 have D22 : Def K mg "_law_same" z2d ["_law_found", "_law_due"] := ⟨_, _, F22, W.mg_of X G a22, F22.binds fun _ _ _ _ _ _ us hl => match us, hl with | [_, _], _ => rfl⟩
 have F38 := fun_mk (st := z20) l38 c38 k38
 have D38 : DefC K mg "_law_notes" z20 ["_law_state", "_law_keeper"] cd__law_notes := ⟨_, _, _, _, _, _, _, _, _, l38, c38, k38, PySem.W.mg_of X G a38, F38.binds fun _ _ _ _ _ _ us hl => match us, hl with | [_, _], _ => rfl⟩
 refine ⟨fun t ht => ?_, W.fnOf "law" "law" (z3f z79) (z1q z79) (zf z79) .none kV dc pm an cd ct, fun s v => .of_eq rfl, fun base _ _ BA => ?_⟩
 ·rw [y_ts] at ht
  simp only [List.mem_cons, List.not_mem_nil, or_false] at ht
  rcases ht with rfl
  ·exact ⟨⟨_, T.hd__law_notes⟩, y_ck__law_notes⟩
 have mt__law_notes : Pt__law_notes ∈ ts := by rw [y_ts]; simp
 have G_within := zg7 (P := l.prog) (w := w) (base := base) ⟨_, _, F0, W.mg_of X G a0, F0.binds fun _ _ _ _ _ _ us hl => match us, hl with | [_, _], _ => rfl⟩ T
 have G_on_line := zel (P := l.prog) (w := w) (base := base) ⟨_, _, F1, W.mg_of X G a1, F1.binds fun _ _ _ _ _ _ us hl => match us, hl with | [_, _], _ => rfl⟩ T G_within
 have G_in_way := zg8 (P := l.prog) (w := w) (base := base) ⟨_, _, F2, W.mg_of X G a2, F2.binds fun _ _ _ _ _ _ us hl => match us, hl with | [_, _, _, _], _ => rfl⟩ T G_on_line
 have G_Keeper___init__ := z6z (P := l.prog) (w := w) (base := base) ⟨_, _, F3, ⟨mk_Keeper, a3, i3, kc_Keeper⟩, F3.binds fun _ _ _ _ _ _ us hl => match us, hl with | [_], _ => rfl⟩ T
 have G_Keeper_fall := z9z (P := l.prog) (w := w) (base := base) ⟨_, _, F4, ⟨a4, i4, F4.kp⟩, F4.binds fun _ _ _ _ _ _ us hl => match us, hl with | [_], _ => rfl⟩ T
 have G_Keeper_rise := za0 (P := l.prog) (w := w) (base := base) ⟨_, _, F5, ⟨a5, i5, F5.kp⟩, F5.binds fun _ _ _ _ _ _ us hl => match us, hl with | [_], _ => rfl⟩ T
 have G_Keeper_live := z9x (P := l.prog) (w := w) (base := base) ⟨_, _, F6, ⟨a6, i6, F6.kp⟩, F6.binds fun _ _ _ _ _ _ us hl => match us, hl with | [_, _], _ => rfl⟩ T
 have G_Keeper_names_in_way := z5c (P := l.prog) (w := w) (base := base) ⟨_, _, F7, ⟨a7, i7, F7.kp⟩, F7.binds fun _ _ _ _ _ _ us hl => match us, hl with | [_, _, _, _, _], _ => rfl⟩ T G_in_way G_Keeper_live
 have G_Keeper_says_free := z6f (P := l.prog) (w := w) (base := base) ⟨_, _, F8, ⟨a8, i8, F8.kp⟩, F8.binds fun _ _ _ _ _ _ us hl => match us, hl with | [_, _, _, _, _], _ => rfl⟩ T G_Keeper_names_in_way
 have G_Keeper_take := z9y (P := l.prog) (w := w) (base := base) ⟨_, _, F9, ⟨a9, i9, F9.kp⟩, F9.binds fun _ _ _ _ _ _ us hl => match us, hl with | [_, _, _, _, _, _, _], _ => rfl⟩ T G_Keeper_says_free
 have G_Keeper_drop := za7 (P := l.prog) (w := w) (base := base) ⟨_, _, F10, ⟨a10, i10, F10.kp⟩, F10.binds fun _ _ _ _ _ _ us hl => match us, hl with | [_, _, _], _ => rfl⟩ T G_Keeper_live
 have G_Council___init__ := z6g (P := l.prog) (w := w) (base := base) ⟨_, _, F11, ⟨mk_Council, a11, i11, kc_Council⟩, F11.binds fun _ _ _ _ _ _ us hl => match us, hl with | [_, _], _ => rfl⟩ T G_Keeper___init__
 have G_Council_keeper_at := z63 (P := l.prog) (w := w) (base := base) ⟨_, _, F12, ⟨a12, i12, F12.kp⟩, F12.binds fun _ _ _ _ _ _ us hl => match us, hl with | [_, _], _ => rfl⟩ T
 have G_Council_up_keepers := z5n (P := l.prog) (w := w) (base := base) ⟨_, _, F13, ⟨a13, i13, F13.kp⟩, F13.binds fun _ _ _ _ _ _ us hl => match us, hl with | [_], _ => rfl⟩ T
 have G_Council_fall := z91 (P := l.prog) (w := w) (base := base) ⟨_, _, F14, ⟨a14, i14, F14.kp⟩, F14.binds fun _ _ _ _ _ _ us hl => match us, hl with | [_, _], _ => rfl⟩ T G_Keeper_fall G_Council_keeper_at
 have G_Council_rise := z92 (P := l.prog) (w := w) (base := base) ⟨_, _, F15, ⟨a15, i15, F15.kp⟩, F15.binds fun _ _ _ _ _ _ us hl => match us, hl with | [_, _], _ => rfl⟩ T G_Keeper_rise G_Council_keeper_at
 have G_Council_ups := za8 (P := l.prog) (w := w) (base := base) ⟨_, _, F16, ⟨a16, i16, F16.kp⟩, F16.binds fun _ _ _ _ _ _ us hl => match us, hl with | [_], _ => rfl⟩ T G_Council_up_keepers
 have G_Council_notes := z89 (P := l.prog) (w := w) (base := base) ⟨_, _, F17, ⟨a17, i17, F17.kp⟩, F17.binds fun _ _ _ _ _ _ us hl => match us, hl with | [_, _, _], _ => rfl⟩ T G_Keeper_live G_Council_keeper_at
 have G_Council_sayers := z7i (P := l.prog) (w := w) (base := base) ⟨_, _, F18, ⟨a18, i18, F18.kp⟩, F18.binds fun _ _ _ _ _ _ us hl => match us, hl with | [_, _, _, _, _], _ => rfl⟩ T G_Keeper_says_free G_Council_up_keepers
 have G_Council_give := z94 (P := l.prog) (w := w) (base := base) ⟨_, _, F19, ⟨a19, i19, F19.kp⟩, F19.binds fun _ _ _ _ _ _ us hl => match us, hl with | [_, _, _, _, _, _], _ => rfl⟩ T G_Keeper_take G_Council_keeper_at G_Council_up_keepers G_Council_sayers
 have G_Council_drop := z9b (P := l.prog) (w := w) (base := base) ⟨_, _, F20, ⟨a20, i20, F20.kp⟩, F20.binds fun _ _ _ _ _ _ us hl => match us, hl with | [_, _, _], _ => rfl⟩ T G_Keeper_drop G_Council_up_keepers
 have G__law_at := zeo (P := l.prog) (w := w) (base := base) ⟨_, _, F21, W.mg_of X G a21, F21.binds fun _ _ _ _ _ _ us hl => match us, hl with | [_, _], _ => rfl⟩ T
 have G_same0 := zhm (P := l.prog) (w := w) (base := base) D22 T (zfs D22)
 have G_same1 := z8b (P := l.prog) (w := w) (base := base) D22 T G_same0
 have G_same2 := zhn (P := l.prog) (w := w) (base := base) D22 T G_same1
 have G_same3 := zho (P := l.prog) (w := w) (base := base) D22 T G_same2
 have G__law_same : Has l.prog w K mg base 4 "_law_same" ["_law_found", "_law_due"] (z2j 3) := G_same3
 have G__law_name := zc9 (P := l.prog) (w := w) (base := base) ⟨_, _, F23, W.mg_of X G a23, F23.binds fun _ _ _ _ _ _ us hl => match us, hl with | [_, _], _ => rfl⟩ T
 have G__law_names := zb2 (P := l.prog) (w := w) (base := base) ⟨_, _, F24, W.mg_of X G a24, F24.binds fun _ _ _ _ _ _ us hl => match us, hl with | [_, _], _ => rfl⟩ T G__law_name
 have G__law_locks := zb3 (P := l.prog) (w := w) (base := base) ⟨_, _, F25, W.mg_of X G a25, F25.binds fun _ _ _ _ _ _ us hl => match us, hl with | [_, _, _], _ => rfl⟩ T G__law_name
 have G__law_some := zcb (P := l.prog) (w := w) (base := base) ⟨_, _, F26, W.mg_of X G a26, F26.binds fun _ _ _ _ _ _ us hl => match us, hl with | [_, _], _ => rfl⟩ T
 have G__law_setup := zb4 (P := l.prog) (w := w) (base := base) ⟨_, _, F27, W.mg_of X G a27, F27.binds fun _ _ _ _ _ _ us hl => match us, hl with | [_], _ => rfl⟩ T G__law_at G__law_names G__law_locks G__law_some
 have G__law_asked := zb7 (P := l.prog) (w := w) (base := base) ⟨_, _, F28, W.mg_of X G a28, F28.binds fun _ _ _ _ _ _ us hl => match us, hl with | [_, _, _], _ => rfl⟩ T
 have G__law_line := zca (P := l.prog) (w := w) (base := base) ⟨_, _, F29, W.mg_of X G a29, F29.binds fun _ _ _ _ _ _ us hl => match us, hl with | [_, _], _ => rfl⟩ T
 have G__law_way := zcx (P := l.prog) (w := w) (base := base) ⟨_, _, F30, W.mg_of X G a30, F30.binds fun _ _ _ _ _ _ us hl => match us, hl with | [_, _, _, _], _ => rfl⟩ T G__law_line
 have G__law_new := zd2 (P := l.prog) (w := w) (base := base) ⟨_, _, F31, W.mg_of X G a31, F31.binds fun _ _ _ _ _ _ us hl => match us, hl with | [_], _ => rfl⟩ T
 have G__law_naming := za5 (P := l.prog) (w := w) (base := base) ⟨_, _, F32, W.mg_of X G a32, F32.binds fun _ _ _ _ _ _ us hl => match us, hl with | [_, _, _], _ => rfl⟩ T G__law_way
 have G__law_ups := zcy (P := l.prog) (w := w) (base := base) ⟨_, _, F33, W.mg_of X G a33, F33.binds fun _ _ _ _ _ _ us hl => match us, hl with | [_], _ => rfl⟩ T
 have G__law_sayers := za6 (P := l.prog) (w := w) (base := base) ⟨_, _, F34, W.mg_of X G a34, F34.binds fun _ _ _ _ _ _ us hl => match us, hl with | [_, _], _ => rfl⟩ T G__law_naming G__law_ups
 have G__law_free := zcg (P := l.prog) (w := w) (base := base) ⟨_, _, F35, W.mg_of X G a35, F35.binds fun _ _ _ _ _ _ us hl => match us, hl with | [_, _], _ => rfl⟩ T G__law_sayers
 have G__law_give := zci (P := l.prog) (w := w) (base := base) ⟨_, _, F36, W.mg_of X G a36, F36.binds fun _ _ _ _ _ _ us hl => match us, hl with | [_, _], _ => rfl⟩ T G__law_ups G__law_sayers
 have G__law_dropped := z9a (P := l.prog) (w := w) (base := base) ⟨_, _, F37, W.mg_of X G a37, F37.binds fun _ _ _ _ _ _ us hl => match us, hl with | [_, _], _ => rfl⟩ T
 have G__law_notes := zb6 (P := l.prog) (w := w) (base := base) D38 T (BA _ mt__law_notes)
 have G__law_given := zb5 (P := l.prog) (w := w) (base := base) ⟨_, _, F39, W.mg_of X G a39, F39.binds fun _ _ _ _ _ _ us hl => match us, hl with | [_, _, _], _ => rfl⟩ T G_Council_give
 have G__law_council_deed := z68 (P := l.prog) (w := w) (base := base) ⟨_, _, F40, W.mg_of X G a40, F40.binds fun _ _ _ _ _ _ us hl => match us, hl with | [_, _, _, _], _ => rfl⟩ T G_Council_fall G_Council_rise G_Council_drop G__law_same G__law_asked G__law_sayers G__law_free G__law_give G__law_dropped G__law_given
 have G_law := zk2 (P := l.prog) (w := w) (base := base) ⟨_, _, F41, W.mg_of X G a41, F41.binds fun _ _ _ _ _ _ us hl => match us, hl with | [_], _ => rfl⟩ T G_Council___init__ G_Council_ups G_Council_notes G_Council_sayers G__law_same G__law_setup G__law_asked G__law_new G__law_ups G__law_sayers G__law_notes G__law_council_deed mt__law_notes
 exact Has.at G_law (PySem.W.mg_of X G a41) F41
end Fg
open PySem PySem.W PyProof.Rows
set_option maxRecDepth 100000 in
set_option maxHeartbeats 0 in
theorem PySem.Challenge.cw_fencegate_k11_council_day_holds : PySem.Challenge.rw_fencegate_k11_council_day.Holds := by
 w_on; o_law
 refine holds_open (r := PySem.Challenge.rw_fencegate_k11_council_day.row) (q := Fg.vw) (loose := []) (XP := XL Fg.vw []) (YP := (kmHook Fg.kk Fg.ka Fg.ka_eq [425]).says) (N := 12 + (1 + (1470 + 3856)))
  Fg.left_ok (kmHook Fg.kk Fg.ka Fg.ka_eq [425]).of (kmHook Fg.kk Fg.ka Fg.ka_eq [425]).keeps (fun s e => xl_of s (Bool.and_eq_true_iff.mp e).1) XL.keeps
  (by rfl) (by rfl) (by rfl) (fun s e => recFacts_of (Bool.and_eq_true_iff.mp e).2) (by rfl) (by assumption) (by decide +kernel)
  ⟨rfl, rfl, rfl, rfl, rfl, by decide +kernel⟩ ?hw ?hc
 (case hw => w_witness2)
 k_fill
 refine L2.walk_ofT (l := PySem.Challenge.rw_fencegate_k11_council_day) (n := 63) (k := 10) (x := "_law_script") (sp := fun ts K => Fg.spLaw ts K) rfl (by decide) rfl ⟨rfl, by decide, by decide⟩ (fun w h Y => ⟨PySem.W.km_in_of Y, PySem.W.km_tabs_of Y⟩) ?F (fun K H a ns hl hO hS => ⟨a, ns, rfl, hS, hl, hO.tab, fun _ => rfl⟩)
 case F =>
  intro w mg fa h KX G hmg
  refine' Fg.all_mk KX G hmg ?y_b_all ?y_b_bool ?y_b_enumerate ?y_b_int ?y_b_isinstance ?y_b_len ?y_b_list ?y_b_max ?y_b_min ?y_b_range ?y_b_set ?y_b_sorted ?y_b_str ?y_b_tuple ?y_g_Council ?y_g_Down ?y_g_InTheWay ?y_g_Keeper ?y_g_NotFree ?y_g_OldNumber ?y_g_UnknownKeeper ?y_pg_Council ?y_hd_Council ?y_po_Council ?y_sa_Council ?y_n_Council_keepers ?y_n_Council_most ?y_pg_Keeper ?y_hd_Keeper ?y_po_Keeper ?y_sa_Keeper ?y_n_Keeper_up ?y_n_Keeper_top ?y_n_Keeper_kept ?y_x_Down ?y_x_InTheWay ?y_x_NotFree ?y_x_OldNumber ?y_x_UnknownKeeper ?y_sb_Down_NotFree ?y_sb_InTheWay_NotFree ?y_sb_NotFree_NotFree ?y_sb_OldNumber_NotFree ?y_sb_UnknownKeeper_NotFree ?a0 ?F0 ?a1 ?F1 ?a2 ?F2 ?a3 ?i3 ?F3 ?a4 ?i4 ?F4 ?a5 ?i5 ?F5 ?a6 ?i6 ?F6 ?a7 ?i7 ?F7 ?a8 ?i8 ?F8 ?a9 ?i9 ?F9 ?a10 ?i10 ?F10 ?a11 ?i11 ?F11 ?a12 ?i12 ?F12 ?a13 ?i13 ?F13 ?a14 ?i14 ?F14 ?a15 ?i15 ?F15 ?a16 ?i16 ?F16 ?a17 ?i17 ?F17 ?a18 ?i18 ?F18 ?a19 ?i19 ?F19 ?a20 ?i20 ?F20 ?a21 ?F21 ?a22 ?F22 ?a23 ?F23 ?a24 ?F24 ?a25 ?F25 ?a26 ?F26 ?a27 ?F27 ?a28 ?F28 ?a29 ?F29 ?a30 ?F30 ?a31 ?F31 ?a32 ?F32 ?a33 ?F33 ?a34 ?F34 ?a35 ?F35 ?a36 ?F36 ?a37 ?F37 ?a38 ?l38 ?c38 ?k38 ?a39 ?F39 ?a40 ?F40 ?a41 ?F41 ?mk_Council ?kc_Council ?mk_Keeper ?kc_Keeper ?y_cu__law_notes ?y_cg__law_notes ?y_cw__law_notes ?y_cz__law_notes ?y_cn__law_notes ?y_ck__law_notes ?y_ts
  (case y_b_all => k_is)
  (case y_b_bool => k_is)
  (case y_b_enumerate => k_is)
  (case y_b_int => k_is)
  (case y_b_isinstance => k_is)
  (case y_b_len => k_is)
  (case y_b_list => k_is)
  (case y_b_max => k_is)
  (case y_b_min => k_is)
  (case y_b_range => k_is)
  (case y_b_set => k_is)
  (case y_b_sorted => k_is)
  (case y_b_str => k_is)
  (case y_b_tuple => k_is)
  (case y_g_Council => k_is)
  (case y_g_Down => k_is)
  (case y_g_InTheWay => k_is)
  (case y_g_Keeper => k_is)
  (case y_g_NotFree => k_is)
  (case y_g_OldNumber => k_is)
  (case y_g_UnknownKeeper => k_is)
  (case y_pg_Council => k_is)
  (case y_hd_Council => k_is)
  (case y_po_Council => k_is)
  (case y_sa_Council => k_is)
  (case y_n_Council_keepers => k_is)
  (case y_n_Council_most => k_is)
  (case y_pg_Keeper => k_is)
  (case y_hd_Keeper => k_is)
  (case y_po_Keeper => k_is)
  (case y_sa_Keeper => k_is)
  (case y_n_Keeper_up => k_is)
  (case y_n_Keeper_top => k_is)
  (case y_n_Keeper_kept => k_is)
  (case y_x_Down => k_exc)
  (case y_x_InTheWay => k_exc)
  (case y_x_NotFree => k_exc)
  (case y_x_OldNumber => k_exc)
  (case y_x_UnknownKeeper => k_exc)
  (case y_sb_Down_NotFree => k_is)
  (case y_sb_InTheWay_NotFree => k_is)
  (case y_sb_NotFree_NotFree => k_is)
  (case y_sb_OldNumber_NotFree => k_is)
  (case y_sb_UnknownKeeper_NotFree => k_is)
  (case a0 => k_is)
  (case F0 => (apply L2.fun_mk; k_is; k_is; k_is))
  (case a1 => k_is)
  (case F1 => (apply L2.fun_mk; k_is; k_is; k_is))
  (case a2 => k_is)
  (case F2 => (apply L2.fun_mk; k_is; k_is; k_is))
  (case a3 => k_is)
  (case i3 => k_is)
  (case F3 => (apply L2.fun_mk; k_is; k_is; k_is))
  (case a4 => k_is)
  (case i4 => k_is)
  (case F4 => (apply L2.fun_mk; k_is; k_is; k_is))
  (case a5 => k_is)
  (case i5 => k_is)
  (case F5 => (apply L2.fun_mk; k_is; k_is; k_is))
  (case a6 => k_is)
  (case i6 => k_is)
  (case F6 => (apply L2.fun_mk; k_is; k_is; k_is))
  (case a7 => k_is)
  (case i7 => k_is)
  (case F7 => (apply L2.fun_mk; k_is; k_is; k_is))
  (case a8 => k_is)
  (case i8 => k_is)
  (case F8 => (apply L2.fun_mk; k_is; k_is; k_is))
  (case a9 => k_is)
  (case i9 => k_is)
  (case F9 => (apply L2.fun_mk; k_is; k_is; k_is))
  (case a10 => k_is)
  (case i10 => k_is)
  (case F10 => (apply L2.fun_mk; k_is; k_is; k_is))
  (case a11 => k_is)
  (case i11 => k_is)
  (case F11 => (apply L2.fun_mk; k_is; k_is; k_is))
  (case a12 => k_is)
  (case i12 => k_is)
  (case F12 => (apply L2.fun_mk; k_is; k_is; k_is))
  (case a13 => k_is)
  (case i13 => k_is)
  (case F13 => (apply L2.fun_mk; k_is; k_is; k_is))
  (case a14 => k_is)
  (case i14 => k_is)
  (case F14 => (apply L2.fun_mk; k_is; k_is; k_is))
  (case a15 => k_is)
  (case i15 => k_is)
  (case F15 => (apply L2.fun_mk; k_is; k_is; k_is))
  (case a16 => k_is)
  (case i16 => k_is)
  (case F16 => (apply L2.fun_mk; k_is; k_is; k_is))
  (case a17 => k_is)
  (case i17 => k_is)
  (case F17 => (apply L2.fun_mk; k_is; k_is; k_is))
  (case a18 => k_is)
  (case i18 => k_is)
  (case F18 => (apply L2.fun_mk; k_is; k_is; k_is))
  (case a19 => k_is)
  (case i19 => k_is)
  (case F19 => (apply L2.fun_mk; k_is; k_is; k_is))
  (case a20 => k_is)
  (case i20 => k_is)
  (case F20 => (apply L2.fun_mk; k_is; k_is; k_is))
  (case a21 => k_is)
  (case F21 => (apply L2.fun_mk; k_is; k_is; k_is))
  (case a22 => k_is)
  (case F22 => (apply L2.fun_mk; k_is; k_is; k_is))
  (case a23 => k_is)
  (case F23 => (apply L2.fun_mk; k_is; k_is; k_is))
  (case a24 => k_is)
  (case F24 => (apply L2.fun_mk; k_is; k_is; k_is))
  (case a25 => k_is)
  (case F25 => (apply L2.fun_mk; k_is; k_is; k_is))
  (case a26 => k_is)
  (case F26 => (apply L2.fun_mk; k_is; k_is; k_is))
  (case a27 => k_is)
  (case F27 => (apply L2.fun_mk; k_is; k_is; k_is))
  (case a28 => k_is)
  (case F28 => (apply L2.fun_mk; k_is; k_is; k_is))
  (case a29 => k_is)
  (case F29 => (apply L2.fun_mk; k_is; k_is; k_is))
  (case a30 => k_is)
  (case F30 => (apply L2.fun_mk; k_is; k_is; k_is))
  (case a31 => k_is)
  (case F31 => (apply L2.fun_mk; k_is; k_is; k_is))
  (case a32 => k_is)
  (case F32 => (apply L2.fun_mk; k_is; k_is; k_is))
  (case a33 => k_is)
  (case F33 => (apply L2.fun_mk; k_is; k_is; k_is))
  (case a34 => k_is)
  (case F34 => (apply L2.fun_mk; k_is; k_is; k_is))
  (case a35 => k_is)
  (case F35 => (apply L2.fun_mk; k_is; k_is; k_is))
  (case a36 => k_is)
  (case F36 => (apply L2.fun_mk; k_is; k_is; k_is))
  (case a37 => k_is)
  (case F37 => (apply L2.fun_mk; k_is; k_is; k_is))
  (case a38 => k_is)
  (case l38 => k_is)
  (case c38 => k_is)
  (case k38 => k_is)
  (case a39 => k_is)
  (case F39 => (apply L2.fun_mk; k_is; k_is; k_is))
  (case a40 => k_is)
  (case F40 => (apply L2.fun_mk; k_is; k_is; k_is))
  (case a41 => k_is)
  (case F41 => (apply L2.fun_mk; k_is; k_is; k_is))
  (case mk_Council => k_is)
  (case kc_Council => k_is)
  (case mk_Keeper => k_is)
  (case kc_Keeper => k_is)
  (case y_cu__law_notes => exact rfl)
  (case y_cg__law_notes => k_is)
  (case y_cw__law_notes => exact rfl)
  (case y_cz__law_notes => kernel_rfl)
  (case y_cn__law_notes => kernel_rfl)
  (case y_ck__law_notes => kernel_rfl)
  (case y_ts => exact rfl)
