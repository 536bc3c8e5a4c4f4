import PyProof.Rows.All
import Wide.All
import OpenK.KLine
import OpenK.KOwn
import OpenK.KRaise
import OpenK.KDescr
import OpenK.KCall
import OpenK.KCls
import OpenK.KMake
import OpenK.KMore
import OpenK.Peek
import KE.KFromBytes
import KE.KIsAll
import KE.KItem
import KE.KxBytes
import Wide.FinOn
import PyProof.EqAt
import PyProof.EqKinds
import PyProof.NeKinds
import PyProof.TupleCall
import PyProof.ExcBaseAll.ValueError
import PyProof.NsDelKeeps
import KE.KDictOf
import KE.KDictList
import KE.KDictSum
import KE.KPairComp
import KE.KMinKey
import KE.KNestM
import KE.KSortKey
import KE.KLam
import PyProof.Rows.SortRev
import Lean
import PySem.Challenge.RW_fencegate_k15_council_named
set_option Elab.async false
set_option linter.all false
set_option maxRecDepth 100000
set_option maxHeartbeats 4000000
section
namespace PySem.W
open PySem
def kIns:List Obj → Nat → BT → BT
 | [],_,t=>t
 | o :: r,i,t=>kIns r (i + 1) (t.ins i o)
noncomputable def headSeen {α:Type} (p q:Program) (loose:List Str) (X:Shared → Bool) (obs:Shared → α) (w:World) (m0:Nat) (ann:Option Value) (n2:Nat) (t:Thread) (s:Shared) :=
 ((topRun treeTable p w m0 ann n2 s t).bind fun s₁=>match staticsOk (importedModules p.main.body) (boot_heap w.params) s₁.heap && namesBound p s₁.heap && gensDone s₁ && laidKept (boot_heap w.params) s₁.heap with
  | true=>some s₁
  | false=>none).map fun s=>(openSeen q loose (importedModules p.main.body) X true s,obs s)
theorem left_of {α:Type} {p q:Program} {loose:List Str} {X:Shared → Bool} {obs:Shared → α} {val:World → α} {m0 np nb n1 n2:Nat} {ann:Option Value} {env:Env} {body:List Stmt} {code:Code} {pA pB pM fr:Pos}
  {sA:World → OsState → Shared} {sB:World → OsState → SharedT}
  (hb:∀ w:World,(fencedOpening treeTable p w (np + (nb + (n1 + n2)))).map (fun s=>(s.heap,s.gens,s.drawn,s.toks)) = some (boot_heap w.params,#[],boot_drawn,boot_toks))
  (pre:∀ w os,topGo treeTable p w m0 ann np ⟨boot_heap w.params,#[],boot_drawn,boot_toks,os⟩ (topStub p) = some (sA w os,⟨denote treeTable (.body (body ++ []) env),code,pA,[topFrame fr]⟩))
  (blk:∀ w os,segRun treeTable p w m0 ann 1 nb (sA w os) (blockOf (body ++ []) env code pA [topFrame fr]) = some (.next,(sB w os).abs,code,pB))
  (mid:∀ w os,(segRunT treeTable p w m0 ann 1 n1 (sB w os) (piecesOf body env code pB [topFrame fr])).map (fun r=>(r.1,r.2.2.1,r.2.2.2,headSeen p q loose X obs w m0 ann n2 (restOf [] env code pM [topFrame fr]) r.2.1.abs)) = some (.next,code,pM,some (openGood q loose,val w)))
  (sz:∀ w:World,(((boot_heap w.params).isNs mainGlobals && (#[]:Array GenState).size == 0),(boot_heap w.params).objs.size,(boot_heap w.params).nsMap mainGlobals "__annotations__") = (true,m0,ann)) :
  LeftO p q loose X obs val (np + (nb + (n1 + n2))):=fun w=>by
 obtain ⟨⟨h,g,d,k,os⟩,hs,hv⟩:=Option.map_eq_some_iff.mp (hb w)
 simp only [Prod.mk.injEq] at hv
 obtain ⟨rfl,rfl,rfl,rfl⟩:=hv
 have R:=mid w os
 obtain ⟨z1,z2,z3⟩:_ ∧ _ ∧ _:=by simpa only [Prod.mk.injEq] using sz w
 cases e:segRunT treeTable p w m0 ann 1 n1 (sB w os) (piecesOf body env code pB [topFrame fr]) with
 | none=>rw [e] at R; cases R
 | some r =>
  obtain ⟨f,s',c,pp⟩:=r
  rw [e] at R
  have R2:=Option.some.inj R
  simp only [Prod.mk.injEq] at R2
  obtain ⟨rfl,rfl,rfl,R3⟩:=R2
  unfold headSeen at R3
  have M:=segRun_of e
  cases t:topRun treeTable p w m0 ann n2 s'.abs (restOf [] env c pp [topFrame fr]) with
  | none=>rw [t] at R3; cases R3
  | some r =>
   rw [t] at R3
   have G:=go_top (pre w os) (piece_block (blk w os) (piece_app M t))
   unfold openEnds
   rw [hs]
   show (topFrom treeTable p w _ _).map _ = _
   unfold topFrom
   dsimp only
   rw [z1,z2,z3,G]
   exact R3
theorem zdf {σ τ α β A B C:Type} {o:Option σ} {k1:σ → A} {k2:σ → B} {k3:σ → C} {h:σ → Option τ} {g1:τ → α} {g2:τ → β} {a:A} {b:B} {c:C} {v1:α} {v2:β}
  (x:o.map (fun r=>(k1 r,k2 r,k3 r,(h r).map g1)) = some (a,b,c,some v1)) (y:o.map (fun r=>(k1 r,k2 r,k3 r,(h r).map g2)) = some (a,b,c,some v2)) :
  o.map (fun r=>(k1 r,k2 r,k3 r,(h r).map fun s=>(g1 s,g2 s))) = some (a,b,c,some (v1,v2)):=by
 cases o with
 | none=>cases x
 | some r =>
  simp only [Option.map_some,Option.some.injEq,Prod.mk.injEq] at x y ⊢
  obtain ⟨x1,x2,x3,x4⟩:=x
  obtain ⟨-,-,-,y4⟩:=y
  refine ⟨x1,x2,x3,?_⟩
  cases e:h r with
  | none=>rw [e] at x4; cases x4
  | some t =>
   rw [e] at x4 y4
   simp only [Option.map_some,Option.some.injEq] at x4 y4 ⊢
   rw [x4,y4]
theorem zis {σ τ α β A B C:Type} {o:Option σ} {k1:σ → A} {k2:σ → B} {k3:σ → C} {h:σ → Option τ} {g:τ → α} {F:τ → β} (φ:α → β) (e:∀ s,F s = φ (g s)) {a:A} {b:B} {c:C} {v:α}
  (x:o.map (fun r=>(k1 r,k2 r,k3 r,(h r).map g)) = some (a,b,c,some v)):o.map (fun r=>(k1 r,k2 r,k3 r,(h r).map F)) = some (a,b,c,some (φ v)):=by
 cases o with
 | none=>cases x
 | some r =>
  simp only [Option.map_some,Option.some.injEq,Prod.mk.injEq] at x ⊢
  obtain ⟨x1,x2,x3,x4⟩:=x
  refine ⟨x1,x2,x3,?_⟩
  cases e2:h r with
  | none=>rw [e2] at x4; cases x4
  | some t =>
   rw [e2] at x4
   simp only [Option.map_some,Option.some.injEq] at x4 ⊢
   rw [e,x4]
end PySem.W
namespace Fg
open PySem PySem.W PyProof.Rows PySem.Calls
def ktop (i:Nat):Stmt:=PySem.Challenge.pw_fencegate_k15_council_named.main.body.getD i (.Pass ⟨0,0,0,0⟩)
def zkh (s:Stmt):Arguments:=match s with
 | .FunctionDef _ a _ _ _ _ _ _ _ _=>a
 | _=>{ posonlyargs:=[],args:=[],vararg:=none,kwonlyargs:=[],kw_defaults:=[],kwarg:=none,defaults:=[] }
def zki (s:Stmt):List Stmt:=match s with
 | .FunctionDef _ _ b _ _ _ _ _ _ _=>b
 | _=>[]
def zjo (s:Stmt):Scope:=match s with
 | .FunctionDef _ _ _ _ _ _ sc _ _ _=>sc
 | _=>{ kind:=.function,names:=[],isGenerator:=false,isCoroutine:=false }
def kcls (s:Stmt) (j:Nat):Stmt:=match s with
 | .ClassDef _ _ _ body _ _ _ _ _ _ _=>body.getD j (.Pass ⟨0,0,0,0⟩)
 | _=>.Pass ⟨0,0,0,0⟩
def kS (x:String) (n:Nat):Value:=.str (Str.ofString x) n
def kE (P:Params) (x:String) (n:Nat) (v:Value):DictEntry:=⟨PyData.keyHash P (Str.ofString x),kS x n,v⟩
def kC (vs:Array Value):Obj:={ cls:=.type "code",data:=.fields vs }
def kF (n q:String) (s:Stmt) (m:Value) (c:Addr):Obj:={ cls:=.type "function",data:=.func { name:=Str.ofString n,qualname:=Str.ofString q,params:=zkh s,body:=.stmts (zki s),scope:=zjo s,globals:=3,closure:=[],defaults:=.none,kwdefaults:=.none,pyModule:=m,code:=.ref c } }
def kk:Params → PySem.W.Frag:=fun P=>(nat_lit 2,{ cls:=.none,data:=Data.dict #[] }) ::
 (nat_lit 3,{ cls:=.type "dict",data:=Data.dict #[kE P "__name__" 165 (kS "law_fencegate_k15_council_named" 582),kE P "__doc__" 166 (.none),kE P "__package__" 167 (.none),kE P "__loader__" 168 (.builtin "__main__.__loader__#opaque"),kE P "__spec__" 169 (.none),kE P "__annotations__" 170 (.ref 6),kE P "__builtins__" 171 (.ref 4),kE P "__file__" 173 (kS "/claim/cut.py" 172),kE P "__cached__" 174 (.none),kE P "_wall" 193 (.ref 21),kE P "GateError" 220 (.ref 38),kE P "UnknownKeeper" 243 (.ref 58),kE P "Down" 266 (.ref 77),kE P "OldNumber" 289 (.ref 96),kE P "InTheWay" 312 (.ref 115),kE P "NotFree" 335 (.ref 134),kE P "within" 346 (.ref 143),kE P "on_line" 354 (.ref 150),kE P "in_way" 364 (.ref 157),kE P "Keeper" 445 (.ref 215),kE P "Council" 581 (.ref 310),kE P "_law_at" 591 (.ref 321),kE P "_law_same" 597 (.ref 326),kE P "_law_name" 612 (.ref 333),kE P "_law_names" 618 (.ref 338),kE P "_law_locks" 632 (.ref 345),kE P "_law_some" 643 (.ref 352),kE P "_law_setup" 655 (.ref 359),kE P "_law_asked" 667 (.ref 366),kE P "_law_line" 678 (.ref 373),kE P "_law_way" 688 (.ref 380),kE P "_law_new" 695 (.ref 387),kE P "_law_naming" 706 (.ref 394),kE P "_law_ups" 712 (.ref 399),kE P "_law_sayers" 718 (.ref 404),kE P "_law_free" 726 (.ref 411),kE P "_law_give" 732 (.ref 416),kE P "_law_dropped" 743 (.ref 423),kE P "_law_given" 753 (.ref 430),kE P "_law_council_deed" 772 (.ref 437),kE P "_law_named" 784 (.ref 444),kE P "law" 799 (.ref 451)] 42 }) ::
 (nat_lit 37,{ cls:=.type "dict",data:=Data.dict #[kE P "__module__" 203 (kS "fencegate.errors" 194),kE P "__firstlineno__" 207 (.int 5 206),kE P "word" 214 (.ref 35),kE P "__static_attributes__" 215 (.ref 36),kE P "__weakref__" 217 (.ref 39),kE P "__doc__" 218 (.none)] 3 }) ::
 (nat_lit 38,{ cls:=.type "type",data:=Data.cls { name:=Str.ofString "GateError",bases:=[.type "ValueError"],mro:=[.ref 38,.type "ValueError",.type "Exception",.type "BaseException",.type "object"],ns:=37,qualname:=Str.ofString "GateError",subclasses:=[.ref 58,.ref 77,.ref 96,.ref 115,.ref 134] },slots:=#[some (.ref 22),none,some (kS "GateError" 196),some (kS "GateError" 204),some (.builtin "ValueError.__new__"),some (.bool true)] }) ::
 (nat_lit 39,{ cls:=.type "getset_descriptor",data:=Data.fields #[kS "__weakref__" 216,.ref 38,.builtin "ExceptionGroup.__weakref__",.none] }) ::
 (nat_lit 57,{ cls:=.type "dict",data:=Data.dict #[kE P "__module__" 228 (kS "fencegate.errors" 194),kE P "__firstlineno__" 232 (.int 9 231),kE P "word" 239 (.ref 55),kE P "__static_attributes__" 240 (.ref 56),kE P "__doc__" 241 (.none)] 2 }) ::
 (nat_lit 58,{ cls:=.type "type",data:=Data.cls { name:=Str.ofString "UnknownKeeper",bases:=[.ref 38],mro:=[.ref 58,.ref 38,.type "ValueError",.type "Exception",.type "BaseException",.type "object"],ns:=57,qualname:=Str.ofString "UnknownKeeper" },slots:=#[some (.ref 42),none,some (kS "UnknownKeeper" 221),some (kS "UnknownKeeper" 229),some (.builtin "ValueError.__new__"),some (.bool true)] }) ::
 (nat_lit 76,{ cls:=.type "dict",data:=Data.dict #[kE P "__module__" 251 (kS "fencegate.errors" 194),kE P "__firstlineno__" 255 (.int 13 254),kE P "word" 262 (.ref 74),kE P "__static_attributes__" 263 (.ref 75),kE P "__doc__" 264 (.none)] 2 }) ::
 (nat_lit 77,{ cls:=.type "type",data:=Data.cls { name:=Str.ofString "Down",bases:=[.ref 38],mro:=[.ref 77,.ref 38,.type "ValueError",.type "Exception",.type "BaseException",.type "object"],ns:=76,qualname:=Str.ofString "Down" },slots:=#[some (.ref 61),none,some (kS "Down" 244),some (kS "Down" 252),some (.builtin "ValueError.__new__"),some (.bool true)] }) ::
 (nat_lit 95,{ cls:=.type "dict",data:=Data.dict #[kE P "__module__" 274 (kS "fencegate.errors" 194),kE P "__firstlineno__" 278 (.int 17 277),kE P "word" 285 (.ref 93),kE P "__static_attributes__" 286 (.ref 94),kE P "__doc__" 287 (.none)] 2 }) ::
 (nat_lit 96,{ cls:=.type "type",data:=Data.cls { name:=Str.ofString "OldNumber",bases:=[.ref 38],mro:=[.ref 96,.ref 38,.type "ValueError",.type "Exception",.type "BaseException",.type "object"],ns:=95,qualname:=Str.ofString "OldNumber" },slots:=#[some (.ref 80),none,some (kS "OldNumber" 267),some (kS "OldNumber" 275),some (.builtin "ValueError.__new__"),some (.bool true)] }) ::
 (nat_lit 114,{ cls:=.type "dict",data:=Data.dict #[kE P "__module__" 297 (kS "fencegate.errors" 194),kE P "__firstlineno__" 301 (.int 21 300),kE P "word" 308 (.ref 112),kE P "__static_attributes__" 309 (.ref 113),kE P "__doc__" 310 (.none)] 2 }) ::
 (nat_lit 115,{ cls:=.type "type",data:=Data.cls { name:=Str.ofString "InTheWay",bases:=[.ref 38],mro:=[.ref 115,.ref 38,.type "ValueError",.type "Exception",.type "BaseException",.type "object"],ns:=114,qualname:=Str.ofString "InTheWay" },slots:=#[some (.ref 99),none,some (kS "InTheWay" 290),some (kS "InTheWay" 298),some (.builtin "ValueError.__new__"),some (.bool true)] }) ::
 (nat_lit 133,{ cls:=.type "dict",data:=Data.dict #[kE P "__module__" 320 (kS "fencegate.errors" 194),kE P "__firstlineno__" 324 (.int 25 323),kE P "word" 331 (.ref 131),kE P "__static_attributes__" 332 (.ref 132),kE P "__doc__" 333 (.none)] 2 }) ::
 (nat_lit 134,{ cls:=.type "type",data:=Data.cls { name:=Str.ofString "NotFree",bases:=[.ref 38],mro:=[.ref 134,.ref 38,.type "ValueError",.type "Exception",.type "BaseException",.type "object"],ns:=133,qualname:=Str.ofString "NotFree" },slots:=#[some (.ref 118),none,some (kS "NotFree" 313),some (kS "NotFree" 321),some (.builtin "ValueError.__new__"),some (.bool true)] }) ::
 (nat_lit 142,kC #[kS "within" 338,kS "within" 339,kS "/claim/cut.py" 340,.int 30 0,.int 2 0,.int 0 0,.int 0 0,.int 3 0,.ref 137,.bool true,.int 181 0,.ref 138,.none,.ref 139,.ref 140,.ref 141,.int 344 0,.int 30 0,kS "/claim/cut.py" 345]) ::
 (nat_lit 143,kF "within" "within" (ktop 9) (kS "fencegate.paths" 336) 142) ::
 (nat_lit 149,kC #[kS "on_line" 347,kS "on_line" 348,kS "/claim/cut.py" 349,.int 33 0,.int 2 0,.int 0 0,.int 0 0,.int 3 0,.ref 144,.bool true,.int 181 0,.ref 145,.none,.ref 146,.ref 147,.ref 148,.int 352 0,.int 33 0,kS "/claim/cut.py" 353]) ::
 (nat_lit 150,kF "on_line" "on_line" (ktop 10) (kS "fencegate.paths" 336) 149) ::
 (nat_lit 156,kC #[kS "in_way" 355,kS "in_way" 356,kS "/claim/cut.py" 357,.int 35 0,.int 4 0,.int 0 0,.int 0 0,.int 3 0,.ref 151,.bool true,.int 181 0,.ref 152,.none,.ref 153,.ref 154,.ref 155,.int 362 0,.int 35 0,kS "/claim/cut.py" 363]) ::
 (nat_lit 157,kF "in_way" "in_way" (ktop 11) (kS "fencegate.paths" 336) 156) ::
 (nat_lit 170,kC #[kS "__init__" 379,kS "Keeper.__init__" 380,kS "/claim/cut.py" 381,.int 40 0,.int 1 0,.int 0 0,.int 0 0,.int 3 0,.ref 165,.bool true,.int 181 0,.ref 166,.none,.ref 167,.ref 168,.ref 169,.int 383 0,.int 40 0,kS "/claim/cut.py" 384]) ::
 (nat_lit 171,kF "__init__" "Keeper.__init__" (kcls (ktop 13) 0) (kS "fencegate.keeper" 365) 170) ::
 (nat_lit 177,kC #[kS "fall" 386,kS "Keeper.fall" 387,kS "/claim/cut.py" 388,.int 45 0,.int 1 0,.int 0 0,.int 0 0,.int 3 0,.ref 172,.bool true,.int 181 0,.ref 173,.none,.ref 174,.ref 175,.ref 176,.int 390 0,.int 45 0,kS "/claim/cut.py" 391]) ::
 (nat_lit 178,kF "fall" "Keeper.fall" (kcls (ktop 13) 1) (kS "fencegate.keeper" 365) 177) ::
 (nat_lit 184,kC #[kS "rise" 393,kS "Keeper.rise" 394,kS "/claim/cut.py" 395,.int 48 0,.int 1 0,.int 0 0,.int 0 0,.int 3 0,.ref 179,.bool true,.int 181 0,.ref 180,.none,.ref 181,.ref 182,.ref 183,.int 397 0,.int 48 0,kS "/claim/cut.py" 398]) ::
 (nat_lit 185,kF "rise" "Keeper.rise" (kcls (ktop 13) 2) (kS "fencegate.keeper" 365) 184) ::
 (nat_lit 189,kC #[kS "live" 400,kS "Keeper.live" 401,kS "/claim/cut.py" 402,.int 51 0,.int 2 0,.int 0 0,.int 0 0,.int 3 0,.ref 186,.bool true,.int 181 0,.ref 187,.none,.none,.none,.ref 188,.int 403 0,.int 51 0,kS "/claim/cut.py" 404]) ::
 (nat_lit 190,kF "live" "Keeper.live" (kcls (ktop 13) 3) (kS "fencegate.keeper" 365) 189) ::
 (nat_lit 194,kC #[kS "names_in_way" 406,kS "Keeper.names_in_way" 407,kS "/claim/cut.py" 408,.int 54 0,.int 5 0,.int 0 0,.int 0 0,.int 3 0,.ref 191,.bool true,.int 181 0,.ref 192,.none,.none,.none,.ref 193,.int 409 0,.int 54 0,kS "/claim/cut.py" 410]) ::
 (nat_lit 195,kF "names_in_way" "Keeper.names_in_way" (kcls (ktop 13) 4) (kS "fencegate.keeper" 365) 194) ::
 (nat_lit 201,kC #[kS "says_free" 412,kS "Keeper.says_free" 413,kS "/claim/cut.py" 414,.int 58 0,.int 5 0,.int 0 0,.int 0 0,.int 3 0,.ref 196,.bool true,.int 181 0,.ref 197,.none,.ref 198,.ref 199,.ref 200,.int 420 0,.int 58 0,kS "/claim/cut.py" 421]) ::
 (nat_lit 202,kF "says_free" "Keeper.says_free" (kcls (ktop 13) 5) (kS "fencegate.keeper" 365) 201) ::
 (nat_lit 206,kC #[kS "take" 423,kS "Keeper.take" 424,kS "/claim/cut.py" 425,.int 61 0,.int 7 0,.int 0 0,.int 0 0,.int 3 0,.ref 203,.bool true,.int 181 0,.ref 204,.none,.none,.none,.ref 205,.int 426 0,.int 61 0,kS "/claim/cut.py" 427]) ::
 (nat_lit 207,kF "take" "Keeper.take" (kcls (ktop 13) 6) (kS "fencegate.keeper" 365) 206) ::
 (nat_lit 211,kC #[kS "drop" 429,kS "Keeper.drop" 430,kS "/claim/cut.py" 431,.int 72 0,.int 3 0,.int 0 0,.int 0 0,.int 3 0,.ref 208,.bool true,.int 181 0,.ref 209,.none,.none,.none,.ref 210,.int 432 0,.int 72 0,kS "/claim/cut.py" 433]) ::
 (nat_lit 212,kF "drop" "Keeper.drop" (kcls (ktop 13) 7) (kS "fencegate.keeper" 365) 211) ::
 (nat_lit 214,{ cls:=.type "dict",data:=Data.dict #[kE P "__module__" 374 (kS "fencegate.keeper" 365),kE P "__firstlineno__" 378 (.int 38 377),kE P "__init__" 385 (.ref 171),kE P "fall" 392 (.ref 178),kE P "rise" 399 (.ref 185),kE P "live" 405 (.ref 190),kE P "names_in_way" 411 (.ref 195),kE P "says_free" 422 (.ref 202),kE P "take" 428 (.ref 207),kE P "drop" 434 (.ref 212),kE P "__static_attributes__" 438 (.ref 213),kE P "__dict__" 440 (.ref 216),kE P "__weakref__" 442 (.ref 217),kE P "__doc__" 443 (.none)] 4 }) ::
 (nat_lit 215,{ cls:=.type "type",data:=Data.cls { name:=Str.ofString "Keeper",bases:=[.type "object"],mro:=[.ref 215,.type "object"],ns:=214,qualname:=Str.ofString "Keeper" },slots:=#[none,none,some (kS "Keeper" 367),some (kS "Keeper" 375),some (.builtin "object.__new__"),some (.bool true)] }) ::
 (nat_lit 216,{ cls:=.type "getset_descriptor",data:=Data.fields #[kS "__dict__" 439,.ref 215,.builtin "function.__dict__",.builtin "function.__dict__#set"] }) ::
 (nat_lit 217,{ cls:=.type "getset_descriptor",data:=Data.fields #[kS "__weakref__" 441,.ref 215,.builtin "ExceptionGroup.__weakref__",.none] }) ::
 (nat_lit 230,kC #[kS "__init__" 460,kS "Council.__init__" 461,kS "/claim/cut.py" 462,.int 80 0,.int 2 0,.int 0 0,.int 0 0,.int 3 0,.ref 227,.bool true,.int 181 0,.ref 228,.none,.none,.none,.ref 229,.int 463 0,.int 80 0,kS "/claim/cut.py" 464]) ::
 (nat_lit 231,kF "__init__" "Council.__init__" (kcls (ktop 15) 0) (kS "fencegate.council" 446) 230) ::
 (nat_lit 237,kC #[kS "keeper_at" 466,kS "Council.keeper_at" 467,kS "/claim/cut.py" 468,.int 84 0,.int 2 0,.int 0 0,.int 0 0,.int 3 0,.ref 232,.bool true,.int 181 0,.ref 233,.none,.ref 234,.ref 235,.ref 236,.int 471 0,.int 84 0,kS "/claim/cut.py" 472]) ::
 (nat_lit 238,kF "keeper_at" "Council.keeper_at" (kcls (ktop 15) 1) (kS "fencegate.council" 446) 237) ::
 (nat_lit 242,kC #[kS "up_keepers" 474,kS "Council.up_keepers" 475,kS "/claim/cut.py" 476,.int 89 0,.int 1 0,.int 0 0,.int 0 0,.int 3 0,.ref 239,.bool true,.int 181 0,.ref 240,.none,.none,.none,.ref 241,.int 477 0,.int 89 0,kS "/claim/cut.py" 478]) ::
 (nat_lit 243,kF "up_keepers" "Council.up_keepers" (kcls (ktop 15) 2) (kS "fencegate.council" 446) 242) ::
 (nat_lit 249,kC #[kS "fall" 480,kS "Council.fall" 481,kS "/claim/cut.py" 482,.int 92 0,.int 2 0,.int 0 0,.int 0 0,.int 3 0,.ref 244,.bool true,.int 181 0,.ref 245,.none,.ref 246,.ref 247,.ref 248,.int 487 0,.int 92 0,kS "/claim/cut.py" 488]) ::
 (nat_lit 250,kF "fall" "Council.fall" (kcls (ktop 15) 3) (kS "fencegate.council" 446) 249) ::
 (nat_lit 256,kC #[kS "rise" 490,kS "Council.rise" 491,kS "/claim/cut.py" 492,.int 98 0,.int 2 0,.int 0 0,.int 0 0,.int 3 0,.ref 251,.bool true,.int 181 0,.ref 252,.none,.ref 253,.ref 254,.ref 255,.int 497 0,.int 98 0,kS "/claim/cut.py" 498]) ::
 (nat_lit 257,kF "rise" "Council.rise" (kcls (ktop 15) 4) (kS "fencegate.council" 446) 256) ::
 (nat_lit 268,kC #[kS "notes" 506,kS "Council.notes" 507,kS "/claim/cut.py" 508,.int 107 0,.int 3 0,.int 0 0,.int 0 0,.int 3 0,.ref 263,.bool true,.int 181 0,.ref 264,.none,.ref 265,.ref 266,.ref 267,.int 512 0,.int 107 0,kS "/claim/cut.py" 513]) ::
 (nat_lit 269,kF "notes" "Council.notes" (kcls (ktop 15) 6) (kS "fencegate.council" 446) 268) ::
 (nat_lit 273,kC #[kS "sayers" 515,kS "Council.sayers" 516,kS "/claim/cut.py" 517,.int 110 0,.int 5 0,.int 0 0,.int 0 0,.int 3 0,.ref 270,.bool true,.int 181 0,.ref 271,.none,.none,.none,.ref 272,.int 518 0,.int 110 0,kS "/claim/cut.py" 519]) ::
 (nat_lit 274,kF "sayers" "Council.sayers" (kcls (ktop 15) 7) (kS "fencegate.council" 446) 273) ::
 (nat_lit 278,kC #[kS "give" 521,kS "Council.give" 522,kS "/claim/cut.py" 523,.int 113 0,.int 6 0,.int 0 0,.int 0 0,.int 3 0,.ref 275,.bool true,.int 181 0,.ref 276,.none,.none,.none,.ref 277,.int 524 0,.int 113 0,kS "/claim/cut.py" 525]) ::
 (nat_lit 279,kF "give" "Council.give" (kcls (ktop 15) 8) (kS "fencegate.council" 446) 278) ::
 (nat_lit 285,kC #[kS "drop" 527,kS "Council.drop" 528,kS "/claim/cut.py" 529,.int 122 0,.int 3 0,.int 0 0,.int 0 0,.int 3 0,.ref 280,.bool true,.int 181 0,.ref 281,.none,.ref 282,.ref 283,.ref 284,.int 536 0,.int 122 0,kS "/claim/cut.py" 537]) ::
 (nat_lit 286,kF "drop" "Council.drop" (kcls (ktop 15) 9) (kS "fencegate.council" 446) 285) ::
 (nat_lit 306,kC #[kS "named" 557,kS "Council.named" 558,kS "/claim/cut.py" 559,.int 135 0,.int 5 0,.int 0 0,.int 0 0,.int 3 0,.ref 301,.bool true,.int 181 0,.ref 302,.none,.ref 303,.ref 304,.ref 305,.int 569 0,.int 135 0,kS "/claim/cut.py" 570]) ::
 (nat_lit 307,kF "named" "Council.named" (kcls (ktop 15) 12) (kS "fencegate.council" 446) 306) ::
 (nat_lit 309,{ cls:=.type "dict",data:=Data.dict #[kE P "__module__" 455 (kS "fencegate.council" 446),kE P "__firstlineno__" 459 (.int 78 458),kE P "__init__" 465 (.ref 231),kE P "keeper_at" 473 (.ref 238),kE P "up_keepers" 479 (.ref 243),kE P "fall" 489 (.ref 250),kE P "rise" 499 (.ref 257),kE P "ups" 505 (.ref 262),kE P "notes" 514 (.ref 269),kE P "sayers" 520 (.ref 274),kE P "give" 526 (.ref 279),kE P "drop" 538 (.ref 286),kE P "having" 547 (.ref 293),kE P "free_by" 556 (.ref 300),kE P "named" 571 (.ref 307),kE P "__static_attributes__" 574 (.ref 308),kE P "__dict__" 576 (.ref 311),kE P "__weakref__" 578 (.ref 312),kE P "__doc__" 579 (.none)] 4 }) ::
 (nat_lit 310,{ cls:=.type "type",data:=Data.cls { name:=Str.ofString "Council",bases:=[.type "object"],mro:=[.ref 310,.type "object"],ns:=309,qualname:=Str.ofString "Council" },slots:=#[none,none,some (kS "Council" 448),some (kS "Council" 456),some (.builtin "object.__new__"),some (.bool true)] }) ::
 (nat_lit 311,{ cls:=.type "getset_descriptor",data:=Data.fields #[kS "__dict__" 575,.ref 310,.builtin "function.__dict__",.builtin "function.__dict__#set"] }) ::
 (nat_lit 312,{ cls:=.type "getset_descriptor",data:=Data.fields #[kS "__weakref__" 577,.ref 310,.builtin "ExceptionGroup.__weakref__",.none] }) ::
 (nat_lit 320,kC #[kS "_law_at" 584,kS "_law_at" 585,kS "/claim/cut.py" 586,.int 142 0,.int 2 0,.int 0 0,.int 0 0,.int 3 0,.ref 315,.bool true,.int 181 0,.ref 316,.none,.ref 317,.ref 318,.ref 319,.int 589 0,.int 142 0,kS "/claim/cut.py" 590]) ::
 (nat_lit 321,kF "_law_at" "_law_at" (ktop 17) (kS "law_fencegate_k15_council_named" 582) 320) ::
 (nat_lit 325,kC #[kS "_law_same" 592,kS "_law_same" 593,kS "/claim/cut.py" 594,.int 146 0,.int 2 0,.int 0 0,.int 0 0,.int 3 0,.ref 322,.bool true,.int 181 0,.ref 323,.none,.none,.none,.ref 324,.int 595 0,.int 146 0,kS "/claim/cut.py" 596]) ::
 (nat_lit 326,kF "_law_same" "_law_same" (ktop 18) (kS "law_fencegate_k15_council_named" 582) 325) ::
 (nat_lit 332,kC #[kS "_law_name" 598,kS "_law_name" 599,kS "/claim/cut.py" 600,.int 156 0,.int 2 0,.int 0 0,.int 0 0,.int 3 0,.ref 327,.bool true,.int 181 0,.ref 328,.none,.ref 329,.ref 330,.ref 331,.int 610 0,.int 156 0,kS "/claim/cut.py" 611]) ::
 (nat_lit 333,kF "_law_name" "_law_name" (ktop 19) (kS "law_fencegate_k15_council_named" 582) 332) ::
 (nat_lit 337,kC #[kS "_law_names" 613,kS "_law_names" 614,kS "/claim/cut.py" 615,.int 174 0,.int 2 0,.int 0 0,.int 0 0,.int 3 0,.ref 334,.bool true,.int 181 0,.ref 335,.none,.none,.none,.ref 336,.int 616 0,.int 174 0,kS "/claim/cut.py" 617]) ::
 (nat_lit 338,kF "_law_names" "_law_names" (ktop 20) (kS "law_fencegate_k15_council_named" 582) 337) ::
 (nat_lit 344,kC #[kS "_law_locks" 619,kS "_law_locks" 620,kS "/claim/cut.py" 621,.int 176 0,.int 3 0,.int 0 0,.int 0 0,.int 3 0,.ref 339,.bool true,.int 181 0,.ref 340,.none,.ref 341,.ref 342,.ref 343,.int 630 0,.int 176 0,kS "/claim/cut.py" 631]) ::
 (nat_lit 345,kF "_law_locks" "_law_locks" (ktop 21) (kS "law_fencegate_k15_council_named" 582) 344) ::
 (nat_lit 351,kC #[kS "_law_some" 633,kS "_law_some" 634,kS "/claim/cut.py" 635,.int 195 0,.int 2 0,.int 0 0,.int 0 0,.int 3 0,.ref 346,.bool true,.int 181 0,.ref 347,.none,.ref 348,.ref 349,.ref 350,.int 641 0,.int 195 0,kS "/claim/cut.py" 642]) ::
 (nat_lit 352,kF "_law_some" "_law_some" (ktop 22) (kS "law_fencegate_k15_council_named" 582) 351) ::
 (nat_lit 358,kC #[kS "_law_setup" 644,kS "_law_setup" 645,kS "/claim/cut.py" 646,.int 203 0,.int 1 0,.int 0 0,.int 0 0,.int 3 0,.ref 353,.bool true,.int 181 0,.ref 354,.none,.ref 355,.ref 356,.ref 357,.int 653 0,.int 203 0,kS "/claim/cut.py" 654]) ::
 (nat_lit 359,kF "_law_setup" "_law_setup" (ktop 23) (kS "law_fencegate_k15_council_named" 582) 358) ::
 (nat_lit 365,kC #[kS "_law_asked" 656,kS "_law_asked" 657,kS "/claim/cut.py" 658,.int 210 0,.int 3 0,.int 0 0,.int 0 0,.int 3 0,.ref 360,.bool true,.int 181 0,.ref 361,.none,.ref 362,.ref 363,.ref 364,.int 665 0,.int 210 0,kS "/claim/cut.py" 666]) ::
 (nat_lit 366,kF "_law_asked" "_law_asked" (ktop 24) (kS "law_fencegate_k15_council_named" 582) 365) ::
 (nat_lit 372,kC #[kS "_law_line" 668,kS "_law_line" 669,kS "/claim/cut.py" 670,.int 218 0,.int 2 0,.int 0 0,.int 0 0,.int 3 0,.ref 367,.bool true,.int 181 0,.ref 368,.none,.ref 369,.ref 370,.ref 371,.int 676 0,.int 218 0,kS "/claim/cut.py" 677]) ::
 (nat_lit 373,kF "_law_line" "_law_line" (ktop 25) (kS "law_fencegate_k15_council_named" 582) 372) ::
 (nat_lit 379,kC #[kS "_law_way" 679,kS "_law_way" 680,kS "/claim/cut.py" 681,.int 223 0,.int 4 0,.int 0 0,.int 0 0,.int 3 0,.ref 374,.bool true,.int 181 0,.ref 375,.none,.ref 376,.ref 377,.ref 378,.int 686 0,.int 223 0,kS "/claim/cut.py" 687]) ::
 (nat_lit 380,kF "_law_way" "_law_way" (ktop 26) (kS "law_fencegate_k15_council_named" 582) 379) ::
 (nat_lit 386,kC #[kS "_law_new" 689,kS "_law_new" 690,kS "/claim/cut.py" 691,.int 225 0,.int 1 0,.int 0 0,.int 0 0,.int 3 0,.ref 381,.bool true,.int 181 0,.ref 382,.none,.ref 383,.ref 384,.ref 385,.int 693 0,.int 225 0,kS "/claim/cut.py" 694]) ::
 (nat_lit 387,kF "_law_new" "_law_new" (ktop 27) (kS "law_fencegate_k15_council_named" 582) 386) ::
 (nat_lit 393,kC #[kS "_law_naming" 696,kS "_law_naming" 697,kS "/claim/cut.py" 698,.int 227 0,.int 3 0,.int 0 0,.int 0 0,.int 3 0,.ref 388,.bool true,.int 181 0,.ref 389,.none,.ref 390,.ref 391,.ref 392,.int 704 0,.int 227 0,kS "/claim/cut.py" 705]) ::
 (nat_lit 394,kF "_law_naming" "_law_naming" (ktop 28) (kS "law_fencegate_k15_council_named" 582) 393) ::
 (nat_lit 398,kC #[kS "_law_ups" 707,kS "_law_ups" 708,kS "/claim/cut.py" 709,.int 234 0,.int 1 0,.int 0 0,.int 0 0,.int 3 0,.ref 395,.bool true,.int 181 0,.ref 396,.none,.none,.none,.ref 397,.int 710 0,.int 234 0,kS "/claim/cut.py" 711]) ::
 (nat_lit 399,kF "_law_ups" "_law_ups" (ktop 29) (kS "law_fencegate_k15_council_named" 582) 398) ::
 (nat_lit 403,kC #[kS "_law_sayers" 713,kS "_law_sayers" 714,kS "/claim/cut.py" 715,.int 236 0,.int 2 0,.int 0 0,.int 0 0,.int 3 0,.ref 400,.bool true,.int 181 0,.ref 401,.none,.none,.none,.ref 402,.int 716 0,.int 236 0,kS "/claim/cut.py" 717]) ::
 (nat_lit 404,kF "_law_sayers" "_law_sayers" (ktop 30) (kS "law_fencegate_k15_council_named" 582) 403) ::
 (nat_lit 410,kC #[kS "_law_free" 719,kS "_law_free" 720,kS "/claim/cut.py" 721,.int 238 0,.int 2 0,.int 0 0,.int 0 0,.int 3 0,.ref 405,.bool true,.int 181 0,.ref 406,.none,.ref 407,.ref 408,.ref 409,.int 724 0,.int 238 0,kS "/claim/cut.py" 725]) ::
 (nat_lit 411,kF "_law_free" "_law_free" (ktop 31) (kS "law_fencegate_k15_council_named" 582) 410) ::
 (nat_lit 415,kC #[kS "_law_give" 727,kS "_law_give" 728,kS "/claim/cut.py" 729,.int 240 0,.int 2 0,.int 0 0,.int 0 0,.int 3 0,.ref 412,.bool true,.int 181 0,.ref 413,.none,.none,.none,.ref 414,.int 730 0,.int 240 0,kS "/claim/cut.py" 731]) ::
 (nat_lit 416,kF "_law_give" "_law_give" (ktop 32) (kS "law_fencegate_k15_council_named" 582) 415) ::
 (nat_lit 422,kC #[kS "_law_dropped" 733,kS "_law_dropped" 734,kS "/claim/cut.py" 735,.int 257 0,.int 2 0,.int 0 0,.int 0 0,.int 3 0,.ref 417,.bool true,.int 181 0,.ref 418,.none,.ref 419,.ref 420,.ref 421,.int 741 0,.int 257 0,kS "/claim/cut.py" 742]) ::
 (nat_lit 423,kF "_law_dropped" "_law_dropped" (ktop 33) (kS "law_fencegate_k15_council_named" 582) 422) ::
 (nat_lit 429,kC #[kS "_law_given" 744,kS "_law_given" 745,kS "/claim/cut.py" 746,.int 267 0,.int 3 0,.int 0 0,.int 0 0,.int 3 0,.ref 424,.bool true,.int 181 0,.ref 425,.none,.ref 426,.ref 427,.ref 428,.int 751 0,.int 267 0,kS "/claim/cut.py" 752]) ::
 (nat_lit 430,kF "_law_given" "_law_given" (ktop 34) (kS "law_fencegate_k15_council_named" 582) 429) ::
 (nat_lit 436,kC #[kS "_law_council_deed" 754,kS "_law_council_deed" 755,kS "/claim/cut.py" 756,.int 273 0,.int 4 0,.int 0 0,.int 0 0,.int 3 0,.ref 431,.bool true,.int 181 0,.ref 432,.none,.ref 433,.ref 434,.ref 435,.int 770 0,.int 273 0,kS "/claim/cut.py" 771]) ::
 (nat_lit 437,kF "_law_council_deed" "_law_council_deed" (ktop 35) (kS "law_fencegate_k15_council_named" 582) 436) ::
 (nat_lit 443,kC #[kS "_law_named" 773,kS "_law_named" 774,kS "/claim/cut.py" 775,.int 297 0,.int 2 0,.int 0 0,.int 0 0,.int 3 0,.ref 438,.bool true,.int 181 0,.ref 439,.none,.ref 440,.ref 441,.ref 442,.int 782 0,.int 297 0,kS "/claim/cut.py" 783]) ::
 (nat_lit 444,kF "_law_named" "_law_named" (ktop 36) (kS "law_fencegate_k15_council_named" 582) 443) ::
 (nat_lit 450,kC #[kS "law" 785,kS "law" 786,kS "/claim/cut.py" 787,.int 306 0,.int 1 0,.int 0 0,.int 0 0,.int 3 0,.ref 445,.bool true,.int 181 0,.ref 446,.none,.ref 447,.ref 448,.ref 449,.int 797 0,.int 306 0,kS "/claim/cut.py" 798]) ::
 (nat_lit 451,kF "law" "law" (ktop 37) (kS "law_fencegate_k15_council_named" 582) 450) :: []
def ka:List Addr:=2 :: 3 :: 37 :: 38 :: 39 :: 57 :: 58 :: 76 :: 77 :: 95 :: 96 :: 114 :: 115 :: 133 :: 134 :: 142 :: 143 :: 149 :: 150 :: 156 :: 157 :: 170 :: 171 :: 177 :: 178 :: 184 :: 185 :: 189 :: 190 :: 194 :: 195 :: 201 :: 202 :: 206 :: 207 :: 211 :: 212 :: 214 :: 215 :: 216 :: 217 :: 230 :: 231 :: 237 :: 238 :: 242 :: 243 :: 249 :: 250 :: 256 :: 257 :: 268 :: 269 :: 273 :: 274 :: 278 :: 279 :: 285 :: 286 :: 306 :: 307 :: 309 :: 310 :: 311 :: 312 :: 320 :: 321 :: 325 :: 326 :: 332 :: 333 :: 337 :: 338 :: 344 :: 345 :: 351 :: 352 :: 358 :: 359 :: 365 :: 366 :: 372 :: 373 :: 379 :: 380 :: 386 :: 387 :: 393 :: 394 :: 398 :: 399 :: 403 :: 404 :: 410 :: 411 :: 415 :: 416 :: 422 :: 423 :: 429 :: 430 :: 436 :: 437 :: 443 :: 444 :: 450 :: 451 :: []
def vw:Program:={ PySem.Challenge.pw_fencegate_k15_council_named with main:={ PySem.Challenge.pw_fencegate_k15_council_named.main with body:=ktop 0 :: ktop 2 :: ktop 3 :: ktop 4 :: ktop 5 :: ktop 6 :: ktop 7 :: ktop 9 :: ktop 10 :: ktop 11 :: ktop 13 :: ktop 15 :: ktop 17 :: ktop 18 :: ktop 19 :: ktop 20 :: ktop 21 :: ktop 22 :: ktop 23 :: ktop 24 :: ktop 25 :: ktop 26 :: ktop 27 :: ktop 28 :: ktop 29 :: ktop 30 :: ktop 31 :: ktop 32 :: ktop 33 :: ktop 34 :: ktop 35 :: ktop 36 :: ktop 37 :: [] } }
theorem ka_eq (P:Params):ka = (kk P).map (·.1):=by kernel_rfl
def kT (vs:Array Value):Obj:={ cls:=.type "tuple",data:=.seq vs }
noncomputable def hA (P:Params):List Obj:=PySem.W.boot_o_0 P ::
 PySem.W.boot_o_1 P ::
 PySem.W.boot_o_2 P ::
 PySem.W.boot_o_3 P ::
 PySem.W.boot_o_4 P ::
 PySem.W.boot_o_5 P ::
 PySem.W.boot_o_6 P ::
 PySem.W.boot_o_7 P ::
 PySem.W.boot_o_8 P ::
 PySem.W.boot_o_9 P ::
 PySem.W.boot_o_10 P ::
 kT #[] ::
 { cls:=.none,data:=Data.fields #[] } ::
 kC #[kS "<module>" 182,kS "<module>" 183,kS "/claim/cut.py" 184,.int 1 0,.int 0 0,.int 0 0,.int 0 0,.int 0 0,.ref 11,.bool false,.int 181 0,.ref 12,.none,.none,.none,.none,.int 185 0,.int 1 0,kS "/claim/cut.py" 186] ::
 { cls:=.type "frame",slots:=#[some (.ref 13),some (.ref 3),some (.ref 3),none,some (kS "__main__" 164),none,some (.ref 0)] } :: []
noncomputable def hB (P:Params):List Obj:=PySem.W.boot_o_0 P ::
 PySem.W.boot_o_1 P ::
 PySem.W.boot_o_2 P ::
 PySem.W.boot_o_3 P ::
 PySem.W.boot_o_4 P ::
 PySem.W.boot_o_5 P ::
 PySem.W.boot_o_6 P ::
 PySem.W.boot_o_7 P ::
 PySem.W.boot_o_8 P ::
 PySem.W.boot_o_9 P ::
 PySem.W.boot_o_10 P ::
 kT #[] ::
 { cls:=.none,data:=Data.fields #[] } ::
 kC #[kS "<module>" 182,kS "<module>" 183,kS "/claim/cut.py" 184,.int 1 0,.int 0 0,.int 0 0,.int 0 0,.int 0 0,.ref 11,.bool false,.int 181 0,.ref 12,.none,.none,.none,.none,.int 185 0,.int 1 0,kS "/claim/cut.py" 186] ::
 { cls:=.type "frame",slots:=#[some (.ref 13),some (.ref 3),some (.ref 3),none,some (kS "__main__" 164),none,some (.ref 0)] } :: []
noncomputable def kB (w:World) (os:OsState):PySem.W.SharedT:=⟨PySem.W.kIns (hB w.params) 0 .nil,15,{},#[],{},187,os⟩
def kenv:Env:={ scope:=PySem.Challenge.pw_fencegate_k15_council_named.main.scope,locals:=mainNs,globals:=mainNs,cells:=[],code:=Value.ref 13,frame:=some 14 }
noncomputable def kA (w:World) (os:OsState):Shared:=⟨Heap.mk (Array.mk (hA w.params)) {},#[],{},187,os⟩
theorem zjp (w:World) (os:OsState):PySem.W.topGo treeTable PySem.Challenge.rw_fencegate_k15_council_named.row.prog w 11 (some (Value.ref 6)) 12 ⟨PySem.W.boot_heap w.params,#[],PySem.W.boot_drawn,PySem.W.boot_toks,os⟩ (PySem.W.topStub PySem.Challenge.rw_fencegate_k15_council_named.row.prog) = some (kA w os,⟨denote treeTable (.body (PySem.Challenge.pw_fencegate_k15_council_named.main.body ++ []) kenv),(Code.body (PySem.W.behindTheImports PySem.Challenge.pw_fencegate_k15_council_named) kenv),⟨0,0,0,0⟩,[PySem.W.topFrame ⟨0,0,0,0⟩]⟩):=by kernel_rfl
theorem zjq (w:World) (os:OsState):PySem.W.segRun treeTable PySem.Challenge.rw_fencegate_k15_council_named.row.prog w 11 (some (Value.ref 6)) 1 1 (kA w os) (PySem.W.blockOf (PySem.Challenge.pw_fencegate_k15_council_named.main.body ++ []) kenv (Code.body (PySem.W.behindTheImports PySem.Challenge.pw_fencegate_k15_council_named) kenv) ⟨0,0,0,0⟩ [PySem.W.topFrame ⟨0,0,0,0⟩]) = some (.next,(kB w os).abs,(Code.body (PySem.W.behindTheImports PySem.Challenge.pw_fencegate_k15_council_named) kenv),⟨0,0,0,0⟩):=by kernel_rfl
set_option maxHeartbeats 0 in
theorem zkj (w:World) (os:OsState):(PySem.W.Fast.tw10110043849684766642 PySem.W.Fast.tw14364793385576792824 PySem.Challenge.rw_fencegate_k15_council_named.row.prog w 11 (some (Value.ref 6)) 1 3304 (kB w os) (PySem.W.piecesOf PySem.Challenge.pw_fencegate_k15_council_named.main.body kenv (Code.body (PySem.W.behindTheImports PySem.Challenge.pw_fencegate_k15_council_named) kenv) ⟨0,0,0,0⟩ [PySem.W.topFrame ⟨0,0,0,0⟩])).map (fun r=>(r.1,r.2.2.1,r.2.2.2,((PySem.W.Fast.tw14082659384304107361 PySem.W.Fast.tw14364793385576792824 PySem.Challenge.rw_fencegate_k15_council_named.row.prog w 11 (some (Value.ref 6)) 200 r.2.1.abs (PySem.W.restOf [] kenv (Code.body (PySem.W.behindTheImports PySem.Challenge.pw_fencegate_k15_council_named) kenv) ⟨306,0,323,15⟩ [PySem.W.topFrame ⟨0,0,0,0⟩])).bind fun s₁=>match PySem.W.staticsOk (importedModules PySem.Challenge.rw_fencegate_k15_council_named.row.prog.main.body) (PySem.W.boot_heap w.params) s₁.heap && PySem.W.namesBound PySem.Challenge.rw_fencegate_k15_council_named.row.prog s₁.heap && PySem.W.gensDone s₁ && PySem.W.laidKept (PySem.W.boot_heap w.params) s₁.heap with
  | true=>some s₁
  | false=>none).map (fun s=>(seen ((recsOf vw).map (·.name)) (ownsOf vw) [] { s with gens:=#[] },s.heap.bltView,s.heap.keysOk (looseW vw []) ((recsOf vw).map (·.name)) ((litsOf vw).map (·.1)) ((clssOf vw (looseW vw [])).map (·.name)) && s.heap.accountedOkI (importedModules PySem.Challenge.rw_fencegate_k15_council_named.row.prog.main.body) && s.heap.isNs mainGlobals && s.heap.isNs builtinsNs && tablesOk vw s.heap && (PySem.W.xlAt vw [] s && PySem.W.recOk (PySem.W.RowW.records (PySem.W.OpenRow.toRowW PySem.Challenge.rw_fencegate_k15_council_named.row)) s) && (if true then s.gens.size == 0 else !leftWithCleanup s.gens),tabsOk vw s)))) = some (.next,(Code.body (PySem.W.behindTheImports PySem.Challenge.pw_fencegate_k15_council_named) kenv),⟨306,0,323,15⟩,some (expectedOf vw,bltViewBooted,true,true)):=by kernel_rfl
set_option maxHeartbeats 0 in
theorem zkk (w:World) (os:OsState):(PySem.W.Fast.tw10110043849684766642 PySem.W.Fast.tw14364793385576792824 PySem.Challenge.rw_fencegate_k15_council_named.row.prog w 11 (some (Value.ref 6)) 1 3304 (kB w os) (PySem.W.piecesOf PySem.Challenge.pw_fencegate_k15_council_named.main.body kenv (Code.body (PySem.W.behindTheImports PySem.Challenge.pw_fencegate_k15_council_named) kenv) ⟨0,0,0,0⟩ [PySem.W.topFrame ⟨0,0,0,0⟩])).map (fun r=>(r.1,r.2.2.1,r.2.2.2,((PySem.W.Fast.tw14082659384304107361 PySem.W.Fast.tw14364793385576792824 PySem.Challenge.rw_fencegate_k15_council_named.row.prog w 11 (some (Value.ref 6)) 200 r.2.1.abs (PySem.W.restOf [] kenv (Code.body (PySem.W.behindTheImports PySem.Challenge.pw_fencegate_k15_council_named) kenv) ⟨306,0,323,15⟩ [PySem.W.topFrame ⟨0,0,0,0⟩])).bind fun s₁=>match PySem.W.staticsOk (importedModules PySem.Challenge.rw_fencegate_k15_council_named.row.prog.main.body) (PySem.W.boot_heap w.params) s₁.heap && PySem.W.namesBound PySem.Challenge.rw_fencegate_k15_council_named.row.prog s₁.heap && PySem.W.gensDone s₁ && PySem.W.laidKept (PySem.W.boot_heap w.params) s₁.heap with
  | true=>some s₁
  | false=>none).map (fun s=>plainSeenE vw (looseW vw []) s))) = some (.next,(Code.body (PySem.W.behindTheImports PySem.Challenge.pw_fencegate_k15_council_named) kenv),⟨306,0,323,15⟩,some (plainGoodE vw (looseW vw []))):=by kernel_rfl
set_option maxHeartbeats 0 in
theorem zkl (w:World) (os:OsState):(PySem.W.Fast.tw10110043849684766642 PySem.W.Fast.tw14364793385576792824 PySem.Challenge.rw_fencegate_k15_council_named.row.prog w 11 (some (Value.ref 6)) 1 3304 (kB w os) (PySem.W.piecesOf PySem.Challenge.pw_fencegate_k15_council_named.main.body kenv (Code.body (PySem.W.behindTheImports PySem.Challenge.pw_fencegate_k15_council_named) kenv) ⟨0,0,0,0⟩ [PySem.W.topFrame ⟨0,0,0,0⟩])).map (fun r=>(r.1,r.2.2.1,r.2.2.2,((PySem.W.Fast.tw14082659384304107361 PySem.W.Fast.tw14364793385576792824 PySem.Challenge.rw_fencegate_k15_council_named.row.prog w 11 (some (Value.ref 6)) 200 r.2.1.abs (PySem.W.restOf [] kenv (Code.body (PySem.W.behindTheImports PySem.Challenge.pw_fencegate_k15_council_named) kenv) ⟨306,0,323,15⟩ [PySem.W.topFrame ⟨0,0,0,0⟩])).bind fun s₁=>match PySem.W.staticsOk (importedModules PySem.Challenge.rw_fencegate_k15_council_named.row.prog.main.body) (PySem.W.boot_heap w.params) s₁.heap && PySem.W.namesBound PySem.Challenge.rw_fencegate_k15_council_named.row.prog s₁.heap && PySem.W.gensDone s₁ && PySem.W.laidKept (PySem.W.boot_heap w.params) s₁.heap with
  | true=>some s₁
  | false=>none).map (fun s=>(pinSeenD vw (drecsOf vw) s,plainSeenD vw [] s,wideSeen vw s,clsSeenW vw [] s,(PySem.W.kmHook kk ka ka_eq [302]).obs s)))) = some (.next,(Code.body (PySem.W.behindTheImports PySem.Challenge.pw_fencegate_k15_council_named) kenv),⟨306,0,323,15⟩,some (pinGoodD (drecsOf vw),plainGoodD vw [],wideGood vw,clsGoodW vw [],(PySem.W.kmHook kk ka ka_eq [302]).val w)):=by kernel_rfl
theorem zit (w:World):(((PySem.W.boot_heap w.params).isNs mainGlobals && (#[]:Array GenState).size == 0),(PySem.W.boot_heap w.params).objs.size,(PySem.W.boot_heap w.params).nsMap mainGlobals "__annotations__") = (true,11,(some (Value.ref 6))):=by kernel_rfl
theorem left_ok:PySem.W.LeftO PySem.Challenge.rw_fencegate_k15_council_named.row.prog vw [] (fun s=>PySem.W.xlAt vw [] s && PySem.W.recOk (PySem.W.RowW.records (PySem.W.OpenRow.toRowW PySem.Challenge.rw_fencegate_k15_council_named.row)) s) (PySem.W.kmHook kk ka ka_eq [302]).obs (PySem.W.kmHook kk ka ka_eq [302]).val (12 + (1 + (3304 + 200))) :=
 PySem.W.left_of (PySem.W.boot_open (p:=PySem.Challenge.rw_fencegate_k15_council_named.row.prog) (N:=12 + (1 + (3304 + 200))) (by kernel_rfl) (by decide) (fun s=>by kernel_rfl)) zjp zjq
  (fun w os=>by
   unfold PySem.W.headSeen
   have x:=zdf (zdf (zkj w os) (zkk w os)) (zkl w os)
   rw [← PySem.W.Fast.te10110043849684766642,← PySem.W.Fast.te14082659384304107361,← PySem.W.Fast.te14364793385576792824] at x
   exact zis (fun v=>((v.1.1.1,v.1.1.2.1,v.1.1.2.2.1,v.1.1.2.2.2,v.2.1,v.1.2,v.2.2.1,v.2.2.2.1,v.2.2.2.2.1),v.2.2.2.2.2)) (fun s=>rfl) x) zit
end Fg
end
section
namespace L2
open PySem PySem.Spec PyProof.Rows
abbrev Key:=Sum Int Str
def z74:Key → Value → Bool
 | .inl k,v=>Value.isInt k v
 | .inr x,v=>Value.isStrOf x v
def keyH (w:World):Key → Int
 | .inl k=>hashInt k
 | .inr x=>hashStr w x
theorem z1s:∀ {k:Key} {v:Value},z74 k v = true → (∃ i t,k = Sum.inl i ∧ v = Value.int i t) ∨ (∃ x t,k = Sum.inr x ∧ v = Value.str x t)
 | .inl i,v,h=>by
  obtain ⟨t,e⟩:=Value.isInt_shape (k:=i) (v:=v) h
  exact .inl ⟨i,t,rfl,e⟩
 | .inr x,v,h=>by
  obtain ⟨t,e⟩:=Value.isStrOf_shape (x:=x) (v:=v) h
  exact .inr ⟨x,t,rfl,e⟩
theorem zf5 (i:Int) (t:Tok):z74 (.inl i) (.int i t) = true:=by simp [z74,Value.isInt]
theorem zf6 (x:Str) (t:Tok):z74 (.inr x) (.str x t) = true:=by simp [z74,Value.isStrOf]
theorem zjr (a b:Int):decide ((Sum.inl a:Key) = Sum.inl b) = (a == b):=by
 by_cases e:a = b
 ·subst e; simp
 ·have h:¬ (Sum.inl a:Key) = Sum.inl b:=fun q=>e (Sum.inl.inj q)
  rw [decide_eq_false h]
  exact (beq_eq_false_iff_ne.mpr e).symm
theorem zjs (a b:Str):decide ((Sum.inr a:Key) = Sum.inr b) = decide (a = b):=by
 by_cases e:a = b
 ·subst e; simp
 ·have h:¬ (Sum.inr a:Key) = Sum.inr b:=fun q=>e (Sum.inr.inj q)
  rw [decide_eq_false h,decide_eq_false e]
theorem zjt (a:Int) (b:Str):decide ((Sum.inl a:Key) = Sum.inr b) = false:=decide_eq_false (fun q=>nomatch q)
theorem zju (a:Str) (b:Int):decide ((Sum.inr a:Key) = Sum.inl b) = false:=decide_eq_false (fun q=>nomatch q)
def mixKind (prog:Program) (w:World):PySem.KeyKind prog w Key where
 is:=z74
 hash:=keyH w
 inj:=fun v a b ha hb=>by
  rcases z1s ha with ⟨i,t,rfl,rfl⟩ | ⟨x,t,rfl,rfl⟩
  ·rcases z1s hb with ⟨j,u,rfl,e⟩ | ⟨y,u,rfl,e⟩
   ·injection e with e1 _; rw [e1]
   ·exact nomatch e
  ·rcases z1s hb with ⟨j,u,rfl,e⟩ | ⟨y,u,rfl,e⟩
   ·exact nomatch e
   ·injection e with e1 _; rw [e1]
 byValue:=fun k v h=>by
  rcases z1s h with ⟨i,t,rfl,rfl⟩ | ⟨x,t,rfl,rfl⟩ <;> rfl
 pyHash:=fun hv h=>by
  rcases z1s hv with ⟨i,t,rfl,rfl⟩ | ⟨x,t,rfl,rfl⟩
  ·exact wpAny_pyHash_int h
  ·exact wpAny_pyHash_str h
 eqBool:=fun hu hv h=>by
  rcases z1s hu with ⟨i,t,rfl,rfl⟩ | ⟨x,t,rfl,rfl⟩
  ·rcases z1s hv with ⟨j,u,rfl,rfl⟩ | ⟨y,u,rfl,rfl⟩
   ·rw [zjr] at h; exact wpAny_eqBool_int h
   ·rw [zjt] at h; exact SeqAt.EqAt.int_str i t y u _ _ _ _ h
  ·rcases z1s hv with ⟨j,u,rfl,rfl⟩ | ⟨y,u,rfl,rfl⟩
   ·rw [zju] at h; exact SeqAt.EqAt.str_int x t j u _ _ _ _ h
   ·rw [zjs] at h; exact wpAny_eqBool_str h
 «strs» := fun k x t v h=>by
  rcases z1s h with ⟨i,u,rfl,e⟩ | ⟨y,u,rfl,e⟩
  ·exact nomatch e
  ·injection e with e1 _
   subst e1
   cases v <;> rfl
theorem zcu (prog:Program) (w:World) (i:Int) (t:Tok):(mixKind prog w).is (.inl i) (.int i t) = true:=zf5 i t
theorem zcv (prog:Program) (w:World) (x:Str) (t:Tok):(mixKind prog w).is (.inr x) (.str x t) = true:=zf6 x t
end L2
namespace L2
open PySem PySem.Spec PyProof.Rows
inductive V where
 | non | bl (b:Bool) | int (i:Int) | str (x:Str) | byt (b:Array UInt8) | flt (b:UInt64) | ref (a:Addr) | ty (n:String)
 deriving DecidableEq
def RelV:V → Value → Prop
 | .non,u=>u = Value.none
 | .bl b,u=>u = Value.bool b
 | .int i,u=>∃ t,u = Value.int i t
 | .str x,u=>∃ t,u = Value.str x t
 | .byt b,u=>∃ t,u = Value.bytes b t
 | .flt b,u=>∃ t,u = Value.float b t
 | .ref a,u=>u = Value.ref a
 | .ty n,u=>u = Value.type n
abbrev Vals:List V → List Value → Prop:=Paired RelV
theorem Vals.length {xs:List V} {us:List Value} (r:Vals xs us):xs.length = us.length:=Paired.length r
theorem Vals.get:∀ {xs:List V} {us:List Value} {i:Nat} {x:V},Vals xs us → xs[i]? = some x → ∃ u,us[i]? = some u ∧ RelV x u
 | _,_,_,_,.nil,e=>by simp at e
 | _,_,0,_,.cons r _,e=>by simp at e; subst e; exact ⟨_,rfl,r⟩
 | _,_,i + 1,x,.cons _ t,e=>by
  obtain ⟨u,h1,h2⟩:=Vals.get (i:=i) (x:=x) t (by simpa using e)
  exact ⟨u,by simpa using h1,h2⟩
theorem Vals.set {x:V} {u:Value} (r:RelV x u):∀ {xs:List V} {us:List Value} (i:Nat),Vals xs us → Vals (xs.set i x) (us.set i u)
 | _,_,_,.nil=>.nil
 | _,_,0,.cons _ t=>.cons r t
 | _,_,i + 1,.cons q t=>.cons q (Vals.set r i t)
theorem Vals.append:∀ {xs ys:List V} {us ws:List Value},Vals xs us → Vals ys ws → Vals (xs ++ ys) (us ++ ws)
 | _,_,_,_,.nil,s=>s
 | _,_,_,_,.cons r t,s=>.cons r (Vals.append t s)
theorem Vals.take:∀ {xs:List V} {us:List Value} (n:Nat),Vals xs us → Vals (xs.take n) (us.take n)
 | _,_,0,_=>.nil
 | _,_,_ + 1,.nil=>.nil
 | _,_,n + 1,.cons r t=>.cons r (Vals.take n t)
theorem Vals.drop:∀ {xs:List V} {us:List Value} (n:Nat),Vals xs us → Vals (xs.drop n) (us.drop n)
 | _,_,0,r=>r
 | _,_,_ + 1,.nil=>.nil
 | _,_,n + 1,.cons _ t=>Vals.drop n t
theorem Vals.none_of:∀ {xs:List V} {us:List Value} {i:Nat},Vals xs us → xs[i]? = none → us[i]? = none:=fun {xs us i} r e=>by
 have h1:=r.length
 have h2:xs.length ≤ i:=List.getElem?_eq_none_iff.mp e
 exact List.getElem?_eq_none_iff.mpr (by omega)
def RelO:Option V → Option Value → Prop
 | some v,some u=>RelV v u
 | none,none=>True
 | _,_=>False
def KV {κ:Type}:List (κ × V) → List (κ × Value) → Prop:=Paired fun (p:κ × V) (q:κ × Value)=>p.1 = q.1 ∧ RelV p.2 q.2
def kV:Key → V
 | .inl i=>.int i
 | .inr x=>.str x
inductive HO where
 | lst (xs:List V)
 | tup (xs:List V)
 | dK (kvs:List (Key × V)) | dT (kvs:List (List Key × V))
 | set (S:Int → Bool) (n:Nat)
 | ins (C dx:Addr) (fs:List (Str × V))
 | own (x:Addr)
 | xd (fs:List (Str × V))
 | met (f x:Addr)
 | rng (lo hi:Int)
 | frz (o:Obj) (u:HO)
 | tbl (ps:Array Value)
 | ext (φ:Heap → Prop)
abbrev Hp:=Addr → Option HO
def upd (H:Hp) (a:Addr) (o:HO):Hp:=fun b=>if b = a then some o else H b
theorem z7 {H:Hp} {a:Addr} {o:HO}:upd H a o a = some o:=by unfold upd; rw [if_pos rfl]
theorem z9 {H:Hp} {a b:Addr} {o:HO} (h:b ≠ a):upd H a o b = H b:=by unfold upd; rw [if_neg h]
theorem zkm {H:Hp} {a b:Addr} {o u:HO} (h:H a = some o) (h':H b = some u) (d:o ≠ u):a ≠ b:=by
 intro e; subst e; rw [h] at h'; exact d (Option.some.inj h')
theorem zc {H:Hp} {a b:Addr} {o:HO} (h:H a = some o) (h':H b = none):a ≠ b:=by
 intro e; subst e; rw [h] at h'; cases h'
section
variable (P:Program) (w:World)
def ObjOk (H:Hp) (h:Heap) (a:Addr):HO → Prop
 | .lst xs=>xs.length ≤ sizeLine ∧ ∃ (its:List Value) (n:Nat),Vals xs its ∧ h.get? a = some { cls:=.type "list",data:=.seq its.toArray n }
 | .tup xs=>xs.length ≤ sizeLine ∧ ∃ its:List Value,Vals xs its ∧ IsTup h a its.toArray
 | .dK kvs=>kvs.length ≤ sizeLine ∧ (a == sysModules) = false ∧ ∃ vs,KV kvs vs ∧ h.DictOf (mixKind P w) a vs
 | .dT kvs=>kvs.length ≤ sizeLine ∧ (a == sysModules) = false ∧ ∃ xs:List (List Key × Addr × Value),
   Paired (fun (p:List Key × V) (q:List Key × Addr × Value)=>p.1 = q.1 ∧ H q.2.1 = some (.tup (p.1.map kV)) ∧ RelV p.2 q.2.2) kvs xs ∧
   ∃ o es ep,h.get? a = some o ∧ o.ExactDict ∧ o.data = .dict es ep ∧ es.toList = xs.map (entryOfKey (tupleKind (mixKind P w))) ∧ (xs.map (·.1)).Nodup
 | .set S n=>h.SetOf (intKind P w) a S n
 | .ins C dx fs=>H dx = some (.own a) ∧ fs.length ≤ 1000 ∧ dx ≠ a ∧ h.get? a = some (PySem.W.instObj C dx) ∧
   ∃ mA,h.Ns1 dx mA ∧ (∀ f,RelO (fs.lookup f) (mA f)) ∧ PySem.Within mA (fs.map (·.1))
 | .own _=>∃ o,h.get? a = some o
 | .xd fs=>∃ mA,h.Ns1 a mA ∧ ∀ f,RelO (fs.lookup f) (mA f)
 | .rng lo hi=>∃ t u v,h.get? a = some { cls:=.type "range",data:=.fields #[.int lo t,.int hi u,.int 1 v] }
 | .frz o u=>h.get? a = some o ∧ ObjOk H h a u
 | .tbl ps=>h.get? a = some { cls:=.none,data:=.fields ps }
 | .met f x=>h.get? a = some (PySem.W.methodObj (.ref f) (.ref x))
 | .ext φ=>φ h ∧ (∃ o,h.get? a = some o) ∧ ∀ h1 h2:Heap,φ h1 → (∀ o,h1.get? a = some o → h2.get? a = some o) → φ h2
def HOk (H:Hp) (h:Heap):Prop:=∀ a o,H a = some o → ObjOk P w H h a o
end
section
variable {P:Program} {w:World} {H H':Hp} {h h':Heap} {a:Addr} {o:HO}
theorem ObjOk.lt (x:ObjOk P w H h a o):a < h.objs.size:=by
 cases o with
 | lst xs=>obtain ⟨_,_,_,_,e⟩:=x; exact Heap.lt_size e
 | tup xs=>obtain ⟨_,_,_,p⟩:=x; exact p.lt
 | dK kvs=>obtain ⟨_,_,_,_,o,_,_,e,_⟩:=x; exact Heap.lt_size e
 | dT kvs=>obtain ⟨_,_,_,_,o,_,_,e,_⟩:=x; exact Heap.lt_size e
 | set S n=>obtain ⟨o,_,_,_,e,_⟩:=x; exact Heap.lt_size e
 | ins C dx fs=>obtain ⟨_,_,_,e,_⟩:=x; exact Heap.lt_size e
 | own y=>obtain ⟨_,e⟩:=x; exact Heap.lt_size e
 | xd fs=>obtain ⟨_,⟨_,_,_,e,_⟩,_⟩:=x; exact Heap.lt_size e
 | rng lo hi=>obtain ⟨_,_,_,e⟩:=x; exact Heap.lt_size e
 | frz ob u=>obtain ⟨e,_⟩:=x; exact Heap.lt_size e
 | tbl ps=>exact Heap.lt_size (show h.get? a = some _ from x)
 | met f y=>exact Heap.lt_size (show h.get? a = some _ from x)
 | ext φ=>obtain ⟨_,⟨_,e⟩,_⟩:=x; exact Heap.lt_size e
theorem Paired.mapP {α β:Type} {F G:α → β → Prop}:∀ {l₁:List α} {l₂:List β},Paired F l₁ l₂ → (∀ a b,F a b → G a b) → Paired G l₁ l₂
 | _,_,.nil,_=>.nil
 | _,_,.cons r t,f=>.cons (f _ _ r) (Paired.mapP t f)
theorem ObjOk.stay (x:ObjOk P w H h a o) (k:∀ b u,(b = a ∨ H b = some (.own a)) → h.get? b = some u → h'.get? b = some u)
  (ho:∀ b,H b = some (.own a) → H' b = some (.own a)) (ht:∀ b xs,H b = some (.tup xs) → H' b = some (.tup xs)):ObjOk P w H' h' a o:=by
 induction o with
 | lst xs=>obtain ⟨z,its,n,r,e⟩:=x; exact ⟨z,its,n,r,k _ _ (.inl rfl) e⟩
 | tup xs=>obtain ⟨z,its,r,ob,e,c⟩:=x; exact ⟨z,its,r,ob,k _ _ (.inl rfl) e,c⟩
 | dK kvs=>obtain ⟨z,y,vs,r,ob,es,ep,e,c⟩:=x; exact ⟨z,y,vs,r,ob,es,ep,k _ _ (.inl rfl) e,c⟩
 | dT kvs =>
  obtain ⟨z,y,xs,r,ob,es,ep,e,c⟩:=x
  exact ⟨z,y,xs,Paired.mapP r fun p q z=>⟨z.1,ht _ _ z.2.1,z.2.2⟩,ob,es,ep,k _ _ (.inl rfl) e,c⟩
 | set S n=>obtain ⟨ob,es,ep,t,e,c⟩:=x; exact ⟨ob,es,ep,t,k _ _ (.inl rfl) e,c⟩
 | ins C dx fs =>
  obtain ⟨d,z,ne,e,mA,⟨od,es,ep,e2,c⟩,r⟩:=x
  exact ⟨ho _ d,z,ne,k _ _ (.inl rfl) e,mA,⟨od,es,ep,k _ _ (.inr d) e2,c⟩,r⟩
 | own y=>obtain ⟨ob,e⟩:=x; exact ⟨ob,k _ _ (.inl rfl) e⟩
 | xd fs=>obtain ⟨mA,⟨od,es,ep,e,c⟩,r⟩:=x; exact ⟨mA,⟨od,es,ep,k _ _ (.inl rfl) e,c⟩,r⟩
 | rng lo hi=>obtain ⟨t,u,v,e⟩:=x; exact ⟨t,u,v,k _ _ (.inl rfl) e⟩
 | frz ob u ih=>obtain ⟨e,q⟩:=x; exact ⟨k _ _ (.inl rfl) e,ih q⟩
 | tbl ps =>
  have e:h.get? a = some { cls:=.none,data:=.fields ps }:=x
  show h'.get? a = some { cls:=.none,data:=.fields ps }
  exact k a _ (.inl rfl) e
 | met f y =>
  have e:h.get? a = some (PySem.W.methodObj (.ref f) (.ref y)):=x
  show h'.get? a = some (PySem.W.methodObj (.ref f) (.ref y))
  exact k a _ (.inl rfl) e
 | ext φ=>obtain ⟨p,⟨o,e⟩,st⟩:=x; exact ⟨st _ _ p fun o q=>k _ _ (.inl rfl) q,⟨o,k _ _ (.inl rfl) e⟩,st⟩
theorem HOk.lt (x:HOk P w H h) (e:H a = some o):a < h.objs.size:=(x a o e).lt
theorem HOk.fresh (x:HOk P w H h) (e:h.objs.size ≤ a):H a = none:=by
 cases q:H a with
 | none=>rfl
 | some u=>exact absurd (Nat.lt_of_lt_of_le (x.lt q) e) (Nat.lt_irrefl _)
theorem HOk.kept (x:HOk P w H h) (k:∀ b u,h.get? b = some u → h'.get? b = some u):HOk P w H h':=fun a o e =>
 (x a o e).stay (fun b u _ q=>k b u q) (fun _ q=>q) fun _ _ q=>q
theorem HOk.laid (x:HOk P w H h) (k:∀ b u,h.get? b = some u → h'.get? b = some u) (hp:h.objs.size ≤ a) (new:ObjOk P w (upd H a o) h' a o):HOk P w (upd H a o) h':=fun b u e=>by
 have hn:=x.fresh hp
 by_cases hb:b = a
 ·subst hb; rw [z7] at e; cases e; exact new
 ·rw [z9 hb] at e
  exact (x b u e).stay (fun c v _ q=>k c v q) (fun c q=>by rw [z9 (zc q hn)]; exact q) fun c xs q=>by rw [z9 (zc q hn)]; exact q
end
def Rd (H:Hp) (a:Addr) (u:HO):Prop:=H a = some u ∨ ∃ o,H a = some (.frz o u)
theorem Rd.of {H:Hp} {a:Addr} {u:HO} (h:H a = some u):Rd H a u:=.inl h
theorem Rd.ok {P:Program} {w:World} {H:Hp} {h:Heap} {a:Addr} {u:HO} (r:Rd H a u) (x:HOk P w H h):ObjOk P w H h a u:=by
 rcases r with r | ⟨o,r⟩
 ·exact x a u r
 ·obtain ⟨_,q⟩:=x a _ r
  exact q
def Mut:Option HO → Prop
 | some (.lst _)=>True
 | some (.dK _)=>True
 | some (.dT _)=>True
 | some (.set _ _)=>True
 | some (.ins _ _ _)=>True
 | some (.ext _)=>True
 | _=>False
section
variable {P:Program} {w:World} {H:Hp} {h h':Heap} {x e:Addr} {o':HO}
theorem HOk.write (ok:HOk P w H h) (mu:Mut (H x)) (he:e = x ∨ H e = some (.own x)) (k:∀ b u,b ≠ e → h.get? b = some u → h'.get? b = some u) (heo:∃ u,h'.get? e = some u)
  (new:ObjOk P w (upd H x o') h' x o'):HOk P w (upd H x o') h':=fun b u q=>by
 have nown:∀ c y,H c = some (.own y) → c ≠ x:=fun c y r z=>by subst z; rw [r] at mu; exact mu
 have ntup:∀ c xs,H c = some (.tup xs) → c ≠ x:=fun c xs r z=>by subst z; rw [r] at mu; exact mu
 by_cases hb:b = x
 ·subst hb; rw [z7] at q; cases q; exact new
 ·rw [z9 hb] at q
  by_cases hbe:b = e
  ·have q':H b = some (.own x):=by
    rcases he with z | z
    ·exact absurd (hbe.trans z) hb
    ·rw [hbe]; exact z
   rw [q] at q'; cases q'
   obtain ⟨v,hv⟩:=heo
   exact ⟨v,by rw [hbe]; exact hv⟩
  ·refine (ok b u q).stay (fun c v hc r=>k c v ?_ r) (fun c r=>by rw [z9 (nown c b r)]; exact r) fun c xs r=>by rw [z9 (ntup c xs r)]; exact r
   rcases hc with rfl | hc
   ·exact hbe
   ·rintro rfl
    rcases he with z | z
    ·exact nown c b hc z
    ·rw [hc] at z; cases z; exact hb rfl
end
structure Un (fs ex:List Addr) (H H':Hp) (h h':Heap):Prop where
 keep:∀ b o,h.get? b = some o → H b = none → b ∉ fs → b ∉ ex → h'.get? b = some o
 slot:∀ b o,h.get? b = some o → H b = none → b ∈ fs → b ∉ ex → ∃ sl,h'.get? b = some { o with slots:=sl }
 free:∀ b o,h.get? b = some o → H b = none → b ∉ ex → H' b = none
 there:∀ b o,h.get? b = some o → b ∉ ex → ∃ o',h'.get? b = some o'
 tups:∀ b xs,H b = some (.tup xs) → H' b = some (.tup xs)
 frzs:∀ b o u,H b = some (.frz o u) → H' b = some (.frz o u)
 tbls:∀ b ps,H b = some (.tbl ps) → ∃ more,H' b = some (.tbl (ps ++ more))
section
variable {fs fs' ex ex':List Addr} {H H1 H2:Hp} {h h1 h2 h':Heap} {a x e:Addr} {o:HO}
theorem Un.any (u:Un fs ex H H1 h h1) {b:Addr} {ob:Obj} (q:h.get? b = some ob) (n:H b = none) (hx:b ∉ ex):∃ sl,h1.get? b = some { ob with slots:=sl }:=by
 by_cases hb:b ∈ fs
 ·exact u.slot b ob q n hb hx
 ·exact ⟨ob.slots,u.keep b ob q n hb hx⟩
theorem Un.trans (a:Un fs ex H H1 h h1) (b:Un fs ex H1 H2 h1 h2):Un fs ex H H2 h h2 where
 keep:=fun c ob q n hc hx=>b.keep c ob (a.keep c ob q n hc hx) (a.free c ob q n hx) hc hx
 slot:=fun c ob q n hc hx=>by
  obtain ⟨sl,e1⟩:=a.slot c ob q n hc hx
  obtain ⟨sl',e2⟩:=b.slot c _ e1 (a.free c ob q n hx) hc hx
  exact ⟨sl',e2⟩
 free:=fun c ob q n hx=>by
  obtain ⟨o',e1⟩:=a.there c ob q hx
  exact b.free c o' e1 (a.free c ob q n hx) hx
 there:=fun c ob q hx=>by
  obtain ⟨o',e1⟩:=a.there c ob q hx
  exact b.there c o' e1 hx
 tups:=fun c xs q=>b.tups c xs (a.tups c xs q)
 frzs:=fun c ob xs q=>b.frzs c ob xs (a.frzs c ob xs q)
 tbls:=fun c ps q=>by
  obtain ⟨m1,e1⟩:=a.tbls c ps q
  obtain ⟨m2,e2⟩:=b.tbls c _ e1
  exact ⟨m1 ++ m2,by rw [e2,Array.append_assoc]⟩
theorem Un.kept (k:∀ b u,h.get? b = some u → h'.get? b = some u):Un fs ex H H h h' :=
 ⟨fun b ob q _ _ _=>k b ob q,fun b ob q _ _ _=>⟨ob.slots,k b ob q⟩,fun _ _ _ n _=>n,fun b ob q _=>⟨ob,k b ob q⟩,fun _ _ q=>q,fun _ _ _ q=>q,fun _ ps q=>⟨#[],by rw [q]; simp⟩⟩
theorem Un.refl:Un fs ex H H h h:=Un.kept fun _ _ q=>q
theorem Un.laid (k:∀ b u,h.get? b = some u → h'.get? b = some u) (hp:h.objs.size ≤ a) (hn:H a = none):Un fs ex H (upd H a o) h h' where
 keep:=fun b u q _ _ _=>k b u q
 slot:=fun b u q _ _ _=>⟨u.slots,k b u q⟩
 free:=fun b u q n _=>by rw [z9 (Nat.ne_of_lt (Nat.lt_of_lt_of_le (Heap.lt_size q) hp))]; exact n
 there:=fun b u q _=>⟨u,k b u q⟩
 tups:=fun b xs q=>by rw [z9 (zc q hn)]; exact q
 frzs:=fun b u xs q=>by rw [z9 (zc q hn)]; exact q
 tbls:=fun b ps q=>⟨#[],by rw [z9 (zc q hn),q]; simp⟩
theorem Un.write (mu:Mut (H x)) (he:e = x ∨ H e = some (.own x)) (k:∀ b u,b ≠ e → h.get? b = some u → h'.get? b = some u) (heo:∃ u,h'.get? e = some u):Un fs ex H (upd H x o) h h':=by
 have hx:∀ b,H b = none → b ≠ x:=fun b n z=>by subst z; rw [n] at mu; exact mu
 have hb:∀ b,H b = none → b ≠ e:=fun b n z=>by
  subst z
  rcases he with r | r
  ·exact hx b n r
  ·rw [n] at r; cases r
 have hm:∀ b u,H b = some u → ¬ Mut (some u) → b ≠ x:=fun b u q nm z=>by subst z; rw [q] at mu; exact nm mu
 refine ⟨fun b u q n _ _=>k b u (hb b n) q,fun b u q n _ _=>⟨u.slots,k b u (hb b n) q⟩,fun b u q n _=>by rw [z9 (hx b n)]; exact n,fun b u q _=>?_,
  fun b xs q=>by rw [z9 (hm b _ q fun z=>z)]; exact q,fun b u xs q=>by rw [z9 (hm b _ q fun z=>z)]; exact q,fun b ps q=>⟨#[],by rw [z9 (hm b _ q fun z=>z),q]; simp⟩⟩
 by_cases hbe:b = e
 ·subst hbe; exact heo
 ·exact ⟨u,k b u hbe q⟩
theorem Un.mono (u:Un fs ex H H1 h h1) (hs:∀ b ∈ fs,b ∈ fs') (hx:∀ b ∈ ex,b ∈ ex'):Un fs' ex' H H1 h h1 :=
 ⟨fun b ob q n hb he=>u.keep b ob q n (fun z=>hb (hs b z)) fun z=>he (hx b z),fun _ _ q n _ he=>u.any q n fun z=>he (hx _ z),fun b ob q n he=>u.free b ob q n fun z=>he (hx b z),fun b ob q he=>u.there b ob q fun z=>he (hx b z),u.tups,u.frzs,u.tbls⟩
end
def trk (h:Heap) (H:Hp):List Addr:=(List.range h.objs.size).filter fun a=>(H a).isSome
def hidT (h:Heap) (H:Hp):Heap:=PySem.W.hideAll h (trk h H)
theorem zf7 (h:Heap) (H:Hp):(hidT h H).objs.size = h.objs.size:=PySem.W.hideAll_size _ _
theorem zhb {h:Heap} {H:Hp} {b:Addr} {o:Obj} (e:h.get? b = some o) (n:H b = none):(hidT h H).get? b = some o :=
 PySem.W.hideAll_get _ e fun hm=>by
  have q:(H b).isSome = true:=(List.mem_filter.mp hm).2
  rw [n] at q; simp at q
theorem ziu {h:Heap} {H:Hp} {b:Addr} {o:Obj} (e:(hidT h H).get? b = some o):h.get? b = some o ∧ H b = none:=by
 have e':h.get? b = some o:=PySem.W.of_hideAll (trk h H) e
 refine ⟨e',?_⟩
 cases q:H b with
 | none=>rfl
 | some x =>
  have hm:b ∈ trk h H:=List.mem_filter.mpr ⟨List.mem_range.mpr (Heap.lt_size e'),by simp [q]⟩
  have z:(hidT h H).get? b = none:=PySem.W.hideAll_none (trk h H) hm
  rw [z] at e; cases e
def ziv (g h:Heap) (L:Addr):List (Addr × Obj):=(List.range h.objs.size).filterMap fun a=>if a = L ∨ (g.get? a).isSome = true then none else (h.get? a).map fun o=>(a,o)
def rest (g h:Heap) (L d:Addr):List (Addr × Obj):=(ziv g h L).filter fun p=>decide (p.1 ≠ d)
end L2
namespace L2
open PySem PySem.Spec PyProof.Rows
structure Mod (K:PySem.W.Frag) (mg:Str → Option Value) (base:Heap):Prop where
 kin:K.In base
 glob:base.Ns mainGlobals mg
 blt:∃ mb,base.Ns builtinsNs mb ∧ ∀ x:Str,x ≠ "__name__" → mb x = bootBuiltins x
 nolimit:base.NoLimit
structure Cx where
 prog:Program
 w:World
 K:PySem.W.Frag
 mg:Str → Option Value
 base:Heap
 A:Around
 N:List Str
 s₀:Shared
 H₀:Hp
 env:Env
 outer:List Env
 stack:List Env
 ex:List Addr
 fn:Str → Bool
 calm:Bool
 pn:List (Addr × Obj)
 xe:Value → Shared → Prop
def frs (l:List Env):List Addr:=l.filterMap (·.frame)
abbrev Cx.fs (X:Cx):List Addr:=frs X.outer
def Vis (sc:Scope) (x:Str):Prop:=sc.names.lookup x = some .local ∨ sc.names.lookup x = some .cell ∨ sc.names.lookup x = some .free
def Loc (sc:Scope) (x:Str):Prop:=sc.names.lookup x = some .local ∨ sc.names.lookup x = some .cell
def Look (env:Env) (h:Heap) (m:Str → Option Value) (x:Str) (u:Value):Prop :=
 (env.kindOf x = some .local ∧ m x = some u) ∨ ((env.kindOf x = some .cell ∨ env.kindOf x = some .free) ∧ ∃ c,env.cells.lookup x = some c ∧ h.IsCell c (some u))
structure Cx.Ok (X:Cx):Prop where
 mod:Mod X.K X.mg X.base
 kind:X.env.scope.kind = .function
 glob:X.env.globals = mainGlobals
 blt:X.env.builtins = builtinsNs
 above:X.s₀.heap.objs.size ≤ X.env.locals
 inj:∀ x y c,X.env.cells.lookup x = some c → X.env.cells.lookup y = some c → x = y
 has:∀ x,(X.env.kindOf x = some .cell ∨ X.env.kindOf x = some .free) → ∃ c,X.env.cells.lookup x = some c
 cab:∀ x c,X.fn x = true → X.env.cells.lookup x = some c → X.s₀.heap.objs.size ≤ c
 hd:X.calm = true → X.A.handled = none
 frames:X.A.frames = some X.stack
 stk:X.stack = X.outer ∨ (X.stack = X.env :: X.outer ∧ X.env.frame = some X.env.locals)
 exf:∀ b ∈ X.ex,b ≠ X.env.locals ∧ ∀ x c,X.env.cells.lookup x = some c → c ≠ b
 bs:∀ b o,X.base.get? b = some o → X.s₀.heap.get? b = some o ∧ X.H₀ b = none
 bsz:X.base.objs.size ≤ X.s₀.heap.objs.size
 noex:∀ b o,X.base.get? b = some o → b ∉ X.ex
 exfs:∀ b ∈ X.ex,b ∉ X.fs
 funs:X.s₀.heap.FunFrames X.base X.outer
 frf:∀ b ∈ X.fs,X.H₀ b = none
structure Inv (X:Cx) (pins:List (Addr × Obj)) (σ:List (Option V)) (H:Hp) (s:Shared):Prop where
 ok:X.Ok
 os:s.os = X.s₀.os
 bare:AllBare s.gens
 base:Un X.fs X.ex X.H₀ H X.s₀.heap s.heap
 loc:∃ m,s.heap.Ns X.env.locals m ∧ ∀ (i:Nat) (x:Str) (v:V),X.N[i]? = some x → σ[i]? = some (some v) → Vis X.env.scope x → ∃ u,RelV v u ∧ Look X.env s.heap m x u
 cell:∀ x c,X.env.cells.lookup x = some c → ∃ v,s.heap.IsCell c v
 free:H X.env.locals = none
 freeC:∀ x c,X.env.cells.lookup x = some c → H c = none
 pin:∀ p ∈ X.pn ++ pins,s.heap.get? p.1 = some p.2 ∧ H p.1 = none ∧ p.1 ≠ X.env.locals ∧ p.1 ∉ X.fs ∧ ∀ v,p.2.data ≠ .cell v
 hok:HOk X.prog X.w H s.heap
 len:σ.length = X.N.length
section
variable {X:Cx} {pins:List (Addr × Obj)} {σ:List (Option V)} {H H':Hp} {s:Shared} {h':Heap}
theorem Cx.Ok.nofr (ok:X.Ok) {b:Addr} {o:Obj} (e:X.base.get? b = some o):b ∉ X.fs:=fun hb=>by
 have:=(ok.funs.mem hb).1
 rw [e] at this; cases this
theorem Inv.bs (I:Inv X pins σ H s):∀ b o,X.base.get? b = some o → s.heap.get? b = some o ∧ H b = none:=fun b o e =>
 ⟨I.base.keep b o (I.ok.bs b o e).1 (I.ok.bs b o e).2 (I.ok.nofr e) (I.ok.noex b o e),I.base.free b o (I.ok.bs b o e).1 (I.ok.bs b o e).2 (I.ok.noex b o e)⟩
theorem Inv.bk (I:Inv X pins σ H s):∀ b o,X.base.get? b = some o → s.heap.get? b = some o:=fun b o e=>(I.bs b o e).1
theorem Inv.mod (I:Inv X pins σ H s):Mod X.K X.mg X.base:=I.ok.mod
theorem Inv.kIn (I:Inv X pins σ H s):X.K.In s.heap:=I.ok.mod.kin.keeps I.bk
theorem Inv.nolimit (I:Inv X pins σ H s):s.heap.NoLimit:=I.ok.mod.nolimit.keeps I.bk
theorem Inv.fr (I:Inv X pins σ H s):∃ m,Fr X.base X.env.locals s.heap m :=
 let ⟨m,hn,_⟩:=I.loc
 ⟨m,hn,I.bk,Nat.le_trans I.ok.bsz I.ok.above⟩
theorem Inv.lt (I:Inv X pins σ H s):X.env.locals < s.heap.objs.size:=let ⟨_,hn,_⟩:=I.loc; hn.lt
theorem Inv.sz (I:Inv X pins σ H s):X.s₀.heap.objs.size ≤ s.heap.objs.size:=Nat.le_trans I.ok.above (Nat.le_of_lt I.lt)
theorem Inv.nofs (I:Inv X pins σ H s) {a:Addr} (h:s.heap.objs.size ≤ a):a ∉ X.fs:=fun hb=>by
 obtain ⟨_,o,ho,_⟩:=I.ok.funs.mem hb
 exact absurd (Nat.lt_of_lt_of_le (Heap.lt_size ho) (Nat.le_trans I.sz h)) (Nat.lt_irrefl _)
theorem Inv.cne (I:Inv X pins σ H s):∀ x c,X.env.cells.lookup x = some c → c ≠ X.env.locals:=fun x c e z=>by
 obtain ⟨v,o,ho,hd⟩:=I.cell x c e
 obtain ⟨m,⟨o',es,ep,ho',hd',_⟩,_⟩:=I.loc
 rw [z,ho'] at ho; cases ho; rw [hd'] at hd; cases hd
theorem Inv.funs (I:Inv X pins σ H s):s.heap.FunFrames X.base X.outer:=by
 have all:∀ (l:List Env),(∀ b ∈ frs l,b ∈ X.fs) → X.s₀.heap.FunFrames X.base l → s.heap.FunFrames X.base l:=by
  intro l
  induction l with
  | nil=>intro _ _; trivial
  | cons env r ih =>
   intro hs hl
   obtain ⟨hk,⟨L,o,hf,hn,ho,hd⟩,hr⟩:=hl
   have hL:L ∈ X.fs:=hs L (by unfold frs; rw [List.filterMap_cons,hf]; exact List.mem_cons_self)
   obtain ⟨sl,e⟩:=I.base.slot L o ho (I.ok.frf L hL) hL fun z=>I.ok.exfs L z hL
   exact ⟨hk,⟨L,_,hf,hn,e,hd⟩,ih (fun b hb=>hs b (by unfold frs; rw [List.filterMap_cons,hf]; exact List.mem_cons_of_mem _ hb)) hr⟩
 exact all X.outer (fun _ hb=>hb) I.ok.funs
theorem Inv.stack (I:Inv X pins σ H s):s.heap.FunFrames X.base X.stack:=by
 rcases I.ok.stk with e | ⟨e,hf⟩
 ·rw [e]; exact I.funs
 ·rw [e]
  obtain ⟨m,hn,_⟩:=I.loc
  refine .cons (by rw [I.ok.kind]; decide) hf hn ?_ I.funs
  exact Heap.get?_none_of_le (Nat.le_trans I.ok.bsz I.ok.above)
theorem Inv.stkSub (I:Inv X pins σ H s):∀ b ∈ frs X.stack,b ∈ X.env.locals :: X.fs:=fun b hb=>by
 rcases I.ok.stk with e | ⟨e,hf⟩
 ·rw [e] at hb; exact List.mem_cons_of_mem _ hb
 ·rw [e] at hb
  unfold frs at hb
  rw [List.filterMap_cons,hf] at hb
  exact hb
theorem Inv.stkFree (I:Inv X pins σ H s):∀ b ∈ frs X.stack,H b = none:=fun b hb=>by
 rcases List.mem_cons.mp (I.stkSub b hb) with e | hb
 ·rw [e]; exact I.free
 ·obtain ⟨_,o,ho,_⟩:=I.ok.funs.mem hb
  exact I.base.free b o ho (I.ok.frf b hb) fun z=>I.ok.exfs b z hb
theorem Inv.step {g':Array GenState} {t':Nat} {d':Drawn} {ch:List Addr} (I:Inv X pins σ H s)
  (hch:∀ b ∈ ch,(b ∈ X.ex ∨ X.s₀.heap.objs.size ≤ b) ∧ b ≠ X.env.locals ∧ (∀ x c,X.env.cells.lookup x = some c → c ≠ b) ∧ ∀ p ∈ X.pn ++ pins,p.1 ≠ b)
  (keep:∀ b o,b ≠ X.env.locals → b ∉ X.fs → b ∉ ch → s.heap.get? b = some o → H b = none → h'.get? b = some o)
  (slot:∀ b o,b ≠ X.env.locals → b ∈ X.fs → b ∉ ch → s.heap.get? b = some o → H b = none → ∃ sl,h'.get? b = some { o with slots:=sl }) (free:∀ b o,b ∉ ch → s.heap.get? b = some o → H b = none → H' b = none)
  (there:∀ b o,b ∉ ch → s.heap.get? b = some o → ∃ o',h'.get? b = some o')
  (tups:∀ b xs,H b = some (.tup xs) → H' b = some (.tup xs)) (frzs:∀ b o u,H b = some (.frz o u) → H' b = some (.frz o u)) (tbls:∀ b ps,H b = some (.tbl ps) → ∃ more,H' b = some (.tbl (ps ++ more)))
  (ns:∀ m,s.heap.Ns X.env.locals m → h'.Ns X.env.locals m) (hok:HOk X.prog X.w H' h') (hg:AllBare g') :
  Inv X pins σ H' { s with heap:=h',gens:=g',drawn:=d',toks:=t' }:=by
 have neL:∀ b o,X.s₀.heap.get? b = some o → b ≠ X.env.locals:=fun b o e=>Nat.ne_of_lt (Nat.lt_of_lt_of_le (Heap.lt_size e) I.ok.above)
 have neC:∀ b o,X.s₀.heap.get? b = some o → b ∉ X.ex → b ∉ ch:=fun b o e hx hb=>by
  rcases (hch b hb).1 with z | z
  ·exact hx z
  ·exact absurd (Nat.lt_of_lt_of_le (Heap.lt_size e) z) (Nat.lt_irrefl _)
 have cellK:∀ x c,X.env.cells.lookup x = some c → ∀ v,s.heap.IsCell c v → h'.IsCell c v:=fun x c e v ⟨o,ho,hd⟩=>by
  have nch:c ∉ ch:=fun z=>(hch c z).2.2.1 x c e rfl
  by_cases hc:c ∈ X.fs
  ·obtain ⟨sl,q⟩:=slot c o (I.cne x c e) hc nch ho (I.freeC x c e)
   exact ⟨_,q,hd⟩
  ·exact ⟨o,keep c o (I.cne x c e) hc nch ho (I.freeC x c e),hd⟩
 refine ⟨I.ok,I.os,hg,⟨fun b o e n hb hx=>?_,fun b o e n hb hx=>?_,fun b o e n hx=>?_,fun b o e hx=>?_,fun b xs e=>tups b xs (I.base.tups b xs e),fun b o xs e=>frzs b o xs (I.base.frzs b o xs e),fun b ps e=>?_⟩,?_,fun x c e=>?_,?_,fun x c e=>?_,fun p hp=>?_,hok,I.len⟩
 ·exact keep b o (neL b o e) hb (neC b o e hx) (I.base.keep b o e n hb hx) (I.base.free b o e n hx)
 ·obtain ⟨sl,e1⟩:=I.base.slot b o e n hb hx
  obtain ⟨sl',e2⟩:=slot b _ (neL b o e) hb (neC b o e hx) e1 (I.base.free b o e n hx)
  exact ⟨sl',e2⟩
 ·obtain ⟨o',e1⟩:=I.base.there b o e hx
  exact free b o' (neC b o e hx) e1 (I.base.free b o e n hx)
 ·obtain ⟨o',e1⟩:=I.base.there b o e hx
  exact there b o' (neC b o e hx) e1
 ·obtain ⟨m1,e1⟩:=I.base.tbls b ps e
  obtain ⟨m2,e2⟩:=tbls b _ e1
  exact ⟨m1 ++ m2,by rw [e2,Array.append_assoc]⟩
 ·obtain ⟨m,hn,hl⟩:=I.loc
  refine ⟨m,ns m hn,fun i x v e1 e2 e3=>?_⟩
  obtain ⟨u,r,l⟩:=hl i x v e1 e2 e3
  refine ⟨u,r,?_⟩
  rcases l with l | ⟨k,c,e,z⟩
  ·exact .inl l
  ·exact .inr ⟨k,c,e,cellK x c e _ z⟩
 ·obtain ⟨v,z⟩:=I.cell x c e
  exact ⟨v,cellK x c e v z⟩
 ·obtain ⟨m,⟨o,_,_,ho,_⟩,_⟩:=I.loc
  exact free _ o (fun z=>(hch _ z).2.1 rfl) ho I.free
 ·obtain ⟨v,o,ho,hd⟩:=I.cell x c e
  exact free c o (fun z=>(hch c z).2.2.1 x c e rfl) ho (I.freeC x c e)
 ·obtain ⟨e,n,ne,nf,d⟩:=I.pin p hp
  have nch:p.1 ∉ ch:=fun z=>(hch p.1 z).2.2.2 p hp rfl
  exact ⟨keep p.1 p.2 ne nf nch e n,free p.1 p.2 nch e n,ne,nf,d⟩
theorem Inv.un {t':Nat} (I:Inv X pins σ H s) (u:Un X.fs [] H H' s.heap h') (hok:HOk X.prog X.w H' h'):Inv X pins σ H' { s with heap:=h',toks:=t' }:=by
 obtain ⟨m,⟨o,es,ep,ho,r⟩,_⟩:=id I.loc
 obtain ⟨sl,hL⟩:=u.any ho I.free (by simp)
 exact I.step (g':=s.gens) (d':=s.drawn) (ch:=[]) (fun _ z=>nomatch z) (fun b o _ hb _ e n=>u.keep b o e n hb (by simp)) (fun b o _ hb _ e n=>u.slot b o e n hb (by simp)) (fun b o _ e n=>u.free b o e n (by simp)) (fun b o _ e=>u.there b o e (by simp)) u.tups u.frzs u.tbls (fun m' hm=>by
  obtain ⟨o',es',ep',ho',r'⟩:=hm
  rw [ho] at ho'; cases ho'
  exact ⟨_,es',ep',hL,r'⟩) hok I.bare
theorem Inv.call {g':Array GenState} {t':Nat} {d':Drawn} {ch:List Addr} (I:Inv X pins σ H s) (u:Un (frs X.stack) ch H H' s.heap h') (hok:HOk X.prog X.w H' h') (hg:AllBare g')
  (hch:∀ b ∈ ch,(b ∈ X.ex ∨ X.s₀.heap.objs.size ≤ b) ∧ b ≠ X.env.locals ∧ (∀ x c,X.env.cells.lookup x = some c → c ≠ b) ∧ ∀ p ∈ X.pn ++ pins,p.1 ≠ b) :
  Inv X pins σ H' { s with heap:=h',gens:=g',drawn:=d',toks:=t' }:=by
 obtain ⟨m,⟨o,es,ep,ho,r⟩,_⟩:=id I.loc
 obtain ⟨sl,hL⟩:=u.any ho I.free fun z=>(hch _ z).2.1 rfl
 exact I.step (ch:=ch) hch (fun b o hL hb hc e n=>u.keep b o e n (fun z=>(List.mem_cons.mp (I.stkSub b z)).elim hL hb) hc) (fun b o _ _ hc e n=>u.any e n hc) (fun b o hc e n=>u.free b o e n hc) (fun b o hc e=>u.there b o e hc) u.tups u.frzs u.tbls (fun m' hm=>by
  obtain ⟨o',es',ep',ho',r'⟩:=hm
  rw [ho] at ho'; cases ho'
  exact ⟨_,es',ep',hL,r'⟩) hok hg
theorem Inv.turned {t':Nat} {it:Addr} (I:Inv X pins σ H s) (k:∀ b o,b ≠ it → s.heap.get? b = some o → h'.get? b = some o) (hn:H it = none) (hL:it ≠ X.env.locals)
  (h1:it ∈ X.ex ∨ X.s₀.heap.objs.size ≤ it) (h2:∀ x c,X.env.cells.lookup x = some c → c ≠ it) (h3:∀ p ∈ X.pn ++ pins,p.1 ≠ it):Inv X pins σ H { s with heap:=h',toks:=t' }:=by
 have nit:∀ b u,H b = some u → b ≠ it:=fun b u e z=>by rw [z,hn] at e; cases e
 refine I.step (g':=s.gens) (d':=s.drawn) (ch:=[it]) (fun b hb=>?_) (fun b o _ _ hc e _=>k b o (fun z=>hc (by simp [z])) e) (fun b o _ _ hc e _=>⟨o.slots,k b o (fun z=>hc (by simp [z])) e⟩) (fun _ _ _ _ n=>n)
  (fun b o hc e=>⟨o,k b o (fun z=>hc (by simp [z])) e⟩) (fun _ _ e=>e) (fun _ _ _ e=>e) (fun b ps e=>⟨#[],by rw [e]; simp⟩) (fun m hm=>?_) (fun b u e=>?_) I.bare
 ·have e:b = it:=by simpa using hb
  subst e
  exact ⟨h1,hL,h2,h3⟩
 ·obtain ⟨o,es,ep,ho,r⟩:=hm
  exact ⟨o,es,ep,k _ o (Ne.symm hL) ho,r⟩
 ·refine (I.hok b u e).stay (fun c v hc q=>k c v ?_ q) (fun _ q=>q) fun _ _ q=>q
  rcases hc with z | z
  ·rw [z]; exact nit b u e
  ·exact nit c _ z
theorem Inv.tok (I:Inv X pins σ H s) (t:Nat):Inv X pins σ H { s with toks:=t }:=I.un (h':=s.heap) (t':=t) Un.refl I.hok
theorem Inv.kept {t':Nat} (I:Inv X pins σ H s) (k:∀ b u,s.heap.get? b = some u → h'.get? b = some u):Inv X pins σ H { s with heap:=h',toks:=t' }:=I.un (Un.kept k) (I.hok.kept k)
theorem Inv.laid {a:Addr} {o:HO} {t':Nat} (I:Inv X pins σ H s) (k:∀ b u,s.heap.get? b = some u → h'.get? b = some u) (hp:s.heap.objs.size ≤ a) (new:ObjOk X.prog X.w (upd H a o) h' a o) :
  Inv X pins σ (upd H a o) { s with heap:=h',toks:=t' }:=I.un (Un.laid k hp (I.hok.fresh hp)) (I.hok.laid k hp new)
theorem Inv.write {x e:Addr} {o:HO} {t':Nat} (I:Inv X pins σ H s) (mu:Mut (H x)) (he:e = x ∨ H e = some (.own x)) (k:∀ b u,b ≠ e → s.heap.get? b = some u → h'.get? b = some u) (heo:∃ u,h'.get? e = some u)
  (new:ObjOk X.prog X.w (upd H x o) h' x o):Inv X pins σ (upd H x o) { s with heap:=h',toks:=t' }:=I.un (Un.write mu he k heo) (I.hok.write mu he k heo new)
theorem Inv.weak {σ':List (Option V)} (I:Inv X pins σ H s) (hl:σ'.length = σ.length) (w:∀ (i:Nat) v,σ'[i]? = some (some v) → σ[i]? = some (some v)):Inv X pins σ' H s :=
 ⟨I.ok,I.os,I.bare,I.base,let ⟨m,hn,hl'⟩:=I.loc; ⟨m,hn,fun i x v e1 e2 e3=>hl' i x v e1 (w i v e2) e3⟩,I.cell,I.free,I.freeC,I.pin,I.hok,hl.trans I.len⟩
theorem Inv.pins_of {pins':List (Addr × Obj)} (I:Inv X pins σ H s) (h:∀ p ∈ pins',s.heap.get? p.1 = some p.2 ∧ H p.1 = none ∧ p.1 ≠ X.env.locals ∧ p.1 ∉ X.fs ∧ ∀ v,p.2.data ≠ .cell v):Inv X pins' σ H s :=
 ⟨I.ok,I.os,I.bare,I.base,I.loc,I.cell,I.free,I.freeC,fun p hp=>(List.mem_append.mp hp).elim (fun z=>I.pin p (List.mem_append_left _ z)) (h p),I.hok,I.len⟩
theorem zbm {N:List Str} (hN:N.Nodup) {i j:Nat} {x:Str} (a:N[i]? = some x) (b:N[j]? = some x):i = j:=by
 obtain ⟨h1,e1⟩:=List.getElem?_eq_some_iff.mp a
 obtain ⟨h2,e2⟩:=List.getElem?_eq_some_iff.mp b
 exact (List.getElem_inj hN).mp (e1.trans e2.symm)
theorem zae {M:Model} {A:Around} {E:Value → Shared → Prop} {i:Nat} {x:Str} {v:V} {u:Value} {Q:Unit → Shared → Prop} (I:Inv X pins σ H s) (hN:X.N.Nodup) (hi:X.N[i]? = some x) (hx:Loc X.env.scope x) (r:RelV v u)
  (h:∀ s',Inv X pins (σ.set i (some v)) H s' → (∃ a,Heap.SameBut a s.heap s'.heap ∧ (a = X.env.locals ∨ X.env.cells.lookup x = some a)) → Q () s') (hf:X.fn x = true ∨ X.env.scope.names.lookup x = some .local:=by first | exact .inl rfl | exact .inr rfl | assumption):wpAny M A (storeName X.env x u) Q E s:=by
 obtain ⟨m,hn,hl⟩:=id I.loc
 have hcls:(X.env.scope.kind == .class || (X.env.scope.kind == .module && X.env.locals != X.env.globals)) = false:=by rw [I.ok.kind]; rfl
 have hiσ:i < σ.length:=by rw [I.len]; exact (List.getElem?_eq_some_iff.mp hi).1
 have cne:=I.cne
 have tracked:∀ {a:Addr} {h':Heap},(∃ o,s.heap.get? a = some o ∧ H a = none) → Heap.SameBut a s.heap h' → HOk X.prog X.w H h':=fun {a h'} ha hs b ob e=>by
  obtain ⟨_,_,hfree⟩:=ha
  refine (I.hok b ob e).stay (fun c w' hc q=>(hs.2 c ?_).trans q) (fun _ q=>q) fun _ _ q=>q
  rintro rfl
  rcases hc with rfl | hc
  ·rw [hfree] at e; cases e
  ·rw [hfree] at hc; cases hc
 rcases hx with hk | hk
 ·refine wpAny_storeName_local hk hn (fun h' hn' hs=>?_) hcls
  obtain ⟨oL,_,_,hoL,_⟩:=id hn
  refine h _ ⟨I.ok,I.os,I.bare,⟨fun b o e n hb hx=>?_,fun b o e n hb hx=>?_,I.base.free,fun b o e hx=>?_,I.base.tups,I.base.frzs,I.base.tbls⟩,⟨_,hn',fun j y v' e1 e2 e3=>?_⟩,fun y c e=>?_,I.free,I.freeC,fun p hp=>?_,tracked ⟨oL,hoL,I.free⟩ hs,by simpa using I.len⟩ ⟨_,hs,.inl rfl⟩
  ·exact (hs.2 b (Nat.ne_of_lt (Nat.lt_of_lt_of_le (Heap.lt_size e) I.ok.above))).trans (I.base.keep b o e n hb hx)
  ·obtain ⟨sl,e1⟩:=I.base.slot b o e n hb hx
   exact ⟨sl,(hs.2 b (Nat.ne_of_lt (Nat.lt_of_lt_of_le (Heap.lt_size e) I.ok.above))).trans e1⟩
  ·obtain ⟨o',e1⟩:=I.base.there b o e hx
   exact ⟨o',(hs.2 b (Nat.ne_of_lt (Nat.lt_of_lt_of_le (Heap.lt_size e) I.ok.above))).trans e1⟩
  ·by_cases hj:j = i
   ·subst hj
    rw [hi] at e1; cases e1
    rw [List.getElem?_set_self hiσ] at e2
    cases e2
    exact ⟨u,r,.inl ⟨hk,by simp⟩⟩
   ·rw [List.getElem?_set_ne (Ne.symm hj)] at e2
    obtain ⟨u',r',q⟩:=hl j y v' e1 e2 e3
    refine ⟨u',r',?_⟩
    rcases q with ⟨k,e⟩ | ⟨k,c,e,z⟩
    ·refine .inl ⟨k,?_⟩
     have:y ≠ x:=fun e=>hj (zbm hN e1 (e ▸ hi))
     simp [this,e]
    ·exact .inr ⟨k,c,e,z.sameBut hs (cne y c e)⟩
  ·obtain ⟨w',z⟩:=I.cell y c e
   exact ⟨w',z.sameBut hs (cne y c e)⟩
  ·obtain ⟨e,n,ne,nf,d⟩:=I.pin p hp
   exact ⟨(hs.2 p.1 ne).trans e,n,ne,nf,d⟩
 ·have hfn:X.fn x = true:=by
   rcases hf with z | z
   ·exact z
   ·rw [z] at hk; cases hk
  obtain ⟨c,hc⟩:=I.ok.has x (.inl hk)
  obtain ⟨w',z⟩:=I.cell x c hc
  refine wpAny_storeName_cell I.ok.kind hk hc z (fun h' hc' hs=>?_)
  obtain ⟨oc,hoc,hocd⟩:=id z
  refine h { s with heap:=h' } ⟨I.ok,I.os,I.bare,⟨fun b o e n hb hx=>?_,fun b o e n hb hx=>?_,I.base.free,fun b o e hx=>?_,I.base.tups,I.base.frzs,I.base.tbls⟩,⟨m,hn.sameBut hs (Ne.symm (cne x c hc)),fun j y v' e1 e2 e3=>?_⟩,fun y c' e=>?_,I.free,I.freeC,fun p hp=>?_,tracked ⟨oc,hoc,I.freeC x c hc⟩ hs,by simpa using I.len⟩ ⟨c,hs,.inr hc⟩
  ·exact (hs.2 b (Nat.ne_of_lt (Nat.lt_of_lt_of_le (Heap.lt_size e) (I.ok.cab x c hfn hc)))).trans (I.base.keep b o e n hb hx)
  ·obtain ⟨sl,e1⟩:=I.base.slot b o e n hb hx
   exact ⟨sl,(hs.2 b (Nat.ne_of_lt (Nat.lt_of_lt_of_le (Heap.lt_size e) (I.ok.cab x c hfn hc)))).trans e1⟩
  ·obtain ⟨o',e1⟩:=I.base.there b o e hx
   exact ⟨o',(hs.2 b (Nat.ne_of_lt (Nat.lt_of_lt_of_le (Heap.lt_size e) (I.ok.cab x c hfn hc)))).trans e1⟩
  ·by_cases hj:j = i
   ·subst hj
    rw [hi] at e1; cases e1
    rw [List.getElem?_set_self hiσ] at e2
    cases e2
    exact ⟨u,r,.inr ⟨.inl hk,c,hc,hc'⟩⟩
   ·rw [List.getElem?_set_ne (Ne.symm hj)] at e2
    obtain ⟨u',r',q⟩:=hl j y v' e1 e2 e3
    refine ⟨u',r',?_⟩
    rcases q with q | ⟨k,c',e,z'⟩
    ·exact .inl q
    ·refine .inr ⟨k,c',e,z'.sameBut hs ?_⟩
     rintro rfl
     exact hj (zbm hN e1 (I.ok.inj _ _ _ e hc ▸ hi))
  ·by_cases hcc:c' = c
   ·subst hcc; exact ⟨_,hc'⟩
   ·obtain ⟨w2,z2⟩:=I.cell y c' e
    exact ⟨w2,z2.sameBut hs hcc⟩
  ·obtain ⟨e,n,ne,nf,d⟩:=I.pin p hp
   refine ⟨(hs.2 p.1 ?_).trans e,n,ne,nf,d⟩
   intro q
   rw [q,hoc] at e
   have q':oc = p.2:=Option.some.inj e
   exact d w' (by rw [← q']; exact hocd)
theorem z7y {M:Model} {A:Around} {E:Value → Shared → Prop} {i:Nat} {x:Str} {v:V} {u:Value} {Q:Unit → Shared → Prop} (I:Inv X pins σ H s) (hN:X.N.Nodup) (hi:X.N[i]? = some x) (hx:Loc X.env.scope x) (r:RelV v u)
  (h:∀ s',Inv X pins (σ.set i (some v)) H s' → Q () s') (hf:X.fn x = true ∨ X.env.scope.names.lookup x = some .local:=by first | exact .inl rfl | exact .inr rfl | assumption):wpAny M A (storeName X.env x u) Q E s :=
 zae I hN hi hx r (fun s' I' _=>h s' I') hf
theorem Inv.call' {s':Shared} {ch:List Addr} (I:Inv X pins σ H s) (ho:s'.os = s.os) (u:Un (frs X.stack) ch H H' s.heap s'.heap) (hok:HOk X.prog X.w H' s'.heap) (hg:AllBare s'.gens)
  (hch:∀ b ∈ ch,(b ∈ X.ex ∨ X.s₀.heap.objs.size ≤ b) ∧ b ≠ X.env.locals ∧ (∀ x c,X.env.cells.lookup x = some c → c ≠ b) ∧ ∀ p ∈ X.pn ++ pins,p.1 ≠ b):Inv X pins σ H' s':=by
 obtain ⟨h',g',d',t',o'⟩:=s'
 have e:o' = s.os:=ho
 subst e
 exact I.call (g':=g') (t':=t') (d':=d') u hok hg hch
end
abbrev XK:=Value → Option Addr → Hp → Prop
abbrev St:=List (Option V)
abbrev VK:=V → Hp → Prop
abbrev TE:=St → Hp → VK → Prop
abbrev TT:=St → Hp → (Bool → Hp → Prop) → Prop
abbrev TA:=St → Hp → (List V → Hp → Prop) → Prop
structure Ends where
 nx:St → Hp → Prop
 rt:VK
 bk:St → Hp → Prop:=fun _ _=>False
 ct:St → Hp → Prop:=fun _ _=>False
abbrev TS:=Ends → St → Hp → Prop
def EP (X:Cx) (pins:List (Addr × Obj)) (σ:St) (Q:VK) (u:Value) (s':Shared):Prop:=∃ v H',Inv X pins σ H' s' ∧ RelV v u ∧ Q v H'
def TP (X:Cx) (pins:List (Addr × Obj)) (σ:St) (Q:Bool → Hp → Prop) (b:Bool) (s':Shared):Prop:=∃ H',Inv X pins σ H' s' ∧ Q b H'
def AP (X:Cx) (pins:List (Addr × Obj)) (σ:St) (Q:List V → Hp → Prop) (us:List Value) (s':Shared):Prop:=∃ vs H',Inv X pins σ H' s' ∧ Vals vs us ∧ Q vs H'
def SP (X:Cx) (pins:List (Addr × Obj)) (D:Ends) (f:Flow) (s':Shared):Prop :=
 match f with
 | .next=>∃ σ' H',Inv X pins σ' H' s' ∧ D.nx σ' H'
 | .brk=>∃ σ' H',Inv X pins σ' H' s' ∧ D.bk σ' H'
 | .cont=>∃ σ' H',Inv X pins σ' H' s' ∧ D.ct σ' H'
 | .ret u=>∃ v σ' H',Inv X pins σ' H' s' ∧ RelV v u ∧ D.rt v H'
def PE (X:Cx) (e:Expr) (t:TE):Prop :=
 ∀ (pins:List (Addr × Obj)) (s:Shared) (σ:St) (H:Hp) (Q:VK),Inv X pins σ H s → t σ H Q → wpAny (model X.prog X.w) X.A (eval e X.env) (EP X pins σ Q) X.xe s
def PT (X:Cx) (e:Expr) (t:TT):Prop :=
 ∀ (pins:List (Addr × Obj)) (s:Shared) (σ:St) (H:Hp) (Q:Bool → Hp → Prop),Inv X pins σ H s → t σ H Q → wpAny (model X.prog X.w) X.A (isTrue e X.env (eval e X.env)) (TP X pins σ Q) X.xe s
def PW (X:Cx) (e:Expr) (t:TT):Prop :=
 ∀ (whole:Sem Value) (pins:List (Addr × Obj)) (s:Shared) (σ:St) (H:Hp) (Q:Bool → Hp → Prop),Inv X pins σ H s → t σ H Q → wpAny (model X.prog X.w) X.A (isTrue e X.env whole) (TP X pins σ Q) X.xe s
theorem PW.pt {X:Cx} {e:Expr} {t:TT} (h:PW X e t):PT X e t:=h _
def PA (X:Cx) (es:List Expr) (t:TA):Prop :=
 ∀ (pos:Pos) (pins:List (Addr × Obj)) (s:Shared) (σ:St) (H:Hp) (Q:List V → Hp → Prop),Inv X pins σ H s → t σ H Q → wpAny (model X.prog X.w) X.A (spliced (backTo pos (starEach es X.env))) (AP X pins σ Q) X.xe s
def PS (X:Cx) (st:Stmt) (t:TS):Prop :=
 ∀ (pins:List (Addr × Obj)) (s:Shared) (σ:St) (H:Hp) (D:Ends),Inv X pins σ H s → t D σ H → wpAny (model X.prog X.w) X.A (exec st X.env) (SP X pins D) X.xe s
def PSs (X:Cx) (st:List Stmt) (t:TS):Prop :=
 ∀ (pins:List (Addr × Obj)) (s:Shared) (σ:St) (H:Hp) (D:Ends),Inv X pins σ H s → t D σ H → wpAny (model X.prog X.w) X.A (execs st X.env) (SP X pins D) X.xe s
theorem thn {α:Type} {t:Sem α} {Q Q':α → Shared → Prop} {M:Model} {A:Around} {E:Value → Shared → Prop} {s:Shared} (h:wpAny M A t Q E s) (hQ:∀ a s,Q a s → Q' a s):wpAny M A t Q' E s:=wpAny_mono h hQ fun _ _ x=>x
end L2
namespace L2
open PySem PySem.Spec PyProof.Rows
section
variable {X:Cx}
def tVar (i:Nat):TE:=fun σ H Q=>∃ v,σ[i]? = some (some v) ∧ Q v H
def tC (v:V):TE:=fun _ H Q=>Q v H
theorem zjv {i:Nat} {x:Str} {pos:Pos} (hN:X.N[i]? = some x) (hv:Vis X.env.scope x) (hd:(x == ("__debug__" : Str)) = false:=by decide) (hcd:(x == ("__classdict__" : Str)) = false:=by decide):PE X (.Name x pos) (tVar i):=by
 intro pins s σ H Q I h
 obtain ⟨v,e,h⟩:=h
 obtain ⟨m,hn,hl⟩:=I.loc
 obtain ⟨u,r,l⟩:=hl i x v hN e hv
 have fin:EP X pins σ Q u s:=⟨v,H,I,r,h⟩
 rcases l with ⟨hk,hm⟩ | ⟨hk,c,hc,hcell⟩
 ·exact wpAny_Name (wpAny_loadName_local I.ok.kind hk hn hm fin) hd
 ·rcases hk with hk | hk
  ·exact wpAny_Name (wpAny_loadName_cell I.ok.kind hk hc hcell fin) hd
  ·exact wpAny_Name (wpAny_loadName_free I.ok.kind hk hc hcell fin hcd) hd
theorem z4 {i j pos}:PE X (.Constant (.int i) j pos) (tC (.int i)):=fun _ _ _ H _ I h=>wpAny_Constant_int ⟨.int i,H,I.tok _,⟨_,rfl⟩,h⟩
theorem z22 {b j pos}:PE X (.Constant (.bool b) j pos) (tC (.bl b)):=fun _ _ _ H _ I h=>Constant_bool ⟨.bl b,H,I,rfl,h⟩
theorem zj {x j pos}:PE X (.Constant (.str x) j pos) (tC (.str x)):=fun _ _ _ H _ I h=>Calls.Constant_str ⟨.str x,H,I.tok _,⟨_,rfl⟩,h⟩
def Gl (X:Cx) (x:Str):Prop:=X.env.kindOf x = some .globalImplicit
theorem z5j {E:Value → Shared → Prop} {pins:List (Addr × Obj)} {s:Shared} {σ:St} {H:Hp} {x:Str} {u:Value} {pos:Pos} {Q:Value → Shared → Prop} (I:Inv X pins σ H s) (hg:Gl X x) (hm:X.mg x = some u) (h:Q u s)
  (hd:(x == ("__debug__" : Str)) = false:=by decide):wpAny (model X.prog X.w) X.A (eval (.Name x pos) X.env) Q E s :=
 Calls.Name_function_global I.ok.kind hg (Calls.loadGlobal_global (by rw [I.ok.glob]; exact I.mod.glob.keeps I.bk) hm h) hd
theorem z46 {E:Value → Shared → Prop} {pins:List (Addr × Obj)} {s:Shared} {σ:St} {H:Hp} {x:Str} {u:Value} {pos:Pos} {Q:Value → Shared → Prop} (I:Inv X pins σ H s) (hg:Gl X x) (hm:X.mg x = none) (hv:bootBuiltins x = some u) (h:Q u s)
  (hn:x ≠ "__name__" := by decide) (hd:(x == ("__debug__" : Str)) = false:=by decide):wpAny (model X.prog X.w) X.A (eval (.Name x pos) X.env) Q E s:=by
 obtain ⟨mb,h1,h2⟩:=I.mod.blt
 exact Calls.Name_function_global I.ok.kind hg (Calls.loadGlobal_builtin (by rw [I.ok.glob]; exact I.mod.glob.keeps I.bk) hm (by rw [I.ok.blt]; exact h1.keeps I.bk) ((h2 x hn).trans hv) h) hd
theorem zt {x:Str} {v:V} {u:Value} {pos:Pos} (hg:Gl X x) (hm:X.mg x = none) (hv:bootBuiltins x = some u) (r:RelV v u) (hn:x ≠ "__name__" := by decide) (hd:(x == ("__debug__" : Str)) = false:=by decide):PE X (.Name x pos) (tC v) :=
 fun _ _ _ H _ I h=>z46 I hg hm hv ⟨v,H,I,r,h⟩ hn hd
variable {a b:Expr} {ta tb:TE} {pos:Pos}
def tB (t:TE):TT:=fun σ H Q=>t σ H fun x H1=>∃ c,x = .bl c ∧ Q c H1
theorem z1k {e:Expr} {t:TE} (h:PE X e t) (he:∀ whole,isTrue e X.env whole = (do let v ← whole; standAt e.pos; holding [v] (truthy v)):=by intro _; rfl):PT X e (tB t):=by
 intro pins s σ H Q I hw
 refine isTrue_plain (thn (h pins s σ H _ I hw) fun v s1 ⟨x,H1,I1,r1,q1⟩=>?_) (he _)
 obtain ⟨d,rfl,q⟩:=q1
 cases r1
 exact wpAny_truthy_bool ⟨H1,I1,q⟩
variable {tA tB':TT} {rest:List Expr}
def tAnd (t u:TT):TT:=fun σ H Q=>t σ H fun c H1=>if c = true then u σ H1 Q else Q false H1
def tOr (t u:TT):TT:=fun σ H Q=>t σ H fun c H1=>if c = true then Q true H1 else u σ H1 Q
def tNot (t:TT):TT:=fun σ H Q=>t σ H fun c H1=>Q (!c) H1
theorem z5k (ha:PT X a tA):PW X (.BoolOp .And [a] pos) tA:=by
 intro wh pins s σ H Q I h
 refine isTrue_and (thn (ha pins s σ H Q I h) fun c s1 e=>?_)
 cases c with
 | true=>exact isTrue_and_nil e
 | false=>exact e
theorem z5l (ha:PT X a tA):PW X (.BoolOp .Or [a] pos) tA:=by
 intro wh pins s σ H Q I h
 refine isTrue_or (thn (ha pins s σ H Q I h) fun c s1 e=>?_)
 cases c with
 | false=>exact isTrue_or_nil e
 | true=>exact e
theorem z3h (ha:PT X a tA) (hb:PW X (.BoolOp .And (b :: rest) pos) tB'):PW X (.BoolOp .And (a :: b :: rest) pos) (tAnd tA tB'):=by
 intro wh pins s σ H Q I h
 refine isTrue_and (thn (ha pins s σ H _ I h) fun c s1 ⟨H1,I1,q1⟩=>?_)
 cases c with
 | true=>exact hb wh pins s1 σ H1 Q I1 q1
 | false=>exact ⟨H1,I1,q1⟩
theorem z75 (ha:PT X a tA) (hb:PW X (.BoolOp .Or (b :: rest) pos) tB'):PW X (.BoolOp .Or (a :: b :: rest) pos) (tOr tA tB'):=by
 intro wh pins s σ H Q I h
 refine isTrue_or (thn (ha pins s σ H _ I h) fun c s1 ⟨H1,I1,q1⟩=>?_)
 cases c with
 | true=>exact ⟨H1,I1,q1⟩
 | false=>exact hb wh pins s1 σ H1 Q I1 q1
theorem z3i (ha:PT X a tA):PT X (.UnaryOp .Not a pos) (tNot tA):=by
 intro pins s σ H Q I h
 exact isTrue_not (ha pins s σ H (fun c H1=>Q (!c) H1) I h)
def zi7 (ta tb:TE):TE:=fun σ H Q=>ta σ H fun x H1=>∃ c,x = .bl c ∧ if c = true then tb σ H1 Q else Q (.bl false) H1
def tOrV (ta tb:TE):TE:=fun σ H Q=>ta σ H fun x H1=>∃ c,x = .bl c ∧ if c = true then Q (.bl true) H1 else tb σ H1 Q
def zi8 (ta:TE):TE:=fun σ H Q=>ta σ H fun x H1=>∃ c,x = .bl c ∧ Q (.bl (!c)) H1
theorem z24 {op} {t:TE} (h:PE X a t):PE X (.BoolOp op [a] pos) t:=fun pins s σ H Q I hw=>BoolOp_one (h pins s σ H Q I hw)
theorem z2a (ha:PE X a ta) (hb:PE X (.BoolOp .And (b :: rest) pos) tb):PE X (.BoolOp .And (a :: b :: rest) pos) (zi7 ta tb):=by
 intro pins s σ H Q I h
 refine BoolOp_and (thn (ha pins s σ H _ I h) fun v s1 ⟨x,H1,I1,r1,q1⟩=>?_)
 obtain ⟨c,rfl,q1⟩:=q1
 cases r1
 refine wpAny_truthy_bool ?_
 cases c with
 | true=>exact hb pins s1 σ H1 Q I1 q1
 | false=>exact ⟨.bl false,H1,I1,rfl,q1⟩
theorem zkn (ha:PE X a ta) (hb:PE X (.BoolOp .Or (b :: rest) pos) tb):PE X (.BoolOp .Or (a :: b :: rest) pos) (tOrV ta tb):=by
 intro pins s σ H Q I h
 refine BoolOp_or (thn (ha pins s σ H _ I h) fun v s1 ⟨x,H1,I1,r1,q1⟩=>?_)
 obtain ⟨c,rfl,q1⟩:=q1
 cases r1
 refine wpAny_truthy_bool ?_
 cases c with
 | false=>exact hb pins s1 σ H1 Q I1 q1
 | true=>exact ⟨.bl true,H1,I1,rfl,q1⟩
theorem zbn (ha:PE X a ta):PE X (.UnaryOp .Not a pos) (zi8 ta):=by
 intro pins s σ H Q I h
 refine UnaryOp_ (thn (ha pins s σ H _ I h) fun v s1 ⟨x,H1,I1,r1,q1⟩=>?_)
 obtain ⟨c,rfl,q1⟩:=q1
 cases r1
 exact not_of (wpAny_truthy_bool ⟨.bl (!c),H1,I1,rfl,q1⟩)
end
end L2
namespace L2
open PySem PySem.Spec PyProof.Rows
def SqL (K:PySem.W.Frag) (H:Hp) (a:Addr) (xs:List V):Prop :=
 Rd H a (.lst xs) ∨
  ∃ (o:Obj) (its:Array Value) (n:Nat),K.lookup a = some o ∧ o.cls = .type "list" ∧ o.dict = none ∧ o.data = .seq its n ∧ its.size ≤ sizeLine ∧ Vals xs its.toList
def SqT (K:PySem.W.Frag) (H:Hp) (a:Addr) (xs:List V):Prop :=
 Rd H a (.tup xs) ∨
  ∃ (o:Obj) (its:Array Value) (n:Nat),K.lookup a = some o ∧ o.cls = .type "tuple" ∧ o.data = .seq its n ∧ its.size ≤ sizeLine ∧ Vals xs its.toList
def absV:Value → Option V
 | .none=>some .non
 | .bool b=>some (.bl b)
 | .int i _=>some (.int i)
 | .str x _=>some (.str x)
 | .bytes b _=>some (.byt b)
 | .float b _=>some (.flt b)
 | .ref a=>some (.ref a)
 | .type n=>some (.ty n)
 | _=>none
theorem RelV.abs {x:V} {u:Value} (r:RelV x u):absV u = some x:=by
 cases x with
 | non=>cases r; rfl
 | bl _=>cases r; rfl
 | int _=>obtain ⟨t,rfl⟩:=r; rfl
 | str _=>obtain ⟨t,rfl⟩:=r; rfl
 | byt _=>obtain ⟨t,rfl⟩:=r; rfl
 | flt _=>obtain ⟨t,rfl⟩:=r; rfl
 | ref _=>cases r; rfl
 | ty _=>cases r; rfl
theorem RelV.inj {x y:V} {u:Value} (r:RelV x u) (q:RelV y u):x = y:=Option.some.inj (r.abs.symm.trans q.abs)
theorem Vals.inj:∀ {xs ys:List V} {us:List Value},Vals xs us → Vals ys us → xs = ys
 | _,_,_,.nil,.nil=>rfl
 | _,_,_,.cons r t,.cons r' t'=>by rw [r.inj r',Vals.inj t t']
section
variable {X:Cx} {pins:List (Addr × Obj)} {σ:St} {H:Hp} {s:Shared} {a:Addr} {xs ys:List V}
theorem SqL.of {K:PySem.W.Frag} (h:H a = some (.lst xs)):SqL K H a xs:=.inl (.inl h)
theorem SqT.of {K:PySem.W.Frag} (h:H a = some (.tup xs)):SqT K H a xs:=.inl (.inl h)
theorem Inv.list (I:Inv X pins σ H s) (h:SqL X.K H a xs):∃ its:List Value,Vals xs its ∧ PlainL s.heap a its.toArray ∧ xs.length ≤ sizeLine:=by
 rcases h with h | ⟨o,its,n,hk,hc,hd,hs,hz,r⟩
 ·obtain ⟨z,its,n,r,e⟩:=h.ok I.hok
  exact ⟨its,r,⟨_,n,e,rfl,rfl,rfl⟩,z⟩
 ·refine ⟨its.toList,r,⟨o,n,I.kIn a o hk,hc,hd,by simpa using hs⟩,?_⟩
  have e:=r.length
  simp only [Array.length_toList] at e
  omega
theorem Inv.tuple (I:Inv X pins σ H s) (h:SqT X.K H a xs):∃ its:List Value,Vals xs its ∧ IsTup s.heap a its.toArray ∧ xs.length ≤ sizeLine:=by
 rcases h with h | ⟨o,its,n,hk,hc,hs,hz,r⟩
 ·obtain ⟨z,its,r,p⟩:=h.ok I.hok
  exact ⟨its,r,p,z⟩
 ·refine ⟨its.toList,r,⟨o,I.kIn a o hk,hc,n,by simpa using hs⟩,?_⟩
  have e:=r.length
  simp only [Array.length_toList] at e
  omega
theorem Inv.list_inj (I:Inv X pins σ H s) (h:SqL X.K H a xs) (h':SqL X.K H a ys):xs = ys:=by
 obtain ⟨its,r,⟨o,n,e,_,_,d⟩,_⟩:=I.list h
 obtain ⟨its',r',⟨o',n',e',_,_,d'⟩,_⟩:=I.list h'
 rw [e] at e'; cases e'
 rw [d] at d'
 injection d' with d1 _
 have:its = its':=by simpa using congrArg Array.toList d1
 subst this
 exact r.inj r'
end
abbrev Cx.wish (X:Cx) (E:Value → Shared → Prop):Cx:={ X with xe:=E }
abbrev Cx.nox (X:Cx):Cx:=X.wish fun _ _=>False
theorem Cx.Ok.wish {X:Cx} (ok:X.Ok) (E:Value → Shared → Prop):(X.wish E).Ok :=
 ⟨ok.mod,ok.kind,ok.glob,ok.blt,ok.above,ok.inj,ok.has,ok.cab,ok.hd,ok.frames,ok.stk,ok.exf,ok.bs,ok.bsz,ok.noex,ok.exfs,ok.funs,ok.frf⟩
theorem Cx.Ok.unwish {X:Cx} {E:Value → Shared → Prop} (ok:(X.wish E).Ok):X.Ok :=
 ⟨ok.mod,ok.kind,ok.glob,ok.blt,ok.above,ok.inj,ok.has,ok.cab,ok.hd,ok.frames,ok.stk,ok.exf,ok.bs,ok.bsz,ok.noex,ok.exfs,ok.funs,ok.frf⟩
section
variable {X:Cx} {pins:List (Addr × Obj)} {σ:St} {H:Hp} {s:Shared} {E:Value → Shared → Prop}
theorem Inv.wish (I:Inv X pins σ H s) (E:Value → Shared → Prop):Inv (X.wish E) pins σ H s:=⟨I.ok.wish E,I.os,I.bare,I.base,I.loc,I.cell,I.free,I.freeC,I.pin,I.hok,I.len⟩
theorem Inv.unwish (I:Inv (X.wish E) pins σ H s):Inv X pins σ H s:=⟨I.ok.unwish,I.os,I.bare,I.base,I.loc,I.cell,I.free,I.freeC,I.pin,I.hok,I.len⟩
theorem SP.unwish {D:Ends} {f:Flow} {s':Shared} (h:SP (X.wish E) pins D f s'):SP X pins D f s':=by
 cases f with
 | next=>obtain ⟨σ',H',I,q⟩:=h; exact ⟨σ',H',I.unwish,q⟩
 | brk=>obtain ⟨σ',H',I,q⟩:=h; exact ⟨σ',H',I.unwish,q⟩
 | cont=>obtain ⟨σ',H',I,q⟩:=h; exact ⟨σ',H',I.unwish,q⟩
 | ret u=>obtain ⟨v,σ',H',I,r,q⟩:=h; exact ⟨v,σ',H',I.unwish,r,q⟩
theorem PE.nox {e:Expr} {t:TE} (h:PE X.nox e t):PE X e t:=fun pins s σ H Q I hw =>
 wpAny_mono (h pins s σ H Q (I.wish _) hw) (fun _ _ ⟨v,H',I',r,q⟩=>⟨v,H',I'.unwish,r,q⟩) fun _ _ z=>False.elim z
theorem PT.nox {e:Expr} {t:TT} (h:PT X.nox e t):PT X e t:=fun pins s σ H Q I hw =>
 wpAny_mono (h pins s σ H Q (I.wish _) hw) (fun _ _ ⟨H',I',q⟩=>⟨H',I'.unwish,q⟩) fun _ _ z=>False.elim z
theorem PSs.nox {st:List Stmt} {t:TS} (h:PSs X.nox st t):PSs X st t:=fun pins s σ H D I hw =>
 wpAny_mono (h pins s σ H D (I.wish _) hw) (fun _ _ q=>q.unwish) fun _ _ z=>False.elim z
end
section
variable {X:Cx} {st:Stmt} {rest:List Stmt} {t u:TS} {e:Expr} {te:TE} {pos:Pos}
def zi9:TS:=fun D σ H=>D.nx σ H
def tSeq (t u:TS):TS:=fun D σ H=>t { D with nx:=u D } σ H
theorem zo:PSs X [] zi9:=fun _ _ σ H _ I h=>wpAny_execs_nil ⟨σ,H,I,h⟩
theorem z8 (h1:PS X st t) (h2:PSs X rest u):PSs X (st :: rest) (tSeq t u):=by
 intro pins s σ H D I h
 refine wpAny_execs_cons (thn (h1 pins s σ H { D with nx:=u D } I h) fun f s1 q=>?_)
 cases f with
 | next =>
  obtain ⟨σ',H',I',q⟩:=q
  exact h2 pins s1 σ' H' D I' q
 | ret v=>exact q
 | brk=>exact q
 | cont=>exact q
theorem za (h1:PS X st t):PSs X [st] t:=by
 intro pins s σ H D I h
 refine wpAny_execs_cons (thn (h1 pins s σ H D I h) fun f s1 q=>?_)
 cases f with
 | next=>exact wpAny_execs_nil q
 | ret v=>exact q
 | brk=>exact q
 | cont=>exact q
theorem Inv.quiet {pins:List (Addr × Obj)} {σ:St} {H:Hp} {s:Shared} (I:Inv X pins σ H s):interactive X.env = false:=by simp [interactive,I.ok.kind]
def zia (te:TE):TS:=fun D σ H=>te σ H fun _ H1=>D.nx σ H1
theorem z1w (he:PE X e te) (hs:swapsWith e none pos.line X.env = pure false:=by rfl):PS X (.Expr e pos) (zia te):=by
 intro pins s σ H D I h
 exact wpAny_Expr_any (thn (he pins s σ H _ I h) fun v s1 ⟨x,H1,I1,r1,q1⟩=>⟨σ,H1,I1,q1⟩) I.quiet hs
def tRet (te:TE):TS:=fun D σ H=>te σ H D.rt
theorem zl (he:PE X e te):PS X (.Return (some e) pos) (tRet te):=by
 intro pins s σ H D I h
 exact wpAny_Return_some (thn (he pins s σ H _ I h) fun v s1 ⟨x,H1,I1,r1,q1⟩=>⟨x,σ,H1,I1,r1,q1⟩)
def tIfS (c:TT) (t u:TS):TS:=fun D σ H=>c σ H fun b H1=>if b = true then t D σ H1 else u D σ H1
theorem zy {c:Expr} {a b:List Stmt} {tc:TT} (hc:PT X c tc) (ha:PSs X a t) (hb:PSs X b u):PS X (.If c a b pos) (tIfS tc t u):=by
 intro pins s σ H D I h
 refine wpAny_If (thn (hc pins s σ H _ I h) fun d s1 ⟨H1,I1,q1⟩=>?_)
 cases d with
 | true=>exact ha pins s1 σ H1 D I1 q1
 | false=>exact hb pins s1 σ H1 D I1 q1
end
abbrev TG:=V → St → Hp → (St → Hp → Prop) → Prop
abbrev TGs:=List V → St → Hp → (St → Hp → Prop) → Prop
def PG (X:Cx) (target:Expr) (t:TG):Prop :=
 ∀ (pins:List (Addr × Obj)) (s:Shared) (σ:St) (H:Hp) (v:V) (u:Value) (Q:St → Hp → Prop),Inv X pins σ H s → RelV v u → t v σ H Q →
  wpAny (model X.prog X.w) X.A (assign target X.env u) (fun _ s'=>∃ σ' H',Inv X pins σ' H' s' ∧ Q σ' H') X.xe s
def PGs (X:Cx) (ts:List Expr) (t:TGs):Prop :=
 ∀ (pins:List (Addr × Obj)) (s:Shared) (σ:St) (H:Hp) (vs:List V) (us:List Value) (Q:St → Hp → Prop),Inv X pins σ H s → Vals vs us → t vs σ H Q →
  wpAny (model X.prog X.w) X.A (assignInOrder ((assignEach ts X.env).map (·.2)) us) (fun _ s'=>∃ σ' H',Inv X pins σ' H' s' ∧ Q σ' H') X.xe s
abbrev TSet:=V → V → V → Hp → (Hp → Prop) → Prop
def PSet (X:Cx) (t:TSet):Prop :=
 ∀ (pins:List (Addr × Obj)) (s:Shared) (σ:St) (H:Hp) (o i v:V) (ov iv u:Value) (Q:Hp → Prop),Inv X pins σ H s → RelV o ov → RelV i iv → RelV v u → t o i v H Q →
  wpAny (model X.prog X.w) X.A (setItem ov iv u) (fun _ s'=>∃ H',Inv X pins σ H' s' ∧ Q H') X.xe s
section
variable {X:Cx} {pos:Pos}
def zbg (i:Nat):TG:=fun v σ H Q=>Q (σ.set i (some v)) H
theorem z15 {i:Nat} {x:Str} (hN:X.N.Nodup) (hi:X.N[i]? = some x) (hx:Loc X.env.scope x) (hf:X.fn x = true ∨ X.env.scope.names.lookup x = some .local:=by first | exact .inl rfl | exact .inr rfl | assumption):PG X (.Name x pos) (zbg i):=by
 intro pins s σ H v u Q I r h
 exact wpAny_assign_Name (z7y I hN hi hx r (fun s' I'=>⟨_,H,I',h⟩) hf)
def gNil:TGs:=fun vs σ H Q=>vs = [] ∧ Q σ H
def zib (t:TG) (u:TGs):TGs:=fun vs σ H Q=>∃ v r,vs = v :: r ∧ t v σ H fun σ' H'=>u r σ' H' Q
theorem z4m:PGs X [] gNil:=by
 intro pins s σ H vs us Q I r h
 obtain ⟨e,h⟩:=h
 subst e
 cases r
 exact assignInOrder_nil ⟨σ,H,I,h⟩
theorem z1r {e:Expr} {es:List Expr} {t:TG} {u:TGs} (h1:PG X e t) (h2:PGs X es u)
  (hs:(assignEach (e :: es) X.env).map (·.2) = assign e X.env :: (assignEach es X.env).map (·.2):=by rfl):PGs X (e :: es) (zib t u):=by
 intro pins s σ H vs us Q I r h
 obtain ⟨v,vr,e1,h⟩:=h
 subst e1
 cases r with
 | cons r rr =>
  rw [hs]
  refine assignInOrder_cons (thn (h1 pins s σ H _ _ _ I r h) fun _ s1 ⟨σ1,H1,I1,q1⟩=>?_)
  exact h2 pins s1 σ1 H1 _ _ Q I1 rr q1
def gTup (K:PySem.W.Frag) (n:Nat) (t:TGs):TG:=fun v σ H Q=>∃ a xs,v = .ref a ∧ SqT K H a xs ∧ xs.length = n ∧ t xs σ H Q
theorem z8h {es:List Expr} {k:Nat} {t:TGs} {n:Nat} (hc:X.calm = true) (h:PGs X es t)
  (hn:(assignEach es X.env).length = n:=by rfl) (hst:(assignEach es X.env).findIdx? (·.1) = none:=by rfl):PG X (.Tuple es k pos) (gTup X.K n t):=by
 intro pins s σ H v u Q I r hw
 obtain ⟨a,xs,e1,hq,hl,hw⟩:=hw
 subst e1
 cases r
 obtain ⟨its,rv,ht,hz⟩:=I.tuple hq
 refine assign_Tuple_tuple (I.ok.hd hc) ht (by simp [hn,← hl,rv.length]) hst fun h' hx=>?_
 have I1:Inv X pins σ H { s with heap:=h' }:=I.kept (t':=s.toks) fun b o e=>hx b o (Nat.ne_of_lt (Heap.lt_size e)) e
 exact h pins _ σ H xs _ Q I1 (by simpa using rv) hw
def gSub (to ti:TE) (t:TSet):TG:=fun v σ H Q=>to σ H fun o H1=>ti σ H1 fun i H2=>t o i v H2 fun H3=>Q σ H3
theorem zf8 {o i:Expr} {to ti:TE} {t:TSet} (ho:PE X o to) (hi:PE X i ti) (hs:PSet X t)
  (ha:∀ v,assign (.Subscript o i pos) X.env v = (do
   let ov ← holding [v] (eval o X.env)
   let iv ← holding [v,ov] (eval i X.env)
   standAt pos
   holding [v,ov,iv] (setItem ov iv v)
   release [v,ov,iv] []):=by intro _; rfl):PG X (.Subscript o i pos) (gSub to ti t):=by
 intro pins s σ H v u Q I r h
 rw [ha]
 refine wpAny_bind (wpAny_holding (thn (ho pins s σ H _ I h) fun ov s1 ⟨x,H1,I1,r1,q1⟩=>?_))
 refine wpAny_bind (wpAny_holding (thn (hi pins s1 σ H1 _ I1 q1) fun iv s2 ⟨y,H2,I2,r2,q2⟩=>?_))
 refine wpAny_bind (wpAny_standAt (wpAny_bind (wpAny_holding (thn (hs pins s2 σ H2 x y v ov iv u _ I2 r1 r2 r q2) fun _ s3 ⟨H3,I3,q3⟩=>?_))))
 exact wpAny_release ⟨σ,H3,I3,q3⟩
def tAsg (te:TE) (g:TG):TS:=fun D σ H=>te σ H fun x H1=>g x σ H1 D.nx
theorem zbo {tg e:Expr} {te:TE} {g:TG} (he:PE X e te) (hg:PG X tg g) (hs:swapsWithSole [tg] e pos.line X.env = pure false:=by rfl) (hw:swappedStores [tg] e X.env = pure none:=by rfl)
  (h1:(assignEach [tg] X.env).map (·.2) = [assign tg X.env]:=by rfl):PS X (.Assign [tg] e pos) (tAsg te g):=by
 intro pins s σ H D I h
 refine wpAny_Assign_stores (thn (he pins s σ H _ I h) fun v s1 ⟨x,H1,I1,r1,q1⟩=>?_) hs hw
 rw [h1]
 exact thn (hg pins s1 σ H1 x v _ I1 r1 q1) fun _ s2 q=>q
theorem zi {i:Nat} {x:Str} {e:Expr} {te:TE} {pos':Pos} (hN:X.N.Nodup) (hi:X.N[i]? = some x) (hx:Loc X.env.scope x) (he:PE X e te) (hs:swapsWith e (some (.Name x pos')) pos.line X.env = pure false:=by rfl) (hf:X.fn x = true ∨ X.env.scope.names.lookup x = some .local:=by first | exact .inl rfl | exact .inr rfl | assumption) :
  PS X (.Assign [.Name x pos'] e pos) (tAsg te (zbg i)):=by
 intro pins s σ H D I h
 refine wpAny_Assign_Name (thn (he pins s σ H _ I h) fun v s1 ⟨y,H1,I1,r1,q1⟩=>?_) hs
 exact z7y I1 hN hi hx r1 (fun s2 I2=>⟨_,H1,I2,q1⟩) hf
end
section
variable {X:Cx} {pos:Pos}
end
structure It where
 go:Nat → Hp → Prop
 yld:Nat → Hp → V → Hp → Prop
 stop:Nat → Hp → Prop
def FpOk (X:Cx) (pins:List (Addr × Obj)) (H:Hp) (b:Addr):Prop :=
 H b = none ∧ b ≠ X.env.locals ∧ b ∉ X.fs ∧ (b ∈ X.ex ∨ X.s₀.heap.objs.size ≤ b) ∧ (∀ x c,X.env.cells.lookup x = some c → c ≠ b) ∧ ∀ p ∈ X.pn ++ pins,p.1 ≠ b
theorem Inv.fpOk {X:Cx} {pins:List (Addr × Obj)} {σ:St} {H H':Hp} {s:Shared} {b:Addr} (I:Inv X pins σ H s) (hb:s.heap.objs.size ≤ b) (hn:H' b = none):FpOk X pins H' b:=by
 refine ⟨hn,Nat.ne_of_gt (Nat.lt_of_lt_of_le I.lt hb),I.nofs hb,.inr (Nat.le_trans I.sz hb),fun x c e z=>?_,fun p hp z=>?_⟩
 ·obtain ⟨v,q⟩:=I.cell x c e
  exact absurd (Nat.lt_of_lt_of_le q.lt (by rw [z]; exact hb)) (Nat.lt_irrefl _)
 ·exact absurd (Nat.lt_of_lt_of_le (Heap.lt_size (I.pin p hp).1) (by rw [z]; exact hb)) (Nat.lt_irrefl _)
structure Turn (P:Program) (w:World) (K:PySem.W.Frag) (tg:Expr) (J:It) (fp:List Addr) (it:Addr) (tn:Nat → Heap → Prop):Prop where
 mem:it ∈ fp
 obj:∀ i h,tn i h → ∀ b ∈ fp,∃ o,h.get? b = some o ∧ ∀ v,o.data ≠ .cell v
 keep:∀ i h h',tn i h → (∀ b ∈ fp,∀ o,h.get? b = some o → h'.get? b = some o) → tn i h'
 item:∀ (X:Cx),X.prog = P → X.w = w → X.K = K → X.calm = true → ∀ (i:Nat) (pins:List (Addr × Obj)) (s:Shared) (σ:St) (H:Hp) (E:Value → Shared → Prop),Inv X pins σ H s → (∀ b ∈ fp,FpOk X pins H b) → tn i s.heap → J.go i H →
  wpAny (model P w) X.A (pyNext (.ref it)) (fun r s1=>∃ u,r = some u ∧
   wpAny (model P w) X.A (letOwnedTupleGo tg (.ref it) u) (fun _ s2=>∃ x H',Inv X pins σ H' s2 ∧ RelV x u ∧ J.yld i H x H' ∧ tn (i + 1) s2.heap ∧ ∀ b ∈ fp,H' b = none) E s1) E s
 done:∀ (X:Cx),X.prog = P → X.w = w → X.K = K → X.calm = true → ∀ (i:Nat) (pins:List (Addr × Obj)) (s:Shared) (σ:St) (H:Hp) (E:Value → Shared → Prop),Inv X pins σ H s → (∀ b ∈ fp,FpOk X pins H b) → tn i s.heap → J.stop i H →
  wpAny (model P w) X.A (pyNext (.ref it)) (fun r s1=>r = none ∧ Inv X pins σ H s1) E s
 self:∀ (A:Around) (i:Nat) (s:Shared) (Q:Value → Shared → Prop) (E:Value → Shared → Prop),tn i s.heap → Q (.ref it) s → wpAny (model P w) A (pyIter (.ref it)) Q E s
abbrev TI:=St → Hp → (It → Hp → Prop) → Prop
def PIE (X:Cx) (pins:List (Addr × Obj)) (σ:St) (tg:Expr) (R:It → Hp → Prop) (itv:Value) (s2:Shared):Prop :=
 ∃ (it:Addr) (fp:List Addr) (tn:Nat → Heap → Prop) (J:It) (H':Hp),itv = .ref it ∧ Inv X pins σ H' s2 ∧ Turn X.prog X.w X.K tg J fp it tn ∧ tn 0 s2.heap ∧ (∀ b ∈ fp,FpOk X pins H' b) ∧ R J H'
def PI (X:Cx) (tg iter:Expr) (wi:TI):Prop :=
 ∀ (pins:List (Addr × Obj)) (s:Shared) (σ:St) (H:Hp) (R:It → Hp → Prop),Inv X pins σ H s → wi σ H R →
  wpAny (model X.prog X.w) X.A (eval iter X.env) (fun v s1=>wpAny (model X.prog X.w) X.A (pyIter v) (PIE X pins σ tg R) X.xe s1) X.xe s
theorem zic {M:Model} {A:Around} {E:Value → Shared → Prop} {s:Shared} {tg:Expr} {it:Addr} {u:Value} {o:Obj} {n:String} {vs:Array Value} {Q:Unit → Shared → Prop} (ho:s.heap.get? it = some o) (hc:o.cls = .type n) (hd:o.data = .fields vs)
    (hn:["enumerate","zip","dict_itemiterator","dict_reverseitemiterator","odict_iterator","itertools.zip_longest","itertools.pairwise"].contains n = false) (hQ:Q () s):wpAny M A (letOwnedTupleGo tg (.ref it) u) Q E s:=by
  unfold letOwnedTupleGo
  cases tg <;> first
    | exact wpAny_pure hQ
    | (cases u <;> first
        | exact wpAny_pure hQ
        | (refine wpAny_bind (wpAny_load ho ?_)
           rw [hc,hd]
           show wpAny M A (if (["enumerate","zip","dict_itemiterator","dict_reverseitemiterator","odict_iterator","itertools.zip_longest","itertools.pairwise"].contains n && vs[0]? == some (rawInt _)) = true then _ else _) Q E s
           rw [if_neg (by intro h; rw [hn,Bool.false_and] at h; cases h)]
           exact wpAny_pure hQ))
def Itl (K:PySem.W.Frag) (a:Addr):It :=
 ⟨fun i H=>∃ xs x,SqL K H a xs ∧ xs[i]? = some x,fun i H x H'=>H' = H ∧ ∀ xs,SqL K H a xs → xs[i]? = some x,fun i H=>∃ xs,SqL K H a xs ∧ xs.length ≤ i⟩
def Itr (lo:Int) (n:Nat):It:=⟨fun i _=>i < n,fun i H x H'=>H' = H ∧ x = .int (lo + i),fun i _=>n ≤ i⟩
theorem zf9 {P:Program} {w:World} {K:PySem.W.Frag} {tg:Expr} (a it:Addr):Turn P w K tg (Itl K a) [it] it (fun i h=>h.IsListIter it a i) where
 mem:=by simp
 obj:=fun i h st b hb=>by
  have e:b = it:=by simpa using hb
  subst e
  obtain ⟨o,e,c,d⟩:=st
  exact ⟨o,e,fun v z=>by rw [d] at z; cases z⟩
 keep:=fun i h h' st k=>st.at fun o e=>k it (by simp) o e
 item:=by
  intro X hP hw hK hc i pins s σ H E I hf st hg
  subst hP hw hK
  obtain ⟨xs,x,hq,hx⟩:=hg
  obtain ⟨its,rv,p,hz⟩:=I.list hq
  obtain ⟨u,hu,ru⟩:=rv.get hx
  obtain ⟨f0,f1,f2,f3,f4,f5⟩:=hf it (by simp)
  refine wpAny_pyNext_list_item st p.isList (x:=u) (by simpa using hu) fun h' st' sb=>?_
  have I1:Inv X pins σ H { s with heap:=h' }:=I.turned (t':=s.toks) (fun b o hb e=>(sb.2 b hb).trans e) f0 f1 f3 f4 f5
  obtain ⟨o,e,c,d⟩:=id st'
  exact ⟨u,rfl,zic (s:={ s with heap:=h' }) e c d (by decide) ⟨x,H,I1,ru,⟨rfl,fun ys hy=>by rw [I.list_inj hy hq]; exact hx⟩,st',fun b hb=>(hf b hb).1⟩⟩
 done:=by
  intro X hP hw hK hc i pins s σ H E I hf st hg
  subst hP hw hK
  obtain ⟨xs,hq,hx⟩:=hg
  obtain ⟨its,rv,p,hz⟩:=I.list hq
  obtain ⟨f0,f1,f2,f3,f4,f5⟩:=hf it (by simp)
  have hl:=rv.length
  exact wpAny_pyNext_list_end (I.ok.hd hc) st p.isList (by simp; omega) fun h' eb=>⟨rfl,I.turned (t':=s.toks) (fun b o hb e=>eb b o hb e) f0 f1 f3 f4 f5⟩
 self:=fun _ _ _ _ _ st h=>wpAny_pyIter_listiter st h
theorem ze1 {P:Program} {w:World} {K:PySem.W.Frag} {tg:Expr} (it:Addr) (lo:Int) (n:Nat):Turn P w K tg (Itr lo n) [it] it (fun i h=>IsRangeIter h it (lo + (i:Nat) * 1) ((n:Int) - (i:Nat)) 1) where
 mem:=by simp
 obj:=fun i h st b hb=>by
  have e:b = it:=by simpa using hb
  subst e
  exact ⟨_,st,fun v z=>by
   have z':Data.fields _ = Data.cell v:=z
   cases z'⟩
 keep:=fun i h h' st k=>k it (by simp) _ st
 item:=by
  intro X hP hw hK hc i pins s σ H E I hf st hg
  subst hP hw hK
  obtain ⟨f0,f1,f2,f3,f4,f5⟩:=hf it (by simp)
  have W:=Walks.range (prog:=X.prog) (w:=X.w) (I.ok.hd hc) it lo 1 n
  refine W.item i s _ _ hg st fun v h' tk hv st' kk=>?_
  obtain ⟨t,rfl⟩:=hv
  have I1:Inv X pins σ H { s with heap:=h',toks:=tk }:=I.turned (fun b o hb e=>kk b o (by simpa using hb) e) f0 f1 f3 f4 f5
  refine ⟨_,rfl,zic (s:={ s with heap:=h',toks:=tk }) (n := "range_iterator") st' rfl rfl (by decide) ⟨.int (lo + i),H,I1,⟨t,?_⟩,⟨rfl,rfl⟩,st',fun b hb=>(hf b hb).1⟩⟩
  rw [Int.mul_one]
 done:=by
  intro X hP hw hK hc i pins s σ H E I hf st hg
  subst hP hw hK
  obtain ⟨f0,f1,f2,f3,f4,f5⟩:=hf it (by simp)
  exact wpAny_pyNext_range_end (I.ok.hd hc) st (by have:n ≤ i:=hg; omega) fun h' eb=>⟨rfl,I.turned (t':=s.toks) (fun b o hb e=>eb b o hb e) f0 f1 f3 f4 f5⟩
 self:=fun _ _ _ _ _ st h=>wpAny_pyIter_rangeiter st h
end L2
namespace L2
open PySem PySem.Spec PyProof.Rows
section
variable {X:Cx} {tg:Expr}
def zid (K:PySem.W.Frag) (tl:TE):TI:=fun σ H R=>tl σ H fun x H1=>∃ a,x = .ref a ∧ (∃ xs,SqL K H1 a xs) ∧ R (Itl K a) H1
theorem z18 {l:Expr} {tl:TE} (hl:PE X l tl):PI X tg l (zid X.K tl):=by
 intro pins s σ H R I h
 refine thn (hl pins s σ H _ I h) fun v s1 ⟨x,H1,I1,r1,q1⟩=>?_
 obtain ⟨a,e,⟨xs,hq⟩,q⟩:=q1
 subst e
 cases r1
 obtain ⟨its,rv,p,hz⟩:=I1.list hq
 refine wpAny_pyIter_list p.isList ?_
 refine ⟨s1.heap.objs.size,[s1.heap.objs.size],_,_,H1,rfl,I1.kept (t':=s1.toks) fun b o e=>Heap.get?_push_of_some _ e,zf9 a _,⟨_,Heap.get?_push_size _ rfl,rfl,rfl⟩,fun b hb=>?_,q⟩
 have e:b = s1.heap.objs.size:=by simpa using hb
 subst e
 exact I1.fpOk (Nat.le_refl _) (I1.hok.fresh (Nat.le_refl _))
theorem zbp {pins:List (Addr × Obj)} {σ:St} {H:Hp} {s:Shared} {R:It → Hp → Prop} {E:Value → Shared → Prop} {lo hi:Int} {t u v:Tok} {tk:Nat} (I:Inv X pins σ H s) (h1:-(2 ^ 62) ≤ lo) (h2:lo < 2 ^ 62) (h3:-(2 ^ 62) ≤ hi) (h4:hi < 2 ^ 62)
  (q:R (Itr lo (hi - lo).toNat) H):wpAny (model X.prog X.w) X.A (pyIter (.ref s.heap.objs.size)) (PIE X pins σ tg R) E { s with heap:=s.heap.push { cls:=.type "range",data:=.fields #[.int lo t,.int hi u,.int 1 v] },toks:=tk }:=by
 refine wpAny_pyIter_range (IsRange.new ..) (small_one h1 h2 h3 h4) ?_
 have I1:Inv X pins σ H { s with heap:=s.heap.push { cls:=.type "range",data:=.fields #[.int lo t,.int hi u,.int 1 v] },toks:=tk }:=I.kept fun b o e=>Heap.get?_push_of_some _ e
 refine ⟨(s.heap.push { cls:=.type "range",data:=.fields #[.int lo t,.int hi u,.int 1 v] }).objs.size,[(s.heap.push { cls:=.type "range",data:=.fields #[.int lo t,.int hi u,.int 1 v] }).objs.size],_,_,H,rfl,
  I1.kept (t':=tk) fun b o e=>Heap.get?_push_of_some _ e,ze1 _ lo (hi - lo).toNat,?_,fun b hb=>?_,q⟩
 ·have e1:lo + ((0:Nat):Int) * 1 = lo:=by simp
  have e2:(((hi - lo).toNat:Nat):Int) - ((0:Nat):Int) = Builtin.Range.rangeSize lo hi 1:=by rw [rangeSize_one]; split <;> omega
  show IsRangeIter _ _ (lo + ((0:Nat):Int) * 1) ((((hi - lo).toNat:Nat):Int) - ((0:Nat):Int)) 1
  rw [e1,e2]
  exact Heap.get?_push_size _ rfl
 ·have e:b = (s.heap.push { cls:=.type "range",data:=.fields #[.int lo t,.int hi u,.int 1 v] }).objs.size:=by simpa using hb
  subst e
  exact I1.fpOk (Nat.le_refl _) (I1.hok.fresh (Nat.le_refl _))
def ze2 (ta:TA):TI:=fun σ H R=>ta σ H fun vs H1=>∃ j:Int,vs = [.int j] ∧ -(2 ^ 62) ≤ j ∧ j < 2 ^ 62 ∧ R (Itr 0 j.toNat) H1
def zie (ta:TA):TI:=fun σ H R=>ta σ H fun vs H1=>∃ i j:Int,vs = [.int i,.int j] ∧ (-(2 ^ 62) ≤ i ∧ i < 2 ^ 62 ∧ -(2 ^ 62) ≤ j ∧ j < 2 ^ 62) ∧ R (Itr i (j - i).toNat) H1
theorem z2q {a:Expr} {ta:TA} {p pos:Pos} (hg:Gl X "range") (hm:X.mg "range" = none) (ha:PA X [a] ta) (hs:starEach [a] X.env = [(false,eval a X.env)]:=by rfl):PI X tg (.Call (.Name "range" p) [a] [] pos) (ze2 ta):=by
 intro pins s σ H R I h
 refine Call_ (z46 I hg hm boot_range (PyProof.Rows.callWith_type1 (thn (ha pos pins s σ H _ I h) fun us s1 ⟨vs,H1,I1,r1,q1⟩=>?_) hs rfl))
 obtain ⟨j,e,q1,q2,q⟩:=q1
 subst e
 cases r1 with
 | cons r rr =>
  cases rr
  obtain ⟨t,rfl⟩:=r
  exact call_range_1 (zbp I1 (by omega) (by omega) q1 q2 (by simpa using q))
theorem zfa {a b:Expr} {ta:TA} {p pos:Pos} (hg:Gl X "range") (hm:X.mg "range" = none) (ha:PA X [a,b] ta) (hs:starEach [a,b] X.env = [(false,eval a X.env),(false,eval b X.env)]:=by rfl) (hs2:starEach [b] X.env = [(false,eval b X.env)]:=by rfl) :
  PI X tg (.Call (.Name "range" p) [a,b] [] pos) (zie ta):=by
 intro pins s σ H R I h
 refine Call_ (z46 I hg hm boot_range (PyProof.Rows.callWith_type1 (thn (ha pos pins s σ H _ I h) fun us s1 ⟨vs,H1,I1,r1,q1⟩=>?_) (by rw [hs,hs2]) (by rw [hs2]; rfl)))
 obtain ⟨i,j,e,⟨q1,q2,q3,q4⟩,q⟩:=q1
 subst e
 cases r1 with
 | cons r rr =>
  cases rr with
  | cons r' rr =>
   cases rr
   obtain ⟨t,rfl⟩:=r
   obtain ⟨t',rfl⟩:=r'
   exact call_range_2 (zbp I1 q1 q2 q3 q4 q)
def tFor (wi:TI) (g:TG) (tb:TS):TS:=fun D σ H=>wi σ H fun J H1=>∃ W:Nat → Nat → St → Hp → Prop,(∃ m,W 0 m σ H1) ∧ ∀ i m σ H,W i m σ H →
 (J.stop i H ∧ D.nx σ H) ∨ (J.go i H ∧ ∃ N:St → Hp → Prop,(∀ σ' H',N σ' H' → ∃ m',m' < m ∧ W (i + 1) m' σ' H') ∧ ∀ x H',J.yld i H x H' → g x σ H' fun σ2 H2=>tb { D with nx:=N,ct:=N,bk:=D.nx } σ2 H2)
def z4q (fp:List Addr) (h:Heap):List (Addr × Obj):=fp.filterMap fun b=>(h.get? b).map fun o=>(b,o)
theorem z33 {fp:List Addr} {h:Heap} {b:Addr} {o:Obj} (hb:b ∈ fp) (e:h.get? b = some o):(b,o) ∈ z4q fp h:=List.mem_filterMap.mpr ⟨b,hb,by rw [e]; rfl⟩
theorem zfb {fp:List Addr} {h:Heap} {p:Addr × Obj} (hp:p ∈ z4q fp h):p.1 ∈ fp ∧ h.get? p.1 = some p.2:=by
 obtain ⟨b,hb,e⟩:=List.mem_filterMap.mp hp
 cases q:h.get? b with
 | none=>rw [q] at e; cases e
 | some o =>
  rw [q] at e
  have e':(b,o) = p:=Option.some.inj e
  subst e'
  exact ⟨hb,q⟩
theorem Inv.pinned {pins:List (Addr × Obj)} {σ:St} {H:Hp} {s:Shared} {fp:List Addr} (I:Inv X pins σ H s) (hf:∀ b ∈ fp,FpOk X pins H b) (ho:∀ b ∈ fp,∃ o,s.heap.get? b = some o ∧ ∀ v,o.data ≠ .cell v):Inv X (pins ++ z4q fp s.heap) σ H s :=
 I.pins_of fun p hp=>(List.mem_append.mp hp).elim (fun z=>I.pin p (List.mem_append_right _ z)) fun z=>by
  obtain ⟨hb,e⟩:=zfb z
  obtain ⟨f0,f1,f2,_⟩:=hf p.1 hb
  obtain ⟨o,e',d⟩:=ho p.1 hb
  rw [e] at e'; cases e'
  exact ⟨e,f0,f1,f2,d⟩
theorem Inv.unpinned {pins pl:List (Addr × Obj)} {σ:St} {H:Hp} {s:Shared} (I:Inv X (pins ++ pl) σ H s):Inv X pins σ H s:=I.pins_of fun p hp=>I.pin p (List.mem_append_right _ (List.mem_append_left _ hp))
theorem z25 {iter:Expr} {body:List Stmt} {wi:TI} {g:TG} {tb:TS} {pos:Pos} (hp:PassesOwn (model X.prog X.w) X.A X.env X.xe) (hc:X.calm = true) (hi:PI X tg iter wi) (hg:PG X tg g) (hb:PSs X body tb)
  (hs:∀ x,foldedSetIterable iter X.env x = pure x:=by intro _; rfl):PS X (.For tg iter body [] pos) (tFor wi g tb):=by
 intro pins s σ H D I h
 refine wpAny_For (thn (hi pins s σ H _ I h) fun v s1 h1=>thn h1 fun itv s2 h2=>?_) hs
 obtain ⟨it,fp,tn,J,H2,e,I2,T,st2,f2,W,⟨m0,w0⟩,turn⟩:=h2
 subst e
 have stat:∀ {H':Hp},(∀ b ∈ fp,H' b = none) → ∀ b ∈ fp,FpOk X pins H' b:=fun hn b hb=>⟨hn b hb,(f2 b hb).2⟩
 refine codeAny_forLoop_any (fun n s'=>∃ i σ' H',Inv X pins σ' H' s' ∧ tn i s'.heap ∧ (∀ b ∈ fp,H' b = none) ∧ W i n σ' H') ?_ m0 ⟨0,σ,H2,I2,st2,fun b hb=>(f2 b hb).1,w0⟩
 rintro n s3 ⟨i,σ3,H3,I3,st3,fr3,w3⟩
 rcases turn i n σ3 H3 w3 with ⟨stop,qn⟩ | ⟨go,N,hN,step⟩
 ·refine wpAny_passesOwn hp (thn (T.done X rfl rfl rfl hc i pins s3 σ3 H3 X.xe I3 (stat fr3) st3 stop) fun r s4 ⟨hr,I4⟩=>?_)
  subst hr
  exact wpAny_execs_nil ⟨σ3,H3,I4,qn⟩
 ·refine wpAny_passesOwn hp (thn (T.item X rfl rfl rfl hc i pins s3 σ3 H3 X.xe I3 (stat fr3) st3 go) fun r s4 ⟨u,hr,h4⟩=>?_)
  subst hr
  refine wpAny_passesOwn hp (thn h4 fun _ s5 ⟨x,H5,I5,r5,y5,st5,fr5⟩=>?_)
  have I5':=I5.pinned (stat fr5) (T.obj _ _ st5)
  refine wpAny_passesOwn hp (thn (hg _ s5 σ3 H5 x u _ I5' r5 (step x H5 y5)) fun _ s6 ⟨σ6,H6,I6,q6⟩=>?_)
  refine wpAny_passesOwn hp (thn (hb _ s6 σ6 H6 _ I6 q6) fun f s7 q7=>?_)
  have again:∀ {σ7:St} {H7:Hp},Inv X (pins ++ z4q fp s5.heap) σ7 H7 s7 → N σ7 H7 → ∃ m,m < n ∧ ∃ i σ' H',Inv X pins σ' H' s7 ∧ tn i s7.heap ∧ (∀ b ∈ fp,H' b = none) ∧ W i m σ' H':=fun {σ7 H7} I7 n7=>by
   obtain ⟨m',hm,w7⟩:=hN σ7 H7 n7
   refine ⟨m',hm,i + 1,σ7,H7,I7.unpinned,T.keep _ _ _ st5 fun b hb o e=>(I7.pin (b,o) (List.mem_append_right _ (List.mem_append_right _ (z33 hb e)))).1,fun b hb=>?_,w7⟩
   obtain ⟨o,e,d⟩:=T.obj _ _ st5 b hb
   exact (I7.pin (b,o) (List.mem_append_right _ (List.mem_append_right _ (z33 hb e)))).2.1
  cases f with
  | next=>obtain ⟨σ7,H7,I7,n7⟩:=q7; exact again I7 n7
  | cont=>obtain ⟨σ7,H7,I7,n7⟩:=q7; exact again I7 n7
  | brk=>obtain ⟨σ7,H7,I7,q7⟩:=q7; exact ⟨σ7,H7,I7.unpinned,q7⟩
  | ret v=>obtain ⟨x7,σ7,H7,I7,r7,q7⟩:=q7; exact ⟨x7,σ7,H7,I7.unpinned,r7,q7⟩
end
theorem zhc {K:PySem.W.Frag} {a:Addr} {xs:List V} {g:TG} {tb:TS} {D:Ends} {σ:St} {H:Hp} (Pv:Nat → St → Hp → Prop) (h0:Pv 0 σ H) (hl:∀ i σ H,i ≤ xs.length → Pv i σ H → SqL K H a xs)
  (hs:∀ i x σ H,xs[i]? = some x → Pv i σ H → g x σ H fun σ2 H2=>tb { D with nx:=Pv (i + 1),ct:=Pv (i + 1),bk:=D.nx } σ2 H2) (hd:∀ σ H,Pv xs.length σ H → D.nx σ H) :
  ∃ W:Nat → Nat → St → Hp → Prop,(∃ m,W 0 m σ H) ∧ ∀ i m σ H,W i m σ H →
   ((Itl K a).stop i H ∧ D.nx σ H) ∨ ((Itl K a).go i H ∧ ∃ N:St → Hp → Prop,(∀ σ' H',N σ' H' → ∃ m',m' < m ∧ W (i + 1) m' σ' H') ∧ ∀ x H',(Itl K a).yld i H x H' → g x σ H' fun σ2 H2=>tb { D with nx:=N,ct:=N,bk:=D.nx } σ2 H2):=by
 refine ⟨fun i m σ H=>m = xs.length - i ∧ i ≤ xs.length ∧ Pv i σ H,⟨xs.length,by simp,Nat.zero_le _,h0⟩,?_⟩
 rintro i m σ H ⟨rfl,hi,p⟩
 have q:=hl i σ H hi p
 by_cases hlt:i < xs.length
 ·refine .inr ⟨⟨xs,xs[i],q,by simp [hlt]⟩,Pv (i + 1),fun σ' H' p'=>⟨xs.length - (i + 1),by omega,rfl,hlt,p'⟩,fun x H' y=>?_⟩
  obtain ⟨e,y⟩:=y
  subst e
  exact hs i x σ _ (y xs q) p
 ·have e:i = xs.length:=by omega
  subst e
  exact .inl ⟨⟨xs,q,Nat.le_refl _⟩,hd σ H p⟩
theorem zfc {lo:Int} {n:Nat} {g:TG} {tb:TS} {D:Ends} {σ:St} {H:Hp} (Pv:Nat → St → Hp → Prop) (h0:Pv 0 σ H)
  (hs:∀ i σ H,i < n → Pv i σ H → g (.int (lo + i)) σ H fun σ2 H2=>tb { D with nx:=Pv (i + 1),ct:=Pv (i + 1),bk:=D.nx } σ2 H2) (hd:∀ σ H,Pv n σ H → D.nx σ H) :
  ∃ W:Nat → Nat → St → Hp → Prop,(∃ m,W 0 m σ H) ∧ ∀ i m σ H,W i m σ H →
   ((Itr lo n).stop i H ∧ D.nx σ H) ∨ ((Itr lo n).go i H ∧ ∃ N:St → Hp → Prop,(∀ σ' H',N σ' H' → ∃ m',m' < m ∧ W (i + 1) m' σ' H') ∧ ∀ x H',(Itr lo n).yld i H x H' → g x σ H' fun σ2 H2=>tb { D with nx:=N,ct:=N,bk:=D.nx } σ2 H2):=by
 refine ⟨fun i m σ H=>m = n - i ∧ i ≤ n ∧ Pv i σ H,⟨n,by simp,Nat.zero_le _,h0⟩,?_⟩
 rintro i m σ H ⟨rfl,hi,p⟩
 by_cases hlt:i < n
 ·refine .inr ⟨hlt,Pv (i + 1),fun σ' H' p'=>⟨n - (i + 1),by omega,rfl,hlt,p'⟩,fun x H' y=>?_⟩
  obtain ⟨e,y⟩:=y
  subst e y
  exact hs i σ _ hlt p
 ·have e:i = n:=by omega
  subst e
  exact .inl ⟨Nat.le_refl _,hd σ H p⟩
end L2
namespace L2
open PySem PySem.Spec PyProof.Rows
abbrev R2:=V → V → Hp → VK → Prop
def OpR (X:Cx) (f:Value → Value → Sem Value) (r:R2):Prop :=
 ∀ (pins:List (Addr × Obj)) (s:Shared) (σ:St) (H:Hp) (x y:V) (v u:Value) (Q:VK),Inv X pins σ H s → RelV x v → RelV y u → r x y H Q →
  wpAny (model X.prog X.w) X.A (f v u) (EP X pins σ Q) X.xe s
def UnR (X:Cx) (f:Value → Sem Value) (r:V → Hp → VK → Prop):Prop :=
 ∀ (pins:List (Addr × Obj)) (s:Shared) (σ:St) (H:Hp) (x:V) (v:Value) (Q:VK),Inv X pins σ H s → RelV x v → r x H Q →
  wpAny (model X.prog X.w) X.A (f v) (EP X pins σ Q) X.xe s
def CallR (X:Cx) (f:Value) (r:List V → Hp → VK → Prop):Prop :=
 ∀ (pins:List (Addr × Obj)) (s:Shared) (σ:St) (H:Hp) (xs:List V) (us:List Value) (Q:VK),Inv X pins σ H s → Vals xs us → r xs H Q →
  wpAny (model X.prog X.w) X.A (call f us) (EP X pins σ Q) X.xe s
def tOp (r:R2) (ta tb:TE):TE:=fun σ H Q=>ta σ H fun x H1=>tb σ H1 fun y H2=>r x y H2 Q
def tUn (r:V → Hp → VK → Prop) (ta:TE):TE:=fun σ H Q=>ta σ H fun x H1=>r x H1 Q
def rI (C:Int → Int → Prop) (g:Int → Int → V):R2:=fun x y H Q=>∃ i j,x = .int i ∧ y = .int j ∧ C i j ∧ Q (g i j) H
def rI0 (g:Int → Int → V):R2:=fun x y H Q=>∃ i j,x = .int i ∧ y = .int j ∧ Q (g i j) H
def rU (g:Int → V):V → Hp → VK → Prop:=fun x H Q=>∃ i,x = .int i ∧ Q (g i) H
section
variable {X:Cx} {a b c:Expr} {ta tb tc:TE} {pos:Pos}
theorem binT (ha:PE X a ta) (hb:PE X b tb) {pins:List (Addr × Obj)} {s:Shared} {σ:St} {H:Hp} {R:V → V → Hp → Prop} (I:Inv X pins σ H s)
  (h:ta σ H fun x H1=>tb σ H1 fun y H2=>R x y H2) {Q:Value → Shared → Prop} {f:Value → Value → Sem Value}
  (hf:∀ v u s2 x y H2,Inv X pins σ H2 s2 → RelV x v → RelV y u → R x y H2 → wpAny (model X.prog X.w) X.A (f v u) Q X.xe s2) :
  wpAny (model X.prog X.w) X.A (eval a X.env) (fun v s₁=>wpAny (model X.prog X.w) X.A (eval b X.env) (fun u s₂=>wpAny (model X.prog X.w) X.A (f v u) Q X.xe s₂) X.xe s₁) X.xe s:=by
 refine thn (ha pins s σ H _ I h) fun v s1 ⟨x,H1,I1,r1,q1⟩=>?_
 refine thn (hb pins s1 σ H1 _ I1 q1) fun u s2 ⟨y,H2,I2,r2,q2⟩=>?_
 exact hf v u s2 x y H2 I2 r1 r2 q2
theorem zf {op:Operator} {r:R2} (ho:OpR X (binaryOp op) r) (ha:PE X a ta) (hb:PE X b tb):PE X (.BinOp a op b pos) (tOp r ta tb):=by
 intro pins s σ H Q I h
 exact wpAny_BinOp (binT ha hb I h fun v u s2 x y H2 I2 rx ry q=>ho pins s2 σ H2 x y v u Q I2 rx ry q)
theorem zif {op:UnaryOp} {r:V → Hp → VK → Prop} (ho:UnR X (unaryOp op) r) (ha:PE X a ta):PE X (.UnaryOp op a pos) (tUn r ta):=by
 intro pins s σ H Q I h
 exact UnaryOp_ (thn (ha pins s σ H _ I h) fun v s1 ⟨x,H1,I1,r1,q1⟩=>ho pins s1 σ H1 x v Q I1 r1 q1)
theorem opI {f:Value → Value → Sem Value} {C:Int → Int → Prop} {g:Int → Int → Int}
  (rule:∀ (i j:Int) (t u:Tok) (s:Shared) (Q:Value → Shared → Prop) (E:Value → Shared → Prop),C i j → Q (.int (g i j) s.toks) { s with toks:=s.toks + 1 } → wpAny (model X.prog X.w) X.A (f (.int i t) (.int j u)) Q E s) :
  OpR X f (rI C fun i j=>.int (g i j)):=by
 intro pins s σ H x y v u Q I rx ry h
 obtain ⟨i,j,rfl,rfl,hc,q⟩:=h
 obtain ⟨t,rfl⟩:=rx
 obtain ⟨t',rfl⟩:=ry
 exact rule i j t t' s _ _ hc ⟨.int (g i j),H,I.tok _,⟨_,rfl⟩,q⟩
theorem opI0 {f:Value → Value → Sem Value} {g:Int → Int → Int}
  (rule:∀ (i j:Int) (t u:Tok) (s:Shared) (Q:Value → Shared → Prop) (E:Value → Shared → Prop),Q (.int (g i j) s.toks) { s with toks:=s.toks + 1 } → wpAny (model X.prog X.w) X.A (f (.int i t) (.int j u)) Q E s) :
  OpR X f (rI0 fun i j=>.int (g i j)):=by
 intro pins s σ H x y v u Q I rx ry h
 obtain ⟨i,j,rfl,rfl,q⟩:=h
 obtain ⟨t,rfl⟩:=rx
 obtain ⟨t',rfl⟩:=ry
 exact rule i j t t' s _ _ ⟨.int (g i j),H,I.tok _,⟨_,rfl⟩,q⟩
theorem opB0 {f:Value → Value → Sem Value} {g:Int → Int → Bool}
  (rule:∀ (i j:Int) (t u:Tok) (s:Shared) (Q:Value → Shared → Prop) (E:Value → Shared → Prop),Q (.bool (g i j)) s → wpAny (model X.prog X.w) X.A (f (.int i t) (.int j u)) Q E s) :
  OpR X f (rI0 fun i j=>.bl (g i j)):=by
 intro pins s σ H x y v u Q I rx ry h
 obtain ⟨i,j,rfl,rfl,q⟩:=h
 obtain ⟨t,rfl⟩:=rx
 obtain ⟨t',rfl⟩:=ry
 exact rule i j t t' s _ _ ⟨.bl (g i j),H,I,rfl,q⟩
def CDiv (i j:Int):Prop:=0 < j ∧ j < 1073741824
def CMul (i j:Int):Prop:=(-(2 ^ 64) < i ∧ i < 2 ^ 64) ∨ (-(2 ^ 64) < j ∧ j < 2 ^ 64)
theorem CMul.ok {i j:Int} (h:CMul i j):IntMulOk i j:=by
 rcases h with ⟨h1,h2⟩ | ⟨h1,h2⟩
 ·exact .of_left (intBits_le_64 h1 h2)
 ·exact .of_right (intBits_le_64 h1 h2)
theorem z14:OpR X (binaryOp .Add) (rI0 fun i j=>.int (i + j)):=opI0 fun _ _ _ _ _ _ _ q=>add_int q
theorem z2u:OpR X (binaryOp .Sub) (rI0 fun i j=>.int (i - j)):=opI0 fun _ _ _ _ _ _ _ q=>sub_int q
theorem z6i:OpR X (binaryOp .Mult) (rI CMul fun i j=>.int (i * j)):=opI fun _ _ _ _ _ _ _ hc q=>mul_int q hc.ok
theorem z19:OpR X (binaryOp .FloorDiv) (rI CDiv fun i j=>.int (i / j)):=opI fun i j _ _ _ _ _ hc q=>by
 have h1:(0:Int) < j:=hc.1
 have h2:j < 1073741824:=hc.2
 exact floordiv_int (by omega) (by rw [Int.fdiv_eq_ediv_of_nonneg i (by omega)]; exact q) (.inl (PyProof.noPylong_small (by omega)))
theorem z10:OpR X (binaryOp .Mod) (rI (fun _ j=>0 < j) fun i j=>.int (i % j)):=opI fun i j _ _ _ _ _ hc q=>by
 have h1:(0:Int) < j:=hc
 exact mod_int' (by omega) (by rw [Int.fmod_eq_emod_of_nonneg i (by omega)]; exact q)
theorem unI {f:Value → Sem Value} {g:Int → Int}
  (rule:∀ (i:Int) (t:Tok) (s:Shared) (Q:Value → Shared → Prop) (E:Value → Shared → Prop),Q (.int (g i) s.toks) { s with toks:=s.toks + 1 } → wpAny (model X.prog X.w) X.A (f (.int i t)) Q E s) :
  UnR X f (rU fun i=>.int (g i)):=by
 intro pins s σ H x v Q I rx h
 obtain ⟨i,rfl,q⟩:=h
 obtain ⟨t,rfl⟩:=rx
 exact rule i t s _ _ ⟨.int (g i),H,I.tok _,⟨_,rfl⟩,q⟩
theorem zfd:UnR X (unaryOp .USub) (rU fun i=>.int (-i)):=unI fun _ _ _ _ _ q=>neg_int q
end
def scal:V → V → Bool
 | .non,.non=>true | .non,.int _=>true | .int _,.non=>true | .non,.bl _=>true | .bl _,.non=>true | .non,.str _=>true | .str _,.non=>true
 | .int _,.int _=>true | .bl _,.bl _=>true | .str _,.str _=>true | .byt _,.byt _=>true
 | .int _,.str _=>true | .str _,.int _=>true | .bl _,.str _=>true | .str _,.bl _=>true
 | _,_=>false
def rEq:R2:=fun x y H Q=>scal x y = true ∧ Q (.bl (decide (x = y))) H
def rNe:R2:=fun x y H Q=>scal x y = true ∧ Q (.bl (!decide (x = y))) H
theorem zdg {i j:Int}:decide (V.int i = V.int j) = (i == j):=by
 rw [Bool.eq_iff_iff]
 simp
theorem zfe {i j:Bool}:decide (V.bl i = V.bl j) = (i == j):=by
 rw [Bool.eq_iff_iff]
 simp
theorem zdh {i j:Str}:decide (V.str i = V.str j) = (i == j):=by
 rw [Bool.eq_iff_iff]
 simp
theorem zdi {i j:Array UInt8}:decide (V.byt i = V.byt j) = (i.toList == j.toList):=by
 rw [Bool.eq_iff_iff]
 cases i
 cases j
 simp
section
variable {X:Cx} {a b c:Expr} {ta tb tc:TE} {pos:Pos}
theorem z11 {pins:List (Addr × Obj)} {σ:St} {H:Hp} {s:Shared} {Q:VK} {k k':Bool} (I:Inv X pins σ H s) (q:Q (.bl k) H) (e:k = k'):EP X pins σ Q (.bool k') s:=by
 subst e
 exact ⟨.bl k,H,I,rfl,q⟩
theorem z1a:OpR X (compareOp .Eq) rEq:=by
 intro pins s σ H x y v u Q I rx ry h
 obtain ⟨hs,q⟩:=h
 cases x with
 | non =>
  cases rx
  cases y with
  | non=>cases ry; exact PySem.EqNone.eq_none_none (z11 I q (by simp))
  | bl j=>cases ry; exact PySem.EqNone.eq_none_bool (z11 I q (by simp))
  | int j=>obtain ⟨t',rfl⟩:=ry; exact PySem.EqNone.eq_none_int (z11 I q (by simp))
  | str j=>obtain ⟨t',rfl⟩:=ry; exact PySem.EqNone.eq_none_str (z11 I q (by simp))
  | _=>exact absurd (show false = true from hs) Bool.false_ne_true
 | bl i =>
  cases rx
  cases y with
  | non=>cases ry; exact PySem.EqNone.eq_bool_none (z11 I q (by simp))
  | bl j=>cases ry; exact eq_bool (z11 I q zfe)
  | str j=>obtain ⟨t',rfl⟩:=ry; exact PySem.EqMixed.eq_bool_str (z11 I q (by simp))
  | _=>exact absurd (show false = true from hs) Bool.false_ne_true
 | int i =>
  obtain ⟨t,rfl⟩:=rx
  cases y with
  | non=>cases ry; exact PySem.EqNone.eq_int_none (z11 I q (by simp))
  | int j=>obtain ⟨t',rfl⟩:=ry; exact eq_int (z11 I q zdg)
  | str j=>obtain ⟨t',rfl⟩:=ry; exact PySem.EqMixed.eq_int_str (z11 I q (by simp))
  | _=>exact absurd (show false = true from hs) Bool.false_ne_true
 | str i =>
  obtain ⟨t,rfl⟩:=rx
  cases y with
  | non=>cases ry; exact PySem.EqNone.eq_str_none (z11 I q (by simp))
  | bl j=>cases ry; exact PySem.EqMixed.eq_str_bool (z11 I q (by simp))
  | int j=>obtain ⟨t',rfl⟩:=ry; exact PySem.EqMixed.eq_str_int (z11 I q (by simp))
  | str j=>obtain ⟨t',rfl⟩:=ry; exact eq_str (z11 I q zdh)
  | _=>exact absurd (show false = true from hs) Bool.false_ne_true
 | byt i =>
  obtain ⟨t,rfl⟩:=rx
  cases y with
  | byt j=>obtain ⟨t',rfl⟩:=ry; exact PySem.W.eq_bytes (z11 I q zdi)
  | _=>exact absurd (show false = true from hs) Bool.false_ne_true
 | _=>cases y <;> exact absurd (show false = true from hs) Bool.false_ne_true
theorem z2r:OpR X (compareOp .NotEq) rNe:=by
 intro pins s σ H x y v u Q I rx ry h
 obtain ⟨hs,q⟩:=h
 cases x with
 | non =>
  cases rx
  cases y with
  | non=>cases ry; exact PySem.EqNone.ne_none_none (z11 I q (by simp))
  | bl j=>cases ry; exact PySem.EqNone.ne_none_bool (z11 I q (by simp))
  | int j=>obtain ⟨t',rfl⟩:=ry; exact PySem.EqNone.ne_none_int (z11 I q (by simp))
  | str j=>obtain ⟨t',rfl⟩:=ry; exact PySem.EqNone.ne_none_str (z11 I q (by simp))
  | _=>exact absurd (show false = true from hs) Bool.false_ne_true
 | bl i =>
  cases rx
  cases y with
  | non=>cases ry; exact PySem.EqNone.ne_bool_none (z11 I q (by simp))
  | bl j=>cases ry; exact ne_bool (z11 I q (congrArg not zfe))
  | str j=>obtain ⟨t',rfl⟩:=ry; exact PySem.EqMixed.ne_bool_str (z11 I q (by simp))
  | _=>exact absurd (show false = true from hs) Bool.false_ne_true
 | int i =>
  obtain ⟨t,rfl⟩:=rx
  cases y with
  | non=>cases ry; exact PySem.EqNone.ne_int_none (z11 I q (by simp))
  | int j=>obtain ⟨t',rfl⟩:=ry; exact ne_int (z11 I q (congrArg not zdg))
  | str j=>obtain ⟨t',rfl⟩:=ry; exact PySem.EqMixed.ne_int_str (z11 I q (by simp))
  | _=>exact absurd (show false = true from hs) Bool.false_ne_true
 | str i =>
  obtain ⟨t,rfl⟩:=rx
  cases y with
  | non=>cases ry; exact PySem.EqNone.ne_str_none (z11 I q (by simp))
  | bl j=>cases ry; exact PySem.EqMixed.ne_str_bool (z11 I q (by simp))
  | int j=>obtain ⟨t',rfl⟩:=ry; exact PySem.EqMixed.ne_str_int (z11 I q (by simp))
  | str j=>obtain ⟨t',rfl⟩:=ry; exact ne_str (z11 I q (congrArg not zdh))
  | _=>exact absurd (show false = true from hs) Bool.false_ne_true
 | byt i =>
  obtain ⟨t,rfl⟩:=rx
  cases y with
  | byt j=>obtain ⟨t',rfl⟩:=ry; exact PySem.W.ne_bytes (z11 I q (congrArg not zdi))
  | _=>exact absurd (show false = true from hs) Bool.false_ne_true
 | _=>cases y <;> exact absurd (show false = true from hs) Bool.false_ne_true
theorem z76:OpR X (compareOp .Lt) (rI0 fun i j=>.bl (decide (i < j))):=opB0 fun _ _ _ _ _ _ _ q=>lt_int q
theorem ze3:OpR X (compareOp .LtE) (rI0 fun i j=>.bl (decide (i ≤ j))):=opB0 fun _ _ _ _ _ _ _ q=>le_int q
theorem zbh:OpR X (compareOp .Gt) (rI0 fun i j=>.bl (decide (j < i))):=opB0 fun _ _ _ _ _ _ _ q=>gt_int q
theorem zbi:OpR X (compareOp .GtE) (rI0 fun i j=>.bl (decide (j ≤ i))):=opB0 fun _ _ _ _ _ _ _ q=>ge_int q
theorem OpR.or {f:Value → Value → Sem Value} {r r':R2} (h:OpR X f r) (h':OpR X f r'):OpR X f (fun x y H Q=>r x y H Q ∨ r' x y H Q):=by
 intro pins s σ H x y v u Q I rx ry q
 rcases q with q | q
 ·exact h pins s σ H x y v u Q I rx ry q
 ·exact h' pins s σ H x y v u Q I rx ry q
theorem zm (b:Expr) {op:CmpOp} (h:op ≠ .In:=by decide) (h2:op ≠ .NotIn:=by decide):behindInMarks op b = false:=by
 have e1:(op == CmpOp.In) = false:=by cases op <;> first | rfl | exact absurd rfl h
 have e2:(op == CmpOp.NotIn) = false:=by cases op <;> first | rfl | exact absurd rfl h2
 cases b <;> simp [behindInMarks,e1,e2]
theorem z1e {op:CmpOp} {r:R2} (ho:OpR X (compareOp op) r) (ha:PE X a ta) (hb:PE X b tb) (hm:behindInMarks op b = false):PE X (.Compare a [op] [b] pos) (tOp r ta tb):=by
 intro pins s σ H Q I h
 exact wpAny_Compare1 (binT ha hb I h fun v u s2 x y H2 I2 rx ry q=>ho pins s2 σ H2 x y v u Q I2 rx ry q) hm
def ze4 (t:TE):TT:=fun σ H Q=>t σ H fun x H'=>∃ k,x = .bl k ∧ Q k H'
theorem zn {op:CmpOp} {r:R2} (ho:OpR X (compareOp op) r) (ha:PE X a ta) (hb:PE X b tb) (hm:behindInMarks op b = false):PT X (.Compare a [op] [b] pos) (ze4 (tOp r ta tb)):=by
 intro pins s σ H Q I h
 refine wpAny_isTrue_Compare1 (thn (ha pins s σ H _ I h) fun v s1 ⟨x,H1,I1,r1,q1⟩=>thn (hb pins s1 σ H1 _ I1 q1) fun u s2 ⟨y,H2,I2,r2,q2⟩ =>
  thn (ho pins s2 σ H2 x y v u _ I2 r1 r2 q2) fun c s3 ⟨z,H3,I3,r3,k,e,q3⟩=>?_) hm
 subst e
 cases r3
 exact wpAny_truthy_bool ⟨H3,I3,q3⟩
def zff (r r':R2) (ta tb tc:TE):TE:=fun σ H Q=>ta σ H fun x H1=>tb σ H1 fun y H2=>r x y H2 fun z H3=>∃ k,z = .bl k ∧
 (if k = true then tc σ H3 fun w' H4=>r' y w' H4 Q else Q (.bl false) H3)
theorem zhd {op op':CmpOp} {r r':R2} (ho:OpR X (compareOp op) r) (ho':OpR X (compareOp op') r') (ha:PE X a ta) (hb:PE X b tb) (hc:PE X c tc)
  (hm:lastMarks [op,op'] [b,c] = false:=by with_unfolding_all rfl):PT X (.Compare a [op,op'] [b,c] pos) (ze4 (zff r r' ta tb tc)):=by
 intro pins s σ H Q I h
 refine isTrue_chain (thn (ha pins s σ H _ I h) fun v s1 ⟨x,H1,I1,r1,q1⟩=>test_link (thn (hb pins s1 σ H1 _ I1 q1) fun u s2 ⟨y,H2,I2,r2,q2⟩ =>
  thn (ho pins s2 σ H2 x y v u _ I2 r1 r2 q2) fun d s3 ⟨z,H3,I3,r3,k,e,q3⟩=>?_)) hm
 subst e
 cases r3
 refine wpAny_truthy_bool ?_
 cases k with
 | false =>
  obtain ⟨k',e',q'⟩:=q3
  cases e'
  exact ite_ff ⟨H3,I3,q'⟩
 | true =>
  refine ite_tt (test_last (thn (hc pins s3 σ H3 _ I3 q3) fun w' s4 ⟨z',H4,I4,r4,q4⟩=>thn (ho' pins s4 σ H4 y z' u w' _ I4 r2 r4 q4) fun d' s5 ⟨z2,H5,I5,r5,k2,e2,q5⟩=>?_))
  subst e2
  cases r5
  exact wpAny_truthy_bool ⟨H5,I5,q5⟩
theorem z6j:(sizeLine:Nat) < 2 ^ 63:=by rw [sizeLine_eq]; decide
theorem z3j:OpR X (binaryOp .Add) (fun x y H Q=>∃ i j,x = .str i ∧ y = .str j ∧ i.length + j.length ≤ sizeLine ∧ Q (.str (i ++ j)) H):=by
 intro pins s σ H x y v u Q I rx ry h
 obtain ⟨i,j,rfl,rfl,hz,q⟩:=h
 obtain ⟨t,rfl⟩:=rx
 obtain ⟨t',rfl⟩:=ry
 exact add_str (fun t' tk=>⟨.str (i ++ j),H,I.tok _,⟨_,rfl⟩,q⟩) hz
theorem z3k {x:V} {us:List Value} (r:Vals [x] us):∃ u,us = [u] ∧ RelV x u:=by
 cases r with
 | cons r1 r2=>cases r2; exact ⟨_,rfl,r1⟩
theorem ze5 {x y:V} {us:List Value} (r:Vals [x,y] us):∃ u w',us = [u,w'] ∧ RelV x u ∧ RelV y w':=by
 cases r with
 | cons r1 r2 =>
  cases r2 with
  | cons r3 r4=>cases r4; exact ⟨_,_,rfl,r1,r3⟩
theorem zaf (hc:X.calm = true):CallR X (.builtin "min") (fun xs H Q=>∃ i j,xs = [.int i,.int j] ∧ Q (.int (if j < i then j else i)) H):=by
 intro pins s σ H xs us Q I r h
 obtain ⟨i,j,rfl,q⟩:=h
 obtain ⟨u,w',rfl,⟨t,rfl⟩,⟨t',rfl⟩⟩:=ze5 r
 refine min_two_ints (I.ok.hd hc) fun h' tk k=>⟨_,H,I.kept k,?_,q⟩
 by_cases hj:j < i
 ·rw [if_pos hj,if_pos hj]; exact ⟨_,rfl⟩
 ·rw [if_neg hj,if_neg hj]; exact ⟨_,rfl⟩
end
end L2
namespace L2
open PySem PySem.Spec PyProof.Rows
structure ObjM (h:Heap) (x dx C:Addr) (mA:Str → Option Value):Prop where
 obj:h.get? x = some (PySem.W.instObj C dx)
 ns:h.Ns1 dx mA
 ne:dx ≠ x
theorem zfg {h:Heap} {dx:Addr} {mA:Str → Option Value} (n:h.Ns1 dx mA):∃ od,h.get? dx = some od ∧ ∀ name,PySem.W.lookIn name od = some (mA name):=by
 obtain ⟨o,es,ep,ho,hd,hk,_,hm⟩:=n
 refine ⟨o,ho,fun name=>?_⟩
 have e:=hm name
 unfold nsFind findBy at e
 rw [← Array.find?_toList] at e
 unfold PySem.W.lookIn
 rw [hd]
 dsimp only
 split
 ·rename_i y q
  rw [q] at e
  exact congrArg some e
 ·rename_i q
  rw [q] at e
  have a:es.toList.any (·.refKey) = false:=by
   rw [List.any_eq_false]
   intro y hy
   obtain ⟨z,t,hkey⟩:=hk y (Array.mem_toList_iff.mp hy)
   simp [DictEntry.refKey,hkey]
  have a':¬ es.toList.any (·.refKey) = true:=by rw [a]; exact Bool.false_ne_true
  rw [if_neg a']
  exact congrArg some e
theorem ObjM.look {h:Heap} {x dx C:Addr} {mA:Str → Option Value} (I:ObjM h x dx C mA):∃ od,PySem.W.InstAt h x (PySem.W.instObj C dx) C (some od) ∧ ∀ name,PySem.W.lookIn name od = some (mA name) :=
 let ⟨od,ho,hl⟩:=zfg I.ns
 ⟨od,⟨I.obj,rfl,rfl,ho⟩,hl⟩
section
variable {prog:Program} {w:World} {A:Around} {E:Value → Shared → Prop} {s:Shared} {K:PySem.W.Frag} {x dx C f:Addr} {mA:Str → Option Value} {name:Str} {v:Value}
theorem ziw {expr:Bool} {Q:Value → Shared → Prop} (X:K.In s.heap) (I:ObjM s.heap x dx C mA) (hg:PySem.W.plainGet K C name = true) (hh:PySem.W.hasDictIn K C = true)
  (ha:PySem.W.findIn K (.ref C) name = some none) (hv:mA name = some v) (hv':PySem.W.handedIn v = true) (h:Q v { s with toks:=s.toks + 1 }) :
  wpAny (model prog w) A (getAttr (.ref x) name expr) Q E s:=by
 obtain ⟨od,J,hl⟩:=I.look
 exact PySem.W.get_value X J (PySem.W.plainGet_of hg).1 (PySem.W.findObj_own hh ha rfl (by rw [hl,hv])) hv' h
theorem zhe {pl:Sem Bool} {Q:Value × List Value → Shared → Prop} (X:K.In s.heap) (I:ObjM s.heap x dx C mA) (hg:PySem.W.plainGet K C name = true)
  (hf:PySem.W.findIn K (.ref C) name = some (some (.ref f))) (ht:PySem.W.isFn K (.ref f) = true) (hv:mA name = none) (h:Q (.ref f,[.ref x]) s) :
  wpAny (model prog w) A (getMethod (.ref x) name pl) Q E s:=by
 obtain ⟨od,J,hl⟩:=I.look
 exact PySem.W.method_fn X J (PySem.W.plainGet_of hg).1 (PySem.W.plainGet_of hg).2 hf (beq_iff_eq.mp ht) (by show (PySem.W.lookIn name od).map (·.isSome) = some false; rw [hl,hv]; rfl) h
theorem zix {ns:List Str} {Q:Unit → Shared → Prop} (X:K.In s.heap) (I:ObjM s.heap x dx C mA)
  (hs:PySem.W.findIn K (.ref C) "__setattr__" = some (some (.builtin "object.__setattr__"))) (hp:PySem.W.plainOver K C = true) (ht:PySem.W.takerIn K C name = some none) (hh:PySem.W.hasDictIn K C = true)
  (hw:PySem.Within mA ns) (hsz:ns.length ≤ sizeLine)
  (h:∀ h',ObjM h' x dx C (fun y=>if y = name then some v else mA y) → Heap.SameBut dx s.heap h' → Q () { s with heap:=h',toks:=s.toks + 2 }) :
  wpAny (model prog w) A (setAttr (.ref x) name v) Q E s:=by
 obtain ⟨od,J,hl⟩:=I.look
 refine PySem.W.set_plain X J hs (PySem.W.osa_open (s:={ s with toks:=s.toks + 1 }) (r:=none) X J hp ht fun b=>?_)
 obtain ⟨cd,hc,hd'⟩:=PySem.W.any_some hh
 have hx:s.heap.get? x = some ⟨.ref C,some dx,.plain,#[]⟩:=I.obj
 refine wpAny_bind (wpAny_pure (wpAny_bind (wpAny_bind (wpAny_loadPart hx (wpAny_bind (PySem.W.Looks.here (s:={ s with toks:=s.toks + 1 }) (PySem.W.looks_clsIn X hc) ?_))))))
 rw [hd']
 refine wpAny_pure (a:=some dx) (wpAny_bind (wpAny_pure (wpAny_bind ?_)))
 refine wpAny_nsSet1 (s:={ s with toks:=s.toks + 1 }) I.ns fun h' hn2 hs2=>?_
 obtain ⟨oD,esD,epD,hoD,hdD,hcD⟩:=hn2.count (PySem.Within.cons name v hw)
 refine wpAny_bind (wpAny_lookBehind hoD (by rw [hdD]; exact pastItsLine_dict (Nat.le_trans hcD (by rw [List.length_cons]; omega))) ?_)
 exact wpAny_pure (h _ ⟨(hs2.2 _ (Ne.symm I.ne)).trans I.obj,hn2,I.ne⟩ hs2)
theorem zhf {R:Result → Shared → Prop} {vs:List Value} {kw:List (Str × Value)} (X:K.In s.heap) (hm:PySem.W.makesIn K C = true)
  (hi:PySem.W.findIn K (.ref C) "__init__" = some (some (.ref f))) (hf:PySem.W.typeIn K (.ref f) = some (.type "function"))
  (h:codeAny (model prog w) (A.under (.builtin "type.__call__" ⟨.ref C :: vs,kw⟩)) (.call (.ref f) ⟨.ref (s.heap.objs.size + 1) :: vs,kw⟩) (PySem.W.InitBack (s.heap.objs.size + 1) R)
   { s with heap:=(s.heap.push PySem.W.emptyDict).push (PySem.W.instObj C s.heap.objs.size) }) :
  codeAny (model prog w) A (.call (.ref C) ⟨vs,kw⟩) R s:=by
 obtain ⟨hh,g,d,t,os⟩:=s
 exact PySem.W.make_core (PySem.W.makes_of X hm) (PySem.W.looks_findIn X hi) (fun self=>PySem.W.bind_fn X self hf) (.inl rfl) h
end
def putF (f:Str) (v:V):List (Str × V) → List (Str × V)
 | []=>[(f,v)]
 | (g,x) :: r=>if g = f then (g,v) :: r else (g,x) :: putF f v r
theorem z7k (f g:Str) (v:V):∀ fs:List (Str × V),(putF f v fs).lookup g = if g = f then some v else fs.lookup g
 | []=>by
  show List.lookup g [(f,v)] = _
  by_cases h:g = f
  ·have hb:(g == f) = true:=beq_iff_eq.mpr h
   simp only [List.lookup,hb,if_pos h]
  ·have hb:(g == f) = false:=beq_eq_false_iff_ne.mpr h
   simp only [List.lookup,hb,if_neg h]
 | (k,x) :: r=>by
  have ih:=z7k f g v r
  rw [show putF f v ((k,x) :: r) = (if k = f then (k,v) :: r else (k,x) :: putF f v r) from rfl]
  by_cases hk:k = f
  ·rw [if_pos hk]
   by_cases h:g = k
   ·have hb:(g == k) = true:=beq_iff_eq.mpr h
    simp only [List.lookup,hb,if_pos (h.trans hk)]
   ·have hb:(g == k) = false:=beq_eq_false_iff_ne.mpr h
    simp only [List.lookup,hb,if_neg (fun e:g = f=>h (e.trans hk.symm))]
  ·rw [if_neg hk]
   by_cases h:g = k
   ·have hb:(g == k) = true:=beq_iff_eq.mpr h
    simp only [List.lookup,hb,if_neg (fun e:g = f=>hk (h.symm.trans e))]
   ·have hb:(g == k) = false:=beq_eq_false_iff_ne.mpr h
    simp only [List.lookup,hb]
    exact ih
theorem z6k (f:Str) (v:V):∀ fs:List (Str × V),f ∈ (putF f v fs).map (·.1) ∧ ∀ g,g ∈ fs.map (·.1) → g ∈ (putF f v fs).map (·.1)
 | []=>⟨by simp [putF],fun g h=>by simp at h⟩
 | (k,x) :: r=>by
  obtain ⟨i1,i2⟩:=z6k f v r
  rw [show putF f v ((k,x) :: r) = (if k = f then (k,v) :: r else (k,x) :: putF f v r) from rfl]
  by_cases hk:k = f
  ·rw [if_pos hk]
   subst hk
   exact ⟨by simp,fun g h=>by simpa using h⟩
  ·rw [if_neg hk]
   refine ⟨?_,fun g h=>?_⟩
   ·rw [List.map_cons]
    exact List.mem_cons_of_mem _ i1
   ·rw [List.map_cons] at h ⊢
    rcases List.mem_cons.mp h with e | e
    ·exact List.mem_cons.mpr (.inl e)
    ·exact List.mem_cons_of_mem _ (i2 g e)
theorem z7l (f:Str) (v:V):∀ fs:List (Str × V),(putF f v fs).length ≤ fs.length + 1
 | []=>by simp [putF]
 | (k,x) :: r=>by
  have ih:=z7l f v r
  rw [show putF f v ((k,x) :: r) = (if k = f then (k,v) :: r else (k,x) :: putF f v r) from rfl]
  by_cases hk:k = f
  ·rw [if_pos hk,List.length_cons,List.length_cons]; omega
  ·rw [if_neg hk,List.length_cons,List.length_cons]; omega
theorem RelO.some_of {v:V} {o:Option Value} (r:RelO (some v) o):∃ u,o = some u ∧ RelV v u:=by
 cases o with
 | none=>exact (show False from r).elim
 | some u=>exact ⟨u,rfl,r⟩
theorem RelO.none_of {o:Option Value} (r:RelO none o):o = none:=by
 cases o with
 | none=>rfl
 | some u=>exact (show False from r).elim
theorem zfh {v:V} {u:Value} (r:RelV v u):PySem.W.handedIn u = true:=by
 cases v with
 | non=>cases (show u = Value.none from r); rfl
 | bl b=>cases (show u = Value.bool b from r); rfl
 | int i=>obtain ⟨t,e⟩:=(show ∃ t,u = Value.int i t from r); cases e; rfl
 | str x=>obtain ⟨t,e⟩:=(show ∃ t,u = Value.str x t from r); cases e; rfl
 | byt b=>obtain ⟨t,e⟩:=(show ∃ t,u = Value.bytes b t from r); cases e; rfl
 | flt b=>obtain ⟨t,e⟩:=(show ∃ t,u = Value.float b t from r); cases e; rfl
 | ref a=>cases (show u = Value.ref a from r); rfl
 | ty n=>cases (show u = Value.type n from r); rfl
section
variable {P:Program} {w:World} {H H':Hp} {h h':Heap} {a C dx:Addr} {fs fs':List (Str × V)}
theorem z5m (hok:HOk P w H h) (e:H a = some (.ins C dx fs)):∃ mA,ObjM h a dx C mA ∧ (∀ f,RelO (fs.lookup f) (mA f)) ∧ PySem.Within mA (fs.map (·.1)) ∧ fs.length ≤ 1000 ∧ H dx = some (.own a):=by
 obtain ⟨d,z,ne,ob,mA,n,r,q⟩:=(show ObjOk P w H h a (.ins C dx fs) from hok a _ e)
 exact ⟨mA,⟨ob,n,ne⟩,r,q,z,d⟩
end
structure Cls (K:PySem.W.Frag) (C:Addr):Prop where
 pg:PySem.W.plainGet K C Str.empty = true
 hd:PySem.W.hasDictIn K C = true
 po:PySem.W.plainOver K C = true
 sa:PySem.W.findIn K (.ref C) "__setattr__" = some (some (.builtin "object.__setattr__"))
theorem Cls.get {K:PySem.W.Frag} {C:Addr} (c:Cls K C) (f:Str):PySem.W.plainGet K C f = true:=c.pg
def NoAttr (K:PySem.W.Frag) (C:Addr) (f:Str):Prop:=PySem.W.findIn K (.ref C) f = some none
theorem NoAttr.taker {K:PySem.W.Frag} {C:Addr} {f:Str} (n:NoAttr K C f):PySem.W.takerIn K C f = some none:=by
 unfold PySem.W.takerIn
 rw [show PySem.W.findIn K (.ref C) f = some none from n]
 rfl
structure Con (K:PySem.W.Frag) (C:Addr) (f:Str) (v:V) (u:Value):Prop where
 at_:PySem.W.findIn K (.ref C) f = some (some u)
 rel:RelV v u
 get:PySem.W.specialIn K u "__get__" = some none
 cp:PySem.W.copiedNames.contains f = false
structure Meth (K:PySem.W.Frag) (C:Addr) (m:Str) (f:Addr):Prop where
 at_:PySem.W.findIn K (.ref C) m = some (some (.ref f))
 fn:PySem.W.isFn K (.ref f) = true
 kp:PySem.W.keepIn K (.ref f) = true
section
variable {X:Cx} {pins:List (Addr × Obj)} {σ:St} {H:Hp} {s:Shared} {a C dx:Addr} {fs:List (Str × V)} {f:Str} {v:V} {A:Around} {E:Value → Shared → Prop}
theorem ze6 {b:Bool} {Q:Value → Shared → Prop} (I:Inv X pins σ H s) (e:H a = some (.ins C dx fs)) (c:Cls X.K C) (n:NoAttr X.K C f) (l:fs.lookup f = some v)
  (h:∀ u s',Inv X pins σ H s' → RelV v u → Q u s'):wpAny (model X.prog X.w) A (getAttr (.ref a) f b) Q E s:=by
 obtain ⟨mA,O,r,_,_,_⟩:=z5m I.hok e
 obtain ⟨u,hu,ru⟩:=RelO.some_of (v:=v) (o:=mA f) (by rw [← l]; exact r f)
 exact ziw I.kIn O (c.get f) c.hd n hu (zfh ru) (h u _ (I.tok _) ru)
theorem z5u {m:Str} {g:Addr} {pl:Sem Bool} {Q:Value × List Value → Shared → Prop} (I:Inv X pins σ H s) (e:H a = some (.ins C dx fs)) (c:Cls X.K C) (k:Meth X.K C m g) (l:fs.lookup m = none)
  (h:Q (.ref g,[.ref a]) s):wpAny (model X.prog X.w) A (getMethod (.ref a) m pl) Q E s:=by
 obtain ⟨mA,O,r,_,_,_⟩:=z5m I.hok e
 have hn:mA m = none:=RelO.none_of (by rw [← l]; exact r m)
 exact zhe I.kIn O (c.get m) k.at_ k.fn hn h
theorem ze7 {y:V} {u:Value} {Q:Unit → Shared → Prop} (I:Inv X pins σ H s) (e:H a = some (.ins C dx fs)) (c:Cls X.K C) (n:NoAttr X.K C f) (hl:fs.length < 1000) (ry:RelV y u)
  (h:∀ s',Inv X pins σ (upd H a (.ins C dx (putF f y fs))) s' → Q () s'):wpAny (model X.prog X.w) A (setAttr (.ref a) f u) Q E s:=by
 obtain ⟨mA,O,r,wi,_,ho⟩:=z5m I.hok e
 have hz:(fs.map (·.1)).length ≤ sizeLine:=by rw [List.length_map,sizeLine_eq]; omega
 refine zix I.kIn O c.sa c.po n.taker c.hd wi hz fun h' O' sb=>h _ ?_
 have hd:∃ o,h'.get? dx = some o:=let ⟨o,_,_,e',_⟩:=O'.ns; ⟨o,e'⟩
 refine I.write (x:=a) (e:=dx) (by rw [e]; exact True.intro) (.inr ho) (fun b q hb z=>(sb.2 b hb).trans z) hd ?_
 refine ⟨by rw [z9 O.ne]; exact ho,?_,O.ne,O'.obj,_,O'.ns,fun g=>?_,fun g hg=>?_⟩
 ·have:=z7l f y fs; omega
 ·show RelO ((putF f y fs).lookup g) (if g = f then some u else mA g)
  rw [z7k]
  by_cases q:g = f
  ·rw [if_pos q,if_pos q]; exact ry
  ·rw [if_neg q,if_neg q]; exact r g
 ·by_cases q:g = f
  ·rw [q]; exact (z6k f y fs).1
  ·refine (z6k f y fs).2 g (wi g fun z=>hg ?_)
   show (if g = f then some u else mA g) = none
   rw [if_neg q]; exact z
theorem Inv.made (I:Inv X pins σ H s):Inv X pins σ (upd (upd H s.heap.objs.size (.own (s.heap.objs.size + 1))) (s.heap.objs.size + 1) (.ins C s.heap.objs.size []))
  { s with heap:=(s.heap.push PySem.W.emptyDict).push (PySem.W.instObj C s.heap.objs.size) }:=by
 have e1:(s.heap.push PySem.W.emptyDict).get? s.heap.objs.size = some PySem.W.emptyDict:=Heap.get?_push_size s.heap rfl
 have e2:((s.heap.push PySem.W.emptyDict).push (PySem.W.instObj C s.heap.objs.size)).get? (s.heap.objs.size + 1) = some (PySem.W.instObj C s.heap.objs.size):=by
  have:=Heap.get?_push_size (s.heap.push PySem.W.emptyDict) (o:=PySem.W.instObj C s.heap.objs.size) rfl
  rwa [Heap.size_push] at this
 have e3:(s.heap.push PySem.W.emptyDict).Ns s.heap.objs.size (fun _=>none):=⟨PySem.W.emptyDict,#[],_,e1,rfl,(fun e he=>absurd he (by simp)),fun _=>rfl⟩
 have I1:=I.laid (a:=s.heap.objs.size) (o:=.own (s.heap.objs.size + 1)) (h':=s.heap.push PySem.W.emptyDict) (t':=s.toks) (fun b u q=>Heap.get?_push_of_some _ q) (Nat.le_refl _) ⟨_,e1⟩
 refine I1.laid (a:=s.heap.objs.size + 1) (o:=.ins C s.heap.objs.size []) (t':=s.toks) (fun b u q=>Heap.get?_push_of_some _ q) (Nat.le_of_eq (Heap.size_push _ _)) ?_
 have ne:s.heap.objs.size ≠ s.heap.objs.size + 1:=Nat.ne_of_lt (Nat.lt_succ_self _)
 refine ⟨by rw [z9 ne,z7],Nat.zero_le _,ne,e2,fun _=>none,(Heap.Ns1.of_empty e3).at fun o q=>Heap.get?_push_of_some _ q,fun _=>True.intro,fun y hy=>absurd rfl hy⟩
theorem ziy {prog:Program} {w:World} {env:Env} {e:Expr} {f:Str} {pos:Pos} {s:Shared} {Q:Value → Shared → Prop} (hb:attributeBase e f env (eval e env) = eval e env)
  (h:wpAny (model prog w) A (eval e env) (fun o s₁=>wpAny (model prog w) A (getAttr o f true) Q E s₁) E s):wpAny (model prog w) A (eval (.Attribute e f pos) env) Q E s :=
 Attribute_any_ h (by rw [arm_eval_Attribute,hb])
end
def tFld (K:PySem.W.Frag) (ta:TE) (f:Str):TE:=fun σ H Q=>ta σ H fun x H1=>∃ a C dx fs v,x = .ref a ∧ H1 a = some (.ins C dx fs) ∧ Cls K C ∧ NoAttr K C f ∧ fs.lookup f = some v ∧ Q v H1
def sFld (K:PySem.W.Frag) (ta tv:TE) (f:Str):TS:=fun D σ H=>tv σ H fun y H1=>ta σ H1 fun x H2=>∃ a C dx fs,x = .ref a ∧ H2 a = some (.ins C dx fs) ∧ Cls K C ∧ NoAttr K C f ∧ fs.length < 1000 ∧
 D.nx σ (upd H2 a (.ins C dx (putF f y fs)))
section
variable {X:Cx} {o e value:Expr} {f:Str} {pos pos' tpos:Pos} {ta tv:TE}
theorem z2b (he:PE X e ta) (hb:attributeBase e f X.env (eval e X.env) = eval e X.env):PE X (.Attribute e f pos) (tFld X.K ta f):=by
 intro pins s σ H Q I h
 refine ziy hb (thn (he pins s σ H _ I h) fun u s1 ⟨x,H1,I1,rx,a,C,dx,fs,v,ex,ea,c,n,l,q⟩=>?_)
 subst ex
 obtain rfl:u = Value.ref a:=rx
 exact ze6 I1 ea c n l fun u' s2 I2 ru=>⟨v,H1,I2,ru,q⟩
theorem z38 (ha:PE X o ta) (hv:PE X value tv) (hs:swapsWith value (some (.Attribute o f pos')) pos.line X.env = pure false):PS X (.Assign [.Attribute o f pos'] value pos) (sFld X.K ta tv f):=by
 intro pins s σ H D I h
 refine plainObj_wpAny_Assign_Attribute (thn (hv pins s σ H _ I h) fun u s1 ⟨y,H1,I1,ry,q⟩=>thn (ha pins s1 σ H1 _ I1 q) fun ov s2 ⟨x,H2,I2,rx,a,C,dx,fs,ex,ea,c,n,l,q2⟩=>?_) hs
 subst ex
 obtain rfl:ov = Value.ref a:=rx
 exact ze7 I2 ea c n l ry fun s3 I3=>⟨σ,_,I3,q2⟩
end
section
variable {X:Cx} {pins:List (Addr × Obj)} {σ:St} {H:Hp} {s:Shared} {A:Around} {E:Value → Shared → Prop} {Q:Value → Shared → Prop} {c:Value} {b:Bool}
inductive TyOf (K:PySem.W.Frag) (H:Hp):V → Value → Prop where
 | non:TyOf K H .non (.type "NoneType")
 | bl (x:Bool):TyOf K H (.bl x) (.type "bool")
 | int (i:Int):TyOf K H (.int i) (.type "int")
 | str (x:Str):TyOf K H (.str x) (.type "str")
 | flt (x:UInt64):TyOf K H (.flt x) (.type "float")
 | lst {a:Addr} {xs:List V} (e:H a = some (.lst xs)):TyOf K H (.ref a) (.type "list")
 | frz {a:Addr} {o:Obj} {xs:List V} (e:H a = some (.frz o (.lst xs))):TyOf K H (.ref a) (.type "list")
 | tup {a:Addr} {xs:List V} (e:H a = some (.tup xs)):TyOf K H (.ref a) (.type "tuple")
 | dK {a:Addr} {kvs:List (Key × V)} (e:H a = some (.dK kvs)):TyOf K H (.ref a) (.type "dict")
 | dT {a:Addr} {kvs:List (List Key × V)} (e:H a = some (.dT kvs)):TyOf K H (.ref a) (.type "dict")
 | ins {a C dx:Addr} {fs:List (Str × V)} (e:H a = some (.ins C dx fs)) (cl:Cls K C) (ha:PySem.W.findIn K (.ref C) "__class__" = some (some (.builtin "object.__class__")))
   (hn:PySem.W.specialIn K (.builtin "object.__class__") "__get__" = some (some (.builtin "getset_descriptor.__get__"))) (htk:PySem.W.takesIn K (.builtin "object.__class__") = some true)
   (hm:PySem.W.mroIn K C (.type "object") = some true):TyOf K H (.ref a) (.ref C)
theorem zfi {x:V} {u t:Value} (I:Inv X pins σ H s) (rx:RelV x u) (ty:TyOf X.K H x t) (e:PySem.W.kitOne X.K t c = some b) (h:∀ tk,Q (.bool b) { s with toks:=tk }) :
  wpAny (model X.prog X.w) A (call (.builtin "isinstance") [u,c]) Q E s:=by
 cases ty with
 | non=>cases (show u = Value.none from rx); exact PySem.W.kia_one PySem.W.kitx_none I.kIn True.intro e (fun z=>nomatch z) h
 | bl y=>cases (show u = Value.bool y from rx); exact PySem.W.kia_one PySem.W.kitx_bool I.kIn True.intro e (fun z=>nomatch z) h
 | int i=>obtain ⟨t,q⟩:=(show ∃ t,u = Value.int i t from rx); cases q; exact PySem.W.kia_one PySem.W.kitx_int I.kIn True.intro e (fun z=>nomatch z) h
 | str y=>obtain ⟨t,q⟩:=(show ∃ t,u = Value.str y t from rx); cases q; exact PySem.W.kia_one PySem.W.kitx_str I.kIn True.intro e (fun z=>nomatch z) h
 | flt y=>obtain ⟨t,q⟩:=(show ∃ t,u = Value.float y t from rx); cases q; exact PySem.W.kia_one PySem.W.kitx_float I.kIn True.intro e (fun z=>nomatch z) h
 | @lst a xs ea =>
  cases (show u = Value.ref a from rx)
  obtain ⟨_,_,n,_,h1⟩:=(show ObjOk X.prog X.w H s.heap a (.lst xs) from I.hok a _ ea)
  exact PySem.W.kia_one PySem.W.kitx_list I.kIn ⟨_,h1,rfl⟩ e (fun z=>nomatch z) h
 | @frz a ob xs ea =>
  cases (show u = Value.ref a from rx)
  obtain ⟨_,_,_,n,_,h1⟩:=(show ObjOk X.prog X.w H s.heap a (.frz ob (.lst xs)) from I.hok a _ ea)
  exact PySem.W.kia_one PySem.W.kitx_list I.kIn ⟨_,h1,rfl⟩ e (fun z=>nomatch z) h
 | @tup a xs ea =>
  cases (show u = Value.ref a from rx)
  obtain ⟨_,_,_,p⟩:=(show ObjOk X.prog X.w H s.heap a (.tup xs) from I.hok a _ ea)
  obtain ⟨o,h1,h2,_⟩:=p
  exact PySem.W.kia_one PySem.W.kitx_tuple I.kIn ⟨o,h1,h2⟩ e (fun z=>nomatch z) h
 | @dK a kvs ea =>
  cases (show u = Value.ref a from rx)
  obtain ⟨_,_,vs,_,p⟩:=(show ObjOk X.prog X.w H s.heap a (.dK kvs) from I.hok a _ ea)
  obtain ⟨o,es,ep,h1,h2,_⟩:=p
  exact PySem.W.kia_one PySem.W.kitx_dict I.kIn ⟨o,h1,h2.1⟩ e (fun z=>nomatch z) h
 | @dT a kvs ea =>
  cases (show u = Value.ref a from rx)
  obtain ⟨_,_,xs,_,o,es,ep,h1,h2,_⟩:=(show ObjOk X.prog X.w H s.heap a (.dT kvs) from I.hok a _ ea)
  exact PySem.W.kia_one PySem.W.kitx_dict I.kIn ⟨o,h1,h2.1⟩ e (fun z=>nomatch z) h
 | @ins a C dx fs ea cl ha hn htk hm =>
  cases (show u = Value.ref a from rx)
  obtain ⟨mA,O,_⟩:=z5m I.hok ea
  obtain ⟨od,J,_⟩:=O.look
  exact PySem.W.kia_one (PySem.W.kitx_own (cl.get _) cl.hd ha hn htk hm) I.kIn J e (fun z=>nomatch z) h
end
end L2
namespace L2
open PySem PySem.Spec PyProof.Rows
structure Room (k:Nat) (A:Around):Prop where
 hd:A.handled = none
 dp:A.depth + 3 * k + 5 < recursionLimit
 un:A.units + 16 * k + 200 < cLine
theorem Room.mono {j k:Nat} {A:Around} (r:Room k A) (h:j ≤ k):Room j A:=⟨r.hd,by have:=r.dp; omega,by have:=r.un; omega⟩
theorem Room.deeper {k:Nat} {A:Around} (r:Room (k + 1) A) (env:Env):Room k (A.deeper env) :=
 ⟨r.hd,by have:=r.dp; show A.depth + 1 + 3 * k + 5 < _; omega,by have:=r.un; show A.units + 3 + 16 * k + 200 < _; omega⟩
theorem Room.in1 {k:Nat} {A:Around} (r:Room (k + 1) A):Room k A.in1 :=
 ⟨r.hd,by have:=r.dp; show A.depth + 3 * k + 5 < _; omega,by have:=r.un; show A.units + 1 + 16 * k + 200 < _; omega⟩
theorem ze8 {A:Around} {C:Addr} {us:List Value} {kw:List (Str × Value)}:(A.under (.builtin "type.__call__" ⟨.ref C :: us,kw⟩)).depth = A.depth + 1:=by
 first | rfl | simp [Around.under,Code.weight,Code.isCreation,Code.isGuard,Code.isCaller,Code.frames,Code.isFrame,guardIds]
theorem ze9 {A:Around} {C:Addr} {us:List Value} {kw:List (Str × Value)}:(A.under (.builtin "type.__call__" ⟨.ref C :: us,kw⟩)).units = A.units + 1:=by
 first | rfl | simp [Around.under,Code.cUnits,Code.frames,Code.isFrame]
theorem Room.make {k:Nat} {A:Around} (r:Room (k + 1) A) (C:Addr) (us:List Value) (kw:List (Str × Value)):Room k (A.under (.builtin "type.__call__" ⟨.ref C :: us,kw⟩)) :=
 ⟨r.hd,by have:=r.dp; rw [ze8]; omega,by have:=r.un; rw [ze9]; omega⟩
theorem Room.depth {k:Nat} {A:Around} (r:Room k A):A.depth < recursionLimit:=by have:=r.dp; omega
theorem Room.units {k:Nat} {A:Around} (r:Room k A):A.units + 64 < cLine:=by have:=r.un; omega
theorem Room.units0 {k:Nat} {A:Around} (r:Room k A):A.units < cLine:=by have:=r.un; omega
def tNil:TA:=fun _ H Q=>Q [] H
def zea (ta:TE) (tr:TA):TA:=fun σ H Q=>ta σ H fun x H1=>tr σ H1 fun xs H2=>Q (x :: xs) H2
section
variable {X:Cx} {e:Expr} {es:List Expr} {te:TE} {t:TA} {pos:Pos}
theorem z6:PA X [] tNil:=fun _ _ _ _ H Q I h=>Calls.spliced_nil ⟨[],H,I,.nil,h⟩
theorem z0 (ha:PE X e te) (hr:PA X es t) (hs:starEach (e :: es) X.env = (false,eval e X.env) :: starEach es X.env:=by rfl):PA X (e :: es) (zea te t):=by
 intro pos pins s σ H Q I h
 rw [hs]
 show wpAny _ _ (spliced ((false,eval e X.env) :: backTo pos (starEach es X.env))) _ _ s
 refine Calls.spliced_cons (thn (ha pins s σ H _ I h) fun u s1 ⟨x,H1,I1,r1,q1⟩=>?_)
 exact thn (hr pos pins s1 σ H1 _ I1 q1) fun us s2 ⟨xs,H2,I2,r2,q2⟩=>⟨x :: xs,H2,I2,.cons r1 r2,q2⟩
def tTup (t:TA):TE:=fun σ H Q=>t σ H fun xs H1=>xs.length ≤ sizeLine ∧ ∀ p,H1 p = none → Q (.ref p) (upd H1 p (.tup xs))
def tLst (t:TA):TE:=fun σ H Q=>t σ H fun xs H1=>xs.length ≤ sizeLine ∧ ∀ p,H1 p = none → Q (.ref p) (upd H1 p (.lst xs))
theorem z1l {x1} (h:PA X es t):PE X (.Tuple es x1 pos) (tTup t):=by
 intro pins s σ H Q I hq
 refine wpAny_Tuple_spliced (thn (h pos pins s σ H _ I hq) fun us s1 ⟨xs,H1,I1,r,z,q⟩=>⟨by rw [← r.length]; exact z,?_⟩)
 have hf:H1 s1.heap.objs.size = none:=I1.hok.fresh (Nat.le_refl _)
 refine ⟨.ref s1.heap.objs.size,upd H1 s1.heap.objs.size (.tup xs),I1.laid (t':=s1.toks) (fun b u e=>Heap.get?_push_of_some _ e) (Nat.le_refl _) ?_,rfl,q _ hf⟩
 exact ⟨z,us,r,⟨_,Heap.get?_push_size _ rfl,rfl,_,rfl⟩⟩
theorem z1c (h:PA X es t):PE X (.List es pos) (tLst t):=by
 intro pins s σ H Q I hq
 refine wpAny_List_spliced (thn (h pos pins s σ H _ I hq) fun us s1 ⟨xs,H1,I1,r,z,q⟩=>⟨by rw [← r.length]; exact z,?_⟩)
 have hf:H1 s1.heap.objs.size = none:=I1.hok.fresh (Nat.le_refl _)
 refine ⟨.ref s1.heap.objs.size,upd H1 s1.heap.objs.size (.lst xs),I1.laid (t':=s1.toks) (fun b u e=>Heap.get?_push_of_some _ e) (Nat.le_refl _) ?_,rfl,q _ hf⟩
 exact ⟨z,us,0,r,Heap.get?_push_size _ rfl⟩
end
abbrev Sp:=List V → Hp → VK → XK → Prop
abbrev CXT:=List Env → Hp → Shared → XK → Value → Shared → Prop
structure Env0 (P:Program) (w:World) (K:PySem.W.Frag) (mg:Str → Option Value) (base:Heap) (A:Around) (outer:List Env) (s:Shared) (H:Hp):Prop where
 frames:A.frames = some outer
 mod:Mod K mg base
 bs:∀ b o,base.get? b = some o → s.heap.get? b = some o ∧ H b = none
 bsz:base.objs.size ≤ s.heap.objs.size
 funs:s.heap.FunFrames base outer
 frf:∀ b ∈ frs outer,H b = none
 hok:HOk P w H s.heap
 bare:AllBare s.gens
def CE (outer:List Env) (P:Program) (w:World) (H:Hp) (s:Shared) (Q:VK) (u:Value) (s':Shared):Prop :=
 ∃ v H',s'.os = s.os ∧ AllBare s'.gens ∧ Un (frs outer) [] H H' s.heap s'.heap ∧ HOk P w H' s'.heap ∧ RelV v u ∧ Q v H'
def CR (CX:CXT) (outer:List Env) (P:Program) (w:World) (H:Hp) (s:Shared) (Q:VK) (E:XK) (r:Result) (s':Shared):Prop :=
 match r with
 | .ok (.ret u)=>CE outer P w H s Q u s'
 | .ok _=>False
 | .error e=>CX outer H s E e s'
structure FnOk (P:Program) (w:World) (K:PySem.W.Frag) (mg:Str → Option Value) (base:Heap) (CX:CXT) (k:Nat) (f:Addr) (fd:FuncData) (ps:List Str) (sp:Sp):Prop where
 len:∀ vs H Q E,sp vs H Q E → vs.length = ps.length
 run:∀ (A:Around) (outer:List Env) (s:Shared) (H:Hp) (args:Args) (us:List Value) (vs:List V) (Q:VK) (E:XK),Room k A → Env0 P w K mg base A outer s H → BindsTo s fd args (ps.zip us) → Vals vs us → sp vs H Q E →
  codeAny (model P w) A (.call (.ref f) args) (CR CX outer P w H s Q E) s
theorem FnOk.mono {P:Program} {w:World} {K:PySem.W.Frag} {mg:Str → Option Value} {base:Heap} {CX:CXT} {j k:Nat} {f:Addr} {fd:FuncData} {ps:List Str} {sp:Sp} (F:FnOk P w K mg base CX j f fd ps sp) (h:j ≤ k) :
  FnOk P w K mg base CX k f fd ps sp:=⟨F.len,fun A outer s H args us vs Q E hr=>F.run A outer s H args us vs Q E (hr.mono h)⟩
theorem FnOk.imp {P:Program} {w:World} {K:PySem.W.Frag} {mg:Str → Option Value} {base:Heap} {CX:CXT} {k:Nat} {f:Addr} {fd:FuncData} {ps:List Str} {sp sp':Sp} (F:FnOk P w K mg base CX k f fd ps sp)
  (h:∀ vs H Q E,sp' vs H Q E → sp vs H Q E):FnOk P w K mg base CX k f fd ps sp' :=
 ⟨fun vs H Q E q=>F.len vs H Q E (h _ _ _ _ q),fun A outer s H args us vs Q E hr he hb hv hs=>F.run A outer s H args us vs Q E hr he hb hv (h _ _ _ _ hs)⟩
theorem Env0.make {P:Program} {w:World} {K:PySem.W.Frag} {mg:Str → Option Value} {base:Heap} {A:Around} {outer:List Env} {s:Shared} {H:Hp} (e:Env0 P w K mg base A outer s H) (C:Addr) (us:List Value) (kw:List (Str × Value)) :
  Env0 P w K mg base (A.under (.builtin "type.__call__" ⟨.ref C :: us,kw⟩)) outer s H:=⟨by first | exact e.frames | (simpa [Around.under,Code.envs,Code.isFrame,pushEnvs] using e.frames),e.mod,e.bs,e.bsz,e.funs,e.frf,e.hok,e.bare⟩
theorem Env0.in1 {P:Program} {w:World} {K:PySem.W.Frag} {mg:Str → Option Value} {base:Heap} {A:Around} {outer:List Env} {s:Shared} {H:Hp} (e:Env0 P w K mg base A outer s H) :
  Env0 P w K mg base A.in1 outer s H:=⟨e.frames,e.mod,e.bs,e.bsz,e.funs,e.frf,e.hok,e.bare⟩
section
variable {X:Cx} {pins:List (Addr × Obj)} {σ:St} {H:Hp} {s s':Shared}
theorem Inv.env0 (I:Inv X pins σ H s):Env0 X.prog X.w X.K X.mg X.base X.A X.stack s H :=
 ⟨I.ok.frames,I.ok.mod,I.bs,Nat.le_trans I.ok.bsz I.sz,I.stack,I.stkFree,I.hok,I.bare⟩
theorem Inv.after {Q:VK} {u:Value} (I:Inv X pins σ H s) (h:CE X.stack X.prog X.w H s Q u s'):EP X pins σ Q u s':=by
 obtain ⟨v,H',os,bare,un,hok,r,q⟩:=h
 obtain ⟨hh,g,d,t,os'⟩:=s'
 obtain rfl:os' = s.os:=os
 exact ⟨v,H',I.call (h':=hh) (g':=g) (d':=d) (t':=t) (ch:=[]) un hok bare (fun b z=>absurd z (by simp)),r,q⟩
end
def zeb (sp:Sp) (dvs:List V) (E:XK) (t:TA):TE:=fun σ H Q=>t σ H fun vs H1=>sp (vs ++ dvs) H1 Q E
def z77 (C:Addr) (m:Str) (sp:Sp) (dvs:List V) (E:XK) (ta:TE) (t:TA):TE:=fun σ H Q=>ta σ H fun x H1=>∃ a dx fs,x = .ref a ∧ H1 a = some (.ins C dx fs) ∧ fs.lookup m = none ∧
 t σ H1 fun vs H2=>sp (x :: (vs ++ dvs)) H2 Q E
def z8i (C:Addr) (sp:Sp) (dvs:List V) (E:XK) (t:TA):TE:=fun σ H Q=>t σ H fun vs H1=>∀ x dx,H1 x = none → H1 dx = none → dx ≠ x →
 sp (.ref x :: (vs ++ dvs)) (upd (upd H1 dx (.own x)) x (.ins C dx [])) (fun v H2=>v = .non ∧ Q (.ref x) H2) E
def Binds (K:PySem.W.Frag) (fd:FuncData) (ps:List Str) (ds:List Value):Prop :=
 ∀ (s:Shared) (us:List Value),K.In s.heap → (us ++ ds).length = ps.length → BindsTo s fd ⟨us,[]⟩ (ps.zip (us ++ ds))
theorem Binds.all {K:PySem.W.Frag} {fd:FuncData} {ps:List Str} (h:∀ us:List Value,us.length = ps.length → bindArgs fd ⟨us,[]⟩ = pure (ps.zip us)):Binds K fd ps []:=fun s us _ hl=>by
 rw [List.append_nil] at hl ⊢
 exact .of_eq (h us hl)
def z39 (CX:CXT) (X:Cx) (E:XK):Prop:=∀ (pins:List (Addr × Obj)) (σ:St) (H:Hp) (s:Shared) (e:Value) (s':Shared),Inv X pins σ H s → CX X.stack H s E e s' → X.xe e s'
section
variable {X:Cx} {CX:CXT} {k:Nat} {f C:Addr} {fd:FuncData} {ps:List Str} {sp:Sp} {dvs:List V} {ds:List Value} {E:XK} {x m:Str} {p pos apos:Pos} {e o:Expr} {es:List Expr} {ta:TE} {t:TA}
theorem zbq {pins:List (Addr × Obj)} {σ:St} {H:Hp} {s:Shared} {Q:VK} {us:List Value} {vs:List V} (F:FnOk X.prog X.w X.K X.mg X.base CX k f fd ps sp) (hr:Room k X.A) (hb:Binds X.K fd ps ds) (hd:Vals dvs ds) (hx:z39 CX X E)
  (I:Inv X pins σ H s) (r:Vals vs us) (h:sp (vs ++ dvs) H Q E):wpAny (model X.prog X.w) X.A (call (.ref f) us) (EP X pins σ Q) X.xe s:=by
 have r2:Vals (vs ++ dvs) (us ++ ds):=r.append hd
 have hl:(us ++ ds).length = ps.length:=by rw [← r2.length]; exact F.len _ _ _ _ h
 refine wpAny_call (codeAny_mono (F.run X.A X.stack s H ⟨us,[]⟩ (us ++ ds) (vs ++ dvs) Q E hr I.env0 (hb s us I.kIn hl) r2 h) fun r s' hq=>?_)
 cases r with
 | error e=>exact hx pins σ H s e s' I hq
 | ok fl =>
  cases fl with
  | ret u=>exact I.after hq
  | next=>exact False.elim hq
  | brk=>exact False.elim hq
  | cont=>exact False.elim hq
theorem ziz (F:FnOk X.prog X.w X.K X.mg X.base CX k f fd ps sp) (hr:Room k X.A) (hg:Gl X x) (hm:X.mg x = some (.ref f)) (hk:PySem.W.keepIn X.K (.ref f) = true) (hb:Binds X.K fd ps ds) (hd:Vals dvs ds) (hx:z39 CX X E)
  (ha:PA X (e :: es) t) (hdb:(x == ("__debug__" : Str)) = false:=by decide) (he:starEach (e :: es) X.env = (false,eval e X.env) :: starEach es X.env:=by rfl) (hpl:(backTo pos (starEach es X.env)).any (·.1) = false:=by rfl) :
  PE X (.Call (.Name x p) (e :: es) [] pos) (zeb sp dvs E t):=by
 intro pins s σ H Q I h
 refine wpAny_Call_Name_kw (z5j I hg hm ?_ hdb)
 refine PySem.W.callWith_K (h₀:=X.base) I.ok.mod.kin hk (thn (ha pos pins s σ H _ I h) fun us s1 ⟨vs,H1,I1,r,q⟩=>⟨I1.kIn,?_⟩) he hpl
 exact zbq F hr hb hd hx I1 r q
theorem zdj {pl:Sem Bool} (he:PE X o ta) (c:Cls X.K C) (hm:Meth X.K C m f) (F:FnOk X.prog X.w X.K X.mg X.base CX k f fd ps sp) (hr:Room k X.A) (hb:Binds X.K fd ps ds) (hd:Vals dvs ds) (hx:z39 CX X E) (ha:PA X (e :: es) t)
  (hst:starEach (e :: es) X.env = (false,eval e X.env) :: starEach es X.env:=by rfl) (hpl:(backTo pos (starEach es X.env)).any (·.1) = false:=by rfl)
  (ht:eval (.Call (.Attribute o m apos) (e :: es) [] pos) X.env = (do
   let ov ← eval o X.env
   standAt apos.atName
   let (f,first) ← holding [ov] (getMethod ov m pl)
   callWith pos f first (backTo pos (starEach (e :: es) X.env)) (backToKw pos (keywordEach [] X.env))):=by rfl) :
  PE X (.Call (.Attribute o m apos) (e :: es) [] pos) (z77 C m sp dvs E ta t):=by
 intro pins s σ H Q I h
 refine PySem.W.methodCall_KW (pl:=pl) (thn (he pins s σ H _ I h) fun u s1 ⟨x,H1,I1,rx,a,dx,fs,ex,ea,l,q⟩=>?_) ht
 subst ex
 obtain rfl:u = Value.ref a:=rx
 refine z5u I1 ea c hm l ?_
 refine PySem.W.callWith_K (first:=[.ref a]) (h₀:=X.base) I.ok.mod.kin hm.kp (thn (ha pos pins s1 σ H1 _ I1 q) fun us s2 ⟨vs,H2,I2,r,q2⟩=>⟨I2.kIn,?_⟩) hst hpl
 exact zbq (us:=.ref a :: us) (vs:=.ref a :: vs) F hr hb hd hx I2 (.cons rfl r) q2
theorem zhg {pl:Sem Bool} (he:PE X o ta) (c:Cls X.K C) (hm:Meth X.K C m f) (F:FnOk X.prog X.w X.K X.mg X.base CX k f fd ps sp) (hr:Room k X.A) (hb:Binds X.K fd ps ds) (hd:Vals dvs ds) (hx:z39 CX X E)
  (ht:eval (.Call (.Attribute o m apos) [] [] pos) X.env = (do
   let ov ← eval o X.env
   standAt apos.atName
   let (f,first) ← holding [ov] (getMethod ov m pl)
   callWith pos f first (backTo pos (starEach [] X.env)) (backToKw pos (keywordEach [] X.env))):=by rfl) :
  PE X (.Call (.Attribute o m apos) [] [] pos) (z77 C m sp dvs E ta tNil):=by
 intro pins s σ H Q I h
 refine PySem.W.methodCall_KW (pl:=pl) (thn (he pins s σ H _ I h) fun u s1 ⟨x,H1,I1,rx,a,dx,fs,ex,ea,l,q⟩=>?_) ht
 subst ex
 obtain rfl:u = Value.ref a:=rx
 refine z5u I1 ea c hm l ?_
 exact PySem.W.callWith_K0 (first:=[.ref a]) I1.kIn hm.kp (zbq (us:=[.ref a]) (vs:=[.ref a]) F hr hb hd hx I1 (.cons rfl .nil) q)
structure Mk (K:PySem.W.Frag) (C f:Addr):Prop where
 makes:PySem.W.makesIn K C = true
 init:PySem.W.findIn K (.ref C) "__init__" = some (some (.ref f))
 fn:PySem.W.isFn K (.ref f) = true
 kp:PySem.W.keepIn K (.ref C) = true
theorem zbr {pins:List (Addr × Obj)} {σ:St} {H:Hp} {s:Shared} {Q:VK} {us:List Value} {vs:List V} (M:Mk X.K C f) (F:FnOk X.prog X.w X.K X.mg X.base CX k f fd ps sp) (hr:Room (k + 1) X.A) (hb:Binds X.K fd ps ds) (hd:Vals dvs ds)
  (hx:z39 CX X E) (I:Inv X pins σ H s) (r:Vals vs us)
  (h:∀ x dx,H x = none → H dx = none → dx ≠ x → sp (.ref x :: (vs ++ dvs)) (upd (upd H dx (.own x)) x (.ins C dx [])) (fun v H2=>v = .non ∧ Q (.ref x) H2) E) :
  wpAny (model X.prog X.w) X.A (call (.ref C) us) (EP X pins σ Q) X.xe s:=by
 have hq:=h (s.heap.objs.size + 1) s.heap.objs.size (I.hok.fresh (Nat.le_succ _)) (I.hok.fresh (Nat.le_refl _)) (Nat.ne_of_lt (Nat.lt_succ_self _))
 have I2:=Inv.made (C:=C) I
 have r2:Vals (V.ref (s.heap.objs.size + 1) :: (vs ++ dvs)) (Value.ref (s.heap.objs.size + 1) :: (us ++ ds)):=.cons rfl (r.append hd)
 have hl:(Value.ref (s.heap.objs.size + 1) :: us ++ ds).length = ps.length:=by
  have e:=r2.length
  rw [F.len _ _ _ _ hq] at e
  exact e.symm
 refine wpAny_call (zhf (f:=f) I.kIn M.makes M.init (beq_iff_eq.mp M.fn) (codeAny_mono (F.run _ X.stack _ _ ⟨Value.ref (s.heap.objs.size + 1) :: us,[]⟩ (Value.ref (s.heap.objs.size + 1) :: (us ++ ds)) _ _ E (hr.make C us [])
  (I2.env0.make C us []) (hb _ (Value.ref (s.heap.objs.size + 1) :: us) I2.kIn hl) r2 hq) fun r s' hq'=>?_))
 cases r with
 | error e=>exact hx pins σ _ _ e s' I2 hq'
 | ok fl =>
  cases fl with
  | ret u =>
   obtain ⟨v,H',I3,rv,ev,q3⟩:=I2.after hq'
   subst ev
   exact ⟨rv,⟨V.ref (s.heap.objs.size + 1),H',I3,rfl,q3⟩⟩
  | next=>exact False.elim hq'
  | brk=>exact False.elim hq'
  | cont=>exact False.elim hq'
theorem zj0 (M:Mk X.K C f) (F:FnOk X.prog X.w X.K X.mg X.base CX k f fd ps sp) (hr:Room (k + 1) X.A) (hg:Gl X x) (hm:X.mg x = some (.ref C)) (hb:Binds X.K fd ps ds) (hd:Vals dvs ds) (hx:z39 CX X E)
  (ha:PA X (e :: es) t) (hdb:(x == ("__debug__" : Str)) = false:=by decide) (he:starEach (e :: es) X.env = (false,eval e X.env) :: starEach es X.env:=by rfl) (hpl:(backTo pos (starEach es X.env)).any (·.1) = false:=by rfl) :
  PE X (.Call (.Name x p) (e :: es) [] pos) (z8i C sp dvs E t):=by
 intro pins s σ H Q I h
 refine wpAny_Call_Name_kw (z5j I hg hm ?_ hdb)
 refine PySem.W.callWith_K (h₀:=X.base) I.ok.mod.kin M.kp (thn (ha pos pins s σ H _ I h) fun us s1 ⟨vs,H1,I1,r,q⟩=>⟨I1.kIn,?_⟩) he hpl
 exact zbr M F hr hb hd hx I1 r q
theorem zhh (M:Mk X.K C f) (F:FnOk X.prog X.w X.K X.mg X.base CX k f fd ps sp) (hr:Room (k + 1) X.A) (hg:Gl X x) (hm:X.mg x = some (.ref C)) (hb:Binds X.K fd ps ds) (hd:Vals dvs ds) (hx:z39 CX X E)
  (hdb:(x == ("__debug__" : Str)) = false:=by decide):PE X (.Call (.Name x p) [] [] pos) (z8i C sp dvs E tNil):=by
 intro pins s σ H Q I h
 refine wpAny_Call_Name_kw (z5j I hg hm ?_ hdb)
 exact PySem.W.callWith_K0 I.kIn M.kp (zbr (us:=[]) M F hr hb hd hx I .nil h)
end
def PK (X:Cx) (kws:List Keyword) (t:TA):Prop :=
 ∀ (pos:Pos) (pins:List (Addr × Obj)) (s:Shared) (σ:St) (H:Hp) (Q:List V → Hp → Prop),Inv X pins σ H s → t σ H Q → wpAny (model X.prog X.w) X.A (evalAll ((backToKw pos (keywordEach kws X.env)).map (·.2))) (AP X pins σ Q) X.xe s
section
variable {X:Cx} {CX:CXT} {k:Nat} {f C:Addr} {fd:FuncData} {ps ks:List Str} {sp:Sp} {E:XK} {x m:Str} {p pos apos kpos:Pos} {e o:Expr} {es:List Expr} {kws:List Keyword} {te ta:TE} {t tk:TA} {nm:Option Str}
theorem zjw:PK X [] tNil:=fun _ _ _ _ H Q I h=>wpAny_evalAll_nil ⟨[],H,I,.nil,h⟩
theorem zj1 (ha:PE X e te) (hr:PK X kws t):PK X (⟨nm,e,kpos⟩ :: kws) (zea te t):=by
 intro pos pins s σ H Q I h
 show wpAny _ _ (evalAll ((do let v ← eval e X.env; standAt pos; pure v) :: (backToKw pos (keywordEach kws X.env)).map (·.2))) _ _ s
 refine wpAny_evalAll_cons (wpAny_bind (thn (ha pins s σ H _ I h) fun u s1 ⟨x,H1,I1,r1,q1⟩=>wpAny_bind (wpAny_standAt (wpAny_pure ?_))))
 exact thn (hr pos pins s1 σ H1 _ I1 q1) fun us s2 ⟨xs,H2,I2,r2,q2⟩=>⟨x :: xs,H2,I2,.cons r1 r2,q2⟩
structure KBinds (K:PySem.W.Frag) (fd:FuncData) (ps ks:List Str) (g:List Value → List Value → List Value) (gV:List V → List V → List V):Prop where
 to:∀ (s:Shared) (us ws:List Value),K.In s.heap → (g us ws).length = ps.length → BindsTo s fd ⟨us,ks.zip ws⟩ (ps.zip (g us ws))
 rel:∀ {vs:List V} {us:List Value} {zs:List V} {ws:List Value},Vals vs us → Vals zs ws → Vals (gV vs zs) (g us ws)
variable {g:List Value → List Value → List Value} {gV:List V → List V → List V}
end
structure FnScope (N P:List Str) (sc:Scope):Prop where
 kind:sc.kind = .function
 co:sc.isCoroutine = false
 gen:sc.isGenerator = false
 nd:N.Nodup
 pre:N.take P.length = P
 par:∀ x ∈ P,sc.names.lookup x = some .local ∨ sc.names.lookup x = some .cell
 nofree:∀ y ∈ sc.names,y.2 ≠ .free
theorem zag {kindOf:Str → Option NameKind} {x:Str}:∀ {binds:List (Str × Value)} {m:Str → Option Value},(∀ v,(x,v) ∉ binds) → bindL kindOf binds m x = m x
 | [],_,_=>rfl
 | (n,v) :: r,m,h=>by
  unfold bindL
  rw [zag fun w hw=>h w (List.mem_cons_of_mem _ hw)]
  split
  ·have:x ≠ n:=by rintro rfl; exact h v List.mem_cons_self
   simp [this]
  ·rfl
theorem zah {kindOf:Str → Option NameKind} {x:Str}:∀ {binds:List (Str × Value)} {m:Str → Option Value},(∀ v,(x,v) ∉ binds) → bindC kindOf binds m x = m x
 | [],_,_=>rfl
 | (n,v) :: r,m,h=>by
  unfold bindC
  rw [zah fun w hw=>h w (List.mem_cons_of_mem _ hw)]
  split
  ·rfl
  ·have:x ≠ n:=by rintro rfl; exact h v List.mem_cons_self
   simp [this]
theorem zai {kindOf:Str → Option NameKind} {x:Str} {v:Value}:∀ {P:List Str} {vs:List Value} {i:Nat} {m:Str → Option Value},P.Nodup → P[i]? = some x → vs[i]? = some v → kindOf x = some .local →
  bindL kindOf (P.zip vs) m x = some v
 | [],_,_,_,_,h,_,_=>by simp at h
 | _ :: _,[],_,_,_,_,h,_=>by simp at h
 | p :: P,w :: vs,0,m,nd,h1,h2,hk=>by
  simp at h1 h2; subst h1; subst h2
  show bindL kindOf ((p,w) :: P.zip vs) m p = _
  unfold bindL
  rw [zag fun v hv=>(List.nodup_cons.mp nd).1 (List.of_mem_zip hv).1,if_pos hk]
  simp
 | p :: P,w :: vs,i + 1,m,nd,h1,h2,hk=>by
  show bindL kindOf ((p,w) :: P.zip vs) m x = _
  unfold bindL
  exact zai (i:=i) (List.nodup_cons.mp nd).2 (by simpa using h1) (by simpa using h2) hk
theorem zaj {kindOf:Str → Option NameKind} {x:Str} {v:Value}:∀ {P:List Str} {vs:List Value} {i:Nat} {m:Str → Option Value},P.Nodup → P[i]? = some x → vs[i]? = some v → kindOf x ≠ some .local →
  bindC kindOf (P.zip vs) m x = some v
 | [],_,_,_,_,h,_,_=>by simp at h
 | _ :: _,[],_,_,_,_,h,_=>by simp at h
 | p :: P,w :: vs,0,m,nd,h1,h2,hk=>by
  simp at h1 h2; subst h1; subst h2
  show bindC kindOf ((p,w) :: P.zip vs) m p = _
  unfold bindC
  rw [zah fun v hv=>(List.nodup_cons.mp nd).1 (List.of_mem_zip hv).1,if_neg hk]
  simp
 | p :: P,w :: vs,i + 1,m,nd,h1,h2,hk=>by
  show bindC kindOf ((p,w) :: P.zip vs) m x = _
  unfold bindC
  exact zaj (i:=i) (List.nodup_cons.mp nd).2 (by simpa using h1) (by simpa using h2) hk
def start (N:List Str) (vs:List V):St:=vs.map some ++ List.replicate (N.length - vs.length) none
def cxOf (CX:CXT) (P:Program) (w:World) (K:PySem.W.Frag) (mg:Str → Option Value) (base:Heap) (N:List Str) (qual:Str) (scope:Scope) (f:Addr) (cd:Value) (A:Around) (outer:List Env) (s:Shared) (H:Hp) (E:XK):Cx where
 prog:=P
 w:=w
 K:=K
 mg:=mg
 base:=base
 A:=A.deeper (envOfC qual scope s.heap.objs.size f cd)
 N:=N
 s₀:=s
 H₀:=H
 env:=envOfC qual scope s.heap.objs.size f cd
 outer:=outer
 stack:=envOfC qual scope s.heap.objs.size f cd :: outer
 ex:=[]
 calm:=true
 fn:=fun _=>true
 pn:=[]
 xe:=fun e s'=>wpAny (model P w) (A.deeper (envOfC qual scope s.heap.objs.size f cd)) (leaving (envOfC qual scope s.heap.objs.size f cd) e) (fun _ s''=>CX outer H s E e s'') (fun e' s''=>CX outer H s E e' s'') s'
theorem zbs {sc:Scope} {n:Nat} {x:Str} (h:sc.names.lookup x = some .cell):∃ c,(cellsFrom n sc.names []).lookup x = some c:=by
 have q:=PySem.W.cellsFrom_some sc.names n [] (.inl h)
 exact Option.isSome_iff_exists.mp q
theorem zfj {CX:CXT} {P:Program} {w:World} {K:PySem.W.Frag} {mg:Str → Option Value} {base:Heap} {N ps:List Str} {qual:Str} {scope:Scope} {f:Addr} {cd:Value} {A:Around} {outer:List Env} {s s1:Shared} {H:Hp} {E:XK} {us:List Value} {vs:List V}
  (S:FnScope N ps scope) (hd:A.handled = none) (e0:Env0 P w K mg base A outer s H) (hl:vs.length = ps.length) (r:Vals vs us)
  (x:InCallC s s.heap.objs.size (bindL (envOfC qual scope s.heap.objs.size f cd).kindOf (ps.zip us) fun _=>none) (cellsFrom (s.heap.objs.size + 1) scope.names []) (bindC (envOfC qual scope s.heap.objs.size f cd).kindOf (ps.zip us) fun _=>none) s1) :
  Inv (cxOf CX P w K mg base N qual scope f cd A outer s H E) [] (start N vs) H s1:=by
 have hpl:ps.length ≤ N.length:=by have:=congrArg List.length S.pre; rw [List.length_take] at this; omega
 obtain ⟨h1,tk,rfl,hk⟩:=x.done
 have noA:∀ b:Addr,b ∉ (cxOf CX P w K mg base N qual scope f cd A outer s H E).ex:=fun b z=>absurd (show b ∈ ([]:List Addr) from z) (by simp)
 refine ⟨⟨e0.mod,S.kind,rfl,rfl,Nat.le_refl _,fun y z c h1 h2=>?_,fun y hy=>?_,fun y c _ h=>?_,fun _=>hd,Around.frames_deeper e0.frames,.inr ⟨rfl,rfl⟩,fun b z=>absurd z (noA b),e0.bs,e0.bsz,fun b _ _=>noA b,fun b z=>absurd z (noA b),e0.funs,e0.frf⟩,
  rfl,e0.bare,Un.kept hk,⟨_,x.toInCall.ns,fun i y v h1 h2 h3=>?_⟩,fun y c h=>⟨_,x.cell y c h⟩,e0.hok.fresh (Nat.le_refl _),fun y c h=>?_,fun p hp=>absurd (show p ∈ ([]:List (Addr × Obj)) from hp) (by simp),e0.hok.kept hk,?_⟩
 ·exact name_of_addr x.apart (PySem.mem_of_lookup h1) (PySem.mem_of_lookup h2)
 ·have hy:scope.names.lookup y = some .cell ∨ scope.names.lookup y = some .free:=hy
  rcases hy with hy | hy
  ·exact zbs hy
  ·exact absurd rfl (S.nofree _ (PySem.mem_of_lookup hy))
 ·exact Nat.le_of_lt (x.above y c (PySem.mem_of_lookup h))
 ·have hi:i < vs.length:=by
   unfold start at h2
   by_cases hi:i < vs.length
   ·exact hi
   ·rw [List.getElem?_append_right (by simpa using hi)] at h2
    rw [List.getElem?_replicate] at h2
    split at h2 <;> cases h2
  have ha:vs[i]? = some v:=by
   unfold start at h2
   rw [List.getElem?_append_left (by simpa using hi),List.getElem?_map] at h2
   cases e:vs[i]? with
   | none=>rw [e] at h2; cases h2
   | some a=>rw [e] at h2; cases h2; rfl
  obtain ⟨u,hu,rv⟩:=r.get ha
  have hp:ps[i]? = some y:=by
   rw [← S.pre,List.getElem?_take_of_lt (by omega)]; exact h1
  have ndP:ps.Nodup:=by rw [← S.pre]; exact S.nd.sublist (List.take_sublist _ _)
  refine ⟨u,rv,?_⟩
  rcases S.par y (List.mem_of_getElem? hp) with k | k
  ·exact .inl ⟨k,zai ndP hp hu k⟩
  ·obtain ⟨c,e⟩:=zbs (n:=s.heap.objs.size + 1) k
   refine .inr ⟨.inl k,c,e,?_⟩
   have q:=x.cell y c e
   rw [zaj ndP hp hu (by show scope.names.lookup y ≠ _; rw [k]; decide)] at q
   exact q
 ·exact e0.hok.fresh (Nat.le_of_lt (x.above y c (PySem.mem_of_lookup h)))
 ·unfold start
  show _ = N.length
  rw [List.length_append,List.length_map,List.length_replicate]
  omega
theorem zbj {CX:CXT} {P:Program} {w:World} {K:PySem.W.Frag} {mg:Str → Option Value} {base:Heap} {k:Nat} {f:Addr} {name qual:Str} {params:Arguments} {body:List Stmt} {scope:Scope} {dV kV doc pm cdv ct oc:Value} {an od:Option Addr}
  {osl:Array (Option Value)} {N ps:List Str} {sp:Sp} (lk:K.lookup f = some ⟨oc,od,.func (PySem.W.fnOf name qual params body scope dV kV doc pm an cdv ct),osl⟩) (hcd:PySem.W.codeIn K cdv qual = true) (S:FnScope N ps scope)
  (len:∀ vs H Q E,sp vs H Q E → vs.length = ps.length)
  (hbody:∀ (A:Around) (outer:List Env) (s:Shared) (H:Hp) (vs:List V) (Q:VK) (E:XK),Room k (A.deeper (envOfC qual scope s.heap.objs.size f cdv)) → sp vs H Q E →
   ∃ t,PSs (cxOf CX P w K mg base N qual scope f cdv A outer s H E) body t ∧ t { nx:=fun _ H'=>Q .non H',rt:=Q } (start N vs) H) :
  FnOk P w K mg base CX (k + 1) f (PySem.W.fnOf name qual params body scope dV kV doc pm an cdv ct) ps sp:=by
 refine ⟨len,fun A outer s H args us vs Q E hr e0 hb r hsp=>?_⟩
 have hl:=len _ _ _ _ hsp
 have KX:K.In s.heap:=e0.mod.kin.keeps fun b o e=>(e0.bs b o e).1
 have lim:s.heap.NoLimit:=e0.mod.nolimit.keeps fun b o e=>(e0.bs b o e).1
 have hkind:∀ y ∈ ps.zip us,scope.names.lookup y.1 = some .local ∨ (scope.names.lookup y.1 = some .cell ∧ ((cellsFrom (s.heap.objs.size + 1) scope.names []).lookup y.1).isSome = true):=fun ⟨n,v⟩ hy=>by
  rcases S.par n (List.of_mem_zip hy).1 with q | q
  ·exact .inl q
  ·exact .inr ⟨q,PySem.W.cellsFrom_some _ _ _ (.inl q)⟩
 refine codeAny_call_function hr.depth (KX _ _ lk) rfl S.co S.gen rfl (PySem.W.codeRec_of KX hcd) (hb _ _ _ _ ?_)
 refine wpAny_newFunctionEnv_cells S.kind hkind fun env he s1 x=>?_
 subst he
 refine ⟨lim.keeps x.toInCall.keep,codeAny_func ?_⟩
 obtain ⟨t,ht,hq⟩:=hbody A outer s H vs Q E (hr.deeper _) hsp
 have I:Inv (cxOf CX P w K mg base N qual scope f cdv A outer s H E) [] (start N vs) H s1:=zfj S hr.hd e0 hl r x
 refine wpAny_mono (ht [] s1 (start N vs) H _ I hq) (fun fl s' hs=>?_) fun e s' hs=>hs
 have fin:∀ {σ':St} {H':Hp} {v:V} {u:Value},Inv (cxOf CX P w K mg base N qual scope f cdv A outer s H E) [] σ' H' s' → RelV v u → Q v H' → CE outer P w H s Q u s' :=
  fun {σ' H' v u} J rv q=>⟨v,H',J.os,J.bare,J.base,J.hok,rv,q⟩
 cases fl with
 | ret u =>
  obtain ⟨v,σ',H',J,rv,q⟩:=hs
  exact fin J rv q
 | next =>
  obtain ⟨σ',H',J,q⟩:=hs
  exact fin (v:=V.non) (u:=Value.none) J rfl q
 | brk =>
  obtain ⟨_,_,_,q⟩:=hs
  exact False.elim q
 | cont =>
  obtain ⟨_,_,_,q⟩:=hs
  exact False.elim q
end L2
namespace L2
open PySem PySem.Spec PyProof.Rows
section
variable {X:Cx} {x:Str} {p pos:Pos} {e:Expr} {es:List Expr} {t:TA} {id T:String} {r:List V → Hp → VK → Prop}
def tCB (r:List V → Hp → VK → Prop) (t:TA):TE:=fun σ H Q=>t σ H fun vs H1=>r vs H1 Q
theorem zg (hc:CallR X (.builtin id) r) (hg:Gl X x) (hm:X.mg x = none) (hv:bootBuiltins x = some (.builtin id)) (ha:PA X (e :: es) t) (hn:x ≠ "__name__" := by decide) (hdb:(x == ("__debug__" : Str)) = false:=by decide)
  (he:starEach (e :: es) X.env = (false,eval e X.env) :: starEach es X.env:=by rfl) (hpl:(backTo pos (starEach es X.env)).any (·.1) = false:=by rfl):PE X (.Call (.Name x p) (e :: es) [] pos) (tCB r t):=by
 intro pins s σ H Q I h
 refine wpAny_Call_Name_kw (z46 I hg hm hv ?_ hn hdb)
 exact PyProof.Rows.callWith_builtin1 (thn (ha pos pins s σ H _ I h) fun us s1 ⟨vs,H1,I1,r1,q1⟩=>hc pins s1 σ H1 vs us Q I1 r1 q1) he hpl
theorem z6l (hc:CallR X (.type T) r) (hg:Gl X x) (hm:X.mg x = none) (hv:bootBuiltins x = some (.type T)) (ha:PA X (e :: es) t) (hn:x ≠ "__name__" := by decide) (hdb:(x == ("__debug__" : Str)) = false:=by decide)
  (he:starEach (e :: es) X.env = (false,eval e X.env) :: starEach es X.env:=by rfl) (hpl:(backTo pos (starEach es X.env)).any (·.1) = false:=by rfl):PE X (.Call (.Name x p) (e :: es) [] pos) (tCB r t):=by
 intro pins s σ H Q I h
 refine wpAny_Call_Name_kw (z46 I hg hm hv ?_ hn hdb)
 exact PyProof.Rows.callWith_type1 (thn (ha pos pins s σ H _ I h) fun us s1 ⟨vs,H1,I1,r1,q1⟩=>hc pins s1 σ H1 vs us Q I1 r1 q1) he hpl
end
end L2
namespace HT
open PySem PyProof.Rows
section
open PySem.SeqAt
open PySem.AutoSeq1 (wpAny_loadPart')
open PySem.MeetsSeq PySem.MeetsSeq2 PySem.MeetsSeq3
end
section
variable {prog:Program} {w:World} {A:Around} {E:Value → Shared → Prop} {s:Shared}
def sIx (n d:Nat):Option Int → Nat
 | none=>d
 | some v=>if v < 0 then (v + (n:Int)).toNat else min v.toNat n
end
end HT
namespace L2
open PySem PySem.Spec PyProof.Rows
abbrev TO:=St → Hp → (Option Int → Hp → Prop) → Prop
def PO (X:Cx) (e:Option Expr) (t:TO):Prop :=
 ∀ (pins:List (Addr × Obj)) (s:Shared) (σ:St) (H:Hp) (Q:Option Int → Hp → Prop),Inv X pins σ H s → t σ H Q →
  wpAny (model X.prog X.w) X.A (evalPart e X.env) (fun u s'=>∃ o H',Inv X pins σ H' s' ∧ IsPart u o ∧ Q o H') X.xe s
def zdk:TO:=fun _ H Q=>Q none H
def zig (t:TE):TO:=fun σ H Q=>t σ H fun x H1=>∃ i,x = .int i ∧ Q (some i) H1
section
variable {X:Cx} {e:Expr} {te:TE} {lo hi:Option Expr} {tl th:TO} {pos p2:Pos}
theorem z78:PO X none zdk:=by
 intro pins s σ H Q I h
 rw [evalPart_none]
 exact wpAny_pure ⟨none,H,I,.none,h⟩
theorem z79 (h:PE X e te):PO X (some e) (zig te):=by
 intro pins s σ H Q I hw
 rw [evalPart_some]
 refine thn (h pins s σ H _ I hw) fun u s1 ⟨x,H1,I1,r1,q1⟩=>?_
 obtain ⟨i,rfl,q⟩:=q1
 obtain ⟨t,rfl⟩:=r1
 exact ⟨some i,H1,I1,.int i t,q⟩
def SlR (X:Cx) (r:V → Option Int → Option Int → Hp → VK → Prop):Prop :=
 ∀ (pins:List (Addr × Obj)) (s:Shared) (σ:St) (H:Hp) (x:V) (v vl vu:Value) (lo hi:Option Int) (sl:Addr) (Q:VK),Inv X pins σ H s → RelV x v → s.heap.IsSliceOf sl vl vu .none → IsPart vl lo → IsPart vu hi → r x lo hi H Q →
  ∃ T id,typeLookup (.type T) "__getitem__" = pure (some (.builtin id)) ∧ s.TypeIs v T ∧ wpAny (model X.prog X.w) X.A (getItem v (.ref sl)) (EP X pins σ Q) X.xe s
theorem SlR.or {r r':V → Option Int → Option Int → Hp → VK → Prop} (h:SlR X r) (h':SlR X r'):SlR X (fun x lo hi H Q=>r x lo hi H Q ∨ r' x lo hi H Q):=by
 intro pins s σ H x v vl vu lo hi sl Q I rx hs pl pu q
 rcases q with q | q
 ·exact h pins s σ H x v vl vu lo hi sl Q I rx hs pl pu q
 ·exact h' pins s σ H x v vl vu lo hi sl Q I rx hs pl pu q
def tSl (r:V → Option Int → Option Int → Hp → VK → Prop) (te:TE) (tl th:TO):TE:=fun σ H Q=>te σ H fun x H1=>tl σ H1 fun l H2=>th σ H2 fun u H3=>r x l u H3 Q
theorem z5v {r:V → Option Int → Option Int → Hp → VK → Prop} (hr:SlR X r) (he:PE X e te) (hl:PO X lo tl) (hu:PO X hi th):PE X (.Subscript e (.Slice lo hi none p2) pos) (tSl r te tl th):=by
 intro pins s σ H Q I h
 refine Subscript_ (thn (he pins s σ H _ I h) fun v s1 ⟨x,H1,I1,r1,q1⟩=>?_)
 refine wpAny_Slice (thn (hl pins s1 σ H1 _ I1 q1) fun vl s2 ⟨l,H2,I2,pl,q2⟩=>thn (hu pins s2 σ H2 _ I2 q2) fun vu s3 ⟨u,H3,I3,pu,q3⟩=>?_)
 rw [evalPart_none]
 refine wpAny_pure ?_
 have I4:Inv X pins σ H3 { s3 with heap:=s3.heap.push { cls:=.type "slice",data:=.fields #[vl,vu,.none] } }:=I3.kept (t':=s3.toks) fun b ob q=>Heap.get?_push_of_some _ q
 obtain ⟨T,id,hT,ht,hg⟩:=hr pins { s3 with heap:=s3.heap.push { cls:=.type "slice",data:=.fields #[vl,vu,.none] } } σ H3 x v vl vu l u s3.heap.objs.size Q I4 r1 (Heap.IsSliceOf.new ..) pl pu q3
 show wpAny (model X.prog X.w) X.A (subscriptTail e (.Slice lo hi none p2) v (.ref s3.heap.objs.size)) (EP X pins σ Q) X.xe { s3 with heap:=s3.heap.push { cls:=.type "slice",data:=.fields #[vl,vu,.none] } }
 exact tail_any (ops:=[.ref s3.heap.objs.size,v]) ht hT hg (by with_unfolding_all rfl)
def cutV (xs:List V) (lo hi:Option Int):List V:=(xs.drop (HT.sIx xs.length 0 lo)).take (HT.sIx xs.length xs.length hi - HT.sIx xs.length 0 lo)
theorem zcw (xs:List V) (lo hi:Option Int):(cutV xs lo hi).length ≤ xs.length:=by
 unfold cutV
 rw [List.length_take,List.length_drop]
 omega
end
end L2
namespace L2
open PySem PySem.Spec PyProof.Rows
def ixN (n:Nat) (i:Int):Option Nat:=if 0 ≤ i then (if i < n then some i.toNat else none) else if -(n:Int) ≤ i then some (i + n).toNat else none
def atI {α:Type} (xs:List α) (i:Int):Option α:=(ixN xs.length i).bind fun j=>xs[j]?
theorem zdl {n:Nat} {i:Int} {j:Nat} (h:ixN n i = some j):seqIndex? i n = some j ∧ j < n ∧ -(n:Int) ≤ i ∧ i < n:=by
 unfold ixN at h
 by_cases h0:0 ≤ i
 ·rw [if_pos h0] at h
  by_cases h1:i < n
  ·rw [if_pos h1] at h
   have e:i.toNat = j:=Option.some.inj h
   exact ⟨by rw [seqIndex_of h0 h1,e],by omega,by omega,h1⟩
  ·rw [if_neg h1] at h; cases h
 ·rw [if_neg h0] at h
  by_cases h1:-(n:Int) ≤ i
  ·rw [if_pos h1] at h
   have e:(i + n).toNat = j:=Option.some.inj h
   exact ⟨by rw [seqIndex_neg (by omega) h1,e],by omega,h1,by omega⟩
  ·rw [if_neg h1] at h; cases h
theorem z9l {α:Type} {xs:List α} {i:Int} {v:α} (h:atI xs i = some v):∃ j,seqIndex? i xs.length = some j ∧ xs[j]? = some v ∧ j < xs.length ∧ -(xs.length:Int) ≤ i ∧ i < xs.length:=by
 unfold atI at h
 cases e:ixN xs.length i with
 | none=>rw [e] at h; cases h
 | some j =>
  rw [e] at h
  obtain ⟨h1,h2,h3,h4⟩:=zdl e
  exact ⟨j,h1,h,h2,h3,h4⟩
theorem zb {α:Type} {xs:List α} {j:Nat} {v:α} (h:xs[j]? = some v):atI xs (j:Int) = some v:=by
 have hj:j < xs.length:=(List.getElem?_eq_some_iff.mp h).1
 have e:ixN xs.length (j:Int) = some j:=by
  unfold ixN
  rw [if_pos (by omega),if_pos (by omega)]; simp
 unfold atI; rw [e]; exact h
theorem atI_last {α:Type} (xs:List α) (v:α):atI (xs ++ [v]) (-1) = some v:=by
 have hl:(xs ++ [v]).length = xs.length + 1:=by simp
 have e:ixN (xs ++ [v]).length (-1) = some xs.length:=by
  unfold ixN
  rw [hl,if_neg (by decide),if_pos (by omega)]
  congr 1
  omega
 unfold atI
 rw [e]
 show (xs ++ [v])[xs.length]? = some v
 simp
def zj2 (b:Expr):Prop:=∀ o i,subscripted b false o i = operate [o,i] (getItem o i)
def IxR (X:Cx) (r:R2):Prop :=
 ∀ (value slice:Expr) (pins:List (Addr × Obj)) (s:Shared) (σ:St) (H:Hp) (x y:V) (v u:Value) (Q:VK),Inv X pins σ H s → RelV x v → RelV y u → r x y H Q →
  subscripted slice false v u = operate [v,u] (getItem v u) → wpAny (model X.prog X.w) X.A (subscriptTail value slice v u) (EP X pins σ Q) X.xe s
def MtR (X:Cx) (id:String) (r:V → List V → Hp → VK → Prop):Prop :=
 ∀ (pins:List (Addr × Obj)) (s:Shared) (σ:St) (H:Hp) (x:V) (xs:List V) (v:Value) (us:List Value) (Q:VK),Inv X pins σ H s → RelV x v → Vals xs us → r x xs H Q →
  wpAny (model X.prog X.w) X.A (call (.builtin id) (v :: us)) (EP X pins σ Q) X.xe s
section
variable {X:Cx} {a b:Expr} {ta tb:TE} {pos:Pos}
theorem IxR.or {r r':R2} (h:IxR X r) (h':IxR X r'):IxR X (fun x y H Q=>r x y H Q ∨ r' x y H Q):=by
 intro value slice pins s σ H x y v u Q I rx ry q hs
 rcases q with q | q
 ·exact h value slice pins s σ H x y v u Q I rx ry q hs
 ·exact h' value slice pins s σ H x y v u Q I rx ry q hs
theorem MtR.or {id:String} {r r':V → List V → Hp → VK → Prop} (h:MtR X id r) (h':MtR X id r'):MtR X id (fun x xs H Q=>r x xs H Q ∨ r' x xs H Q):=by
 intro pins s σ H x xs v us Q I rx rs q
 rcases q with q | q
 ·exact h pins s σ H x xs v us Q I rx rs q
 ·exact h' pins s σ H x xs v us Q I rx rs q
theorem zh {r:R2} (hr:IxR X r) (ha:PE X a ta) (hb:PE X b tb) (hs:zj2 b):PE X (.Subscript a b pos) (tOp r ta tb):=by
 intro pins s σ H Q I h
 exact Subscript_ (binT ha hb I h fun v u s2 x y H2 I2 rx ry q=>hr a b pins s2 σ H2 x y v u Q I2 rx ry q (hs _ _))
def rIxL (K:PySem.W.Frag):R2:=fun x y H Q=>∃ p xs i v,x = .ref p ∧ y = .int i ∧ SqL K H p xs ∧ atI xs i = some v ∧ Q v H
def rIxT (K:PySem.W.Frag):R2:=fun x y H Q=>∃ p xs i v,x = .ref p ∧ y = .int i ∧ SqT K H p xs ∧ atI xs i = some v ∧ Q v H
def rIxS:R2:=fun x y H Q=>∃ z i c,x = .str z ∧ y = .int i ∧ z.length ≤ sizeLine ∧ atI z.cps.toList i = some c ∧ Q (.str ⟨#[c]⟩) H
theorem ix_list:IxR X (rIxL X.K):=by
 intro value slice pins s σ H x y v u Q I rx ry h hs
 obtain ⟨p,xs,i,z,rfl,rfl,hq,he,q⟩:=h
 cases rx
 obtain ⟨t,rfl⟩:=ry
 obtain ⟨its,r,pl,hz⟩:=I.list hq
 obtain ⟨j,h1,h2,h3,h4,h5⟩:=z9l he
 obtain ⟨w,ew,rw'⟩:=r.get h2
 have hl:=r.length
 have hn:=z6j
 have fin:EP X pins σ Q w s:=⟨z,H,I,rw',q⟩
 by_cases h0:0 ≤ i
 ·have hj:i.toNat = j:=by
   rw [seqIndex_of h0 h5] at h1
   exact Option.some.inj h1
  exact item_listR pl.isList h0 (by omega) (by rw [hj]; simpa using ew) fin hs
 ·have hj:(i + (its.toArray.size:Int)).toNat = j:=by
   rw [seqIndex_neg (by omega) h4] at h1
   rw [List.size_toArray,← hl]
   exact Option.some.inj h1
  exact subscriptTail_builtinR (x:=w) pl.isList.typeIs slot_list_getitem.lookup
   (wpAny_getItem_list_neg (Q:=fun r s'=>r = w ∧ EP X pins σ Q r s') pl.isList (by omega) (by rw [List.size_toArray] <;> omega) (by omega) (by rw [hj]; simpa using ew) ⟨rfl,fin⟩) hs
theorem ix_tup:IxR X (rIxT X.K):=by
 intro value slice pins s σ H x y v u Q I rx ry h hs
 obtain ⟨p,xs,i,z,rfl,rfl,hq,he,q⟩:=h
 cases rx
 obtain ⟨t,rfl⟩:=ry
 obtain ⟨its,r,pl,hz⟩:=I.tuple hq
 obtain ⟨j,h1,h2,h3,h4,h5⟩:=z9l he
 obtain ⟨w,ew,rw'⟩:=r.get h2
 have hl:=r.length
 have hn:=z6j
 have fin:EP X pins σ Q w s:=⟨z,H,I,rw',q⟩
 exact subscriptTail_builtinR (x:=w) pl.typeIs slot_tuple_getitem.lookup
  (getItem_tuple (j:=j) (Q:=fun r s'=>r = w ∧ EP X pins σ Q r s') pl (by omega) (by omega) (by rw [List.size_toArray,← hl]; exact h1) (by simpa using ew) ⟨rfl,fin⟩) hs
theorem z5n:IxR X rIxS:=by
 intro value slice pins s σ H x y v u Q I rx ry h hs
 obtain ⟨z,i,c,rfl,rfl,hz,he,q⟩:=h
 obtain ⟨t,rfl⟩:=rx
 obtain ⟨t',rfl⟩:=ry
 obtain ⟨j,h1,h2,h3,h4,h5⟩:=z9l he
 have hl:z.cps.toList.length = z.length:=by simp [Str.length]
 rw [hl] at h1 h4 h5
 have hn:=z6j
 exact tail_any (typeIs_str s z t) slot_str_getitem.lookup (getItem_str (c:=c) (by
  have e1:decide (i < -(2 ^ 63:Int)) = false:=decide_eq_false (by omega)
  have e2:decide (i ≥ 2 ^ 63) = false:=decide_eq_false (by omega)
  rw [e1,e2,Bool.or_false]) (by rw [h1]; simpa using h2) ⟨.str ⟨#[c]⟩,H,I.tok _,⟨_,rfl⟩,q⟩) hs
def rIx (K:PySem.W.Frag):R2:=fun x y H Q=>rIxL K x y H Q ∨ rIxT K x y H Q ∨ rIxS x y H Q
theorem zjx:IxR X (rIx X.K):=ix_list.or (ix_tup.or z5n)
theorem zec (its:List Value) (n j:Nat) (u:Value):Obj.mapSeq (·.setIfInBounds j u) { cls:=.type "list",data:=.seq its.toArray n } = { cls:=.type "list",data:=.seq (its.set j u).toArray n }:=by
 simp [Obj.mapSeq]
theorem Inv.lst {pins:List (Addr × Obj)} {σ:St} {H:Hp} {s:Shared} {p:Addr} {xs:List V} (I:Inv X pins σ H s) (h:H p = some (.lst xs)) :
  ∃ (its:List Value) (n:Nat),Vals xs its ∧ s.heap.get? p = some { cls:=.type "list",data:=.seq its.toArray n } ∧ xs.length ≤ sizeLine:=by
 obtain ⟨z,its,n,r,e⟩:=I.hok p _ h
 exact ⟨its,n,r,e,z⟩
theorem Inv.lstUpd {pins:List (Addr × Obj)} {σ:St} {H:Hp} {s:Shared} {p:Addr} {xs ys:List V} {its its':List Value} {n n':Nat} {f:Obj → Obj} (I:Inv X pins σ H s) (h:H p = some (.lst xs))
  (ho:s.heap.get? p = some { cls:=.type "list",data:=.seq its.toArray n }) (hf:f { cls:=.type "list",data:=.seq its.toArray n } = { cls:=.type "list",data:=.seq its'.toArray n' }) (r:Vals ys its') (hz:ys.length ≤ sizeLine) (t:Nat) :
  Inv X pins σ (upd H p (.lst ys)) { s with heap:=s.heap.update p f,toks:=t }:=by
 have e:(s.heap.update p f).get? p = some { cls:=.type "list",data:=.seq its'.toArray n' }:=by
  rw [Heap.get?_update_self f ho (by rw [hf] <;> rfl),hf]
 refine I.write (x:=p) (e:=p) (by rw [h]; trivial) (.inl rfl) (fun b u hb q=>(Heap.get?_update_other _ _ (Ne.symm hb)).trans q) ⟨_,e⟩ ?_
 exact ⟨hz,its',n',r,e⟩
def zko:V → V → V → Hp → (Hp → Prop) → Prop:=fun o i v H Q=>∃ p xs k j,o = .ref p ∧ i = .int k ∧ H p = some (.lst xs) ∧ ixN xs.length k = some j ∧ Q (upd H p (.lst (xs.set j v)))
theorem zbt:PSet X zko:=by
 intro pins s σ H o i v ov iv u Q I ro ri rv h
 obtain ⟨p,xs,k,j,rfl,rfl,hp,hj,q⟩:=h
 cases ro
 obtain ⟨t,rfl⟩:=ri
 obtain ⟨its,n,r,ho,hz⟩:=I.lst hp
 obtain ⟨h1,h2,h3,h4⟩:=zdl hj
 have hl:=r.length
 have hn:=z6j
 have I':Inv X pins σ (upd H p (.lst (xs.set j v))) { s with heap:=s.heap.update p (Obj.mapSeq (·.setIfInBounds j u)) } :=
  I.lstUpd hp ho (zec its n j u) (r.set rv j) (by rw [List.length_set]; exact hz) s.toks
 by_cases h0:0 ≤ k
 ·have hk:k.toNat = j:=by
   rw [seqIndex_of h0 h4] at h1
   exact Option.some.inj h1
  exact PySem.W.ki_setAt ho h0 (by omega) (by rw [List.size_toArray,← hl]; exact h4) (by rw [hk]; exact ⟨_,I',q⟩)
 ·have hk:(k + (its.toArray.size:Int)).toNat = j:=by
   rw [seqIndex_neg (by omega) h3] at h1
   rw [List.size_toArray,← hl]
   exact Option.some.inj h1
  exact PySem.W.ki_setBack ho (by omega) (by rw [List.size_toArray,← hl]; exact h3) (by omega) (by rw [hk]; exact ⟨_,I',q⟩)
theorem zbu (lo hi:Option Int) (n:Nat):(sliceBounds lo hi none n).1 = ((HT.sIx n 0 lo:Nat):Int) ∧ (sliceBounds lo hi none n).2.1 = ((HT.sIx n n hi:Nat):Int) ∧ (sliceBounds lo hi none n).2.2 = 1:=by
 refine ⟨?_,?_,rfl⟩
 ·cases lo with
  | none=>simp [sliceBounds,HT.sIx]
  | some i =>
   simp only [sliceBounds,HT.sIx,Option.getD_none,show (1:Int) > 0 by decide,if_true]
   by_cases h:i < 0
   ·simp only [h,if_true] <;> omega
   ·simp only [h,if_false] <;> omega
 ·cases hi with
  | none=>simp [sliceBounds,HT.sIx]
  | some i =>
   simp only [sliceBounds,HT.sIx,Option.getD_none,show (1:Int) > 0 by decide,if_true]
   by_cases h:i < 0
   ·simp only [h,if_true] <;> omega
   ·simp only [h,if_false] <;> omega
theorem zay (its:List Value) (lo hi:Option Int):slicePick its.toArray lo hi none = ((its.drop (HT.sIx its.length 0 lo)).take (HT.sIx its.length its.length hi - HT.sIx its.length 0 lo)).toArray:=by
 obtain ⟨h1,h2,h3⟩:=zbu lo hi its.toArray.size
 unfold slicePick
 rw [h1,h2,h3]
 simp only [sliceRange_one,pick_run,List.size_toArray] <;> rfl
def rSlL (K:PySem.W.Frag):V → Option Int → Option Int → Hp → VK → Prop:=fun x lo hi H Q=>∃ a xs,x = .ref a ∧ SqL K H a xs ∧ ∀ p,H p = none → Q (.ref p) (upd H p (.lst (cutV xs lo hi)))
theorem z9m:SlR X (rSlL X.K):=by
 intro pins s σ H x v vl vu lo hi sl Q I rx hs pl pu h
 obtain ⟨a,xs,rfl,hx,q⟩:=h
 cases rx
 obtain ⟨its,r,ht,hz⟩:=I.list hx
 have hlen:=r.length
 refine ⟨"list",_,slot_list_getitem.lookup,ht.isList.typeIs,?_⟩
 refine wpAny_getItem_list_slice ht.isList hs pl pu .none (by simp) ?_ (by rw [List.size_toArray] <;> omega)
 rw [zay,← hlen]
 refine ⟨.ref s.heap.objs.size,_,I.laid (t':=s.toks) (o:=.lst (cutV xs lo hi)) (fun b ob q=>Heap.get?_push_of_some _ q) (Nat.le_refl _) ?_,rfl,q _ (I.hok.fresh (Nat.le_refl _))⟩
 exact ⟨Nat.le_trans (zcw xs lo hi) hz,_,0,(r.drop (HT.sIx xs.length 0 lo)).take (HT.sIx xs.length xs.length hi - HT.sIx xs.length 0 lo),Heap.get?_push_size _ rfl⟩
def z2i:V → Bool
 | .non=>true
 | .bl _=>true
 | .int _=>true
 | .str _=>true
 | _=>false
def eqV:V → V → Bool
 | .non,.non=>true
 | .bl a,.bl b=>a == b
 | .bl a,.int b=>(if a then 1 else 0) == b
 | .int a,.bl b=>a == (if b then 1 else 0)
 | .int a,.int b=>a == b
 | .str a,.str b=>a == b
 | _,_=>false
theorem zfk {A:Around} {s:Shared} {y x:V} {u v:Value} (ry:RelV y u) (rx:RelV x v) (fy:z2i y = true) (fx:z2i x = true):SeqAt.EqAt A s u v (eqV y x):=by
 cases y with
 | non =>
  cases ry
  cases x with
  | non=>cases rx; exact SeqAt.EqAt.same _
  | bl b=>cases rx; exact SeqAt.EqAt.none_bool b
  | int b=>obtain ⟨t,rfl⟩:=rx; exact SeqAt.EqAt.none_int b t
  | str b=>obtain ⟨t,rfl⟩:=rx; exact SeqAt.EqAt.none_str b t
  | _=>exact absurd (show false = true from fx) Bool.false_ne_true
 | bl a =>
  cases ry
  cases x with
  | non=>cases rx; exact SeqAt.EqAt.bool_none a
  | bl b=>cases rx; exact SeqAt.EqAt.bool_bool a b
  | int b=>obtain ⟨t,rfl⟩:=rx; exact SeqAt.EqAt.bool_int a b t
  | str b=>obtain ⟨t,rfl⟩:=rx; exact SeqAt.EqAt.bool_str a b t
  | _=>exact absurd (show false = true from fx) Bool.false_ne_true
 | int a =>
  obtain ⟨t',rfl⟩:=ry
  cases x with
  | non=>cases rx; exact SeqAt.EqAt.int_none a t'
  | bl b=>cases rx; exact SeqAt.EqAt.int_bool a t' b
  | int b=>obtain ⟨t,rfl⟩:=rx; exact SeqAt.EqAt.int_int a t' b t
  | str b=>obtain ⟨t,rfl⟩:=rx; exact SeqAt.EqAt.int_str a t' b t
  | _=>exact absurd (show false = true from fx) Bool.false_ne_true
 | str a =>
  obtain ⟨t',rfl⟩:=ry
  cases x with
  | non=>cases rx; exact SeqAt.EqAt.str_none a t'
  | bl b=>cases rx; exact SeqAt.EqAt.str_bool a t' b
  | int b=>obtain ⟨t,rfl⟩:=rx; exact SeqAt.EqAt.str_int a t' b t
  | str b=>obtain ⟨t,rfl⟩:=rx; exact SeqAt.EqAt.str_str a t' b t
  | _=>exact absurd (show false = true from fx) Bool.false_ne_true
 | _=>exact absurd (show false = true from fy) Bool.false_ne_true
def eqU (x:V) (u:Value):Bool:=match u with
 | .none=>eqV .non x
 | .bool b=>eqV (.bl b) x
 | .int i _=>eqV (.int i) x
 | .str z _=>eqV (.str z) x
 | _=>false
theorem zfl {x y:V} {u:Value} (r:RelV y u) (f:z2i y = true):eqU x u = eqV y x:=by
 cases y with
 | non=>cases r; rfl
 | bl b=>cases r; rfl
 | int i=>obtain ⟨t,rfl⟩:=r; rfl
 | str z=>obtain ⟨t,rfl⟩:=r; rfl
 | _=>exact absurd (show false = true from f) Bool.false_ne_true
theorem z5o {x:V}:∀ {xs:List V} {us:List Value},Vals xs us → xs.all z2i = true → us.any (eqU x) = xs.any fun y=>eqV y x
 | _,_,.nil,_=>rfl
 | y :: xs,u :: us,.cons r t,f=>by
  rw [List.all_cons,Bool.and_eq_true] at f
  rw [List.any_cons,List.any_cons,zfl r f.1,z5o t f.2]
theorem z4r {A:Around} {s:Shared} {x:V} {v:Value} (rx:RelV x v) (fx:z2i x = true):∀ {xs:List V} {us:List Value},Vals xs us → xs.all z2i = true → ∀ u ∈ us,SeqAt.EqAt A s u v (eqU x u)
 | _,_,.nil,_=>fun u hu=>by cases hu
 | y :: xs,u :: us,.cons r t,f=>fun u' hu=>by
  rw [List.all_cons,Bool.and_eq_true] at f
  rcases List.mem_cons.mp hu with rfl | hu
  ·rw [zfl r f.1]; exact zfk r rx f.1 fx
  ·exact z4r rx fx t f.2 u' hu
def inV (x:V) (xs:List V):Bool:=xs.any fun y=>eqV y x
def rIn (K:PySem.W.Frag) (neg:Bool):R2:=fun x y H Q=>∃ p xs,y = .ref p ∧ (SqL K H p xs ∨ SqT K H p xs) ∧ z2i x = true ∧ xs.all z2i = true ∧ Q (.bl (if neg then !inV x xs else inV x xs)) H
theorem zak:OpR X (compareOp .In) (rIn X.K false):=by
 intro pins s σ H x y v u Q I rx ry h
 obtain ⟨p,xs,rfl,hq,fx,fs,q⟩:=h
 cases ry
 rcases hq with hq | hq
 ·obtain ⟨its,r,pl,hz⟩:=I.list hq
  refine SeqAt.in_listAt (eqU x) pl.isList (fun w hw=>z4r rx fx r fs w (by simpa using hw)) ⟨.bl _,H,I,rfl,?_⟩
  rw [show its.toArray.any (eqU x) = its.any (eqU x) by simp,z5o r fs]
  exact q
 ·obtain ⟨its,r,pl,hz⟩:=I.tuple hq
  refine SeqAt.in_tupleAt (eqU x) pl (fun w hw=>z4r rx fx r fs w (by simpa using hw)) ⟨.bl _,H,I,rfl,?_⟩
  rw [show its.toArray.any (eqU x) = its.any (eqU x) by simp,z5o r fs]
  exact q
theorem z6m:OpR X (compareOp .NotIn) (rIn X.K true):=by
 intro pins s σ H x y v u Q I rx ry h
 obtain ⟨p,xs,rfl,hq,fx,fs,q⟩:=h
 cases ry
 rcases hq with hq | hq
 ·obtain ⟨its,r,pl,hz⟩:=I.list hq
  refine SeqAt.notIn_listAt (eqU x) pl.isList (fun w hw=>z4r rx fx r fs w (by simpa using hw)) ⟨.bl _,H,I,rfl,?_⟩
  rw [show its.toArray.any (eqU x) = its.any (eqU x) by simp,z5o r fs]
  exact q
 ·obtain ⟨its,r,pl,hz⟩:=I.tuple hq
  refine SeqAt.notIn_tupleAt (eqU x) pl (fun w hw=>z4r rx fx r fs w (by simpa using hw)) ⟨.bl _,H,I,rfl,?_⟩
  rw [show its.toArray.any (eqU x) = its.any (eqU x) by simp,z5o r fs]
  exact q
theorem zq:CallR X (.builtin "len") (fun xs H Q=>∃ p ys,xs = [.ref p] ∧ (SqL X.K H p ys ∨ SqT X.K H p ys) ∧ Q (.int ys.length) H):=by
 intro pins s σ H xs us Q I r h
 obtain ⟨p,ys,rfl,hq,q⟩:=h
 obtain ⟨u,rfl,rx⟩:=z3k r
 cases rx
 have hn:=z6j
 rcases hq with hq | hq
 ·obtain ⟨its,r',pl,hz⟩:=I.list hq
  have hlen:=r'.length
  exact Calls.call_len_list pl.isList (by simp only [List.size_toArray] <;> omega) ⟨.int ys.length,H,I.tok _,⟨s.toks + 1,by rw [List.size_toArray,hlen]⟩,q⟩
 ·obtain ⟨its,r',pl,hz⟩:=I.tuple hq
  have hlen:=r'.length
  exact len_tuple pl (by simp only [List.size_toArray] <;> omega) ⟨.int ys.length,H,I.tok _,⟨s.toks + 1,by rw [List.size_toArray,hlen]⟩,q⟩
theorem CallR.or {f:Value} {r r':List V → Hp → VK → Prop} (h:CallR X f r) (h':CallR X f r'):CallR X f (fun xs H Q=>r xs H Q ∨ r' xs H Q):=by
 intro pins s σ H xs us Q I rs q
 rcases q with q | q
 ·exact h pins s σ H xs us Q I rs q
 ·exact h' pins s σ H xs us Q I rs q
theorem zaz:CallR X (.type "tuple") (fun xs H Q=>∃ p ys,xs = [.ref p] ∧ ((SqL X.K H p ys ∧ ∀ l,H l = none → Q (.ref l) (upd H l (.tup ys))) ∨ (SqT X.K H p ys ∧ Q (.ref p) H))):=by
 intro pins s σ H xs us Q I r h
 obtain ⟨p,ys,rfl,h⟩:=h
 obtain ⟨u,rfl,rx⟩:=z3k r
 cases rx
 rcases h with ⟨hq,q⟩ | ⟨hq,q⟩
 ·obtain ⟨its,r',pl,hz⟩:=I.list hq
  have hlen:=r'.length
  refine call_tuple_list pl.isList (fun h' kp=>?_) (by simp only [List.size_toArray] <;> omega)
  have I1:Inv X pins σ H { s with heap:=h' }:=I.kept (t':=s.toks) kp
  have I2:Inv X pins σ (upd H h'.objs.size (.tup ys)) { s with heap:=h'.push { cls:=.type "tuple",data:=.seq its.toArray } } :=
   I1.laid (t':=s.toks) (fun b o e=>Heap.get?_push_of_some _ e) (Nat.le_refl _) (show ObjOk X.prog X.w _ _ _ (.tup ys) from ⟨hz,its,r',IsTup.new _ _⟩)
  exact ⟨.ref h'.objs.size,_,I2,rfl,q _ (I1.hok.fresh (Nat.le_refl _))⟩
 ·obtain ⟨its,r',pl,hz⟩:=I.tuple hq
  exact call_tuple_same pl ⟨.ref p,H,I,rfl,q⟩
def tyV (K:PySem.W.Frag) (T:String) (x:V) (H:Hp):Prop:=match x with
 | .str _=>T = "str"
 | .int _=>T = "int"
 | .ref p=>(T = "list" ∧ ∃ xs,SqL K H p xs) ∨ (T = "tuple" ∧ ∃ o,K.lookup p = some o ∧ o.cls = .type "tuple" ∧ o.dict = none) ∨
   (T = "dict" ∧ ((∃ kvs,H p = some (.dK kvs)) ∨ ∃ kvs,H p = some (.dT kvs))) ∨ (T = "set" ∧ ∃ S n,H p = some (.set S n))
 | _=>False
theorem zjy {pins:List (Addr × Obj)} {σ:St} {H:Hp} {s:Shared} {T:String} {x:V} {v:Value} (I:Inv X pins σ H s) (r:RelV x v) (ty:tyV X.K T x H) :
  s.TypeIs v T ∧ ∀ a,v = .ref a → ∃ ob,s.heap.get? a = some ob ∧ ob.dict = none:=by
 cases x with
 | str z =>
  obtain ⟨t,rfl⟩:=r
  cases (show T = "str" from ty)
  exact ⟨typeIs_str s z t,fun _ e=>nomatch e⟩
 | int i =>
  obtain ⟨t,rfl⟩:=r
  cases (show T = "int" from ty)
  exact ⟨typeIs_int s i t,fun _ e=>nomatch e⟩
 | ref p =>
  cases r
  rcases ty with ⟨rfl,xs,hq⟩ | ⟨rfl,o,hk,hc,hd⟩ | ⟨rfl,hk⟩ | ⟨rfl,S,n,hk⟩
  ·obtain ⟨its,_,pl,_⟩:=I.list hq
   refine ⟨pl.isList.typeIs,fun a e=>?_⟩
   cases e
   obtain ⟨o,n,e,c,hd,_⟩:=pl
   exact ⟨o,e,hd⟩
  ·refine ⟨⟨o,I.kIn p o hk,hc⟩,fun a e=>?_⟩
   cases e
   exact ⟨o,I.kIn _ o hk,hd⟩
  ·have z:∃ o,s.heap.get? p = some o ∧ o.ExactDict:=by
    rcases hk with ⟨kvs,hk⟩ | ⟨kvs,hk⟩
    ·obtain ⟨_,_,_,_,o,_,_,e,ex,_⟩:=I.hok p _ hk
     exact ⟨o,e,ex⟩
    ·obtain ⟨_,_,_,_,o,_,_,e,ex,_⟩:=I.hok p _ hk
     exact ⟨o,e,ex⟩
   obtain ⟨o,e,ex⟩:=z
   refine ⟨⟨o,e,ex.1⟩,fun a e2=>?_⟩
   cases e2
   exact ⟨o,e,ex.2.1⟩
  ·obtain ⟨o,_,_,_,e,ex,_⟩:=I.hok p _ hk
   refine ⟨⟨o,e,ex.1⟩,fun a e2=>?_⟩
   cases e2
   exact ⟨o,e,ex.2.1⟩
 | _=>exact False.elim ty
def tBM (K:PySem.W.Frag) (T:String) (r:V → List V → Hp → VK → Prop) (to:TE) (t:TA):TE:=fun σ H Q=>to σ H fun x H1=>tyV K T x H1 ∧ t σ H1 fun xs H2=>r x xs H2 Q
variable {o e:Expr} {es:List Expr} {to:TE} {t:TA} {name:Str} {apos cpos:Pos} {T id:String} {r:V → List V → Hp → VK → Prop}
theorem z2c (pa:PlainAttrs T) (slot:Slot T name id) (hty:typeOf (.builtin id) = pure (.type "method_descriptor")) (hm:MtR X id r) (ho:PE X o to) (ha:PA X (e :: es) t)
  (hbase:attributeBase o name X.env (eval o X.env) = eval o X.env:=by rfl)
  (hfew:((backTo cpos (starEach (e :: es) X.env)).all (fun x=>!x.1) && (backToKw cpos (keywordEach [] X.env)).all (fun x=>x.1.isSome)
   && decide ((e :: es).length + ([]:List Keyword).length + (if ([]:List Keyword).isEmpty then 0 else 1) < 30)) = true:=by rfl)
  (hline:(apos.endLine == cpos.line) = true:=by rfl) (hs:starEach (e :: es) X.env = (false,eval e X.env) :: starEach es X.env:=by rfl) (hplain:(backTo cpos (starEach es X.env)).any (·.1) = false:=by rfl) :
  PE X (.Call (.Attribute o name apos) (e :: es) [] cpos) (tBM X.K T r to t):=by
 intro pins s σ H Q I h
 refine wpAny_Call_method_late hbase hfew hline rfl (thn (ho pins s σ H _ I h) fun v s1 ⟨x,H1,I1,r1,ty,q1⟩=>?_)
 obtain ⟨h1,h2⟩:=zjy I1 r1 ty
 refine ⟨T,id,pa,slot,hty,h1,h2,?_⟩
 have hA:=ha cpos pins s1 σ H1 _ I1 q1
 rw [hs] at hA ⊢
 refine Calls.callWith_builtin (by show (false || (backTo cpos (starEach es X.env)).any (·.1)) = false; rw [hplain] <;> rfl) (Calls.evalArgs_plain ?_)
 exact thn hA fun us s2 ⟨vs,H2,I2,r2,q2⟩=>hm pins s2 σ H2 x vs v us Q I2 r1 r2 q2
end
end L2
namespace L2
open PySem PySem.Spec PyProof.Rows
def MtM (X:Cx) (id:String) (r:V → List V → Hp → VK → Prop):Prop :=
 ∀ (pins:List (Addr × Obj)) (s:Shared) (σ:St) (H:Hp) (x:V) (xs:List V) (v:Value) (us:List Value) (Q:VK),Inv X pins σ H s → RelV x v → Vals xs us → r x xs H Q →
  wpAny (model X.prog X.w) X.A (call (.builtin id) (v :: us)) (EP X pins σ Q) X.xe s
theorem Vals.one:∀ {x:V} {us:List Value},Vals [x] us → ∃ u,us = [u] ∧ RelV x u
 | _,_,.cons r .nil=>⟨_,rfl,r⟩
theorem Vals.two:∀ {x y:V} {us:List Value},Vals [x,y] us → ∃ u v,us = [u,v] ∧ RelV x u ∧ RelV y v
 | _,_,_,.cons r (.cons q .nil)=>⟨_,_,rfl,r,q⟩
theorem Vals.zero:∀ {us:List Value},Vals [] us → us = []
 | _,.nil=>rfl
theorem Vals.eraseIdx:∀ {xs:List V} {us:List Value} (i:Nat),Vals xs us → Vals (xs.eraseIdx i) (us.eraseIdx i)
 | _,_,_,.nil=>.nil
 | _,_,0,.cons _ t=>t
 | _,_,i + 1,.cons r t=>.cons r (Vals.eraseIdx i t)
theorem Vals.reverse {xs:List V} {us:List Value} (h:Vals xs us):Vals xs.reverse us.reverse:=by
 induction h with
 | nil=>exact .nil
 | cons r t ih=>rw [List.reverse_cons,List.reverse_cons]; exact Vals.append ih (.cons r .nil)
theorem Vals.rep {xs:List V} {us:List Value} (h:Vals xs us):∀ k:Nat,Vals (List.replicate k xs).flatten (List.replicate k us).flatten
 | 0=>.nil
 | k + 1=>by
  rw [List.replicate_succ,List.replicate_succ,List.flatten_cons,List.flatten_cons]
  exact Vals.append h (Vals.rep h k)
theorem zal (its:List Value):∀ (k:Nat) (acc:List Value),
  List.foldl (fun x1 x2=>x1 ++ x2) acc.toArray (List.replicate k its.toArray) = (acc ++ (List.replicate k its).flatten).toArray
 | 0,acc=>by simp
 | k + 1,acc=>by
  have e:acc.toArray ++ its.toArray = (acc ++ its).toArray:=by simp
  have e2:(acc ++ its) ++ (List.replicate k its).flatten = acc ++ (List.replicate (k + 1) its).flatten:=by
   rw [List.replicate_succ,List.flatten_cons,List.append_assoc]
  rw [← e2,← zal its k (acc ++ its),← e,List.replicate_succ,List.foldl_cons]
section
variable {X:Cx} {pins:List (Addr × Obj)} {σ:St} {H:Hp} {s:Shared} {l b:Addr} {xs ys zs:List V}
theorem Inv.lset {its its':List Value} {n:Nat} {f:Array Value → Array Value} {t':Nat} (I:Inv X pins σ H s) (hH:H l = some (.lst xs))
  (e:s.heap.get? l = some { cls:=.type "list",data:=.seq its.toArray n }) (hf:f its.toArray = its'.toArray) (hv:Vals ys its') (hz:ys.length ≤ sizeLine) :
  Inv X pins σ (upd H l (.lst ys)) { s with heap:=s.heap.update l (Obj.mapSeq f),toks:=t' }:=by
 have q:=PySem.IsL.update e f
 rw [hf] at q
 refine I.write (x:=l) (e:=l) (by rw [hH]; exact trivial) (.inl rfl) (fun b' u hb hu=>(Heap.get?_update_other s.heap (Obj.mapSeq f) (Ne.symm hb)).trans hu) ⟨_,q⟩ ?_
 exact ⟨hz,its',_,hv,q⟩
theorem Inv.lnew {its:List Value} {t':Nat} (I:Inv X pins σ H s) (hv:Vals ys its) (hz:ys.length ≤ sizeLine) :
  Inv X pins σ (upd H s.heap.objs.size (.lst ys)) { s with heap:=s.heap.push { cls:=.type "list",data:=.seq its.toArray },toks:=t' } :=
 I.laid (fun _ _ q=>Heap.get?_push_of_some _ q) (Nat.le_refl _) ⟨hz,its,0,hv,Heap.get?_push_size _ rfl⟩
theorem Inv.fresh (I:Inv X pins σ H s):H s.heap.objs.size = none:=I.hok.fresh (Nat.le_refl _)
theorem Inv.lstM (I:Inv X pins σ H s) (hH:H l = some (.lst xs)):xs.length ≤ sizeLine ∧ ∃ (its:List Value) (n:Nat),Vals xs its ∧ xs.length = its.length ∧ s.heap.get? l = some { cls:=.type "list",data:=.seq its.toArray n }:=by
 obtain ⟨z,its,n,r,e⟩:=I.hok l _ hH
 exact ⟨z,its,n,r,r.length,e⟩
theorem zhi {n:Nat} (h:n ≤ sizeLine):Builtin.List.listTooLong n = false:=by
 unfold Builtin.List.listTooLong
 exact decide_eq_false (by omega)
end
section
variable {X:Cx}
def z7a:V → List V → Hp → VK → Prop:=fun x vs H Q=>∃ l xs y,x = .ref l ∧ vs = [y] ∧ H l = some (.lst xs) ∧ xs.length < sizeLine ∧ Q .non (upd H l (.lst (xs ++ [y])))
theorem z23:MtM X "list.append" z7a:=by
 intro pins s σ H x vs v us Q I rx rv h
 obtain ⟨l,xs,y,rfl,rfl,hH,hz,q⟩:=h
 cases rx
 obtain ⟨u,rfl,ru⟩:=rv.one
 obtain ⟨z,its,n,r,hl,e⟩:=I.lstM hH
 refine call_meets F.slot_list_append ⟨_,e,rfl⟩ F.entry_list_append (F.args_list_append_2 _ _) (PySem.list_append l its.toArray n u (by rw [List.size_toArray]; omega)) ⟨e,?_⟩
 refine ⟨.non,_,I.lset (its':=its ++ [u]) hH e (by simp) (r.append (.cons ru .nil)) ?_,rfl,q⟩
 rw [List.length_append,List.length_singleton]
 omega
def rCat:R2:=fun x y H Q=>∃ l b xs zs,x = .ref l ∧ y = .ref b ∧ H l = some (.lst xs) ∧ H b = some (.lst zs) ∧ xs.length + zs.length ≤ sizeLine ∧ ∀ p,H p = none → Q (.ref p) (upd H p (.lst (xs ++ zs)))
theorem zfm:OpR X (binaryOp .Add) rCat:=by
 intro pins s σ H x y v u Q I rx ry h
 obtain ⟨l,b,xs,zs,rfl,rfl,hH,hB,hz,q⟩:=h
 cases rx
 cases ry
 obtain ⟨z,its,n,r,hl,e⟩:=I.lstM hH
 obtain ⟨z2,its2,n2,r2,hl2,e2⟩:=I.lstM hB
 refine PySem.P.add_list e e2 ?_ (by rw [List.size_toArray,List.size_toArray]; omega)
 have ea:its.toArray ++ its2.toArray = (its ++ its2).toArray:=by simp
 rw [ea]
 exact ⟨.ref _,_,I.lnew (t':=s.toks) (r.append r2) (by rw [List.length_append]; omega),rfl,q _ I.fresh⟩
def rRep:R2:=fun x y H Q=>∃ l k xs,x = .ref l ∧ y = .int k ∧ H l = some (.lst xs) ∧ -(2 ^ 63) ≤ k ∧ k < 2 ^ 63 ∧ xs.length * k.toNat ≤ sizeLine ∧
 ∀ p,H p = none → Q (.ref p) (upd H p (.lst (List.replicate k.toNat xs).flatten))
theorem zj3 {α:Type} (xs:List α) (k:Nat):(List.replicate k xs).flatten.length = k * xs.length:=by
 induction k with
 | zero=>simp
 | succ k ih=>rw [List.replicate_succ,List.flatten_cons,List.length_append,ih,Nat.succ_mul,Nat.add_comm]
theorem zfn:OpR X (binaryOp .Mult) rRep:=by
 intro pins s σ H x y v u Q I rx ry h
 obtain ⟨l,k,xs,rfl,rfl,hH,h1,h2,hz,q⟩:=h
 cases rx
 obtain ⟨t,rfl⟩:=ry
 obtain ⟨z,its,n,r,hl,e⟩:=I.lstM hH
 have hlen:its.toArray.size * k.toNat ≤ sizeLine:=by rw [List.size_toArray,← hl]; exact hz
 have hcap:¬ its.toArray.size * k.toNat > (2 ^ 63 - 1) / 8:=by
  have:(sizeLine:Nat) ≤ (2 ^ 63 - 1) / 8:=by decide
  omega
 have hfit:¬ (!Builtin.List.listFitsIndex k) = true:=by
  rw [fitsIndex_both h1 h2]
  exact Bool.false_ne_true
 have hlong:¬ Builtin.List.listTooLong (its.toArray.size * k.toNat) = true:=by
  rw [zhi hlen]
  exact Bool.false_ne_true
 have hnew:List.foldl (fun x1 x2=>x1 ++ x2) #[] (List.replicate (if its.toArray.isEmpty = true then 0 else k.toNat) its.toArray) = (List.replicate k.toNat its).flatten.toArray:=by
  have f0:∀ m:Nat,List.foldl (fun x1 x2=>x1 ++ x2) #[] (List.replicate m its.toArray) = (List.replicate m its).flatten.toArray:=fun m=>by
   have:=zal its m []
   rw [List.nil_append] at this
   exact this
  rw [f0]
  cases its with
  | nil=>simp
  | cons a r'=>rw [if_neg (by simp)]
 refine wpAny_binaryOp_repeat_ref (T := "list") (U := "int") (by decide) ⟨_,e,rfl⟩ (fun s'=>typeIs_int s' k t) noFill_list_mul F.fills_int_mul F.slot_int_rmul repeat_list F.slot_int_index.lookup
  (call_meets F.slot_int_rmul (typeIs_int s k t) F.entry_int_rmul (F.args_int_rmul_2 _ _) (int___rmul___int_list k t l its.toArray n)
   ⟨e,rfl,⟨_,e,rfl⟩,call_meets F.slot_list_mul ⟨_,e,rfl⟩ F.entry_list_mul (F.args_list_mul_2 _ _) (AutoListH.list___mul___list_int_3 l its.toArray n k t hfit hcap hlong) ⟨e,?_⟩⟩)
 rw [hnew]
 exact ⟨.ref _,_,I.lnew (t':=s.toks) (r.rep k.toNat) (by rw [zj3,Nat.mul_comm]; exact hz),rfl,q _ I.fresh⟩
end
section
variable {prog:Program} {w:World} {A:Around} {E:Value → Shared → Prop} {s:Shared}
end
section
variable {X:Cx}
end
end L2
namespace Att
open PySem PySem.W PySem.Calls PyProof.Rows
theorem z8j {P:Params} {h:Heap}:∀ (ns:List Int) (vs:List Value),WellAll P h vs (ns.map WData.int) → IntsAre vs ns:=by
 intro ns
 induction ns with
 | nil =>
  intro vs w
  rw [List.map_nil] at w
  cases w
  exact .nil
 | cons n ns ih =>
  intro vs w
  rw [List.map_cons] at w
  cases w with
  | cons a b =>
   cases a
   exact .cons _ _ (ih _ b)
theorem zfo {l:OpenLaw} {n:Nat} (hn:l.most = some n) {P:Params} {h:Heap} {args:List WData} {vals:List Value}
  (hpre:l.row.toRowW.claim.pre args = true) (hwl:WellAll P h vals args) :
  ∃ a vs ns,vals = [Value.ref a] ∧ args = [WData.list (ns.map WData.int)] ∧ h.get? a = some { cls:=.type "list",data:=.seq vs.toArray } ∧ IntsAre vs ns ∧ ns.length ≤ n:=by
 have hsh:WShape.hasAll [] args [.list .int] = true:=(pre_splitW hpre).1
 have hc:l.pre.holds [] { args:=args } = true:=(pre_splitW hpre).2
 obtain ⟨d,r,rfl,h1,h2⟩:=hasAllW_cons hsh
 obtain rfl:=hasAllW_nil h2
 obtain ⟨xs,rfl,h3⟩:=hasW_list h1
 obtain ⟨ns,rfl⟩:=items_int h3
 have hlen:ns.length ≤ n:=by
  unfold OpenLaw.pre at hc
  have h4:(WTm.not (.lt (.lit (.int (n:Int))) (.len (.arg 0)))).holds [] { args:=[.list (ns.map .int)] } = true:=by
   have h4:=(holds_andW hc).1
   rw [hn] at h4
   exact h4
  have h5:=condW_of h4 (w_not (w_lt w_lit (w_len_list (w_arg rfl))))
  rw [List.length_map] at h5
  refine Nat.le_of_not_lt fun q=>?_
  have q':(n:Int) < ((ns.length:Nat):Int):=by omega
  first
   | (rw [decide_eq_true q'] at h5; exact absurd h5 (by decide))
   | (simp at h5; omega)
 cases hwl with
 | cons w1 w2 =>
  cases w2
  cases w1 with
  | list ho hall=>exact ⟨_,_,ns,rfl,rfl,ho,z8j ns _ hall,hlen⟩
theorem zfp (l:OpenLaw) (args:List WData):l.row.toRowW.claim.post args (.bool true) args = true :=
 postW_of (r:=l.row.toRowW) (X:=(true == true))
  (show WShape.has [] (.bool true) .bool = true by first | rfl | decide | simp [WShape.has,WShape.arms,WShape.armsAll])
  (show (WTm.eq .res (.lit (.bool true))).value [] { args:=args,res:=some (.bool true),after:=args } = some (.bool (true == true)) from w_eq_bool (w_res rfl) w_lit) rfl
theorem attach_call {l:OpenLaw} {n:Nat} {q:Program} {loose:List Str} {XP:(Str → Option Value) → Heap → Prop} {YP:World → Heap → Prop} {d:DefRec}
  (hn:l.most = some n) (hdf:d.params.defaults = [])
  (call:∀ (w:World) (s₀ s₁:Shared) (mg mb:Str → Option Value) (fa:Addr) (o:Obj) (pm cd doc:Value) (a:Addr) (vs:List Value) (ns:List Int),
   Ground q loose [] XP w s₀ mg mb s₁.heap → YP w s₁.heap →
   s₁.heap.get? fa = some o → o.data = .func (docDef d.name d.params d.body d.scope pm cd doc) → s₁.heap.CodeRec cd d.name → mg d.name = some (.ref fa) →
   s₁.heap.get? a = some { cls:=.type "list",data:=.seq vs.toArray } → IntsAre vs ns → ns.length ≤ n → s₁.gens = #[] →
   codeAny (model l.prog w) callerA (.call (.ref fa) ⟨[.ref a],[]⟩) (fun r s'=>r = .ok (.ret (.bool true)) ∧ OldK s₁.heap s'.heap ∧ s'.os = s₁.os ∧ AllBare s'.gens) s₁) :
  WalkO q loose XP YP l.row.toRowW d [] (fun f vs=>PySem.call f vs):=by
 intro w s₀ s₁ mg mb G Y fa o pm cd doc dV kV ho hd hcd hD hmg hg args vals as hpre hlay hrd hwl hlo
 obtain rfl:dV = .none:=Dflts.none hD hdf
 obtain rfl:kV = .none:=Dflts.noKw hD
 obtain ⟨a,vs,ns,rfl,rfl,hobj,hints,hlen⟩:=zfo hn hpre hwl
 refine enter_call (codeAny_mono (call w s₀ s₁ mg mb fa o pm cd doc a vs ns G Y ho (fd_plain hd) hcd hmg hobj hints hlen hg) fun r s' hq=>?_)
 obtain ⟨rfl,h2,h3,h4⟩:=hq
 exact ⟨.inl ⟨.bool true,.bool true,[],rfl,fun _=>rfl,.bool true,zfp l _,fun _=>⟨List.Pairwise.nil,fun _ hm=>(nomatch hm)⟩⟩,h2,h3,h4⟩
section
variable {prog:Program} {w:World} {A:Around} {E:Value → Shared → Prop} {s:Shared} {K:Frag}
def zks (h:Heap) (L d:Addr):List (Addr × Obj):=(List.range h.objs.size).filterMap fun a=>if a = L ∨ a = d then none else (h.get? a).map fun o=>(a,o)
end
end Att
namespace L2
open PySem PySem.Spec PyProof.Rows
theorem zam:∀ {vs:List Value} {ns:List Int},IntsAre vs ns → Vals (ns.map V.int) vs
 | _,_,.nil=>.nil
 | _,_,.cons n t h=>.cons ⟨t,rfl⟩ (zam h)
end L2
namespace L2
open PySem PySem.Spec PyProof.Rows
end L2
namespace L2
open PySem PySem.Spec PyProof.Rows
def z1f (s:Stmt) (j:Nat):Stmt:=match s with
 | .ClassDef _ _ _ body _ _ _ _ _ _ _=>body.getD j (.Pass ⟨0,0,0,0⟩)
 | _=>.Pass ⟨0,0,0,0⟩
def z2w (s:Stmt):Arguments:=match s with
 | .FunctionDef _ a _ _ _ _ _ _ _ _=>a
 | _=>{ posonlyargs:=[],args:=[],vararg:=none,kwonlyargs:=[],kw_defaults:=[],kwarg:=none,defaults:=[] }
def z1g (s:Stmt):List Stmt:=match s with
 | .FunctionDef _ _ b _ _ _ _ _ _ _=>b
 | _=>[]
def ze (s:Stmt):Scope:=match s with
 | .FunctionDef _ _ _ _ _ _ sc _ _ _=>sc
 | _=>{ kind:=.function,names:=[],isGenerator:=false,isCoroutine:=false }
abbrev CX0:CXT:=fun _ _ _ _ _ _=>False
abbrev E0:XK:=fun _ _ _=>False
theorem z8k {X:Cx}:z39 CX0 X E0:=fun _ _ _ _ _ _ _ h=>h.elim
structure Fun (K:PySem.W.Frag) (x qual:Str) (st:Stmt) (f:Addr) (fd:FuncData):Prop where
 ex:∃ (oc:Value) (od:Option Addr) (kV doc pm:Value) (an:Option Addr) (cdv ct:Value) (osl:Array (Option Value)),
  fd = PySem.W.fnOf x qual (z2w st) (z1g st) (ze st) .none kV doc pm an cdv ct ∧ K.lookup f = some ⟨oc,od,.func fd,osl⟩ ∧ PySem.W.codeIn K cdv qual = true
 kp:PySem.W.keepIn K (.ref f) = true
section
variable {P:Program} {w:World} {K:PySem.W.Frag} {mg:Str → Option Value} {base:Heap}
theorem Fun.ok {x qual:Str} {st:Stmt} {f:Addr} {fd:FuncData} {N ps:List Str} {k:Nat} {sp:Sp} (F:Fun K x qual st f fd) (S:FnScope N ps (ze st)) (len:∀ vs H Q E,sp vs H Q E → vs.length = ps.length)
  (hbody:∀ (cdv:Value) (A:Around) (outer:List Env) (s:Shared) (H:Hp) (vs:List V) (Q:VK) (E:XK),Room k (A.deeper (envOfC qual (ze st) s.heap.objs.size f cdv)) → sp vs H Q E →
   ∃ t,PSs (cxOf CX0 P w K mg base N qual (ze st) f cdv A outer s H E).nox (z1g st) t ∧ t { nx:=fun _ H'=>Q .non H',rt:=Q } (start N vs) H):FnOk P w K mg base CX0 (k + 1) f fd ps sp:=by
 obtain ⟨oc,od,kV,doc,pm,an,cdv,ct,osl,rfl,lk,hcd⟩:=F.ex
 refine zbj lk hcd S len fun A outer s H vs Q E hr hsp=>?_
 obtain ⟨t,h,q⟩:=hbody cdv A outer s H vs Q E hr hsp
 exact ⟨t,h.nox,q⟩
theorem Fun.binds {x qual:Str} {st:Stmt} {f:Addr} {fd:FuncData} {ps:List Str} (F:Fun K x qual st f fd)
  (h:∀ (kV doc pm:Value) (an:Option Addr) (cdv ct:Value) (us:List Value),us.length = ps.length → bindArgs (PySem.W.fnOf x qual (z2w st) (z1g st) (ze st) .none kV doc pm an cdv ct) ⟨us,[]⟩ = pure (ps.zip us)):Binds K fd ps []:=by
 obtain ⟨oc,od,kV,doc,pm,an,cdv,ct,osl,rfl,lk,hcd⟩:=F.ex
 exact .all (h kV doc pm an cdv ct)
theorem fun_mk {x qual:Str} {st:Stmt} {f:Addr} {oc:Value} {od an:Option Addr} {osl:Array (Option Value)} {kV doc pm cdv ct:Value} (l:K.lookup f = some ⟨oc,od,.func (PySem.W.fnOf x qual (z2w st) (z1g st) (ze st) .none kV doc pm an cdv ct),osl⟩)
  (c:PySem.W.codeIn K cdv qual = true) (k:PySem.W.keepIn K (.ref f) = true):Fun K x qual st f (PySem.W.fnOf x qual (z2w st) (z1g st) (ze st) .none kV doc pm an cdv ct):=⟨⟨oc,od,kV,doc,pm,an,cdv,ct,osl,rfl,l,c⟩,k⟩
end
theorem z3l {A:Around} {k:Nat} (hr:Room k A):A.units + 1 < cLine:=Nat.lt_of_le_of_lt (Nat.add_le_add_left (by decide:1 ≤ 64) _) hr.units
theorem z1u {n:Nat} (h:n ≤ 1000):n < sizeLine:=Nat.lt_of_le_of_lt h (by decide)
section
variable {X:Cx}
theorem pv (i:Nat) {x:Str} {pos:Pos} (hN:X.N[i]? = some x:=by rfl) (hv:Vis X.env.scope x:=by first | exact Or.inl rfl | exact Or.inr (Or.inl rfl) | exact Or.inr (Or.inr rfl)) (hd:(x == ("__debug__" : Str)) = false:=by decide)
  (hcd:(x == ("__classdict__" : Str)) = false:=by decide):PE X (.Name x pos) (tVar i):=zjv hN hv hd hcd
end
theorem ite2 {c A B:Prop} [Decidable c] (h1:c → A) (h2:¬ c → B):if c then A else B:=by
 by_cases h:c
 ·rw [if_pos h]
  exact h1 h
 ·rw [if_neg h]
  exact h2 h
def Same (H H':Hp):Prop:=∀ b o,H b = some o → H' b = some o
theorem Same.refl (H:Hp):Same H H:=fun _ _ h=>h
theorem Same.trans {H H1 H2:Hp} (a:Same H H1) (b:Same H1 H2):Same H H2:=fun c o h=>b c o (a c o h)
theorem Same.free {H H':Hp} (e:Same H H') {l:Addr} (h:H' l = Option.none):H l = Option.none:=by
 cases q:H l with
 | none=>rfl
 | some o =>
  rw [e l o q] at h
  cases h
theorem Same.seq {K:PySem.W.Frag} {H H':Hp} {a:Addr} {xs:List V} (e:Same H H') (h:SqL K H a xs):SqL K H' a xs:=by
 rcases h with (h | ⟨o,h⟩) | h
 ·exact .inl (.inl (e _ _ h))
 ·exact .inl (.inr ⟨o,e _ _ h⟩)
 ·exact .inr h
end L2
end
section
namespace L2
open PySem PySem.Spec PyProof.Rows
section
variable {X:Cx} {tg:Expr}
end
def z1p (env:Env):List (Str × NameKind) → List (Str × Addr) → List (Str × Addr)
 | [],cs=>cs
 | (n,k) :: r,cs=>z1p env r (if k == .free then (n,(env.cells.lookup n).getD 0) :: cs else cs)
theorem z4j {sc:Scope} {env:Env} (h:∀ y ∈ sc.names,y.2 = .free → ∃ c,env.cells.lookup y.1 = some c):closureFor sc env = pure (z1p env sc.names []):=by
 have go:∀ (names:List (Str × NameKind)) (cs:List (Str × Addr)),(∀ y ∈ names,y.2 = .free → ∃ c,env.cells.lookup y.1 = some c) →
   (forIn names cs fun (x:Str × NameKind) (r:List (Str × Addr))=>(if (x.2 == .free) = true then (do let a ← cellOf env x.1; pure (ForInStep.yield ((x.1,a) :: r))) else pure (ForInStep.yield r):Sem (ForInStep (List (Str × Addr))))) = (pure (z1p env names cs):Sem (List (Str × Addr))):=by
  intro names
  induction names with
  | nil=>intro cs _; rfl
  | cons y r ih =>
   intro cs hy
   obtain ⟨n,k⟩:=y
   rw [List.forIn_cons]
   have hr:∀ z ∈ r,z.2 = .free → ∃ c,env.cells.lookup z.1 = some c:=fun z hz=>hy z (List.mem_cons_of_mem _ hz)
   by_cases hk:k = .free
   ·subst hk
    obtain ⟨c,hc⟩:=hy (n,.free) List.mem_cons_self rfl
    have hc':env.cells.lookup n = some c:=hc
    simp only [beq_self_eq_true,if_true,z1p,hc',Option.getD_some,cellOf]
    exact ih ((n,c) :: cs) hr
   ·have hb:(k == NameKind.free) = false:=by simpa using hk
    simp only [hb,Bool.false_eq_true,if_false,z1p]
    exact ih cs hr
 unfold closureFor
 show (forIn sc.names [] (fun (x:Str × NameKind) (r:List (Str × Addr))=>(if (x.2 == .free) = true then (do let a ← cellOf env x.1; pure (ForInStep.yield ((x.1,a) :: r))) else pure (ForInStep.yield r):Sem (ForInStep (List (Str × Addr))))) >>= fun cs=>pure cs) = _
 rw [go sc.names [] h]
 rfl
theorem z4k {env:Env}:∀ {names:List (Str × NameKind)} {cs:List (Str × Addr)} {x:Str} {c:Addr},(∀ y ∈ names,y.2 = .free → ∃ c,env.cells.lookup y.1 = some c) → (∀ y d,cs.lookup y = some d → env.cells.lookup y = some d) →
  (z1p env names cs).lookup x = some c → env.cells.lookup x = some c
 | [],cs,x,c,_,hcs,h=>hcs x c h
 | (n,k) :: r,cs,x,c,hy,hcs,h=>by
  refine z4k (names:=r) (fun z hz=>hy z (List.mem_cons_of_mem _ hz)) ?_ h
  intro y d e
  by_cases hk:(k == NameKind.free) = true
  ·rw [if_pos hk,List.lookup_cons] at e
   obtain ⟨c',hc'⟩:=hy (n,k) List.mem_cons_self (by simpa using hk)
   have hc':env.cells.lookup n = some c':=hc'
   cases hyn:y == n with
   | true =>
    rw [hyn] at e
    have:y = n:=by simpa using hyn
    subst this
    simp only [hc',Option.getD_some] at e
    rw [hc']; exact e
   | false =>
    rw [hyn] at e
    exact hcs y d e
  ·rw [if_neg hk] at e
   exact hcs y d e
theorem z7m {env:Env}:∀ {names:List (Str × NameKind)} {cs:List (Str × Addr)} {x:Str},(∃ c,cs.lookup x = some c) → ∃ c,(z1p env names cs).lookup x = some c
 | [],cs,x,h=>h
 | (n,k) :: r,cs,x,h=>by
  refine z7m (names:=r) ?_
  split
  ·rw [List.lookup_cons]
   cases hxn:x == n with
   | true=>exact ⟨_,rfl⟩
   | false=>exact h
  ·exact h
theorem z34 {env:Env}:∀ {names:List (Str × NameKind)} {cs:List (Str × Addr)} {x:Str},(x,NameKind.free) ∈ names → ∃ c,(z1p env names cs).lookup x = some c
 | [],_,_,h=>by simp at h
 | (n,k) :: r,cs,x,h=>by
  rcases List.mem_cons.mp h with e | h
  ·cases e
   refine z7m (names:=r) ?_
   rw [if_pos (by rfl),List.lookup_cons]
   rw [show (n == n) = true by simp]
   exact ⟨_,rfl⟩
  ·exact z34 (names:=r) h
theorem z44 {env:Env} {sc:Scope} {x:Str} {k:NameKind} (h:(relabel sc env).names.lookup x = some k) (hk:k = .cell ∨ k = .free) (hc:∀ y ∈ sc.names,y.2 ≠ .cell):(x,NameKind.free) ∈ sc.names:=by
 have hm:=PySem.mem_of_lookup h
 unfold relabel at hm
 obtain ⟨⟨n,k'⟩,hn,e⟩:=List.mem_map.mp hm
 by_cases hf:(k' == NameKind.free && env.scope.kind == .function && env.kindOf n == some .cell) = true
 ·have e':(n,NameKind.cell) = (x,k):=by
   have:=e
   simp only [hf,if_true] at this
   exact this
  injection e' with e1 e2
  subst e1
  have hk':k' = .free:=by
   rw [Bool.and_eq_true,Bool.and_eq_true] at hf
   simpa using hf.1.1
  rw [hk'] at hn
  exact hn
 ·have e':(n,k') = (x,k):=by
   have:=e
   simp only [hf,if_false] at this
   exact this
  injection e' with e1 e2
  subst e1 e2
  rcases hk with z | z
  ·exact absurd z (hc _ hn)
  ·rw [z] at hn; exact hn
abbrev zr (X:Cx) (sc:Scope) (N:List Str) (s:Shared) (H:Hp) (C:Addr) (fp:List Addr):Cx :=
 { X with N:=N,s₀:=s,H₀:=H,env:=compEnvC sc (z1p X.env sc.names []) C X.env,outer:=X.stack,stack:=X.stack,ex:=fp,fn:=fun _=>false,pn:=[],xe:=fun _ _=>False }
def CapOk (X:Cx) (sc:Scope):List Str → List Nat → Prop
 | [],[]=>True
 | y :: r,j :: js=>(X.N[j]? = some y ∧ (X.env.kindOf y = some .cell ∨ X.env.kindOf y = some .free) ∧ sc.names.lookup y = some .free) ∧ CapOk X sc r js
 | _,_=>False
theorem CapOk.len {X:Cx} {sc:Scope}:∀ {cap:List Str} {js:List Nat},CapOk X sc cap js → cap.length = js.length
 | [],[],_=>rfl
 | _ :: _,_ :: _,h=>congrArg (· + 1) (CapOk.len h.2)
 | [],_ :: _,h=>h.elim
 | _ :: _,[],h=>h.elim
theorem CapOk.get {X:Cx} {sc:Scope}:∀ {cap:List Str} {js:List Nat} {i:Nat} {y:Str},CapOk X sc cap js → cap[i]? = some y → ∃ j,js[i]? = some j ∧ X.N[j]? = some y ∧ (X.env.kindOf y = some .cell ∨ X.env.kindOf y = some .free) ∧ sc.names.lookup y = some .free
 | [],[],_,_,_,e=>by simp at e
 | y :: _,j :: _,0,_,h,e=>by
  simp at e; subst e
  exact ⟨j,rfl,h.1⟩
 | _ :: r,_ :: js,i + 1,y,h,e=>by
  obtain ⟨j,e1,e2⟩:=CapOk.get (i:=i) h.2 (by simpa using e)
  exact ⟨j,by simpa using e1,e2⟩
 | [],_ :: _,_,_,h,_=>h.elim
 | _ :: _,[],_,_,h,_=>h.elim
def capt (σ:St) (js:List Nat):St:=js.map fun j=>(σ[j]?).join
structure CompScope (X:Cx) (sc:Scope) (x:Str) (cap:List Str) (js:List Nat):Prop where
 kind:sc.kind = .function
 nocell:∀ y ∈ sc.names,y.2 ≠ .cell
 names:∀ y ∈ sc.names,y.2 = .local → sc.names.lookup y.1 = some .local
 own:sc.names.lookup x = some .local
 free:∀ y ∈ sc.names,y.2 = .free → X.env.kindOf y.1 = some .cell ∨ X.env.kindOf y.1 = some .free
 nd:(x :: cap).Nodup
 caps:CapOk X sc cap js
section
variable {X:Cx} {sc:Scope} {x:Str} {cap:List Str} {js:List Nat} {pins:List (Addr × Obj)} {σ:St} {H:Hp} {s:Shared}
theorem CompScope.cells (S:CompScope X sc x cap js) (I:Inv X pins σ H s):∀ y ∈ sc.names,y.2 = .free → ∃ c,X.env.cells.lookup y.1 = some c:=fun y hy hf=>I.ok.has y.1 (S.free y hy hf)
theorem CompScope.sub (S:CompScope X sc x cap js) (I:Inv X pins σ H s) {y:Str} {c:Addr} (h:(z1p X.env sc.names []).lookup y = some c):X.env.cells.lookup y = some c :=
 z4k (S.cells I) (fun _ _ e=>by simp at e) h
theorem zed {s4:Shared} {h4:Heap} {t4:Nat} {fp:List Addr} {C:Addr} {v:Option V} {m:Str → Option Value} (S:CompScope X sc x cap js) (I:Inv X pins σ H s) (hfp:∀ b ∈ fp,FpOk X pins H b) (hlt:∀ b ∈ fp,b < s.heap.objs.size)
  (hC:s.heap.objs.size ≤ C) (hn:h4.Ns C m) (k:∀ b o,s.heap.get? b = some o → h4.get? b = some o) :
  Inv (zr X sc (x :: cap) s H C fp) [] (none :: capt σ js) H { s with heap:=h4,toks:=t4 }:=by
 have nf:∀ b ∈ frs X.stack,b < s.heap.objs.size:=fun b hb=>by
  obtain ⟨_,o,ho,_⟩:=I.stack.mem hb
  exact Heap.lt_size ho
 refine ⟨⟨I.ok.mod,S.kind,I.ok.glob,I.ok.blt,hC,fun y z c h1 h2=>I.ok.inj y z c (S.sub I h1) (S.sub I h2),fun y hy=>?_,fun y c h=>absurd h Bool.false_ne_true,I.ok.hd,I.ok.frames,.inl rfl,fun b hb=>⟨Nat.ne_of_lt (Nat.lt_of_lt_of_le (hlt b hb) hC),fun y c e=>(hfp b hb).2.2.2.2.1 y c (S.sub I e)⟩,I.bs,
   Nat.le_trans I.ok.bsz I.sz,fun b o e hb=>?_,fun b hb z=>?_,I.stack,I.stkFree⟩,rfl,I.bare,Un.kept k,⟨m,hn,fun i y v' h1 h2 h3=>?_⟩,fun y c e=>?_,I.hok.fresh hC,fun y c e=>I.freeC y c (S.sub I e),fun p hp=>absurd (show p ∈ ([]:List (Addr × Obj)) from hp) (by simp),I.hok.kept k,?_⟩
 ·exact z34 (by
   rcases hy with z | z
   ·exact z44 z (.inl rfl) S.nocell
   ·exact z44 z (.inr rfl) S.nocell)
 ·rcases (hfp b hb).2.2.2.1 with z | z
  ·exact I.ok.noex b o e z
  ·exact absurd (Nat.lt_of_lt_of_le (Heap.lt_size e) (Nat.le_trans I.ok.bsz z)) (Nat.lt_irrefl _)
 ·rcases List.mem_cons.mp (I.stkSub b z) with q | q
  ·exact (hfp b hb).2.1 q
  ·exact (hfp b hb).2.2.1 q
 ·cases i with
  | zero=>exact absurd (show (none:Option V) = some v' from Option.some.inj h2) (by simp)
  | succ i =>
   have e1:cap[i]? = some y:=by simpa using h1
   obtain ⟨j,q1,q2,q3,q4⟩:=S.caps.get e1
   have e2:(capt σ js)[i]? = some (some v'):=by simpa using h2
   have e3:σ[j]? = some (some v'):=by
    unfold capt at e2
    rw [List.getElem?_map,q1,Option.map_some] at e2
    have e4:(σ[j]?).join = some v':=Option.some.inj e2
    cases q:σ[j]? with
    | none=>rw [q] at e4; cases e4
    | some w=>rw [q] at e4; exact congrArg some e4
   have vis:Vis X.env.scope y:=by
    rcases q3 with q3 | q3
    ·exact .inr (.inl q3)
    ·exact .inr (.inr q3)
   obtain ⟨mX,hnX,hl⟩:=I.loc
   obtain ⟨u,ru,lk⟩:=hl j y v' q2 e3 vis
   refine ⟨u,ru,.inr ?_⟩
   rcases lk with ⟨hk,_⟩ | ⟨hk,c,hc,hcell⟩
   ·rcases q3 with q3 | q3
    ·rw [q3] at hk; cases hk
    ·rw [q3] at hk; cases hk
   ·obtain ⟨c',hc'⟩:=z34 (env:=X.env) (cs:=[]) (PySem.mem_of_lookup q4)
    have:=S.sub I hc'
    rw [hc] at this
    cases this
    obtain ⟨o,ho,hd⟩:=hcell
    refine ⟨?_,c,hc',⟨o,k c o ho,hd⟩⟩
    rcases h3 with z | z | z
    ·exfalso
     have hz:=PySem.mem_of_lookup z
     obtain ⟨⟨n,k'⟩,hn',en⟩:=List.mem_map.mp hz
     by_cases hf:(k' == NameKind.free && X.env.scope.kind == .function && X.env.kindOf n == some .cell) = true
     ·simp only [hf,if_true] at en
      cases en
     ·simp only [hf,if_false] at en
      cases en
      have:=S.names _ hn' rfl
      rw [q4] at this
      cases this
    ·exact .inl z
    ·exact .inr z
 ·obtain ⟨v',o,ho,hd⟩:=I.cell y c (S.sub I e)
  exact ⟨v',o,k c o ho,hd⟩
 ·show (none :: capt σ js).length = (x :: cap).length
  unfold capt
  rw [List.length_cons,List.length_cons,List.length_map,S.caps.len]
theorem z7z {sB:Shared} {hB:Heap} {fp:List Addr} {C D:Addr} {HB:Hp} {σB:St} {pinsB:List (Addr × Obj)} {acc:List V} {its:List Value} {n:Nat}
  (I:Inv X pins σ H s) (hfp:∀ b ∈ fp,FpOk X pins H b) (IB:Inv (zr X sc (x :: cap) s H C fp) pinsB σB HB sB) (hC:s.heap.objs.size ≤ C) (hD:s.heap.objs.size ≤ D) (hDC:D ≠ C) (hHD:HB D = none)
  (hd:sB.heap.get? D = some { cls:=.type "list",data:=.seq its.toArray n }) (rv:Vals acc its) (hz:acc.length ≤ sizeLine) (sb:∀ b o,b ≠ C → sB.heap.get? b = some o → hB.get? b = some o) :
  Inv X pins σ (upd HB D (.lst acc)) { sB with heap:=hB }:=by
 have u:=IB.base
 have hdB:=sb D _ hDC hd
 have ltD:∀ b o,s.heap.get? b = some o → b ≠ D:=fun b o e=>Nat.ne_of_lt (Nat.lt_of_lt_of_le (Heap.lt_size e) hD)
 have ltC:∀ b o,s.heap.get? b = some o → b ≠ C:=fun b o e=>Nat.ne_of_lt (Nat.lt_of_lt_of_le (Heap.lt_size e) hC)
 refine I.call' (ch:=fp) IB.os ⟨fun b o e n hb hx=>sb b o (ltC b o e) (u.keep b o e n hb hx),fun b o e n hb hx=>?_,fun b o e n hx=>by rw [z9 (ltD b o e)]; exact u.free b o e n hx,fun b o e hx=>?_,
  fun b xs e=>by rw [z9 (zc (u.tups b xs e) hHD)]; exact u.tups b xs e,fun b o xs e=>by rw [z9 (zc (u.frzs b o xs e) hHD)]; exact u.frzs b o xs e,fun b ps e=>?_⟩ ?_ IB.bare fun b hb=>?_
 ·obtain ⟨sl,q⟩:=u.slot b o e n hb hx
  exact ⟨sl,sb b _ (ltC b o e) q⟩
 ·obtain ⟨o',q⟩:=u.there b o e hx
  exact ⟨o',sb b _ (ltC b o e) q⟩
 ·obtain ⟨m1,q⟩:=u.tbls b ps e
  exact ⟨m1,by rw [z9 (zc q hHD)]; exact q⟩
 ·intro a o e
  by_cases ha:a = D
  ·subst ha
   rw [z7] at e
   cases e
   exact ⟨hz,its,n,rv,hdB⟩
  ·rw [z9 ha] at e
   refine (IB.hok a o e).stay (fun b w' hb q=>sb b w' (fun z=>?_) q) (fun b q=>by rw [z9 (zc q hHD)]; exact q) fun b xs q=>by rw [z9 (zc q hHD)]; exact q
   have fC:HB C = none:=IB.free
   rcases hb with hb | hb
   ·rw [z] at hb; rw [← hb,fC] at e; cases e
   ·rw [z,fC] at hb; cases hb
 ·obtain ⟨f0,f1,f2,f3,f4,f5⟩:=hfp b hb
  exact ⟨f3,f1,f4,f5⟩
end
end L2
end
section
namespace L2
open PySem PySem.Spec PyProof.Rows
def PIf (X:Cx) (ifs:List Expr) (t:TT):Prop :=
 ∀ (pins:List (Addr × Obj)) (s:Shared) (σ:St) (H:Hp) (Q:Bool → Hp → Prop),Inv X pins σ H s → t σ H Q →
  wpAny (model X.prog X.w) X.A (forIn ifs true fun c r=>if r = true then do let ok ← isTrue c X.env (eval c X.env); pure (ForInStep.yield ok) else pure (ForInStep.yield r)) (TP X pins σ Q) X.xe s
def tYes:TT:=fun _ H Q=>Q true H
theorem z3f {X:Cx}:PIf X [] tYes:=fun _ _ _ H _ I h=>wpAny_pure ⟨H,I,h⟩
theorem z2k {X:Cx} {c:Expr} {tc:TT} (h:PT X c tc):PIf X [c] tc:=by
 intro pins s σ H Q I hw
 simp only [List.forIn_cons,List.forIn_nil,if_true]
 refine wpAny_bind (wpAny_bind (thn (h pins s σ H Q I hw) fun b s1 q=>?_))
 exact wpAny_pure (wpAny_pure q)
def z47 (J:It) (tc:TT) (te:TE) (js:List Nat) (σ:St) (H1:Hp) (Q:VK):Prop :=
 ∃ W:Nat → Nat → List V → Hp → Prop,(∃ m,W 0 m [] H1) ∧ ∀ i m acc H,W i m acc H →
  (J.stop i H ∧ ∀ p,H p = none → Q (.ref p) (upd H p (.lst acc))) ∨
  (J.go i H ∧ acc.length < sizeLine ∧ ∀ x H',J.yld i H x H' → tc (some x :: capt σ js) H' fun b H2 =>
   if b = true then te (some x :: capt σ js) H2 fun v H3=>∃ m',m' < m ∧ W (i + 1) m' (acc ++ [v]) H3 else ∃ m',m' < m ∧ W (i + 1) m' acc H2)
def zee (wi:TI) (tc:TT) (te:TE) (js:List Nat):TE:=fun σ H Q=>wi σ H fun J H1=>z47 J tc te js σ H1 Q
theorem z7n {prog:Program} {w:World} {A:Around} {R:Result → Shared → Prop} {s:Shared} {elt target iter:Expr} {ifs:List Expr} {scope:Scope} {pos:Pos} {it acc:Value} {env:Env} (I:Nat → Shared → Prop)
  (turn:∀ n s,I n s → wpAny (model prog w) A (pyNext it) (fun r s₁=>match r with
   | none=>R (.ok .next) s₁
   | some v=>wpAny (model prog w) A (letOwnedTupleGo target it v) (fun _ s₀=>wpAny (model prog w) A (assign target env v) (fun _ s₂ =>
     wpAny (model prog w) A (forIn ifs true fun c r=>if r = true then do let ok ← isTrue c env (eval c env); pure (ForInStep.yield ok) else pure (ForInStep.yield r)) (fun ok s₃ =>
      if ok = true then wpAny (model prog w) A (eval elt env) (fun x s₄ =>
       wpAny (model prog w) A (call (.builtin "list.append") [acc,x]) (fun _ s₅=>∃ m,m < n ∧ I m s₅) (fun _ _=>False) s₄) (fun _ _=>False) s₃
      else ∃ m,m < n ∧ I m s₃) (fun _ _=>False) s₂) (fun _ _=>False) s₀) (fun _ _=>False) s₁) (fun _ _=>False) s)
  (n:Nat) (h:I n s) :
  codeAny (model prog w) A (.compLoop (.ListComp elt [⟨target,iter,ifs,0⟩] scope pos) 0 it acc env) R s:=by
 refine codeAny_loop rfl I (fun n s hI=>?_) n h
 show wpAny _ A ((compTurn (.ListComp elt [⟨target,iter,ifs,0⟩] scope pos) 0 it acc env).onRaise (fun x=>do noteFrame x env; theTreesLotGoes x)) _ _ s
 refine wpAny_noted (wpAny_mono (E:=fun _ _=>False) ?_ (fun _ _ q=>q) fun _ _ z=>z.elim)
 rw [compTurn_list]
 refine wpAny_bind (wpAny_standAt (wpAny_bind (wpAny_mono (turn n s hI) (fun r s₁ h₁=>?_) fun _ _ h'=>h')))
 cases r with
 | none=>exact wpAny_pure h₁
 | some v =>
  refine wpAny_bind (wpAny_mono h₁ (fun _ s₀ h₀=>?_) fun _ _ h'=>h')
  refine wpAny_bind (wpAny_mono h₀ (fun _ s₂ h₂=>wpAny_bind (wpAny_mono h₂ (fun ok s₃ h₃=>?_) fun _ _ h'=>h')) fun _ _ h'=>h')
  cases ok with
  | false=>exact wpAny_pure ⟨rfl,h₃⟩
  | true =>
   exact wpAny_bind (wpAny_bind (wpAny_mono h₃ (fun x s₄ h₄=>wpAny_bind (wpAny_mono h₄ (fun _ s₅ h₅=>wpAny_pure (wpAny_pure ⟨rfl,h₅⟩)) fun _ _ h'=>h')) fun _ _ h'=>h'))
section
variable {X:Cx} {sc:Scope} {x:Str} {cap:List Str} {js:List Nat} {pins:List (Addr × Obj)} {σ:St} {H:Hp} {s:Shared} {elt iter:Expr} {ifs:List Expr} {px pos:Pos} {tc:TT} {te:TE}
theorem z8l {J:It} {it:Addr} {fp:List Addr} {tn:Nat → Heap → Prop} {Q:VK} {E:Value → Shared → Prop} {RR:Value → Addr → Result → Shared → Prop} (S:CompScope X sc x cap js) (hcalm:X.calm = true)
  (hc:∀ s H C fp,PIf (zr X sc (x :: cap) s H C fp) ifs tc) (he:∀ s H C fp,PE (zr X sc (x :: cap) s H C fp) elt te)
  (I:Inv X pins σ H s) (T:Turn X.prog X.w X.K (.Name x px) J fp it tn) (st:tn 0 s.heap) (hfp:∀ b ∈ fp,FpOk X pins H b) (go:z47 J tc te js σ H Q)
  (hRR:∀ D C HB sB σB acc its n,s.heap.objs.size ≤ D → s.heap.objs.size ≤ C → D ≠ C → Inv (zr X sc (x :: cap) s H C fp) [] σB HB sB → HB D = none → sB.heap.get? D = some { cls:=.type "list",data:=.seq (its:List Value).toArray n } → Vals acc its → acc.length ≤ sizeLine →
   (∀ p,HB p = none → Q (.ref p) (upd HB p (.lst acc))) → RR (.ref D) C (.ok .next) sB) :
  wpAny (model X.prog X.w) X.A (newList []) (fun acc s₃=>wpAny (model X.prog X.w) X.A (newFunctionEnv sc X.env.globals (z1p X.env sc.names []) [] X.env.qual none .none (some X.env)) (fun cenv s₄ =>
   codeAny (model X.prog X.w) X.A (.compStart (.ListComp elt [⟨.Name x px,iter,ifs,0⟩] sc pos) 0 (.ref it) acc { cenv with scope:=relabel sc X.env }) (RR acc cenv.locals) s₄) E s₃) E s:=by
 refine wpAny_newObj_type (wpAny_newFunctionEnv S.nocell (by intro y hy; simp at hy) (fun h₁ hns₁ hsb₁=>?_) S.kind)
 dsimp only at hns₁ hsb₁ ⊢
 generalize hH2:s.heap.push { cls:=.type "list",dict:=none,data:=.seq ([]:List Value).toArray } = H2 at hns₁ hsb₁ ⊢
 have hCs:H2.objs.size = s.heap.objs.size + 1:=by rw [← hH2,Heap.size_push]
 have hDC:s.heap.objs.size ≠ H2.objs.size:=by rw [hCs]; exact Nat.ne_of_lt (Nat.lt_succ_self _)
 have hCle:s.heap.objs.size ≤ H2.objs.size:=by rw [hCs]; exact Nat.le_succ _
 have below:∀ b,b < s.heap.objs.size → b ≠ H2.objs.size:=fun b hb=>by rw [hCs]; exact Nat.ne_of_lt (Nat.lt_succ_of_lt hb)
 have old:∀ b o,s.heap.get? b = some o → h₁.get? b = some o:=fun b o e=>hsb₁.extBut b o (below b (Heap.lt_size e)) (Heap.get?_push_of_some _ (hH2 ▸ Heap.get?_push_of_some _ e))
 have hacc:h₁.get? s.heap.objs.size = some { cls:=.type "list",data:=.seq ([]:List Value).toArray 0 }:=hsb₁.extBut _ _ hDC (Heap.get?_push_of_some _ (hH2 ▸ Heap.get?_push_size _ rfl))
 have hlt:∀ b ∈ fp,b < s.heap.objs.size:=fun b hb=>by
  obtain ⟨o,e,_⟩:=T.obj _ _ st b hb
  exact Heap.lt_size e
 have hlocal:(relabel sc X.env).names.lookup x = some .local:=lookup_relabel_local S.own
 obtain ⟨W,⟨m0,w0⟩,turn⟩:=go
 have nD:∀ b ∈ fp,b ≠ s.heap.objs.size:=fun b hb=>Nat.ne_of_lt (hlt b hb)
 have nfs:s.heap.objs.size ∉ frs X.stack:=fun z=>by
  obtain ⟨_,o,ho,_⟩:=I.stack.mem z
  exact absurd (Heap.lt_size ho) (Nat.lt_irrefl _)
 have ncl:∀ y c,(z1p X.env sc.names []).lookup y = some c → c ≠ s.heap.objs.size:=fun y c e=>by
  obtain ⟨v,o,ho,_⟩:=I.cell y c (S.sub I e)
  exact Nat.ne_of_lt (Heap.lt_size ho)
 have loop:∀ s₃:Shared,s₃ = { s with heap:=h₁,toks:=s.toks + ([]:List (Str × Value)).length } →
   codeAny (model X.prog X.w) X.A (.compLoop (.ListComp elt [⟨.Name x px,iter,ifs,0⟩] sc pos) 0 (.ref it) (.ref s.heap.objs.size) (compEnvC sc (z1p X.env sc.names []) H2.objs.size X.env))
    (RR (.ref s.heap.objs.size) H2.objs.size) s₃:=by
  rintro s₃ rfl
  have I0:Inv (zr X sc (x :: cap) s H H2.objs.size fp) [] (none :: capt σ js) H { s with heap:=h₁,toks:=s.toks + ([]:List (Str × Value)).length }:=zed (v:=none) S I hfp hlt hCle hns₁ old (s4:=s)
  refine z7n (fun n s'=>∃ i H' acc its k,Inv (zr X sc (x :: cap) s H H2.objs.size fp) [] (none :: capt σ js) H' s' ∧ tn i s'.heap ∧ (∀ b ∈ fp,H' b = none) ∧ H' s.heap.objs.size = none ∧
    s'.heap.get? s.heap.objs.size = some { cls:=.type "list",data:=.seq (its:List Value).toArray k } ∧ Vals acc its ∧ acc.length ≤ sizeLine ∧ W i n acc H') ?_ m0
   ⟨0,H,[],[],0,I0,T.keep _ _ _ st fun b _ o e=>old b o e,fun b hb=>(hfp b hb).1,I.hok.fresh (Nat.le_refl _),hacc,.nil,Nat.zero_le _,w0⟩
  rintro n s3 ⟨i,H3,acc,its,kk,I3,st3,fr3,fD3,d3,r3,z3,w3⟩
  have fpY:∀ {H':Hp} {pl:List (Addr × Obj)},(∀ b ∈ fp,H' b = none) → (∀ p ∈ pl,p.1 = s.heap.objs.size) → ∀ b ∈ fp,FpOk (zr X sc (x :: cap) s H H2.objs.size fp) pl H' b:=fun {H' pl} hn hp b hb =>
   ⟨hn b hb,below b (hlt b hb),fun z=>by
    rcases List.mem_cons.mp (I.stkSub b z) with q | q
    ·exact (hfp b hb).2.1 q
    ·exact (hfp b hb).2.2.1 q,.inl hb,fun y c e=>(hfp b hb).2.2.2.2.1 y c (S.sub I e),fun p hp'=>by
    rw [hp p hp']
    exact Ne.symm (nD b hb)⟩
  have pin3:Inv (zr X sc (x :: cap) s H H2.objs.size fp) [(s.heap.objs.size,{ cls:=.type "list",data:=.seq its.toArray kk })] (none :: capt σ js) H3 s3:=I3.pins_of fun p hp=>by
   have e:p = (s.heap.objs.size,{ cls:=.type "list",data:=.seq its.toArray kk }):=by simpa using hp
   subst e
   exact ⟨d3,fD3,hDC,nfs,fun v z=>by cases z⟩
  have onlyD:∀ p ∈ [(s.heap.objs.size,({ cls:=.type "list",data:=.seq its.toArray kk }:Obj))],p.1 = s.heap.objs.size:=fun p hp=>by
   have e:p = (s.heap.objs.size,{ cls:=.type "list",data:=.seq its.toArray kk }):=by simpa using hp
   rw [e]
  rcases turn i n acc H3 w3 with ⟨stop,qn⟩ | ⟨gon,hlen,step⟩
  ·refine wpAny_mono (T.done (zr X sc (x :: cap) s H H2.objs.size fp) rfl rfl rfl hcalm i _ s3 _ H3 (fun _ _=>False) pin3 (fpY fr3 onlyD) st3 stop) (fun r s4 hr=>?_) fun _ _ z=>z.elim
   obtain ⟨hr,I4⟩:=hr
   subst hr
   have d4:=(I4.pin _ (List.mem_append_right _ List.mem_cons_self)).1
   exact hRR _ _ H3 s4 _ acc its kk (Nat.le_refl _) hCle hDC (I4.pins_of fun p hp=>by simp at hp) fD3 d4 r3 z3 qn
  ·refine wpAny_mono (T.item (zr X sc (x :: cap) s H H2.objs.size fp) rfl rfl rfl hcalm i _ s3 _ H3 (fun _ _=>False) pin3 (fpY fr3 onlyD) st3 gon) (fun r s4 hr=>?_) fun _ _ z=>z.elim
   obtain ⟨u,hr,h4⟩:=hr
   subst hr
   dsimp only
   refine wpAny_mono h4 (fun _ s5 h5=>?_) fun _ _ z=>z.elim
   obtain ⟨xv,H5,I5,r5,y5,st5,fr5⟩:=h5
   have I5':=I5.pinned (fpY fr5 onlyD) (T.obj _ _ st5)
   refine wpAny_assign_Name (z7y (X:=zr X sc (x :: cap) s H H2.objs.size fp) I5' S.nd (i:=0) rfl (.inl hlocal) r5 (fun s6 I6=>?_) (.inr hlocal))
   have I6':Inv (zr X sc (x :: cap) s H H2.objs.size fp) ([(s.heap.objs.size,{ cls:=.type "list",data:=.seq its.toArray kk })] ++ z4q fp s5.heap) (some xv :: capt σ js) H5 s6:=I6
   refine wpAny_mono (hc s H H2.objs.size fp _ s6 _ H5 _ I6' (step xv H5 y5)) (fun b s7 q7=>?_) fun _ _ z=>z.elim
   obtain ⟨H7,I7,q7⟩:=q7
   have weak:∀ {pl:List (Addr × Obj)} {HH:Hp} {ss:Shared},Inv (zr X sc (x :: cap) s H H2.objs.size fp) pl (some xv :: capt σ js) HH ss → Inv (zr X sc (x :: cap) s H H2.objs.size fp) pl (none :: capt σ js) HH ss:=fun J=>J.weak rfl fun k v e=>by
    cases k with
    | zero=>exact absurd (Option.some.inj e) (by simp)
    | succ k=>simpa using e
   have back:∀ {HH:Hp} {ss:Shared},Inv (zr X sc (x :: cap) s H H2.objs.size fp) ([(s.heap.objs.size,{ cls:=.type "list",data:=.seq its.toArray kk })] ++ z4q fp s5.heap) (some xv :: capt σ js) HH ss →
     tn (i + 1) ss.heap ∧ (∀ b ∈ fp,HH b = none) ∧ HH s.heap.objs.size = none ∧ ss.heap.get? s.heap.objs.size = some { cls:=.type "list",data:=.seq its.toArray kk }:=fun {HH ss} K=>by
    refine ⟨T.keep _ _ _ st5 fun b hb o e=>(K.pin (b,o) (List.mem_append_right _ (List.mem_append_right _ (z33 hb e)))).1,fun b hb=>?_,?_,?_⟩
    ·obtain ⟨o,e,d⟩:=T.obj _ _ st5 b hb
     exact (K.pin (b,o) (List.mem_append_right _ (List.mem_append_right _ (z33 hb e)))).2.1
    ·exact (K.pin _ (List.mem_append_right _ (List.mem_append_left _ List.mem_cons_self))).2.1
    ·exact (K.pin _ (List.mem_append_right _ (List.mem_append_left _ List.mem_cons_self))).1
   cases b with
   | false =>
    rw [if_neg Bool.false_ne_true] at q7 ⊢
    obtain ⟨m',hm,w7⟩:=q7
    obtain ⟨b1,b2,b3,b4⟩:=back I7
    exact ⟨m',hm,i + 1,H7,acc,its,kk,(weak I7).pins_of fun p hp=>by simp at hp,b1,b2,b3,b4,r3,z3,w7⟩
   | true =>
    rw [if_pos rfl] at q7 ⊢
    refine wpAny_mono (he s H H2.objs.size fp _ s7 _ H7 _ I7 q7) (fun u8 s8 q8=>?_) fun _ _ z=>z.elim
    obtain ⟨v8,H8,I8,r8,m',hm,w8⟩:=q8
    obtain ⟨b1,b2,b3,b4⟩:=back I8
    have hl3:=r3.length
    refine call_meets F.slot_list_append ⟨_,b4,rfl⟩ F.entry_list_append (F.args_list_append_2 _ _) (PySem.list_append s.heap.objs.size its.toArray kk u8 (by rw [List.size_toArray]; omega)) ⟨b4,?_⟩
    have q:=PySem.IsL.update b4 (·.push u8)
    obtain ⟨n',q'⟩:∃ n',(s8.heap.update s.heap.objs.size (Obj.mapSeq (·.push u8))).get? s.heap.objs.size = some { cls:=.type "list",data:=.seq (its ++ [u8]).toArray n' }:=by
     rw [show (its ++ [u8]).toArray = its.toArray.push u8 by simp]
     exact ⟨_,q⟩
    refine ⟨m',hm,i + 1,H8,acc ++ [v8],its ++ [u8],_,?_,T.keep _ _ _ b1 fun b hb o e=>(Heap.get?_update_other s8.heap _ (Ne.symm (nD b hb))).trans e,b2,b3,q',r3.append (.cons r8 .nil),by rw [List.length_append,List.length_singleton]; omega,w8⟩
    exact Inv.turned (X:=zr X sc (x :: cap) s H H2.objs.size fp) (it:=s.heap.objs.size) ((weak I8).pins_of (pins':=[]) fun p hp=>by simp at hp) (fun b o hb e=>(Heap.get?_update_other s8.heap _ (Ne.symm hb)).trans e) b3 hDC (.inr (Nat.le_refl _)) ncl (fun p hp=>absurd (show p ∈ ([]:List (Addr × Obj)) from hp) (by simp))
 exact codeAny_compStart_list (loop _ rfl) (T.self _ 0 _ _ _ (T.keep _ _ _ st fun b _ o e=>old b o e) (loop _ rfl))
theorem z1x {wi:TI} (hcalm:X.calm = true) (S:CompScope X sc x cap js) (hi:PI X (.Name x px) iter wi) (hc:∀ s H C fp,PIf (zr X sc (x :: cap) s H C fp) ifs tc) (he:∀ s H C fp,PE (zr X sc (x :: cap) s H C fp) elt te)
  (hs:∀ x,foldedSetIterable iter X.env x = pure x:=by intro _; rfl):PE X (.ListComp elt [⟨.Name x px,iter,ifs,0⟩] sc pos) (zee wi tc te js):=by
 intro pins s σ H Q I h
 rw [eval_ListComp]
 refine wpAny_comprehension_free (use:=none) rfl hs (z4j (S.cells I)) S.kind S.names (thn (hi pins s σ H _ I h) fun v s1 h1=>thn h1 fun itv s2 h2=>?_)
 obtain ⟨it,fp,tn,J,H2,e,I2,T,st2,f2,go⟩:=h2
 subst e
 refine z8l S hcalm hc he I2 T st2 f2 go fun D C HB sB σB acc its n hD hC hDC IB hHD hd rv hz q=>?_
 obtain ⟨m,hn,_⟩:=IB.loc
 exact ⟨m,hn,fun h' sb=>⟨.ref D,upd HB D (.lst acc),z7z (sc:=sc) (x:=x) (cap:=cap) I2 f2 IB hC hD hDC hHD hd rv hz fun b o hb e=>sb.extBut b o hb e,rfl,q D hHD⟩⟩
theorem z8m {wi:TI} {i:Nat} {y:Str} {py spos:Pos} (hcalm:X.calm = true) (S:CompScope X sc x cap js) (hN:X.N.Nodup) (hi':X.N[i]? = some y) (hx:Loc X.env.scope y) (hi:PI X (.Name x px) iter wi) (hc:∀ s H C fp,PIf (zr X sc (x :: cap) s H C fp) ifs tc) (he:∀ s H C fp,PE (zr X sc (x :: cap) s H C fp) elt te)
  (hsw:swapsWith (.ListComp elt [⟨.Name x px,iter,ifs,0⟩] sc pos) (some (.Name y py)) spos.line X.env = pure true:=by rfl) (hs:∀ x,foldedSetIterable iter X.env x = pure x:=by intro _; rfl)
  (hf:X.fn y = true ∨ X.env.scope.names.lookup y = some .local:=by first | exact .inl rfl | exact .inr rfl | assumption):PS X (.Assign [.Name y py] (.ListComp elt [⟨.Name x px,iter,ifs,0⟩] sc pos) spos) (tAsg (zee wi tc te js) (zbg i)):=by
 intro pins s σ H D I h
 rw [exec_Assign_Name_used _ _ _ _ hsw]
 refine wpAny_bind (wpAny_standAt (wpAny_bind ?_))
 show wpAny _ X.A (do let _ ← comprehension (.ListComp elt [⟨.Name x px,iter,ifs,0⟩] sc pos) sc X.env _ (newList []) false (eval iter X.env) (some (assign (.Name y py) X.env))) _ _ s
 refine wpAny_bind (wpAny_mono (wpAny_comprehension_free (use:=some (assign (.Name y py) X.env)) (Q:=fun _ s'=>SP X pins D .next s') rfl hs (z4j (S.cells I)) S.kind S.names (thn (hi pins s σ H _ I h) fun v s1 h1=>thn h1 fun itv s2 h2=>?_)) (fun _ s' hq=>wpAny_pure (wpAny_pure hq)) fun _ _ e=>e)
 obtain ⟨it,fp,tn,J,H2,e,I2,T,st2,f2,go⟩:=h2
 subst e
 refine z8l S hcalm hc he I2 T st2 f2 go fun D' C HB sB σB acc its n hD hC hDC IB hHD hd rv hz q=>?_
 obtain ⟨m,hn,_⟩:=IB.loc
 have IE:Inv X pins σ (upd HB D' (.lst acc)) sB:=z7z (hB:=sB.heap) (sc:=sc) (x:=x) (cap:=cap) I2 f2 IB hC hD hDC hHD hd rv hz fun b o hb e=>e
 refine wpAny_assign_Name (zae IE hN hi' hx (v:=.ref D') rfl (fun s3 I3 hsb=>?_) hf)
 obtain ⟨a,sba,ha⟩:=hsb
 have aC:C ≠ a:=by
  rcases ha with z | z
  ·rw [z]; exact Nat.ne_of_gt (Nat.lt_of_lt_of_le I2.lt hC)
  ·obtain ⟨v,o,ho,_⟩:=I2.cell y a z
   exact Nat.ne_of_gt (Nat.lt_of_lt_of_le (Heap.lt_size ho) hC)
 refine ⟨m,hn.sameBut sba aC,fun h' sb=>?_⟩
 refine ⟨σ.set i (some (.ref D')),upd HB D' (.lst acc),I3.turned (it:=C) (t':=s3.toks) (fun b o hb e=>sb.extBut b o hb e) (by rw [z9 (Ne.symm hDC)]; exact IB.free) (Nat.ne_of_gt (Nat.lt_of_lt_of_le I2.lt hC)) (.inr (Nat.le_trans I2.sz hC)) (fun y' c e=>?_) (fun p hp=>?_),q D' hHD⟩
 ·obtain ⟨v,o,ho,_⟩:=I2.cell y' c e
  exact Nat.ne_of_lt (Nat.lt_of_lt_of_le (Heap.lt_size ho) hC)
 ·exact Nat.ne_of_lt (Nat.lt_of_lt_of_le (Heap.lt_size (I2.pin p hp).1) hC)
end
end L2
end
section
namespace L2
open PySem PySem.Spec PyProof.Rows
def eqVs:List V → List V → Bool
 | [],[]=>true
 | x :: xs,y :: ys=>eqV x y && eqVs xs ys
 | _,_=>false
theorem z80:∀ {xs ys:List V},xs.length ≠ ys.length → eqVs xs ys = false
 | [],[],h=>absurd rfl h
 | [],_ :: _,_=>rfl
 | _ :: _,[],_=>rfl
 | x :: xs,y :: ys,h=>by
  show (eqV x y && eqVs xs ys) = false
  rw [z80 (xs:=xs) (ys:=ys) (fun e=>h (by simp [e])),Bool.and_false]
theorem z5w:∀ {xs ys:List V},xs.length = ys.length → (List.range xs.length).all (fun j=>eqV (xs.getD j .non) (ys.getD j .non)) = eqVs xs ys
 | [],[],_=>rfl
 | [],_ :: _,h=>by simp at h
 | _ :: _,[],h=>by simp at h
 | x :: xs,y :: ys,h=>by
  have ih:=z5w (xs:=xs) (ys:=ys) (by simpa using h)
  show (List.range (xs.length + 1)).all _ = (eqV x y && eqVs xs ys)
  rw [List.range_succ_eq_map,List.all_cons,List.all_map,← ih]
  rfl
theorem z5x:∀ (as bs:List Str),eqVs (as.map V.str) (bs.map V.str) = decide (as = bs)
 | [],[]=>rfl
 | [],_ :: _=>rfl
 | _ :: _,[]=>rfl
 | a :: as,b :: bs=>by
  show (eqV (.str a) (.str b) && eqVs (as.map V.str) (bs.map V.str)) = _
  rw [z5x as bs]
  show ((a == b) && decide (as = bs)) = _
  rw [Bool.eq_iff_iff]
  simp
theorem zan {A:Around} {s:Shared} {xs ys:List V} {us ws:List Value} (rx:Vals xs us) (ry:Vals ys ws) (fx:xs.all z2i = true) (fy:ys.all z2i = true) (j:Nat) (h1:j < us.toArray.size) (h2:j < ws.toArray.size) :
  SeqAt.EqAt A s us.toArray[j] ws.toArray[j] (eqV (xs.getD j .non) (ys.getD j .non)):=by
 have l1:=rx.length
 have l2:=ry.length
 rw [List.size_toArray] at h1 h2
 have e1:xs[j]? = some (xs.getD j .non):=by rw [List.getD_eq_getElem?_getD,List.getElem?_eq_getElem (by omega)]; rfl
 have e2:ys[j]? = some (ys.getD j .non):=by rw [List.getD_eq_getElem?_getD,List.getElem?_eq_getElem (by omega)]; rfl
 obtain ⟨u,q1,r1⟩:=rx.get e1
 obtain ⟨w,q2,r2⟩:=ry.get e2
 have t1:us.toArray[j] = u:=by
  rw [List.getElem_toArray]
  rw [List.getElem?_eq_getElem h1] at q1
  exact Option.some.inj q1
 have t2:ws.toArray[j] = w:=by
  rw [List.getElem_toArray]
  rw [List.getElem?_eq_getElem h2] at q2
  exact Option.some.inj q2
 rw [t1,t2]
 exact zfk r1 r2 (List.all_eq_true.mp fx _ (List.mem_of_getElem? e1)) (List.all_eq_true.mp fy _ (List.mem_of_getElem? e2))
def rEqL (K:PySem.W.Frag) (neg:Bool):R2:=fun x y H Q=>∃ p q xs ys,x = .ref p ∧ y = .ref q ∧ SqL K H p xs ∧ SqL K H q ys ∧ xs.all z2i = true ∧ ys.all z2i = true ∧ Q (.bl (if neg then !eqVs xs ys else eqVs xs ys)) H
def rEqT (K:PySem.W.Frag) (neg:Bool):R2:=fun x y H Q=>∃ p q xs ys,x = .ref p ∧ y = .ref q ∧ SqT K H p xs ∧ SqT K H q ys ∧ xs.all z2i = true ∧ ys.all z2i = true ∧ Q (.bl (if neg then !eqVs xs ys else eqVs xs ys)) H
section
variable {X:Cx}
theorem zfq (hu:X.A.units < cLine):OpR X (compareOp .Eq) (rEqL X.K false):=by
 intro pins s σ H x y v u Q I rx ry h
 obtain ⟨p,q,xs,ys,rfl,rfl,hp,hq,fx,fy,hQ⟩:=h
 cases rx
 cases ry
 obtain ⟨us,r1,p1,_⟩:=I.list hp
 obtain ⟨ws,r2,p2,_⟩:=I.list hq
 have l1:=r1.length
 have l2:=r2.length
 by_cases hl:xs.length = ys.length
 ·refine SeqAt.eq_listAt (e:=fun j=>eqV (xs.getD j .non) (ys.getD j .non)) p1.isList p2.isList (by rw [List.size_toArray,List.size_toArray]; omega) hu (fun j h1 h2=>zan r1 r2 fx fy j h1 h2) (z11 I hQ ?_)
  rw [List.size_toArray,← l1,z5w hl]
  rfl
 ·refine SeqAt.eq_list_lengthsAt p1.isList p2.isList (by simp only [List.size_toArray,bne_iff_ne]; omega) hu (z11 I hQ ?_)
  rw [z80 hl]
  rfl
theorem zj4 {xs ys:List V}:((List.range (min xs.length ys.length)).all (fun j=>eqV (xs.getD j .non) (ys.getD j .non)) && xs.length == ys.length) = eqVs xs ys:=by
 by_cases hl:xs.length = ys.length
 ·rw [← hl,Nat.min_self,z5w hl]
  simp
 ·rw [z80 hl]
  simp [hl]
theorem zjz (hu:X.A.units < cLine):OpR X (compareOp .NotEq) (rEqT X.K true):=by
 intro pins s σ H x y v u Q I rx ry h
 obtain ⟨p,q,xs,ys,rfl,rfl,hp,hq,fx,fy,hQ⟩:=h
 cases rx
 cases ry
 obtain ⟨us,r1,p1,_⟩:=I.tuple hp
 obtain ⟨ws,r2,p2,_⟩:=I.tuple hq
 have l1:=r1.length
 have l2:=r2.length
 refine SeqAt.RcNeAt.tuples (e:=fun j=>eqV (xs.getD j .non) (ys.getD j .non)) p1 p2 hu (fun j h1 h2=>zan r1 r2 fx fy j h1 h2) _ _ _ _ (z11 I hQ ?_)
 rw [List.size_toArray,List.size_toArray,← l1,← l2,zj4]
 rfl
theorem zk0:SlR X (fun x lo hi H Q=>∃ z,x = .str z ∧ z.length ≤ sizeLine ∧ Q (.str (Txt.slice z lo hi)) H):=by
 intro pins s σ H x v vl vu lo hi sl Q I rx hs pl pu h
 obtain ⟨z,rfl,hz,q⟩:=h
 obtain ⟨t,rfl⟩:=rx
 refine ⟨"str",_,F.slot_str_getitem.lookup,typeIs_str _ _ _,?_⟩
 have fin:∀ t' k,EP X pins σ Q (.str (Txt.slice z lo hi) t') { s with toks:=k }:=fun t' k=>⟨.str _,H,I.tok _,⟨_,rfl⟩,q⟩
 obtain ⟨o,h1,h2,h3⟩:=hs
 cases pl with
 | none =>
  cases pu with
  | none=>exact wpAny_getItem_str_slice (l:=none) (u:=none) (st:=none) ⟨o,h1,h2,h3⟩ rfl (post_val_or_str ⟨Nat.le_trans (Txt.slice_le z none none) hz,fin⟩)
  | int j u=>exact wpAny_getItem_str_slice (l:=none) (u:=some (j,u)) (st:=none) ⟨o,h1,h2,h3⟩ rfl (post_val_or_str ⟨Nat.le_trans (Txt.slice_le z none (some j)) hz,fin⟩)
 | int i u' =>
  cases pu with
  | none=>exact wpAny_getItem_str_slice (l:=some (i,u')) (u:=none) (st:=none) ⟨o,h1,h2,h3⟩ rfl (post_val_or_str ⟨Nat.le_trans (Txt.slice_le z (some i) none) hz,fin⟩)
  | int j u=>exact wpAny_getItem_str_slice (l:=some (i,u')) (u:=some (j,u)) (st:=none) ⟨o,h1,h2,h3⟩ rfl (post_val_or_str ⟨Nat.le_trans (Txt.slice_le z (some i) (some j)) hz,fin⟩)
theorem zao:∀ (l:List (Str × Tok)),Vals ((l.map (·.1)).map V.str) (strValues l)
 | []=>.nil
 | (x,t) :: r=>.cons ⟨t,rfl⟩ (zao r)
def zfr:V → List V → Hp → VK → Prop:=fun x vs H Q=>∃ z y,x = .str z ∧ vs = [.str y] ∧ y.length = 1 ∧ z.length + 2 ≤ sizeLine ∧ ∀ p,H p = none → Q (.ref p) (upd H p (.lst ((Txt.split z y).map V.str)))
theorem z5y:MtR X "str.split" zfr:=by
 intro pins s σ H x vs v us Q I rx rv h
 obtain ⟨z,y,rfl,rfl,hy,hz,q⟩:=h
 obtain ⟨t,rfl⟩:=rx
 obtain ⟨u,rfl,t',rfl⟩:=rv.one
 have hn:(Builtin.Str.partsBetween z (Builtin.Str.occurrences z y 0 z.length (z.length + 1)) y.length).length ≤ sizeLine:=by
  have e1:=StrLaws.occ_length_le z y 0 z.length (z.length + 1)
  rw [length_partsBetween]; omega
 have hy0:(y.length == 0) = false:=by rw [hy]; rfl
 have fin:∀ (l:List (Str × Tok)) (tk:Nat),l.map (·.1) = Txt.split z y → (Txt.split z y).length ≤ sizeLine → EP X pins σ Q (.ref s.heap.objs.size) { s with toks:=tk,heap:=s.heap.push { cls:=.type "list",data:=.seq (strValues l).toArray } }:=fun l tk e hl=>by
  refine ⟨.ref s.heap.objs.size,_,I.lnew (t':=tk) (ys:=(Txt.split z y).map V.str) ?_ (by rw [List.length_map]; exact hl),rfl,q _ I.fresh⟩
  rw [← e]
  exact zao l
 cases h1:(decide (z.length < y.length) || decide (Builtin.Str.strKind z < Builtin.Str.strKind y))
 ·cases hf:(Builtin.Str.occurrences z y 0 z.length (z.length + 1)).isEmpty
  ·have e:Txt.split z y = Builtin.Str.partsBetween z (Builtin.Str.occurrences z y 0 z.length (z.length + 1)) y.length:=(if_neg (ne_true_of_eq_false h1)).trans (if_neg (ne_true_of_eq_false hf))
   refine call_meets F.slot_str_split (typeIs_str _ _ _) F.entry_str_split (F.args_str_split_2 _ _) (meets_str_split_sep z y t t' h1 hy0 hf (by omega) hn) ?_
   show wants _ _ _ { s with toks:=_,heap:=s.heap.push { cls:=.type "list",data:=.seq (strsFrom s.toks (Builtin.Str.partsBetween z (Builtin.Str.occurrences z y 0 z.length (z.length + 1)) y.length)).toArray } }
   rw [strsFrom_eq]
   exact fin (numbered s.toks _) _ ((numbered_texts _ _).trans e.symm) (by rw [e]; exact hn)
  ·have e:Txt.split z y = [z]:=(if_neg (ne_true_of_eq_false h1)).trans (if_pos hf)
   exact call_meets F.slot_str_split (typeIs_str _ _ _) F.entry_str_split (F.args_str_split_2 _ _) (meets_str_split_not_found z y t t' h1 hy0 hf) (fin [(z,t)] s.toks e.symm (by rw [e]; show 1 ≤ sizeLine; decide))
 ·have e:Txt.split z y = [z]:=if_pos h1
  exact call_meets F.slot_str_split (typeIs_str _ _ _) F.entry_str_split (F.args_str_split_2 _ _) (meets_str_split_cannot_occur z y t t' h1) (fin [(z,t)] s.toks e.symm (by rw [e]; show 1 ≤ sizeLine; decide))
theorem zap:∀ bs:List Bool,(List.range bs.length).all (fun j=>bs.getD j true) = bs.all id
 | []=>rfl
 | b :: bs=>by
  show (List.range (bs.length + 1)).all _ = _
  rw [List.range_succ_eq_map,List.all_cons,List.all_map,List.all_cons]
  show (b && (List.range bs.length).all fun j=>bs.getD j true) = _
  rw [zap bs]
  rfl
theorem z58 (hc:X.calm = true):CallR X (.builtin "all") (fun xs H Q=>∃ p bs,xs = [.ref p] ∧ SqL X.K H p ((bs:List Bool).map V.bl) ∧ Q (.bl (bs.all id)) H):=by
  intro pins s σ H xs us Q I r h
  obtain ⟨p,bs,rfl,hp,q⟩:=h
  obtain ⟨u,rfl,ru⟩:=z3k r
  cases ru
  obtain ⟨its,r1,p1,_⟩:=I.list hp
  have hl:=r1.length
  rw [List.length_map] at hl
  refine call_all_walk (wpAny_pyIter_list p1.isList ?_)
  obtain ⟨ol,n,hol,hcl,hdl,hsl⟩:=id p1
  have hne:p ≠ s.heap.objs.size:=Nat.ne_of_lt (Heap.lt_size hol)
  refine ⟨s.heap.objs.size,[s.heap.objs.size,p],[s.heap.objs.size],its.toArray.size,_,_,fun j=>bs.getD j true,rfl,Walks.list (by exact I.ok.hd hc) s.heap.objs.size p hne its.toArray,
    ⟨⟨_,Heap.get?_push_size _ rfl,rfl,rfl⟩,⟨ol,Heap.get?_push_of_some _ hol,hcl,n,hsl⟩⟩,?_,fun h' tk k=>?_⟩
  · intro j v s' Q' E' hv hq
    have hv:its.toArray[j]? = some v:=hv
    have e0:its[j]? = some v:=by simpa using hv
    have hj:j < its.length:=(List.getElem?_eq_some_iff.mp e0).1
    have e1:(bs.map V.bl)[j]? = some (V.bl (bs.getD j true)):=by
      rw [List.getElem?_map,List.getD_eq_getElem?_getD,List.getElem?_eq_getElem (by omega)]
      rfl
    obtain ⟨w,q1,rw'⟩:=r1.get e1
    rw [e0] at q1
    cases q1
    cases rw'
    exact wpAny_truthy_bool hq
  · have e:(List.range its.toArray.size).all (fun j=>bs.getD j true) = bs.all id:=by
      rw [List.size_toArray,← hl]
      exact zap bs
    rw [e]
    have I2:Inv X pins σ H { s with heap:=h',toks:=tk }:=by
     refine I.kept (t':=tk) (h':=h') fun b o e=>k b o ?_ (Heap.get?_push_of_some _ e)
     intro z
     have:b = s.heap.objs.size:=by simpa using z
     exact absurd (Heap.lt_size e) (by rw [this]; exact Nat.lt_irrefl _)
    exact ⟨.bl _,H,I2,rfl,q⟩
theorem zw:CallR X (.builtin "isinstance") (fun xs H Q=>∃ x c t b,xs = [x,.ty c] ∧ TyOf X.K H x t ∧ PySem.W.kitOne X.K t (.type c) = some b ∧ Q (.bl b) H):=by
 intro pins s σ H xs us Q I r h
 obtain ⟨x,c,t,b,rfl,ty,e,q⟩:=h
 obtain ⟨u,w',rfl,r1,r2⟩:=ze5 r
 cases r2
 exact zfi I r1 ty e fun tk=>⟨.bl b,H,I.tok _,rfl,q⟩
end
theorem z3a (K:PySem.W.Frag):PySem.W.kitOne K (.type "bool") (.type "bool") = some true:=by with_unfolding_all rfl
theorem z3m (K:PySem.W.Frag):PySem.W.kitOne K (.type "int") (.type "bool") = some false:=by with_unfolding_all rfl
end L2
end
section
namespace L2
open PySem PySem.Spec PyProof.Rows
def Def (K:PySem.W.Frag) (mg:Str → Option Value) (x:Str) (st:Stmt) (ps:List Str):Prop:=∃ f fd,Fun K x x st f fd ∧ mg x = some (.ref f) ∧ Binds K fd ps []
def Has (P:Program) (w:World) (K:PySem.W.Frag) (mg:Str → Option Value) (base:Heap) (k:Nat) (x:Str) (ps:List Str) (sp:Sp):Prop :=
 ∃ f fd,FnOk P w K mg base CX0 k f fd ps sp ∧ mg x = some (.ref f) ∧ PySem.W.keepIn K (.ref f) = true ∧ Binds K fd ps [] ∧ ∃ oc od osl,K.lookup f = some ⟨oc,od,.func fd,osl⟩
theorem Def.ok {P:Program} {w:World} {K:PySem.W.Frag} {mg:Str → Option Value} {base:Heap} {x:Str} {st:Stmt} {N ps:List Str} {k:Nat} {sp:Sp} (D:Def K mg x st ps) (S:FnScope N ps (ze st)) (len:∀ vs H Q E,sp vs H Q E → vs.length = ps.length)
  (hbody:∀ (f:Addr) (cdv:Value) (A:Around) (outer:List Env) (s:Shared) (H:Hp) (vs:List V) (Q:VK) (E:XK),Room k (A.deeper (envOfC x (ze st) s.heap.objs.size f cdv)) → sp vs H Q E →
   ∃ t,PSs (cxOf CX0 P w K mg base N x (ze st) f cdv A outer s H E).nox (z1g st) t ∧ t { nx:=fun _ H'=>Q .non H',rt:=Q } (start N vs) H):Has P w K mg base (k + 1) x ps sp:=by
 obtain ⟨f,fd,F,hm,hb⟩:=D
 exact ⟨f,fd,F.ok S len (fun cdv A outer s H vs Q E hr h=>hbody f cdv A outer s H vs Q E hr h),hm,F.kp,hb,by
  obtain ⟨oc,od,kV,doc,pm,an,cdv,ct,osl,rfl,lk,hcd⟩:=F.ex
  exact ⟨oc,od,osl,lk⟩⟩
section
variable {X:Cx} {k:Nat} {x:Str} {ps:List Str} {sp:Sp} {e:Expr} {es:List Expr} {t:TA} {p pos:Pos}
theorem zp (G:Has X.prog X.w X.K X.mg X.base k x ps sp) (hr:Room k X.A) (hg:Gl X x) (ha:PA X (e :: es) t) (hdb:(x == ("__debug__" : Str)) = false:=by decide) (he:starEach (e :: es) X.env = (false,eval e X.env) :: starEach es X.env:=by rfl) (hpl:(backTo pos (starEach es X.env)).any (·.1) = false:=by rfl) :
  PE X (.Call (.Name x p) (e :: es) [] pos) (zeb sp [] E0 t):=by
 obtain ⟨f,fd,F,hm,hk,hb,_⟩:=G
 exact ziz F hr hg hm hk hb .nil z8k ha hdb he hpl
end
def z52 (H:Hp) (Q:VK) (v:V):Prop:=∀ H',Same H H' → Q v H'
end L2
namespace L2
open PySem PySem.Spec PyProof.Rows
theorem Has.at {P:Program} {w:World} {K:PySem.W.Frag} {mg:Str → Option Value} {base:Heap} {k:Nat} {x:Str} {ps:List Str} {sp:Sp} {st:Stmt} {f:Addr} {fd:FuncData} (G:Has P w K mg base k x ps sp) (hm:mg x = some (.ref f)) (F:Fun K x x st f fd):FnOk P w K mg base CX0 k f fd ps sp:=by
 obtain ⟨f',fd',FO,hm',hk,hb,oc',od',osl',lk'⟩:=G
 have e:=hm'.symm.trans hm
 cases e
 obtain ⟨oc,od,kV,doc,pm,an,cdv,ct,osl,rfl,lk,hcd⟩:=F.ex
 rw [lk] at lk'
 have e2:=Option.some.inj lk'
 injection e2 with _ _ e3 _
 injection e3 with e4
 rw [e4]
 exact FO
end L2
namespace L2
open PySem PySem.Spec PyProof.Rows
theorem zef {n:Nat} (h:n ≤ 1000000):n + 2 ≤ sizeLine:=by rw [sizeLine_eq]; omega
theorem zd {n:Nat} (h:n ≤ 1000000):n ≤ sizeLine:=by rw [sizeLine_eq]; omega
theorem z7b {z y:Str} {H:Hp} {Q:VK} (hy:y.length = 1) (hz:z.length ≤ 1000000) (h:∀ p,H p = none → Q (.ref p) (upd H p (.lst ((Txt.split z y).map V.str)))):zfr (.str z) [.str y] H Q :=
 ⟨z,y,rfl,rfl,hy,zef hz,h⟩
theorem z2l (l:List Str):(l.map V.str).all z2i = true:=by
 rw [List.all_eq_true]
 intro x hx
 obtain ⟨a,_,rfl⟩:=List.mem_map.mp hx
 rfl
theorem z8n (xs:List V) (n:Nat):cutV xs none (some (n:Int)) = xs.take n:=by
 have e:HT.sIx xs.length xs.length (some (n:Int)) = min n xs.length:=by
  unfold HT.sIx
  simp
  try omega
 have e0:HT.sIx xs.length 0 none = 0:=rfl
 unfold cutV
 rw [e,e0]
 simp
theorem Same.upd {H:Hp} {p:Addr} {o:HO} (h:H p = none):Same H (upd H p o):=fun b u e=>by
 rw [z9 (zc e h)]
 exact e
end L2
namespace L2
open PySem PySem.Spec PyProof.Rows
def zeg (J:It) (g:TG) (tb:TS) (D:Ends) (σ:St) (H:Hp):Prop:=∃ W:Nat → Nat → St → Hp → Prop,(∃ m,W 0 m σ H) ∧ ∀ i m σ H,W i m σ H →
 (J.stop i H ∧ D.nx σ H) ∨ (J.go i H ∧ ∃ N:St → Hp → Prop,(∀ σ' H',N σ' H' → ∃ m',m' < m ∧ W (i + 1) m' σ' H') ∧ ∀ x H',J.yld i H x H' → g x σ H' fun σ2 H2=>tb { D with nx:=N,ct:=N,bk:=D.nx } σ2 H2)
theorem zhj (wi:TI) (g:TG) (tb:TS) (D:Ends) (σ:St) (H:Hp):tFor wi g tb D σ H = wi σ H fun J H1=>zeg J g tb D σ H1:=rfl
theorem zfs (ta:TA) (σ:St) (H:Hp) (R:It → Hp → Prop):ze2 ta σ H R = ta σ H fun vs H1=>∃ j:Int,vs = [.int j] ∧ (-(2 ^ 62) ≤ j ∧ j < 2 ^ 62) ∧ R (Itr 0 j.toNat) H1:=by
 unfold ze2
 simp only [and_assoc]
theorem zft (ta:TA) (σ:St) (H:Hp) (R:It → Hp → Prop):zie ta σ H R = ta σ H fun vs H1=>∃ i j:Int,vs = [.int i,.int j] ∧ (-(2 ^ 62) ≤ i ∧ i < 2 ^ 62 ∧ -(2 ^ 62) ≤ j ∧ j < 2 ^ 62) ∧ R (Itr i (j - i).toNat) H1:=rfl
theorem z59 {lo:Int} {n:Nat} {g:TG} {tb:TS} {D:Ends} {σ:St} {H:Hp} (sp:Nat → St → Hp → Prop) (h0:sp 0 σ H)
  (hs:∀ (Pv:Nat → St → Hp → Prop),(∀ i σ H,sp i σ H → Pv i σ H) → ∀ i σ H,i < n → sp i σ H → g (.int (lo + i)) σ H fun σ2 H2=>tb { D with nx:=Pv (i + 1),ct:=Pv (i + 1),bk:=D.nx } σ2 H2) (hd:∀ σ H,sp n σ H → D.nx σ H):zeg (Itr lo n) g tb D σ H :=
 zfc sp h0 (hs sp fun _ _ _ h=>h) hd
theorem z1i {K:PySem.W.Frag} {a:Addr} {xs:List V} {g:TG} {tb:TS} {D:Ends} {σ:St} {H:Hp} (sp:Nat → St → Hp → Prop) (h0:sp 0 σ H) (hl:∀ i σ H,i ≤ xs.length → sp i σ H → SqL K H a xs)
  (hs:∀ (Pv:Nat → St → Hp → Prop),(∀ i σ H,sp i σ H → Pv i σ H) → ∀ i x σ H,xs[i]? = some x → sp i σ H → g x σ H fun σ2 H2=>tb { D with nx:=Pv (i + 1),ct:=Pv (i + 1),bk:=D.nx } σ2 H2) (hd:∀ σ H,sp xs.length σ H → D.nx σ H):zeg (Itl K a) g tb D σ H :=
 zhc sp h0 hl (hs sp fun _ _ _ h=>h) hd
theorem zfu (wi:TI) (tc:TT) (te:TE) (js:List Nat) (σ:St) (H:Hp) (Q:VK):zee wi tc te js σ H Q = wi σ H fun J H1=>z47 J tc te js σ H1 Q:=rfl
def Nx (n:Nat) (Pv:Nat → List V → Hp → Prop) (i:Nat) (acc:List V) (H:Hp):Prop:=∃ m',m' < n - i ∧ m' = n - (i + 1) ∧ i + 1 ≤ n ∧ Pv (i + 1) acc H
theorem nx {n:Nat} {Pv:Nat → List V → Hp → Prop} {i:Nat} {acc:List V} {H:Hp} (hi:i < n) (h:Pv (i + 1) acc H):Nx n Pv i acc H:=⟨n - (i + 1),by omega,rfl,hi,h⟩
theorem z8o {J:It} {tc:TT} {te:TE} {js:List Nat} {σ:St} {H1:Hp} {Q:VK} (n:Nat) (hn:n ≤ sizeLine) (Pv:Nat → List V → Hp → Prop) (h0:Pv 0 [] H1) (hlen:∀ i acc H,Pv i acc H → acc.length ≤ i)
  (hgo:∀ i acc H,i < n → Pv i acc H → J.go i H) (hstop:∀ acc H,Pv n acc H → J.stop n H)
  (hs:∀ i acc H x H',i < n → Pv i acc H → J.yld i H x H' → tc (some x :: capt σ js) H' fun b H2=>if b = true then te (some x :: capt σ js) H2 fun v H3=>Nx n Pv i (acc ++ [v]) H3 else Nx n Pv i acc H2)
  (hd:∀ acc H,Pv n acc H → ∀ p,H p = none → Q (.ref p) (upd H p (.lst acc))):z47 J tc te js σ H1 Q:=by
 refine ⟨fun i m acc H=>m = n - i ∧ i ≤ n ∧ Pv i acc H,⟨n,by simp,Nat.zero_le _,h0⟩,?_⟩
 rintro i m acc H ⟨rfl,hi,p⟩
 by_cases hlt:i < n
 ·exact .inr ⟨hgo i acc H hlt p,by have:=hlen i acc H p; omega,fun x H' y=>hs i acc H x H' hlt p y⟩
 ·have e:i = n:=by omega
  subst e
  exact .inl ⟨hstop acc H p,hd acc H p⟩
theorem zb0 {lo:Int} {n:Nat} {tc:TT} {te:TE} {js:List Nat} {σ:St} {H1:Hp} {Q:VK} (hn:n ≤ sizeLine) (Pv:Nat → List V → Hp → Prop) (h0:Pv 0 [] H1) (hlen:∀ i acc H,Pv i acc H → acc.length ≤ i)
  (hs:∀ i acc H,i < n → Pv i acc H → tc (some (.int (lo + i)) :: capt σ js) H fun b H2=>if b = true then te (some (.int (lo + i)) :: capt σ js) H2 fun v H3=>Nx n Pv i (acc ++ [v]) H3 else Nx n Pv i acc H2)
  (hd:∀ acc H,Pv n acc H → ∀ p,H p = none → Q (.ref p) (upd H p (.lst acc))):z47 (Itr lo n) tc te js σ H1 Q:=by
 refine z8o n hn Pv h0 hlen (fun i acc H hi p=>hi) (fun acc H p=>Nat.le_refl _) (fun i acc H x H' hi p y=>?_) hd
 obtain ⟨e,y⟩:=y
 subst e y
 exact hs i acc H' hi p
theorem zbv {K:PySem.W.Frag} {a:Addr} {xs:List V} {tc:TT} {te:TE} {js:List Nat} {σ:St} {H1:Hp} {Q:VK} (hn:xs.length ≤ sizeLine) (Pv:Nat → List V → Hp → Prop) (h0:Pv 0 [] H1) (hlen:∀ i acc H,Pv i acc H → acc.length ≤ i) (hl:∀ i acc H,Pv i acc H → SqL K H a xs)
  (hs:∀ i acc H x,xs[i]? = some x → i < xs.length → Pv i acc H → tc (some x :: capt σ js) H fun b H2=>if b = true then te (some x :: capt σ js) H2 fun v H3=>Nx xs.length Pv i (acc ++ [v]) H3 else Nx xs.length Pv i acc H2)
  (hd:∀ acc H,Pv xs.length acc H → ∀ p,H p = none → Q (.ref p) (upd H p (.lst acc))):z47 (Itl K a) tc te js σ H1 Q:=by
 refine z8o xs.length hn Pv h0 hlen (fun i acc H hi p=>⟨xs,xs[i],hl i acc H p,by simp [hi]⟩) (fun acc H p=>⟨xs,hl _ acc H p,Nat.le_refl _⟩) (fun i acc H x H' hi p y=>?_) hd
 obtain ⟨e,y⟩:=y
 subst e
 exact hs i acc H' x (y xs (hl i acc H' p)) hi p
theorem z30 {lo:Int} {n:Nat} {tc:TT} {te:TE} {js:List Nat} {σ:St} {H1:Hp} {Q:VK} (hn:n ≤ sizeLine) (sp:Nat → List V → Hp → Prop) (h0:sp 0 [] H1) (hlen:∀ i acc H,sp i acc H → acc.length ≤ i)
  (hs:∀ (Nt:List V → Hp → Prop) i acc H,(∀ acc H,sp (i + 1) acc H → Nt acc H) → i < n → sp i acc H → tc (some (.int (lo + i)) :: capt σ js) H fun b H2=>if b = true then te (some (.int (lo + i)) :: capt σ js) H2 fun v H3=>Nt (acc ++ [v]) H3 else Nt acc H2)
  (hd:∀ acc H,sp n acc H → ∀ p,H p = none → Q (.ref p) (upd H p (.lst acc))):z47 (Itr lo n) tc te js σ H1 Q :=
 zb0 hn sp h0 hlen (fun i acc H hi p=>hs (Nx n sp i) i acc H (fun _ _ h=>nx hi h) hi p) hd
theorem z1m {K:PySem.W.Frag} {a:Addr} {xs:List V} {tc:TT} {te:TE} {js:List Nat} {σ:St} {H1:Hp} {Q:VK} (hn:xs.length ≤ sizeLine) (sp:Nat → List V → Hp → Prop) (h0:sp 0 [] H1) (hlen:∀ i acc H,sp i acc H → acc.length ≤ i) (hl:∀ i acc H,sp i acc H → SqL K H a xs)
  (hs:∀ (Nt:List V → Hp → Prop) i acc H x,(∀ acc H,sp (i + 1) acc H → Nt acc H) → xs[i]? = some x → i < xs.length → sp i acc H → tc (some x :: capt σ js) H fun b H2=>if b = true then te (some x :: capt σ js) H2 fun v H3=>Nt (acc ++ [v]) H3 else Nt acc H2)
  (hd:∀ acc H,sp xs.length acc H → ∀ p,H p = none → Q (.ref p) (upd H p (.lst acc))):z47 (Itl K a) tc te js σ H1 Q :=
 zbv hn sp h0 hlen hl (fun i acc H x hx hi p=>hs (Nx xs.length sp i) i acc H x (fun _ _ h=>nx hi h) hx hi p) hd
end L2
namespace L2
open PySem PySem.Spec PyProof.Rows
def tCut (t u:TS):TS:=fun D σ H=>∃ Mid:St → Hp → Prop,t { D with nx:=Mid } σ H ∧ ∀ σ H,Mid σ H → u D σ H
theorem z3t {X:Cx} {st:Stmt} {rest:List Stmt} {t u:TS} (h1:PS X st t) (h2:PSs X rest u):PSs X (st :: rest) (tCut t u):=by
 intro pins s σ H D I ⟨Mid,h,hm⟩
 refine wpAny_execs_cons (thn (h1 pins s σ H { D with nx:=Mid } I h) fun f s1 q=>?_)
 cases f with
 | next =>
  obtain ⟨σ',H',I',q⟩:=q
  exact h2 pins s1 σ' H' D I' (hm σ' H' q)
 | ret v=>exact q
 | brk=>exact q
 | cont=>exact q
theorem z5z {t u:TS} {D:Ends} {σ:St} {H:Hp} (sp:St → Hp → Prop) (h1:∀ Mid:St → Hp → Prop,(∀ σ H,sp σ H → Mid σ H) → t { D with nx:=Mid } σ H) (h2:∀ σ H,sp σ H → u D σ H):tCut t u D σ H:=⟨sp,h1 sp fun _ _ h=>h,h2⟩
theorem cdiv {i j:Int} (h1:0 < j) (h2:j < 1073741824):CDiv i j:=⟨h1,h2⟩
end L2
namespace L2
open PySem PySem.Spec PyProof.Rows
def zk1 (dn cn:List (Str × NameKind)):Bool:=cn.all fun y=>(y.2 != .free) || (dn.lookup y.1 == some .cell) || (dn.lookup y.1 == some .free)
theorem zu {X:Cx} {sc:Scope} (h:zk1 X.env.scope.names sc.names = true):∀ y ∈ sc.names,y.2 = .free → X.env.kindOf y.1 = some .cell ∨ X.env.kindOf y.1 = some .free:=by
 intro y hy hf
 have:=List.all_eq_true.mp h y hy
 rw [hf] at this
 simp at this
 exact this
end L2
end
section
namespace L2
open PySem PySem.Spec PyProof.Rows
theorem ObjOk.here {P:Program} {w:World} {H:Hp} {h:Heap} {a:Addr} {o:HO} (x:ObjOk P w H h a o):∃ ob,h.get? a = some ob:=by
 cases o with
 | lst xs=>obtain ⟨_,_,_,_,e⟩:=x; exact ⟨_,e⟩
 | tup xs=>obtain ⟨_,_,_,ob,e,_⟩:=x; exact ⟨_,e⟩
 | dK kvs=>obtain ⟨_,_,_,_,ob,_,_,e,_⟩:=x; exact ⟨_,e⟩
 | dT kvs=>obtain ⟨_,_,_,_,ob,_,_,e,_⟩:=x; exact ⟨_,e⟩
 | set S n=>obtain ⟨ob,_,_,_,e,_⟩:=x; exact ⟨_,e⟩
 | ins C dx fs=>obtain ⟨_,_,_,e,_⟩:=x; exact ⟨_,e⟩
 | own y=>obtain ⟨ob,e⟩:=x; exact ⟨_,e⟩
 | xd fs=>obtain ⟨_,⟨ob,_,_,e,_⟩,_⟩:=x; exact ⟨_,e⟩
 | rng lo hi=>obtain ⟨_,_,_,e⟩:=x; exact ⟨_,e⟩
 | frz ob u=>obtain ⟨e,_⟩:=x; exact ⟨_,e⟩
 | tbl ps=>exact ⟨_,(show h.get? a = some _ from x)⟩
 | met f y=>exact ⟨_,(show h.get? a = some _ from x)⟩
 | ext φ=>obtain ⟨_,⟨ob,e⟩,_⟩:=x; exact ⟨_,e⟩
theorem z9n {P:Program} {w:World} {H:Hp} {B h h':Heap} (k:B.StaysIn h) (k':B.StaysIn h') (tr:∀ b u,H b = some u → ∃ o,B.get? b = some o) (ok:HOk P w H h):HOk P w H h':=fun a o e =>
 (ok a o e).stay (fun b u hb q=>by
  have hbt:∃ v,H b = some v:=by
   rcases hb with z | z
   ·exact ⟨o,by rw [z]; exact e⟩
   ·exact ⟨_,z⟩
  obtain ⟨v,hv⟩:=hbt
  obtain ⟨ob,hob⟩:=tr b v hv
  have:=k b ob hob
  rw [q] at this
  cases this
  exact k' b u hob) (fun _ q=>q) fun _ _ q=>q
theorem zfv {fs:List Addr} {H H':Hp} {g B h h':Heap} (k:B.StaysIn h) (k':B.StaysIn h') (hfr:∀ b ∈ fs,∃ o,h.get? b = some o ∧ ∀ vs,o.data ≠ .fields vs) (up:h.UpToSlots h')
  (old:∀ b o,g.get? b = some o → b ∉ fs → ∃ o',B.get? b = some o') (u:Un fs [] H H' g h):Un fs [] H H' g h' where
 keep:=fun b o q n hb hx=>by
  obtain ⟨ob,hob⟩:=old b o q hb
  have e1:=u.keep b o q n hb hx
  have e2:=k b ob hob
  rw [e1] at e2
  cases e2
  exact k' b o hob
 slot:=fun b o q n hb hx=>by
  obtain ⟨sl,e1⟩:=u.slot b o q n hb hx
  obtain ⟨o2,e2,d2⟩:=hfr b hb
  rw [e1] at e2
  cases e2
  obtain ⟨sl',e3⟩:=up b _ e1 d2
  exact ⟨sl',e3⟩
 free:=u.free
 there:=fun b o q hx=>by
  by_cases hb:b ∈ fs
  ·obtain ⟨o2,e2,d2⟩:=hfr b hb
   obtain ⟨sl',e3⟩:=up b _ e2 d2
   exact ⟨_,e3⟩
  ·obtain ⟨ob,hob⟩:=old b o q hb
   exact ⟨ob,k' b ob hob⟩
 tups:=u.tups
 frzs:=u.frzs
 tbls:=u.tbls
def CX1 (P:Program) (w:World):CXT:=fun outer H s E e s'=>∃ (x C t:Addr) (B:Heap) (H':Hp),e = .ref x ∧ s'.os = s.os ∧ AllBare s'.gens ∧ Un (frs outer) [] H H' s.heap s'.heap ∧ HOk P w H' s'.heap ∧
 Heap.FlyingW B outer x (.ref C) (.ref t) s'.heap ∧ (∀ b u,H' b = some u → ∃ o,B.get? b = some o) ∧ (∀ b o,s.heap.get? b = some o → b ∉ frs outer → ∃ o',B.get? b = some o') ∧ E (.ref C) none H'
def zfw (X:Cx) (E:XK):Prop:=∀ (pins:List (Addr × Obj)) (σ:St) (H:Hp) (s:Shared) (x C:Addr) (args:List Value) (h':Heap),Inv X pins σ H s → Heap.MadeExcOf s.heap h' x (.ref C) args → E (.ref C) none H → X.xe (.ref x) { s with heap:=h' }
section
variable {P:Program} {w:World} {K:PySem.W.Frag} {mg:Str → Option Value} {base:Heap} {N:List Str} {qual:Str} {sc:Scope} {f:Addr} {cd:Value} {A:Around} {outer:List Env} {s:Shared} {H:Hp} {E:XK}
theorem z48:zfw (cxOf (CX1 P w) P w K mg base N qual sc f cd A outer s H E) E:=by
 intro pins σ H2 s2 x C args h' I hx hE
 have hfrm:=I.ok.frames
 have hin:∀ env ∈ (cxOf (CX1 P w) P w K mg base N qual sc f cd A outer s H E).stack,∀ a,env.frame = some a → a ∈ frs (cxOf (CX1 P w) P w K mg base N qual sc f cd A outer s H E).stack:=fun env he a ha=>List.mem_filterMap.mpr ⟨env,he,ha⟩
 have hL:(cxOf (CX1 P w) P w K mg base N qual sc f cd A outer s H E).env.locals = s.heap.objs.size:=rfl
 have nfr:∀ b o,s.heap.get? b = some o → b ∉ frs outer → b ∉ frs (cxOf (CX1 P w) P w K mg base N qual sc f cd A outer s H E).stack:=fun b o q hb z=>by
  rcases List.mem_cons.mp (I.stkSub b z) with e | e
  ·rw [hL] at e
   exact absurd (Heap.lt_size q) (by rw [e]; exact Nat.lt_irrefl _)
  ·exact hb e
 have sub:∀ b ∈ frs outer,b ∈ frs (cxOf (CX1 P w) P w K mg base N qual sc f cd A outer s H E).stack:=fun b hb=>by
  obtain ⟨env,he,hf⟩:=List.mem_filterMap.mp hb
  exact List.mem_filterMap.mpr ⟨env,List.mem_cons_of_mem _ he,hf⟩
 have stB:(PySem.W.hideAll s2.heap (frs (cxOf (CX1 P w) P w K mg base N qual sc f cd A outer s H E).stack)).StaysIn s2.heap:=fun b o q=>PySem.W.of_hideAll _ q
 have tr:∀ b u,H2 b = some u → ∃ o,(PySem.W.hideAll s2.heap (frs (cxOf (CX1 P w) P w K mg base N qual sc f cd A outer s H E).stack)).get? b = some o:=fun b u q=>by
  obtain ⟨ob,hob⟩:=(I.hok b u q).here
  exact ⟨ob,PySem.W.hideAll_get _ hob fun z=>by rw [I.stkFree b z] at q; cases q⟩
 have old:∀ b o,s.heap.get? b = some o → b ∉ frs outer → ∃ o',(PySem.W.hideAll s2.heap (frs (cxOf (CX1 P w) P w K mg base N qual sc f cd A outer s H E).stack)).get? b = some o':=fun b o q hb=>by
  obtain ⟨o',e⟩:=I.base.there b o q (by simp [cxOf])
  exact ⟨o',PySem.W.hideAll_get _ e (nfr b o q hb)⟩
 refine wpAny_leaves_madeW (h:=s2.heap) hfrm rfl stB (PySem.W.funFrames_hide I.stack hin) hx fun h2 t fl tp nt up=>?_
 have up2:s2.heap.UpToSlots h2:=fun b o q d=>up b o (hx.keeps b o q) d
 exact ⟨x,C,t,_,H2,rfl,I.os,I.bare,zfv stB fl.1 (fun b hb=>(I.stack.mem (sub b hb)).2) up2 old I.base,z9n stB fl.1 tr I.hok,fl,tr,old,hE⟩
theorem z6n:z39 (CX1 P w) (cxOf (CX1 P w) P w K mg base N qual sc f cd A outer s H E) E:=by
 intro pins σ H1 s1 e s' I hq
 obtain ⟨x,C,t,B,H',rfl,os,bare,un,hok,fl,tr,old,hE⟩:=hq
 have J:Inv (cxOf (CX1 P w) P w K mg base N qual sc f cd A outer s H E) pins σ H' s':=I.call' (ch:=[]) os un hok bare (fun b z=>absurd z (by simp))
 have hL:(cxOf (CX1 P w) P w K mg base N qual sc f cd A outer s H E).env.locals = s.heap.objs.size:=rfl
 have nfr:∀ b o,s.heap.get? b = some o → b ∉ frs outer → b ∉ frs (cxOf (CX1 P w) P w K mg base N qual sc f cd A outer s H E).stack:=fun b o q hb z=>by
  rcases List.mem_cons.mp (I.stkSub b z) with e | e
  ·rw [hL] at e
   exact absurd (Heap.lt_size q) (by rw [e]; exact Nat.lt_irrefl _)
  ·exact hb e
 have old2:∀ b o,s.heap.get? b = some o → b ∉ frs outer → ∃ o',B.get? b = some o':=fun b o q hb=>by
  obtain ⟨o',e⟩:=I.base.there b o q (by simp [cxOf])
  exact old b o' e (nfr b o q hb)
 have sub:∀ b ∈ frs outer,b ∈ frs (cxOf (CX1 P w) P w K mg base N qual sc f cd A outer s H E).stack:=fun b hb=>by
  obtain ⟨env,he,hf⟩:=List.mem_filterMap.mp hb
  exact List.mem_filterMap.mpr ⟨env,List.mem_cons_of_mem _ he,hf⟩
 refine wpAny_leaves_onW I.ok.frames rfl fl fun h2 fl2 up=>?_
 exact ⟨x,C,t,B,H',rfl,J.os,J.bare,zfv fl.1 fl2.1 (fun b hb=>(J.stack.mem (sub b hb)).2) up old2 J.base,z9n fl.1 fl2.1 tr J.hok,fl2,tr,old2,hE⟩
end
theorem zdm {K:PySem.W.Frag} {h:Heap} {C:Addr} {bmB:List Value} {nid:String} (X:K.In h) (q:PySem.W.excIn K C bmB nid = true) :
  ∃ bm N nm qn bs hd sn sub ab col dd k0 k1 k2 k3 k5 mN,h.get? C = some (excClassObj nm qn C N bs bm hd sn sub ab col dd k0 k1 k2 k3 k5 nid) ∧ h.Ns N mN ∧ mN "__init__" = none ∧ OwnTail h bmB bm:=by
 unfold PySem.W.excIn at q
 split at q
 case h_2=>cases q
 case h_1 dd cd sl look =>
  split at q
  case h_2=>cases q
  case h_1 C2 bm a0 a1 a2 a3 nm2 a5 hmro hslots =>
   rw [Bool.and_eq_true,Bool.and_eq_true,Bool.and_eq_true,Bool.and_eq_true,Bool.and_eq_true] at q
   obtain ⟨⟨⟨⟨⟨q1,q2⟩,q3⟩,q4⟩,q5⟩,q6⟩:=q
   have e1:C2 = C:=by simpa using q1
   have e2:nm2 = nid:=by simpa using q2
   subst e1 e2
   obtain ⟨c1,c2,c3,c4,c5,c6,c7,c8,c9,c10,c11⟩:=cd
   have e3:c11 = false:=by simpa using q3
   have e4:c3 = .ref C2 :: bm:=hmro
   have e6:sl = #[a0,a1,a2,a3,some (.builtin nm2),a5]:=Array.toList_inj.mp hslots
   rw [e3,e4,e6] at look
   exact ⟨bm,_,_,_,_,_,_,_,_,_,_,_,_,_,_,_,_,X _ _ look,.of_isNs (PySem.W.isNs_of_in X q5),PySem.W.nsMap_none_of_in X q5 (by simpa using q6),PySem.W.tail_of_in X q4⟩
section
variable {X:Cx} {E:XK} {x:Str} {C:Addr} {np cpos pos:Pos} {e:Expr} {es:List Expr} {t:TA} {bmB:List Value} {B nid iid:String}
def zfx (E:XK) (C:Addr) (t:TA):TS:=fun _ σ H=>t σ H fun xs H1=>xs.length ≤ sizeLine ∧ E (.ref C) none H1
theorem z4s (th:zfw X E) (hc:X.calm = true) (FB:ExcBaseFacts B nid iid bmB) (ex:PySem.W.excIn X.K C bmB nid = true) (hg:Gl X x) (hm:X.mg x = some (.ref C)) (ha:PA X (e :: es) t)
  (he:starEach (e :: es) X.env = (false,eval e X.env) :: starEach es X.env:=by rfl) (hpl:(backTo cpos (starEach es X.env)).any (·.1) = false:=by rfl) (hdb:(x == ("__debug__" : Str)) = false:=by decide) :
  PS X (.Raise (some (.Call (.Name x np) (e :: es) [] cpos)) none pos) (zfx E C t):=by
 intro pins s σ H D I h
 obtain ⟨bm,N,nm,qn,bs,hd,sn,sub,ab,col,dd,k0,k1,k2,k3,k5,mN,hC,hN,hni,T⟩:=zdm I.mod.kin ex
 refine wpAny_Raise_call_subT (C:=C) (bm:=bm) (nm:=nm) (q:=qn) (N:=N) (bs:=bs) (hdct:=hd) (sn:=sn) (sub:=sub) (ab:=ab) (col:=col) (dd:=dd) (k0:=k0) (k1:=k1) (k2:=k2) (k3:=k3) (k5:=k5) FB (mN:=mN) (T.hasType FB.hasBase) (I.ok.hd hc) ?_ hni (z5j I hg hm ⟨rfl,?_⟩ hdb)
 ·rw [he]
  show (false || (backTo cpos (starEach es X.env)).any (·.1)) = false
  rw [hpl]
  rfl
 have hA:=ha cpos pins s σ H _ I h
 rw [he] at hA ⊢
 refine Calls.evalArgs_plain (thn hA fun us s2 hq=>?_)
 obtain ⟨vs,H2,I2,r2,hz,hE⟩:=hq
 exact ⟨rfl,by rw [← r2.length]; exact hz,I2.bk _ _ hC,hN.keeps I2.bk,T.keeps I2.bk,fun h' ev hm'=>th pins σ H2 s2 ev C us h' I2 hm' hE⟩
end
def MDef (K:PySem.W.Frag) (C:Addr) (m qual:Str) (st:Stmt) (ps:List Str):Prop:=∃ f fd,Fun K m qual st f fd ∧ Meth K C m f ∧ Binds K fd ps []
def MHas (P:Program) (w:World) (K:PySem.W.Frag) (mg:Str → Option Value) (base:Heap) (CX:CXT) (k:Nat) (C:Addr) (m:Str) (ps:List Str) (sp:Sp):Prop :=
 ∃ f fd,FnOk P w K mg base CX k f fd ps sp ∧ Meth K C m f ∧ Binds K fd ps []
section
variable {P:Program} {w:World} {K:PySem.W.Frag} {mg:Str → Option Value} {base:Heap}
theorem Fun.okx {x qual:Str} {st:Stmt} {f:Addr} {fd:FuncData} {N ps:List Str} {k:Nat} {sp:Sp} (F:Fun K x qual st f fd) (S:FnScope N ps (ze st)) (len:∀ vs H Q E,sp vs H Q E → vs.length = ps.length)
  (hbody:∀ (cdv:Value) (A:Around) (outer:List Env) (s:Shared) (H:Hp) (vs:List V) (Q:VK) (E:XK),Room k (A.deeper (envOfC qual (ze st) s.heap.objs.size f cdv)) → sp vs H Q E →
   ∃ t,PSs (cxOf (CX1 P w) P w K mg base N qual (ze st) f cdv A outer s H E) (z1g st) t ∧ t { nx:=fun _ H'=>Q .non H',rt:=Q } (start N vs) H):FnOk P w K mg base (CX1 P w) (k + 1) f fd ps sp:=by
 obtain ⟨oc,od,kV,doc,pm,an,cdv,ct,osl,rfl,lk,hcd⟩:=F.ex
 exact zbj lk hcd S len fun A outer s H vs Q E hr hsp=>hbody cdv A outer s H vs Q E hr hsp
theorem MDef.ok {C:Addr} {m qual:Str} {st:Stmt} {N ps:List Str} {k:Nat} {sp:Sp} (D:MDef K C m qual st ps) (S:FnScope N ps (ze st)) (len:∀ vs H Q E,sp vs H Q E → vs.length = ps.length)
  (hbody:∀ (f:Addr) (cdv:Value) (A:Around) (outer:List Env) (s:Shared) (H:Hp) (vs:List V) (Q:VK) (E:XK),Room k (A.deeper (envOfC qual (ze st) s.heap.objs.size f cdv)) → sp vs H Q E →
   ∃ t,PSs (cxOf CX0 P w K mg base N qual (ze st) f cdv A outer s H E).nox (z1g st) t ∧ t { nx:=fun _ H'=>Q .non H',rt:=Q } (start N vs) H):MHas P w K mg base CX0 (k + 1) C m ps sp:=by
 obtain ⟨f,fd,F,hm,hb⟩:=D
 exact ⟨f,fd,F.ok S len (fun cdv A outer s H vs Q E hr h=>hbody f cdv A outer s H vs Q E hr h),hm,hb⟩
theorem MDef.okx {C:Addr} {m qual:Str} {st:Stmt} {N ps:List Str} {k:Nat} {sp:Sp} (D:MDef K C m qual st ps) (S:FnScope N ps (ze st)) (len:∀ vs H Q E,sp vs H Q E → vs.length = ps.length)
  (hbody:∀ (f:Addr) (cdv:Value) (A:Around) (outer:List Env) (s:Shared) (H:Hp) (vs:List V) (Q:VK) (E:XK),Room k (A.deeper (envOfC qual (ze st) s.heap.objs.size f cdv)) → sp vs H Q E →
   ∃ t,PSs (cxOf (CX1 P w) P w K mg base N qual (ze st) f cdv A outer s H E) (z1g st) t ∧ t { nx:=fun _ H'=>Q .non H',rt:=Q } (start N vs) H):MHas P w K mg base (CX1 P w) (k + 1) C m ps sp:=by
 obtain ⟨f,fd,F,hm,hb⟩:=D
 exact ⟨f,fd,F.okx S len (fun cdv A outer s H vs Q E hr h=>hbody f cdv A outer s H vs Q E hr h),hm,hb⟩
end
section
variable {X:Cx} {k:Nat} {C:Addr} {m:Str} {ps:List Str} {sp:Sp} {o e:Expr} {es:List Expr} {ta:TE} {t:TA} {apos pos:Pos}
theorem z20 {pl:Sem Bool} (G:MHas X.prog X.w X.K X.mg X.base CX0 k C m ps sp) (c:Cls X.K C) (hr:Room k X.A) (he:PE X o ta) (ha:PA X (e :: es) t)
  (hst:starEach (e :: es) X.env = (false,eval e X.env) :: starEach es X.env:=by rfl) (hpl:(backTo pos (starEach es X.env)).any (·.1) = false:=by rfl)
  (ht:eval (.Call (.Attribute o m apos) (e :: es) [] pos) X.env = (do
   let ov ← eval o X.env
   standAt apos.atName
   let (f,first) ← holding [ov] (getMethod ov m pl)
   callWith pos f first (backTo pos (starEach (e :: es) X.env)) (backToKw pos (keywordEach [] X.env))):=by rfl) :
  PE X (.Call (.Attribute o m apos) (e :: es) [] pos) (z77 C m sp [] E0 ta t):=by
 obtain ⟨f,fd,F,hm,hb⟩:=G
 exact zdj he c hm F hr hb .nil z8k ha hst hpl ht
theorem z4n {pl:Sem Bool} (G:MHas X.prog X.w X.K X.mg X.base CX0 k C m ps sp) (c:Cls X.K C) (hr:Room k X.A) (he:PE X o ta)
  (ht:eval (.Call (.Attribute o m apos) [] [] pos) X.env = (do
   let ov ← eval o X.env
   standAt apos.atName
   let (f,first) ← holding [ov] (getMethod ov m pl)
   callWith pos f first (backTo pos (starEach [] X.env)) (backToKw pos (keywordEach [] X.env))):=by rfl) :
  PE X (.Call (.Attribute o m apos) [] [] pos) (z77 C m sp [] E0 ta tNil):=by
 obtain ⟨f,fd,F,hm,hb⟩:=G
 exact zhg he c hm F hr hb .nil z8k ht
end
def Mine (X:Cx) (pins:List (Addr × Obj)) (b:Addr):Prop:=(∃ o,X.s₀.heap.get? b = some o) ∨ b = X.env.locals ∨ (∃ y,X.env.cells.lookup y = some b) ∨ ∃ p ∈ X.pn ++ pins,p.1 = b
structure Fly (X:Cx) (pins:List (Addr × Obj)) (σ:St) (H:Hp) (s:Shared) (x C t:Addr) (B:Heap):Prop where
 inv:Inv X pins σ H s
 fly:Heap.FlyingW B X.stack x (.ref C) (.ref t) s.heap
 tr:∀ b u,H b = some u → ∃ o,B.get? b = some o
 mine:∀ b,Mine X pins b → b ∈ frs X.stack ∨ ∃ o,B.get? b = some o
def XP (X:Cx) (pins:List (Addr × Obj)) (σ:St) (Ex:XK) (ev:Value) (s':Shared):Prop:=∃ x C t B H',ev = .ref x ∧ Fly X pins σ H' s' x C t B ∧ Ex (.ref C) none H'
theorem Inv.mine {X:Cx} {pins:List (Addr × Obj)} {σ:St} {H:Hp} {s:Shared} (I:Inv X pins σ H s) (hx:X.ex = []) {b:Addr} (h:Mine X pins b):∃ o,s.heap.get? b = some o:=by
 rcases h with ⟨o,h⟩ | h | ⟨y,h⟩ | ⟨p,hp,h⟩
 ·exact I.base.there b o h (by rw [hx]; simp)
 ·obtain ⟨m,⟨o,_,_,e,_⟩,_⟩:=I.loc
  exact ⟨o,by rw [h]; exact e⟩
 ·obtain ⟨v,o,e,_⟩:=I.cell y b h
  exact ⟨o,e⟩
 ·exact ⟨_,by rw [← h]; exact (I.pin p hp).1⟩
theorem zk2 {X:Cx} {pins:List (Addr × Obj)} {σ:St} {H:Hp} {s s':Shared} {E:XK} {ev:Value} (hx:X.ex = []) (I:Inv X pins σ H s) (q:CX1 X.prog X.w X.stack H s E ev s'):XP X pins σ E ev s':=by
 obtain ⟨x,C,t,B,H',rfl,os,bare,un,hok,fl,tr,old,hE⟩:=q
 refine ⟨x,C,t,B,H',rfl,⟨I.call' (ch:=[]) os un hok bare (fun b z=>absurd z (by simp)),fl,tr,fun b hb=>?_⟩,hE⟩
 obtain ⟨o,e⟩:=I.mine hx hb
 by_cases hf:b ∈ frs X.stack
 ·exact .inl hf
 ·exact .inr (old b o e hf)
theorem Fly.on {X:Cx} {pins:List (Addr × Obj)} {σ:St} {H:Hp} {s:Shared} {x C t:Addr} {B:Heap} {h':Heap} (F:Fly X pins σ H s x C t B) (fl:Heap.FlyingW B X.stack x (.ref C) (.ref t) h') (up:s.heap.UpToSlots h'):Fly X pins σ H { s with heap:=h' } x C t B:=by
 have I:=F.inv
 refine ⟨?_,fl,F.tr,F.mine⟩
 have slotF:∀ b o,b ∈ frs X.stack → s.heap.get? b = some o → ∃ sl,h'.get? b = some { o with slots:=sl }:=fun b o hb q=>by
  obtain ⟨_,o2,e2,d2⟩:=I.stack.mem hb
  rw [q] at e2
  cases e2
  exact up b _ q d2
 have at':∀ b o,Mine X pins b → b ∉ frs X.stack → s.heap.get? b = some o → h'.get? b = some o:=fun b o hm hb q=>by
  rcases F.mine b hm with z | ⟨ob,z⟩
  ·exact absurd z hb
  ·have:=F.fly.1 b ob z
   rw [q] at this
   cases this
   exact fl.1 b o z
 have any':∀ b o,Mine X pins b → s.heap.get? b = some o → ∃ sl,h'.get? b = some { o with slots:=sl }:=fun b o hm q=>by
  by_cases hb:b ∈ frs X.stack
  ·exact slotF b o hb q
  ·exact ⟨o.slots,at' b o hm hb q⟩
 have cellK:∀ y c,X.env.cells.lookup y = some c → ∀ v,s.heap.IsCell c v → h'.IsCell c v:=fun y c e v ⟨o,ho,hd⟩=>by
  obtain ⟨sl,q⟩:=any' c o (.inr (.inr (.inl ⟨y,e⟩))) ho
  exact ⟨_,q,hd⟩
 refine ⟨I.ok,I.os,I.bare,⟨fun b o e n hb hx=>?_,fun b o e n hb hx=>?_,I.base.free,fun b o e hx=>?_,I.base.tups,I.base.frzs,I.base.tbls⟩,?_,fun y c e=>?_,I.free,I.freeC,fun p hp=>?_,z9n F.fly.1 fl.1 F.tr I.hok,I.len⟩
 ·have q:=I.base.keep b o e n hb hx
  by_cases hf:b ∈ frs X.stack
  ·rcases List.mem_cons.mp (I.stkSub b hf) with z | z
   ·exact absurd (Nat.lt_of_lt_of_le (Heap.lt_size e) I.ok.above) (by rw [z]; exact Nat.lt_irrefl _)
   ·exact absurd z hb
  ·exact at' b o (.inl ⟨o,e⟩) hf q
 ·obtain ⟨sl,q⟩:=I.base.slot b o e n hb hx
  obtain ⟨sl',q'⟩:=any' b _ (.inl ⟨o,e⟩) q
  exact ⟨sl',q'⟩
 ·obtain ⟨o',q⟩:=I.base.there b o e hx
  obtain ⟨sl',q'⟩:=any' b _ (.inl ⟨o,e⟩) q
  exact ⟨_,q'⟩
 ·obtain ⟨m,⟨o,es,ep,ho,r⟩,hl⟩:=I.loc
  obtain ⟨sl,q⟩:=any' _ o (.inr (.inl rfl)) ho
  refine ⟨m,⟨_,es,ep,q,r⟩,fun i y v e1 e2 e3=>?_⟩
  obtain ⟨u,ru,l⟩:=hl i y v e1 e2 e3
  refine ⟨u,ru,?_⟩
  rcases l with l | ⟨k,c,e,z⟩
  ·exact .inl l
  ·exact .inr ⟨k,c,e,cellK y c e _ z⟩
 ·obtain ⟨v,z⟩:=I.cell y c e
  exact ⟨v,cellK y c e v z⟩
 ·obtain ⟨e,n,ne,nf,d⟩:=I.pin p hp
  refine ⟨?_,n,ne,nf,d⟩
  by_cases hf:p.1 ∈ frs X.stack
  ·rcases List.mem_cons.mp (I.stkSub p.1 hf) with z | z
   ·exact absurd z ne
   ·exact absurd z nf
  ·exact at' p.1 p.2 (.inr (.inr (.inr ⟨p,hp,rfl⟩))) hf e
end L2
end
section
namespace L2
open PySem PySem.Spec PyProof.Rows
abbrev TEX:=St → Hp → VK → XK → Prop
def PEX (X:Cx) (e:Expr) (t:TEX):Prop :=
 ∀ (pins:List (Addr × Obj)) (s:Shared) (σ:St) (H:Hp) (Q:VK) (Ex:XK),Inv X pins σ H s → t σ H Q Ex → wpAny (model X.prog X.w) X.A (eval e X.env) (EP X pins σ Q) (XP X pins σ Ex) s
abbrev TSX:=Ends → XK → St → Hp → Prop
def PSX (X:Cx) (st:Stmt) (t:TSX):Prop :=
 ∀ (pins:List (Addr × Obj)) (s:Shared) (σ:St) (H:Hp) (D:Ends) (Ex:XK),Inv X pins σ H s → t D Ex σ H → wpAny (model X.prog X.w) X.A (exec st X.env) (SP X pins D) (XP X pins σ Ex) s
section
variable {X:Cx} {k:Nat} {C:Addr} {m:Str} {ps:List Str} {sp:Sp} {o e:Expr} {es:List Expr} {ta:TE} {t:TA} {tx:TEX} {apos pos:Pos}
theorem zk3 {pins:List (Addr × Obj)} {σ:St} {H:Hp} {s:Shared} {Q:VK} {Ex:XK} {us:List Value} {vs:List V} {f:Addr} {fd:FuncData} (hx:X.ex = []) (F:FnOk X.prog X.w X.K X.mg X.base (CX1 X.prog X.w) k f fd ps sp) (hr:Room k X.A) (hb:Binds X.K fd ps [])
  (I:Inv X pins σ H s) (r:Vals vs us) (h:sp vs H Q Ex):wpAny (model X.prog X.w) X.A (call (.ref f) us) (EP X pins σ Q) (XP X pins σ Ex) s:=by
 have hl:(us ++ []).length = ps.length:=by rw [List.append_nil,← r.length]; exact F.len _ _ _ _ h
 have hB:=hb s us I.kIn hl
 rw [List.append_nil] at hB
 refine wpAny_call (codeAny_mono (F.run X.A X.stack s H ⟨us,[]⟩ us vs Q Ex hr I.env0 hB r h) fun res s' hq=>?_)
 cases res with
 | error e=>exact zk2 hx I hq
 | ok fl =>
  cases fl with
  | ret u=>exact I.after hq
  | next=>exact hq.elim
  | brk=>exact hq.elim
  | cont=>exact hq.elim
def zfy (C:Addr) (m:Str) (sp:Sp) (ta:TE) (t:TA):TEX:=fun σ H Q Ex=>ta σ H fun x H1=>∃ a dx fs,x = .ref a ∧ H1 a = some (.ins C dx fs) ∧ fs.lookup m = none ∧ t σ H1 fun vs H2=>sp (x :: vs) H2 Q Ex
theorem zk4 {pl:Sem Bool} (G:MHas X.prog X.w X.K X.mg X.base (CX1 X.prog X.w) k C m ps sp) (c:Cls X.K C) (hr:Room k X.A) (he:PE X.nox o ta) (ha:PA X.nox (e :: es) t) (hx:X.ex = []:=by rfl)
  (hst:starEach (e :: es) X.env = (false,eval e X.env) :: starEach es X.env:=by rfl) (hpl:(backTo pos (starEach es X.env)).any (·.1) = false:=by rfl)
  (ht:eval (.Call (.Attribute o m apos) (e :: es) [] pos) X.env = (do
   let ov ← eval o X.env
   standAt apos.atName
   let (f,first) ← holding [ov] (getMethod ov m pl)
   callWith pos f first (backTo pos (starEach (e :: es) X.env)) (backToKw pos (keywordEach [] X.env))):=by rfl) :
  PEX X (.Call (.Attribute o m apos) (e :: es) [] pos) (zfy C m sp ta t):=by
 obtain ⟨f,fd,F,hm,hb⟩:=G
 intro pins s σ H Q Ex I h
 refine PySem.W.methodCall_KW (pl:=pl) (wpAny_mono (he pins s σ H _ (I.wish _) h) (fun u s1 hq=>?_) fun _ _ z=>z.elim) ht
 obtain ⟨x,H1,I1,rx,a,dx,fs,ex,ea,l,q⟩:=hq
 have I1:=I1.unwish
 subst ex
 obtain rfl:u = Value.ref a:=rx
 refine z5u I1 ea c hm l ?_
 refine PySem.W.callWith_K (first:=[.ref a]) (h₀:=X.base) I.ok.mod.kin hm.kp (wpAny_mono (ha pos pins s1 σ H1 _ (I1.wish _) q) (fun us s2 hq2=>?_) fun _ _ z=>z.elim) hst hpl
 obtain ⟨vs,H2,I2,r,q2⟩:=hq2
 have I2:=I2.unwish
 exact ⟨I2.kIn,zk3 (us:=.ref a :: us) (vs:=.ref a :: vs) hx F hr hb I2 (.cons rfl r) q2⟩
theorem zj5 (h:PEX X e tx):PSX X (.Return (some e) pos) (fun D Ex σ H=>tx σ H D.rt Ex):=by
 intro pins s σ H D Ex I hw
 refine wpAny_Return_some (wpAny_mono (h pins s σ H _ Ex I hw) (fun v s1 hq=>?_) fun _ _ z=>z)
 obtain ⟨x,H1,I1,r1,q1⟩:=hq
 exact ⟨x,σ,H1,I1,r1,q1⟩
end
abbrev z6o (X:Cx) (ev:Value):Cx:={ X with A:=X.A.mark (some ev),calm:=false,xe:=fun _ _=>False }
theorem Inv.mark {X:Cx} {pins:List (Addr × Obj)} {σ:St} {H:Hp} {s:Shared} (I:Inv X pins σ H s) (ev:Value):Inv (z6o X ev) pins σ H s :=
 ⟨⟨I.ok.mod,I.ok.kind,I.ok.glob,I.ok.blt,I.ok.above,I.ok.inj,I.ok.has,I.ok.cab,fun z=>absurd z Bool.false_ne_true,I.ok.frames,I.ok.stk,I.ok.exf,I.ok.bs,I.ok.bsz,I.ok.noex,I.ok.exfs,I.ok.funs,I.ok.frf⟩,I.os,I.bare,I.base,I.loc,I.cell,I.free,I.freeC,I.pin,I.hok,I.len⟩
theorem Inv.unmark {X:Cx} {ev:Value} {pins:List (Addr × Obj)} {σ:St} {H:Hp} {s:Shared} (ok:X.Ok) (I:Inv (z6o X ev) pins σ H s):Inv X pins σ H s :=
 ⟨ok,I.os,I.bare,I.base,I.loc,I.cell,I.free,I.freeC,I.pin,I.hok,I.len⟩
theorem SP.unmark {X:Cx} {ev:Value} {pins:List (Addr × Obj)} {D:Ends} {f:Flow} {s':Shared} (ok:X.Ok) (h:SP (z6o X ev) pins D f s'):SP X pins D f s':=by
 cases f with
 | next=>obtain ⟨σ',H',I,q⟩:=h; exact ⟨σ',H',I.unmark ok,q⟩
 | brk=>obtain ⟨σ',H',I,q⟩:=h; exact ⟨σ',H',I.unmark ok,q⟩
 | cont=>obtain ⟨σ',H',I,q⟩:=h; exact ⟨σ',H',I.unmark ok,q⟩
 | ret u=>obtain ⟨v,σ',H',I,r,q⟩:=h; exact ⟨v,σ',H',I.unmark ok,r,q⟩
theorem zfz {K:PySem.W.Frag} {prog:Program} {w:World} {A:Around} {E:Value → Shared → Prop} {s:Shared} {x C D:Addr} {oe:Obj} {b:Bool} {bmB:List Value} {nid:String} {Q:Bool → Shared → Prop} (kx:K.In s.heap) (he:s.heap.get? x = some oe) (hc:oe.cls = .ref C)
  (exD:PySem.W.excIn K D bmB nid = true) (hb:bmB.contains (.type "BaseException") = true) (sb:PySem.W.subIn K (.ref C) (.ref D) = some b) (hq:Q b s):wpAny (model prog w) A (excMatches (.ref x) (.ref D)) Q E s:=by
 obtain ⟨bm,N,nm,qn,bs,hd,sn,sub,ab,col,dd,k0,k1,k2,k3,k5,mN,hD,hN,hni,T⟩:=zdm kx exD
 have lk:=PySem.W.looks_subIn (M:=model prog w) kx sb
 obtain ⟨hp,g,d,tk,os⟩:=s
 have inB:(Value.ref D :: bm).contains (.type "BaseException") = true:=by rw [List.contains_cons,T.hasType hb,Bool.or_true]
 have nt:=tc_notTuple
 have fin:wpAny (model prog w) A (isSubtype (.ref C) (.ref D)) (fun r s'=>Q r s') E ⟨hp,g,d,tk,os⟩:=lk A _ _ _ (fun _ _ z=>z) hq
 unfold excMatches
 repeat (first
  | (with_reducible refine wpAny_loadPart_at he ?_; rw [hc])
  | with_reducible refine wpAny_loadPart_at hD ?_
  | (with_reducible refine wpAny_isSubtype_exc hD ?_; rw [inB])
  | wp_step)
 refine lk _ _ _ _ (fun _ _ z=>z) ?_
 cases b <;> (wp_walk; exact hq)
abbrev TH:=Value → Ends → St → Hp → Prop
def PH (X:Cx) (hs:List ExceptHandler) (th:TH):Prop :=
 ∀ (pins:List (Addr × Obj)) (s:Shared) (σ:St) (H:Hp) (D:Ends) (x C t:Addr) (B:Heap),Fly X pins σ H s x C t B → th (.ref C) D σ H → wpAny (model X.prog X.w) X.A (handleBy (.ref x) X.env hs) (SP X pins D) X.xe s
def zg0:TH:=fun _ _ _ _=>False
theorem zk5 {X:Cx}:PH X [] zg0:=fun _ _ _ _ _ _ _ _ _ _ h=>h.elim
def zih (K:PySem.W.Frag) (D:Addr) (tb:TS) (th:TH):TH:=fun cls En σ H=>∃ b,PySem.W.subIn K cls (.ref D) = some b ∧ if b = true then tb En σ H else th cls En σ H
theorem zj6 {X:Cx} {cn:Str} {D:Addr} {b0:Stmt} {suite:List Stmt} {rest:List ExceptHandler} {np hpos:Pos} {tb:TS} {th:TH} {bmB:List Value} {nid:String} (hg:Gl X cn) (hm:X.mg cn = some (.ref D)) (ex:PySem.W.excIn X.K D bmB nid = true) (hb:bmB.contains (.type "BaseException") = true)
  (hs:∀ ev,PSs (z6o X ev) (b0 :: suite) tb) (hr:PH X rest th) (hdb:(cn == ("__debug__" : Str)) = false:=by decide):PH X (.ExceptHandler (some (.Name cn np)) none (b0 :: suite) hpos :: rest) (zih X.K D tb th):=by
 intro pins s σ H En x C t B F h
 obtain ⟨b,sb,h⟩:=h
 have I:=F.inv
 obtain ⟨oe,hoe,hcl⟩:=F.fly.there
 refine wpAny_handleBy_cons (codeAny_handlers_test (z5j (X:=z6o X (.ref x)) (I.mark _) hg hm ?_ hdb)) (by intro q; cases q)
 refine zfz I.kIn hoe hcl ex hb sb ?_
 cases b with
 | false=>exact hr pins s σ H En x C t B F h
 | true =>
  refine codeAny_handlers_suite (lands_againW F.fly fun h2 fl2 up2=>?_)
  have F2:=F.on fl2 up2
  refine wpAny_mono (hs (.ref x) pins _ σ H En (F2.inv.mark _) h) (fun f s3 q=>?_) fun _ _ z=>z.elim
  exact q.unmark I.ok
def tTry (t:TSX) (th:TH):TS:=fun D σ H=>t D (fun cls _ H'=>th cls D σ H') σ H
theorem zk6 {X:Cx} {st:Stmt} {h0:ExceptHandler} {hs:List ExceptHandler} {pos:Pos} {t:TSX} {th:TH} (hb:PSX X st t) (hh:PH X (h0 :: hs) th) (s1:X.stack = X.env :: X.outer:=by rfl) (s2:X.env.frame = some X.env.locals:=by rfl) :
  PS X (.Try [st] (h0 :: hs) [] [] pos) (tTry t th):=by
 intro pins s σ H D I h
 refine wpAny_Try_except (wpAny_execs_cons (wpAny_mono (hb pins s σ H D _ I h) (fun f s3 q=>?_) fun ev s3 q=>?_))
 ·cases f with
  | next=>exact wpAny_execs_nil (wpAny_execs_nil q)
  | ret v=>exact q
  | brk=>exact q
  | cont=>exact q
 ·obtain ⟨x,C,t',B,H',rfl,F,hx⟩:=q
  have fl:=F.fly
  rw [s1] at fl
  refine wpAny_looks_onW (by rw [← s1]; exact I.ok.frames) s2 fl fun h4 held up4=>?_
  refine wpAny_landsW held fun h5 fl5 up5=>?_
  rw [← s1] at fl5
  exact hh pins _ σ H' D x C t' B (F.on fl5 (up4.trans up5)) hx
end L2
end
section
namespace L2
open PySem PySem.Spec PyProof.Rows
section
variable {X:Cx}
theorem z8p:OpR X (binaryOp .Mult) (fun x y H Q=>∃ z n,x = .str z ∧ y = .int n ∧ MulOk z n ∧ Q (.str (Txt.mul z n)) H):=by
 intro pins s σ H x y v u Q I rx ry h
 obtain ⟨z,n,rfl,rfl,hok,q⟩:=h
 obtain ⟨t,rfl⟩:=rx
 obtain ⟨t',rfl⟩:=ry
 exact SB.mul hok fun t2 k=>⟨.str _,H,I.tok _,⟨_,rfl⟩,q⟩
theorem zhk:MtR X "str.count" (fun x vs H Q=>∃ z y,x = .str z ∧ vs = [.str y] ∧ Q (.int (Txt.count z y)) H):=by
 intro pins s σ H x vs v us Q I rx rv h
 obtain ⟨z,y,rfl,rfl,q⟩:=h
 obtain ⟨t,rfl⟩:=rx
 obtain ⟨u,rfl,t',rfl⟩:=rv.one
 exact SC.count ⟨.int _,H,I.tok _,⟨_,rfl⟩,q⟩
theorem zbw (hu:X.A.units < cLine):OpR X (compareOp .Eq) (fun x y H Q=>∃ p q xs,x = .ref p ∧ y = .ref q ∧ SqL X.K H p xs ∧ SqL X.K H q [] ∧ Q (.bl xs.isEmpty) H):=by
 intro pins s σ H x y v u Q I rx ry h
 obtain ⟨p,q,xs,rfl,rfl,hp,hq,hQ⟩:=h
 cases rx
 cases ry
 obtain ⟨us,r1,p1,_⟩:=I.list hp
 obtain ⟨ws,r2,p2,_⟩:=I.list hq
 have l1:=r1.length
 cases r2
 cases xs with
 | nil =>
  cases r1
  exact SeqAt.eq_listAt (e:=fun _=>true) p1.isList p2.isList rfl hu (fun j h1 h2=>absurd h1 (Nat.not_lt_zero _)) (z11 I hQ rfl)
 | cons a xs=>exact SeqAt.eq_list_lengthsAt p1.isList p2.isList (by simp only [List.size_toArray,bne_iff_ne]; rw [← l1]; simp) hu (z11 I hQ rfl)
theorem zeh {A:Around} {E:Value → Shared → Prop} {Q:Value → Shared → Prop} {pins:List (Addr × Obj)} {σ:St} {H:Hp} {s:Shared} {x:V} {u t:Value} {tp:Addr} {its:List Value} {b:Bool} (I:Inv X pins σ H s) (rx:RelV x u) (ty:TyOf X.K H x t) (ht:IsTup s.heap tp its.toArray)
  (e:PySem.W.kitAny X.K t its = some b) (h:∀ tk,Q (.bool b) { s with toks:=tk }):wpAny (model X.prog X.w) A (call (.builtin "isinstance") [u,.ref tp]) Q E s:=by
 obtain ⟨⟨c0,dd,dt,sl⟩,e0,hc0,n0,hd0⟩:=ht
 simp only at hc0 hd0
 subst hc0 hd0
 cases ty with
 | non=>cases (show u = Value.none from rx); exact PySem.W.kia_tup PySem.W.kitx_none I.kIn True.intro e0 e (fun z=>nomatch z) h
 | bl y=>cases (show u = Value.bool y from rx); exact PySem.W.kia_tup PySem.W.kitx_bool I.kIn True.intro e0 e (fun z=>nomatch z) h
 | int i=>obtain ⟨t,q⟩:=(show ∃ t,u = Value.int i t from rx); cases q; exact PySem.W.kia_tup PySem.W.kitx_int I.kIn True.intro e0 e (fun z=>nomatch z) h
 | str y=>obtain ⟨t,q⟩:=(show ∃ t,u = Value.str y t from rx); cases q; exact PySem.W.kia_tup PySem.W.kitx_str I.kIn True.intro e0 e (fun z=>nomatch z) h
 | flt y=>obtain ⟨t,q⟩:=(show ∃ t,u = Value.float y t from rx); cases q; exact PySem.W.kia_tup PySem.W.kitx_float I.kIn True.intro e0 e (fun z=>nomatch z) h
 | @lst a xs ea =>
  cases (show u = Value.ref a from rx)
  obtain ⟨_,_,n,_,h1⟩:=(show ObjOk X.prog X.w H s.heap a (.lst xs) from I.hok a _ ea)
  exact PySem.W.kia_tup PySem.W.kitx_list I.kIn ⟨_,h1,rfl⟩ e0 e (fun z=>nomatch z) h
 | @tup a xs ea =>
  cases (show u = Value.ref a from rx)
  obtain ⟨_,_,_,p⟩:=(show ObjOk X.prog X.w H s.heap a (.tup xs) from I.hok a _ ea)
  obtain ⟨o,h1,h2,_⟩:=p
  exact PySem.W.kia_tup PySem.W.kitx_tuple I.kIn ⟨o,h1,h2⟩ e0 e (fun z=>nomatch z) h
 | @frz a ob xs ea =>
  cases (show u = Value.ref a from rx)
  obtain ⟨_,_,_,n,_,h1⟩:=(show ObjOk X.prog X.w H s.heap a (.frz ob (.lst xs)) from I.hok a _ ea)
  exact PySem.W.kia_tup PySem.W.kitx_list I.kIn ⟨_,h1,rfl⟩ e0 e (fun z=>nomatch z) h
 | @dK a kvs ea =>
  cases (show u = Value.ref a from rx)
  obtain ⟨_,_,vs,_,p⟩:=(show ObjOk X.prog X.w H s.heap a (.dK kvs) from I.hok a _ ea)
  obtain ⟨o,es,ep,h1,h2,_⟩:=p
  exact PySem.W.kia_tup PySem.W.kitx_dict I.kIn ⟨o,h1,h2.1⟩ e0 e (fun z=>nomatch z) h
 | @dT a kvs ea =>
  cases (show u = Value.ref a from rx)
  obtain ⟨_,_,xs,_,o,es,ep,h1,h2,_⟩:=(show ObjOk X.prog X.w H s.heap a (.dT kvs) from I.hok a _ ea)
  exact PySem.W.kia_tup PySem.W.kitx_dict I.kIn ⟨o,h1,h2.1⟩ e0 e (fun z=>nomatch z) h
 | @ins a C dx fs ea cl ha hn htk hm =>
  cases (show u = Value.ref a from rx)
  obtain ⟨mA,O,_⟩:=z5m I.hok ea
  obtain ⟨od,J,_⟩:=O.look
  exact PySem.W.kia_tup (PySem.W.kitx_own (cl.get _) cl.hd ha hn htk hm) I.kIn J e0 e (fun z=>nomatch z) h
theorem z6p:CallR X (.builtin "isinstance") (fun xs H Q=>∃ x p c d t b,xs = [x,.ref p] ∧ SqT X.K H p [.ty c,.ty d] ∧ TyOf X.K H x t ∧ PySem.W.kitAny X.K t [.type c,.type d] = some b ∧ Q (.bl b) H):=by
 intro pins s σ H xs us Q I r h
 obtain ⟨x,p,c,d,t,b,rfl,hp,ty,e,q⟩:=h
 obtain ⟨u,w',rfl,r1,r2⟩:=ze5 r
 cases r2
 obtain ⟨its,rv,pl,_⟩:=I.tuple hp
 obtain ⟨u1,u2,rfl,q1,q2⟩:=rv.two
 cases q1
 cases q2
 exact zeh I r1 ty pl e fun tk=>⟨.bl b,H,I.tok _,rfl,q⟩
def KHas (P:Program) (w:World) (K:PySem.W.Frag) (mg:Str → Option Value) (base:Heap) (k:Nat) (C:Addr) (ps:List Str) (sp:Sp):Prop :=
 ∃ f fd,FnOk P w K mg base CX0 k f fd ps sp ∧ Mk K C f ∧ Binds K fd ps []
theorem zj7 {k:Nat} {C:Addr} {x:Str} {ps:List Str} {sp:Sp} {p pos:Pos} (G:KHas X.prog X.w X.K X.mg X.base k C ps sp) (hr:Room (k + 1) X.A) (hg:Gl X x) (hm:X.mg x = some (.ref C)) (hdb:(x == ("__debug__" : Str)) = false:=by decide):PE X (.Call (.Name x p) [] [] pos) (z8i C sp [] E0 tNil):=by
 obtain ⟨f,fd,F,M,hb⟩:=G
 exact zhh M F hr hg hm hb .nil z8k hdb
end
def KDef (K:PySem.W.Frag) (C:Addr) (qual:Str) (st:Stmt) (ps:List Str):Prop:=∃ f fd,Fun K "__init__" qual st f fd ∧ Mk K C f ∧ Binds K fd ps []
theorem KDef.ok {P:Program} {w:World} {K:PySem.W.Frag} {mg:Str → Option Value} {base:Heap} {C:Addr} {qual:Str} {st:Stmt} {N ps:List Str} {k:Nat} {sp:Sp} (D:KDef K C qual st ps) (S:FnScope N ps (ze st)) (len:∀ vs H Q E,sp vs H Q E → vs.length = ps.length)
  (hbody:∀ (f:Addr) (cdv:Value) (A:Around) (outer:List Env) (s:Shared) (H:Hp) (vs:List V) (Q:VK) (E:XK),Room k (A.deeper (envOfC qual (ze st) s.heap.objs.size f cdv)) → sp vs H Q E →
   ∃ t,PSs (cxOf CX0 P w K mg base N qual (ze st) f cdv A outer s H E).nox (z1g st) t ∧ t { nx:=fun _ H'=>Q .non H',rt:=Q } (start N vs) H):KHas P w K mg base (k + 1) C ps sp:=by
 obtain ⟨f,fd,F,hm,hb⟩:=D
 exact ⟨f,fd,F.ok S len (fun cdv A outer s H vs Q E hr h=>hbody f cdv A outer s H vs Q E hr h),hm,hb⟩
def zdn:Sp:=fun _ _ _ _=>False
theorem zg1 {P:Program} {w:World} {K:PySem.W.Frag} {mg:Str → Option Value} {base:Heap} {x:Str} {st:Stmt} {ps:List Str} {k:Nat} (D:Def K mg x st ps):Has P w K mg base k x ps zdn:=by
 obtain ⟨f,fd,F,hm,hb⟩:=D
 refine ⟨f,fd,⟨fun _ _ _ _ h=>h.elim,fun _ _ _ _ _ _ _ _ _ _ _ _ _ h=>h.elim⟩,hm,F.kp,hb,?_⟩
 obtain ⟨oc,od,kV,doc,pm,an,cdv,ct,osl,rfl,lk,hcd⟩:=F.ex
 exact ⟨oc,od,osl,lk⟩
theorem z6c (K:PySem.W.Frag):PySem.W.kitOne K (.type "list") (.type "list") = some true:=by with_unfolding_all rfl
theorem z1d (K:PySem.W.Frag):PySem.W.kitOne K (.type "int") (.type "int") = some true ∧ PySem.W.kitOne K (.type "bool") (.type "int") = some true ∧ PySem.W.kitOne K (.type "str") (.type "int") = some false ∧ PySem.W.kitOne K (.type "str") (.type "str") = some true ∧ PySem.W.kitOne K (.type "int") (.type "str") = some false ∧
  PySem.W.kitOne K (.type "str") (.type "bool") = some false ∧ PySem.W.kitOne K (.type "tuple") (.type "tuple") = some true ∧ PySem.W.kitOne K (.type "tuple") (.type "list") = some false ∧ PySem.W.kitOne K (.type "list") (.type "tuple") = some false:=by
 refine ⟨?_,?_,?_,?_,?_,?_,?_,?_,?_⟩ <;> with_unfolding_all rfl
theorem z3g (K:PySem.W.Frag):PySem.W.kitAny K (.type "int") [.type "list",.type "tuple"] = some false ∧ PySem.W.kitAny K (.type "bool") [.type "list",.type "tuple"] = some false ∧ PySem.W.kitAny K (.type "str") [.type "list",.type "tuple"] = some false ∧
  PySem.W.kitAny K (.type "list") [.type "list",.type "tuple"] = some true ∧ PySem.W.kitAny K (.type "tuple") [.type "list",.type "tuple"] = some true:=by
 refine ⟨?_,?_,?_,?_,?_⟩ <;> with_unfolding_all rfl
theorem Has.or {P:Program} {w:World} {K:PySem.W.Frag} {mg:Str → Option Value} {base:Heap} {k k' n:Nat} {x:Str} {ps:List Str} {sp sp':Sp} (G:Has P w K mg base k x ps sp) (G':Has P w K mg base k' x ps sp') (h1:k ≤ n) (h2:k' ≤ n):Has P w K mg base n x ps (fun vs H Q E=>sp vs H Q E ∨ sp' vs H Q E):=by
 obtain ⟨f,fd,F,hm,hk,hb,oc,od,osl,lk⟩:=G
 obtain ⟨f',fd',F',hm',hk',hb',oc',od',osl',lk'⟩:=G'
 have e:=hm.symm.trans hm'
 cases e
 rw [lk] at lk'
 have e2:=Option.some.inj lk'
 injection e2 with _ _ e3 _
 injection e3 with e4
 subst e4
 refine ⟨f,fd,⟨fun vs H Q E h=>h.elim (F.len vs H Q E) (F'.len vs H Q E),fun A outer s H args us vs Q E hr he hB hv hs=>?_⟩,hm,hk,hb,oc,od,osl,lk⟩
 rcases hs with hs | hs
 ·exact (F.mono h1).run A outer s H args us vs Q E hr he hB hv hs
 ·exact (F'.mono h2).run A outer s H args us vs Q E hr he hB hv hs
section
variable {X:Cx} {K:PySem.W.Frag}
theorem z1y (h:X.K = K:=by rfl):IxR X (rIxT K):=h ▸ ix_tup
theorem zaq (h:X.K = K:=by rfl):IxR X (rIxL K):=h ▸ ix_list
theorem z3u (h:X.K = K:=by rfl):IxR X (rIx K):=h ▸ zjx
theorem zhl (hu:X.A.units < cLine) (h:X.K = K:=by rfl):OpR X (compareOp .NotEq) (rEqT K true):=h ▸ zjz hu
theorem zbx {e:Expr} {ta:TE} {f:Str} {pos:Pos} (he:PE X e ta) (hb:attributeBase e f X.env (eval e X.env) = eval e X.env) (h:X.K = K:=by rfl):PE X (.Attribute e f pos) (tFld K ta f):=h ▸ z2b he hb
end
end L2
end
section
namespace L2
open PySem PySem.Spec PyProof.Rows
end L2
namespace L2
open PySem PySem.Spec PyProof.Rows
section
variable (P:Program) (w:World)
end
section
variable {P:Program} {w:World} {H H':Hp} {h h':Heap} {a:Addr} {o:HO}
end
section
variable {P:Program} {w:World} {H:Hp} {h h':Heap} {x e:Addr} {o':HO}
end
section
variable {fs fs' ex ex':List Addr} {H H1 H2:Hp} {h h1 h2 h':Heap} {a x e:Addr} {o:HO}
end
end L2
namespace L2
open PySem PySem.Spec PyProof.Rows
section
variable {X:Cx} {pins:List (Addr × Obj)} {σ:List (Option V)} {H H':Hp} {s:Shared} {h':Heap}
end
end L2
namespace L2
open PySem PySem.Spec PyProof.Rows
section
variable {X:Cx}
variable {a b:Expr} {ta tb:TE} {pos:Pos}
variable {tA tB':TT} {rest:List Expr}
end
end L2
namespace L2
open PySem PySem.Spec PyProof.Rows
section
variable {X:Cx} {pins:List (Addr × Obj)} {σ:St} {H:Hp} {s:Shared} {a:Addr} {xs ys:List V}
end
section
variable {X:Cx} {pins:List (Addr × Obj)} {σ:St} {H:Hp} {s:Shared} {E:Value → Shared → Prop}
end
section
variable {X:Cx} {st:Stmt} {rest:List Stmt} {t u:TS} {e:Expr} {te:TE} {pos:Pos}
end
section
variable {X:Cx} {pos:Pos}
end
section
variable {X:Cx} {pos:Pos}
end
end L2
namespace L2
open PySem PySem.Spec PyProof.Rows
section
variable {X:Cx} {tg:Expr}
end
end L2
namespace L2
open PySem PySem.Spec PyProof.Rows
section
variable {X:Cx} {a b c:Expr} {ta tb tc:TE} {pos:Pos}
end
section
variable {X:Cx} {a b c:Expr} {ta tb tc:TE} {pos:Pos}
end
end L2
namespace L2
open PySem PySem.Spec PyProof.Rows
section
variable {prog:Program} {w:World} {A:Around} {E:Value → Shared → Prop} {s:Shared} {K:PySem.W.Frag} {x dx C f:Addr} {mA:Str → Option Value} {name:Str} {v:Value}
end
section
variable {P:Program} {w:World} {H H':Hp} {h h':Heap} {a C dx:Addr} {fs fs':List (Str × V)}
end
section
variable {X:Cx} {pins:List (Addr × Obj)} {σ:St} {H:Hp} {s:Shared} {a C dx:Addr} {fs:List (Str × V)} {f:Str} {v:V} {A:Around} {E:Value → Shared → Prop}
end
section
variable {X:Cx} {o e value:Expr} {f:Str} {pos pos' tpos:Pos} {ta tv:TE}
end
section
variable {X:Cx} {pins:List (Addr × Obj)} {σ:St} {H:Hp} {s:Shared} {A:Around} {E:Value → Shared → Prop} {Q:Value → Shared → Prop} {c:Value} {b:Bool}
end
end L2
namespace L2
open PySem PySem.Spec PyProof.Rows
section
variable {X:Cx} {e:Expr} {es:List Expr} {te:TE} {t:TA} {pos:Pos}
end
section
variable {X:Cx} {pins:List (Addr × Obj)} {σ:St} {H:Hp} {s s':Shared}
end
section
variable {X:Cx} {CX:CXT} {k:Nat} {f C:Addr} {fd:FuncData} {ps:List Str} {sp:Sp} {dvs:List V} {ds:List Value} {E:XK} {x m:Str} {p pos apos:Pos} {e o:Expr} {es:List Expr} {ta:TE} {t:TA}
end
section
variable {X:Cx} {CX:CXT} {k:Nat} {f C:Addr} {fd:FuncData} {ps ks:List Str} {sp:Sp} {E:XK} {x m:Str} {p pos apos kpos:Pos} {e o:Expr} {es:List Expr} {kws:List Keyword} {te ta:TE} {t tk:TA} {nm:Option Str}
variable {g:List Value → List Value → List Value} {gV:List V → List V → List V}
end
end L2
namespace L2
open PySem PySem.Spec PyProof.Rows
section
variable {X:Cx} {x:Str} {p pos:Pos} {e:Expr} {es:List Expr} {t:TA} {id T:String} {r:List V → Hp → VK → Prop}
end
end L2
namespace L2
open PySem PySem.Spec PyProof.Rows
section
variable {κ:Type} [DecidableEq κ]
def valV (kvs:List (κ × V)) (k:κ):Option V:=(kvs.find? fun kv=>decide (kv.1 = k)).map (·.2)
def putK (kvs:List (κ × V)) (k:κ) (v:V):List (κ × V) :=
 if (kvs.any fun kv=>decide (kv.1 = k)) = true then kvs.map (fun kv=>if kv.1 = k then (kv.1,v) else kv) else kvs ++ [(k,v)]
def zii (kvs:List (κ × V)) (k:κ):List (κ × V):=kvs.filter fun kv=>decide (kv.1 ≠ k)
theorem z26 {p:κ × V} {r:List (κ × V)} {k:κ} (e:p.1 = k):valV (p :: r) k = some p.2:=by simp [valV,List.find?_cons,e]
theorem z27 {p:κ × V} {r:List (κ × V)} {k:κ} (e:¬ p.1 = k):valV (p :: r) k = valV r k:=by simp [valV,List.find?_cons,e]
theorem z3v (k:κ):∀ kvs:List (κ × V),(kvs.any fun kv=>decide (kv.1 = k)) = (valV kvs k).isSome
 | []=>rfl
 | p :: r=>by
  rw [List.any_cons]
  by_cases e:p.1 = k
  ·simp only [z26 e,decide_eq_true e,Bool.true_or,Option.isSome_some]
  ·rw [z27 e,decide_eq_false e,Bool.false_or]; exact z3v k r
theorem zby (k j:κ) (y:V):∀ kvs:List (κ × V),valV (kvs.map fun kv=>if kv.1 = k then (kv.1,y) else kv) j = (valV kvs j).map fun x=>if j = k then y else x
 | []=>rfl
 | p :: r=>by
  have ih:=zby k j y r
  rw [List.map_cons]
  by_cases h:p.1 = k
  ·rw [if_pos h]
   by_cases e:p.1 = j
   ·rw [z26 (p:=(p.1,y)) e,z26 e,Option.map_some,if_pos (e.symm.trans h)]
   ·rw [z27 (p:=(p.1,y)) e,z27 e,ih]
  ·rw [if_neg h]
   by_cases e:p.1 = j
   ·rw [z26 (p:=p) e,z26 e,Option.map_some,if_neg (fun z=>h (e.trans z))]
   ·rw [z27 (p:=p) e,z27 e,ih]
theorem zar (k j:κ) (y:V):∀ kvs:List (κ × V),valV kvs k = none → valV (kvs ++ [(k,y)]) j = if j = k then some y else valV kvs j
 | [],_=>by
  by_cases e:k = j
  ·rw [if_pos e.symm]; exact z26 (p:=(k,y)) e
  ·rw [if_neg (fun z=>e z.symm)]; exact z27 (p:=(k,y)) e
 | p :: r,hn=>by
  rw [List.cons_append]
  have hk:¬ p.1 = k:=fun z=>by rw [z26 z] at hn; cases hn
  rw [z27 hk] at hn
  have ih:=zar k j y r hn
  by_cases e:p.1 = j
  ·rw [z26 e,z26 e,if_neg (fun z=>hk (e.trans z))]
  ·rw [z27 e,z27 e,ih]
theorem zhm (kvs:List (κ × V)) (k j:κ) (y:V):valV (putK kvs k y) j = if j = k then some y else valV kvs j:=by
 unfold putK
 by_cases a:(kvs.any fun kv=>decide (kv.1 = k)) = true
 ·rw [if_pos a,zby]
  rw [z3v] at a
  by_cases e:j = k
  ·obtain ⟨x,hx⟩:=Option.isSome_iff_exists.mp a
   rw [if_pos e,e,hx,Option.map_some,if_pos rfl]
  ·rw [if_neg e]
   cases valV kvs j with
   | none=>rfl
   | some x=>rw [Option.map_some,if_neg e]
 ·rw [if_neg a]
  refine zar k j y kvs ?_
  rw [z3v] at a
  cases q:valV kvs k with
  | none=>rfl
  | some x=>rw [q] at a; exact (a rfl).elim
theorem z5a (kvs:List (κ × V)) (k:κ) (v:V):(putK kvs k v).length ≤ kvs.length + 1:=by
 unfold putK
 split
 ·rw [List.length_map]; omega
 ·rw [List.length_append,List.length_cons,List.length_nil]; omega
theorem RelO.isSome_eq {o:Option V} {u:Option Value} (r:RelO o u):o.isSome = u.isSome:=by
 cases o with
 | none=>cases u with
  | none=>rfl
  | some _=>exact (show False from r).elim
 | some _=>cases u with
  | none=>exact (show False from r).elim
  | some _=>rfl
theorem RelO.getD {o:Option V} {u:Option Value} {d:V} {d':Value} (r:RelO o u) (rd:RelV d d'):RelV (o.getD d) (u.getD d'):=by
 cases o with
 | none=>cases u with
  | none=>exact rd
  | some _=>exact (show False from r).elim
 | some _=>cases u with
  | none=>exact (show False from r).elim
  | some _=>exact r
theorem KV.val {kvs:List (κ × V)} {vs:List (κ × Value)} (r:KV kvs vs) (k:κ):RelO (valV kvs k) (valueAt vs k):=by
 unfold KV at r
 induction r with
 | nil=>exact True.intro
 | @cons p q ps qs h t ih =>
  obtain ⟨h1,h2⟩:=h
  by_cases e:p.1 = k
  ·have e':q.1 = k:=h1.symm.trans e
   have b:valueAt (q :: qs) k = some q.2:=by simp [valueAt,List.find?_cons,e']
   rw [z26 e,b]; exact h2
  ·have e':¬ q.1 = k:=fun z=>e (h1.trans z)
   have b:valueAt (q :: qs) k = valueAt qs k:=by simp [valueAt,List.find?_cons,e']
   rw [z27 e,b]; exact ih
theorem KV.any {kvs:List (κ × V)} {vs:List (κ × Value)} (r:KV kvs vs) (k:κ):(kvs.any fun kv=>decide (kv.1 = k)) = vs.any fun kv=>decide (kv.1 = k):=by
 unfold KV at r
 induction r with
 | nil=>rfl
 | cons h t ih=>rw [List.any_cons,List.any_cons,ih,h.1]
theorem KV.repl {kvs:List (κ × V)} {vs:List (κ × Value)} (r:KV kvs vs) (k:κ) {y:V} {u:Value} (ry:RelV y u) :
  KV (kvs.map fun kv=>if kv.1 = k then (kv.1,y) else kv) (vs.map fun kv=>if kv.1 = k then (kv.1,u) else kv):=by
 unfold KV at r ⊢
 induction r with
 | nil=>exact .nil
 | @cons p q ps qs h t ih =>
  rw [List.map_cons,List.map_cons]
  refine .cons ?_ ih
  obtain ⟨h1,h2⟩:=h
  by_cases e:p.1 = k
  ·rw [if_pos e,if_pos (h1.symm.trans e)]; exact ⟨h1,ry⟩
  ·rw [if_neg e,if_neg (fun z=>e (h1.trans z))]; exact ⟨h1,h2⟩
theorem KV.put {kvs:List (κ × V)} {vs:List (κ × Value)} (r:KV kvs vs) (k:κ) {y:V} {u:Value} (ry:RelV y u):KV (putK kvs k y) (stored vs k u):=by
 unfold putK stored
 rw [r.any k]
 by_cases e:(vs.any fun kv=>decide (kv.1 = k)) = true
 ·rw [if_pos e,if_pos e]; exact r.repl k ry
 ·rw [if_neg e,if_neg e]; exact Paired.snoc r ⟨rfl,ry⟩
theorem KV.drop {kvs:List (κ × V)} {vs:List (κ × Value)} (r:KV kvs vs) (k:κ):KV (zii kvs k) (without vs k):=by
 unfold KV at r ⊢
 unfold zii without
 induction r with
 | nil=>exact .nil
 | @cons p q ps qs h t ih =>
  obtain ⟨h1,h2⟩:=h
  rw [List.filter_cons,List.filter_cons]
  by_cases e:p.1 = k
  ·have a:¬ decide (p.1 ≠ k) = true:=by simp [e]
   have b:¬ decide (q.1 ≠ k) = true:=by simp [h1.symm.trans e]
   rw [if_neg a,if_neg b]; exact ih
  ·have e':¬ q.1 = k:=fun z=>e (h1.trans z)
   have a:decide (p.1 ≠ k) = true:=by simp [e]
   have b:decide (q.1 ≠ k) = true:=by simp [e']
   rw [if_pos a,if_pos b]; exact .cons ⟨h1,h2⟩ ih
theorem KV.keys {kvs:List (κ × V)} {vs:List (κ × Value)} (r:KV kvs vs):kvs.map (·.1) = vs.map (·.1):=by
 unfold KV at r
 induction r with
 | nil=>rfl
 | cons h t ih=>rw [List.map_cons,List.map_cons,ih,h.1]
theorem KV.length {kvs:List (κ × V)} {vs:List (κ × Value)} (r:KV kvs vs):kvs.length = vs.length:=Paired.length r
end
theorem kV_is {P:Program} {w:World} {k:Key} {u:Value} (r:RelV (kV k) u):(mixKind P w).is k u = true:=by
 cases k with
 | inl i=>obtain ⟨t,e⟩:=(show ∃ t,u = Value.int i t from r); subst e; exact zcu P w i t
 | inr x=>obtain ⟨t,e⟩:=(show ∃ t,u = Value.str x t from r); subst e; exact zcv P w x t
theorem zas {P:Program} {w:World}:∀ {ks:List Key} {us:List Value},Vals (ks.map kV) us → ItemsAre (mixKind P w) ks us
 | [],_,r=>by rw [List.map_nil] at r; cases r; exact .nil
 | k :: ks,_,r=>by
  rw [List.map_cons] at r
  cases r with
  | cons h t=>exact .cons (kV_is h) (zas t)
abbrev KT (H:Hp):List (List Key × V) → List (List Key × Addr × Value) → Prop:=Paired fun p q=>p.1 = q.1 ∧ H q.2.1 = some (.tup (p.1.map kV)) ∧ RelV p.2 q.2.2
theorem KT.val {H:Hp} {kvs:List (List Key × V)} {xs:List (List Key × Addr × Value)} (r:KT H kvs xs) (k:List Key):RelO (valV kvs k) ((atKey xs k).map (·.2)):=by
 induction r with
 | nil=>exact True.intro
 | @cons p q ps qs h t ih =>
  obtain ⟨h1,_,h2⟩:=h
  by_cases e:p.1 = k
  ·have e':q.1 = k:=h1.symm.trans e
   have b:atKey (q :: qs) k = some q.2:=by simp [atKey,List.find?_cons,e']
   rw [z26 e,b]; exact h2
  ·have e':¬ q.1 = k:=fun z=>e (h1.trans z)
   have b:atKey (q :: qs) k = atKey qs k:=by simp [atKey,List.find?_cons,e']
   rw [z27 e,b]; exact ih
theorem KT.repl {H:Hp} {kvs:List (List Key × V)} {xs:List (List Key × Addr × Value)} (r:KT H kvs xs) (k:List Key) {y:V} {u:Value} (ry:RelV y u) :
  KT H (kvs.map fun kv=>if kv.1 = k then (kv.1,y) else kv) (xs.map (putAt k u)):=by
 induction r with
 | nil=>exact .nil
 | @cons p q ps qs h t ih =>
  rw [List.map_cons,List.map_cons]
  refine .cons ?_ ih
  obtain ⟨h1,h2,h3⟩:=h
  unfold putAt
  by_cases e:p.1 = k
  ·rw [if_pos e,if_pos (h1.symm.trans e)]; exact ⟨h1,h2,ry⟩
  ·rw [if_neg e,if_neg (fun z=>e (h1.trans z))]; exact ⟨h1,h2,h3⟩
theorem KT.put {H:Hp} {kvs:List (List Key × V)} {xs:List (List Key × Addr × Value)} (r:KT H kvs xs) (k:List Key) {b:Addr} {y:V} {u:Value} (hb:H b = some (.tup (k.map kV))) (ry:RelV y u) :
  KT H (putK kvs k y) (storedH xs k b u):=by
 have e:(kvs.any fun kv=>decide (kv.1 = k)) = (atKey xs k).isSome:=by
  rw [z3v,(r.val k).isSome_eq,Option.isSome_map]
 unfold putK storedH
 rw [e]
 by_cases q:(atKey xs k).isSome = true
 ·rw [if_pos q,if_pos q]; exact r.repl k ry
 ·rw [if_neg q,if_neg q]; exact Paired.snoc r ⟨rfl,hb,ry⟩
theorem KT.keeps {H H':Hp} {kvs:List (List Key × V)} {xs:List (List Key × Addr × Value)} (r:KT H kvs xs) (ht:∀ b ys,H b = some (.tup ys) → H' b = some (.tup ys)):KT H' kvs xs :=
 Paired.mapP r fun _ _ z=>⟨z.1,ht _ _ z.2.1,z.2.2⟩
section
variable {P:Program} {w:World} {H:Hp} {h:Heap} {a:Addr}
theorem zij {u:HO} (ok:HOk P w H h) (e:Rd H a u):ObjOk P w H h a u:=e.ok ok
theorem z8q {kvs:List (Key × V)} (ok:HOk P w H h) (e:Rd H a (.dK kvs)):kvs.length ≤ sizeLine ∧ (a == sysModules) = false ∧ ∃ vs,KV kvs vs ∧ h.DictOf (mixKind P w) a vs :=
 show ObjOk P w H h a (.dK kvs) from zij ok e
theorem zbk {kvs:List (Key × V)} (ok:HOk P w H h) (e:H a = some (.dK kvs)):kvs.length ≤ sizeLine ∧ (a == sysModules) = false ∧ ∃ vs,KV kvs vs ∧ h.DictOf (mixKind P w) a vs:=z8q ok (.inl e)
theorem z8r {ks:List Key} (ok:HOk P w H h) (e:H a = some (.tup (ks.map kV))):(tupleKind (mixKind P w)).is h ks a:=by
 obtain ⟨_,its,r,o,h1,h2,n,h3⟩:=(show ObjOk P w H h a (.tup (ks.map kV)) from ok a _ e)
 exact ⟨o,its.toArray,n,h1,h2,h3,by simpa using zas r⟩
theorem z8s {kvs:List (List Key × V)} (ok:HOk P w H h) (e:Rd H a (.dT kvs)):kvs.length ≤ sizeLine ∧ (a == sysModules) = false ∧
  ∃ xs,KT H kvs xs ∧ h.DictOfH (tupleKind (mixKind P w)) a xs:=by
 obtain ⟨z,y,xs,r,o,es,ep,h1,h2,h3,h4,h5⟩:=(show ObjOk P w H h a (.dT kvs) from zij ok e)
 refine ⟨z,y,xs,r,o,es,ep,h1,h2,h3,h4,fun x hx=>?_,h5⟩
 have all:∀ {l:List (List Key × V)} {m:List (List Key × Addr × Value)},KT H l m → ∀ x ∈ m,(tupleKind (mixKind P w)).is h x.1 x.2.1:=by
  intro l m q
  induction q with
  | nil=>intro x hx; exact nomatch hx
  | @cons p q ps qs hq t ih =>
   intro x hx
   rcases List.mem_cons.mp hx with e | hx
   ·subst e
    exact z8r ok (by rw [← hq.1]; exact hq.2.1)
   ·exact ih x hx
 exact all r x hx
theorem zkp {kvs:List (List Key × V)} (ok:HOk P w H h) (e:H a = some (.dT kvs)):kvs.length ≤ sizeLine ∧ (a == sysModules) = false ∧
  ∃ xs,KT H kvs xs ∧ h.DictOfH (tupleKind (mixKind P w)) a xs:=z8s ok (.inl e)
end
def DGet (H:Hp) (a:Addr) (y:V) (r:Option V):Prop :=
 (∃ kvs k,Rd H a (.dK kvs) ∧ y = kV k ∧ r = valV kvs k) ∨ ∃ kvs k b,Rd H a (.dT kvs) ∧ y = .ref b ∧ H b = some (.tup (k.map kV)) ∧ r = valV kvs k
def DPut (H:Hp) (a:Addr) (y v:V) (H':Hp):Prop :=
 (∃ kvs k,H a = some (.dK kvs) ∧ y = kV k ∧ kvs.length < sizeLine ∧ H' = upd H a (.dK (putK kvs k v))) ∨
 ∃ kvs k b,H a = some (.dT kvs) ∧ y = .ref b ∧ H b = some (.tup (k.map kV)) ∧ kvs.length < sizeLine ∧ H' = upd H a (.dT (putK kvs k v))
theorem DGet.k {H:Hp} {a:Addr} {kvs:List (Key × V)} {k:Key} (e:H a = some (.dK kvs)):DGet H a (kV k) (valV kvs k):=.inl ⟨kvs,k,.inl e,rfl,rfl⟩
theorem DGet.t {H:Hp} {a b:Addr} {kvs:List (List Key × V)} {k:List Key} (e:H a = some (.dT kvs)) (eb:H b = some (.tup (k.map kV))):DGet H a (.ref b) (valV kvs k):=.inr ⟨kvs,k,b,.inl e,rfl,eb,rfl⟩
theorem DPut.k {H:Hp} {a:Addr} {kvs:List (Key × V)} {k:Key} {v:V} (e:H a = some (.dK kvs)) (hl:kvs.length < sizeLine):DPut H a (kV k) v (upd H a (.dK (putK kvs k v))):=.inl ⟨kvs,k,e,rfl,hl,rfl⟩
theorem DPut.t {H:Hp} {a b:Addr} {kvs:List (List Key × V)} {k:List Key} {v:V} (e:H a = some (.dT kvs)) (eb:H b = some (.tup (k.map kV))) (hl:kvs.length < sizeLine) :
  DPut H a (.ref b) v (upd H a (.dT (putK kvs k v))):=.inr ⟨kvs,k,b,e,rfl,eb,hl,rfl⟩
section
variable {X:Cx} {pins:List (Addr × Obj)} {σ:St} {H:Hp} {s:Shared} {a:Addr} {y v:V} {u r:Value} {o:Option V} {A:Around} {E:Value → Shared → Prop}
theorem Inv.big (I:Inv X pins σ H s):sysModules < s.heap.objs.size:=by
 have h:mainGlobals < s.heap.objs.size:=(I.mod.glob.keeps I.bk).lt
 exact Nat.lt_trans (by decide) h
theorem zg2 {Q:Value → Shared → Prop} (hu:A.units + 1 < cLine) (I:Inv X pins σ H s) (g:DGet H a y (some v)) (ry:RelV y u) (h:∀ w' s',Inv X pins σ H s' → RelV v w' → Q w' s') :
  wpAny (model X.prog X.w) A (getItem (.ref a) u) Q E s:=by
 rcases g with ⟨kvs,k,e,ey,l⟩ | ⟨kvs,k,b,e,ey,eb,l⟩
 ·subst ey
  obtain ⟨z,hd,vs,rel,dd⟩:=z8q I.hok e
  obtain ⟨w',hw,rw'⟩:=RelO.some_of (v:=v) (o:=valueAt vs k) (by rw [l]; exact rel.val k)
  exact wpAny_getItem_of (kV_is ry) dd.mapOf hw (h w' _ (I.tok _) rw')
 ·subst ey
  cases (show u = Value.ref b from ry)
  obtain ⟨z,hd,xs,rel,dd⟩:=z8s I.hok e
  obtain ⟨w',hw,rw'⟩:=RelO.some_of (v:=v) (o:=(atKey xs k).map (·.2)) (by rw [l]; exact rel.val k)
  obtain ⟨p,hp,hp2⟩:=Option.map_eq_some_iff.mp hw
  refine wpAny_getItem_heap (tupleKind_room_in1 hu) (z8r I.hok eb) dd hp ?_
  rw [hp2]
  exact h w' _ (I.tok _) rw'
theorem z9o {h':Heap} {t':Nat} {ob:HO} (I:Inv X pins σ H s) (mu:Mut (H a)) (hs:Heap.SameBut a s.heap h') (he:∃ q,h'.get? a = some q) (new:ObjOk X.prog X.w (upd H a ob) h' a ob) :
  Inv X pins σ (upd H a ob) { s with heap:=h',toks:=t' } :=
 I.write (x:=a) (e:=a) mu (.inl rfl) (fun b q hb z=>(hs.2 b hb).trans z) he new
theorem zg3 {P:Program} {w:World} {H':Hp} {h':Heap} {kvs:List (Key × V)} {vs:List (Key × Value)} (z:kvs.length ≤ sizeLine) (hd:(a == sysModules) = false) (rel:KV kvs vs) (dd:h'.DictOf (mixKind P w) a vs) :
  ObjOk P w H' h' a (.dK kvs):=⟨z,hd,vs,rel,dd⟩
theorem zg4 {H':Hp} {Q:Unit → Shared → Prop} (hu:A.units + 1 < cLine) (I:Inv X pins σ H s) (g:DPut H a y v H') (ry:RelV y u) (rv:RelV v r) (h:∀ s',Inv X pins σ H' s' → Q () s') :
  wpAny (model X.prog X.w) A (setItem (.ref a) u r) Q E s:=by
 rcases g with ⟨kvs,k,e,ey,l,eH⟩ | ⟨kvs,k,b,e,ey,eb,l,eH⟩
 ·subst ey eH
  obtain ⟨z,hd,vs,rel,dd⟩:=zbk I.hok e
  have hz:vs.length ≤ sizeLine:=by rw [← rel.length]; exact z
  have hl:(putK kvs k v).length ≤ sizeLine:=by have:=z5a kvs k v; omega
  refine wpAny_setItem_pairs (hsz:=hz) (kV_is ry) dd fun h' dd' hs=>h _ ?_
  have he:∃ q,h'.get? a = some q:=let ⟨q,_,_,hq,_⟩:=dd'; ⟨q,hq⟩
  exact z9o I (by rw [e]; exact True.intro) hs he (zg3 hl hd (rel.put k rv) dd')
 ·subst ey eH
  cases (show u = Value.ref b from ry)
  obtain ⟨z,hd,xs,rel,dd⟩:=zkp I.hok e
  have hz:xs.length ≤ sizeLine:=by rw [← Paired.length rel]; exact z
  have hl:(putK kvs k v).length ≤ sizeLine:=by have:=z5a kvs k v; omega
  refine wpAny_setItem_heap (hsz:=hz) (tupleKind_room_in1 hu) (z8r I.hok eb) dd fun h' dd' hs=>h _ ?_
  obtain ⟨q,es,ep,hq,h2,h3,h4,_,h5⟩:=dd'
  refine z9o I (by rw [e]; exact True.intro) hs ⟨q,hq⟩ ⟨hl,hd,_,(rel.put k eb rv).keeps fun c ys ec=>?_,q,es,ep,hq,h2,h3,h4,h5⟩
  rw [z9 (zkm ec e (fun z=>nomatch z))]
  exact ec
end
section
variable {X:Cx} {pins:List (Addr × Obj)} {σ:St} {H:Hp} {s:Shared} {a:Addr} {kvs:List (Key × V)} {k:Key} {u:Value} {A:Around} {E:Value → Shared → Prop}
end
def NoSl (i:Expr):Prop:=∀ ov iv,subscripted i false ov iv = operate [ov,iv] (getItem ov iv)
theorem subD_of {prog:Program} {w:World} {A:Around} {E:Value → Shared → Prop} {s:Shared} {env:Env} {value slice:Expr} {pos:Pos} {T id:String} {Q:Value → Shared → Prop}
  (hl:typeLookup (.type T) "__getitem__" = pure (some (.builtin id))) (hs:NoSl slice)
  (h:wpAny (model prog w) A (eval value env) (fun o s₁=>wpAny (model prog w) A (eval slice env) (fun i s₂=>s₂.TypeIs o T ∧ wpAny (model prog w) A (getItem o i) Q E s₂) E s₁) E s) :
  wpAny (model prog w) A (eval (.Subscript value slice pos) env) Q E s:=by
 refine Subscript_ (wpAny_mono h (fun o s₁ h₁=>wpAny_mono h₁ (fun i s₂ h₂=>?_) fun _ _ x=>x) fun _ _ x=>x)
 obtain ⟨hT,h₂⟩:=h₂
 unfold subscriptTail
 refine wpAny_bind ?_
 rw [getitemInPython_of_ne hT.not_modules]
 refine wpAny_bind (wpAny_specialOf hT hl ?_)
 have fin:wpAny (model prog w) A (subscripted slice false o i) (fun r s₃=>wpAny (model prog w) A (letTemporaryGo value o r >>= fun _=>pure r) Q E s₃) E s₂:=by
  rw [hs o i]
  exact wpAny_operating (wpAny_mono h₂ (fun r s₃ h₃=>wpAny_bind (wpAny_letTemporaryGo (wpAny_pure h₃))) fun _ _ x=>x)
 first
  | exact wpAny_pure (wpAny_bind fin)
  | exact wpAny_bind (wpAny_pure (wpAny_bind fin))
  | exact wpAny_bind fin
theorem zcx {X:Cx} {pins:List (Addr × Obj)} {σ:St} {H:Hp} {s:Shared} {a:Addr} {y:V} {o:Option V} (I:Inv X pins σ H s) (g:DGet H a y o):s.TypeIs (.ref a) "dict" := by
 rcases g with ⟨kvs,k,e,_,_⟩ | ⟨kvs,k,b,e,_,_,_⟩
 ·obtain ⟨_,_,vs,_,dd⟩:=z8q I.hok e
  exact dd.typeIs
 ·obtain ⟨_,_,xs,_,dd⟩:=z8s I.hok e
  exact dd.typeIs
def zik (td ty:TE):TE:=fun σ H Q=>td σ H fun x H1=>ty σ H1 fun y H2=>∃ a v,x = .ref a ∧ DGet H2 a y (some v) ∧ Q v H2
def zil (td ty tv:TE):TS:=fun D σ H=>tv σ H fun v H1=>td σ H1 fun x H2=>ty σ H2 fun y H3=>∃ a H4,x = .ref a ∧ DPut H3 a y v H4 ∧ D.nx σ H4
section
variable {X:Cx} {o i e value:Expr} {pos pos' tpos:Pos} {td ty tv:TE}
theorem zx (hu:X.A.units + 1 < cLine) (ho:PE X o td) (hi:PE X i ty) (hs:NoSl i):PE X (.Subscript o i pos) (zik td ty):=by
 intro pins s σ H Q I h
 refine subD_of PySem.F.slot_dict_getitem.lookup hs (thn (ho pins s σ H _ I h) fun u s1 ⟨x,H1,I1,rx,q1⟩=>thn (hi pins s1 σ H1 _ I1 q1) fun iv s2 ⟨y,H2,I2,ry,a,v,ex,g,q2⟩=>?_)
 subst ex
 obtain rfl:u = Value.ref a:=rx
 exact ⟨zcx I2 g,zg2 hu I2 g ry fun w' s3 I3 rw'=>⟨v,H2,I3,rw',q2⟩⟩
theorem z4o (hu:X.A.units + 1 < cLine) (ho:PE X o td) (hi:PE X i ty) (hv:PE X value tv) (hs:swapsWith value (some (.Subscript o i pos')) pos.line X.env = pure false) :
  PS X (.Assign [.Subscript o i pos'] value pos) (zil td ty tv):=by
 intro pins s σ H D I h
 refine wpAny_Assign_Subscript (thn (hv pins s σ H _ I h) fun r s1 ⟨v,H1,I1,rv,q1⟩=>thn (ho pins s1 σ H1 _ I1 q1) fun u s2 ⟨x,H2,I2,rx,q2⟩=>thn (hi pins s2 σ H2 _ I2 q2) fun iv s3 ⟨y,H3,I3,ry,a,H4,ex,g,q3⟩=>?_) hs
 subst ex
 obtain rfl:u = Value.ref a:=rx
 exact zg4 hu I3 g ry rv fun s4 I4=>⟨σ,H4,I4,q3⟩
end
theorem zbz {P:Program} {w:World} {H:Hp} (h:Heap) (hb:sysModules < h.objs.size):ObjOk P w H (h.push { cls:=.type "dict",data:=.dict #[] }) h.objs.size (.dK []) :=
 ⟨Nat.zero_le _,beq_eq_false_iff_ne.mpr (Ne.symm (Nat.ne_of_lt hb)),[],.nil,Heap.DictOf.new h⟩
def zg5:TE:=fun _ H Q=>∀ p,H p = none → Q (.ref p) (upd H p (.dK []))
section
variable {X:Cx} {pos:Pos}
theorem zc0:PE X (.Dict [] [] pos) zg5:=fun pins s σ H Q I h =>
 wpAny_Dict_empty ⟨.ref s.heap.objs.size,_,I.laid (a:=s.heap.objs.size) (o:=.dK []) (t':=s.toks) (fun _ _ q=>Heap.get?_push_of_some _ q) (Nat.le_refl _) (zbz s.heap I.big),rfl,h _ (I.hok.fresh (Nat.le_refl _))⟩
end
def z8t:List (TE × TE) → St → Hp → (List (V × V) → Hp → Prop) → Prop
 | [],_,H,Q=>Q [] H
 | (tk,tv) :: r,σ,H,Q=>tk σ H fun x H1=>tv σ H1 fun y H2=>z8t r σ H2 fun ps H3=>Q ((x,y) :: ps) H3
abbrev VV:List (V × V) → List (Value × Value) → Prop:=Paired fun p q=>RelV p.1 q.1 ∧ RelV p.2 q.2
def PPs (X:Cx) (pos:Pos) (keys:List (Option Expr)) (values:List Expr) (trs:List (TE × TE)):Prop :=
 ∀ (pins:List (Addr × Obj)) (s:Shared) (σ:St) (H:Hp) (Q:List (V × V) → Hp → Prop),Inv X pins σ H s → z8t trs σ H Q →
  wpAny (model X.prog X.w) X.A (evalPairs (pairTrees keys values X.env pos)) (fun vs s'=>∃ ps H',Inv X pins σ H' s' ∧ VV ps vs ∧ Q ps H') X.xe s
theorem zj8 {X:Cx} {pos:Pos}:PPs X pos [] [] []:=fun pins s σ H Q I h=>pairTrees_nil_walk ⟨[],H,I,.nil,h⟩
theorem z2f {X:Cx} {pos:Pos} {k v:Expr} {ks:List (Option Expr)} {vs:List Expr} {tk tv:TE} {trs:List (TE × TE)} (hk:PE X k tk) (hv:PE X v tv) (hr:PPs X pos ks vs trs) :
  PPs X pos (some k :: ks) (v :: vs) ((tk,tv) :: trs):=fun pins s σ H Q I h =>
 pairTrees_cons_walk (thn (hk pins s σ H _ I h) fun u s1 ⟨x,H1,I1,rx,q1⟩=>thn (hv pins s1 σ H1 _ I1 q1) fun w2 s2 ⟨y,H2,I2,ry,q2⟩ =>
  thn (hr pins s2 σ H2 _ I2 q2) fun ws s3 ⟨ps,H3,I3,rel,q3⟩=>⟨(x,y) :: ps,H3,I3,.cons ⟨rx,ry⟩ rel,q3⟩)
def z5p (kvs more:List (Key × V)):List (Key × V):=more.foldl (fun acc kv=>putK acc kv.1 kv.2) kvs
theorem KV.merge:∀ {more:List (Key × V)} {rs:List (Key × Value)} {kvs:List (Key × V)} {vs:List (Key × Value)},KV more rs → KV kvs vs → KV (z5p kvs more) (merged vs rs):=by
 intro more rs kvs vs r
 unfold KV at r
 induction r generalizing kvs vs with
 | nil=>intro q; exact q
 | @cons p q ps qs h t ih =>
  intro r0
  have e:KV (putK kvs p.1 p.2) (stored vs q.1 q.2):=by
   have:=r0.put p.1 h.2
   rw [← h.1]; exact this
  exact ih e
theorem z6d:∀ (more kvs:List (Key × V)),(z5p kvs more).length ≤ kvs.length + more.length
 | [],kvs=>by show kvs.length ≤ kvs.length + 0; omega
 | p :: r,kvs=>by
  have h1:=z6d r (putK kvs p.1 p.2)
  have h2:=z5a kvs p.1 p.2
  show (z5p (putK kvs p.1 p.2) r).length ≤ _
  rw [List.length_cons]; omega
theorem z8u {P:Program} {w:World}:∀ {kvs:List (Key × V)} {ws:List (Value × Value)},VV (kvs.map fun kv=>(kV kv.1,kv.2)) ws → ∃ rs,Carries (mixKind P w) ws rs ∧ KV kvs rs
 | [],_,r=>by rw [List.map_nil] at r; cases r; exact ⟨[],True.intro,.nil⟩
 | p :: kvs,_,r=>by
  rw [List.map_cons] at r
  cases r with
  | @cons a b as bs h t =>
   obtain ⟨rs,c,q⟩:=z8u (P:=P) (w:=w) t
   obtain ⟨b1,b2⟩:=b
   exact ⟨(p.1,b2) :: rs,⟨kV_is h.1,rfl,c⟩,.cons ⟨rfl,h.2⟩ q⟩
def zim (trs:List (TE × TE)):TE:=fun σ H Q=>∀ p,H p = none → z8t trs σ (upd H p (.dK [])) fun ps H2=>H2 p = some (.dK []) ∧ ∃ kvs:List (Key × V),ps = kvs.map (fun kv=>(kV kv.1,kv.2)) ∧ kvs.length ≤ 15 ∧ Q (.ref p) (upd H2 p (.dK (z5p [] kvs)))
theorem zj9 {X:Cx} {pos:Pos} {keys:List (Option Expr)} {values:List Expr} {trs:List (TE × TE)} (h:PPs X pos keys values trs) (hall:keys.all (·.isSome) = true) (hl:keys.length = values.length) (h0:keys ≠ [])
  (h15:keys.length ≤ 15):PE X (.Dict keys values pos) (zim trs):=by
 intro pins s σ H Q I q
 have hn:=I.hok.fresh (Nat.le_refl s.heap.objs.size)
 have I1:=I.laid (a:=s.heap.objs.size) (o:=.dK []) (h':=s.heap.push { cls:=.type "dict",data:=.dict #[] }) (t':=s.toks) (fun _ _ q=>Heap.get?_push_of_some _ q) (Nat.le_refl _) (zbz s.heap I.big)
 refine wpAny_Dict_walk (knd:=mixKind X.prog X.w) hall hl h0 h15 (thn (h pins _ σ _ _ I1 (q _ hn)) fun ws s2 ⟨ps,H2,I2,rel,e,kvs,ep,lk,q2⟩=>?_)
 subst ep
 obtain ⟨rs,c,rk⟩:=z8u (P:=X.prog) (w:=X.w) rel
 obtain ⟨z,hd,vs0,r0,dd⟩:=zbk I2.hok e
 cases r0
 refine ⟨rs,c,dd,fun h' dd' hs=>⟨.ref s.heap.objs.size,_,?_,rfl,q2⟩⟩
 have hz:(z5p [] kvs).length ≤ sizeLine:=by
  have h1:=z6d kvs []
  rw [List.length_nil] at h1
  rw [sizeLine_eq]; omega
 have he:∃ q,h'.get? s.heap.objs.size = some q:=let ⟨q,_,_,hq,_⟩:=dd'; ⟨q,hq⟩
 exact z9o I2 (by rw [e]; exact True.intro) hs he (zg3 hz hd (rk.merge .nil) dd')
structure M1 (X:Cx) (o:Expr) (m:Str) (apos:Pos) (e:Expr) (cpos:Pos):Prop where
 base:attributeBase o m X.env (eval o X.env) = eval o X.env
 few:((backTo cpos (starEach [e] X.env)).all (fun x=>!x.1) && (backToKw cpos (keywordEach [] X.env)).all (fun x=>x.1.isSome)
  && decide (([e]:List Expr).length + ([]:List Keyword).length + (if ([]:List Keyword).isEmpty then 0 else 1) < 30)) = true
 line:(apos.endLine == cpos.line) = true
 trees:backTo cpos (starEach [e] X.env) = [(false,eval e X.env)]
structure M2 (X:Cx) (o:Expr) (m:Str) (apos:Pos) (e f:Expr) (cpos:Pos):Prop where
 base:attributeBase o m X.env (eval o X.env) = eval o X.env
 few:((backTo cpos (starEach [e,f] X.env)).all (fun x=>!x.1) && (backToKw cpos (keywordEach [] X.env)).all (fun x=>x.1.isSome)
  && decide (([e,f]:List Expr).length + ([]:List Keyword).length + (if ([]:List Keyword).isEmpty then 0 else 1) < 30)) = true
 line:(apos.endLine == cpos.line) = true
 trees:backTo cpos (starEach [e,f] X.env) = [(false,eval e X.env),(false,eval f X.env)]
def IsD (H:Hp) (a:Addr):Prop:=(∃ kvs,Rd H a (.dK kvs)) ∨ ∃ kvs,Rd H a (.dT kvs)
theorem zk7 {X:Cx} {pins:List (Addr × Obj)} {σ:St} {H:Hp} {s:Shared} {a:Addr} (I:Inv X pins σ H s) (d:IsD H a) :
  s.TypeIs (.ref a) "dict" ∧ (∀ b,Value.ref a = .ref b → ∃ ob,s.heap.get? b = some ob ∧ ob.dict = none) ∧ (a == sysModules) = false:=by
 rcases d with ⟨kvs,e⟩ | ⟨kvs,e⟩
 ·obtain ⟨_,hd,vs,_,dd⟩:=z8q I.hok e
  refine ⟨dd.typeIs,fun b q=>?_,hd⟩
  cases q
  obtain ⟨ob,_,_,h1,h2,_⟩:=dd
  exact ⟨ob,h1,h2.2.1⟩
 ·obtain ⟨_,hd,xs,_,dd⟩:=z8s I.hok e
  refine ⟨dd.typeIs,fun b q=>?_,hd⟩
  cases q
  obtain ⟨ob,_,_,h1,h2,_⟩:=dd
  exact ⟨ob,h1,h2.2.1⟩
section
variable {X:Cx} {pins:List (Addr × Obj)} {σ:St} {H:Hp} {s:Shared} {a:Addr} {y d:V} {u r:Value} {o:Option V} {A:Around} {E:Value → Shared → Prop}
theorem zk8 {Q:Value → Shared → Prop} (hu:A.units + 1 < cLine) (I:Inv X pins σ H s) (g:DGet H a y o) (ry:RelV y u) (rd:RelV d r) (h:∀ w' s',Inv X pins σ H s' → RelV (o.getD d) w' → Q w' s') :
  wpAny (model X.prog X.w) A (call (.builtin "dict.get") [.ref a,u,r]) Q E s:=by
 rcases g with ⟨kvs,k,e,ey,l⟩ | ⟨kvs,k,b,e,ey,eb,l⟩
 ·subst ey
  obtain ⟨z,hd,vs,rel,dd⟩:=z8q I.hok e
  refine call_meetsIn PySem.F.slot_dict_get dd.typeIs PySem.F.entry_dict_get (PySem.F.args_dict_get_3 _ _ _) (meets_dict_get_default (mixKind X.prog X.w) a (kV_is ry) hd r) ⟨_,dd.mapOf,h _ _ (I.tok _) ?_⟩
  rw [l]
  exact (rel.val k).getD rd
 ·subst ey
  cases (show u = Value.ref b from ry)
  obtain ⟨z,hd,xs,rel,dd⟩:=z8s I.hok e
  refine call_meetsIn PySem.F.slot_dict_get dd.typeIs PySem.F.entry_dict_get (PySem.F.args_dict_get_3 _ _ _) (meetsH_dict_get_default (tupleKind (mixKind X.prog X.w)) a b hd r) ⟨tupleKind_room_in1 hu,k,xs,z8r I.hok eb,dd,h _ _ (I.tok _) ?_⟩
  rw [l]
  exact (rel.val k).getD rd
end
def zg6 (td ty tx:TE):TE:=fun σ H Q=>td σ H fun x H1=>∃ a,x = .ref a ∧ IsD H1 a ∧ ty σ H1 fun y H2=>tx σ H2 fun z H3=>∃ o,DGet H3 a y o ∧ Q (o.getD z) H3
section
variable {X:Cx} {o e f:Expr} {apos cpos:Pos} {td ty tx:TE}
theorem zhn (hu:X.A.units + 1 < cLine) (ho:PE X o td) (he:PE X e ty) (hf:PE X f tx) (m:M2 X o "get" apos e f cpos):PE X (.Call (.Attribute o "get" apos) [e,f] [] cpos) (zg6 td ty tx):=by
 intro pins s σ H Q I h
 refine wpAny_Call_method m.base m.few m.line PySem.F.plainAttrs_dict PySem.F.slot_dict_get PySem.F.type_dict_get (thn (ho pins s σ H _ I h) fun u s1 ⟨x,H1,I1,rx,a,ex,d,q1⟩=>?_)
 subst ex
 obtain rfl:u = Value.ref a:=rx
 obtain ⟨t1,t2,_⟩:=zk7 I1 d
 refine ⟨t1,t2,?_⟩
 rw [m.trees]
 refine Calls.callWith_builtin rfl (Calls.evalArgs_plain (Calls.spliced_cons (thn (he pins s1 σ H1 _ I1 q1) fun iv s2 ⟨y,H2,I2,ry,q2⟩ =>
  Calls.spliced_cons (thn (hf pins s2 σ H2 _ I2 q2) fun fv s3 ⟨z,H3,I3,rz,ov,g,q3⟩=>Calls.spliced_nil ?_))))
 exact zk8 hu I3 g ry rz fun w' s4 I4 rw'=>⟨_,H3,I4,rw',q3⟩
end
section
variable {X:Cx} {pins:List (Addr × Obj)} {σ:St} {H:Hp} {s:Shared} {a:Addr} {kvs:List (Key × V)} {A:Around} {E:Value → Shared → Prop}
end
section
variable {X:Cx} {pins:List (Addr × Obj)} {σ:St} {H:Hp} {s:Shared} {a:Addr} {y:V} {u:Value} {A:Around} {E:Value → Shared → Prop}
end
end L2
namespace Att
open PySem PySem.W PySem.Calls PyProof.Rows
section
variable {prog:Program} {w:World} {A:Around} {E:Value → Shared → Prop} {s:Shared} {K:Frag}
end
end Att
namespace L2
open PySem PySem.Spec PyProof.Rows
end L2
namespace L2
open PySem PySem.Spec PyProof.Rows
end L2
namespace L2
open PySem PySem.Spec PyProof.Rows
section
variable {P:Program} {w:World} {K:PySem.W.Frag} {mg:Str → Option Value} {base:Heap}
end
section
variable {X:Cx}
end
section
variable {κ:Type} [DecidableEq κ]
theorem zho {kvs:List (κ × V)} {k:κ} (h:valV kvs k = none):¬ k ∈ kvs.map (·.1):=by
 intro m
 obtain ⟨p,hp,e⟩:=List.mem_map.mp m
 have q:(kvs.any fun kv=>decide (kv.1 = k)) = true:=List.any_eq_true.mpr ⟨p,hp,decide_eq_true e⟩
 rw [z3v,h] at q
 exact absurd q (by simp)
theorem zja {kvs:List (κ × V)} {k:κ} {v:V} (h:valV kvs k = some v):k ∈ kvs.map (·.1):=by
 have q:(kvs.any fun kv=>decide (kv.1 = k)) = true:=by
  rw [z3v,h]
  all_goals rfl
 obtain ⟨p,hp,e⟩:=List.any_eq_true.mp q
 exact List.mem_map.mpr ⟨p,hp,of_decide_eq_true e⟩
end
end L2
end
section
namespace L2
open PySem PySem.Spec PyProof.Rows
section
variable {X:Cx}
theorem z6q (hc:X.calm = true):CallR X (.builtin "max") (fun xs H Q=>∃ p ns,xs = [.ref p] ∧ SqL X.K H p ((ns:List Int).map V.int) ∧ ns ≠ [] ∧ ∀ m ∈ ns,(∀ x ∈ ns,x ≤ m) → Q (.int m) H):=by
  intro pins s σ H xs us Q I r h
  obtain ⟨p,ns,rfl,hp,hne0,q⟩:=h
  obtain ⟨u,rfl,ru⟩:=z3k r
  cases ru
  obtain ⟨its,r1,p1,_⟩:=I.list hp
  have hl:=r1.length
  rw [List.length_map] at hl
  refine call_max_walk (wpAny_pyIter_list p1.isList ?_)
  obtain ⟨ol,n,hol,hcl,hdl,hsl⟩:=id p1
  have hne:p ≠ s.heap.objs.size:=Nat.ne_of_lt (Heap.lt_size hol)
  have hlt:p < s.heap.objs.size:=Heap.lt_size hol
  have hpos:0 < ns.length:=by cases ns with | nil=>exact absurd rfl hne0 | cons a b=>simp
  refine ⟨s.heap.objs.size,[s.heap.objs.size,p],[s.heap.objs.size],its.toArray.size,_,_,fun i j=>decide (ns.getD i 0 > ns.getD j 0),rfl,Walks.list (by exact I.ok.hd hc) s.heap.objs.size p hne its.toArray,
    ⟨⟨_,Heap.get?_push_size _ rfl,rfl,rfl⟩,⟨ol,Heap.get?_push_of_some _ hol,hcl,n,hsl⟩⟩,fun b hb=>?_,by rw [List.size_toArray]; omega,CmpOf.ints_gt (fun i=>ns.getD i 0) ?_,fun v h' tk hP k=>?_⟩
  · show b < (s.heap.push _).objs.size
    rw [Heap.size_push]
    rcases List.mem_cons.mp hb with rfl | hb
    · exact Nat.lt_succ_self _
    · rcases List.mem_cons.mp hb with rfl | hb
      · exact Nat.lt_succ_of_lt hlt
      · cases hb
  · intro j v hv
    have hv:its.toArray[j]? = some v:=hv
    have e0:its[j]? = some v:=by simpa using hv
    have hj:j < its.length:=(List.getElem?_eq_some_iff.mp e0).1
    have e1:(ns.map V.int)[j]? = some (V.int (ns.getD j 0)):=by
      rw [List.getElem?_map,List.getD_eq_getElem?_getD,List.getElem?_eq_getElem (by omega)]
      rfl
    obtain ⟨w,q1,rw'⟩:=r1.get e1
    rw [e0] at q1
    cases q1
    exact rw'
  · have hP:its.toArray[argBest (fun i j=>decide (ns.getD i 0 > ns.getD j 0)) (its.toArray.size - 1)]? = some v:=hP
    obtain ⟨b1,b2⟩:=argBest_gt (fun i=>ns.getD i 0) (its.toArray.size - 1)
    rw [List.size_toArray,← hl] at b1 b2 hP
    generalize argBest (fun i j=>decide (ns.getD i 0 > ns.getD j 0)) (ns.length - 1) = a at b1 b2 hP
    have e0:its[a]? = some v:=by simpa using hP
    have ha:a < ns.length:=by omega
    have e1:(ns.map V.int)[a]? = some (V.int (ns.getD a 0)):=by
      rw [List.getElem?_map,List.getD_eq_getElem?_getD,List.getElem?_eq_getElem ha]
      rfl
    obtain ⟨w,q1,rw'⟩:=r1.get e1
    rw [e0] at q1
    cases q1
    have I2:Inv X pins σ H { s with heap:=h',toks:=tk }:=by
     refine I.kept (t':=tk) (h':=h') fun b o e=>k b o ?_ (Heap.get?_push_of_some _ e)
     intro z
     have:b = s.heap.objs.size:=by simpa using z
     exact absurd (Heap.lt_size e) (by rw [this]; exact Nat.lt_irrefl _)
    refine ⟨.int _,H,I2,rw',q _ ?_ ?_⟩
    · rw [List.getD_eq_getElem?_getD,List.getElem?_eq_getElem ha]
      exact List.getElem_mem ha
    · intro x hx
      obtain ⟨j,hj,rfl⟩:=List.getElem_of_mem hx
      have:=b2 j (by omega)
      have e:ns.getD j 0 = ns[j]:=by rw [List.getD_eq_getElem?_getD,List.getElem?_eq_getElem hj]; rfl
      rw [e] at this
      exact this
end
end L2
end
section
namespace PySem
open Sem (wp)
open AutoSeq1 (wpAny_loadPart')
theorem zcy (a:Value) (t:Tok):checkTypeCall "enumerate" ⟨[a],[(Str.ofString "start",.int 1 t)]⟩ = pure ():=by kernel_rfl
theorem zg7 (a:Value) (t:Tok):checkBuiltinCall "enumerate.__new__" ⟨[.type "enumerate",a],[(Str.ofString "start",.int 1 t)]⟩ = pure ():=by kernel_rfl
theorem zei (obj a:Value) (t:Tok):argsOk "object.__init__" ⟨[obj,a],[(Str.ofString "start",.int 1 t)]⟩:=by unfold argsOk; kernel_rfl
theorem zej (l:Addr) (o:Obj) (items:Array Value) (t:Tok) :
  Meets (Builtin.«enumerate.__new__» ⟨[.type "enumerate",.ref l],[(Str.ofString "start",.int 1 t)]⟩) (fun _ R s=>s.heap.get? l = some o ∧ s.heap.IsList l items ∧
   R (.ok (.ret (.ref (s.heap.push { cls:=.type "list_iterator",data:=.fields #[.ref l,.int 0 0] }).objs.size)))
    { s with heap:=(s.heap.push { cls:=.type "list_iterator",data:=.fields #[.ref l,.int 0 0] }).push { cls:=.type "enumerate",data:=.fields #[.none,.bool false,.ref s.heap.objs.size,rawInt 1,.none,.none] } }) :=
 .of_wp fun prog w A R s h=>by
  obtain ⟨h0,g0,d0,t0,o0⟩:=s
  obtain ⟨ho,hL,h⟩:=h
  have hsub:=sub_enumerate
  wp_walk using wpAny_loadPart' ho
  refine wpAny_stack_any fun stk=>?_
  refine wpAny_pure ?_
  split
  ·rename_i c _ _ _ _ _
   generalize (c == Value.type "enumerate") = b
   cases b <;> (wp_walk using wpAny_loadPart' ho,wpAny_pyIter_list hL; exact ⟨_,rfl,h⟩)
  ·wp_walk using wpAny_loadPart' ho,wpAny_pyIter_list hL
   exact ⟨_,rfl,h⟩
end PySem
end
section
namespace PySem
open Sem (wp)
theorem zek {prog:Program} {w:World} {A:Around} {E:Value → Shared → Prop} {s:Shared} {l:Addr} {items:Array Value} {t:Tok} {Q:Value → Shared → Prop} (hL:s.heap.IsList l items)
  (h:∀ h',IsEnum h' (s.heap.objs.size + 1) s.heap.objs.size 1 .none → h'.IsListIter s.heap.objs.size l 0 → h'.objs.size = s.heap.objs.size + 2 →
   (∀ b o,s.heap.get? b = some o → h'.get? b = some o) → Q (.ref (s.heap.objs.size + 1)) { s with heap:=h' }) :
  wpAny (model prog w) A (call (.type "enumerate") [.ref l] [(Str.ofString "start",.int 1 t)]) Q E s:=by
 have ft:=F.called_enumerate
 obtain ⟨c,tl,hmro⟩:=ft.mro
 have f1:=ft.made
 have f2:=ft.sub
 have f3:=ft.notType
 have f4:=ft.canCreate
 have f5:=zcy (.ref l) t
 obtain ⟨o,ho,_⟩:=id hL
 refine wpAny_call (codeAny_of_tree ?_)
 show wpAny _ _ (callAny (.type "enumerate") _) _ _ _
 refine wpAny_pure ⟨Code.quiet_builtin _ (by decide +kernel),?_⟩
 refine codeAny_builtin F.entry_type_call ?_
 rw [Around.under_plain (weight_type_call_type "enumerate" _ _) (units_type_call_type "enumerate" _ _)]
 repeat (any_goals (first | assumption | wp_step))
 have hz:(s.heap.push { cls:=.type "list_iterator",data:=.fields #[.ref l,.int 0 0] }).objs.size = s.heap.objs.size + 1:=Heap.size_push ..
 have he:IsEnum ((s.heap.push { cls:=.type "list_iterator",data:=.fields #[.ref l,.int 0 0] }).push { cls:=.type "enumerate",data:=.fields #[.none,.bool false,.ref s.heap.objs.size,rawInt 1,.none,.none] }) (s.heap.objs.size + 1) s.heap.objs.size 1 .none:=by
  rw [← hz]
  exact Heap.get?_push_size _ rfl
 have hi:((s.heap.push { cls:=.type "list_iterator",data:=.fields #[.ref l,.int 0 0] }).push { cls:=.type "enumerate",data:=.fields #[.none,.bool false,.ref s.heap.objs.size,rawInt 1,.none,.none] }).IsListIter s.heap.objs.size l 0 :=
  ⟨_,Heap.get?_push_of_some _ (Heap.get?_push_size _ rfl),rfl,rfl⟩
 have hsz:((s.heap.push { cls:=.type "list_iterator",data:=.fields #[.ref l,.int 0 0] }).push { cls:=.type "enumerate",data:=.fields #[.none,.bool false,.ref s.heap.objs.size,rawInt 1,.none,.none] }).objs.size = s.heap.objs.size + 2:=by
  rw [Heap.size_push,hz]
 have hq:=h _ he hi hsz fun b o x=>Heap.get?_push_of_some _ (Heap.get?_push_of_some _ x)
 have hN:wants (fun v s1=>v = Value.ref (s.heap.objs.size + 1) ∧ s1 = { s with heap:=(s.heap.push { cls:=.type "list_iterator",data:=.fields #[.ref l,.int 0 0] }).push { cls:=.type "enumerate",data:=.fields #[.none,.bool false,.ref s.heap.objs.size,rawInt 1,.none,.none] } }) E (.ok (.ret (.ref (s.heap.push { cls:=.type "list_iterator",data:=.fields #[.ref l,.int 0 0] }).objs.size)))
   { s with heap:=(s.heap.push { cls:=.type "list_iterator",data:=.fields #[.ref l,.int 0 0] }).push { cls:=.type "enumerate",data:=.fields #[.none,.bool false,.ref s.heap.objs.size,rawInt 1,.none,.none] } }:=by
  rw [hz]
  exact ⟨rfl,rfl⟩
 have hM:=zej l o items t prog w A.in1 _ s ⟨ho,hL,hN⟩
 generalize (s.heap.push { cls:=.type "list_iterator",data:=.fields #[.ref l,.int 0 0] }).push { cls:=.type "enumerate",data:=.fields #[.none,.bool false,.ref s.heap.objs.size,rawInt 1,.none,.none] } = h9 at he hi hsz hq hM
 have hT:({ s with heap:=h9 }:Shared).TypeIs (.ref (s.heap.objs.size + 1)) "enumerate" := ⟨_,he,rfl⟩
 have hli:=ft.init.lookup
 have hbi:=ft.init.bind (.ref (s.heap.objs.size + 1))
 refine codeAny_mono (codeAny_call_builtin (R:=wants (fun v s1=>v = .ref (s.heap.objs.size + 1) ∧ s1 = { s with heap:=h9 }) E) ft.plain F.entry_enumerate_new
  (wpAny_of_eq (zg7 _ t) hM)) fun r s1 hr=>?_
 cases r with
 | error e=>exact hr
 | ok fl =>
  cases fl with
  | ret v =>
   obtain ⟨rfl,rfl⟩:=hr
   dsimp only
   have hx:(some "enumerate.__new__" != some "object.__new__") = true:=by decide
   repeat (any_goals (first | assumption | wp_step))
   refine codeAny_call_builtin ft.init.plain F.entry_object_init (ft.init.check _ _ _ _ _ _ _ _ hT (zei _ _ t) ?_)
   unfold Builtin.«object.__init__»
   repeat (any_goals (first | assumption | wp_step))
  | _=>exact hr.elim
end PySem
end
section
namespace PySem.W
open PySem PySem.Spec PySem.Calls PyProof.Rows
open Builtin Builtin.Getset_descriptor
section
variable {prog:Program} {w:World} {A:Around} {E:Value → Shared → Prop} {s:Shared} {K:Frag} {x C:Addr} {R:Result → Shared → Prop}
structure ErrCls (K:Frag) (C:Addr):Prop where
 ga:findIn K (.ref C) "__getattribute__" = some (some (.builtin "BaseException.__getattribute__"))
 no:findIn K (.ref C) "__getattr__" = some none
 cl:findIn K (.ref C) "__class__" = some (some (.builtin "object.__class__"))
 sp:specialIn K (.builtin "object.__class__") "__get__" = some (some (.builtin "getset_descriptor.__get__"))
 tk:takesIn K (.builtin "object.__class__") = some true
 mo:mroIn K C (.type "object") = some true
 mb:mroIn K C (.type "BaseException") = some true
end
end PySem.W
namespace L2
open PySem PySem.Spec PyProof.Rows
section
variable {X:Cx}
theorem Inv.also {pins:List (Addr × Obj)} {σ:St} {H:Hp} {s:Shared} {x:Addr} {o:HO} (I:Inv X pins σ H s) (hx:H x = none) (hm:¬ Mine X pins x) (ok:ObjOk X.prog X.w (upd H x o) s.heap x o):Inv X pins σ (upd H x o) s:=by
 have nb:∀ b u,H b = some u → b ≠ x:=fun b u e z=>by rw [z,hx] at e; cases e
 refine ⟨I.ok,I.os,I.bare,⟨I.base.keep,I.base.slot,fun b ob e n hb=>?_,I.base.there,fun b ys e=>?_,fun b ob u e=>?_,fun b ps e=>?_⟩,I.loc,I.cell,?_,fun y c e=>?_,fun p hp=>?_,fun b ob e=>?_,I.len⟩
 ·have:b ≠ x:=fun z=>hm (.inl ⟨ob,z ▸ e⟩)
  rw [z9 this]
  exact I.base.free b ob e n hb
 ·have q:=I.base.tups b ys e
  rw [z9 (nb _ _ q)]
  exact q
 ·have q:=I.base.frzs b ob u e
  rw [z9 (nb _ _ q)]
  exact q
 ·obtain ⟨more,q⟩:=I.base.tbls b ps e
  exact ⟨more,by rw [z9 (nb _ _ q)]; exact q⟩
 ·have:X.env.locals ≠ x:=fun z=>hm (.inr (.inl z.symm))
  rw [z9 this]
  exact I.free
 ·have:c ≠ x:=fun z=>hm (.inr (.inr (.inl ⟨y,z ▸ e⟩)))
  rw [z9 this]
  exact I.freeC y c e
 ·obtain ⟨a1,a2,a3⟩:=I.pin p hp
  have:p.1 ≠ x:=fun z=>hm (.inr (.inr (.inr ⟨p,hp,z⟩)))
  exact ⟨a1,by rw [z9 this]; exact a2,a3⟩
 ·by_cases hb:b = x
  ·subst hb
   rw [z7] at e
   cases e
   exact ok
  ·rw [z9 hb] at e
   refine (I.hok b ob e).stay (fun _ _ _ q=>q) (fun c q=>?_) fun c ys q=>?_
   ·rw [z9 (nb _ _ q)]; exact q
   ·rw [z9 (nb _ _ q)]; exact q
end
end L2
end
section
namespace PySem
theorem Draws.late {prog:Program} {w:World} {A:Around} {it:Addr} {fp:List Addr} {n:Nat} {P:Nat → Value → Prop} {St:Nat → Heap → Prop} (D:Draws prog w A it fp n P St) :
  Draws prog w A it fp (n + 1) (fun i x=>P (i - 1) x) (fun i h=>1 ≤ i ∧ St (i - 1) h) where
 live:=fun i h st=>D.live _ _ st.2
 frame:=fun i h h' st k=>⟨st.1,D.frame _ _ _ st.2 k⟩
 item:=fun i s Q E hi st hQ=>D.item (i - 1) s Q E (by have:=st.1; omega) st.2 fun x h' tk hP hs hb=>hQ x h' tk hP ⟨by omega,by
  have e:i - 1 + 1 = i + 1 - 1:=by have:=st.1; omega
  rw [← e]; exact hs⟩ hb
 done:=fun s Q E st hE=>D.done s Q E st.2 hE
end PySem
namespace L2
open PySem PySem.Spec PyProof.Rows
theorem Inv.turned2 {X:Cx} {pins:List (Addr × Obj)} {σ:St} {H:Hp} {s:Shared} {h':Heap} {t':Nat} {e it:Addr} (I:Inv X pins σ H s) (k:∀ b o,b ≠ e → b ≠ it → s.heap.get? b = some o → h'.get? b = some o) (fe:FpOk X pins H e) (fi:FpOk X pins H it):Inv X pins σ H { s with heap:=h',toks:=t' }:=by
 obtain ⟨e0,e1,_,e3,e4,e5⟩:=fe
 obtain ⟨i0,i1,_,i3,i4,i5⟩:=fi
 have ne:∀ b u,H b = some u → b ≠ e:=fun b u q z=>by rw [z,e0] at q; cases q
 have ni:∀ b u,H b = some u → b ≠ it:=fun b u q z=>by rw [z,i0] at q; cases q
 have kc:∀ b o,b ∉ [e,it] → s.heap.get? b = some o → h'.get? b = some o:=fun b o hc q=>k b o (fun z=>hc (by simp [z])) (fun z=>hc (by simp [z])) q
 refine I.step (g':=s.gens) (d':=s.drawn) (ch:=[e,it]) (fun b hb=>?_) (fun b o _ _ hc q _=>kc b o hc q) (fun b o _ _ hc q _=>⟨o.slots,kc b o hc q⟩) (fun _ _ _ _ n=>n)
  (fun b o hc q=>⟨o,kc b o hc q⟩) (fun _ _ q=>q) (fun _ _ _ q=>q) (fun b ps q=>⟨#[],by rw [q]; simp⟩) (fun m hm=>?_) (fun b u q=>?_) I.bare
 ·rcases List.mem_cons.mp hb with z | z
  ·subst z; exact ⟨e3,e1,e4,e5⟩
  ·have z:b = it:=by simpa using z
   subst z; exact ⟨i3,i1,i4,i5⟩
 ·obtain ⟨o,es,ep,ho,r⟩:=hm
  exact ⟨o,es,ep,k _ o (Ne.symm e1) (Ne.symm i1) ho,r⟩
 ·refine (I.hok b u q).stay (fun c v hc z=>k c v ?_ ?_ z) (fun _ z=>z) fun _ _ z=>z
  ·rcases hc with y | y
   ·rw [y]; exact ne b u q
   ·exact ne c _ y
  ·rcases hc with y | y
   ·rw [y]; exact ni b u q
   ·exact ni c _ y
def Ite (K:PySem.W.Frag) (a:Addr):It :=
 ⟨fun i H=>∃ xs x,SqL K H a xs ∧ xs[i]? = some x,fun i H x H'=>∃ T v,x = .ref T ∧ H T = none ∧ H' = upd H T (.tup [.int ((i:Int) + 1),v]) ∧ ∀ xs,SqL K H a xs → xs[i]? = some v,fun i H=>∃ xs,SqL K H a xs ∧ xs.length ≤ i⟩
theorem zhp {X:Cx} {pins:List (Addr × Obj)} {σ:St} {H:Hp} {s:Shared} (I:Inv X pins σ H s) {T:Addr} (hT:s.heap.objs.size ≤ T):¬ Mine X pins T:=by
 intro hm
 rcases hm with ⟨o,e⟩ | e | ⟨y,e⟩ | ⟨p,hp,e⟩
 ·exact absurd (Nat.lt_of_lt_of_le (Heap.lt_size e) (Nat.le_trans I.sz hT)) (Nat.lt_irrefl _)
 ·rw [e] at hT
  exact absurd (Nat.lt_of_lt_of_le I.lt hT) (Nat.lt_irrefl _)
 ·obtain ⟨v,q⟩:=I.cell y T e
  exact absurd (Nat.lt_of_lt_of_le q.lt hT) (Nat.lt_irrefl _)
 ·have:=Heap.lt_size (I.pin p hp).1
  rw [e] at this
  exact absurd (Nat.lt_of_lt_of_le this hT) (Nat.lt_irrefl _)
theorem zg8 {P:Program} {w:World} {K:PySem.W.Frag} {els:List Expr} {x1} {tp:Pos} (a e it:Addr) (hne:e ≠ it):Turn P w K (.Tuple els x1 tp) (Ite K a) [e,it] e (fun i h=>(∃ old,IsEnum h e it (((i + 1:Nat)):Int) old) ∧ h.IsListIter it a i) where
 mem:=by simp
 obj:=fun i h st b hb=>by
  obtain ⟨⟨old,he⟩,o,ho,hc,hd⟩:=st
  rcases List.mem_cons.mp hb with z | z
  ·subst z
   exact ⟨_,he,fun v z=>by cases z⟩
  ·have z:b = it:=by simpa using z
   subst z
   exact ⟨o,ho,fun v z=>by rw [hd] at z; cases z⟩
 keep:=fun i h h' st k=>by
  obtain ⟨⟨old,he⟩,hl⟩:=st
  exact ⟨⟨old,k e (by simp) _ he⟩,hl.at fun o q=>k it (by simp) o q⟩
 item:=by
  intro X hP hw hK hc i pins s σ H E I hf st hg
  subst hP hw hK
  obtain ⟨xs,x,hq,hx⟩:=hg
  obtain ⟨its,rv,p,hz⟩:=I.list hq
  obtain ⟨⟨old,he⟩,hl⟩:=st
  obtain ⟨u,hu,ru⟩:=rv.get hx
  have hlen:=rv.length
  have hi:i < its.length:=(List.getElem?_eq_some_iff.mp hu).1
  have fe:=hf e (by simp)
  have fi:=hf it (by simp)
  have nai:a ≠ it:=fun z=>by
   obtain ⟨o,ho,hcc,_⟩:=hl
   obtain ⟨o2,n2,ho2,hc2,_⟩:=p
   rw [← z,ho2] at ho
   cases ho
   rw [hc2] at hcc
   injection hcc with y
   exact absurd y (by decide)
  have nae:e ≠ a:=fun z=>by
   obtain ⟨o2,n2,ho2,hc2,_⟩:=p
   rw [← z,he] at ho2
   cases ho2
   have y:Value.type "enumerate" = Value.type "list" := hc2
   injection y with y
   exact absurd y (by decide)
  have D:=(Draws.list (prog:=X.prog) (w:=X.w) (A:=X.A.in1) (by exact I.ok.hd hc) it a nai its.toArray).late
  refine wpAny_pyNext_enum_itemD D he (i:=i + 1) ⟨by omega,hl,p.isList⟩ (by rw [List.size_toArray]; omega) hne (by simp [hne,nae]) fun v h' tk hP ho hs hT hsz hk=>?_
  have hv:v = u:=by
   have:its.toArray[i + 1 - 1]? = some v:=hP
   have e0:its[i]? = some v:=by simpa using this
   rw [hu] at e0
   exact (Option.some.inj e0).symm
  subst hv
  refine ⟨_,rfl,?_⟩
  have I1:Inv X pins σ H { s with heap:=h',toks:=tk + 1 }:=I.turned2 (fun b o n1 n2 q=>hk b o n1 n2 q) fe fi
  refine wpAny_letOwnedTupleGo_enum (s:={ s with heap:=h',toks:=tk + 1 }) ho fun h2 he2 hs2=>?_
  obtain ⟨f0,f1,f2,f3,f4,f5⟩:=fe
  have I2:Inv X pins σ H { s with heap:=h2,toks:=tk + 1 }:=I1.turned (t':=tk + 1) (fun b o hb q=>(hs2.2 b hb).trans q) f0 f1 f3 f4 f5
  have hTe:s.heap.objs.size ≠ e:=Nat.ne_of_gt (Heap.lt_size he)
  have hT2:h2.get? s.heap.objs.size = some { cls:=.type "tuple",data:=.seq #[.int (((i + 1:Nat)):Int) tk,v] }:=(hs2.2 _ hTe).trans hT
  have hn0:H s.heap.objs.size = none:=I.fresh
  have hm:¬ Mine X pins s.heap.objs.size:=zhp I (Nat.le_refl _)
  have e1:(((i + 1:Nat)):Int) = (i:Int) + 1:=by omega
  have ok:ObjOk X.prog X.w (upd H s.heap.objs.size (.tup [.int ((i:Int) + 1),x])) h2 s.heap.objs.size (.tup [.int ((i:Int) + 1),x]):=by
   refine ⟨zd (by show 2 ≤ 1000000; decide),[.int (((i + 1:Nat)):Int) tk,v],.cons ⟨tk,by rw [e1]⟩ (.cons ru .nil),_,hT2,rfl,_,rfl⟩
  refine ⟨.ref s.heap.objs.size,_,I2.also hn0 hm ok,rfl,⟨_,x,rfl,hn0,rfl,fun ys hy=>by rw [I.list_inj hy hq]; exact hx⟩,⟨⟨v,?_⟩,?_⟩,fun b hb=>?_⟩
  ·exact he2
  ·exact hs.2.1.at fun o q=>(hs2.2 it (Ne.symm hne)).trans q
  ·have nb:b ≠ s.heap.objs.size:=by
    obtain ⟨o,q⟩:∃ o,s.heap.get? b = some o:=by
     rcases List.mem_cons.mp hb with z | z
     ·exact ⟨_,z ▸ he⟩
     ·have z:b = it:=by simpa using z
      obtain ⟨o,q,_⟩:=hl
      exact ⟨o,z ▸ q⟩
    exact Nat.ne_of_lt (Heap.lt_size q)
   rw [z9 nb]
   exact (hf b hb).1
 done:=by
  intro X hP hw hK hc i pins s σ H E I hf st hg
  subst hP hw hK
  obtain ⟨xs,hq,hx⟩:=hg
  obtain ⟨its,rv,p,hz⟩:=I.list hq
  obtain ⟨⟨old,he⟩,hl⟩:=st
  have hlen:=rv.length
  have fi:=hf it (by simp)
  have D:Draws X.prog X.w X.A.in1 it [it,a] (i + 1) (fun _ _=>False) (fun j h=>j = i + 1 ∧ h.IsListIter it a i ∧ h.IsList a its.toArray):={
   live:=fun j h st=>(let ⟨o,ho,_⟩:=st.2.1; ⟨o,ho⟩)
   frame:=fun j h h' st k=>⟨st.1,st.2.1.at fun o q=>k it (by simp) o q,st.2.2.at fun o q=>k a (by simp) o q⟩
   item:=fun j s Q E hj st _=>absurd st.1 (by omega)
   done:=fun s Q E st hE=>wpAny_nextOf_list_end (by exact I.ok.hd hc) st.2.1 st.2.2 (by simp; omega) hE }
  obtain ⟨f0,f1,f2,f3,f4,f5⟩:=fi
  exact wpAny_pyNext_enum_endD D he ⟨rfl,hl,p.isList⟩ fun h' hx=>⟨rfl,I.turned (t':=s.toks) (fun b o hb q=>hx b o hb q) f0 f1 f3 f4 f5⟩
 self:=fun _ _ _ _ _ st h=>by
  obtain ⟨⟨old,he⟩,_⟩:=st
  exact wpAny_pyIter_enum he h
section
variable {X:Cx}
theorem z81 {M:Model} {A:Around} {E:Value → Shared → Prop} {s:Shared} {pos:Pos} {T:String} {args:List (Bool × Sem Value)} {keywords:List (Option Str × Sem Value)} {Q:Value → Shared → Prop}
  (hp:args.any (·.1) = false) (hk:keywords.any (·.1.isNone) = false)
  (h:wpAny M A (evalArgs (.type T) true args keywords) (fun b s1=>wpAny M A (call (.type T) ([] ++ b.pos) b.kw) Q E s1) E s):wpAny M A (callWith pos (.type T) [] args keywords) Q E s:=by
 unfold callWith
 refine wpAny_bind (wpAny_holding ?_)
 refine wpAny_mono h (fun b s1 h1=>?_) fun _ _ z=>z
 refine wpAny_bind (wpAny_standAt ?_)
 simp only [hp,hk,Bool.or_false]
 refine wpAny_bind (wpAny_pure ?_)
 refine wpAny_bind (wpAny_mono h1 (fun r s2 hr=>?_) fun _ _ z=>z)
 exact wpAny_bind (wpAny_holding (wpAny_point (wpAny_pure hr)))
def zin (K:PySem.W.Frag) (ta tk:TA):TI:=fun σ H R=>ta σ H fun vs H1=>tk σ H1 fun ws H2=>∃ a xs,vs = [.ref a] ∧ ws = [.int 1] ∧ SqL K H2 a xs ∧ R (Ite K a) H2
theorem z9p:bootBuiltins "enumerate" = some (.type "enumerate"):=by decide +kernel
theorem zhq {els:List Expr} {x1} {tp:Pos} {a c:Expr} {ta tk:TA} {p pos kp:Pos} (hg:Gl X "enumerate") (hm:X.mg "enumerate" = none) (ha:PA X [a] ta) (hk:PK X [⟨some (Str.ofString "start"),c,kp⟩] tk)
  (he:backTo pos (starEach [a] X.env) = (false,eval a X.env) :: backTo pos (starEach [] X.env):=by rfl) (hpl:(backTo pos (starEach [a] X.env)).any (·.1) = false:=by rfl):PI X (.Tuple els x1 tp) (.Call (.Name "enumerate" p) [a] [⟨some (Str.ofString "start"),c,kp⟩] pos) (zin X.K ta tk):=by
 intro pins s σ H R I h
 refine wpAny_Call_Name_kw (z46 I hg hm z9p ?_)
 refine z81 hpl (by rfl) ?_
 rw [he]
 refine evalArgs_kwB (by rfl) ?_
 rw [← he]
 refine thn (ha pos pins s σ H _ I h) fun us s1 ⟨vs,H1,I1,r1,q1⟩=>?_
 refine thn (hk pos pins s1 σ H1 _ I1 q1) fun ws s2 ⟨zs,H2,I2,r2,q2⟩=>?_
 obtain ⟨b,xs,e1,e2,hq,q⟩:=q2
 subst e1 e2
 obtain ⟨u,rfl,ru⟩:=r1.one
 cases ru
 obtain ⟨u2,rfl,ru2⟩:=r2.one
 obtain ⟨t,rfl⟩:=ru2
 obtain ⟨its,rv,pl,hz⟩:=I2.list hq
 refine zek pl.isList fun h9 he9 hi9 hsz9 hk9=>?_
 refine wpAny_pyIter_enum (s:={ s2 with heap:=h9 }) he9 ?_
 have hne:s2.heap.objs.size + 1 ≠ s2.heap.objs.size:=Nat.succ_ne_self _
 refine ⟨s2.heap.objs.size + 1,[s2.heap.objs.size + 1,s2.heap.objs.size],_,_,H2,rfl,I2.kept (t':=s2.toks) hk9,zg8 b _ _ hne,⟨⟨_,he9⟩,hi9⟩,fun d hd=>?_,q⟩
 rcases List.mem_cons.mp hd with z | z
 ·subst z
  exact I2.fpOk (Nat.le_succ _) (I2.hok.fresh (Nat.le_succ _))
 ·have z:d = s2.heap.objs.size:=by simpa using z
  subst z
  exact I2.fpOk (Nat.le_refl _) (I2.hok.fresh (Nat.le_refl _))
end
end L2
end
section
namespace L2
open PySem PySem.Spec PyProof.Rows
structure CompScope2 (X:Cx) (sc:Scope) (x y2:Str) (cap:List Str) (js:List Nat):Prop where
 kind:sc.kind = .function
 nocell:∀ y ∈ sc.names,y.2 ≠ .cell
 names:∀ y ∈ sc.names,y.2 = .local → sc.names.lookup y.1 = some .local
 own:sc.names.lookup x = some .local
 own2:sc.names.lookup y2 = some .local
 free:∀ y ∈ sc.names,y.2 = .free → X.env.kindOf y.1 = some .cell ∨ X.env.kindOf y.1 = some .free
 nd:(x :: y2 :: cap).Nodup
 caps:CapOk X sc cap js
section
variable {X:Cx} {sc:Scope} {x y2:Str} {cap:List Str} {js:List Nat} {pins:List (Addr × Obj)} {σ:St} {H:Hp} {s:Shared}
theorem CompScope2.cells (S:CompScope2 X sc x y2 cap js) (I:Inv X pins σ H s):∀ y ∈ sc.names,y.2 = .free → ∃ c,X.env.cells.lookup y.1 = some c:=fun y hy hf=>I.ok.has y.1 (S.free y hy hf)
theorem CompScope2.sub (S:CompScope2 X sc x y2 cap js) (I:Inv X pins σ H s) {y:Str} {c:Addr} (h:(z1p X.env sc.names []).lookup y = some c):X.env.cells.lookup y = some c :=
 z4k (S.cells I) (fun _ _ e=>by simp at e) h
theorem zcz {s4:Shared} {h4:Heap} {t4:Nat} {fp:List Addr} {C:Addr} {v:Option V} {m:Str → Option Value} (S:CompScope2 X sc x y2 cap js) (I:Inv X pins σ H s) (hfp:∀ b ∈ fp,FpOk X pins H b) (hlt:∀ b ∈ fp,b < s.heap.objs.size)
    (hC:s.heap.objs.size ≤ C) (hn:h4.Ns C m) (k:∀ b o,s.heap.get? b = some o → h4.get? b = some o) :
    Inv (zr X sc (x :: y2 :: cap) s H C fp) [] (none :: none :: capt σ js) H { s with heap:=h4,toks:=t4 }:=by
  have nf:∀ b ∈ frs X.stack,b < s.heap.objs.size:=fun b hb=>by
    obtain ⟨_,o,ho,_⟩:=I.stack.mem hb
    exact Heap.lt_size ho
  refine ⟨⟨I.ok.mod,S.kind,I.ok.glob,I.ok.blt,hC,fun y z c h1 h2=>I.ok.inj y z c (S.sub I h1) (S.sub I h2),fun y hy=>?_,fun y c h=>absurd h Bool.false_ne_true,I.ok.hd,I.ok.frames,.inl rfl,fun b hb=>⟨Nat.ne_of_lt (Nat.lt_of_lt_of_le (hlt b hb) hC),fun y c e=>(hfp b hb).2.2.2.2.1 y c (S.sub I e)⟩,I.bs,
      Nat.le_trans I.ok.bsz I.sz,fun b o e hb=>?_,fun b hb z=>?_,I.stack,I.stkFree⟩,rfl,I.bare,Un.kept k,⟨m,hn,fun i y v' h1 h2 h3=>?_⟩,fun y c e=>?_,I.hok.fresh hC,fun y c e=>I.freeC y c (S.sub I e),fun p hp=>absurd (show p ∈ ([]:List (Addr × Obj)) from hp) (by simp),I.hok.kept k,?_⟩
  · exact z34 (by
      rcases hy with z | z
      · exact z44 z (.inl rfl) S.nocell
      · exact z44 z (.inr rfl) S.nocell)
  · rcases (hfp b hb).2.2.2.1 with z | z
    · exact I.ok.noex b o e z
    · exact absurd (Nat.lt_of_lt_of_le (Heap.lt_size e) (Nat.le_trans I.ok.bsz z)) (Nat.lt_irrefl _)
  · rcases List.mem_cons.mp (I.stkSub b z) with q | q
    · exact (hfp b hb).2.1 q
    · exact (hfp b hb).2.2.1 q
  · cases i with
    | zero=>exact absurd (show (none:Option V) = some v' from Option.some.inj h2) (by simp)
    | succ i =>
     cases i with
     | zero=>exact absurd (show (none:Option V) = some v' from Option.some.inj h2) (by simp)
     | succ i =>
      have e1:cap[i]? = some y:=by simpa using h1
      obtain ⟨j,q1,q2,q3,q4⟩:=S.caps.get e1
      have e2:(capt σ js)[i]? = some (some v'):=by simpa using h2
      have e3:σ[j]? = some (some v'):=by
        unfold capt at e2
        rw [List.getElem?_map,q1,Option.map_some] at e2
        have e4:(σ[j]?).join = some v':=Option.some.inj e2
        cases q:σ[j]? with
        | none=>rw [q] at e4; cases e4
        | some w=>rw [q] at e4; exact congrArg some e4
      have vis:Vis X.env.scope y:=by
        rcases q3 with q3 | q3
        · exact .inr (.inl q3)
        · exact .inr (.inr q3)
      obtain ⟨mX,hnX,hl⟩:=I.loc
      obtain ⟨u,ru,lk⟩:=hl j y v' q2 e3 vis
      refine ⟨u,ru,.inr ?_⟩
      rcases lk with ⟨hk,_⟩ | ⟨hk,c,hc,hcell⟩
      · rcases q3 with q3 | q3
        · rw [q3] at hk; cases hk
        · rw [q3] at hk; cases hk
      · obtain ⟨c',hc'⟩:=z34 (env:=X.env) (cs:=[]) (PySem.mem_of_lookup q4)
        have:=S.sub I hc'
        rw [hc] at this
        cases this
        obtain ⟨o,ho,hd⟩:=hcell
        refine ⟨?_,c,hc',⟨o,k c o ho,hd⟩⟩
        rcases h3 with z | z | z
        · exfalso
          have hz:=PySem.mem_of_lookup z
          obtain ⟨⟨n,k'⟩,hn',en⟩:=List.mem_map.mp hz
          by_cases hf:(k' == NameKind.free && X.env.scope.kind == .function && X.env.kindOf n == some .cell) = true
          · simp only [hf,if_true] at en
            cases en
          · simp only [hf,if_false] at en
            cases en
            have:=S.names _ hn' rfl
            rw [q4] at this
            cases this
        · exact .inl z
        · exact .inr z
  · obtain ⟨v',o,ho,hd⟩:=I.cell y c (S.sub I e)
    exact ⟨v',o,k c o ho,hd⟩
  · show (none :: none :: capt σ js).length = (x :: y2 :: cap).length
    unfold capt
    rw [List.length_cons,List.length_cons,List.length_cons,List.length_cons,List.length_map,S.caps.len]
end
def z4p (J:It) (g2:TG) (tc:TT) (te:TE) (js:List Nat) (σ:St) (H1:Hp) (Q:VK):Prop :=
 ∃ W:Nat → Nat → List V → Hp → Prop,(∃ m,W 0 m [] H1) ∧ ∀ i m acc H,W i m acc H →
  (J.stop i H ∧ ∀ p,H p = none → Q (.ref p) (upd H p (.lst acc))) ∨
  (J.go i H ∧ acc.length < sizeLine ∧ ∀ x H',J.yld i H x H' → g2 x (none :: none :: capt σ js) H' fun σ2 H4=>(∃ a b,σ2 = a :: b :: capt σ js) ∧ tc σ2 H4 fun b H2 =>
   if b = true then te σ2 H2 fun v H3=>∃ m',m' < m ∧ W (i + 1) m' (acc ++ [v]) H3 else ∃ m',m' < m ∧ W (i + 1) m' acc H2)
def zg9 (wi:TI) (g2:TG) (tc:TT) (te:TE) (js:List Nat):TE:=fun σ H Q=>wi σ H fun J H1=>z4p J g2 tc te js σ H1 Q
section
variable {X:Cx} {sc:Scope} {x y2:Str} {cap:List Str} {js:List Nat} {pins:List (Addr × Obj)} {σ:St} {H:Hp} {s:Shared} {elt iter tg:Expr} {g2:TG} {ifs:List Expr} {px pos:Pos} {tc:TT} {te:TE}
theorem zd0 {J:It} {it:Addr} {fp:List Addr} {tn:Nat → Heap → Prop} {Q:VK} {E:Value → Shared → Prop} {RR:Value → Addr → Result → Shared → Prop} (S:CompScope2 X sc x y2 cap js) (hgt:∀ s H C fp,PG (zr X sc (x :: y2 :: cap) s H C fp) tg g2) (hcalm:X.calm = true)
  (hc:∀ s H C fp,PIf (zr X sc (x :: y2 :: cap) s H C fp) ifs tc) (he:∀ s H C fp,PE (zr X sc (x :: y2 :: cap) s H C fp) elt te)
  (I:Inv X pins σ H s) (T:Turn X.prog X.w X.K tg J fp it tn) (st:tn 0 s.heap) (hfp:∀ b ∈ fp,FpOk X pins H b) (go:z4p J g2 tc te js σ H Q)
  (hRR:∀ D C HB sB σB acc its n,s.heap.objs.size ≤ D → s.heap.objs.size ≤ C → D ≠ C → Inv (zr X sc (x :: y2 :: cap) s H C fp) [] σB HB sB → HB D = none → sB.heap.get? D = some { cls:=.type "list",data:=.seq (its:List Value).toArray n } → Vals acc its → acc.length ≤ sizeLine →
   (∀ p,HB p = none → Q (.ref p) (upd HB p (.lst acc))) → RR (.ref D) C (.ok .next) sB) :
  wpAny (model X.prog X.w) X.A (newList []) (fun acc s₃=>wpAny (model X.prog X.w) X.A (newFunctionEnv sc X.env.globals (z1p X.env sc.names []) [] X.env.qual none .none (some X.env)) (fun cenv s₄ =>
   codeAny (model X.prog X.w) X.A (.compStart (.ListComp elt [⟨tg,iter,ifs,0⟩] sc pos) 0 (.ref it) acc { cenv with scope:=relabel sc X.env }) (RR acc cenv.locals) s₄) E s₃) E s:=by
 refine wpAny_newObj_type (wpAny_newFunctionEnv S.nocell (by intro y hy; simp at hy) (fun h₁ hns₁ hsb₁=>?_) S.kind)
 dsimp only at hns₁ hsb₁ ⊢
 generalize hH2:s.heap.push { cls:=.type "list",dict:=none,data:=.seq ([]:List Value).toArray } = H2 at hns₁ hsb₁ ⊢
 have hCs:H2.objs.size = s.heap.objs.size + 1:=by rw [← hH2,Heap.size_push]
 have hDC:s.heap.objs.size ≠ H2.objs.size:=by rw [hCs]; exact Nat.ne_of_lt (Nat.lt_succ_self _)
 have hCle:s.heap.objs.size ≤ H2.objs.size:=by rw [hCs]; exact Nat.le_succ _
 have below:∀ b,b < s.heap.objs.size → b ≠ H2.objs.size:=fun b hb=>by rw [hCs]; exact Nat.ne_of_lt (Nat.lt_succ_of_lt hb)
 have old:∀ b o,s.heap.get? b = some o → h₁.get? b = some o:=fun b o e=>hsb₁.extBut b o (below b (Heap.lt_size e)) (Heap.get?_push_of_some _ (hH2 ▸ Heap.get?_push_of_some _ e))
 have hacc:h₁.get? s.heap.objs.size = some { cls:=.type "list",data:=.seq ([]:List Value).toArray 0 }:=hsb₁.extBut _ _ hDC (Heap.get?_push_of_some _ (hH2 ▸ Heap.get?_push_size _ rfl))
 have hlt:∀ b ∈ fp,b < s.heap.objs.size:=fun b hb=>by
  obtain ⟨o,e,_⟩:=T.obj _ _ st b hb
  exact Heap.lt_size e
 obtain ⟨W,⟨m0,w0⟩,turn⟩:=go
 have nD:∀ b ∈ fp,b ≠ s.heap.objs.size:=fun b hb=>Nat.ne_of_lt (hlt b hb)
 have nfs:s.heap.objs.size ∉ frs X.stack:=fun z=>by
  obtain ⟨_,o,ho,_⟩:=I.stack.mem z
  exact absurd (Heap.lt_size ho) (Nat.lt_irrefl _)
 have ncl:∀ y c,(z1p X.env sc.names []).lookup y = some c → c ≠ s.heap.objs.size:=fun y c e=>by
  obtain ⟨v,o,ho,_⟩:=I.cell y c (S.sub I e)
  exact Nat.ne_of_lt (Heap.lt_size ho)
 have loop:∀ s₃:Shared,s₃ = { s with heap:=h₁,toks:=s.toks + ([]:List (Str × Value)).length } →
   codeAny (model X.prog X.w) X.A (.compLoop (.ListComp elt [⟨tg,iter,ifs,0⟩] sc pos) 0 (.ref it) (.ref s.heap.objs.size) (compEnvC sc (z1p X.env sc.names []) H2.objs.size X.env))
    (RR (.ref s.heap.objs.size) H2.objs.size) s₃:=by
  rintro s₃ rfl
  have I0:Inv (zr X sc (x :: y2 :: cap) s H H2.objs.size fp) [] (none :: none :: capt σ js) H { s with heap:=h₁,toks:=s.toks + ([]:List (Str × Value)).length }:=zcz (v:=none) S I hfp hlt hCle hns₁ old (s4:=s)
  refine z7n (fun n s'=>∃ i H' acc its k,Inv (zr X sc (x :: y2 :: cap) s H H2.objs.size fp) [] (none :: none :: capt σ js) H' s' ∧ tn i s'.heap ∧ (∀ b ∈ fp,H' b = none) ∧ H' s.heap.objs.size = none ∧
    s'.heap.get? s.heap.objs.size = some { cls:=.type "list",data:=.seq (its:List Value).toArray k } ∧ Vals acc its ∧ acc.length ≤ sizeLine ∧ W i n acc H') ?_ m0
   ⟨0,H,[],[],0,I0,T.keep _ _ _ st fun b _ o e=>old b o e,fun b hb=>(hfp b hb).1,I.hok.fresh (Nat.le_refl _),hacc,.nil,Nat.zero_le _,w0⟩
  rintro n s3 ⟨i,H3,acc,its,kk,I3,st3,fr3,fD3,d3,r3,z3,w3⟩
  have fpY:∀ {H':Hp} {pl:List (Addr × Obj)},(∀ b ∈ fp,H' b = none) → (∀ p ∈ pl,p.1 = s.heap.objs.size) → ∀ b ∈ fp,FpOk (zr X sc (x :: y2 :: cap) s H H2.objs.size fp) pl H' b:=fun {H' pl} hn hp b hb =>
   ⟨hn b hb,below b (hlt b hb),fun z=>by
    rcases List.mem_cons.mp (I.stkSub b z) with q | q
    ·exact (hfp b hb).2.1 q
    ·exact (hfp b hb).2.2.1 q,.inl hb,fun y c e=>(hfp b hb).2.2.2.2.1 y c (S.sub I e),fun p hp'=>by
    rw [hp p hp']
    exact Ne.symm (nD b hb)⟩
  have pin3:Inv (zr X sc (x :: y2 :: cap) s H H2.objs.size fp) [(s.heap.objs.size,{ cls:=.type "list",data:=.seq its.toArray kk })] (none :: none :: capt σ js) H3 s3:=I3.pins_of fun p hp=>by
   have e:p = (s.heap.objs.size,{ cls:=.type "list",data:=.seq its.toArray kk }):=by simpa using hp
   subst e
   exact ⟨d3,fD3,hDC,nfs,fun v z=>by cases z⟩
  have onlyD:∀ p ∈ [(s.heap.objs.size,({ cls:=.type "list",data:=.seq its.toArray kk }:Obj))],p.1 = s.heap.objs.size:=fun p hp=>by
   have e:p = (s.heap.objs.size,{ cls:=.type "list",data:=.seq its.toArray kk }):=by simpa using hp
   rw [e]
  rcases turn i n acc H3 w3 with ⟨stop,qn⟩ | ⟨gon,hlen,step⟩
  ·refine wpAny_mono (T.done (zr X sc (x :: y2 :: cap) s H H2.objs.size fp) rfl rfl rfl hcalm i _ s3 _ H3 (fun _ _=>False) pin3 (fpY fr3 onlyD) st3 stop) (fun r s4 hr=>?_) fun _ _ z=>z.elim
   obtain ⟨hr,I4⟩:=hr
   subst hr
   have d4:=(I4.pin _ (List.mem_append_right _ List.mem_cons_self)).1
   exact hRR _ _ H3 s4 _ acc its kk (Nat.le_refl _) hCle hDC (I4.pins_of fun p hp=>by simp at hp) fD3 d4 r3 z3 qn
  ·refine wpAny_mono (T.item (zr X sc (x :: y2 :: cap) s H H2.objs.size fp) rfl rfl rfl hcalm i _ s3 _ H3 (fun _ _=>False) pin3 (fpY fr3 onlyD) st3 gon) (fun r s4 hr=>?_) fun _ _ z=>z.elim
   obtain ⟨u,hr,h4⟩:=hr
   subst hr
   dsimp only
   refine wpAny_mono h4 (fun _ s5 h5=>?_) fun _ _ z=>z.elim
   obtain ⟨xv,H5,I5,r5,y5,st5,fr5⟩:=h5
   have I5':=I5.pinned (fpY fr5 onlyD) (T.obj _ _ st5)
   refine wpAny_mono (hgt s H H2.objs.size fp _ s5 _ H5 _ _ _ I5' r5 (step xv H5 y5)) (fun _ s6 q6=>?_) fun _ _ z=>z.elim
   obtain ⟨σ6,H6,I6',⟨va,vb,e6⟩,q6⟩:=q6
   subst e6
   refine wpAny_mono (hc s H H2.objs.size fp _ s6 _ H6 _ I6' q6) (fun b s7 q7=>?_) fun _ _ z=>z.elim
   obtain ⟨H7,I7,q7⟩:=q7
   have weak:∀ {pl:List (Addr × Obj)} {HH:Hp} {ss:Shared},Inv (zr X sc (x :: y2 :: cap) s H H2.objs.size fp) pl (va :: vb :: capt σ js) HH ss → Inv (zr X sc (x :: y2 :: cap) s H H2.objs.size fp) pl (none :: none :: capt σ js) HH ss:=fun J=>J.weak rfl fun k v e=>by
    cases k with
    | zero=>exact absurd (Option.some.inj e) (by simp)
    | succ k =>
     cases k with
     | zero=>exact absurd (Option.some.inj e) (by simp)
     | succ k=>simpa using e
   have back:∀ {HH:Hp} {ss:Shared},Inv (zr X sc (x :: y2 :: cap) s H H2.objs.size fp) ([(s.heap.objs.size,{ cls:=.type "list",data:=.seq its.toArray kk })] ++ z4q fp s5.heap) (va :: vb :: capt σ js) HH ss →
     tn (i + 1) ss.heap ∧ (∀ b ∈ fp,HH b = none) ∧ HH s.heap.objs.size = none ∧ ss.heap.get? s.heap.objs.size = some { cls:=.type "list",data:=.seq its.toArray kk }:=fun {HH ss} K=>by
    refine ⟨T.keep _ _ _ st5 fun b hb o e=>(K.pin (b,o) (List.mem_append_right _ (List.mem_append_right _ (z33 hb e)))).1,fun b hb=>?_,?_,?_⟩
    ·obtain ⟨o,e,d⟩:=T.obj _ _ st5 b hb
     exact (K.pin (b,o) (List.mem_append_right _ (List.mem_append_right _ (z33 hb e)))).2.1
    ·exact (K.pin _ (List.mem_append_right _ (List.mem_append_left _ List.mem_cons_self))).2.1
    ·exact (K.pin _ (List.mem_append_right _ (List.mem_append_left _ List.mem_cons_self))).1
   cases b with
   | false =>
    rw [if_neg Bool.false_ne_true] at q7 ⊢
    obtain ⟨m',hm,w7⟩:=q7
    obtain ⟨b1,b2,b3,b4⟩:=back I7
    exact ⟨m',hm,i + 1,H7,acc,its,kk,(weak I7).pins_of fun p hp=>by simp at hp,b1,b2,b3,b4,r3,z3,w7⟩
   | true =>
    rw [if_pos rfl] at q7 ⊢
    refine wpAny_mono (he s H H2.objs.size fp _ s7 _ H7 _ I7 q7) (fun u8 s8 q8=>?_) fun _ _ z=>z.elim
    obtain ⟨v8,H8,I8,r8,m',hm,w8⟩:=q8
    obtain ⟨b1,b2,b3,b4⟩:=back I8
    have hl3:=r3.length
    refine call_meets F.slot_list_append ⟨_,b4,rfl⟩ F.entry_list_append (F.args_list_append_2 _ _) (PySem.list_append s.heap.objs.size its.toArray kk u8 (by rw [List.size_toArray]; omega)) ⟨b4,?_⟩
    have q:=PySem.IsL.update b4 (·.push u8)
    obtain ⟨n',q'⟩:∃ n',(s8.heap.update s.heap.objs.size (Obj.mapSeq (·.push u8))).get? s.heap.objs.size = some { cls:=.type "list",data:=.seq (its ++ [u8]).toArray n' }:=by
     rw [show (its ++ [u8]).toArray = its.toArray.push u8 by simp]
     exact ⟨_,q⟩
    refine ⟨m',hm,i + 1,H8,acc ++ [v8],its ++ [u8],_,?_,T.keep _ _ _ b1 fun b hb o e=>(Heap.get?_update_other s8.heap _ (Ne.symm (nD b hb))).trans e,b2,b3,q',r3.append (.cons r8 .nil),by rw [List.length_append,List.length_singleton]; omega,w8⟩
    exact Inv.turned (X:=zr X sc (x :: y2 :: cap) s H H2.objs.size fp) (it:=s.heap.objs.size) ((weak I8).pins_of (pins':=[]) fun p hp=>by simp at hp) (fun b o hb e=>(Heap.get?_update_other s8.heap _ (Ne.symm hb)).trans e) b3 hDC (.inr (Nat.le_refl _)) ncl (fun p hp=>absurd (show p ∈ ([]:List (Addr × Obj)) from hp) (by simp))
 exact codeAny_compStart_list (loop _ rfl) (T.self _ 0 _ _ _ (T.keep _ _ _ st fun b _ o e=>old b o e) (loop _ rfl))
theorem z82 {wi:TI} (hcalm:X.calm = true) (S:CompScope2 X sc x y2 cap js) (hgt:∀ s H C fp,PG (zr X sc (x :: y2 :: cap) s H C fp) tg g2) (hi:PI X tg iter wi) (hc:∀ s H C fp,PIf (zr X sc (x :: y2 :: cap) s H C fp) ifs tc) (he:∀ s H C fp,PE (zr X sc (x :: y2 :: cap) s H C fp) elt te)
  (hs:∀ x,foldedSetIterable iter X.env x = pure x:=by intro _; rfl):PE X (.ListComp elt [⟨tg,iter,ifs,0⟩] sc pos) (zg9 wi g2 tc te js):=by
 intro pins s σ H Q I h
 rw [eval_ListComp]
 refine wpAny_comprehension_free (use:=none) rfl hs (z4j (S.cells I)) S.kind S.names (thn (hi pins s σ H _ I h) fun v s1 h1=>thn h1 fun itv s2 h2=>?_)
 obtain ⟨it,fp,tn,J,H2,e,I2,T,st2,f2,go⟩:=h2
 subst e
 refine zd0 S hgt hcalm hc he I2 T st2 f2 go fun D C HB sB σB acc its n hD hC hDC IB hHD hd rv hz q=>?_
 obtain ⟨m,hn,_⟩:=IB.loc
 exact ⟨m,hn,fun h' sb=>⟨.ref D,upd HB D (.lst acc),z7z (sc:=sc) (x:=x) (cap:=y2 :: cap) I2 f2 IB hC hD hDC hHD hd rv hz fun b o hb e=>sb.extBut b o hb e,rfl,q D hHD⟩⟩
end
end L2
end
section
namespace L2
open PySem PySem.Spec PyProof.Rows
theorem zel (wi:TI) (g2:TG) (tc:TT) (te:TE) (js:List Nat) (σ:St) (H:Hp) (Q:VK):zg9 wi g2 tc te js σ H Q = wi σ H fun J H1=>z4p J g2 tc te js σ H1 Q:=rfl
theorem zga (K:PySem.W.Frag) (ta tk:TA) (σ:St) (H:Hp) (R:It → Hp → Prop):zin K ta tk σ H R = ta σ H fun vs H1=>tk σ H1 fun ws H2=>∃ a xs,vs = [.ref a] ∧ ws = [.int 1] ∧ SqL K H2 a xs ∧ R (Ite K a) H2:=rfl
section
variable {J:It} {K:PySem.W.Frag} {a:Addr} {xs:List V} {g2:TG} {tc:TT} {te:TE} {js:List Nat} {σ:St} {H1:Hp} {Q:VK}
theorem z7o (n:Nat) (hn:n ≤ sizeLine) (Pv:Nat → List V → Hp → Prop) (h0:Pv 0 [] H1) (hlen:∀ i acc H,Pv i acc H → acc.length ≤ i)
  (hgo:∀ i acc H,i < n → Pv i acc H → J.go i H) (hstop:∀ acc H,Pv n acc H → J.stop n H)
  (hs:∀ i acc H x H',i < n → Pv i acc H → J.yld i H x H' → g2 x (none :: none :: capt σ js) H' fun σ2 H4=>(∃ a b,σ2 = a :: b :: capt σ js) ∧ tc σ2 H4 fun b H2=>if b = true then te σ2 H2 fun v H3=>Nx n Pv i (acc ++ [v]) H3 else Nx n Pv i acc H2)
  (hd:∀ acc H,Pv n acc H → ∀ p,H p = none → Q (.ref p) (upd H p (.lst acc))):z4p J g2 tc te js σ H1 Q:=by
 refine ⟨fun i m acc H=>m = n - i ∧ i ≤ n ∧ Pv i acc H,⟨n,by simp,Nat.zero_le _,h0⟩,?_⟩
 rintro i m acc H ⟨rfl,hi,p⟩
 by_cases hlt:i < n
 ·exact .inr ⟨hgo i acc H hlt p,by have:=hlen i acc H p; omega,fun x H' y=>hs i acc H x H' hlt p y⟩
 ·have e:i = n:=by omega
  subst e
  exact .inl ⟨hstop acc H p,hd acc H p⟩
theorem z6r (hn:xs.length ≤ sizeLine) (sp:Nat → List V → Hp → Prop) (h0:sp 0 [] H1) (hlen:∀ i acc H,sp i acc H → acc.length ≤ i) (hl:∀ i acc H,sp i acc H → SqL K H a xs)
  (hs:∀ (Nt:List V → Hp → Prop) i acc H x,(∀ acc H,sp (i + 1) acc H → Nt acc H) → xs[i]? = some x → i < xs.length → sp i acc H → g2 x (none :: none :: capt σ js) H fun σ2 H4=>(∃ a b,σ2 = a :: b :: capt σ js) ∧ tc σ2 H4 fun b H2=>if b = true then te σ2 H2 fun v H3=>Nt (acc ++ [v]) H3 else Nt acc H2)
  (hd:∀ acc H,sp xs.length acc H → ∀ p,H p = none → Q (.ref p) (upd H p (.lst acc))):z4p (Itl K a) g2 tc te js σ H1 Q:=by
 refine z7o xs.length hn sp h0 hlen (fun i acc H hi p=>⟨xs,xs[i],hl i acc H p,by simp [hi]⟩) (fun acc H p=>⟨xs,hl _ acc H p,Nat.le_refl _⟩) (fun i acc H x H' hi p y=>?_) hd
 obtain ⟨e,y⟩:=y
 subst e
 exact hs (Nx xs.length sp i) i acc H' x (fun _ _ h=>nx hi h) (y xs (hl i acc H' p)) hi p
theorem zc1 (hn:xs.length ≤ sizeLine) (sp:Nat → List V → Hp → Prop) (h0:sp 0 [] H1) (hlen:∀ i acc H,sp i acc H → acc.length ≤ i) (hl:∀ i acc H,sp i acc H → SqL K H a xs)
  (hs:∀ (Nt:List V → Hp → Prop) i acc H x T,(∀ acc H,sp (i + 1) acc H → Nt acc H) → xs[i]? = some x → i < xs.length → sp i acc H → H T = none → g2 (.ref T) (none :: none :: capt σ js) (upd H T (.tup [.int ((i:Int) + 1),x])) fun σ2 H4=>(∃ a b,σ2 = a :: b :: capt σ js) ∧ tc σ2 H4 fun b H2=>if b = true then te σ2 H2 fun v H3=>Nt (acc ++ [v]) H3 else Nt acc H2)
  (hd:∀ acc H,sp xs.length acc H → ∀ p,H p = none → Q (.ref p) (upd H p (.lst acc))):z4p (Ite K a) g2 tc te js σ H1 Q:=by
 refine z7o xs.length hn sp h0 hlen (fun i acc H hi p=>⟨xs,xs[i],hl i acc H p,by simp [hi]⟩) (fun acc H p=>⟨xs,hl _ acc H p,Nat.le_refl _⟩) (fun i acc H x H' hi p y=>?_) hd
 obtain ⟨T,v,rfl,hT,rfl,y⟩:=y
 exact hs (Nx xs.length sp i) i acc H v T (fun _ _ h=>nx hi h) (y xs (hl i acc H p)) hi p hT
end
section
variable {X:Cx} {k:Nat} {C:Addr} {m:Str} {ps:List Str} {sp:Sp} {o e:Expr} {es:List Expr} {ta:TE} {t:TA} {apos pos:Pos} {E:XK}
theorem z9q {pl:Sem Bool} (hx:z39 (CX1 X.prog X.w) X E) (G:MHas X.prog X.w X.K X.mg X.base (CX1 X.prog X.w) k C m ps sp) (c:Cls X.K C) (hr:Room k X.A) (he:PE X o ta) (ha:PA X (e :: es) t)
  (hst:starEach (e :: es) X.env = (false,eval e X.env) :: starEach es X.env:=by rfl) (hpl:(backTo pos (starEach es X.env)).any (·.1) = false:=by rfl)
  (ht:eval (.Call (.Attribute o m apos) (e :: es) [] pos) X.env = (do
   let ov ← eval o X.env
   standAt apos.atName
   let (f,first) ← holding [ov] (getMethod ov m pl)
   callWith pos f first (backTo pos (starEach (e :: es) X.env)) (backToKw pos (keywordEach [] X.env))):=by rfl) :
  PE X (.Call (.Attribute o m apos) (e :: es) [] pos) (z77 C m sp [] E ta t):=by
 obtain ⟨f,fd,F,hm,hb⟩:=G
 exact zdj he c hm F hr hb .nil hx ha hst hpl ht
end
theorem z6s {X:Cx} {K:PySem.W.Frag} {pos:Pos} {es:List Expr} {k:Nat} {t:TGs} (hc:X.calm = true) (h:PGs X es t) (hn:(assignEach es X.env).length = 2:=by rfl) (hst:(assignEach es X.env).findIdx? (·.1) = none:=by rfl) (hK:X.K = K:=by rfl):PG X (.Tuple es k pos) (gTup K 2 t):=hK ▸ z8h hc h hn hst
theorem zjb {X:Cx} {k:Nat} {C:Addr} {x:Str} {ps:List Str} {sp:Sp} {p pos:Pos} {e:Expr} {es:List Expr} {t:TA} (G:KHas X.prog X.w X.K X.mg X.base k C ps sp) (hr:Room (k + 1) X.A) (hg:Gl X x) (hm:X.mg x = some (.ref C)) (ha:PA X (e :: es) t) (hdb:(x == ("__debug__" : Str)) = false:=by decide)
  (he:starEach (e :: es) X.env = (false,eval e X.env) :: starEach es X.env:=by rfl) (hpl:(backTo pos (starEach es X.env)).any (·.1) = false:=by rfl):PE X (.Call (.Name x p) (e :: es) [] pos) (z8i C sp [] E0 t):=by
 obtain ⟨f,fd,F,M,hb⟩:=G
 exact zj0 M F hr hg hm hb .nil z8k ha hdb he hpl
section
variable {X:Cx}
end
end L2
end
section
namespace PySem
open PyProof.Rows (StrsAre)
theorem zdo (t:SetTable) (j:Nat):(t.put j).1.led = t.led ∧ (t.put j).1.plain = t.plain:=by
 unfold SetTable.put; exact ⟨rfl,rfl⟩
theorem zem (t:SetTable) (es:Array (Int × Value)) (h:Int) (x:Value) :
  (layNew t es h x).2.1.led = t.led ∧ (t.plain = false → (layNew t es h x).2.1.plain = false):=by
 unfold layNew
 split
 ·dsimp only
  unfold SetTable.orStandIn
  split
  ·exact ⟨(zdo t _).1,fun p=>(zdo t _).2.trans p⟩
  ·exact ⟨rfl,fun _=>rfl⟩
 ·exact ⟨rfl,fun _=>rfl⟩
theorem zhr {mask finger moves:Nat} {led plain:Bool} {hs:Array Int} {r:SetTable × Array Nat}
  (e:SetTable.laid mask finger moves led plain hs = some r):r.1.led = led ∧ r.1.plain = plain:=by
 unfold SetTable.laid at e
 simp only [Option.bind_eq_bind,Option.bind_eq_some_iff,Option.some.injEq,Option.pure_def] at e
 obtain ⟨o,_,rfl⟩:=e
 exact ⟨rfl,rfl⟩
theorem zc2 (t:SetTable) (es:Array (Int × Value)) (n:Nat) :
  (relayAll t es n).2.1.led = t.led ∧ (t.plain = false → (relayAll t es n).2.1.plain = false):=by
 unfold relayAll
 split
 ·rename_i e
  dsimp only
  split
  ·unfold SetTable.relaid at e
   have:=zhr e
   exact ⟨this.1,fun p=>this.2.trans p⟩
  ·exact ⟨rfl,fun _=>rfl⟩
 ·exact ⟨rfl,fun _=>rfl⟩
def z1b (D:List Str) (v:Str):List Str:=if v ∈ D then D else D ++ [v]
def z1h (ss:List Str):List Str:=ss.foldl z1b []
theorem z7p (D:List Str) (v k:Str):k ∈ z1b D v ↔ k ∈ D ∨ k = v:=by
 unfold z1b; split
 ·rename_i h
  exact ⟨.inl,fun o=>o.elim id fun e=>e ▸ h⟩
 ·simp
theorem zb1 {D:List Str} (h:D.Nodup) (v:Str):(z1b D v).Nodup:=by
 unfold z1b; split
 ·exact h
 ·rename_i hv
  refine List.nodup_append.mpr ⟨h,by simp,?_⟩
  intro a ha b hb e
  simp at hb; subst hb; subst e; exact hv ha
theorem z5b:∀ (ss D:List Str) (k:Str),k ∈ ss.foldl z1b D ↔ k ∈ D ∨ k ∈ ss
 | [],D,k=>by simp
 | v :: ss,D,k=>by
  rw [List.foldl_cons,z5b ss,z7p]; simp [or_assoc]
theorem z49:∀ (ss D:List Str),D.Nodup → (ss.foldl z1b D).Nodup
 | [],D,h=>h
 | v :: ss,D,h=>z49 ss _ (zb1 h v)
theorem zen (ss:List Str) (k:Str):k ∈ z1h ss ↔ k ∈ ss:=by
 rw [z1h,z5b]; simp
theorem zc3 (ss:List Str):(z1h ss).Nodup:=z49 ss [] .nil
theorem z9r (D:List Str) (v:Str):(z1b D v).length = if decide (v ∈ D) = true then D.length else D.length + 1:=by
 unfold z1b; by_cases h:v ∈ D <;> simp [h]
theorem z8v:∀ (ss D:List Str),(ss.foldl z1b D).length ≤ D.length + ss.length
 | [],D=>by simp
 | v :: ss,D=>by
  have:=z8v ss (z1b D v)
  have h2:=z9r D v
  rw [List.foldl_cons,List.length_cons]
  split at h2 <;> omega
theorem zat (ss:List Str):(z1h ss).length ≤ ss.length:=by have:=z8v ss []; simpa [z1h] using this
theorem zd1 (ss:List Str) (i:Nat) (h:i < ss.length):z1h (ss.take (i + 1)) = z1b (z1h (ss.take i)) ss[i]:=by
 unfold z1h; rw [List.take_succ_eq_append_getElem h,List.foldl_append]; rfl
def TextSet (prog:Program) (w:World) (h:Heap) (a:Addr) (D:List Str) (led:Bool):Prop :=
 ∃ o es ep t,h.get? a = some o ∧ o.ExactSet ∧ o.data = .set es ep t ∧ ElemsOf (strKind prog w) es.toList ∧
  (∀ k,decide (k ∈ D) = true ↔ ∃ e ∈ es.toList,(strKind prog w).is k e.2 = true) ∧
  es.size < scanBound ∧ t.fits es.size = true ∧ es.size = D.length ∧ t.led = led ∧ (es.size ≠ 0 → t.plain = false)
section
variable {prog:Program} {w:World} {A:Around} {E:Value → Shared → Prop} {s:Shared}
theorem TextSet.keep {h h':Heap} {a:Addr} {D:List Str} {led:Bool} (T:TextSet prog w h a D led)
  (e:∀ o,h.get? a = some o → h'.get? a = some o):TextSet prog w h' a D led:=by
 obtain ⟨o,es,ep,t,ho,more⟩:=T
 exact ⟨o,es,ep,t,e o ho,more⟩
theorem z6t {g:Bool → Sem Unit} (hg:∀ (b:Bool) (s₁:Shared) (Q':Unit → Shared → Prop),Q' () s₁ → wpAny (model prog w) A (g b) Q' E s₁)
  {a:Addr} {o:Obj} {es:Array (Int × Value)} {ep:Nat} {t:SetTable} (ho:s.heap.get? a = some o) (hx:o.ExactSet)
  (hd:o.data = .set es ep t) {e1:Array (Int × Value)} {t1:SetTable} {D:List Str}
  (he:ElemsOf (strKind prog w) e1.toList) (hm:∀ k,decide (k ∈ D) = true ↔ ∃ e ∈ e1.toList,(strKind prog w).is k e.2 = true)
  (hb:e1.size < scanBound) (hf:t1.fits e1.size = true) (hn:e1.size = D.length) (hp:t1.plain = false)
  {was:Bool} {R:Option Bool → Shared → Prop}
  (h:∀ h',Heap.SameBut a s.heap h' → TextSet prog w h' a D t1.led → R (some true) { s with heap:=h' }) :
  wpAny (model prog w) A (do
   storeSet a e1 t1
   if (!was && t1.tooFull) = true then do
    g (relayAll t1 e1 (SetTable.grown e1.size)).2.2
    storeSet a (relayAll t1 e1 (SetTable.grown e1.size)).1 (relayAll t1 e1 (SetTable.grown e1.size)).2.1
    pure (some true)
   else pure (some true)) R E s:=by
 refine wpAny_bind (wpAny_storeSet_of ho hd ?_ (fits_of_scanBound hb))
 obtain ⟨g1,_⟩:=SetOf_store (knd:=strKind prog w) ho hx hd he hm hb hf
 have b1:=Heap.SameBut.update s.heap a (Obj.putSet e1 t1)
 split
 ·have pr:=relayAll_perm t1 e1 (SetTable.grown e1.size)
  have fr:=relayAll_fits t1 e1 (SetTable.grown e1.size)
  have lr:=zc2 t1 e1 (SetTable.grown e1.size)
  generalize relayAll t1 e1 (SetTable.grown e1.size) = L at pr fr lr ⊢
  obtain ⟨e2,t2,gave⟩:=L
  dsimp only at pr fr lr ⊢
  have sz:e2.size = e1.size:=by rw [← Array.length_toList,pr.length_eq,Array.length_toList]
  have hm2:∀ k,decide (k ∈ D) = true ↔ ∃ e ∈ e2.toList,(strKind prog w).is k e.2 = true:=fun k =>
   (hm k).trans ⟨fun ⟨e,q,z⟩=>⟨e,pr.mem_iff.mpr q,z⟩,fun ⟨e,q,z⟩=>⟨e,pr.mem_iff.mp q,z⟩⟩
  refine wpAny_bind (hg _ _ _ ?_)
  refine wpAny_bind (wpAny_storeSet_of g1 rfl ?_ (fits_of_scanBound (by rw [sz]; exact hb)))
  obtain ⟨g2,_⟩:=SetOf_store (knd:=strKind prog w) g1 hx rfl (he.perm pr) hm2 (by rw [sz]; exact hb) fr
  refine wpAny_pure (h _ (b1.trans (Heap.SameBut.update _ a _)) ⟨_,e2,_,t2,g2,hx,rfl,he.perm pr,hm2,by rw [sz]; exact hb,fr,sz.trans hn,lr.1,fun _=>lr.2 hp⟩)
 ·exact wpAny_pure (h _ b1 ⟨_,e1,_,t1,g1,hx,rfl,he,hm,hb,hf,hn,rfl,fun _=>hp⟩)
theorem zd2 {a:Addr} {D:List Str} {led:Bool} {x:Str} {tk:Tok} {Q:Bool → Shared → Prop} (T:TextSet prog w s.heap a D led)
  (room:D.length + 1 < scanBound)
  (h:∀ h' b,Heap.SameBut a s.heap h' → TextSet prog w h' a (z1b D x) led → Q b { s with heap:=h' }) :
  wpAny (model prog w) A (setAddHashed a (.str x tk) ((strKind prog w).hash x)) Q E s:=by
 have is:=strKind_is prog w x tk
 obtain ⟨o,es,ep,t,ho,hx,hd,he,hm,hb,hf,hn,hl,hp⟩:=T
 unfold setAddHashed setAddHashedIn
 refine wpAny_holding (wpAny_bind (wpAny_setState_of ho hd hf ?_))
 dsimp only
 rw [byScan_of rfl hb he]
 simp only [↓reduceIte]
 unfold setAddByScan
 refine wpAny_bind ?_
 refine wpAny_bind (wpAny_rule ?_)
 refine wpAny_bind (wpAny_setScan_of is ho hd hf he ?_)
 cases hr:List.findIdx? (fun e=>(strKind prog w).is x e.2) es.toList with
 | some j =>
  dsimp only
  obtain ⟨hj,pj,_⟩:=List.findIdx?_eq_some_iff_getElem.mp hr
  have xin:x ∈ D:=of_decide_eq_true ((hm x).mpr ⟨es.toList[j],List.getElem_mem hj,pj⟩)
  have same:z1b D x = D:=if_pos xin
  refine wpAny_pure (wpAny_pure ?_)
  have:=h s.heap false (Heap.SameBut.refl a s.heap) (by rw [same]; exact ⟨o,es,ep,t,ho,hx,hd,he,hm,hb,hf,hn,hl,hp⟩)
  cases s; exact this
 | none =>
  dsimp only
  have xout:x ∉ D:=fun q=>by
   obtain ⟨e,qe,z⟩:=(hm x).mp (decide_eq_true q)
   have:=List.findIdx?_eq_none_iff.mp hr e qe
   rw [z] at this; cases this
  have grow:z1b D x = D ++ [x]:=if_neg xout
  have pr:=layNew_perm t es ((strKind prog w).hash x) (.str x tk)
  have fr:=layNew_fits t es ((strKind prog w).hash x) (.str x tk)
  have lr:=zem t es ((strKind prog w).hash x) (.str x tk)
  generalize layNew t es ((strKind prog w).hash x) (.str x tk) = L at pr fr lr ⊢
  obtain ⟨e1,t1,was,gave⟩:=L
  dsimp only at pr fr lr ⊢
  rw [Array.toList_push] at pr
  have he1:ElemsOf (strKind prog w) e1.toList:=(he.push is rfl).perm pr
  have hm1:∀ k,decide (k ∈ z1b D x) = true ↔ ∃ e ∈ e1.toList,(strKind prog w).is k e.2 = true:=fun k=>by
   rw [← mem_push_iff is hm pr k,← Bool.decide_or,decide_eq_true_eq,decide_eq_true_eq]
   exact z7p D x k
  have sz:e1.size = es.size + 1:=by rw [← Array.length_toList,pr.length_eq,List.length_append,Array.length_toList]; rfl
  have hn1:e1.size = (z1b D x).length:=by rw [sz,grow,List.length_append,hn]; rfl
  have hb1:e1.size < scanBound:=by rw [sz,hn]; exact room
  have gw:∀ (b:Bool) (s₁:Shared) (Q':Unit → Shared → Prop),Q' () s₁ →
    wpAny (model prog w) A (match b with | true=>rule "set.scan.the-table-gave-way" | false=>pure ()) Q' E s₁:=fun b s₁ Q' q=>by
   cases b
   ·exact wpAny_pure q
   ·exact wpAny_rule q
  refine wpAny_bind (gw _ _ _ ?_)
  split
  ·refine wpAny_bind ?_
   rw [hashByValue_scannable 8 rfl]
   refine wpAny_pure ?_
   refine z6t (t1:={ t1 with plain:=false }) gw ho hx hd he1 hm1 hb1 (SetTable.fits_plain_off fr) hn1 rfl fun h' sb T'=>?_
   dsimp only
   refine wpAny_pure (h h' true sb ?_)
   rw [← hl,← lr.1]; exact T'
  ·rename_i np
   refine wpAny_bind (wpAny_pure ?_)
   simp only [↓reduceIte]
   refine z6t (t1:=t1) gw ho hx hd he1 hm1 hb1 fr hn1 (by simpa using np) fun h' sb T'=>?_
   dsimp only
   refine wpAny_pure (h h' true sb ?_)
   rw [← hl,← lr.1]; exact T'
end
section
variable {prog:Program} {w:World} {A:Around} {R:Result → Shared → Prop} {I:Addr}
variable {fp wr:List Addr} {G:Array GenState → Array GenState → Prop} {P:Nat → Value → Prop} {St:Nat → Shared → Prop}
theorem z9s {ss:List Str} (W:WalksS prog w A.in1 I fp wr G ss.length P St) (a:Addr) (ha:a ∉ fp)
  {led:Bool} (hv:∀ i v (h:i < ss.length),P i v → ∃ t,v = .str ss[i] t) (hb:ss.length + 1 < scanBound) :
  ∀ (k i:Nat) (s:Shared),ss.length - i = k → i ≤ ss.length → St i s → TextSet prog w s.heap a (z1h (ss.take i)) led →
   (∀ s',Moved (a :: wr) G s s' → TextSet prog w s'.heap a (z1h ss) led → R (.ok (.ret .none)) s') →
   codeAny (model prog w) A (.builtin "set.update.loop" ⟨[.ref a,.ref I],[]⟩) R s:=by
 have haw:a ∉ wr:=fun h=>ha (W.sub _ h)
 intro k
 induction k with
 | zero =>
  intro i s hk hi st T hR
  have ei:i = ss.length:=by omega
  subst ei
  rw [List.take_length] at T
  refine codeAny_builtin PyProof.Rows.F.entry_set_update_loop ?_
  rw [Around.under_plainId PyProof.Rows.F.plain_set_update_loop _]
  refine wpAny_bind (m:=pyNext (.ref I)) (W.done s _ _ st fun s' mv=>?_)
  refine wpAny_pure (hR s' (mv.mono fun b h=>.tail _ h) (T.keep fun o e=>mv.heap a o haw e))
 | succ k ih =>
  intro i s hk hi st T hR
  have lt:i < ss.length:=by omega
  refine codeAny_builtin PyProof.Rows.F.entry_set_update_loop ?_
  rw [Around.under_plainId PyProof.Rows.F.plain_set_update_loop _]
  refine wpAny_bind (m:=pyNext (.ref I)) (W.item i s _ _ lt st fun v s' hP st' mv=>?_)
  obtain ⟨t,rfl⟩:=hv i v lt hP
  have T':=T.keep (h':=s'.heap) fun o e=>mv.heap a o haw e
  refine wpAny_bind (m:=holding [Value.str ss[i] t] (setAdd a (.str ss[i] t))) (wpAny_holding ?_)
  unfold setAdd
  refine wpAny_holding ?_
  refine wpAny_bind ((strKind prog w).pyHash (k:=ss[i]) (strKind_is prog w _ t) ?_)
  have room:(z1h (ss.take i)).length + 1 < scanBound:=by
   have:=zat (ss.take i)
   rw [List.length_take] at this
   omega
  refine zd2 (s:={ s' with toks:=s'.toks + 1 }) T' room fun h2 _ sb T2=>?_
  have T3:TextSet prog w h2 a (z1h (ss.take (i + 1))) led:=by
   rw [zd1 ss i lt]; exact T2
  refine wpAny_pure ⟨plainId_quiet PyProof.Rows.F.plain_set_update_loop _,ih (i + 1) _ (by omega) lt ?_ T3 fun s3 mv3 T4=>?_⟩
  ·refine W.frame _ s' _ _ st' (Nat.le_succ _) fun b hbf o e=>?_
   rw [sb.2 b fun e':b = a=>ha (e' ▸ hbf)]
   exact e
  ·refine hR s3 (Moved.trans W.gtrans ((mv.mono fun b h=>.tail _ h).then_heap (Nat.le_succ _) fun b o hbw e=>?_) mv3) T4
   rw [sb.2 b fun e':b = a=>hbw (e' ▸ .head _)]
   exact e
end
abbrev z2x (w:World):Bool:=!(w.params.followText "set-order")
section
variable {prog:Program} {w:World} {A:Around} {E:Value → Shared → Prop} {s:Shared}
abbrev z1z (led:Bool):Obj:={ cls:=.type "set",dict:=none,data:=.set #[] 0 (.fresh 0 0 led) }
theorem zd3 (a:Value) {Q₁:Value → Shared → Prop}
  (h:Q₁ (.ref s.heap.objs.size) { s with heap:=s.heap.push (z1z (z2x w)) }) :
  codeAny (model prog w) A (.call (.builtin "set.__new__") ⟨[.type "set",a],[]⟩) (wants Q₁ E) s:=by
 refine codeAny_of_tree ?_
 have c:=F.newCall_set_1 a
 show wpAny _ A.in1 (checkBuiltinCall "set.__new__" ⟨[.type "set",a],[]⟩ >>= fun _=>again (.builtin "set.__new__" ⟨[.type "set",a],[]⟩)) _ _ s
 refine wpAny_bind (wpAny_of_eq c (wpAny_pure ⟨plainId_quiet F.plain_set_new _,?_⟩))
 refine codeAny_builtin F.entry_set_new ?_
 rw [Around.under_plainId F.plain_set_new _]
 unfold Builtin.«set.__new__» Builtin.Frozenset.newClass
 have sub:=sub_set_self
 obtain ⟨hp,g,d,tk,os⟩:=s
 dsimp only
 wp_walk
 refine wpAny_askSetting (wpAny_pure ?_)
 dsimp only
 simp only [newObj]
 refine wpAny_bind (wpAny_alloc (wpAny_pure ?_))
 exact wpAny_pure h
theorem zb2 {h:Heap} {a:Addr} {led:Bool} (g:h.get? a = some (z1z led)):TextSet prog w h a [] led :=
 ⟨_,#[],0,.fresh 0 0 led,g,⟨rfl,rfl,rfl⟩,rfl,fun e q=>by simp at q,fun k=>by simp,by decide,by cases led <;> decide,rfl,rfl,fun z=>absurd rfl z⟩
end
end PySem
end
section
namespace PySem
open PyProof.Rows (StrsAre)
section
variable {prog:Program} {w:World} {A:Around} {E:Value → Shared → Prop} {s:Shared}
theorem z7q:∀ {vs:List Value} {ss:List Str},StrsAre vs ss → ∀ (i:Nat) (v:Value) (h:i < ss.length),vs[i]? = some v → ∃ t,v = .str ss[i] t
 | _,_,.nil,i,v,h,e=>by simp at e
 | _,_,.cons y t r,0,v,h,e=>by simp at e; exact ⟨t,e.symm⟩
 | _,_,.cons y t r,i + 1,v,h,e=>by
  simp only [List.getElem?_cons_succ] at e
  simpa using z7q r i v (by simpa using h) e
theorem z9t {l:Addr} {items:Array Value} {ss:List Str} {Q:Value → Shared → Prop} (hh:A.handled = none)
  (hl:s.heap.IsList l items) (hi:StrsAre items.toList ss) (hb:ss.length + 1 < scanBound)
  (h:∀ (h':Heap) (tk:Nat),TextSet prog w h' s.heap.objs.size (z1h ss) (z2x w) → s.toks ≤ tk →
   (∀ b o,s.heap.get? b = some o → h'.get? b = some o) → Q (.ref s.heap.objs.size) { s with heap:=h',toks:=tk }) :
  wpAny (model prog w) A (call (.type "set") [.ref l]) Q E s:=by
 obtain ⟨_,_,mro⟩:=F.called_set.mro
 have made:=F.called_set.made
 have self:=F.called_set.sub
 refine wpAny_call (codeAny_of_tree ?_)
 show wpAny _ _ (callAny (.type "set") _) _ _ _
 refine wpAny_pure ⟨Code.quiet_builtin _ (by decide +kernel),?_⟩
 refine codeAny_builtin F.entry_type_call ?_
 rw [Around.under_plain (weight_type_call_type "set" [.ref l] []) rfl]
 have n1:=F.called_set.notType
 have n2:=F.called_set.canCreate
 have n3:=F.typeCall_set_1 (.ref l)
 repeat (any_goals (first | assumption | wp_step))
 refine codeAny_mono (zd3 (.ref l) (E:=E)
  (Q₁:=fun x s₁=>∃ led:Bool,led = z2x w ∧ x = .ref s.heap.objs.size ∧ s₁ = { s with heap:=s.heap.push (z1z led) }) ⟨_,rfl,rfl,rfl⟩) fun r s₁ hr=>?_
 match r,hr with
 | .error e,hr=>exact hr
 | .ok (.ret x),hr =>
  obtain ⟨led,hled,rfl,rfl⟩:=hr
  have gS:(s.heap.push (z1z led)).get? s.heap.objs.size = some (z1z led):=Heap.get?_push_size _ rfl
  have ty:Shared.TypeIs { s with heap:=s.heap.push (z1z led) } (.ref s.heap.objs.size) "set" := ⟨_,gS,rfl⟩
  have look:=F.called_set.init.lookup
  have bound:=F.called_set.init.bind (.ref s.heap.objs.size)
  repeat (any_goals (first | assumption | wp_step))
  refine codeAny_mono (codeAny_call_builtin (R:=wants (fun r s₂=>r = .none ∧ ∃ h' tk,s₂ = { s with heap:=h',toks:=tk } ∧
   TextSet prog w h' s.heap.objs.size (z1h ss) (z2x w) ∧ s.toks ≤ tk ∧ ∀ b o,s.heap.get? b = some o → h'.get? b = some o) E)
   F.called_set.init.plain F.entry_set_init (check_set_init_1 ty ?_)) fun r₂ s₂ hr₂=>?_
  ·obtain ⟨ol,gl,cl,nl,dl⟩:=hl
   obtain ⟨ocls,odict,odata,oslots⟩:=ol
   simp only at cl dl
   subst cl dl
   have gl':(s.heap.push (z1z led)).get? l = some { cls:=.type "list",dict:=odict,data:=.seq items nl,slots:=oslots } :=
    Heap.get?_push_of_some _ gl
   have m1:=F.sub_list_set
   have m2:=F.sub_list_frozenset
   have m3:(Value.type "list" == Value.type "dict") = false:=by decide
   have isl:(s.heap.push (z1z led)).IsList l items:=⟨_,gl',rfl,nl,rfl⟩
   unfold Builtin.«set.__init__» noKeywords Builtin.Frozenset.updateFrom
   generalize hPI:pyIter = PI
   wp_walk
   subst hPI
   refine wpAny_pyIter_list isl ?_
   refine wpAny_bind (wpAny_runValue ?_)
   have lt:l < s.heap.objs.size:=Heap.lt_size gl
   have h3:A.in1.in1.in1.handled = none:=by simp [hh]
   have lI:l ≠ (s.heap.push (z1z led)).objs.size:=by
    rw [Heap.size_push]; exact Nat.ne_of_lt (Nat.lt_succ_of_lt lt)
   have aI:s.heap.objs.size ∉ [(s.heap.push (z1z led)).objs.size,l]:=by
    rw [Heap.size_push]; intro m
    rcases List.mem_cons.mp m with e | m
    ·exact Nat.ne_of_lt (Nat.lt_succ_self _) e
    ·exact Nat.ne_of_gt lt (List.mem_singleton.mp m)
   have len:items.size = ss.length:=by rw [← Array.length_toList]; exact hi.length
   have hv:∀ (i:Nat) (v:Value) (h:i < ss.length),items[i]? = some v → ∃ t,v = .str ss[i] t :=
    fun i v h e=>z7q hi i v h (by rw [Array.getElem?_toList]; exact e)
   have WW:=((Walks.list (prog:=prog) (w:=w) h3 _ l lI items).toS)
   rw [len] at WW
   refine z9s (led:=z2x w) WW s.heap.objs.size aI hv hb (ss.length - 0) 0 _ (by omega) (Nat.zero_le _)
    ⟨⟨_,Heap.get?_push_size _ rfl,rfl,rfl⟩,(isl.push _)⟩ ?s0 ?sR
   case s0 =>
    have g2:((s.heap.push (z1z led)).push { cls:=.type "list_iterator",data:=.fields #[.ref l,.int 0 0] }).get? s.heap.objs.size = some (z1z led) :=
     Heap.get?_push_of_some _ gS
    rw [← hled]; exact zb2 g2
   case sR =>
    intro s' mv T
    obtain ⟨h',g',d',tk',os'⟩:=s'
    obtain rfl:g' = s.gens:=mv.gens
    obtain rfl:d' = s.drawn:=mv.drawn
    obtain rfl:os' = s.os:=mv.os
    show wpAny _ _ _ _ _ _
    refine wpAny_pure ?_
    show wpAny _ _ (ret Value.none) _ _ _
    refine wpAny_pure ⟨rfl,h',tk',rfl,T,mv.toks,fun b o e=>?_⟩
    have bl:=Heap.lt_size e
    refine mv.heap b o ?_ (Heap.get?_push_of_some _ (Heap.get?_push_of_some _ e))
    rw [Heap.size_push]; intro m
    rcases List.mem_cons.mp m with e | m
    ·exact Nat.ne_of_lt bl e
    ·exact Nat.ne_of_lt (Nat.lt_succ_of_lt bl) (List.mem_singleton.mp m)
  ·match r₂,hr₂ with
   | .error e,hr₂=>exact hr₂
   | .ok (.ret r),hr₂ =>
    obtain ⟨rfl,h',tk,rfl,T,lt,old⟩:=hr₂
    repeat (any_goals (first | assumption | wp_step))
    exact h _ _ T lt old
end
end PySem
end
section
namespace PySem
open PyProof.Rows (StrsAre)
section
variable {prog:Program} {w:World} {A:Around} {E:Value → Shared → Prop}
theorem zc4 {src:Source} {n:Nat} {Q:Nat → Shared → Prop} {s:Shared} (hn:n ≠ 0)
  (h:∀ i,i < n → Q i { s with drawn:=s.drawn.bump src }):wpAny (model prog w) A (choose src n) Q E s:=by
 intro Γ p hA
 exact ⟨hn,h _ (Nat.mod_lt _ (Nat.pos_of_ne_zero hn))⟩
theorem z4a {α:Type}:∀ (l:List α) (i:Nat) (h:i < l.length),List.Perm (l[i] :: l.eraseIdx i) l
 | x :: l,0,h=>by simp
 | x :: l,i + 1,h=>by
  have:=z4a l i (by simpa using h)
  simp only [List.getElem_cons_succ,List.eraseIdx_cons_succ]
  exact (List.Perm.swap ..).trans (this.cons x)
theorem zb3 {α:Type}:drawOrder 0 ([]:List α) = pure []:=by rw [drawOrder]
theorem z8w {α:Type} (n:Nat):∀ (xs:List α) {Q:List α → Shared → Prop} {s:Shared},xs.length = n →
  (∀ ys d,List.Perm ys xs → Q ys { s with drawn:=d }) → wpAny (model prog w) A (drawOrder n xs) Q E s:=by
 induction n with
 | zero =>
  intro xs Q s hl h
  have e:=List.length_eq_zero_iff.mp hl
  subst e
  rw [zb3]
  exact wpAny_pure (h [] s.drawn .nil)
 | succ n ih =>
  intro xs Q s hl h
  cases xs with
  | nil=>cases hl
  | cons x xs =>
   rw [drawOrder]
   case x_2=>intro z; cases z
   refine wpAny_bind (zc4 (by simp) fun i hi=>?_)
   rw [List.getElem?_eq_getElem hi]
   dsimp only
   refine wpAny_bind (ih _ (by rw [List.length_eraseIdx_of_lt hi]; omega) fun ys d pr=>?_)
   exact wpAny_pure (h _ d ((pr.cons _).trans (z4a _ _ hi)))
theorem z7r {α:Type} (next:Nat → Nat):∀ (fuel k:Nat) (left:List α) (out:Array α),left.length = fuel →
  (pickOrder.go next fuel k left out).toList.Perm (out.toList ++ left)
 | 0,k,left,out,h=>by
  rw [List.length_eq_zero_iff.mp h]; unfold pickOrder.go; simp
 | fuel + 1,k,left,out,h=>by
  unfold pickOrder.go
  have hi:next k % left.length < left.length:=Nat.mod_lt _ (by omega)
  rw [List.getElem?_eq_getElem hi]
  dsimp only
  refine (z7r next fuel _ _ _ (by rw [List.length_eraseIdx_of_lt hi]; omega)).trans ?_
  rw [Array.toList_push,List.append_assoc]
  exact (z4a _ _ hi).append_left _
theorem z3w {α:Type} (next:Nat → Nat) (xs:Array α):(pickOrder next xs).toList.Perm xs.toList:=by
 have:=z7r next xs.size 0 xs.toList #[] (by simp)
 simpa [pickOrder] using this
end
end PySem
end
section
namespace PySem
open PyProof.Rows (StrsAre)
theorem zb4:entryFor table "set.__iter__" = some Builtin.«frozenset.__iter__» :=
 entryFor_alias (id' := "frozenset.__iter__") (by kernel_rfl) rfl (by decide +kernel) (by kernel_rfl)
theorem zc5 (v:Value):argsOk "set.__iter__" ⟨[v],[]⟩:=by unfold argsOk; kernel_rfl
theorem slot_setNext:Slot "set_iterator" "__next__" "set_iterator.__next__" := by
 refine .of (owner := "set_iterator") (n := "__next__") ?_ ?_ ?_ ?_ ?_ ?_
 ·rw [typeLookup_type,builtinLookup_eq_fast]; kernel_rfl
 ·decide +kernel
 ·decide +kernel
 ·decide +kernel
 ·first
   | exact .inl (by decide +kernel)
   | exact .inr (by decide +kernel)
 ·rw [isSubtype_type]; kernel_rfl
theorem z4t:Slot "set_iterator" "__iter__" "set_iterator.__iter__" := by
 refine .of (owner := "set_iterator") (n := "__iter__") ?_ ?_ ?_ ?_ ?_ ?_
 ·rw [typeLookup_type,builtinLookup_eq_fast]; kernel_rfl
 ·decide +kernel
 ·decide +kernel
 ·decide +kernel
 ·first
   | exact .inl (by decide +kernel)
   | exact .inr (by decide +kernel)
 ·rw [isSubtype_type]; kernel_rfl
theorem z3b:entryFor table "set_iterator.__next__" = some Builtin.«set_iterator.__next__» := by
 refine entryFor_of_tree ?_
 kernel_rfl
theorem z3n (v:Value):argsOk "set_iterator.__next__" ⟨[v],[]⟩:=by unfold argsOk; kernel_rfl
section
variable {prog:Program} {w:World} {A:Around} {E:Value → Shared → Prop} {s:Shared}
theorem z2s {Q:Bool → Shared → Prop} (h:Q (w.params.followText "set-order") s) :
  wpAny (model prog w) A setsByText Q E s:=by
 unfold setsByText
 exact wpAny_bind (wpAny_askSetting (wpAny_pure h))
abbrev z1j (first:Value) (i:Nat) (a:Addr) (n ep:Nat):Obj :=
 { cls:=.type "set_iterator",data:=.fields #[first,.int i 0,.ref a,.int n 0,.int ep 0] }
theorem zeo {a:Addr} {o:Obj} {es:Array (Int × Value)} {ep:Nat} {t:SetTable} {Q:Value → Shared → Prop}
  (ho:s.heap.get? a = some o) (hx:o.ExactSet) (hd:o.data = .set es ep t) (hf:t.fits es.size = true) (hb:es.size < scanBound)
  (hdrawn:w.params.followText "set-order" = false → t.plain = false → es.size > 1 → ∀ (ps:List Nat) d,ps.Perm (List.range es.size) →
   Q (.ref (s.heap.objs.size + 1)) { s with
    heap:=(s.heap.push { cls:=.type "tuple",data:=.seq (ps.map fun (i:Nat)=>rawInt i).toArray }).push (z1j (.ref s.heap.objs.size) 0 a es.size ep),drawn:=d })
  (hplace:(w.params.followText "set-order" = true ∨ t.plain = true ∨ es.size ≤ 1) →
   Q (.ref s.heap.objs.size) { s with heap:=s.heap.push (z1j (.int 0 0) 0 a es.size ep) }) :
  wpAny (model prog w) A (pyIter (.ref a)) Q E s:=by
 have ty:s.TypeIs (.ref a) "set" := ⟨o,ho,hx.1⟩
 refine wpAny_pyIter_slot ty F.slot_set_iter (wpAny_call_entry F.slot_set_iter ty zb4 ?_ (zc5 _))
 unfold Builtin.«frozenset.__iter__» Builtin.Frozenset.slot0 slotArgs
 simp only [List.isEmpty_nil,Bool.not_true,Bool.false_eq_true,↓reduceIte,bind_assoc,List.length_nil,bne_self_eq_false]
 unfold Builtin.Frozenset.addrOf Builtin.Frozenset.sizeOf setDrawn
 refine wpAny_bind (wpAny_pure ?_)
 dsimp only
 refine wpAny_bind (wpAny_pure ?_)
 refine wpAny_bind (wpAny_bind (wpAny_setEntries_of ho hd hf (wpAny_pure ?_)))
 refine wpAny_bind (wpAny_bind (wpAny_setState_of ho hd hf ?_))
 dsimp only
 refine wpAny_bind (z2s (wpAny_pure ?_))
 have look:=slot_setNext.lookup
 by_cases c:(!w.params.followText "set-order" && (!t.plain && decide (es.size > 1))) = true
 ·refine (?_:wpAny _ _ (if (!w.params.followText "set-order" && (!t.plain && decide (es.size > 1))) = true then _ else _) _ _ _)
  rw [if_pos c]
  simp only [Bool.and_eq_true,Bool.not_eq_true',decide_eq_true_eq] at c
  refine wpAny_bind (z8w _ _ (by simp) fun ps d pr=>?_)
  unfold newTuple
  refine wpAny_bind (wpAny_newObj_type ?_ (by
   have l:=fits_of_scanBound hb
   have z:=pr.length_eq
   simp only [List.length_range] at z
   show _ ≤ sizeLine
   simp only [List.size_toArray,List.length_map]
   omega))
  refine wpAny_bind (wpAny_setEpoch_of (Heap.get?_push_of_some _ ho) hd hf ?_)
  unfold newFields
  refine wpAny_bind (wpAny_newObj_type (wpAny_pure ⟨_,rfl,"set_iterator",_,⟨_,Heap.get?_push_size _ rfl,rfl⟩,look,?_⟩))
  have:=hdrawn c.1 c.2.1 c.2.2 ps d pr
  rw [Heap.size_push]
  exact this
 ·refine (?_:wpAny _ _ (if (!w.params.followText "set-order" && (!t.plain && decide (es.size > 1))) = true then _ else _) _ _ _)
  rw [if_neg c]
  refine wpAny_bind (wpAny_pure ?_)
  refine wpAny_bind (wpAny_setEpoch_of ho hd hf ?_)
  unfold newFields
  refine wpAny_bind (wpAny_newObj_type (wpAny_pure ⟨_,rfl,"set_iterator",_,⟨_,Heap.get?_push_size _ rfl,rfl⟩,look,?_⟩))
  refine hplace ?_
  cases hb:w.params.followText "set-order" with
  | true=>exact .inl rfl
  | false =>
   cases hp:t.plain with
   | true=>exact .inr (.inl rfl)
   | false =>
    refine .inr (.inr ?_)
    rw [hb,hp] at c; simp at c; omega
def SetIterAt (h:Heap) (I:Addr) (first:Value) (i:Nat) (a:Addr) (n ep:Nat):Prop :=
 ∃ o,h.get? I = some o ∧ o.cls = .type "set_iterator" ∧ o.data = .fields #[first,.int i 0,.ref a,.int n 0,.int ep 0]
theorem zb5 {I T a:Addr} {i:Nat} {o oT:Obj} {es:Array (Int × Value)} {ep:Nat} {t:SetTable} {ps:List Nat} {nT:Nat} {Q:Option Value → Shared → Prop}
  (ho:s.heap.get? a = some o) (hd:o.data = .set es ep t) (hf:t.fits es.size = true)
  (hi:SetIterAt s.heap I (.ref T) i a es.size ep) (gT:s.heap.get? T = some oT) (dT:oT.data = .seq (ps.map fun (i:Nat)=>rawInt i).toArray nT)
  {p:Nat} {e:Int × Value} (hp:ps[i]? = some p) (he:es[p]? = some e)
  (h:∀ h',SetIterAt h' I (.ref T) (i + 1) a es.size ep → Heap.SameBut I s.heap h' → Q (some e.2) { s with heap:=h' }) :
  wpAny (model prog w) A (pyNext (.ref I)) Q E s:=by
 obtain ⟨oI,gI,cI,dI⟩:=hi
 have ty:s.TypeIs (.ref I) "set_iterator" := ⟨oI,gI,cI⟩
 unfold pyNext
 refine wpAny_bind (wpAny_attempt (wpAny_callSpecial?_slot (name:=Str.ofString "__next__") ty slot_setNext
  (wpAny_call_entry slot_setNext ty z3b ?_ (z3n _))))
 unfold Builtin.«set_iterator.__next__» slotArgs
 simp only [List.isEmpty_nil,Bool.not_true,Bool.false_eq_true,↓reduceIte,bind_assoc,List.length_nil,bne_self_eq_false]
 refine wpAny_bind (wpAny_pure ?_)
 dsimp only
 refine wpAny_bind (wpAny_fieldsOf gI dI ?_)
 dsimp only
 refine wpAny_bind (wpAny_setEntries_of ho hd hf ?_)
 rw [if_neg (show ¬ ((((es.size:Nat):Int) != ((es.size:Nat):Int)) = true) by simp)]
 refine wpAny_bind (wpAny_seqItems gT dT ?_)
 have look:(ps.map fun (i:Nat)=>rawInt i).toArray[(↑i:Int).toNat]? = some (.int p 0):=by
  simp [hp,rawInt]
 dsimp only
 rw [look]
 dsimp only
 unfold setNextDrawn
 refine wpAny_bind (wpAny_bind (wpAny_setState_of ho hd hf ?_))
 dsimp only
 rw [if_neg (show ¬ ((ep != (↑ep:Int).toNat) = true) by simp)]
 have look2:es[(↑p:Int).toNat]? = some e:=by simpa using he
 rw [look2]
 dsimp only
 refine wpAny_pure ?_
 refine wpAny_bind (wpAny_setField gI dI (by simp) (wpAny_pure ⟨e.2,rfl,wpAny_pure (h _ ?_ (Heap.SameBut.update ..))⟩))
 refine ⟨_,Heap.get?_update_self _ gI (Obj.isFreed_of_fields (Obj.data_mapFields dI _)),(Obj.cls_mapFields ..).trans cI,?_⟩
 rw [Obj.data_mapFields dI]
 simp [rawInt]
end
end PySem
end
section
namespace PySem
open PyProof.Rows (StrsAre)
section
variable {prog:Program} {w:World} {A:Around} {E:Value → Shared → Prop} {s:Shared}
theorem z7g {I T a:Addr} {i:Nat} {o oT:Obj} {es:Array (Int × Value)} {ep:Nat} {t:SetTable} {ps:List Nat} {nT:Nat} {Q:Option Value → Shared → Prop}
  (hh:A.handled = none) (ho:s.heap.get? a = some o) (hd:o.data = .set es ep t) (hf:t.fits es.size = true)
  (hi:SetIterAt s.heap I (.ref T) i a es.size ep) (gT:s.heap.get? T = some oT) (dT:oT.data = .seq (ps.map fun (i:Nat)=>rawInt i).toArray nT)
  (hp:ps[i]? = none) (h:∀ h',Heap.ExtBut I s.heap h' → Q none { s with heap:=h' }) :
  wpAny (model prog w) A (pyNext (.ref I)) Q E s:=by
 obtain ⟨oI,gI,cI,dI⟩:=hi
 have ty:s.TypeIs (.ref I) "set_iterator" := ⟨oI,gI,cI⟩
 unfold pyNext
 refine wpAny_bind (wpAny_attempt (wpAny_callSpecial?_slot (name:=Str.ofString "__next__") ty slot_setNext
  (wpAny_call_entry slot_setNext ty z3b ?_ (z3n _))))
 unfold Builtin.«set_iterator.__next__» slotArgs
 simp only [List.isEmpty_nil,Bool.not_true,Bool.false_eq_true,↓reduceIte,bind_assoc,List.length_nil,bne_self_eq_false]
 refine wpAny_bind (wpAny_pure ?_)
 dsimp only
 refine wpAny_bind (wpAny_fieldsOf gI dI ?_)
 dsimp only
 refine wpAny_bind (wpAny_setEntries_of ho hd hf ?_)
 rw [if_neg (show ¬ ((((es.size:Nat):Int) != ((es.size:Nat):Int)) = true) by simp)]
 refine wpAny_bind (wpAny_seqItems gT dT ?_)
 have look:(ps.map fun (i:Nat)=>rawInt i).toArray[(↑i:Int).toNat]? = none:=by
  simp at hp; simp [hp]
 dsimp only
 rw [look]
 dsimp only
 refine wpAny_bind (wpAny_setField gI dI (by simp) ?_)
 have g2:=Heap.get?_update_self (Obj.mapFields (·.setIfInBounds 0 (rawInt 0))) gI (Obj.isFreed_of_fields (Obj.data_mapFields dI _))
 refine wpAny_bind (wpAny_setField g2 (Obj.data_mapFields dI _) (by simp) ?_)
 refine wpAny_bind ?_
 simp only [newExc,newTuple]
 refine wpAny_bind (wpAny_newObj_type ?_ (by size_fits))
 refine wpAny_bind (m:=firstArgMember _ _) (wpAny_of_eq (a:=Value.none) (by simp only [firstArgMember]; rfl) ?_)
 refine wpAny_newObj_type ?_ (by size_fits)
 simp only [raiseNew]
 refine wpAny_bind (wpAny_handled ?_)
 rw [show A.in1.handled = none from hh]
 refine wpAny_bind (wpAny_pure (wpAny_throw ?_))
 refine wpAny_bind (wpAny_isInstance (T := "StopIteration") (b:=true) ⟨_,Heap.get?_push_size _ rfl,rfl⟩ isSubtype_stop ?_)
 exact wpAny_pure (h _ ((((Heap.SameBut.update ..).trans (Heap.SameBut.update ..)).extBut.push _).push _))
theorem z6u {a:Addr} {o:Obj} {es:Array (Int × Value)} {ep:Nat} {t:SetTable} {slot i:Nat} {Q:Option (Value × Nat) → Shared → Prop}
  (hw:w.params.followText "set-order" = true) (ho:s.heap.get? a = some o) (hd:o.data = .set es ep t) (hf:t.fits es.size = true)
  (h:Q (((pickOrder (w.params.setOrder a ep) es)[i]?).map fun e=>(e.2,slot)) s):wpAny (model prog w) A (setNext a slot i ep) Q E s:=by
 unfold setNext
 refine wpAny_bind (wpAny_setState_of ho hd hf ?_)
 dsimp only
 refine wpAny_bind (z2s ?_)
 rw [hw]
 simp only [↓reduceIte,bne_self_eq_false,Bool.false_eq_true]
 unfold setWalk
 refine wpAny_bind (wpAny_bind (wpAny_setState_of ho hd hf ?_))
 dsimp only
 refine wpAny_bind (z2s ?_)
 rw [hw]
 simp only [↓reduceIte]
 refine wpAny_bind (wpAny_askSetting (wpAny_pure ?_))
 exact wpAny_pure h
theorem z7s {a:Addr} {o:Obj} {es:Array (Int × Value)} {ep:Nat} {t:SetTable} {slot i:Nat} {Q:Option (Value × Nat) → Shared → Prop}
  (hw:w.params.followText "set-order" = false) (ho:s.heap.get? a = some o) (hd:o.data = .set es ep t) (hf:t.fits es.size = true)
  (hn:es.size ≤ 1) (hl:t.led = true)
  (h:Q (match es[SetTable.below t.place slot]?,t.place[SetTable.below t.place slot]? with
   | some (_,x),some j=>some (x,j + 1)
   | _,_=>none) s):wpAny (model prog w) A (setNext a slot i ep) Q E s:=by
 unfold setNext
 refine wpAny_bind (wpAny_setState_of ho hd hf ?_)
 dsimp only
 refine wpAny_bind (z2s ?_)
 rw [hw]
 simp only [Bool.false_eq_true,↓reduceIte]
 refine (?_:wpAny _ _ (if (!t.plain && decide (es.size > 1)) = true then _ else _) _ _ _)
 rw [if_neg (by simp; omega)]
 refine wpAny_bind (m:=if (!t.led && !es.isEmpty) = true then unsupported "set:maker-not-led" else pure ()) ?_
 rw [if_neg (by simp [hl])]
 exact wpAny_pure (wpAny_pure h)
end
end PySem
end
section
namespace PySem
open PyProof.Rows (StrsAre)
section
variable {prog:Program} {w:World} {A:Around} {E:Value → Shared → Prop} {s:Shared}
theorem z6v {I a:Addr} {slot i next:Nat} {x:Value} {o:Obj} {es:Array (Int × Value)} {ep:Nat} {t:SetTable} {Q:Option Value → Shared → Prop}
  (ho:s.heap.get? a = some o) (hd:o.data = .set es ep t) (hf:t.fits es.size = true)
  (hi:SetIterAt s.heap I (.int slot 0) i a es.size ep)
  (hs:∀ (A:Around) (E:Value → Shared → Prop) (Q:Option (Value × Nat) → Shared → Prop),Q (some (x,next)) s → wpAny (model prog w) A (setNext a slot i ep) Q E s)
  (h:∀ h',SetIterAt h' I (.int next 0) (i + 1) a es.size ep → Heap.SameBut I s.heap h' → Q (some x) { s with heap:=h' }) :
  wpAny (model prog w) A (pyNext (.ref I)) Q E s:=by
 obtain ⟨oI,gI,cI,dI⟩:=hi
 have ty:s.TypeIs (.ref I) "set_iterator" := ⟨oI,gI,cI⟩
 unfold pyNext
 refine wpAny_bind (wpAny_attempt (wpAny_callSpecial?_slot (name:=Str.ofString "__next__") ty slot_setNext
  (wpAny_call_entry slot_setNext ty z3b ?_ (z3n _))))
 unfold Builtin.«set_iterator.__next__» slotArgs
 simp only [List.isEmpty_nil,Bool.not_true,Bool.false_eq_true,↓reduceIte,bind_assoc,List.length_nil,bne_self_eq_false]
 refine wpAny_bind (wpAny_pure ?_)
 dsimp only
 refine wpAny_bind (wpAny_fieldsOf gI dI ?_)
 dsimp only
 refine wpAny_bind (wpAny_setEntries_of ho hd hf ?_)
 rw [if_neg (show ¬ ((((es.size:Nat):Int) != ((es.size:Nat):Int)) = true) by simp)]
 simp only [Int.toNat_natCast]
 refine wpAny_bind (hs _ _ _ ?_)
 dsimp only
 refine wpAny_bind (wpAny_setField gI dI (by simp) ?_)
 have d2:=Obj.data_mapFields dI (·.setIfInBounds 0 (rawInt next))
 have g2:=Heap.get?_update_self (Obj.mapFields (·.setIfInBounds 0 (rawInt next))) gI (Obj.isFreed_of_fields d2)
 refine wpAny_bind (wpAny_setField g2 d2 (by simp) (wpAny_pure ⟨x,rfl,wpAny_pure (h _ ?_ ((Heap.SameBut.update ..).trans (Heap.SameBut.update ..)))⟩))
 refine ⟨_,Heap.get?_update_self _ g2 (Obj.isFreed_of_fields (Obj.data_mapFields d2 _)),?_,?_⟩
 ·exact (Obj.cls_mapFields ..).trans ((Obj.cls_mapFields ..).trans cI)
 ·rw [Obj.data_mapFields d2]
  simp [rawInt]
theorem z4u {I a:Addr} {slot i:Nat} {o:Obj} {es:Array (Int × Value)} {ep:Nat} {t:SetTable} {Q:Option Value → Shared → Prop}
  (hh:A.handled = none) (ho:s.heap.get? a = some o) (hd:o.data = .set es ep t) (hf:t.fits es.size = true)
  (hi:SetIterAt s.heap I (.int slot 0) i a es.size ep)
  (hs:∀ (A:Around) (E:Value → Shared → Prop) (Q:Option (Value × Nat) → Shared → Prop),Q none s → wpAny (model prog w) A (setNext a slot i ep) Q E s)
  (h:∀ h',Heap.ExtBut I s.heap h' → Q none { s with heap:=h' }) :
  wpAny (model prog w) A (pyNext (.ref I)) Q E s:=by
 obtain ⟨oI,gI,cI,dI⟩:=hi
 have ty:s.TypeIs (.ref I) "set_iterator" := ⟨oI,gI,cI⟩
 unfold pyNext
 refine wpAny_bind (wpAny_attempt (wpAny_callSpecial?_slot (name:=Str.ofString "__next__") ty slot_setNext
  (wpAny_call_entry slot_setNext ty z3b ?_ (z3n _))))
 unfold Builtin.«set_iterator.__next__» slotArgs
 simp only [List.isEmpty_nil,Bool.not_true,Bool.false_eq_true,↓reduceIte,bind_assoc,List.length_nil,bne_self_eq_false]
 refine wpAny_bind (wpAny_pure ?_)
 dsimp only
 refine wpAny_bind (wpAny_fieldsOf gI dI ?_)
 dsimp only
 refine wpAny_bind (wpAny_setEntries_of ho hd hf ?_)
 rw [if_neg (show ¬ ((((es.size:Nat):Int) != ((es.size:Nat):Int)) = true) by simp)]
 simp only [Int.toNat_natCast]
 refine wpAny_bind (hs _ _ _ ?_)
 dsimp only
 refine wpAny_bind (wpAny_setField gI dI (by simp) ?_)
 refine wpAny_bind ?_
 simp only [newExc,newTuple]
 refine wpAny_bind (wpAny_newObj_type ?_ (by size_fits))
 refine wpAny_bind (m:=firstArgMember _ _) (wpAny_of_eq (a:=Value.none) (by simp only [firstArgMember]; rfl) ?_)
 refine wpAny_newObj_type ?_ (by size_fits)
 simp only [raiseNew]
 refine wpAny_bind (wpAny_handled ?_)
 rw [show A.in1.handled = none from hh]
 refine wpAny_bind (wpAny_pure (wpAny_throw ?_))
 refine wpAny_bind (wpAny_isInstance (T := "StopIteration") (b:=true) ⟨_,Heap.get?_push_size _ rfl,rfl⟩ isSubtype_stop ?_)
 exact wpAny_pure (h _ (((Heap.SameBut.update ..).extBut.push _).push _))
theorem z9u (p:Nat):SetTable.below #[p] 0 = 0:=by
 simp [SetTable.below,SetTable.below.go]
theorem z9v (p:Nat):SetTable.below #[p] (p + 1) = 1:=by
 simp [SetTable.below,SetTable.below.go]
end
end PySem
end
section
namespace PySem
open PyProof.Rows (StrsAre)
theorem z7h:entryFor table "set_iterator.__iter__" = some Builtin.«dict_keyiterator.__iter__» :=
 entryFor_alias (id' := "dict_keyiterator.__iter__") (by kernel_rfl) rfl (by decide +kernel) (by kernel_rfl)
theorem z83 (v:Value):argsOk "set_iterator.__iter__" ⟨[v],[]⟩:=by unfold argsOk; kernel_rfl
section
variable {prog:Program} {w:World} {A:Around} {E:Value → Shared → Prop} {s:Shared}
theorem z4v {I a:Addr} {first:Value} {i n ep:Nat} {Q:Value → Shared → Prop} (hi:SetIterAt s.heap I first i a n ep)
  (h:Q (.ref I) s):wpAny (model prog w) A (pyIter (.ref I)) Q E s:=by
 obtain ⟨o,g,c,d⟩:=hi
 have ty:s.TypeIs (.ref I) "set_iterator" := ⟨o,g,c⟩
 refine wpAny_pyIter_slot ty z4t (wpAny_call_entry z4t ty z7h ?_ (z83 _))
 show wpAny _ _ (ret (.ref I)) _ _ s
 exact wpAny_pure ⟨_,rfl,"set_iterator",_,ty,slot_setNext.lookup,h⟩
theorem SetIterAt.keep {h h':Heap} {I a:Addr} {first:Value} {i n ep:Nat} (t:SetIterAt h I first i a n ep)
  (e:∀ o,h.get? I = some o → h'.get? I = some o):SetIterAt h' I first i a n ep:=by
 obtain ⟨o,g,r⟩:=t
 exact ⟨o,e o g,r⟩
theorem zd4 (hh:A.handled = none) {I T a:Addr} {o oT:Obj} {es:Array (Int × Value)} {ep:Nat} {t:SetTable} {ps:List Nat} {nT:Nat}
  (hd:o.data = .set es ep t) (hf:t.fits es.size = true) (dT:oT.data = .seq (ps.map fun (i:Nat)=>rawInt i).toArray nT)
  (hI:a ≠ I) (hT:T ≠ I) (pr:ps.Perm (List.range es.size)) :
  WalksS prog w A I [I,a,T] [I] (fun x y=>x = y) es.size (fun i v=>∃ p e,ps[i]? = some p ∧ es[p]? = some e ∧ v = e.2)
   (fun i s=>SetIterAt s.heap I (.ref T) i a es.size ep ∧ s.heap.get? a = some o ∧ s.heap.get? T = some oT) where
 sub:=fun b hb=>by simp at hb; simp [hb]
 grefl:=fun _=>rfl
 gtrans:=fun _ _ _ p q=>p.trans q
 frame:=fun i s h' tk st _ k=>⟨st.1.keep (k I (by simp)),k a (by simp) _ st.2.1,k T (by simp) _ st.2.2⟩
 item:=fun i s Q E lt st hQ=>by
  have len:ps.length = es.size:=by simpa using pr.length_eq
  have hp:ps[i]? = some ps[i]:=List.getElem?_eq_getElem (by omega)
  have mem:ps[i] < es.size:=List.mem_range.mp (pr.mem_iff.mp (List.getElem_mem _))
  have he:es[ps[i]]? = some es[ps[i]]:=Array.getElem?_eq_getElem mem
  refine zb5 st.2.1 hd hf st.1 st.2.2 dT hp he fun h' si sb=>?_
  refine hQ _ _ ⟨_,_,hp,he,rfl⟩ ⟨si,?_,?_⟩ ⟨fun b o' hb e=>?_,rfl,rfl,rfl,Nat.le_refl _⟩
  ·exact (sb.2 a hI).trans st.2.1
  ·exact (sb.2 T hT).trans st.2.2
  ·exact (sb.2 b (by simpa using hb)).trans e
 done:=fun s Q E st hQ=>by
  have len:ps.length = es.size:=by simpa using pr.length_eq
  refine z7g hh st.2.1 hd hf st.1 st.2.2 dT (List.getElem?_eq_none (by omega)) fun h' xb=>?_
  exact hQ _ ⟨fun b o' hb e=>xb b o' (by simpa using hb) e,rfl,rfl,rfl,Nat.le_refl _⟩
 self:=fun i s Q E st h=>z4v st.1 h
theorem zep (hh:A.handled = none) (hw:w.params.followText "set-order" = true) {I a:Addr} {o:Obj} {es:Array (Int × Value)} {ep:Nat} {t:SetTable}
  (hd:o.data = .set es ep t) (hf:t.fits es.size = true) (hI:a ≠ I) :
  WalksS prog w A I [I,a] [I] (fun x y=>x = y) es.size (fun i v=>∃ e,(pickOrder (w.params.setOrder a ep) es)[i]? = some e ∧ v = e.2)
   (fun i s=>SetIterAt s.heap I (.int (0:Nat) 0) i a es.size ep ∧ s.heap.get? a = some o) where
 sub:=fun b hb=>by simp at hb; simp [hb]
 grefl:=fun _=>rfl
 gtrans:=fun _ _ _ p q=>p.trans q
 frame:=fun i s h' tk st _ k=>⟨st.1.keep (k I (by simp)),k a (by simp) _ st.2⟩
 item:=fun i s Q E lt st hQ=>by
  have len:(pickOrder (w.params.setOrder a ep) es).size = es.size:=by
   rw [← Array.length_toList,(z3w _ _).length_eq,Array.length_toList]
  have he:(pickOrder (w.params.setOrder a ep) es)[i]? = some (pickOrder (w.params.setOrder a ep) es)[i]:=Array.getElem?_eq_getElem (by omega)
  refine z6v (next:=0) (x:=(pickOrder (w.params.setOrder a ep) es)[i].2) st.2 hd hf st.1 (fun A' E' Q' q=>z6u hw st.2 hd hf (by rw [he]; exact q)) fun h' si sb=>?_
  refine hQ _ _ ⟨_,he,rfl⟩ ⟨si,(sb.2 a hI).trans st.2⟩ ⟨fun b o' hb e=>?_,rfl,rfl,rfl,Nat.le_refl _⟩
  exact (sb.2 b (by simpa using hb)).trans e
 done:=fun s Q E st hQ=>by
  have len:(pickOrder (w.params.setOrder a ep) es).size = es.size:=by
   rw [← Array.length_toList,(z3w _ _).length_eq,Array.length_toList]
  have he:(pickOrder (w.params.setOrder a ep) es)[es.size]? = none:=Array.getElem?_eq_none (by omega)
  refine z4u hh st.2 hd hf st.1 (fun A' E' Q' q=>z6u hw st.2 hd hf (by rw [he]; exact q)) fun h' xb=>?_
  exact hQ _ ⟨fun b o' hb e=>xb b o' (by simpa using hb) e,rfl,rfl,rfl,Nat.le_refl _⟩
 self:=fun i s Q E st h=>z4v st.1 h
end
end PySem
end
section
namespace PySem
open PyProof.Rows (StrsAre)
section
variable {prog:Program} {w:World} {A:Around} {E:Value → Shared → Prop} {s:Shared}
theorem z8x {t:SetTable} {n:Nat} (h:t.fits n = true):t.place.size = n:=by
 unfold SetTable.fits at h
 simp only [Bool.and_eq_true,beq_iff_eq] at h
 exact h.1
def z2g (t:SetTable) (i:Nat):Nat:=if i = 0 then 0 else t.place.getD 0 0 + 1
theorem zb6 {t:SetTable} {es:Array (Int × Value)} (hf:t.fits es.size = true) (hn:es.size ≤ 1) {i:Nat} (lt:i < es.size) :
  (match es[SetTable.below t.place (z2g t i)]?,t.place[SetTable.below t.place (z2g t i)]? with
   | some (_,x),some j=>some (x,j + 1)
   | _,_=>none) = some (es[i].2,z2g t (i + 1)):=by
 have sz:=z8x hf
 obtain rfl:i = 0:=by omega
 have one:t.place.size = 1:=by omega
 obtain ⟨p,hp⟩:∃ p,t.place = #[p]:=⟨t.place[0],by
  apply Array.ext
  ·simpa using one
  ·intro k h1 h2
   simp at h2
   subst h2; rfl⟩
 simp only [z2g,hp,if_true,z9u]
 rw [Array.getElem?_eq_getElem lt]
 simp
theorem zc6 {t:SetTable} {es:Array (Int × Value)} (hf:t.fits es.size = true) (hn:es.size ≤ 1) :
  (match es[SetTable.below t.place (z2g t es.size)]?,t.place[SetTable.below t.place (z2g t es.size)]? with
   | some (_,x),some j=>some (x,j + 1)
   | _,_=>none) = (none:Option (Value × Nat)):=by
 have sz:=z8x hf
 by_cases z:es.size = 0
 ·have e:es = #[]:=Array.eq_empty_of_size_eq_zero z
  subst e; simp
 ·have one:t.place.size = 1:=by omega
  obtain ⟨p,hp⟩:∃ p,t.place = #[p]:=⟨t.place[0],by
   apply Array.ext
   ·simpa using one
   ·intro k h1 h2
    simp at h2
    subst h2; rfl⟩
  have e1:es.size = 1:=by omega
  have hs:z2g t es.size = p + 1:=by simp [z2g,e1,hp]
  rw [hs,hp,z9v]
  have:es[1]? = none:=Array.getElem?_eq_none (by omega)
  rw [this]
theorem zgb (hh:A.handled = none) (hw:w.params.followText "set-order" = false) {I a:Addr} {o:Obj} {es:Array (Int × Value)} {ep:Nat} {t:SetTable}
  (hd:o.data = .set es ep t) (hf:t.fits es.size = true) (hn:es.size ≤ 1) (hl:t.led = true) (hI:a ≠ I) :
  WalksS prog w A I [I,a] [I] (fun x y=>x = y) es.size (fun i v=>∃ e,es[i]? = some e ∧ v = e.2)
   (fun i s=>SetIterAt s.heap I (.int (z2g t i) 0) i a es.size ep ∧ s.heap.get? a = some o) where
 sub:=fun b hb=>by simp at hb; simp [hb]
 grefl:=fun _=>rfl
 gtrans:=fun _ _ _ p q=>p.trans q
 frame:=fun i s h' tk st _ k=>⟨st.1.keep (k I (by simp)),k a (by simp) _ st.2⟩
 item:=fun i s Q E lt st hQ=>by
  refine z6v (next:=z2g t (i + 1)) (x:=es[i].2) st.2 hd hf st.1
   (fun A' E' Q' q=>z7s hw st.2 hd hf hn hl ((congrArg (fun z=>Q' z s) (zb6 hf hn lt)).mpr q)) fun h' si sb=>?_
  refine hQ _ _ ⟨_,Array.getElem?_eq_getElem lt,rfl⟩ ⟨si,(sb.2 a hI).trans st.2⟩ ⟨fun b o' hb e=>?_,rfl,rfl,rfl,Nat.le_refl _⟩
  exact (sb.2 b (by simpa using hb)).trans e
 done:=fun s Q E st hQ=>by
  refine z4u hh st.2 hd hf st.1
   (fun A' E' Q' q=>z7s hw st.2 hd hf hn hl ((congrArg (fun z=>Q' z s) (zc6 hf hn)).mpr q)) fun h' xb=>?_
  exact hQ _ ⟨fun b o' hb e=>xb b o' (by simpa using hb) e,rfl,rfl,rfl,Nat.le_refl _⟩
 self:=fun i s Q E st h=>z4v st.1 h
end
end PySem
end
section
namespace PySem
open PyProof.Rows (StrsAre)
section
variable {prog:Program} {w:World} {A:Around} {E:Value → Shared → Prop} {s:Shared}
theorem zhs {a:Addr} {Q:Bool → Shared → Prop} (ty:s.TypeIs (.ref a) "set") (h:Q false s) :
  wpAny (model prog w) A (Builtin.List.listLengthHint (.ref a)) Q E s:=by
 unfold Builtin.List.listLengthHint
 refine wpAny_bind (wpAny_specialOf ty F.slot_set_len.lookup ?_)
 generalize e:("set.__len__" : String) = id
 wp_delta
 have sp:splitId id = some ("set","__len__"):=by subst e; decide +kernel
 rw [sp]
 subst e
 refine wpAny_bind (wpAny_isInstance (b:=true) ty sub_set_self ?_)
 refine wpAny_ite_split (fun z=>absurd z (by decide)) (fun _=>?_)
 refine wpAny_ite_split (fun _=>?_) (fun z=>absurd (by decide +kernel) z)
 exact wpAny_bind (wpAny_typeOf ty (wpAny_pure h))
theorem z3o {R:Result → Shared → Prop} {a I S:Addr} {fp:List Addr} {n c:Nat} {P:Nat → Value → Prop} {St:Nat → Shared → Prop} {res:Value} {b:Bool}
  (W:WalksS prog w A.in1 I fp [I] (fun x y=>x = y) n P St) (hn:n ≤ sizeLine) (hS:S ∉ fp) (st:St 0 s)
  (gS:s.heap.get? S = some { cls:=.type "list",data:=.seq #[] c }) (ty:s.TypeIs (.ref a) "set")
  (hR:∀ s' acc c',Moved (S :: [I]) (fun x y=>x = y) s s' → s'.heap.get? S = some { cls:=.type "list",dict:=none,data:=.seq acc c',slots:=#[] } → ItemsOf P acc n → R (.ok (.ret res)) s') :
  wpAny (model prog w) A.in1 (do
   let room ← holding [.ref I] (Builtin.List.listLengthHint (.ref a))
   if (room || b) = true then do
    rule "list.extend.makes-room"
    Builtin.List.listTouch (.ref S)
    again (.builtin "list.extend.loop" ⟨[.ref S,.ref I,res],[]⟩)
   else again (.builtin "list.extend.loop" ⟨[.ref S,.ref I,res],[]⟩))
   (fun fin s'=>match fin with | .done f=>R (.ok f) s' | .again c'=>c'.quiet = true ∧ codeAny (model prog w) A c' R s') (fun e s'=>R (.error e) s') s:=by
 refine wpAny_bind (wpAny_holding (zhs ty ?_))
 refine wpAny_ite_split (fun _=>?_) (fun _=>wpAny_pure ⟨plainId_quiet F.plain_extend_loop _,codeAny_extend_loopS W hn S hS res n 0 _ #[] c rfl (Nat.zero_le _) st gS (ItemsOf.nil _) hR⟩)
 refine wpAny_bind (wpAny_rule ?_)
 refine wpAny_bind ?_
 show wpAny _ _ (updateSeq S (·.push .none) >>= fun _=>updateSeq S (·.pop)) _ _ _
 refine wpAny_bind (wpAny_updateSeq gS rfl ?_)
 have g2:=Heap.get?_update_self (Obj.mapSeq (·.push Value.none)) gS rfl
 refine wpAny_updateSeq (hz:=by seq_fits) g2 rfl ?_
 have g3:=Heap.get?_update_self (Obj.mapSeq (·.pop)) g2 rfl
 have oth:∀ q o,q ≠ S → s.heap.get? q = some o → ((s.heap.update S (Obj.mapSeq (·.push Value.none))).update S (Obj.mapSeq (·.pop))).get? q = some o :=
  fun q o hq e=>(Heap.get?_update_other _ _ (Ne.symm hq)).trans ((Heap.get?_update_other _ _ (Ne.symm hq)).trans e)
 refine wpAny_pure ⟨plainId_quiet F.plain_extend_loop _,codeAny_extend_loopS W hn S hS res n 0 _ _ _ rfl (Nat.zero_le _) ?_ g3 (ItemsOf.nil _) fun s' acc c' mv g ii=>?_⟩
 ·exact W.frame 0 s _ s.toks st (Nat.le_refl _) fun q hq o e=>oth q o (fun z=>hS (z ▸ hq)) e
 ·refine hR s' acc c' (Moved.trans W.gtrans ((Moved.refl W.grefl).then_heap (Nat.le_refl _) fun q o hq e=>?_) mv) g ii
  exact oth q o (fun z=>hq (z ▸ .head _)) e
end
end PySem
end
section
namespace PySem
open PyProof.Rows (StrsAre)
theorem z7t {α:Type} [BEq α] [LawfulBEq α]:∀ (D ks:List α),D.Nodup → (∀ x ∈ D,x ∈ ks) → ks.length = D.length → ks.Perm D
 | [],ks,_,_,h=>by rw [List.length_eq_zero_iff.mp h]
 | x :: D,ks,nd,sub,h=>by
  have xin:=sub x (.head _)
  have pe:=List.perm_cons_erase xin
  refine pe.trans ((z7t D (ks.erase x) (List.nodup_cons.mp nd).2 (fun y hy=>?_) ?_).cons x)
  ·have ne:y ≠ x:=fun e=>(List.nodup_cons.mp nd).1 (e ▸ hy)
   exact (List.mem_erase_of_ne ne).mpr (sub y (.tail _ hy))
  ·have:=pe.length_eq
   simp only [List.length_cons] at this h
   omega
theorem zgc {P:Nat → Value → Prop} {L:List (Int × Value)} {acc:Array Value} (h:ItemsOf P acc L.length)
  (hP:∀ i v,P i v → ∃ e,L[i]? = some e ∧ v = e.2):acc.toList = L.map (·.2):=by
 apply List.ext_getElem?
 intro i
 by_cases lt:i < L.length
 ·have lt':i < acc.size:=by rw [h.1]; exact lt
  obtain ⟨e,he,hv⟩:=hP i acc[i] (h.2 i acc[i] (Array.getElem?_eq_getElem lt'))
  rw [Array.getElem?_toList,Array.getElem?_eq_getElem lt',List.getElem?_map,he,hv]
  rfl
 ·rw [List.getElem?_eq_none (by rw [Array.length_toList,h.1]; omega),List.getElem?_eq_none (by rw [List.length_map]; omega)]
section
variable {prog:Program} {w:World} {A:Around} {E:Value → Shared → Prop} {s:Shared}
theorem zht {L:List (Int × Value)} {D:List Str} (he:ElemsOf (strKind prog w) L) (nd:D.Nodup)
  (hm:∀ k,decide (k ∈ D) = true ↔ ∃ e ∈ L,(strKind prog w).is k e.2 = true) (hn:L.length = D.length) :
  ∃ ks,StrsAre (L.map (·.2)) ks ∧ ks.Perm D:=by
 have is:∀ (k:Str) (v:Value),(strKind prog w).is k v = true → ∃ t,v = .str k t:=fun k v z=>by
  cases v <;> first
   | (obtain rfl:=(by simpa [strKind,Value.isInt,Value.isStrOf] using z:_ = k); exact ⟨_,rfl⟩)
   | cases z
 have ex:∀ L:List (Int × Value),ElemsOf (strKind prog w) L → ∃ ks,StrsAre (L.map (·.2)) ks ∧ ∀ k e,e ∈ L → (strKind prog w).is k e.2 = true → k ∈ ks:=by
  intro L
  induction L with
  | nil=>exact fun _=>⟨[],.nil,fun _ _ z=>nomatch z⟩
  | cons e L ih =>
   intro he
   obtain ⟨ks,h1,h2⟩:=ih he.tail
   obtain ⟨k,hk,_⟩:=he.head.1
   obtain ⟨t,ht⟩:=is k e.2 hk
   refine ⟨k :: ks,?_,fun k' e' m z=>?_⟩
   ·rw [List.map_cons,ht]; exact .cons k t h1
   ·rcases List.mem_cons.mp m with rfl | m
    ·rw [(strKind prog w).inj _ k' k z hk]; exact .head _
    ·exact .tail _ (h2 k' e' m z)
 obtain ⟨ks,h1,h2⟩:=ex L he
 refine ⟨ks,h1,z7t D ks nd (fun k hk=>?_) ?_⟩
 ·obtain ⟨e,m,z⟩:=(hm k).mp (decide_eq_true hk)
  exact h2 k e m z
 ·have:=h1.length
  rw [List.length_map] at this
  omega
end
end PySem
end
section
namespace PySem
open PyProof.Rows (StrsAre)
section
variable {prog:Program} {w:World} {A:Around} {E:Value → Shared → Prop} {s:Shared}
theorem zb7 {a:Addr} {D:List Str} {Q:List Value → Shared → Prop} (hh:A.handled = none) (nd:D.Nodup)
  (T:TextSet prog w s.heap a D (z2x w))
  (h:∀ s' vs ks,StrsAre vs ks → ks.Perm D → (∀ b o,s.heap.get? b = some o → s'.heap.get? b = some o) → s'.gens = s.gens → s'.os = s.os →
   s.toks ≤ s'.toks → Q vs s'):wpAny (model prog w) A (collect (.ref a)) Q E s:=by
 obtain ⟨o,es,ep,t,ho,hx,hd,he,hm,hb,hf,hn,hl,hp⟩:=T
 have la:=Heap.lt_size ho
 unfold collect
 refine wpAny_bind (wpAny_runValue (codeAny_builtin F.entry_proto_collect ?_))
 rw [Around.under_plainId F.plain_proto_collect _]
 refine wpAny_bind (m:=newList []) (wpAny_newObj_type ?_)
 refine wpAny_pure ⟨plainId_quiet F.plain_list_iadd _,codeAny_builtin F.entry_list_iadd ?_⟩
 rw [Around.under_plainId F.plain_list_iadd _]
 show wpAny _ A.in1 (Builtin.List.listExtendWith (.ref s.heap.objs.size) (.ref a) (.ref s.heap.objs.size)) _ _ _
 unfold Builtin.List.listExtendWith
 generalize hH:s.heap.push { cls:=.type "list",data:=.seq ([]:List Value).toArray } = H
 have ho1:H.get? a = some o:=by rw [← hH]; exact Heap.get?_push_of_some _ ho
 have gS:H.get? s.heap.objs.size = some { cls:=.type "list",data:=.seq #[] }:=by rw [← hH]; exact Heap.get?_push_size _ rfl
 have zH:H.objs.size = s.heap.objs.size + 1:=by rw [← hH,Heap.size_push]
 have ty:Shared.TypeIs { s with heap:=H } (.ref a) "set" := ⟨o,ho1,hx.1⟩
 refine wpAny_bind (wpAny_typeOf ty ?_)
 have h1:Builtin.List.listSameRef (.ref s.heap.objs.size) (.ref a) = false:=by
  simp only [Builtin.List.listSameRef,beq_eq_false_iff_ne]; exact Nat.ne_of_gt la
 have h2:(Value.type "set" == Value.type "list") = false:=by decide
 have h3:(Value.type "set" == Value.type "tuple") = false:=by decide
 simp only [h1,h2,h3,Bool.or_false,Bool.false_eq_true,if_false]
 have hz:=fits_of_scanBound hb
 have fin:∀ (s1 s':Shared) (I:Addr) (P:Nat → Value → Prop) (L:List (Int × Value)) (acc:Array Value) (c:Nat),
   (∀ b o,H.get? b = some o → s1.heap.get? b = some o) → s1.gens = s.gens → s1.os = s.os → s1.toks = s.toks → s.heap.objs.size < I →
   L.Perm es.toList → (∀ i v,P i v → ∃ e,L[i]? = some e ∧ v = e.2) →
   Moved (s.heap.objs.size :: [I]) (fun x y=>x = y) s1 s' → ItemsOf P acc es.size → Q acc.toList s':=by
  intro s1 s' I P L acc c k0 k1 k2 k3 k4 pr hP mv ii
  have len:L.length = es.size:=by rw [pr.length_eq,Array.length_toList]
  rw [← len] at ii
  rw [zgc ii hP]
  have hm2:∀ k,decide (k ∈ D) = true ↔ ∃ e ∈ L,(strKind prog w).is k e.2 = true:=fun k =>
   (hm k).trans ⟨fun ⟨e,q,z⟩=>⟨e,pr.mem_iff.mpr q,z⟩,fun ⟨e,q,z⟩=>⟨e,pr.mem_iff.mp q,z⟩⟩
  obtain ⟨ks,t1,t2⟩:=zht (he.perm pr) nd hm2 (len.trans hn)
  refine h s' _ ks t1 t2 (fun b o' e=>?_) (mv.gens.symm.trans k1) (mv.os.trans k2) (k3 ▸ mv.toks)
  have lb:=Heap.lt_size e
  refine mv.heap b o' (fun m=>?_) (k0 b o' (by rw [← hH]; exact Heap.get?_push_of_some _ e))
  rcases List.mem_cons.mp m with q | m
  ·exact Nat.ne_of_lt lb q
  ·exact Nat.ne_of_lt (Nat.lt_trans lb k4) (List.mem_singleton.mp m)
 have h4:A.in1.handled = none:=by simp [hh]
 let K:Value → Shared → Prop:=fun v s'=>wpAny (model prog w) A (match v with
  | .ref a=>do
   match (← load a).data with
   | .seq xs _=>pure xs.toList
   | _=>unsupported "internal:collect"
  | _=>unsupported "internal:collect") Q E s'
 have aS:s.heap.objs.size ≠ a:=Nat.ne_of_gt la
 have laH:a < H.objs.size:=Heap.lt_size ho1
 refine wpAny_bind (zeo ho1 hx hd hf hb ?_ ?_)
 ·intro w1 w2 w3 ps d pr
  have len:ps.length = es.size:=by simpa using pr.length_eq
  have gT:((H.push { cls:=.type "tuple",data:=.seq (ps.map fun (i:Nat)=>rawInt i).toArray }).push (z1j (.ref H.objs.size) 0 a es.size ep)).get? H.objs.size
    = some { cls:=.type "tuple",data:=.seq (ps.map fun (i:Nat)=>rawInt i).toArray }:=Heap.get?_push_of_some _ (Heap.get?_push_size _ rfl)
  have gI:((H.push { cls:=.type "tuple",data:=.seq (ps.map fun (i:Nat)=>rawInt i).toArray }).push (z1j (.ref H.objs.size) 0 a es.size ep)).get? (H.objs.size + 1)
    = some (z1j (.ref H.objs.size) 0 a es.size ep):=by
   have z2:(H.push { cls:=.type "tuple",data:=.seq (ps.map fun (i:Nat)=>rawInt i).toArray }).objs.size = H.objs.size + 1:=Heap.size_push ..
   rw [← z2]
   exact Heap.get?_push_size _ rfl
  have two:∀ b o',H.get? b = some o' → ((H.push { cls:=.type "tuple",data:=.seq (ps.map fun (i:Nat)=>rawInt i).toArray }).push (z1j (.ref H.objs.size) 0 a es.size ep)).get? b = some o' :=
   fun b o' e=>Heap.get?_push_of_some _ (Heap.get?_push_of_some _ e)
  have W:=zd4 (prog:=prog) (w:=w) (A:=A.in1) h4 (I:=H.objs.size + 1) (T:=H.objs.size) (a:=a) (o:=o) (ps:=ps) (nT:=0)
   (oT:={ cls:=.type "tuple",data:=.seq (ps.map fun (i:Nat)=>rawInt i).toArray }) hd hf rfl
   (Nat.ne_of_lt (Nat.lt_succ_of_lt laH)) (Nat.ne_of_lt (Nat.lt_succ_self _)) pr
  have out:s.heap.objs.size ∉ [H.objs.size + 1,a,H.objs.size]:=by
   rw [zH]; intro m
   rcases List.mem_cons.mp m with q | m
   ·exact Nat.ne_of_lt (Nat.lt_succ_of_lt (Nat.lt_succ_self _)) q
   ·rcases List.mem_cons.mp m with q | m
    ·exact aS q
    ·exact Nat.ne_of_lt (Nat.lt_succ_self _) (List.mem_singleton.mp m)
  refine z3o (a:=a) (R:=wants K E) (b:=_) W hz out ?_ (c:=0) ?_ ?_ ?_
  ·exact ⟨⟨_,gI,rfl,rfl⟩,two _ _ ho1,gT⟩
  ·exact two _ _ gS
  ·exact ⟨o,two _ _ ho1,hx.1⟩
  intro s' acc c' mv g ii
  show wpAny _ _ (load _ >>= _) _ _ _
  refine wpAny_bind (wpAny_load g (wpAny_pure ?_))
  refine fin { s with heap:=(H.push { cls:=.type "tuple",data:=.seq (ps.map fun (i:Nat)=>rawInt i).toArray }).push (z1j (.ref H.objs.size) 0 a es.size ep),drawn:=d } s' (H.objs.size + 1) _ (ps.map fun p=>es.getD p default) acc c' two rfl rfl rfl (by rw [zH]; exact Nat.lt_succ_of_lt (Nat.lt_succ_self _)) ?_ ?_ mv ii
  ·refine (pr.map _).trans ?_
   have:(List.range es.size).map (fun p=>es.getD p default) = es.toList:=by
    apply List.ext_getElem?
    intro i
    by_cases lt:i < es.size
    ·simp [lt]
    ·simp [lt]
   rw [this]
  ·rintro i v ⟨p,e,hp',he',rfl⟩
   refine ⟨e,?_,rfl⟩
   rw [List.getElem?_map,hp']
   obtain ⟨lt,q⟩:=Array.getElem?_eq_some_iff.mp he'
   simp [lt,q]
 ·intro w1
  have gI:(H.push (z1j (.int 0 0) 0 a es.size ep)).get? H.objs.size = some (z1j (.int 0 0) 0 a es.size ep):=Heap.get?_push_size _ rfl
  have one:∀ b o',H.get? b = some o' → (H.push (z1j (.int 0 0) 0 a es.size ep)).get? b = some o':=fun b o' e=>Heap.get?_push_of_some _ e
  have out:s.heap.objs.size ∉ [H.objs.size,a]:=by
   rw [zH]; intro m
   rcases List.mem_cons.mp m with q | m
   ·exact Nat.ne_of_lt (Nat.lt_succ_self _) q
   ·exact aS (List.mem_singleton.mp m)
  have lI:s.heap.objs.size < H.objs.size:=by rw [zH]; exact Nat.lt_succ_self _
  cases hw:w.params.followText "set-order" with
  | true =>
   have W:=zep (prog:=prog) (A:=A.in1) h4 hw (I:=H.objs.size) (a:=a) (o:=o) hd hf (Nat.ne_of_lt laH)
   refine z3o (a:=a) (R:=wants K E) (b:=_) W hz out ?_ (c:=0) ?_ ?_ ?_
   ·exact ⟨⟨_,gI,rfl,rfl⟩,one _ _ ho1⟩
   ·exact one _ _ gS
   ·exact ⟨o,one _ _ ho1,hx.1⟩
   intro s' acc c' mv g ii
   show wpAny _ _ (load _ >>= _) _ _ _
   refine wpAny_bind (wpAny_load g (wpAny_pure ?_))
   refine fin { s with heap:=H.push (z1j (.int 0 0) 0 a es.size ep) } s' H.objs.size _ (pickOrder (w.params.setOrder a ep) es).toList acc c' one rfl rfl rfl lI (z3w _ _) ?_ mv ii
   rintro i v ⟨e,q,rfl⟩
   exact ⟨e,by rw [Array.getElem?_toList]; exact q,rfl⟩
  | false =>
   have small:es.size ≤ 1:=by
    rcases w1 with q | q | q
    ·rw [hw] at q; cases q
    ·by_cases z:es.size = 0
     ·omega
     ·rw [hp z] at q; cases q
    ·exact q
   have W:=zgb (prog:=prog) (A:=A.in1) h4 hw (I:=H.objs.size) (a:=a) (o:=o) hd hf small (hl.trans (by simp [z2x,hw])) (Nat.ne_of_lt laH)
   refine z3o (a:=a) (R:=wants K E) (b:=_) W hz out ?_ (c:=0) ?_ ?_ ?_
   ·exact ⟨⟨_,gI,rfl,rfl⟩,one _ _ ho1⟩
   ·exact one _ _ gS
   ·exact ⟨o,one _ _ ho1,hx.1⟩
   intro s' acc c' mv g ii
   show wpAny _ _ (load _ >>= _) _ _ _
   refine wpAny_bind (wpAny_load g (wpAny_pure ?_))
   refine fin { s with heap:=H.push (z1j (.int 0 0) 0 a es.size ep) } s' H.objs.size _ es.toList acc c' one rfl rfl rfl lI (.refl _) ?_ mv ii
   rintro i v ⟨e,q,rfl⟩
   exact ⟨e,by rw [Array.getElem?_toList]; exact q,rfl⟩
end
end PySem
end
section
namespace PySem
open PyProof.Rows
section
variable {prog:Program} {w:World} {A:Around} {E:Value → Shared → Prop} {s:Shared}
theorem z9w {a:Addr} {D:List Str} {Q:Value → Shared → Prop} (hh:A.handled = none) (nd:D.Nodup) (h64:D.length < 64)
  (T:TextSet prog w s.heap a D (z2x w))
  (h:∀ s' l vs ks e,StrsAre vs ks → ks.Perm D → sortedS ks = true → (∀ b o,s.heap.get? b = some o → s'.heap.get? b = some o ∧ b ≠ l) →
   s'.heap.get? l = some (seqObj "list" vs.toArray e) → s.heap.get? l = none → s'.gens = s.gens → s'.os = s.os → s.toks ≤ s'.toks → Q (.ref l) s') :
  wpAny (model prog w) A (call (.builtin "sorted") [.ref a]) Q E s:=by
 refine Calls.call_function_entry kind_sorted plain_sorted entry_sorted (args_sorted1 _) ?_
 unfold Builtin.«sorted»
 refine wpAny_bind (m:=checkCount "sorted" 1 1 _) (wpAny_pure ?_)
 refine wpAny_bind (zb7 (by simpa using hh) nd T fun s1 vs ks t1 t2 k0 k1 k2 k3=>?_)
 have v64:vs.length < 64:=by rw [t1.length,t2.length_eq]; exact h64
 have fit:vs.length ≤ sizeLine:=Nat.le_trans (Nat.le_of_lt v64) (by decide)
 refine wpAny_bind (wpAny_newList ?_ fit)
 have hS:=Heap.get?_push_size (h:=s1.heap) (o:=seqObj "list" vs.toArray 0) rfl
 refine wpAny_bind (wpAny_holding (wpAny_call_entry slot_list_sort ⟨_,hS,rfl⟩ entry_list_sort
  (list_sort_treeK strKind_oneLt hS t1.keysOf (fun v₁ v₂ rest e=>keyKind_strs (by rw [← e]; exact t1)) v64 fun st' a1 a2=>⟨_,rfl,?_⟩) (args_list_sort _)))
 obtain ⟨ks',u1,u2,u3⟩:=sorted_out_str t1 a1 a2
 refine wpAny_pure ⟨_,rfl,?_⟩
 obtain ⟨e,ge⟩:=sortedHeap_at (out:=(arrOf st').map (·.2)) hS
 refine h _ s1.heap.objs.size ((arrOf st').map (·.2)).toList ks' e u1 (u2.trans t2) u3 (fun b o q=>?_) ?_ ?_ k1 k2 k3
 ·have lb:=Heap.lt_size (k0 b o q)
  refine ⟨?_,Nat.ne_of_lt lb⟩
  refine (sortedHeap_old (Nat.ne_of_lt lb) ?_).trans (Heap.get?_push_of_some _ (k0 b o q))
  rw [Heap.size_push]; exact Nat.lt_succ_of_lt lb
 ·exact ge
 ·cases z:s.heap.get? s1.heap.objs.size with
  | none=>rfl
  | some o=>exact absurd (Heap.lt_size (k0 _ o z)) (Nat.lt_irrefl _)
end
end PySem
end
section
namespace L2
open PySem PySem.Spec PyProof.Rows
def tso (P:Program) (w:World) (a:Addr) (D:List Str):HO:=.ext fun h=>TextSet P w h a D (z2x w)
theorem zk9 {P:Program} {w:World} {H:Hp} {h:Heap} {a:Addr} {D:List Str} (T:TextSet P w h a D (z2x w)):ObjOk P w H h a (tso P w a D):=by
 refine ⟨T,?_,fun h1 h2 t k=>TextSet.keep t k⟩
 obtain ⟨o,es,ep,t,ho,_⟩:=T
 exact ⟨o,ho⟩
theorem z5q:∀ {ss:List Str} {us:List Value},Vals (ss.map V.str) us → StrsAre us ss
 | [],_,h=>by cases h; exact .nil
 | s :: ss,_,h=>by
  cases h with
  | cons h1 t =>
   obtain ⟨k,rfl⟩:=h1
   exact .cons s k (z5q t)
theorem z7c:∀ {us:List Value} {ss:List Str},StrsAre us ss → Vals (ss.map V.str) us
 | _,_,.nil=>.nil
 | _,_,.cons y t r=>.cons ⟨t,rfl⟩ (z7c r)
theorem zd5 {P:Program} {w:World} {H:Hp} {h:Heap} {a:Addr} {o:HO} (x:ObjOk P w H h a o):∃ u,h.get? a = some u:=by
 cases o with
 | lst xs=>obtain ⟨_,_,_,_,e⟩:=x; exact ⟨_,e⟩
 | tup xs=>obtain ⟨_,_,_,_,e,_⟩:=x; exact ⟨_,e⟩
 | dK kvs=>obtain ⟨_,_,_,_,_,_,_,e,_⟩:=x; exact ⟨_,e⟩
 | dT kvs=>obtain ⟨_,_,_,_,_,_,_,e,_⟩:=x; exact ⟨_,e⟩
 | set S n=>obtain ⟨_,_,_,_,e,_⟩:=x; exact ⟨_,e⟩
 | ins C dx fs=>obtain ⟨_,_,_,e,_⟩:=x; exact ⟨_,e⟩
 | own y=>obtain ⟨_,e⟩:=x; exact ⟨_,e⟩
 | xd fs=>obtain ⟨_,⟨_,_,_,e,_⟩,_⟩:=x; exact ⟨_,e⟩
 | rng lo hi=>obtain ⟨_,_,_,e⟩:=x; exact ⟨_,e⟩
 | frz ob u=>obtain ⟨e,_⟩:=x; exact ⟨_,e⟩
 | tbl ps=>exact ⟨_,show h.get? a = some _ from x⟩
 | met f y=>exact ⟨_,show h.get? a = some _ from x⟩
 | ext φ=>obtain ⟨_,⟨_,e⟩,_⟩:=x; exact ⟨_,e⟩
section
variable {X:Cx}
theorem zgd (hc:X.calm = true):CallR X (.type "set") (fun xs H Q=>∃ p ss,xs = [.ref p] ∧ SqL X.K H p ((ss:List Str).map V.str) ∧ ss.length + 1 < scanBound ∧ ∀ d,H d = none → Q (.ref d) (upd H d (tso X.prog X.w d (z1h ss)))):=by
 intro pins s σ H xs us Q I r h
 obtain ⟨p,ss,rfl,hp,hb,q⟩:=h
 obtain ⟨u,rfl,ru⟩:=z3k r
 cases ru
 obtain ⟨its,r1,pl,hz⟩:=I.list hp
 refine z9t (ss:=ss) (I.ok.hd hc) pl.isList (by simpa using z5q r1) hb fun h' tk T ht hk=>?_
 exact ⟨.ref _,_,I.laid (t':=tk) hk (Nat.le_refl _) (zk9 T),rfl,q _ I.fresh⟩
theorem zc7 (hc:X.calm = true):CallR X (.builtin "sorted") (fun xs H Q=>∃ a D,xs = [.ref a] ∧ H a = some (tso X.prog X.w a D) ∧ D.Nodup ∧ D.length < 64 ∧ ∀ l ks,H l = none → ks.Perm D → sortedS ks = true → Q (.ref l) (upd H l (.lst ((ks:List Str).map V.str)))):=by
 intro pins s σ H xs us Q I r h
 obtain ⟨a,D,rfl,ha,nd,h64,q⟩:=h
 obtain ⟨u,rfl,ru⟩:=z3k r
 cases ru
 obtain ⟨T,-,-⟩:=(show ObjOk X.prog X.w H s.heap a (tso X.prog X.w a D) from I.hok a _ ha)
 refine z9w (I.ok.hd hc) nd h64 T fun s' l vs ks e t1 t2 t3 hk hl hn hg ho ht=>?_
 have hz:(ks.map V.str).length ≤ sizeLine:=by
  rw [List.length_map,t2.length_eq]; exact Nat.le_trans (Nat.le_of_lt h64) (by decide)
 have k:∀ b u,s.heap.get? b = some u → s'.heap.get? b = some u:=fun b u e=>(hk b u e).1
 have hHl:H l = none:=by
  cases z:H l with
  | none=>rfl
  | some o =>
   obtain ⟨u,hu⟩:=zd5 (I.hok l o z)
   exact absurd rfl (hk l u hu).2
 have un:Un (frs X.stack) [] H (upd H l (.lst (ks.map V.str))) s.heap s'.heap:=by
  refine ⟨fun b u z _ _ _=>k b u z,fun b u z _ _ _=>⟨u.slots,k b u z⟩,fun b u z n _=>?_,fun b u z _=>⟨u,k b u z⟩,fun b ys z=>?_,fun b u ys z=>?_,fun b ps z=>⟨#[],?_⟩⟩
  ·rw [z9 (hk b u z).2]; exact n
  ·rw [z9 (zc z hHl)]; exact z
  ·rw [z9 (zc z hHl)]; exact z
  ·rw [z9 (zc z hHl),z]; simp
 have hok:HOk X.prog X.w (upd H l (.lst (ks.map V.str))) s'.heap:=fun b u e'=>by
  by_cases hb:b = l
  ·subst hb; rw [z7] at e'; cases e'
   exact ⟨hz,vs,e,z7c t1,hl⟩
  ·rw [z9 hb] at e'
   exact (I.hok b u e').stay (fun c v _ q=>k c v q) (fun c q=>by rw [z9 (zc q hHl)]; exact q) fun c xs q=>by rw [z9 (zc q hHl)]; exact q
 exact ⟨.ref l,_,I.call' ho un hok (by rw [hg]; exact I.bare) (fun b z=>absurd z (by simp)),rfl,q l ks hHl t2 t3⟩
end
end L2
end
section
namespace L2
open PySem PySem.Spec PyProof.Rows
theorem MHas.never {P:Program} {w:World} {K:PySem.W.Frag} {mg:Str → Option Value} {base:Heap} {k:Nat} {C:Addr} {m:Str} {ps:List Str} {sp:Sp} (G:MHas P w K mg base (CX1 P w) k C m ps sp):MHas P w K mg base CX0 k C m ps (fun vs H Q _=>sp vs H Q E0):=by
 obtain ⟨f,fd,F,hm,hb⟩:=G
 refine ⟨f,fd,⟨fun vs H Q E h=>F.len vs H Q E0 h,fun A outer s H args us vs Q E hr he hb hv hs=>codeAny_mono (F.run A outer s H args us vs Q E0 hr he hb hv hs) fun r s' h=>?_⟩,hm,hb⟩
 cases r with
 | error e =>
  obtain ⟨_,_,_,_,_,_,_,_,_,_,_,_,_,z⟩:=h
  exact z
 | ok fl=>cases fl <;> exact h
section
variable {X:Cx}
theorem PS.nox {st:Stmt} {t:TS} (h:PS X.nox st t):PS X st t:=fun pins s σ H D I hw =>
 wpAny_mono (h pins s σ H D (I.wish _) hw) (fun _ _ q=>q.unwish) fun _ _ z=>False.elim z
end
end L2
end
section
namespace L2
open PySem PySem.Spec PyProof.Rows
theorem zc8:∀ {ns:List Int} {us:List Value},Vals (ns.map V.int) us → IntsAre us ns
 | [],_,h=>by cases h; exact .nil
 | s :: ss,_,h=>by
  cases h with
  | cons h1 t =>
   obtain ⟨k,rfl⟩:=h1
   exact .cons s k (zc8 t)
theorem zc9:∀ {us:List Value} {ns:List Int},IntsAre us ns → Vals (ns.map V.int) us
 | _,_,.nil=>.nil
 | _,_,.cons y t r=>.cons ⟨t,rfl⟩ (zc9 r)
section
variable {X:Cx}
theorem zca:CallR X (.builtin "sorted") (fun xs H Q=>∃ p ns,xs = [.ref p] ∧ SqL X.K H p ((ns:List Int).map V.int) ∧ ns.length < 64 ∧ ∀ l ks,H l = none → ks.Perm ns → ks.Pairwise (· ≤ ·) → Q (.ref l) (upd H l (.lst ((ks:List Int).map V.int)))):=by
 intro pins s σ H xs us Q I r h
 obtain ⟨p,ns,rfl,hp,h64,q⟩:=h
 obtain ⟨u,rfl,ru⟩:=z3k r
 cases ru
 obtain ⟨its,r1,pl,hz⟩:=I.list hp
 have hl:=r1.length
 rw [List.length_map] at hl
 refine sorted_ints pl.isList (zc8 r1) (by omega) fun out ns' a1 a2 a3=>?_
 obtain ⟨e,he⟩:=sortedAll_at s.heap its out
 have zz:(ns'.map V.int).length ≤ sizeLine:=by
  rw [List.length_map,a2.length_eq]; exact Nat.le_trans (Nat.le_of_lt h64) (by decide)
 exact ⟨.ref _,_,I.laid (a:=s.heap.objs.size + 1) (o:=.lst (ns'.map V.int)) (t':=s.toks) (fun _ _=>sortedAll_old) (Nat.le_succ _) ⟨zz,out.toList,e,zc9 a1,he⟩,rfl,q _ _ (I.hok.fresh (Nat.le_succ _)) a2 a3⟩
end
end L2
end
section
namespace PySem
open PySem.W PySem.Spec PyProof.Rows
section
variable {prog:Program} {w:World} {A:Around} {E:Value → Shared → Prop} {s:Shared}
theorem zhu {n qual x:Str} {params:Arguments} {body:Expr} {scope:Scope} {pm ctv v:Value} {c' f:Addr} {cl:List (Str × Addr)} {Q:Value → Shared → Prop} (hroom:A.depth < recursionLimit)
  (ho:s.heap.get? f = some (kla_obj n qual params body scope cl pm c' ctv)) (hcd:s.heap.CodeRec (.ref c') qual) (hlim:s.heap.NoLimit)
  (hb:bindArgs (kla_fn n qual params body scope cl pm (.ref c') ctv) ⟨[v],[]⟩ = pure [(x,v)])
  (hco:scope.isCoroutine = false) (hgen:scope.isGenerator = false) (hk:scope.kind = .function) (hcell:∀ y ∈ scope.names,y.2 ≠ .cell) (hloc:scope.names.lookup x = some .local)
  (h:∀ h₁,h₁.Ns s.heap.objs.size (fun y=>[(x,v)].reverse.lookup y) → (∀ b o,s.heap.get? b = some o → h₁.get? b = some o) →
   wpAny (model prog w) (A.deeper (newEnv scope s.heap.objs.size mainGlobals cl (qual ++ ".<locals>.") (some f) (.ref c') none builtinsNs)) (eval body (newEnv scope s.heap.objs.size mainGlobals cl (qual ++ ".<locals>.") (some f) (.ref c') none builtinsNs)) Q (fun _ _=>False) { s with heap:=h₁,toks:=s.toks + 1 }) :
  wpAny (model prog w) A (call (.ref f) [v]) Q E s:=by
 refine wpAny_call (kla_callFunE hroom ho rfl hco hgen rfl hcd ?_)
 rw [hb]
 refine wpAny_pure (wpAny_newFunctionEnv hcell (fun y hy=>?_) (fun h₁ hns hsb=>⟨hlim.fresh _ hsb,?_⟩) hk)
 ·rw [List.mem_singleton.mp hy]; exact hloc
 ·have hk₁:∀ b o,s.heap.get? b = some o → h₁.get? b = some o:=fun b o e=>hsb.extBut b o (Nat.ne_of_lt (Heap.lt_size e)) (Heap.get?_push_of_some _ e)
  exact kla_codeExpr (wpAny_mono (h h₁ hns hk₁) (fun v s' hq=>hq) fun _ _ z=>z.elim)
end
end PySem
namespace L2
open PySem PySem.W PySem.Spec PyProof.Rows
def zbl (c':Addr) (qual:Str):HO:=.ext fun h=>h.CodeRec (.ref c') qual
theorem zhv {P:Program} {w:World} {H:Hp} {h:Heap} {c':Addr} {qual:Str} (C:h.CodeRec (.ref c') qual):ObjOk P w H h c' (zbl c' qual):=by
 refine ⟨C,?_,fun h1 h2 x k=>?_⟩
 ·obtain ⟨c,o,vs,t,e,g,_⟩:=C
  cases e
  exact ⟨o,g⟩
 ·obtain ⟨c,o,vs,t,e,g,r⟩:=x
  cases e
  exact ⟨_,o,vs,t,rfl,k o g,r⟩
def TbOk (H:Hp) (Pt:Addr) (pos:Pos) (qual:Str):Prop:=H Pt = some (.tbl #[]) ∨ ∃ c',H Pt = some (.tbl #[rawInt pos.line,rawInt pos.col,.ref c']) ∧ H c' = some (zbl c' qual)
theorem TbOk.some {H:Hp} {Pt:Addr} {pos:Pos} {qual:Str} (h:TbOk H Pt pos qual):∃ ps,H Pt = some (.tbl ps):=by
 rcases h with h | ⟨c',h,_⟩
 ·exact ⟨_,h⟩
 ·exact ⟨_,h⟩
theorem TbOk.mono {H H':Hp} {Pt:Addr} {pos:Pos} {qual:Str} (h:TbOk H Pt pos qual) (s:Same H H'):TbOk H' Pt pos qual:=by
 rcases h with h | ⟨c',h,h2⟩
 ·exact .inl (s _ _ h)
 ·exact .inr ⟨c',s _ _ h,s _ _ h2⟩
theorem zhw (pos:Pos) (c':Addr):codeAmong pos (#[rawInt pos.line,rawInt pos.col,.ref c']:Array Value).toList = some (.ref c'):=by
 simp [codeAmong,rawInt]
section
variable {X:Cx} {pins:List (Addr × Obj)} {σ:St} {H:Hp} {s:Shared} {c Pt:Addr} {pos:Pos} {params:Arguments} {body:Expr} {scope:Scope}
theorem zhx {cl:List (Str × Addr)} {Q:Value → Shared → Prop} (I:Inv X pins σ H s) (hcode:X.env.code = .ref c) (hC:codeHdIn X.K c Pt = true) (BA:X.base.BuiltinsAt X.mg Pt) (hT:TbOk H Pt pos (X.env.qual ++ "<lambda>"))
  (hdef:defaultsOf params X.env = ([],[])) (hcl:closureFor scope X.env = pure cl)
  (h:∀ (f c':Addr) (ctv pm:Value) (H':Hp) (s':Shared),Inv X pins σ H' s' → s'.heap.get? f = some (kla_obj "<lambda>" (X.env.qual ++ "<lambda>") params body scope cl pm c' ctv) → s'.heap.CodeRec (.ref c') (X.env.qual ++ "<lambda>") →
   TbOk H' Pt pos (X.env.qual ++ "<lambda>") → (∀ b o,H b = some o → b ≠ Pt → H' b = some o) → H' f = none → Q (.ref f) s') :
  wpAny (model X.prog X.w) X.A (eval (.Lambda params body scope pos) X.env) Q X.xe s:=by
 refine kla_eval hdef ?_
 have hg:s.heap.Ns mainGlobals X.mg:=by
  obtain ⟨o,es,ep,e,r⟩:=I.mod.glob
  exact ⟨o,es,ep,I.bk _ _ e,r⟩
 have CH:=codeHd_of_K I.kIn hC
 have hb:s.heap.BuiltinsAt X.mg Pt:=by
  obtain ⟨bm,o,b1,b2,b3,b4,b5,b6⟩:=BA
  exact ⟨bm,o,b1,b2,b3,b4,I.bk _ _ b5,b6⟩
 have hgP:mainGlobals ≠ Pt:=fun z=>by
  obtain ⟨o,es,ep,e,r⟩:=I.mod.glob
  have:=(I.bs _ _ e).2
  obtain ⟨ps,hp⟩:=hT.some
  rw [z,hp] at this
  cases this
 rcases hT with hT | ⟨c',hT,hc'⟩
 ·have hP:s.heap.get? Pt = some (tabObj #[]):=I.hok Pt _ hT
  refine kla_makeFunction hcl I.ok.glob hg hcode CH hP trivial rfl hgP hb fun c' ctv h' tk hx hge hlt hrec htb=>?_
  have hc0:H c' = none:=I.hok.fresh hge
  have ncP:c' ≠ Pt:=fun z=>by rw [z,hT] at hc0; cases hc0
  have hf0:H h'.objs.size = none:=I.hok.fresh (Nat.le_trans hge (Nat.le_of_lt hlt))
  have kp:∀ (ob:Obj) (b:Addr) (o:Obj),b ≠ Pt → s.heap.get? b = some o → (h'.push ob).get? b = some o:=fun ob b o nb e=>Heap.get?_push_of_some _ (hx b o nb e)
  have htb':h'.get? Pt = some (tabObj #[rawInt pos.line,rawInt pos.col,.ref c']):=by simpa using htb
  refine h h'.objs.size c' ctv _ (upd (upd H c' (zbl c' (X.env.qual ++ "<lambda>"))) Pt (.tbl #[rawInt pos.line,rawInt pos.col,.ref c'])) _ (I.un (t':=tk) ⟨fun b o e n _ _=>?_,fun b o e n _ _=>⟨o.slots,?_⟩,fun b o e n _=>?_,fun b o e _=>?_,fun b xs e=>?_,fun b o u e=>?_,fun b ps e=>?_⟩ ?_) (Heap.get?_push_size _ rfl) (hrec.keeps fun b o e=>Heap.get?_push_of_some _ e) (.inr ⟨c',z7,?_⟩) (fun b o e nb=>?_) ?_
  ·exact kp _ b o (fun z=>by rw [z,hT] at n; cases n) e
  ·exact kp _ b o (fun z=>by rw [z,hT] at n; cases n) e
  ·rw [z9 (fun z=>by rw [z,hT] at n; cases n),z9 (Nat.ne_of_lt (Nat.lt_of_lt_of_le (Heap.lt_size e) hge))]
   exact n
  ·by_cases z:b = Pt
   ·rw [z]; exact ⟨_,Heap.get?_push_of_some _ htb'⟩
   ·exact ⟨o,kp _ b o z e⟩
  ·rw [z9 (fun z=>by rw [z,hT] at e; cases e),z9 (zc e hc0)]; exact e
  ·rw [z9 (fun z=>by rw [z,hT] at e; cases e),z9 (zc e hc0)]; exact e
  ·by_cases z:b = Pt
   ·subst z
    rw [hT] at e
    cases e
    exact ⟨#[rawInt pos.line,rawInt pos.col,.ref c'],by rw [z7]; simp⟩
   ·exact ⟨#[],by rw [z9 z,z9 (zc e hc0),e]; simp⟩
  ·intro b u e
   by_cases z:b = Pt
   ·subst z
    rw [z7] at e
    cases e
    exact Heap.get?_push_of_some _ htb'
   ·rw [z9 z] at e
    by_cases z2:b = c'
    ·subst z2
     rw [z7] at e
     cases e
     exact zhv (hrec.keeps fun b o e=>Heap.get?_push_of_some _ e)
    ·rw [z9 z2] at e
     refine (I.hok b u e).stay (fun d v hd q=>kp _ d v ?_ q) (fun d q=>?_) fun d xs q=>?_
     ·rintro rfl
      rcases hd with hd | hd
      ·exact z hd.symm
      ·rw [hT] at hd; cases hd
     ·rw [z9 (fun y=>by rw [y,hT] at q; cases q),z9 (zc q hc0)]; exact q
     ·rw [z9 (fun y=>by rw [y,hT] at q; cases q),z9 (zc q hc0)]; exact q
  ·rw [z9 ncP,z7]
  ·rw [z9 nb,z9 (zc e hc0)]; exact e
  ·rw [z9 (fun z=>by rw [z,hT] at hf0; cases hf0),z9 (Nat.ne_of_gt hlt)]; exact hf0
 ·have hP:s.heap.get? Pt = some (tabObj #[rawInt pos.line,rawInt pos.col,.ref c']):=I.hok Pt _ hT
  obtain ⟨C,-,-⟩:=(show ObjOk X.prog X.w H s.heap c' (zbl c' (X.env.qual ++ "<lambda>")) from I.hok c' _ hc')
  refine kla_makeFunctionHit hcl I.ok.glob hg hcode CH hP trivial (zhw pos c') hb fun ctv h' tk hk hsz=>?_
  have k2:∀ (ob:Obj) (b:Addr) (o:Obj),s.heap.get? b = some o → (h'.push ob).get? b = some o:=fun ob b o e=>Heap.get?_push_of_some _ (hk b o e)
  exact h h'.objs.size c' ctv _ H _ (I.kept (t':=tk) (k2 _)) (Heap.get?_push_size _ rfl) (C.keeps (k2 _)) (.inr ⟨c',hT,hc'⟩) (fun b o e _=>e) (I.hok.fresh hsz)
end
end L2
end
section
namespace PySem
open PySem.W PySem.Spec PyProof.Rows
structure LamX (x:Str) (params:Arguments) (scope:Scope):Prop where
 bind:∀ (qual:Str) (body:Expr) (pm cdv ctv v:Value),bindArgs (kla_fn "<lambda>" qual params body scope [] pm cdv ctv) ⟨[v],[]⟩ = pure [(x,v)]
 co:scope.isCoroutine = false
 gen:scope.isGenerator = false
 kind:scope.kind = .function
 cell:∀ y ∈ scope.names,y.2 ≠ .cell
 loc:scope.names.lookup x = some .local
 db:(x == ("__debug__" : Str)) = false
section
variable {prog:Program} {w:World} {A:Around} {E:Value → Shared → Prop} {s:Shared}
end
end PySem
namespace L2
open PySem PySem.W PySem.Spec PyProof.Rows
section
variable {X:Cx} {pins:List (Addr × Obj)} {σ:St} {H:Hp} {s:Shared}
theorem Inv.walked {m:Str → Option Value} {h':Heap} {t':Nat} (I:Inv X pins σ H s) (hn:s.heap.Ns X.env.locals m) (hn':h'.Ns X.env.locals m) (k:∀ b o,b ≠ X.env.locals → s.heap.get? b = some o → h'.get? b = some o):Inv X pins σ H { s with heap:=h',toks:=t' }:=by
 have hf:=I.free
 refine I.step (g':=s.gens) (d':=s.drawn) (ch:=[]) (fun _ z=>nomatch z) (fun b o nb _ _ e _=>k b o nb e) (fun b o nb _ _ e _=>⟨o.slots,k b o nb e⟩) (fun _ _ _ _ n=>n) (fun b o _ e=>?_) (fun _ _ e=>e) (fun _ _ _ e=>e) (fun b ps e=>⟨#[],by rw [e]; simp⟩) (fun m' hm=>?_) (fun b u e=>?_) I.bare
 ·by_cases z:b = X.env.locals
  ·obtain ⟨o',es,ep,ho,_⟩:=hn'
   exact ⟨o',z ▸ ho⟩
  ·exact ⟨o,k b o z e⟩
 ·rw [hm.eq_nsMap,← hn.eq_nsMap]
  exact hn'
 ·refine (I.hok b u e).stay (fun c v hc q=>k c v ?_ q) (fun _ q=>q) fun _ _ q=>q
  rintro rfl
  rcases hc with hc | hc
  ·rw [← hc,hf] at e; cases e
  ·rw [hf] at hc; cases hc
def But1 (a:Addr) (H H':Hp):Prop:=∀ b o,H b = some o → b ≠ a → H' b = some o
end
end L2
end
section
namespace L2
open PySem PySem.Spec PyProof.Rows
structure OnlyT (ts:List Addr) (H:Hp):Prop where
 all:∀ b u,H b = some u → (b ∈ ts ∧ u = .tbl #[]) ∨ ∃ o xs,u = .frz o (.lst xs)
 tab:∀ t ∈ ts,H t = some (.tbl #[])
def z6w (ts:List Addr) (a:Addr) (o:HO):Hp:=fun b=>if b ∈ ts then some (.tbl #[]) else if b = a then some o else none
theorem zka {h h':Heap} (k:∀ b o,h.get? b = some o → h'.get? b = some o ∨ (isCodeTable h b ∧ o = PySem.W.tabObj #[] ∧ ∃ more,h'.get? b = some (PySem.W.tabObj more))):OldK h h':=by
 refine ⟨fun b o e=>?_,fun b o e=>?_⟩
 ·rcases k b o e with z | ⟨z1,rfl,more,z2⟩
  ·exact .inl z
  ·exact .inr (.inl ⟨z1,rfl,#[],more,rfl,by rw [z2]; simp [PySem.W.tabObj]⟩)
 ·rcases k b o e with z | ⟨_,_,more,z⟩
  ·exact ⟨_,z⟩
  ·exact ⟨_,z⟩
section
variable {P:Program} {w:World} {K:PySem.W.Frag} {mg mb:Str → Option Value} {k:Nat} {fa a:Addr} {fd:FuncData} {x:Str} {sp:Sp} {s₁:Shared} {vs:List Value} {ns:List Int} {ts:List Addr}
theorem lawT (KX:K.In s₁.heap) (gl:s₁.heap.Ns mainGlobals mg) (bl:s₁.heap.Ns builtinsNs mb) (bb:∀ x:Str,x ≠ "__name__" → mb x = bootBuiltins x) (lim:s₁.heap.NoLimit) (gn:s₁.gens = #[])
  (sc:s₁.heap.get? a = some { cls:=.type "list",data:=.seq vs.toArray }) (hi:IntsAre vs ns) (hl:ns.length ≤ sizeLine) (hr:Room k callerA)
  (tabs:∀ t ∈ ts,s₁.heap.get? t = some (PySem.W.tabObj #[])) (codes:∀ t ∈ ts,∃ c,PySem.W.codeHdIn K c t = true) (notK:∀ t ∈ ts,K.lookup t = none)
  (bm:∃ bm ob,mg "__builtins__" = some (.ref bm) ∧ bm ≠ builtinsNs ∧ s₁.heap.get? bm = some ob ∧ ob.cls = .type "module" ∧ ob.dict = some builtinsNs ∧ ob.data = .plain)
  (F:∀ base:Heap,K.In base → base.Ns mainGlobals mg → (∀ t ∈ ts,base.BuiltinsAt mg t) → FnOk P w K mg base CX0 k fa fd [x] sp) (bind:∀ (s:Shared) (u:Value),BindsTo s fd ⟨[u],[]⟩ [(x,u)])
  (hsp:∀ H:Hp,OnlyT ts H → SqL K H a (ns.map V.int) → sp [.ref a] H (fun v _=>v = .bl true) fun _ _ _=>False) :
  codeAny (model P w) callerA (.call (.ref fa) ⟨[.ref a],[]⟩) (fun r s'=>r = .ok (.ret (.bool true)) ∧ OldK s₁.heap s'.heap ∧ s'.os = s₁.os ∧ AllBare s'.gens) s₁:=by
 have rv:=zam hi
 have lv:=hi.length
 have ant:a ∉ ts:=fun z=>by have:=tabs a z; rw [sc] at this; cases this
 have main:∀ H:Hp,OnlyT ts H → SqL K H a (ns.map V.int) → HOk P w H s₁.heap → (∀ b u,H b = some u → K.lookup b = none ∧ (b = a ∨ b ∈ ts)) →
   codeAny (model P w) callerA (.call (.ref fa) ⟨[.ref a],[]⟩) (fun r s'=>r = .ok (.ret (.bool true)) ∧ OldK s₁.heap s'.heap ∧ s'.os = s₁.os ∧ AllBare s'.gens) s₁:=by
  intro H only seq hok lone
  have untracked:∀ {b:Addr} {o:Obj},s₁.heap.get? b = some o → (∀ i n,o.data ≠ .seq i n) → (∀ i,o.data ≠ .fields i) → H b = none:=fun {b o} e n1 n2=>by
   cases q:H b with
   | none=>rfl
   | some u =>
    rcases (lone b u q).2 with z | z
    ·rw [z,sc] at e; cases e; exact (n1 _ _ rfl).elim
    ·have:=tabs b z; rw [e] at this; cases this; exact (n2 _ rfl).elim
  have inB:∀ {b:Addr} {o:Obj},s₁.heap.get? b = some o → H b = none → (hidT s₁.heap H).get? b = some o:=fun e n=>zhb e n
  have nsB:∀ {b:Addr} {m:Str → Option Value},s₁.heap.Ns b m → (hidT s₁.heap H).Ns b m:=fun {b m} ⟨o,es,ep,e,d,r⟩ =>
   ⟨o,es,ep,inB e (untracked e (fun i n z=>by rw [d] at z; cases z) fun i z=>by rw [d] at z; cases z),d,r⟩
  have kB:K.In (hidT s₁.heap H):=fun b o e=>inB (KX b o e) (by
   cases q:H b with
   | none=>rfl
   | some u=>rw [(lone b u q).1] at e; cases e)
  have bB:∀ t ∈ ts,(hidT s₁.heap H).BuiltinsAt mg t:=fun t ht=>by
   obtain ⟨m,ob,b1,b2,b3,b4,b5,b6⟩:=bm
   refine ⟨m,ob,b1,b2,fun z=>?_,fun z=>?_,inB b3 (untracked b3 (fun i n z=>by rw [b6] at z; cases z) fun i z=>by rw [b6] at z; cases z),b4,b5,b6⟩
   ·obtain ⟨o,es,ep,e,d,_⟩:=gl
    rw [← z,b3] at e; cases e; rw [b6] at d; cases d
   ·have:=tabs t ht; rw [← z,b3] at this; cases this; cases b6
  have M:Mod K mg (hidT s₁.heap H):=⟨kB,nsB gl,⟨mb,nsB bl,bb⟩,let ⟨mc,h1,h2⟩:=lim; ⟨mc,nsB h1,h2⟩⟩
  have E:Env0 P w K mg (hidT s₁.heap H) callerA [] s₁ H:=⟨rfl,M,fun b o e=>ziu e,Nat.le_of_eq (zf7 _ _),trivial,(fun b hb=>by cases hb),hok,.of_eq gn⟩
  refine codeAny_mono ((F _ kB (nsB gl) bB).run callerA [] s₁ H ⟨[.ref a],[]⟩ [.ref a] [.ref a] _ _ hr E (bind s₁ (.ref a)) (.cons rfl .nil) (hsp H only seq)) fun r s' h=>?_
  cases r with
  | error e=>exact False.elim h
  | ok fl =>
   cases fl with
   | next=>exact False.elim h
   | brk=>exact False.elim h
   | cont=>exact False.elim h
   | ret u =>
    obtain ⟨v,H',os,bare,un,hok',r',q⟩:=h
    have q':v = .bl true:=q
    subst q'
    obtain rfl:u = Value.bool true:=r'
    refine ⟨rfl,zka fun b o e=>?_,os,bare⟩
    cases q:H b with
    | none=>exact .inl (un.keep b o e q (fun z=>by cases z) (fun z=>by cases z))
    | some u =>
     rcases only.all b u q with ⟨z,rfl⟩ | ⟨ob,xs,rfl⟩
     ·obtain ⟨more,h2⟩:=un.tbls b _ q
      have h3:s'.heap.get? b = some (PySem.W.tabObj (#[] ++ more)):=hok' b _ h2
      have h4:=tabs b z
      rw [e] at h4
      obtain ⟨c,hc⟩:=codes b z
      obtain ⟨oc,vs',_,_,_,_,_,_,_,g1,g2,g3,g4,_⟩:=PySem.W.codeHd_of_K KX hc
      exact .inr ⟨⟨c,oc,vs',g1,g2,g3,g4⟩,Option.some.inj h4,_,h3⟩
     ·have h2:=un.frzs b ob _ q
      obtain ⟨e1,_⟩:=hok b _ q
      obtain ⟨e2,_⟩:=hok' b _ h2
      rw [e] at e1
      cases e1
      exact .inl e2
 by_cases hk:K.lookup a = none
 ·have sa:z6w ts a (HO.frz { cls:=.type "list",data:=.seq vs.toArray } (.lst (ns.map V.int))) a = some (.frz { cls:=.type "list",data:=.seq vs.toArray } (.lst (ns.map V.int))):=by
   unfold z6w
   rw [if_neg ant,if_pos rfl]
  have cs:∀ b u,z6w ts a (HO.frz { cls:=.type "list",data:=.seq vs.toArray } (.lst (ns.map V.int))) b = some u → (b ∈ ts ∧ u = .tbl #[]) ∨ (b = a ∧ u = .frz { cls:=.type "list",data:=.seq vs.toArray } (.lst (ns.map V.int))):=fun b u e=>by
   unfold z6w at e
   split at e
   ·rename_i z; cases e; exact .inl ⟨z,rfl⟩
   ·split at e
    ·rename_i z; cases e; exact .inr ⟨z,rfl⟩
    ·cases e
  refine main (z6w ts a (HO.frz { cls:=.type "list",data:=.seq vs.toArray } (.lst (ns.map V.int)))) ⟨fun b u e=>?_,fun t ht=>if_pos ht⟩ (.inl (.inr ⟨_,sa⟩)) (fun b u e=>?_) fun b u e=>?_
  ·rcases cs b u e with z | ⟨_,z⟩
   ·exact .inl z
   ·exact .inr ⟨_,_,z⟩
  ·rcases cs b u e with ⟨z,rfl⟩ | ⟨rfl,rfl⟩
   ·exact tabs b z
   ·exact ⟨sc,by rw [List.length_map]; exact hl,vs,_,rv,sc⟩
  ·rcases cs b u e with ⟨z,_⟩ | ⟨rfl,_⟩
   ·exact ⟨notK b z,.inr z⟩
   ·exact ⟨hk,.inl rfl⟩
 ·cases hk':K.lookup a with
  | none=>exact absurd hk' hk
  | some o =>
   have e:=KX a o hk'
   rw [sc] at e
   cases e
   have cs:∀ b u,(fun b=>if b ∈ ts then some (HO.tbl #[]) else none:Hp) b = some u → b ∈ ts ∧ u = .tbl #[]:=fun b u e=>by
    dsimp only at e
    split at e
    ·rename_i z; cases e; exact ⟨z,rfl⟩
    ·cases e
   refine main _ ⟨fun b u e=>.inl (cs b u e),fun t ht=>if_pos ht⟩ (.inr ⟨_,vs.toArray,_,hk',rfl,rfl,rfl,by rw [List.size_toArray,lv]; exact hl,by simpa using rv⟩) (fun b u e=>?_) fun b u e=>?_
   ·obtain ⟨z,rfl⟩:=cs b u e
    exact tabs b z
   ·exact ⟨notK b (cs b u e).1,.inr (cs b u e).1⟩
end
end L2
end
section
namespace L2
open PySem PySem.Spec PyProof.Rows
def DefC (K:PySem.W.Frag) (mg:Str → Option Value) (x:Str) (st:Stmt) (ps:List Str) (c:Addr):Prop :=
 ∃ (f:Addr) (oc:Value) (od:Option Addr) (kV doc pm:Value) (an:Option Addr) (ct:Value) (osl:Array (Option Value)),K.lookup f = some ⟨oc,od,.func (PySem.W.fnOf x x (z2w st) (z1g st) (ze st) .none kV doc pm an (.ref c) ct),osl⟩ ∧
  PySem.W.codeIn K (.ref c) x = true ∧ PySem.W.keepIn K (.ref f) = true ∧ mg x = some (.ref f) ∧ Binds K (PySem.W.fnOf x x (z2w st) (z1g st) (ze st) .none kV doc pm an (.ref c) ct) ps []
theorem DefC.ok {P:Program} {w:World} {K:PySem.W.Frag} {mg:Str → Option Value} {base:Heap} {x:Str} {st:Stmt} {N ps:List Str} {k:Nat} {sp:Sp} {c:Addr} (D:DefC K mg x st ps c) (S:FnScope N ps (ze st)) (len:∀ vs H Q E,sp vs H Q E → vs.length = ps.length)
  (hbody:∀ (f:Addr) (A:Around) (outer:List Env) (s:Shared) (H:Hp) (vs:List V) (Q:VK) (E:XK),Room k (A.deeper (envOfC x (ze st) s.heap.objs.size f (.ref c))) → sp vs H Q E →
   ∃ t,PSs (cxOf CX0 P w K mg base N x (ze st) f (.ref c) A outer s H E).nox (z1g st) t ∧ t { nx:=fun _ H'=>Q .non H',rt:=Q } (start N vs) H):Has P w K mg base (k + 1) x ps sp:=by
 obtain ⟨f,oc,od,kV,doc,pm,an,ct,osl,lk,hcd,kp,hm,hb⟩:=D
 refine ⟨f,_,zbj lk hcd S len fun A outer s H vs Q E hr hsp=>?_,hm,kp,hb,oc,od,osl,lk⟩
 obtain ⟨t,h,q⟩:=hbody f A outer s H vs Q E hr hsp
 exact ⟨t,h.nox,q⟩
def z84 (vs:Array Value):Bool:=(match vs.getD 18 .none with | .str _ _=>true | _=>false) && (match vs.getD 7 .none with | .int _ _=>true | _=>false) &&
 (match vs.getD 9 .none with | .bool _=>true | _=>false) && (match vs.getD 10 .none with | .int _ _=>true | _=>false)
theorem zge {K:PySem.W.Frag} {c t:Addr} {od:Option Addr} {vs:Array Value} {sl:Array (Option Value)} (e:K.lookup c = some ⟨.type "code",od,.fields vs,sl⟩) (h:vs[11]? = some (.ref t)) (r:z84 vs = true) (n:(c != t) = true):PySem.W.codeHdIn K c t = true:=by
 unfold z84 at r
 simp only [Bool.and_eq_true] at r
 unfold PySem.W.codeHdIn
 simp only [e,h]
 simp only [beq_self_eq_true,Bool.true_and,Bool.and_eq_true]
 exact ⟨⟨⟨⟨r.1.1.1,r.1.1.2⟩,r.1.2⟩,r.2⟩,n⟩
theorem walk_ofT {l:PySem.W.OpenLaw} {n k:Nat} {q:Program} {loose:List Str} {XP:(Str → Option Value) → Heap → Prop} {YP:World → Heap → Prop} {d:DefRec} {K:Params → PySem.W.Frag} {ts:List Addr} {sp:List Addr → PySem.W.Frag → Sp} {x:Str}
  (hn:l.most = some n) (hn2:n ≤ sizeLine) (hdf:d.params.defaults = []) (hr:Room k callerA)
  (hY:∀ (w:World) (h:Heap),YP w h → (K w.params).In h ∧ ∀ t ∈ ts,h.get? t = some (PySem.W.tabObj #[]))
  (F:∀ (w:World) (mg:Str → Option Value) (fa:Addr) (h:Heap),(K w.params).In h → h.Ns mainGlobals mg → mg d.name = some (.ref fa) →
   (∀ t ∈ ts,(∃ c,PySem.W.codeHdIn (K w.params) c t = true) ∧ (K w.params).lookup t = none) ∧
   ∃ fd:FuncData,(∀ (s:Shared) (u:Value),BindsTo s fd ⟨[u],[]⟩ [(x,u)]) ∧
    ∀ base:Heap,(K w.params).In base → base.Ns mainGlobals mg → (∀ t ∈ ts,base.BuiltinsAt mg t) → FnOk l.prog w (K w.params) mg base CX0 k fa fd [x] (sp ts (K w.params)))
  (hsp:∀ (K:PySem.W.Frag) (H:Hp) (a:Addr) (ns:List Int),ns.length ≤ n → OnlyT ts H → SqL K H a (ns.map V.int) → sp ts K [.ref a] H (fun v _=>v = .bl true) fun _ _ _=>False) :
  PySem.W.WalkO q loose XP YP l.row.toRowW d [] (fun f vs=>PySem.call f vs):=by
 refine Att.attach_call hn hdf fun w s₀ s₁ mg mb fa o pm cd doc a vs ns G Y ho hd hcd hmg hobj hints hlen hg=>?_
 obtain ⟨KX,TX⟩:=hY w _ Y
 obtain ⟨ht,fd,hb,hF⟩:=F w mg fa _ KX G.T.g hmg
 exact lawT KX G.T.g G.T.b G.T.builtins G.T.nolimit hg hobj hints (Nat.le_trans hlen hn2) hr TX (fun t h=>(ht t h).1) (fun t h=>(ht t h).2) G.T.bmain hF hb fun H hO hS=>hsp (K w.params) H a ns hlen hO hS
end L2
end
section
namespace PySem
open PySem.W PySem.Spec PyProof.Rows
section
variable {prog:Program} {w:World} {A:Around} {E:Value → Shared → Prop} {s:Shared}
def z9x (s:Shared) (u1 u2 v:Value) (s':Shared):Prop:=∃ p h' tk,v = .ref p ∧ s' = { s with heap:=h',toks:=tk } ∧ (∀ b o,s.heap.get? b = some o → h'.get? b = some o) ∧ s.heap.get? p = none ∧ h'.get? p = some { cls:=.type "tuple",data:=.seq #[u1,u2] }
end
end PySem
end
section
namespace PySem
open PySem.W PySem.Spec PyProof.Rows
def z12 (a:Int) (b:Str) (c:Int) (d:Str):Bool:=decide (a < c) || (decide (a = c) && decide (b.cps.toList < d.cps.toList))
abbrev z8y (u v:Value):Obj:={ cls:=.type "tuple",data:=.seq #[u,v] }
section
variable {prog:Program} {w:World} {A:Around} {E:Value → Shared → Prop} {s:Shared}
theorem zau (a b c:Int) (x y z:Str) (h1:z12 b y a x = false) (h2:z12 c z b y = false):z12 c z a x = false:=by
 unfold z12 at *
 simp only [Bool.or_eq_false_iff,Bool.and_eq_false_iff,decide_eq_false_iff_not] at *
 obtain ⟨h1,h1'⟩:=h1
 obtain ⟨h2,h2'⟩:=h2
 refine ⟨by omega,?_⟩
 by_cases e:c = a
 ·right
  have e1:b = a:=by omega
  have e2:c = b:=by omega
  have k1:=h1'.resolve_left (fun n=>n e1)
  have k2:=h2'.resolve_left (fun n=>n e2)
  rw [List.not_lt] at *
  exact List.le_trans k1 k2
 ·exact .inl e
theorem zeq (a b:Int) (x y:Str) (h:z12 a x b y = true):z12 b y a x = false:=by
 unfold z12 at *
 simp only [Bool.or_eq_true,Bool.and_eq_true,decide_eq_true_eq,Bool.or_eq_false_iff,Bool.and_eq_false_iff,decide_eq_false_iff_not] at *
 rcases h with h | ⟨h,h'⟩
 ·exact ⟨by omega,.inl (by omega)⟩
 ·exact ⟨by omega,.inr (List.lt_asymm h')⟩
end
end PySem
end
section
namespace PySem
open PySem.W PySem.Spec PyProof.Rows PySem.Calls
open PySem.SeqAt
open PySem.AutoSeq1 (wpAny_loadPart')
open PySem.MeetsSeq PySem.MeetsSeq2 PySem.MeetsSeq3
theorem zb8 (l b:Addr) (a c:Int) (t u:Tok) (x y:Str) (t2 u2:Tok) :
  Meets (Builtin.«tuple.__lt__» ⟨[.ref l,.ref b],[]⟩)
   (fun _ R s=>s.heap.get? l = some (z8y (.int a t) (.str x t2)) ∧ s.heap.get? b = some (z8y (.int c u) (.str y u2)) ∧ R (.ok (.ret (.bool (z12 a x c y)))) s) :=
 .of_wp fun prog w A R s h=>by
  obtain ⟨hp,g,d,tk,os⟩:=s; obtain ⟨hl,hb,h⟩:=h
  have f2:=AutoSeq1.sub_tuple_tuple
  wp_walk using wpAny_loadPart' hl,wpAny_loadPart' hb,wpAny_forIn_list _ (fun rest b s'=>b.1 = none ∧ s' = ⟨hp,g,d,tk,os⟩ ∧ (rest = [(Value.int a t,Value.int c u),(Value.str x t2,Value.str y u2)] ∨ (a = c ∧ rest = [(Value.str x t2,Value.str y u2)]) ∨ (a = c ∧ x = y ∧ rest = []))) _
  case turn =>
   rintro ⟨p,q⟩ rest b s' ⟨hb',rfl,hz⟩
   rcases hz with hz | ⟨e1,hz⟩ | ⟨e1,e2,hz⟩
   ·injection hz with h1 h2
    injection h1 with h1 h3
    subst h1 h3 h2
    refine wpAny_bind (SeqAt.EqAt.int_int a t c u prog w _ _ ?_)
    by_cases e:a = c
    ·subst e
     rw [beq_self_eq_true]
     wp_walk
     exact ⟨rfl,rfl,.inr (.inl ⟨rfl,rfl⟩)⟩
    ·rw [beq_false_of_ne e]
     have hri:∀ (E:Value → Shared → Prop) (Q:Value → Shared → Prop),Q (.bool (decide (a < c))) ⟨hp,g,d,tk,os⟩ → wpAny (model prog w) A.in1 (richCompare .Lt (.int a t) (.int c u)) Q E ⟨hp,g,d,tk,os⟩:=fun E Q h=>(PyProof.Rows.lt_int h:wpAny (model prog w) A.in1 (compareOp .Lt (.int a t) (.int c u)) Q E ⟨hp,g,d,tk,os⟩)
     wp_walk using hri
     refine ⟨_,rfl,?_⟩
     have ev:z12 a x c y = decide (a < c):=by unfold z12; simp [e]
     rw [ev] at h
     simpa using h
   ·injection hz with h1 h2
    injection h1 with h1 h3
    subst h1 h3 h2
    refine wpAny_bind (SeqAt.EqAt.str_str x t2 y u2 prog w _ _ ?_)
    by_cases e:x = y
    ·subst e
     rw [beq_self_eq_true]
     wp_walk
     exact ⟨rfl,rfl,.inr (.inr ⟨e1,rfl,rfl⟩)⟩
    ·rw [beq_false_of_ne e]
     have hri:∀ (E:Value → Shared → Prop) (Q:Value → Shared → Prop),Q (.bool (decide (x.cps.toList < y.cps.toList))) ⟨hp,g,d,tk,os⟩ → wpAny (model prog w) A.in1 (richCompare .Lt (.str x t2) (.str y u2)) Q E ⟨hp,g,d,tk,os⟩:=fun E Q h=>(lt_str h:wpAny (model prog w) A.in1 (compareOp .Lt (.str x t2) (.str y u2)) Q E ⟨hp,g,d,tk,os⟩)
     wp_walk using hri
     refine ⟨_,rfl,?_⟩
     have ev:z12 a x c y = decide (x.cps.toList < y.cps.toList):=by unfold z12; simp [e1]
     rw [ev] at h
     simpa using h
   ·cases hz
  case fin =>
   rintro ⟨b1,b2⟩ s' ⟨hb',rfl,hz⟩
   simp only at hb'
   subst hb'
   rcases hz with hz | ⟨e1,hz⟩ | ⟨e1,e2,hz⟩
   ·cases hz
   ·cases hz
   ·have ev:z12 a x c y = false:=by
     unfold z12
     subst e1 e2
     have:¬ (x.cps.toList < x.cps.toList):=List.lt_irrefl _
     simp [this]
    rw [ev] at h
    wp_walk
    exact ⟨_,rfl,by simpa [Builtin.Tuple.tupleCompareSizes] using h⟩
  case h=>exact ⟨rfl,rfl,.inl rfl⟩
section
variable {prog:Program} {w:World} {A:Around} {E:Value → Shared → Prop} {s:Shared}
theorem zjc {l b:Addr} {a c:Int} {t u:Tok} {x y:Str} {t2 u2:Tok} {Q:Value → Shared → Prop} (hl:s.heap.get? l = some (z8y (.int a t) (.str x t2))) (hb:s.heap.get? b = some (z8y (.int c u) (.str y u2))) (hu:A.units < cLine)
  (h:Q (.bool (z12 a x c y)) s):wpAny (model prog w) A (richCompare .Lt (.ref l) (.ref b)) Q E s :=
 richCompare_meets_room (op:=.Lt) ⟨_,hl,rfl⟩ ⟨_,hb,rfl⟩ PySem.F.slot_tuple_lt PySem.F.entry_tuple_lt (PySem.F.args_tuple_lt_2 _ _) (zb8 l b a c t u x y t2 u2)
  ⟨hl,hb,show Value.bool (z12 a x c y) ≠ Value.notImplemented ∧ Q (.bool (z12 a x c y)) s from ⟨(fun x=>nomatch x),h⟩⟩ hu
end
def Olds (h h':Heap):Prop:=∀ b o,h.get? b = some o → h'.get? b = some o
theorem Olds.trans {h h1 h2:Heap} (a:Olds h h1) (b:Olds h1 h2):Olds h h2:=fun c o e=>b c o (a c o e)
theorem Olds.push (h:Heap) (o:Obj):Olds h (h.push o):=fun _ _ e=>Heap.get?_push_of_some _ e
theorem Olds.but {h0 h h':Heap} {a:Addr} (x:Olds h0 h) (n:h0.get? a = none) (k:∀ b o,b ≠ a → h.get? b = some o → h'.get? b = some o):Olds h0 h':=fun b o e=>k b o (fun z=>by rw [z,n] at e; cases e) (x b o e)
theorem zhy (a v d:Value):argsOk "min" ⟨[a],[(Str.ofString "key",v),(Str.ofString "default",d)]⟩:=by unfold argsOk; kernel_rfl
section
variable {prog:Program} {w:World} {A:Around} {E:Value → Shared → Prop} {s:Shared} {l q:Addr} {vs:List Value} {d:Value} {kf:Nat → Int} {sf:Nat → Str}
def Best (kf:Nat → Int) (sf:Nat → Str) (i n:Nat):Prop:=∀ j,j < n → z12 (kf j) (sf j) (kf i) (sf i) = false
theorem Best.keep {i n:Nat} (b:Best kf sf i n) (h:z12 (kf n) (sf n) (kf i) (sf i) = false):Best kf sf i (n + 1):=fun j hj=>by
 by_cases e:j = n
 ·rw [e]; exact h
 ·exact b j (by omega)
theorem Best.take {i n:Nat} (b:Best kf sf i n) (h:z12 (kf n) (sf n) (kf i) (sf i) = true):Best kf sf n (n + 1):=fun j hj=>by
 by_cases e:j = n
 ·rw [e]
  unfold z12
  have:¬ ((sf n).cps.toList < (sf n).cps.toList):=List.lt_irrefl _
  simp [this]
 ·exact zau _ _ _ _ _ _ (zeq _ _ _ _ h) (b j (by omega))
theorem zkb {R:Result → Shared → Prop} {I S:Addr} {h0:Heap} (hh:A.handled = none) (hu:A.in1.units < cLine) (hl:h0.IsList l vs.toArray) (nI:h0.get? I = none) (nS:h0.get? S = none) (SI:S ≠ I)
  (turn:∀ (i:Nat) (v:Value),vs[i]? = some v → ∀ (h:Heap) (tk:Nat),Olds h0 h → wpAny (model prog w) A.in1 (call (.ref q) [v]) (fun k s'=>∃ t t2,z9x { s with heap:=h,toks:=tk } (.int (kf i) t) (.str (sf i) t2) k s') (fun _ _=>False) { s with heap:=h,toks:=tk })
  (hR:∀ i v h' tk',vs[i]? = some v → Best kf sf i vs.length → Olds h0 h' → R (.ok (.ret v)) { s with heap:=h',toks:=tk' }) :
  ∀ (r j i:Nat) (h:Heap) (tk:Nat) (vb:Value) (p:Addr) (t t2:Tok) (c:Nat),vs.length - (j + 1) = r → j + 1 ≤ vs.length → Olds h0 h → h.get? S = some (seqObj "list" #[vb,.ref p] c) → h.get? p = some (z8y (.int (kf i) t) (.str (sf i) t2)) → p ≠ S → p ≠ I →
   h.IsListIter I l (j + 1) → vs[i]? = some vb → Best kf sf i (j + 1) → codeAny (model prog w) A (.builtin "min.loop" ⟨[.ref I,.ref q,.ref S],[(Str.ofString "default",d)]⟩) R { s with heap:=h,toks:=tk }:=by
 have hname:(toString "min" ++ toString ".loop" : String) = "min.loop" := by decide
 obtain ⟨ol,hol,_⟩:=id hl
 have hlI:l ≠ I:=fun z=>by rw [z,nI] at hol; cases hol
 have lists:∀ {h:Heap},Olds h0 h → h.IsList l vs.toArray:=fun k=>by
  obtain ⟨o,e,x⟩:=hl
  exact ⟨o,k _ _ e,x⟩
 have W:=Walks.list (prog:=prog) (w:=w) (A:=A.in1) hh I l hlI vs.toArray
 have hsz:vs.toArray.size = vs.length:=List.size_toArray ..
 intro r
 induction r with
 | zero =>
  intro j i h tk vb p t t2 c hr hj K gS gp pS pI hit hvb best
  have hin:j + 1 = vs.length:=by omega
  refine codeAny_builtin PySem.F.entry_min_loop (by
   rw [Around.under_plainId PySem.F.plain_min_loop _]
   show wpAny _ A.in1 (seqItems? (.ref S) >>= fun _=>_) _ _ _
   refine wpAny_bind (wpAny_seqItems gS rfl ?_)
   show wpAny _ A.in1 (tryCatch (pyNext (.ref I)) _ >>= fun _=>_) _ _ _
   refine wpAny_bind (wpAny_tryCatch (W.done _ _ _ ⟨by rw [hsz,← hin]; exact hit,lists K⟩ fun h' tk' hk'=>?_))
   have K1:Olds h0 h':=K.but nI fun b o nb e=>hk' b o (by simpa using nb) e
   have gS':=hk' S _ (by simpa using SI) gS
   have sb:=Heap.SameBut.update h' S (Obj.mapSeq fun _=>(#[]:Array Value))
   show wpAny _ A.in1 (updateSeq S (fun _=>#[]) >>= fun _=>_) _ _ _
   refine wpAny_bind (wpAny_updateSeq gS' rfl (wpAny_bind (wpAny_letGo (wpAny_pure ?_))))
   exact hR i vb _ _ hvb (by rw [← hin]; exact best) (K1.but nS fun b o nb e=>(sb.2 b nb).trans e))
 | succ r ih =>
  intro j i h tk vb p t t2 c hr hj K gS gp pS pI hit hvb best
  have hlt:j + 1 < vs.length:=by omega
  refine codeAny_builtin PySem.F.entry_min_loop (by
   rw [Around.under_plainId PySem.F.plain_min_loop _]
   show wpAny _ A.in1 (seqItems? (.ref S) >>= fun _=>_) _ _ _
   refine wpAny_bind (wpAny_seqItems gS rfl ?_)
   show wpAny _ A.in1 (tryCatch (pyNext (.ref I)) _ >>= fun _=>_) _ _ _
   refine wpAny_bind (wpAny_tryCatch (W.item (j + 1) _ _ _ (by rw [hsz]; exact hlt) ⟨hit,lists K⟩ fun v h' tk' hP hst' hk'=>?_))
   have hv:vs[j + 1]? = some v:=by simpa using hP
   have kI:∀ b o,b ≠ I → h.get? b = some o → h'.get? b = some o:=fun b o nb e=>hk' b o (by simpa using nb) e
   have K1:Olds h0 h':=K.but nI kI
   show wpAny _ A.in1 (tryCatch (holding [v] (call (.ref q) [v])) _ >>= fun _=>_) _ _ _
   refine wpAny_bind (wpAny_tryCatch (wpAny_holding (wpAny_mono (turn (j + 1) v hv h' tk' K1) (fun x s'' he=>?_) fun _ _ hF=>hF.elim)))
   obtain ⟨tn,tn2,p2,h2,tk2,rfl,rfl,keep,hp2,ho2⟩:=he
   have keep:Olds h' h2:=keep
   have hp2:h'.get? p2 = none:=hp2
   have gS2:=keep _ _ (kI S _ SI gS)
   have gp2:=keep _ _ (kI p _ pI gp)
   obtain ⟨oI,hoI,hoc,hod⟩:=id hst'.1
   have gI2:=keep _ _ hoI
   have n2S:p2 ≠ S:=fun z=>by rw [z,kI S _ SI gS] at hp2; cases hp2
   have n2I:p2 ≠ I:=fun z=>by rw [z,hoI] at hp2; cases hp2
   have K2:Olds h0 h2:=K1.trans keep
   show wpAny _ A.in1 (tryCatch (holding [v,.ref p2] (richCompare .Lt (.ref p2) (.ref p) >>= fun _=>_)) _ >>= fun _=>_) _ _ _
   refine wpAny_bind (wpAny_tryCatch (wpAny_holding (wpAny_bind (zjc (s:={ s with heap:=h2,toks:=tk2 }) ho2 gp2 hu ?_))))
   refine wpAny_bind (wpAny_holding (wpAny_truthy_bool ?_))
   refine wpAny_bind (wpAny_letGo (wpAny_pure ?_))
   cases hb:z12 (kf (j + 1)) (sf (j + 1)) (kf i) (sf i) with
   | true =>
    have sb:=Heap.SameBut.update h2 S (Obj.mapSeq fun _=>#[v,.ref p2])
    obtain ⟨c2,hc2⟩:∃ c2,(h2.update S (Obj.mapSeq fun _=>#[v,.ref p2])).get? S = some (seqObj "list" #[v,.ref p2] c2):=⟨_,get?_update_seq gS2 fun _=>#[v,.ref p2]⟩
    simp only [if_true]
    refine wpAny_bind (wpAny_updateSeq gS2 rfl (wpAny_bind (wpAny_letGo ?_)))
    rw [hname]
    exact wpAny_pure ⟨plainId_quiet PySem.F.plain_min_loop _,ih (j + 1) (j + 1) _ _ v p2 tn tn2 c2 (by omega) hlt (K2.but nS fun b o nb e=>(sb.2 b nb).trans e) hc2 ((sb.2 p2 n2S).trans ho2) n2S n2I ⟨oI,(sb.2 I SI.symm).trans gI2,hoc,hod⟩ hv (best.take hb)⟩
   | false =>
    simp only [Bool.false_eq_true,if_false]
    refine wpAny_bind (wpAny_letGo ?_)
    rw [hname]
    exact wpAny_pure ⟨plainId_quiet PySem.F.plain_min_loop _,ih (j + 1) i _ _ vb p t t2 c (by omega) hlt K2 gS2 gp2 pS pI ⟨oI,gI2,hoc,hod⟩ hvb (best.keep hb)⟩)
theorem min_pair {Q:Value → Shared → Prop} (hh:A.handled = none) (hu:A.in1.units < cLine) (hl:s.heap.IsList l vs.toArray)
  (turn:∀ (i:Nat) (v:Value),vs[i]? = some v → ∀ (h:Heap) (tk:Nat),Olds s.heap h → wpAny (model prog w) A.in1 (call (.ref q) [v]) (fun k s'=>∃ t t2,z9x { s with heap:=h,toks:=tk } (.int (kf i) t) (.str (sf i) t2) k s') (fun _ _=>False) { s with heap:=h,toks:=tk })
  (hQ:∀ i v h' tk',vs[i]? = some v → Best kf sf i vs.length → Olds s.heap h' → Q v { s with heap:=h',toks:=tk' }) (hD:vs = [] → ∀ h' tk',Olds s.heap h' → Q d { s with heap:=h',toks:=tk' }) :
  wpAny (model prog w) A (call (.builtin "min") [.ref l] [(Str.ofString "key",.ref q),(Str.ofString "default",d)]) Q E s:=by
 have hname:(toString "min" ++ toString ".loop" : String) = "min.loop" := by decide
 obtain ⟨ol,hol,_⟩:=id hl
 refine kmk_tree PySem.F.kind_min PySem.F.plain_min PySem.F.entry_min (zhy _ _ _) ?_
 show wpAny _ A.in1 (Builtin.Builtins.bindParams "min" ["key","default"] 0 ⟨[],[(Str.ofString "key",.ref q),(Str.ofString "default",d)]⟩ >>= _) _ _ s
 refine wpAny_bind (wpAny_of_eq (show Builtin.Builtins.bindParams "min" ["key","default"] 0 ⟨[],[(Str.ofString "key",.ref q),(Str.ofString "default",d)]⟩ = pure [some (.ref q),some d] from rfl) ?_)
 refine wpAny_bind (wpAny_pure (wpAny_bind (wpAny_pyIter_list hl (wpAny_bind (wpAny_newList ?_ (Nat.zero_le _))))))
 rw [hname]
 generalize hH1:s.heap.push { cls:=.type "list_iterator",data:=.fields #[.ref l,.int 0 0] } = H1
 have zS:H1.objs.size = s.heap.objs.size + 1:=by rw [← hH1]; exact size_push' ..
 have gI1:H1.get? s.heap.objs.size = some { cls:=.type "list_iterator",data:=.fields #[.ref l,.int 0 0] }:=by rw [← hH1]; exact Heap.get?_push_size _ rfl
 have k1:Olds s.heap H1:=by rw [← hH1]; exact Olds.push _ _
 have gS:(H1.push (seqObj "list" #[] 0)).get? H1.objs.size = some (seqObj "list" #[] 0):=Heap.get?_push_size _ rfl
 have gI:(H1.push (seqObj "list" #[] 0)).get? s.heap.objs.size = some { cls:=.type "list_iterator",data:=.fields #[.ref l,.int 0 0] }:=Heap.get?_push_of_some _ gI1
 have K0:Olds s.heap (H1.push (seqObj "list" #[] 0)):=k1.trans (Olds.push _ _)
 have nI:s.heap.get? s.heap.objs.size = none:=Heap.get?_none_of_le (Nat.le_refl _)
 have nS:s.heap.get? H1.objs.size = none:=Heap.get?_none_of_le (by rw [zS]; exact Nat.le_succ _)
 have SI:H1.objs.size ≠ s.heap.objs.size:=by rw [zS]; exact Nat.ne_of_gt (Nat.lt_succ_self _)
 have hlI:l ≠ s.heap.objs.size:=Nat.ne_of_lt (Heap.lt_size hol)
 have lists:∀ {h:Heap},Olds s.heap h → h.IsList l vs.toArray:=fun k=>by
  obtain ⟨o,e,x⟩:=hl
  exact ⟨o,k _ _ e,x⟩
 have W:=Walks.list (prog:=prog) (w:=w) (A:=A.in1) hh s.heap.objs.size l hlI vs.toArray
 have hsz:vs.toArray.size = vs.length:=List.size_toArray ..
 refine wpAny_pure ⟨plainId_quiet PySem.F.plain_min_loop _,codeAny_builtin PySem.F.entry_min_loop ?_⟩
 rw [Around.under_plainId PySem.F.plain_min_loop _]
 generalize hHS:H1.push (seqObj "list" #[] 0) = HS at gS gI K0 ⊢
 show wpAny _ A.in1 (seqItems? (.ref H1.objs.size) >>= fun _=>_) _ _ _
 refine wpAny_bind (wpAny_seqItems gS rfl ?_)
 show wpAny _ A.in1 (tryCatch (pyNext (.ref s.heap.objs.size)) _ >>= fun _=>_) _ _ _
 cases evs:vs with
 | nil =>
  refine wpAny_bind (wpAny_tryCatch (W.done _ _ _ ⟨by rw [hsz,evs]; exact ⟨_,gI,rfl,rfl⟩,lists K0⟩ fun h' tk' hk'=>?_))
  exact wpAny_bind (wpAny_rule (wpAny_pure (hD evs _ _ (K0.but nI fun b o nb e=>hk' b o (by simpa using nb) e))))
 | cons v0 vr =>
  refine wpAny_bind (wpAny_tryCatch (W.item 0 _ _ _ (by rw [hsz,evs]; exact Nat.succ_pos _) ⟨⟨_,gI,rfl,rfl⟩,lists K0⟩ fun v h' tk' hP hst' hk'=>?_))
  have hv:vs[0]? = some v:=by simpa using hP
  have kI:∀ b o,b ≠ s.heap.objs.size → HS.get? b = some o → h'.get? b = some o:=fun b o nb e=>hk' b o (by simpa using nb) e
  have K1:Olds s.heap h':=K0.but nI kI
  show wpAny _ A.in1 (tryCatch (holding [v] (call (.ref q) [v])) _ >>= fun _=>_) _ _ _
  refine wpAny_bind (wpAny_tryCatch (wpAny_holding (wpAny_mono (turn 0 v hv h' tk' K1) (fun x s'' he=>?_) fun _ _ hF=>hF.elim)))
  obtain ⟨tn,tn2,p2,h2,tk2,rfl,rfl,keep,hp2,ho2⟩:=he
  have keep:Olds h' h2:=keep
  have hp2:h'.get? p2 = none:=hp2
  have gS2:=keep _ _ (kI _ _ SI gS)
  obtain ⟨oI,hoI,hoc,hod⟩:=id hst'.1
  have gI2:=keep _ _ hoI
  have n2S:p2 ≠ H1.objs.size:=fun z=>by rw [z,kI _ _ SI gS] at hp2; cases hp2
  have n2I:p2 ≠ s.heap.objs.size:=fun z=>by rw [z,hoI] at hp2; cases hp2
  have K2:Olds s.heap h2:=K1.trans keep
  have sb:=Heap.SameBut.update h2 H1.objs.size (Obj.mapSeq fun _=>#[v,.ref p2])
  obtain ⟨c2,hc2⟩:∃ c2,(h2.update H1.objs.size (Obj.mapSeq fun _=>#[v,.ref p2])).get? H1.objs.size = some (seqObj "list" #[v,.ref p2] c2):=⟨_,get?_update_seq gS2 fun _=>#[v,.ref p2]⟩
  show wpAny _ A.in1 (updateSeq H1.objs.size (fun _=>#[v,.ref p2]) >>= fun _=>_) _ _ _
  refine wpAny_bind (wpAny_updateSeq gS2 rfl ?_)
  rw [hname]
  refine wpAny_pure ⟨plainId_quiet PySem.F.plain_min_loop _,zkb hh hu hl nI nS SI turn hQ _ 0 0 _ _ v p2 tn tn2 c2 rfl (by rw [evs]; exact Nat.succ_pos _) (K2.but nS fun b o nb e=>(sb.2 b nb).trans e) hc2 ((sb.2 p2 n2S).trans ho2) n2S n2I ⟨oI,(sb.2 _ SI.symm).trans gI2,hoc,hod⟩ hv fun j hj=>?_⟩
  have e:j = 0:=by omega
  subst e
  unfold z12
  have:¬ ((sf 0).cps.toList < (sf 0).cps.toList):=List.lt_irrefl _
  simp [this]
end
end PySem
end
section
namespace PySem
open PySem.W PySem.Spec PyProof.Rows
structure LamC (x y:Str) (params:Arguments) (scope:Scope):Prop extends LamX x params scope where
 free:scope.names.lookup y = some .free
 db2:(y == ("__debug__" : Str)) = false
 cd:(y == ("__classdict__" : Str)) = false
section
variable {prog:Program} {w:World} {A:Around} {E:Value → Shared → Prop} {s:Shared}
theorem lam_neg {qual x y:Str} {params:Arguments} {scope:Scope} {cl:List (Str × Addr)} {pm ctv:Value} {c' f c d:Addr} {z:Str} {tz:Tok} {n:Int} {tn:Tok} {x1:Nat} {p1 p2 p3 p4 p5 p6:Pos} {vs:List (L2.Key × Value)} (L:LamC x y params scope) (hroom:A.depth < recursionLimit)
  (ho:s.heap.get? f = some (kla_obj "<lambda>" qual params (.Tuple [.UnaryOp .USub (.Subscript (.Name y p1) (.Name x p2) p3) p4,.Name x p5] x1 p6) scope cl pm c' ctv)) (hcd:s.heap.CodeRec (.ref c') qual) (hlim:s.heap.NoLimit)
  (hc:cl.lookup y = some c) (hv:s.heap.IsCell c (some (.ref d))) (dd:s.heap.DictOf (L2.mixKind prog w) d vs) (hn:valueAt vs (Sum.inr z) = some (.int n tn)) :
  wpAny (model prog w) A (call (.ref f) [.str z tz]) (fun k s'=>∃ t t2,z9x s (.int (-n) t) (.str z t2) k s') E s:=by
 refine zhu hroom ho hcd hlim (L.bind qual (.Name y p1) pm (.ref c') ctv _) L.co L.gen L.kind L.cell L.loc fun h₁ hns hk=>?_
 have hm:(fun y=>[(x,(Value.str z tz))].reverse.lookup y) x = some (.str z tz):=by simp
 have hv1:h₁.IsCell c (some (.ref d)):=by
  obtain ⟨o,e,r⟩:=hv
  exact ⟨o,hk _ _ e,r⟩
 have dd1:h₁.DictOf (L2.mixKind prog w) d vs:=by
  obtain ⟨o,es,ep,e,r⟩:=dd
  exact ⟨o,es,ep,hk _ _ e,r⟩
 refine wpAny_Tuple_spliced (Calls.spliced_cons (UnaryOp_ (L2.subD_of PySem.F.slot_dict_getitem.lookup (fun _ _=>rfl)
  (wpAny_Name (wpAny_loadName_free L.kind L.free hc hv1 (wpAny_Name (wpAny_loadName_local L.kind L.loc hns hm ⟨dd1.typeIs,?_⟩) L.db) L.cd) L.db2))))
 refine wpAny_getItem_of (knd:=L2.mixKind prog w) (k:=Sum.inr z) (L2.kV_is ⟨tz,rfl⟩) dd1.mapOf hn ?_
 refine neg_int ?_
 refine Calls.spliced_cons (wpAny_Name (wpAny_loadName_local L.kind L.loc hns hm (Calls.spliced_nil ⟨?_,?_⟩)) L.db)
 ·show 2 ≤ sizeLine
  decide
 ·refine ⟨_,_,h₁.objs.size,_,_,rfl,rfl,fun b o e=>Heap.get?_push_of_some _ (hk b o e),?_,Heap.get?_push_size _ rfl⟩
  cases e:s.heap.get? h₁.objs.size with
  | none=>rfl
  | some o=>exact absurd (Heap.lt_size (hk _ _ e)) (Nat.lt_irrefl _)
end
end PySem
namespace L2
open PySem PySem.W PySem.Spec PyProof.Rows
def zdp (K:PySem.W.Frag) (Pt:Addr) (pos:Pos) (qual:Str) (j:Nat) (te:TA):TE:=fun σ H Q=>te σ H fun xs H1=>∃ (l d:Addr) (zs:List Str) (kvs:List (Key × V)) (n:Str → Int),xs = [.ref l] ∧ SqL K H1 l (zs.map V.str) ∧ σ[j]? = some (some (V.ref d)) ∧ H1 d = some (.dK kvs) ∧
 (∀ z ∈ zs,valV kvs (Sum.inr z) = some (V.int (n z))) ∧ TbOk H1 Pt pos qual ∧ ∀ H2,But1 Pt H1 H2 → TbOk H2 Pt pos qual → (zs = [] → Q (.str "") H2) ∧ ∀ z ∈ zs,(∀ z' ∈ zs,z12 (-(n z')) z' (-(n z)) z = false) → Q (.str z) H2
section
variable {X:Cx}
theorem zgf {e:Expr} {ta:TA} {c Pt:Addr} {x y:Str} {j:Nat} {params:Arguments} {scope:Scope} {x1 kc:Nat} {p pos kp lp kp2 pc p1 p2 p3 p4 p5 p6:Pos} (hr:Room 1 X.A) (hc:X.calm = true) (hg:Gl X "min") (hm:X.mg "min" = none) (ha:PA X [e] ta)
  (hcode:X.env.code = .ref c) (hC:codeHdIn X.K c Pt = true) (BA:X.base.BuiltinsAt X.mg Pt) (hdef:defaultsOf params X.env = ([],[])) (LX:LamC x y params scope) (hN:X.N[j]? = some y) (hky:X.env.kindOf y = some .cell) (hvis:Vis X.env.scope y)
  (hfree:∀ q ∈ scope.names,q.2 = .free → X.env.kindOf q.1 = some .cell ∨ X.env.kindOf q.1 = some .free)
  (he:backTo pos (starEach [e] X.env) = (false,eval e X.env) :: backTo pos (starEach [] X.env):=by rfl) (hpl:(backTo pos (starEach [e] X.env)).any (·.1) = false:=by rfl) :
  PE X (.Call (.Name "min" p) [e] [⟨some (Str.ofString "key"),.Lambda params (.Tuple [.UnaryOp .USub (.Subscript (.Name y p1) (.Name x p2) p3) p4,.Name x p5] x1 p6) scope lp,kp⟩,⟨some (Str.ofString "default"),.Constant (.str (Str.ofString "")) kc pc,kp2⟩] pos) (zdp X.K Pt lp (X.env.qual ++ "<lambda>") j ta):=by
 intro pins s σ H Q I h
 refine wpAny_Call_Name_kw (z46 I hg hm boot_min ?_)
 refine callWith_kw (thn (ha pos pins s σ H _ I h) fun us s1 ⟨vs,H1,I1,r1,q1⟩=>?_) he hpl (by rfl) (by rfl)
 obtain ⟨l,d,zs,kvs,n,e1,hl,hj,hd,hz,hT,q⟩:=q1
 subst e1
 obtain ⟨u,rfl,ru⟩:=z3k r1
 cases ru
 have has:∀ q ∈ scope.names,q.2 = .free → ∃ c,X.env.cells.lookup q.1 = some c:=fun q hq hf=>I1.ok.has q.1 (hfree q hq hf)
 have hcl:closureFor scope X.env = pure (z1p X.env scope.names []):=z4j has
 obtain ⟨cc,hcc⟩:=z34 (env:=X.env) (cs:=[]) (PySem.mem_of_lookup LX.free)
 have hcc2:X.env.cells.lookup y = some cc:=z4k has (fun _ _ e=>by simp at e) hcc
 refine kws_cons (zhx I1 hcode hC BA hT hdef hcl fun f c' ctv pm H2 s2 I2 hf hcd hT2 hB hf0=>kws_cons (wpAny_Constant_str (kws_nil ?_)))
 show wpAny _ _ (call (.builtin "min") [.ref l] [(Str.ofString "key",.ref f),(Str.ofString "default",.str (Str.ofString "") s2.toks)]) _ _ _
 have hP0:∃ ps,H1 Pt = some (.tbl ps):=hT.some
 have kB:∀ {b:Addr} {o:HO},H1 b = some o → (∀ ps,o ≠ .tbl ps) → H2 b = some o:=fun {b o} z k=>hB _ _ z fun y=>by
  obtain ⟨ps,hp⟩:=hP0
  rw [y,hp] at z
  cases z
  exact k _ rfl
 have hl2:SqL X.K H2 l (zs.map V.str):=by
  rcases hl with (z | ⟨o,z⟩) | z
  ·exact .inl (.inl (kB z (by intros; nofun)))
  ·exact .inl (.inr ⟨o,kB z (by intros; nofun)⟩)
  ·exact .inr z
 obtain ⟨its,rv,pl,hzs⟩:=I2.list hl2
 have hd2:=kB hd (by intros; nofun)
 obtain ⟨zk,hsm,vs,rel,dd⟩:=zbk I2.hok hd2
 obtain ⟨m,hn,hloc⟩:=id I2.loc
 obtain ⟨u,ru,lk⟩:=hloc j y (.ref d) hN hj hvis
 obtain rfl:u = Value.ref d:=ru
 have cell:s2.heap.IsCell cc (some (.ref d)):=by
  rcases lk with ⟨hk,_⟩ | ⟨_,c2,hc2,z⟩
  ·rw [hky] at hk; cases hk
  ·rw [hcc2] at hc2; cases hc2; exact z
 have textAt:∀ (i:Nat) (v:Value),its[i]? = some v → ∃ z t,zs[i]? = some z ∧ v = .str z t:=fun i v hv=>by
  have hlen:its.length = zs.length:=by have:=rv.length; rw [List.length_map] at this; exact this.symm
  have hi:i < zs.length:=by rw [← hlen]; exact (List.getElem?_eq_some_iff.mp hv).1
  obtain ⟨w',q1,t,q2⟩:=rv.get (show (zs.map V.str)[i]? = some (V.str zs[i]) by rw [List.getElem?_map,List.getElem?_eq_getElem hi]; rfl)
  rw [hv] at q1; cases q1
  exact ⟨zs[i],t,List.getElem?_eq_getElem hi,q2⟩
 have sfz:∀ i z,zs[i]? = some z → zs.getD i "" = z:=fun i z e=>by rw [List.getD_eq_getElem?_getD,e]; rfl
 refine PySem.min_pair (s:={ s2 with toks:=s2.toks + 1 }) (vs:=its) (kf:=fun i=>-(n (zs.getD i ""))) (sf:=fun i=>zs.getD i "") (I2.ok.hd hc) hr.in1.units0 pl.isList (fun i v hv h tk K=>?_) (fun i v h' tk' hv best K=>?_) fun en h' tk' K=>?_
 ·obtain ⟨z,t,ez,rfl⟩:=textAt i v hv
  have e2:=sfz i z ez
  have mz:=List.mem_of_getElem? ez
  obtain ⟨w',hw,rw'⟩:=RelO.some_of (v:=V.int (n z)) (o:=valueAt vs (Sum.inr z)) (by rw [← hz z mz]; exact rel.val (Sum.inr z))
  obtain ⟨tn,rfl⟩:=rw'
  have dd':h.DictOf (mixKind X.prog X.w) d vs:=by
   obtain ⟨o,es,ep,e,r⟩:=dd
   exact ⟨o,es,ep,K _ _ e,r⟩
  have cell':h.IsCell cc (some (.ref d)):=by
   obtain ⟨o,e,r⟩:=cell
   exact ⟨o,K _ _ e,r⟩
  have cd':h.CodeRec (.ref c') (X.env.qual ++ "<lambda>"):=hcd.keeps K
  refine wpAny_mono (PySem.lam_neg (A:=X.A.in1) (s:={ s2 with heap:=h,toks:=tk }) LX hr.in1.depth (K _ _ hf) cd' (I2.nolimit.keeps K) hcc cell' dd' hw) (fun k s' hk=>?_) fun _ _ z=>z
  dsimp only
  rw [e2]
  exact hk
 ·obtain ⟨z,t,ez,rfl⟩:=textAt i v hv
  have e2:=sfz i z ez
  refine ⟨.str z,H2,I2.kept (t':=tk') K,⟨t,rfl⟩,(q H2 hB hT2).2 z (List.mem_of_getElem? ez) fun z' mz'=>?_⟩
  obtain ⟨i',hi'⟩:=List.getElem?_of_mem mz'
  have hlen:its.length = zs.length:=by have:=rv.length; rw [List.length_map] at this; exact this.symm
  have b:=best i' (by rw [hlen]; exact (List.getElem?_eq_some_iff.mp hi').1)
  dsimp only at b
  rw [sfz i' z' hi',e2] at b
  exact b
 ·have ez:zs = []:=by
   have hlen:its.length = zs.length:=by have:=rv.length; rw [List.length_map] at this; exact this.symm
   rw [en] at hlen
   exact List.length_eq_zero_iff.mp hlen.symm
  exact ⟨.str "",H2,I2.kept (t':=tk') K,⟨_,rfl⟩,(q H2 hB hT2).1 ez⟩
end
end L2
end
section
namespace PySem
open PyProof.Rows
section
variable {prog:Program} {w:World} {A:Around} {E:Value → Shared → Prop} {s:Shared}
theorem zgg {a:Addr} {vs:List Value} {ss:List Str} {n:Nat} {P:Fin → Shared → Prop} (ho:s.heap.get? a = some (seqObj "list" vs.toArray n)) (hS:StrsAre vs ss) (h64:vs.length < 64)
  (h:∀ (out:Array Value) (ks:List Str),StrsAre out.toList.reverse ks → ks.Perm ss → sortedS ks = true → P (.done (.ret .none)) { s with heap:=sortedHeap s.heap a vs out }) :
  wpAny (model prog w) A (Builtin.«list.sort» ⟨[.ref a],[(Str.ofString "reverse",.bool true)]⟩) P E s:=by
 rw [list_sort_rev]
 have ha:a < s.heap.objs.size:=Heap.lt_size ho
 obtain ⟨e1,ho1⟩:∃ e1,(s.heap.update a (Obj.mapSeq fun _=>#[])).get? a = some (seqObj "list" #[] e1):=⟨_,get?_update_seq ho (fun _=>#[])⟩
 refine wpAny_bind (listItems_at ho rfl (wpAny_bind (listUpdate_at ho rfl (wpAny_bind (seqEpoch_at ho1 rfl (wpAny_bind (wpAny_newTuple (wpAny_bind (wpAny_newList (wpAny_holding ?_))))))))))
 have ho6:(((s.heap.update a (Obj.mapSeq fun _=>#[])).push (seqObj "tuple" vs.toArray 0)).push (seqObj "list" #[] 0)).get? a = some (seqObj "list" #[] e1):=by
  have lt1:a < (s.heap.update a (Obj.mapSeq fun _=>#[])).objs.size:=by rw [Heap.size_update]; exact ha
  rw [Heap.get?_push_ne _ _ _ (by rw [size_push']; exact Nat.ne_of_lt (Nat.lt_succ_of_lt lt1)),Heap.get?_push_ne _ _ _ (Nat.ne_of_lt lt1)]
  exact ho1
 show wpAny (model prog w) A _ P E { s with heap:=((s.heap.update a (Obj.mapSeq fun _=>#[])).push (seqObj "tuple" vs.toArray 0)).push (seqObj "list" #[] 0) }
 have hsz:vs.toArray.size = vs.length:=List.size_toArray ..
 have fin:∀ st':SortSt,(arrOf st').Perm (pairsOf vs) → SortedToK PyProof.Rows.strKind (arrOf st') (pairsOf vs).size → P (.done (.ret .none)) { s with heap:=sortedHeap s.heap a vs ((arrOf st').map (·.2)).reverse }:=fun st' hp hs=>by
  obtain ⟨ks,h1,h2,h3⟩:=sorted_out_str hS hp hs
  exact h _ ks (by rw [Array.toList_reverse,List.reverse_reverse]; exact h1) h2 h3
 have hstart:(vs.toArray.zip vs.toArray).reverse.Perm (pairsOf vs):=Array.perm_iff_toList_perm.mpr (by rw [Array.toList_reverse]; exact List.reverse_perm _)
 dsimp only
 rw [if_pos rfl]
 refine wpAny_bind (wpAny_rule ?_)
 by_cases h2:vs.toArray.size < 2
 ·rw [if_pos h2,if_pos h2,if_pos rfl]
  refine wpAny_bind (wpAny_pure ?_)
  rw [StateT.run_pure]
  refine wpAny_bind (wpAny_pure (wpAny_bind (seqEpoch_at ho6 rfl (wpAny_bind (listUpdate_at ho6 rfl ?_ (hsz2:=by
   simp only [if_true,Array.size_reverse,Array.size_map]; show (vs.toArray.zip vs.toArray).reverse.size ≤ _; rw [Array.size_reverse,Array.size_zip,sizeLine_eq]; omega))))))
  simp only [bne_self_eq_false,Bool.false_eq_true,if_false]
  refine wpAny_pure (fin (SortSt.mk' general' (vs.toArray.zip vs.toArray).reverse #[] 7 none) hstart fun i j hij hj=>?_)
  have e:i = j:=by rw [pairsOf_size] at hj; omega
  subst e; exact KeyOrd.kle_refl _
 ·rw [if_neg h2,if_neg h2,if_pos rfl]
  obtain ⟨v₁,v₂,rest,rfl⟩:∃ v₁ v₂ rest,vs = v₁ :: v₂ :: rest:=by
   match vs,hsz,h2 with
   | [],_,h2=>simp at h2
   | [_],_,h2=>simp at h2
   | v₁ :: v₂ :: rest,_,_=>exact ⟨v₁,v₂,rest,rfl⟩
  rw [keyKind_strs hS]
  refine wpAny_bind (wpAny_pure (wpAny_bind (wpAny_mono (wpS_sortRunsK (κ:=PyProof.Rows.strKind) strKind_oneLt (a₀:=pairsOf (v₁ :: v₂ :: rest)) (st:=SortSt.mk' oneType' ((v₁ :: v₂ :: rest).toArray.zip (v₁ :: v₂ :: rest).toArray).reverse #[] 7 none)
   (Q:=fun _ st'=>(arrOf st').Perm (pairsOf (v₁ :: v₂ :: rest)) ∧ failedOf st' = none ∧ SortedToK PyProof.Rows.strKind (arrOf st') (pairsOf (v₁ :: v₂ :: rest)).size)
   hS.keysOf ⟨hstart,rfl,rfl,rfl⟩ (by rw [pairsOf_size]; simp) (by rw [pairsOf_size]; exact h64) fun st' a1 a2 a3=>⟨a1,a2,a3⟩) ?_ fun _ _ e=>e)))
  rintro ⟨⟨⟩,st'⟩ s' ⟨rfl,hp,hf,hs⟩
  dsimp only
  refine wpAny_bind (seqEpoch_at ho6 rfl (wpAny_bind (listUpdate_at ho6 rfl ?_ (hsz2:=by
   simp only [if_true,Array.size_reverse]
   refine Nat.le_trans (Nat.le_of_eq ((Array.size_map ..).trans (hp.size_eq.trans (pairsOf_size _)))) ?_; rw [sizeLine_eq]; omega))))
  rw [hf]
  simp only [bne_self_eq_false,Bool.false_eq_true,if_false]
  exact wpAny_pure (fin st' hp hs)
theorem sorted_back {l:Addr} {vs:List Value} {ss:List Str} {Q:Value → Shared → Prop} (hl:s.heap.IsList l vs.toArray) (hS:StrsAre vs ss) (h64:vs.length < 64)
  (h:∀ (out:Array Value) (ks:List Str),StrsAre out.toList.reverse ks → ks.Perm ss → sortedS ks = true → Q (.ref (s.heap.objs.size + 1)) { s with heap:=sortedAll s.heap vs out }) :
  wpAny (model prog w) A (call (.builtin "sorted") [.ref l] [(Str.ofString "reverse",.bool true)]) Q E s:=by
 refine call_function_entry_kw kind_sorted plain_sorted entry_sorted (args_sorted_rev _ _) ?_
 unfold Builtin.«sorted»
 refine wpAny_bind (m:=checkCount "sorted" 1 1 _) (wpAny_pure (wpAny_bind (collect_list hl (wpAny_bind (wpAny_newList ?_)))))
 have hsz:((s.heap.push (seqObj "list" #[] 0)).update s.heap.objs.size (Obj.mapSeq (· ++ vs.toArray))).objs.size = s.heap.objs.size + 1:=by rw [Heap.size_update,size_push']
 have hoL:(((s.heap.push (seqObj "list" #[] 0)).update s.heap.objs.size (Obj.mapSeq (· ++ vs.toArray))).push (seqObj "list" vs.toArray 0)).get? (s.heap.objs.size + 1) = some (seqObj "list" vs.toArray 0):=by
  rw [← hsz]; exact Heap.get?_push_size _ rfl
 show wpAny _ _ _ _ _ { s with heap:=((s.heap.push (seqObj "list" #[] 0)).update s.heap.objs.size (Obj.mapSeq (· ++ vs.toArray))).push (seqObj "list" vs.toArray 0) }
 rw [hsz]
 exact wpAny_bind (wpAny_holding (wpAny_call_entry_kw slot_list_sort ⟨_,hoL,rfl⟩ entry_list_sort (zgg hoL hS h64 fun out ks a1 a2 a3=>⟨_,rfl,wpAny_pure ⟨_,rfl,h out ks a1 a2 a3⟩⟩) (args_list_sort_rev _ _)))
end
end PySem
namespace L2
open PySem PySem.Spec PyProof.Rows
theorem z7u {z:Str}:∀ {vs:List Value} {ss:List Str},StrsAre vs ss → vs.countP (fun v=>match v with | .str y _=>y == z | _=>false) = ss.count z
 | _,_,.nil=>rfl
 | _,_,.cons y t r=>by
  rw [List.countP_cons,List.count_cons,z7u r]
theorem z7v:∀ {vs:List Value} {ss:List Str},StrsAre vs ss → ∀ v ∈ vs,∃ y t,v = Value.str y t
 | _,_,.nil,v,m=>by cases m
 | _,_,.cons y t r,v,m=>by
  rcases List.mem_cons.mp m with rfl | m
  ·exact ⟨y,t,rfl⟩
  ·exact z7v r v m
section
variable {X:Cx}
def zdq (K:PySem.W.Frag):V → List V → Hp → VK → Prop:=fun x vs H Q=>∃ (l:Addr) (ss:List Str) (z:Str),x = .ref l ∧ vs = [.str z] ∧ SqL K H l (ss.map V.str) ∧ Q (.int (ss.count z:Nat)) H
theorem zav:MtM X "list.count" (zdq X.K):=by
 intro pins s σ H x vs v us Q I rx rv h
 obtain ⟨l,ss,z,rfl,rfl,hl,q⟩:=h
 cases rx
 obtain ⟨u,rfl,t,rfl⟩:=z3k rv
 obtain ⟨its,r,pl,hz⟩:=I.list hl
 obtain ⟨⟨cls,dd,data,sl⟩,n,ho,hc,hd,hs⟩:=id pl
 simp only at hc hd hs
 subst hc hs
 have hS:=z5q r
 refine call_meets PySem.F.slot_list_count ⟨_,ho,rfl⟩ PySem.F.entry_list_count (PySem.F.args_list_count_2 _ _)
  (SeqAt.list_countAt l its.toArray n dd sl (.str z t) (fun v=>match v with | .str y _=>y == z | _=>false)) ⟨ho,fun y hy=>?_,?_⟩
 ·obtain ⟨y',t',rfl⟩:=z7v hS y (by simpa using hy)
  exact SeqAt.EqAt.str_str y' t' z t
 ·have e:List.countP (fun v=>match v with | Value.str y _=>y == z | _=>false) its.toArray.toList = ss.count z:=z7u hS
  rw [e]
  exact ⟨.int _,H,I.tok _,⟨_,rfl⟩,q⟩
def zcb (K:PySem.W.Frag) (te:TA):TE:=fun σ H Q=>te σ H fun xs H1=>∃ (p:Addr) (ss:List Str),xs = [.ref p] ∧ SqL K H1 p (ss.map V.str) ∧ ss.length < 64 ∧ ∀ l ks,H1 l = none → ks.Perm ss → sortedS ks = true → Q (.ref l) (upd H1 l (.lst ((ks.reverse:List Str).map V.str)))
theorem zcc {e:Expr} {ta:TA} {p pos kp pc:Pos} {kc:Nat} (hg:Gl X "sorted") (hm:X.mg "sorted" = none) (ha:PA X [e] ta)
  (he:backTo pos (starEach [e] X.env) = (false,eval e X.env) :: backTo pos (starEach [] X.env):=by rfl) (hpl:(backTo pos (starEach [e] X.env)).any (·.1) = false:=by rfl) :
  PE X (.Call (.Name "sorted" p) [e] [⟨some (Str.ofString "reverse"),.Constant (.bool true) kc pc,kp⟩] pos) (zcb X.K ta):=by
 intro pins s σ H Q I h
 refine wpAny_Call_Name_kw (z46 I hg hm PyProof.Rows.boot_sorted ?_)
 refine callWith_kw (thn (ha pos pins s σ H _ I h) fun us s1 ⟨vs,H1,I1,r1,q1⟩=>?_) he hpl (by rfl) (by rfl)
 obtain ⟨l,ss,e1,hl,h64,q⟩:=q1
 subst e1
 obtain ⟨u,rfl,ru⟩:=z3k r1
 cases ru
 refine kws_cons (wpAny_Constant_bool (kws_nil ?_))
 show wpAny _ _ (call (.builtin "sorted") [.ref l] [(Str.ofString "reverse",.bool true)]) _ _ _
 obtain ⟨its,rv,pl,hz⟩:=I1.list hl
 have hlen:=rv.length
 rw [List.length_map] at hlen
 refine PySem.sorted_back pl.isList (z5q rv) (by omega) fun out ks a1 a2 a3=>?_
 obtain ⟨e2,he2⟩:=sortedAll_at s1.heap its out
 have a4:StrsAre out.toList ks.reverse:=by
  have rev:∀ {vs:List Value} {ss:List Str},StrsAre vs ss → StrsAre vs.reverse ss.reverse:=fun {vs ss} hS=>by
   have h1:Vals (ss.reverse.map V.str) vs.reverse:=by
    have app:∀ {xs ys:List V} {us ws:List Value},Vals xs us → Vals ys ws → Vals (xs ++ ys) (us ++ ws):=fun {xs ys us ws} a b=>by
     induction a with
     | nil=>exact b
     | cons h t ih=>exact .cons h ih
    induction hS with
    | nil=>exact .nil
    | cons y t r ih =>
     rw [List.reverse_cons,List.reverse_cons,List.map_append]
     exact app ih (.cons ⟨t,rfl⟩ .nil)
   exact z5q h1
  have:=rev a1
  rwa [List.reverse_reverse] at this
 have zz:((ks.reverse).map V.str).length ≤ sizeLine:=by
  rw [List.length_map,List.length_reverse,a2.length_eq]; exact Nat.le_trans (Nat.le_of_lt h64) (by decide)
 exact ⟨.ref _,_,I1.laid (a:=s1.heap.objs.size + 1) (o:=.lst (ks.reverse.map V.str)) (t':=s1.toks) (fun _ _=>sortedAll_old) (Nat.le_succ _) ⟨zz,out.toList,e2,z7c a4,he2⟩,rfl,q _ _ (I1.hok.fresh (Nat.le_succ _)) a2 a3⟩
end
end L2
end
section
namespace L2
open PySem PySem.Spec PyProof.Rows
def MDefC (K:PySem.W.Frag) (C:Addr) (m qual:Str) (st:Stmt) (ps:List Str) (c:Addr):Prop :=
 ∃ (f:Addr) (oc:Value) (od:Option Addr) (kV doc pm:Value) (an:Option Addr) (ct:Value) (osl:Array (Option Value)),K.lookup f = some ⟨oc,od,.func (PySem.W.fnOf m qual (z2w st) (z1g st) (ze st) .none kV doc pm an (.ref c) ct),osl⟩ ∧
  PySem.W.codeIn K (.ref c) qual = true ∧ Meth K C m f ∧ Binds K (PySem.W.fnOf m qual (z2w st) (z1g st) (ze st) .none kV doc pm an (.ref c) ct) ps []
theorem MDefC.ok {P:Program} {w:World} {K:PySem.W.Frag} {mg:Str → Option Value} {base:Heap} {C:Addr} {m qual:Str} {st:Stmt} {N ps:List Str} {k:Nat} {sp:Sp} {c:Addr} (D:MDefC K C m qual st ps c) (S:FnScope N ps (ze st)) (len:∀ vs H Q E,sp vs H Q E → vs.length = ps.length)
  (hbody:∀ (f:Addr) (A:Around) (outer:List Env) (s:Shared) (H:Hp) (vs:List V) (Q:VK) (E:XK),Room k (A.deeper (envOfC qual (ze st) s.heap.objs.size f (.ref c))) → sp vs H Q E →
   ∃ t,PSs (cxOf CX0 P w K mg base N qual (ze st) f (.ref c) A outer s H E).nox (z1g st) t ∧ t { nx:=fun _ H'=>Q .non H',rt:=Q } (start N vs) H):MHas P w K mg base CX0 (k + 1) C m ps sp:=by
 obtain ⟨f,oc,od,kV,doc,pm,an,ct,osl,lk,hcd,hm,hb⟩:=D
 refine ⟨f,_,zbj lk hcd S len fun A outer s H vs Q E hr hsp=>?_,hm,hb⟩
 obtain ⟨t,h,q⟩:=hbody f A outer s H vs Q E hr hsp
 exact ⟨t,h.nox,q⟩
end L2
end
section
namespace L2
open PySem PySem.Spec PyProof.Rows
theorem zaw {P:Program} {w:World}:∀ {D:List Str} {kvs:List (Key × V)} {vs:List (Key × Value)},KV kvs vs → kvs.map (·.1) = D.map Sum.inr → ∀ {us:List Value},us.length = vs.length →
  (∀ (j:Nat) (v:Value),us[j]? = some v → ∃ (k:Key) (x:Value),vs[j]? = some (k,x) ∧ (mixKind P w).is k v = true) → StrsAre us D
 | [],[],_,r,_,us,hl,_=>by
  cases r
  cases us with
  | nil=>exact .nil
  | cons _ _=>simp at hl
 | _ :: _,[],_,_,e,_,_,_=>by simp at e
 | [],_ :: _,_,_,e,_,_,_=>by simp at e
 | d :: D,p :: kvs,vs,r,e,us,hl,h=>by
  cases r with
  | @cons _ q _ vs h1 t =>
   cases us with
   | nil=>simp at hl
   | cons u us =>
    obtain ⟨k,x,e1,e2⟩:=h 0 u rfl
    simp only [List.getElem?_cons_zero,Option.some.injEq] at e1
    subst e1
    simp only [List.map_cons,List.cons.injEq] at e
    obtain ⟨e3,e4⟩:=e
    have e5:k = Sum.inr d:=by rw [← e3]; exact h1.1.symm
    subst e5
    obtain ⟨tk,rfl⟩:∃ tk,u = .str d tk:=Value.isStrOf_shape e2
    refine .cons d tk (zaw (P:=P) (w:=w) t e4 (by simpa using hl) fun j v hj=>?_)
    simpa using h (j + 1) v (by simpa using hj)
section
variable {X:Cx}
theorem zer (hc:X.calm = true):CallR X (.type "list") (fun xs H Q=>∃ a kvs D,xs = [.ref a] ∧ H a = some (.dK kvs) ∧ kvs.map (·.1) = D.map Sum.inr ∧ ∀ l,H l = none → Q (.ref l) (upd H l (.lst ((D:List Str).map V.str)))):=by
 intro pins s σ H xs us Q I r h
 obtain ⟨a,kvs,D,rfl,ha,hD,q⟩:=h
 obtain ⟨u,rfl,ru⟩:=z3k r
 cases ru
 obtain ⟨z,hd,vs,rel,dd⟩:=zbk I.hok ha
 obtain ⟨ep,da⟩:=dd.dictAt
 have hcount:kvs.length = D.length:=by rw [← List.length_map (f:=(·.1)),hD,List.length_map]
 refine PySem.W.kdl_call (PySem.W.kdl_dict (knd:=mixKind X.prog X.w) (kvs:=vs) (ep:=ep) hd) (I.ok.hd hc) da (by rw [← rel.length]; exact z) fun h' tk acc c hk hg ii=>?_
 have t1:StrsAre acc.toList D:=zaw (P:=X.prog) (w:=X.w) rel hD (by rw [Array.length_toList]; exact ii.1) fun j v e=>ii.2 j v (by rw [← Array.getElem?_toList]; exact e)
 refine ⟨.ref s.heap.objs.size,_,I.laid (a:=s.heap.objs.size) (o:=.lst (D.map V.str)) (t':=tk) hk (Nat.le_refl _) ⟨by rw [List.length_map,← hcount]; exact z,_,c,z7c t1,by simpa using hg⟩,rfl,q _ (I.hok.fresh (Nat.le_refl _))⟩
end
section
variable {X:Cx} {tg:Expr}
end
end L2
end
namespace Fg
open PySem L2
local macro_rules | `(tactic| walk_at "rd") => `(tactic| simp only [cxOf, L2.start, tSeq, zi9, tAsg, tBM, zbg, gSub, gNil, zib, tRet, tIfS, zia, tOp, tUn, tSl, zig, zdk, tCB, zea, tNil, tTup, tLst, tVar, tC, ze4, tB, tAnd, tOr, tNot, zi7, tOrV, zi8, zff, zeb, tFld, sFld, z77, zfy, z8i, zfx, tTry, zih, zg0, gTup, zik, zg6, zim, zg5, z8t, zdp, zcb, zdq, zil, zhj, zfs, zft, zid, zfu, zel, zga, tYes, capt, rI, rI0, rU, rEq, rNe, tyV, scal,
 Option.join_some,List.map_cons,List.map_nil,List.cons_append,List.nil_append,List.append_nil,List.replicate,List.length_cons,List.length_nil,Nat.reduceAdd,Nat.reduceSub,List.getElem?_cons_zero,List.getElem?_cons_succ,List.set_cons_zero,List.set_cons_succ,
 Option.some.injEq,V.str.injEq,V.int.injEq,V.bl.injEq,V.ref.injEq,V.ty.injEq,List.cons.injEq,exists_eq_left',exists_eq_left,exists_and_left,and_true,true_and,reduceCtorEq,if_true,if_false])
def top (i:Nat):Stmt:=PySem.Challenge.pw_fencegate_k15_council_named.main.body.getD i (.Pass ⟨0,0,0,0⟩)
abbrev z85:Stmt:=top 9
abbrev z6x:Stmt:=top 10
abbrev z86:Stmt:=top 11
abbrev z37:Stmt:=z1f (top 13) 0
abbrev z4b:Stmt:=z1f (top 13) 1
abbrev z4c:Stmt:=z1f (top 13) 2
abbrev z4d:Stmt:=z1f (top 13) 3
abbrev z2m:Stmt:=z1f (top 13) 4
abbrev z31:Stmt:=z1f (top 13) 5
abbrev z4e:Stmt:=z1f (top 13) 6
abbrev z4f:Stmt:=z1f (top 13) 7
abbrev z32:Stmt:=z1f (top 15) 0
abbrev z2y:Stmt:=z1f (top 15) 1
abbrev z2t:Stmt:=z1f (top 15) 2
abbrev z3x:Stmt:=z1f (top 15) 3
abbrev z3y:Stmt:=z1f (top 15) 4
abbrev z3p:Stmt:=z1f (top 15) 6
abbrev z3d:Stmt:=z1f (top 15) 7
abbrev z3z:Stmt:=z1f (top 15) 8
abbrev z40:Stmt:=z1f (top 15) 9
abbrev z1n:Stmt:=z1f (top 15) 12
abbrev z6y:Stmt:=top 17
abbrev z2h:Stmt:=top 18
abbrev z5c:Stmt:=top 19
abbrev z4w:Stmt:=top 20
abbrev z4x:Stmt:=top 21
abbrev z5d:Stmt:=top 22
abbrev z4y:Stmt:=top 23
abbrev z4z:Stmt:=top 24
abbrev z5e:Stmt:=top 25
abbrev z60:Stmt:=top 26
abbrev z61:Stmt:=top 27
abbrev z4g:Stmt:=top 28
abbrev z62:Stmt:=top 29
abbrev z4h:Stmt:=top 30
abbrev z5f:Stmt:=top 31
abbrev z5g:Stmt:=top 32
abbrev z41:Stmt:=top 33
abbrev z50:Stmt:=top 34
abbrev z2z:Stmt:=top 35
abbrev z51:Stmt:=top 36
abbrev z7d:Stmt:=top 37
structure Txt (K:PySem.W.Frag) (mg:Str → Option Value) (y0 yd yc y6 yb ya y8 y7 y9:Addr):Prop where
 z:True
 b_all:mg "all" = none
 b_bool:mg "bool" = none
 b_enumerate:mg "enumerate" = none
 b_int:mg "int" = none
 b_isinstance:mg "isinstance" = none
 b_len:mg "len" = none
 b_list:mg "list" = none
 b_max:mg "max" = none
 b_min:mg "min" = none
 b_range:mg "range" = none
 b_set:mg "set" = none
 b_sorted:mg "sorted" = none
 b_str:mg "str" = none
 b_tuple:mg "tuple" = none
 g_Council:mg "Council" = some (.ref y0)
 g_Down:mg "Down" = some (.ref yd)
 g_InTheWay:mg "InTheWay" = some (.ref yc)
 g_Keeper:mg "Keeper" = some (.ref y6)
 g_NotFree:mg "NotFree" = some (.ref yb)
 g_OldNumber:mg "OldNumber" = some (.ref ya)
 g_UnknownKeeper:mg "UnknownKeeper" = some (.ref y8)
 pg_Council:PySem.W.plainGet K y0 Str.empty = true
 hd_Council:PySem.W.hasDictIn K y0 = true
 po_Council:PySem.W.plainOver K y0 = true
 sa_Council:PySem.W.findIn K (.ref y0) "__setattr__" = some (some (.builtin "object.__setattr__"))
 n_Council_keepers:NoAttr K y0 "keepers"
 n_Council_most:NoAttr K y0 "most"
 pg_Keeper:PySem.W.plainGet K y6 Str.empty = true
 hd_Keeper:PySem.W.hasDictIn K y6 = true
 po_Keeper:PySem.W.plainOver K y6 = true
 sa_Keeper:PySem.W.findIn K (.ref y6) "__setattr__" = some (some (.builtin "object.__setattr__"))
 n_Keeper_up:NoAttr K y6 "up"
 n_Keeper_top:NoAttr K y6 "top"
 n_Keeper_kept:NoAttr K y6 "kept"
 x_Down:PySem.W.excIn K yd [.type "ValueError",.type "Exception",.type "BaseException",.type "object"] "ValueError.__new__" = true
 x_InTheWay:PySem.W.excIn K yc [.type "ValueError",.type "Exception",.type "BaseException",.type "object"] "ValueError.__new__" = true
 x_NotFree:PySem.W.excIn K yb [.type "ValueError",.type "Exception",.type "BaseException",.type "object"] "ValueError.__new__" = true
 x_OldNumber:PySem.W.excIn K ya [.type "ValueError",.type "Exception",.type "BaseException",.type "object"] "ValueError.__new__" = true
 x_UnknownKeeper:PySem.W.excIn K y8 [.type "ValueError",.type "Exception",.type "BaseException",.type "object"] "ValueError.__new__" = true
 sb_Down_NotFree:PySem.W.subIn K (.ref yd) (.ref yb) = some false
 sb_InTheWay_NotFree:PySem.W.subIn K (.ref yc) (.ref yb) = some false
 sb_NotFree_NotFree:PySem.W.subIn K (.ref yb) (.ref yb) = some true
 sb_OldNumber_NotFree:PySem.W.subIn K (.ref ya) (.ref yb) = some false
 sb_UnknownKeeper_NotFree:PySem.W.subIn K (.ref y8) (.ref yb) = some false
 hd_Council_named:PySem.W.codeHdIn K y9 y7 = true
theorem Txt.cl_Council {K:PySem.W.Frag} {mg:Str → Option Value} {y0 yd yc y6 yb ya y8 y7 y9:Addr} (T:Txt K mg y0 yd yc y6 yb ya y8 y7 y9):Cls K y0:=⟨T.pg_Council,T.hd_Council,T.po_Council,T.sa_Council⟩
theorem Txt.cl_Keeper {K:PySem.W.Frag} {mg:Str → Option Value} {y0 yd yc y6 yb ya y8 y7 y9:Addr} (T:Txt K mg y0 yd yc y6 yb ya y8 y7 y9):Cls K y6:=⟨T.pg_Keeper,T.hd_Keeper,T.po_Keeper,T.sa_Keeper⟩
theorem sc_within:FnScope ["inner","outer","outer_names"] ["inner","outer"] (ze z85):=⟨rfl,rfl,rfl,by decide +kernel,rfl,by decide +kernel,by decide +kernel⟩
theorem zes:FnScope ["one","other"] ["one","other"] (ze z6x):=⟨rfl,rfl,rfl,by decide +kernel,rfl,by decide +kernel,by decide +kernel⟩
theorem zgh:FnScope ["lock","shared","other","other_shared"] ["lock","shared","other","other_shared"] (ze z86):=⟨rfl,rfl,rfl,by decide +kernel,rfl,by decide +kernel,by decide +kernel⟩
theorem z6z:FnScope ["self"] ["self"] (ze z37):=⟨rfl,rfl,rfl,by decide +kernel,rfl,by decide +kernel,by decide +kernel⟩
theorem z9y:FnScope ["self"] ["self"] (ze z4b):=⟨rfl,rfl,rfl,by decide +kernel,rfl,by decide +kernel,by decide +kernel⟩
theorem z9z:FnScope ["self"] ["self"] (ze z4c):=⟨rfl,rfl,rfl,by decide +kernel,rfl,by decide +kernel,by decide +kernel⟩
theorem za0:FnScope ["self","tick"] ["self","tick"] (ze z4d):=⟨rfl,rfl,rfl,by decide +kernel,rfl,by decide +kernel,by decide +kernel⟩
theorem sc_Keeper_names_in_way:FnScope ["self","holder","lock","shared","tick","others"] ["self","holder","lock","shared","tick"] (ze z2m):=⟨rfl,rfl,rfl,by decide +kernel,rfl,by decide +kernel,by decide +kernel⟩
theorem z6e:FnScope ["self","holder","lock","shared","tick"] ["self","holder","lock","shared","tick"] (ze z31):=⟨rfl,rfl,rfl,by decide +kernel,rfl,by decide +kernel,by decide +kernel⟩
theorem sc_Keeper_take:FnScope ["self","number","holder","lock","shared","tick","time","others"] ["self","number","holder","lock","shared","tick","time"] (ze z4e):=⟨rfl,rfl,rfl,by decide +kernel,rfl,by decide +kernel,by decide +kernel⟩
theorem za1:FnScope ["self","number","tick"] ["self","number","tick"] (ze z4f):=⟨rfl,rfl,rfl,by decide +kernel,rfl,by decide +kernel,by decide +kernel⟩
theorem z6f:FnScope ["self","many"] ["self","many"] (ze z32):=⟨rfl,rfl,rfl,by decide +kernel,rfl,by decide +kernel,by decide +kernel⟩
theorem z63:FnScope ["self","place"] ["self","place"] (ze z2y):=⟨rfl,rfl,rfl,by decide +kernel,rfl,by decide +kernel,by decide +kernel⟩
theorem z5r:FnScope ["self"] ["self"] (ze z2t):=⟨rfl,rfl,rfl,by decide +kernel,rfl,by decide +kernel,by decide +kernel⟩
theorem sc_Council_fall:FnScope ["self","keeper","chosen","was_up"] ["self","keeper"] (ze z3x):=⟨rfl,rfl,rfl,by decide +kernel,rfl,by decide +kernel,by decide +kernel⟩
theorem sc_Council_rise:FnScope ["self","keeper","chosen","was_up"] ["self","keeper"] (ze z3y):=⟨rfl,rfl,rfl,by decide +kernel,rfl,by decide +kernel,by decide +kernel⟩
theorem z87:FnScope ["self","keeper","tick"] ["self","keeper","tick"] (ze z3p):=⟨rfl,rfl,rfl,by decide +kernel,rfl,by decide +kernel,by decide +kernel⟩
theorem z7i:FnScope ["self","holder","lock","shared","tick"] ["self","holder","lock","shared","tick"] (ze z3d):=⟨rfl,rfl,rfl,by decide +kernel,rfl,by decide +kernel,by decide +kernel⟩
theorem sc_Council_give:FnScope ["self","holder","lock","shared","tick","time","sayers","number","place"] ["self","holder","lock","shared","tick","time"] (ze z3z):=⟨rfl,rfl,rfl,by decide +kernel,rfl,by decide +kernel,by decide +kernel⟩
theorem sc_Council_drop:FnScope ["self","number","tick","droppers","place","keeper"] ["self","number","tick"] (ze z40):=⟨rfl,rfl,rfl,by decide +kernel,rfl,by decide +kernel,by decide +kernel⟩
theorem sc_Council_named:FnScope ["self","holder","lock","shared","tick","counts","place","keeper","name"] ["self","holder","lock","shared","tick"] (ze z1n):=⟨rfl,rfl,rfl,by decide +kernel,rfl,by decide +kernel,by decide +kernel⟩
theorem zet:FnScope ["_law_script","_law_k"] ["_law_script","_law_k"] (ze z6y):=⟨rfl,rfl,rfl,by decide +kernel,rfl,by decide +kernel,by decide +kernel⟩
theorem z70:FnScope ["_law_found","_law_due"] ["_law_found","_law_due"] (ze z2h):=⟨rfl,rfl,rfl,by decide +kernel,rfl,by decide +kernel,by decide +kernel⟩
theorem sc__law_name:FnScope ["_law_cell","_law_k","_law_signs","_law_rest","_law_many","_law_spot","_law_made","_law_j","_law_place"] ["_law_cell","_law_k"] (ze z5c):=⟨rfl,rfl,rfl,by decide +kernel,rfl,by decide +kernel,by decide +kernel⟩
theorem zb9:FnScope ["_law_cell","_law_many"] ["_law_cell","_law_many"] (ze z4w):=⟨rfl,rfl,rfl,by decide +kernel,rfl,by decide +kernel,by decide +kernel⟩
theorem sc__law_locks:FnScope ["_law_cell","_law_words","_law_many","_law_made","_law_rest","_law_k","_law_parent","_law_path"] ["_law_cell","_law_words","_law_many"] (ze z4x):=⟨rfl,rfl,rfl,by decide +kernel,rfl,by decide +kernel,by decide +kernel⟩
theorem sc__law_some:FnScope ["_law_cell","_law_names_here","_law_found","_law_rest","_law_name_here"] ["_law_cell","_law_names_here"] (ze z5d):=⟨rfl,rfl,rfl,by decide +kernel,rfl,by decide +kernel,by decide +kernel⟩
theorem sc__law_setup:FnScope ["_law_script","_law_keepers","_law_holders","_law_locks_here","_law_sharing","_law_stores"] ["_law_script"] (ze z4y):=⟨rfl,rfl,rfl,by decide +kernel,rfl,by decide +kernel,by decide +kernel⟩
theorem sc__law_asked:FnScope ["_law_rest","_law_k","_law_setup_here","_law_holder","_law_lock","_law_shared"] ["_law_rest","_law_k","_law_setup_here"] (ze z4z):=⟨rfl,rfl,rfl,by decide +kernel,rfl,by decide +kernel,by decide +kernel⟩
theorem sc__law_line:FnScope ["_law_one","_law_other","_law_first","_law_second","_law_many"] ["_law_one","_law_other"] (ze z5e):=⟨rfl,rfl,rfl,by decide +kernel,rfl,by decide +kernel,by decide +kernel⟩
theorem zd6:FnScope ["_law_lock","_law_shared","_law_other","_law_other_shared"] ["_law_lock","_law_shared","_law_other","_law_other_shared"] (ze z60):=⟨rfl,rfl,rfl,by decide +kernel,rfl,by decide +kernel,by decide +kernel⟩
theorem zd7:FnScope ["_law_setup_here"] ["_law_setup_here"] (ze z61):=⟨rfl,rfl,rfl,by decide +kernel,rfl,by decide +kernel,by decide +kernel⟩
theorem sc__law_naming:FnScope ["_law_state","_law_asking","_law_keeper","_law_found","_law_note"] ["_law_state","_law_asking","_law_keeper"] (ze z4g):=⟨rfl,rfl,rfl,by decide +kernel,rfl,by decide +kernel,by decide +kernel⟩
theorem zd8:FnScope ["_law_state"] ["_law_state"] (ze z62):=⟨rfl,rfl,rfl,by decide +kernel,rfl,by decide +kernel,by decide +kernel⟩
theorem za2:FnScope ["_law_state","_law_asking"] ["_law_state","_law_asking"] (ze z4h):=⟨rfl,rfl,rfl,by decide +kernel,rfl,by decide +kernel,by decide +kernel⟩
theorem zcd:FnScope ["_law_state","_law_asking"] ["_law_state","_law_asking"] (ze z5f):=⟨rfl,rfl,rfl,by decide +kernel,rfl,by decide +kernel,by decide +kernel⟩
theorem sc__law_give:FnScope ["_law_state","_law_asking","_law_by","_law_number","_law_holder","_law_lock","_law_shared","_law_end","_law_notes","_law_note","_law_k"] ["_law_state","_law_asking"] (ze z5g):=⟨rfl,rfl,rfl,by decide +kernel,rfl,by decide +kernel,by decide +kernel⟩
theorem sc__law_dropped:FnScope ["_law_state","_law_number","_law_found","_law_notes","_law_note"] ["_law_state","_law_number"] (ze z41):=⟨rfl,rfl,rfl,by decide +kernel,rfl,by decide +kernel,by decide +kernel⟩
theorem sc__law_given:FnScope ["_law_council","_law_asking","_law_tick","_law_refused"] ["_law_council","_law_asking","_law_tick"] (ze z50):=⟨rfl,rfl,rfl,by decide +kernel,rfl,by decide +kernel,by decide +kernel⟩
theorem sc__law_council_deed:FnScope ["_law_council","_law_state","_law_cell","_law_k","_law_setup_here","_law_rest","_law_event","_law_asking","_law_found","_law_by","_law_number","_law_keeper","_law_changed"] ["_law_council","_law_state","_law_cell","_law_k"] (ze z2z):=⟨rfl,rfl,rfl,by decide +kernel,rfl,by decide +kernel,by decide +kernel⟩
theorem sc__law_named:FnScope ["_law_state","_law_asking","_law_names_here","_law_k","_law_best","_law_name_here"] ["_law_state","_law_asking"] (ze z51):=⟨rfl,rfl,rfl,by decide +kernel,rfl,by decide +kernel,by decide +kernel⟩
theorem sc_law:FnScope ["_law_script","_law_setup_here","_law_council","_law_state","_law_k","_law_event","_law_asking","_law_found","_law_lock"] ["_law_script"] (ze z7d):=⟨rfl,rfl,rfl,by decide +kernel,rfl,by decide +kernel,by decide +kernel⟩
variable {y0 yd yc y6 yb ya y8 y7 y9:Addr}
variable {ts:List Addr}
section
variable {P:Program} {w:World} {K:PySem.W.Frag} {mg:Str → Option Value} {base:Heap}
def sp (a:Str):List Str:=Txt.split a "/"
def z71 (a b:Str):Bool:=decide ((sp a).take (sp b).length = sp b)
def zce:Sp:=fun vs H Q _=>∃ a b:Str,vs = [.str a,.str b] ∧ a.length ≤ 1000 ∧ b.length ≤ 1000 ∧ z52 H Q (.bl (z71 a b))
theorem zgi (F:Def K mg "within" z85 ["inner","outer"]) (T:Txt K mg y0 yd yc y6 yb ya y8 y7 y9):Has P w K mg base 1 "within" ["inner","outer"] (zce):=by
 refine F.ok sc_within (fun vs H Q E h=>?_) (fun f cdv A outer s H vs Q E hr h=>?_)
 ·obtain ⟨a,b,rfl,_⟩:=h
  rfl
 ·obtain ⟨a,b,rfl,ha,hb,k⟩:=h
  have hu:=hr.units0
  refine ⟨_,(@z8 _ _ _ _ _ (@zi _ _ 2 _ _ _ _ sc_within.nd rfl (Or.inl rfl) (@z2c _ _ _ _ _ _ _ _ _ _ _ _ PySem.F.plainAttrs_str PySem.F.slot_str_split PySem.F.type_str_split z5y (pv 1) (@z0 _ _ _ _ _ zj z6 rfl) rfl rfl rfl rfl rfl) rfl (Or.inr rfl)) (@za _ _ _ (@zl _ _ _ _ (@z1e _ _ _ _ _ _ _ _ (zfq hu) (@z5v _ _ _ _ _ _ _ _ _ _ z9m (@z2c _ _ _ _ _ _ _ _ _ _ _ _ PySem.F.plainAttrs_str PySem.F.slot_str_split PySem.F.type_str_split z5y (pv 0) (@z0 _ _ _ _ _ zj z6 rfl) rfl rfl rfl rfl rfl) z78 (@z79 _ _ _ (@zg _ _ _ _ _ _ _ _ _ zq rfl T.b_len (by decide +kernel) (@z0 _ _ _ _ _ (pv 2) z6 rfl) (by decide) (by decide) rfl rfl))) (pv 2) (zm _))))),?_⟩
  walk_at "rd"
  refine z7b rfl (by omega) fun p hp=>z7b rfl (by omega) fun q hq=>?_
  have npq:p ≠ q:=zc z7 hq
  refine ⟨_,rfl,_,.inl (SqL.of (by rw [z9 npq,z7])),_,_,rfl,SqL.of z7,fun r hr'=>?_⟩
  have nr:∀ b,b = p ∨ b = q → b ≠ r:=fun b hb z=>by
   subst z
   rcases hb with rfl | rfl
   ·rw [z9 npq,z7] at hr'; cases hr'
   ·rw [z7] at hr'; cases hr'
  refine ⟨_,_,_,_,rfl,rfl,SqL.of z7,SqL.of (by rw [z9 (nr p (.inl rfl)),z9 npq,z7]),?_,z2l _,?_⟩
  ·rw [List.length_map,z8n,← List.map_take]
   exact z2l _
  ·rw [List.length_map,z8n,← List.map_take]
   have e:eqVs (List.map V.str (List.take (sp b).length (sp a))) (List.map V.str (sp b)) = z71 a b:=z5x _ _
   show Q (.bl (eqVs (List.map V.str (List.take (sp b).length (sp a))) (List.map V.str (sp b)))) _
   rw [e]
   exact k _ (((Same.upd hp).trans (Same.upd hq)).trans (Same.upd hr'))
def onl (a b:Str):Bool:=z71 a b || z71 b a
def spOn:Sp:=fun vs H Q _=>∃ a b:Str,vs = [.str a,.str b] ∧ a.length ≤ 1000 ∧ b.length ≤ 1000 ∧ z52 H Q (.bl (onl a b))
theorem zeu (F:Def K mg "on_line" z6x ["one","other"]) (T:Txt K mg y0 yd yc y6 yb ya y8 y7 y9) (y1g:Has P w K mg base 1 "within" ["inner","outer"] (zce)):Has P w K mg base 2 "on_line" ["one","other"] (spOn):=by
 refine F.ok zes (fun vs H Q E h=>?_) (fun f cdv A outer s H vs Q E hr h=>?_)
 ·obtain ⟨a,b,rfl,_⟩:=h
  rfl
 ·obtain ⟨a,b,rfl,ha,hb,k⟩:=h
  refine ⟨_,(@za _ _ _ (@zl _ _ _ _ (@zkn _ _ _ _ _ _ _ (@zp _ _ _ _ _ _ _ _ _ _ y1g (hr.mono (by decide)) rfl (@z0 _ _ _ _ _ (pv 0) (@z0 _ _ _ _ _ (pv 1) z6 rfl) rfl) (by decide) rfl rfl) (@z24 _ _ _ _ _ (@zp _ _ _ _ _ _ _ _ _ _ y1g (hr.mono (by decide)) rfl (@z0 _ _ _ _ _ (pv 1) (@z0 _ _ _ _ _ (pv 0) z6 rfl) rfl) (by decide) rfl rfl))))),?_⟩
  walk_at "rd"
  refine ⟨a,b,rfl,ha,hb,fun H1 s1=>⟨_,rfl,?_⟩⟩
  cases e:z71 a b with
  | true =>
   rw [if_pos rfl]
   have:=k H1 s1
   simpa [onl,e] using this
  | false =>
   rw [if_neg Bool.false_ne_true]
   refine ⟨b,a,rfl,hb,ha,fun H2 s2=>?_⟩
   have:=k H2 (s1.trans s2)
   simpa [onl,e] using this
def zio:Sp:=fun vs H Q _=>∃ (a b:Str) (x y:Bool),vs = [.str a,.bl x,.str b,.bl y] ∧ a.length ≤ 1000 ∧ b.length ≤ 1000 ∧ z52 H Q (.bl (onl a b && !(x && y)))
theorem zgj (F:Def K mg "in_way" z86 ["lock","shared","other","other_shared"]) (T:Txt K mg y0 yd yc y6 yb ya y8 y7 y9) (y1h:Has P w K mg base 2 "on_line" ["one","other"] (spOn)):Has P w K mg base 3 "in_way" ["lock","shared","other","other_shared"] (zio):=by
 refine F.ok zgh (fun vs H Q E h=>?_) (fun f cdv A outer s H vs Q E hr h=>?_)
 ·obtain ⟨a,b,x,y,rfl,_⟩:=h
  rfl
 ·obtain ⟨a,b,x,y,rfl,ha,hb,k⟩:=h
  refine ⟨_,(@za _ _ _ (@zl _ _ _ _ (@z2a _ _ _ _ _ _ _ (@zp _ _ _ _ _ _ _ _ _ _ y1h (hr.mono (by decide)) rfl (@z0 _ _ _ _ _ (pv 0) (@z0 _ _ _ _ _ (pv 2) z6 rfl) rfl) (by decide) rfl rfl) (@z24 _ _ _ _ _ (@zbn _ _ _ _ (@z2a _ _ _ _ _ _ _ (pv 1) (@z24 _ _ _ _ _ (pv 3)))))))),?_⟩
  walk_at "rd"
  refine ⟨a,b,rfl,ha,hb,fun H1 s1=>⟨_,rfl,?_⟩⟩
  have:=k H1 s1
  cases e:onl a b <;> cases x <;> simp_all
structure Nt where
 n:Int
 h:Str
 l:Str
 sh:Bool
 e:Int
deriving DecidableEq
def Nt.vals (x:Nt):List V:=[.int x.n,.str x.h,.str x.l,.bl x.sh,.int x.e]
abbrev NL:=List (Addr × Nt)
def refs (L:NL):List V:=L.map fun q=>V.ref q.1
structure NotesAt (H:Hp) (L:NL):Prop where
 tu:∀ q ∈ L,H q.1 = some (.tup q.2.vals)
 sm:∀ q ∈ L,q.2.h.length ≤ 1000 ∧ q.2.l.length ≤ 1000
theorem NotesAt.mono {H H':Hp} {L:NL} (h:NotesAt H L) (s:Same H H'):NotesAt H' L:=⟨fun q hq=>s _ _ (h.tu q hq),h.sm⟩
theorem NotesAt.sub {H:Hp} {L L':NL} (h:NotesAt H L) (s:∀ q ∈ L',q ∈ L):NotesAt H L':=⟨fun q hq=>h.tu q (s q hq),fun q hq=>h.sm q (s q hq)⟩
theorem n1:¬ (("up" : Str) = "top"):=by decide +kernel
theorem n2:¬ (("up" : Str) = "kept"):=by decide +kernel
theorem n3:¬ (("top" : Str) = "kept"):=by decide +kernel
def kf (u:Bool) (t:Int) (l:Addr):List (Str × V):=[("up",.bl u),("top",.int t),("kept",.ref l)]
theorem z7e (u:Bool) (t:Int) (l:Addr):(kf u t l).lookup ("up" : Str) = some (.bl u):=by simp [kf,List.lookup_cons]
theorem zgk (u:Bool) (t:Int) (l:Addr):(kf u t l).lookup ("top" : Str) = some (.int t):=by
 have e:(("top" : Str) == "up") = false:=by decide +kernel
 simp [kf,List.lookup_cons,e]
theorem z35 (u:Bool) (t:Int) (l:Addr):(kf u t l).lookup ("kept" : Str) = some (.ref l):=by
 have e:(("kept" : Str) == "up") = false:=by decide +kernel
 have e':(("kept" : Str) == "top") = false:=by decide +kernel
 simp [kf,List.lookup_cons,e,e']
theorem z3q (u:Bool) (t:Int) (l:Addr) {m:Str} (h1:(m == "up") = false) (h2:(m == "top") = false) (h3:(m == "kept") = false):(kf u t l).lookup m = none:=by
 simp [kf,List.lookup_cons,h1,h2,h3]
theorem zkq (u:Bool) (t:Int) (l:Addr):putF "kept" (.ref l) (putF "top" (.int t) (putF "up" (.bl u) [])) = kf u t l:=by
 simp [putF,kf,n1,n2,n3]
theorem zax (u u':Bool) (t:Int) (l:Addr):putF "up" (.bl u') (kf u t l) = kf u' t l:=by simp [putF,kf]
theorem zev (u:Bool) (t t':Int) (l:Addr):putF "top" (.int t') (kf u t l) = kf u t' l:=by simp [putF,kf,n1]
theorem z5h (u:Bool) (t:Int) (l l':Addr):putF "kept" (.ref l') (kf u t l) = kf u t l':=by simp [putF,kf,n2,n3]
structure KeeperAt (C:Addr) (H:Hp) (k:Addr) (u:Bool) (t:Int) (L:NL):Prop where
 ob:∃ dx l,H k = some (.ins C dx (kf u t l)) ∧ H l = some (.lst (refs L))
 nt:NotesAt H L
 len:L.length ≤ 1000
theorem KeeperAt.mono {C:Addr} {H H':Hp} {k:Addr} {u:Bool} {t:Int} {L:NL} (h:KeeperAt C H k u t L) (s:Same H H'):KeeperAt C H' k u t L:=by
 obtain ⟨⟨dx,l,h1,h2⟩,h3,h4⟩:=h
 exact ⟨⟨dx,l,s _ _ h1,s _ _ h2⟩,h3.mono s,h4⟩
def But (k:Addr) (H H':Hp):Prop:=∀ b o,H b = some o → b ≠ k → H' b = some o
theorem But.of {k:Addr} {H H':Hp} (s:Same H H'):But k H H':=fun b o e _=>s b o e
theorem z3e {L:NL} {i:Nat} {x:V} (h:(refs L)[i]? = some x):∃ q,L[i]? = some q ∧ x = .ref q.1:=by
 unfold refs at h
 rw [List.getElem?_map] at h
 cases e:L[i]? with
 | none=>rw [e] at h; cases h
 | some q=>rw [e] at h; exact ⟨q,rfl,(Option.some.inj h).symm⟩
theorem z17 (L:NL):(refs L).length = L.length:=List.length_map _
theorem z1o {α:Type} (p:α → Bool) {L:List α} {i:Nat} {x:α} (h:L[i]? = some x):(L.take (i + 1)).filter p = (L.take i).filter p ++ (if p x = true then [x] else []):=by
 rw [List.take_succ,h,List.filter_append]
 simp [List.filter_cons]
theorem zv {H H':Hp} {p:Addr} (s:Same H H') (h:H' p = none):H p = none:=by
 cases e:H p with
 | none=>rfl
 | some o=>rw [s _ _ e] at h; cases h
def zgl (C:Addr):Sp:=fun vs H Q _=>∃ (k dx:Addr),vs = [.ref k] ∧ H k = some (.ins C dx []) ∧ ∀ (H':Hp),KeeperAt C H' k true 0 [] → (∃ dx l,H' k = some (.ins C dx (kf true 0 l)) ∧ H l = none) → But k H H' → Q .non H'
theorem z72 (F:KDef K y6 "Keeper.__init__" z37 ["self"]) (T:Txt K mg y0 yd yc y6 yb ya y8 y7 y9):KHas P w K mg base 1 y6 ["self"] (zgl y6):=by
 refine F.ok z6z (fun vs H Q E h=>?_) (fun f cdv A outer s H vs Q E hr h=>?_)
 ·obtain ⟨k,dx,rfl,_⟩:=h
  rfl
 ·obtain ⟨k,dx,rfl,hk,q⟩:=h
  refine ⟨_,(@z8 _ _ _ _ _ (@z38 _ _ _ _ _ _ _ _ (pv 0) z22 rfl) (@z8 _ _ _ _ _ (@z38 _ _ _ _ _ _ _ _ (pv 0) z4 rfl) (@za _ _ _ (@z38 _ _ _ _ _ _ _ _ (pv 0) (@z1c _ _ _ _ z6) rfl)))),?_⟩
  walk_at "rd"
  refine ⟨_,_,_,hk,T.cl_Keeper,T.n_Keeper_up,by decide,_,_,_,z7,T.cl_Keeper,T.n_Keeper_top,by show (1:Nat) < 1000; decide,Nat.zero_le _,fun p hp=>?_⟩
  have nkp:k ≠ p:=zc z7 hp
  refine ⟨_,_,_,by rw [z9 nkp,z7],T.cl_Keeper,T.n_Keeper_kept,by simp [putF,n1],?_⟩
  rw [zkq]
  refine q _ ⟨⟨dx,p,z7,by rw [z9 nkp.symm,z7]; rfl⟩,⟨by simp,by simp⟩,by simp⟩ ⟨dx,p,z7,?_⟩ fun b o e nb=>?_
  ·rw [z9 nkp.symm,z9 nkp.symm] at hp
   exact hp
  have nbp:b ≠ p:=fun z=>by
   subst z
   rw [z9 nb,z9 nb,e] at hp
   cases hp
  rw [z9 nb,z9 nbp,z9 nb,z9 nb]
  exact e
def z16 (tick:Int) (L:NL):NL:=L.filter fun q=>decide (tick < q.2.e)
def z8z (C:Addr):Sp:=fun vs H Q _=>∃ (k:Addr) (u:Bool) (t:Int) (L:NL) (tick:Int),vs = [.ref k,.int tick] ∧ KeeperAt C H k u t L ∧ ∀ (r:Addr) (H':Hp),H r = none → H' r = some (.lst (refs (z16 tick L))) → Same H H' → Q (.ref r) H'
theorem za3 (F:MDef K y6 "live" "Keeper.live" z4d ["self","tick"]) (T:Txt K mg y0 yd yc y6 yb ya y8 y7 y9):MHas P w K mg base CX0 1 y6 "live" ["self","tick"] (z8z y6):=by
 refine F.ok za0 (fun vs H Q E h=>?_) (fun f cdv A outer s H vs Q E hr h=>?_)
 ·obtain ⟨k,u,t,L,tick,rfl,_⟩:=h
  rfl
 ·obtain ⟨k,u,t,L,tick,rfl,hk,q⟩:=h
  refine ⟨_,(@za _ _ _ (@zl _ _ _ _ (@z1x _ _ "note" (["tick"]) ([1]) _ _ _ _ _ _ _ _ rfl ⟨rfl,by decide +kernel,by decide +kernel,rfl,zu rfl,by decide +kernel,⟨⟨rfl,Or.inl rfl,rfl⟩,trivial⟩⟩ (@z18 _ _ _ _ (@z2b _ _ _ _ _ (pv 0) rfl)) (fun _ _ _ _=>(@z2k _ _ _ (@zn _ _ _ _ _ _ _ _ z76 (pv 1) (@zh _ _ _ _ _ _ _ (z1y (K:=K)) (pv 0) z4 (fun _ _=>rfl)) (zm _)))) (fun _ _ _ _=>(pv 0)) (by intro _; rfl)))),?_⟩
  walk_at "rd"
  obtain ⟨⟨dx,l,h1,h2⟩,hn,hlen⟩:=hk
  refine ⟨_,_,_,h1,T.cl_Keeper,T.n_Keeper_kept,_,z35 u t l,l,rfl,⟨_,SqL.of h2⟩,?_⟩
  refine z1m (xs:=refs L) (by rw [z17]; exact zd (by omega)) (fun i acc H'=>acc = refs (z16 tick (L.take i)) ∧ H' = H) ⟨by simp [z16,refs],rfl⟩ ?_ ?_ ?_ ?_
  ·rintro i acc H' ⟨rfl,-⟩
   rw [z17]
   exact Nat.le_trans (List.length_filter_le _ _) (by rw [List.length_take]; omega)
  ·rintro i acc H' ⟨-,rfl⟩
   exact SqL.of h2
  ·rintro Nn i acc H' x hN hx hi ⟨rfl,rfl⟩
   obtain ⟨y,hy,rfl⟩:=z3e hx
   walk_at "rd"
   refine ⟨_,_,_,_,rfl,rfl,SqT.of (hn.tu _ (List.mem_of_getElem? hy)),zb (j:=4) rfl,?_⟩
   have st:=z1o (fun q:Addr × Nt=>decide (tick < q.2.e)) hy
   by_cases hc:tick < y.2.e
   ·refine ⟨_,rfl,?_⟩
    simp only [hc,decide_true,if_true]
    refine hN _ _ ⟨?_,rfl⟩
    unfold z16
    rw [st]
    simp [hc,refs]
   ·refine ⟨_,rfl,?_⟩
    simp only [hc,decide_false,Bool.false_eq_true,if_false]
    refine hN _ _ ⟨?_,rfl⟩
    unfold z16
    rw [st]
    simp [hc,refs]
  ·rintro acc H' ⟨rfl,rfl⟩ p hp
   rw [z17,List.take_length]
   exact q p _ hp z7 (Same.upd hp)
def z1q (hd lk:Str) (sh:Bool) (x:Nt):Bool:=decide (x.h ≠ hd) && (onl lk x.l && !(sh && x.sh))
def z2v (L:NL) (hd lk:Str) (sh:Bool) (tick:Int):Bool:=!((z16 tick L).any fun q=>z1q hd lk sh q.2)
def othf (hd:Str) (L:NL):NL:=L.filter fun q=>decide (q.2.h ≠ hd)
def wayf (lk:Str) (sh:Bool) (L:NL):List Str:=(L.filter fun q=>onl lk q.2.l && !(sh && q.2.sh)).map fun q=>q.2.h
def z3c (L:NL) (hd lk:Str) (sh:Bool) (tick:Int):List Str:=wayf lk sh (othf hd (z16 tick L))
theorem z7w:∀ (ss D:List Str),(ss.foldl z1b D).length ≤ D.length + ss.length
 | [],D=>Nat.le_refl _
 | v :: ss,D=>by
  rw [List.foldl_cons]
  refine Nat.le_trans (z7w ss _) ?_
  unfold z1b
  split
  ·simp only [List.length_cons]; omega
  ·simp only [List.length_append,List.length_cons,List.length_nil]; omega
theorem zjd (ss:List Str):(z1h ss).length ≤ ss.length:=by
 have:=z7w ss []
 simpa [z1h] using this
theorem zje {ss ks:List Str} (h:ks.Perm (z1h ss)):ks = [] ↔ ss = []:=by
 constructor
 ·rintro rfl
  cases ss with
  | nil=>rfl
  | cons v ss =>
   have:v ∈ z1h (v :: ss):=(z5b (v :: ss) [] v).mpr (.inr (by simp))
   rw [← h.mem_iff] at this
   cases this
 ·rintro rfl
  exact List.Perm.eq_nil h
theorem zgm (L:NL) (hd lk:Str) (sh:Bool) (tick:Int):decide (z3c L hd lk sh tick = []) = z2v L hd lk sh tick:=by
 unfold z3c wayf othf z2v
 rw [Bool.eq_iff_iff]
 simp only [decide_eq_true_eq,List.map_eq_nil_iff,List.filter_eq_nil_iff,List.mem_filter,Bool.not_eq_true',List.any_eq_false,z1q,Bool.and_eq_true,and_imp]
 constructor
 ·intro h x hx h1
  exact h x hx h1.1 h1.2
 ·intro h x hx h1 h2
  exact h x hx ⟨h1,h2⟩
def z88 (C:Addr):Sp:=fun vs H Q _=>∃ (k:Addr) (u:Bool) (t:Int) (L:NL) (hd lk:Str) (sh:Bool) (tick:Int),vs = [.ref k,.str hd,.str lk,.bl sh,.int tick] ∧ KeeperAt C H k u t L ∧ L.length ≤ 63 ∧ lk.length ≤ 1000 ∧
 ∀ (r:Addr) (ks:List Str) (H':Hp),H r = none → H' r = some (.lst (ks.map V.str)) → ks.Perm (z1h (z3c L hd lk sh tick)) → PyProof.Rows.sortedS ks = true → Same H H' → Q (.ref r) H'
theorem z5i (F:MDef K y6 "names_in_way" "Keeper.names_in_way" z2m ["self","holder","lock","shared","tick"]) (T:Txt K mg y0 yd yc y6 yb ya y8 y7 y9) (y1i:Has P w K mg base 3 "in_way" ["lock","shared","other","other_shared"] (zio)) (yi:MHas P w K mg base CX0 1 y6 "live" ["self","tick"] (z8z y6)):MHas P w K mg base CX0 4 y6 "names_in_way" ["self","holder","lock","shared","tick"] (z88 y6):=by
 refine F.ok sc_Keeper_names_in_way (fun vs H Q E h=>?_) (fun f cdv A outer s H vs Q E hr h=>?_)
 ·obtain ⟨k,u,t,L,hd,lk,sh,tick,rfl,_⟩:=h
  rfl
 ·obtain ⟨k,u,t,L,hd,lk,sh,tick,rfl,hk,h63,hl,q⟩:=h
  have hu:=hr.units0
  refine ⟨_,(@z8 _ _ _ _ _ (@z8m _ _ "note" (["holder"]) ([1]) _ _ _ _ _ _ _ _ 5 _ _ _ rfl ⟨rfl,by decide +kernel,by decide +kernel,rfl,zu rfl,by decide +kernel,⟨⟨rfl,Or.inl rfl,rfl⟩,trivial⟩⟩ sc_Keeper_names_in_way.nd rfl (Or.inl rfl) (@z18 _ _ _ _ (@z20 _ _ _ _ _ _ _ _ _ _ _ _ _ _ yi T.cl_Keeper (hr.mono (by decide)) (pv 0) (@z0 _ _ _ _ _ (pv 4) z6 rfl) rfl rfl rfl)) (fun _ _ _ _=>(@z2k _ _ _ (@zn _ _ _ _ _ _ _ _ z2r (@zh _ _ _ _ _ _ _ (z1y (K:=K)) (pv 0) z4 (fun _ _=>rfl)) (pv 1) (zm _)))) (fun _ _ _ _=>(pv 0)) rfl (by intro _; rfl) (Or.inr rfl)) (@za _ _ _ (@zl _ _ _ _ (@zg _ _ _ _ _ _ _ _ _ (zc7 rfl) rfl T.b_sorted (by decide +kernel) (@z0 _ _ _ _ _ (@z6l _ _ _ _ _ _ _ _ _ (zgd rfl) rfl T.b_set (by decide +kernel) (@z0 _ _ _ _ _ (@z1x _ _ "note" (["lock","shared"]) ([2,3]) _ _ _ _ _ _ _ _ rfl ⟨rfl,by decide +kernel,by decide +kernel,rfl,zu rfl,by decide +kernel,⟨⟨rfl,Or.inl rfl,rfl⟩,⟨⟨rfl,Or.inl rfl,rfl⟩,trivial⟩⟩⟩ (@z18 _ _ _ _ (pv 5)) (fun _ _ _ _=>(@z2k _ _ _ (@z1k _ _ _ (@zp _ _ _ _ _ _ _ _ _ _ y1i (hr.mono (by decide)) rfl (@z0 _ _ _ _ _ (pv 1) (@z0 _ _ _ _ _ (pv 2) (@z0 _ _ _ _ _ (@zh _ _ _ _ _ _ _ (z1y (K:=K)) (pv 0) z4 (fun _ _=>rfl)) (@z0 _ _ _ _ _ (@zh _ _ _ _ _ _ _ (z1y (K:=K)) (pv 0) z4 (fun _ _=>rfl)) z6 rfl) rfl) rfl) rfl) (by decide) rfl rfl) (by intro _; rfl)))) (fun _ _ _ _=>(@zh _ _ _ _ _ _ _ (z1y (K:=K)) (pv 0) z4 (fun _ _=>rfl))) (by intro _; rfl)) z6 rfl) (by decide) (by decide) rfl rfl) z6 rfl) (by decide) (by decide) rfl rfl)))),?_⟩
  walk_at "rd"
  obtain ⟨⟨dx,l,h1,h2⟩,hn,hlen⟩:=id hk
  refine ⟨_,_,h1,z3q u t l (by decide +kernel) (by decide +kernel) (by decide +kernel),k,u,t,L,tick,rfl,hk,fun r H1 hr0 hr1 hs1=>⟨r,rfl,⟨_,SqL.of hr1⟩,?_⟩⟩
  have hn1:NotesAt H1 (z16 tick L):=(hn.mono hs1).sub fun q h=>(List.mem_filter.mp h).1
  have l1:(z16 tick L).length ≤ 63:=Nat.le_trans (List.length_filter_le _ _) h63
  refine z1m (xs:=refs (z16 tick L)) (by rw [z17]; exact zd (by omega)) (fun i acc H'=>acc = refs (othf hd ((z16 tick L).take i)) ∧ H' = H1) ⟨by simp [othf,refs],rfl⟩ ?_ ?_ ?_ ?_
  ·rintro i acc H' ⟨rfl,-⟩
   rw [z17]
   exact Nat.le_trans (List.length_filter_le _ _) (by rw [List.length_take]; omega)
  ·rintro i acc H' ⟨-,rfl⟩
   exact SqL.of hr1
  ·rintro Nn i acc H' x hN hx hi ⟨rfl,rfl⟩
   obtain ⟨y,hy,rfl⟩:=z3e hx
   walk_at "rd"
   have st:=z1o (fun q:Addr × Nt=>decide (q.2.h ≠ hd)) hy
   refine ⟨_,_,_,_,rfl,rfl,SqT.of (hn1.tu _ (List.mem_of_getElem? hy)),zb (j:=1) rfl,?_⟩
   by_cases hc:y.2.h = hd
   ·refine ⟨rfl,?_⟩
    simp only [V.str.injEq,hc,decide_true,Bool.not_true,Bool.false_eq_true,if_false]
    refine hN _ _ ⟨?_,rfl⟩
    unfold othf
    rw [st]
    simp [hc]
   ·refine ⟨rfl,?_⟩
    simp only [V.str.injEq,hc,decide_false,Bool.not_false,if_true]
    refine hN _ _ ⟨?_,rfl⟩
    unfold othf
    rw [st]
    simp [hc,refs]
  rintro acc H' ⟨rfl,rfl⟩ p hp
  rw [z17,List.take_length]
  refine ⟨p,rfl,⟨_,SqL.of z7⟩,?_⟩
  have s2:=hs1.trans (Same.upd (o:=.lst (refs (othf hd (z16 tick L)))) hp)
  have gp:upd H' p (.lst (refs (othf hd (z16 tick L)))) p = some (.lst (refs (othf hd (z16 tick L)))):=z7
  generalize upd H' p (.lst (refs (othf hd (z16 tick L)))) = H2 at s2 gp ⊢
  have hn2:NotesAt H2 (othf hd (z16 tick L)):=(hn.mono s2).sub fun q h=>(List.mem_filter.mp (List.mem_filter.mp h).1).1
  have l2:(othf hd (z16 tick L)).length ≤ 63:=Nat.le_trans (List.length_filter_le _ _) l1
  have eW:z3c L hd lk sh tick = wayf lk sh (othf hd (z16 tick L)):=rfl
  generalize othf hd (z16 tick L) = O at gp hn2 l2 eW ⊢
  refine z1m (xs:=refs O) (by rw [z17]; exact zd (by omega)) (fun i acc H'=>acc = (wayf lk sh (O.take i)).map V.str ∧ Same H2 H') ⟨by simp [wayf],Same.refl _⟩ ?_ ?_ ?_ ?_
  ·rintro i acc H' ⟨rfl,-⟩
   rw [List.length_map]
   unfold wayf
   rw [List.length_map]
   exact Nat.le_trans (List.length_filter_le _ _) (by rw [List.length_take]; omega)
  ·rintro i acc H' ⟨-,s3⟩
   exact SqL.of (s3 _ _ gp)
  ·rintro Nn i acc H' x hN hx hi ⟨rfl,s3⟩
   obtain ⟨y,hy,rfl⟩:=z3e hx
   walk_at "rd"
   have st:=z1o (fun q:Addr × Nt=>onl lk q.2.l && !(sh && q.2.sh)) hy
   have ty:=hn2.tu _ (List.mem_of_getElem? hy)
   have sm:=hn2.sm _ (List.mem_of_getElem? hy)
   refine ⟨_,_,_,_,rfl,rfl,SqT.of (s3 _ _ ty),zb (j:=2) rfl,?_⟩
   refine ⟨_,_,_,_,rfl,rfl,SqT.of (s3 _ _ ty),zb (j:=3) rfl,?_⟩
   refine ⟨_,_,_,_,rfl,hl,sm.2,fun H4 s4=>⟨_,rfl,?_⟩⟩
   cases hw:(onl lk y.2.l && !(sh && y.2.sh)) with
   | true =>
    rw [if_pos rfl]
    refine ⟨_,_,_,_,rfl,rfl,SqT.of (s4 _ _ (s3 _ _ ty)),zb (j:=1) rfl,hN _ _ ⟨?_,s3.trans s4⟩⟩
    unfold wayf
    rw [st,hw]
    simp
   | false =>
    rw [if_neg Bool.false_ne_true]
    refine hN _ _ ⟨?_,s3.trans s4⟩
    unfold wayf
    rw [st,hw]
    simp
  rintro acc H' ⟨rfl,s3⟩ p2 hp2
  rw [z17,List.take_length,← eW]
  have l3:(z3c L hd lk sh tick).length ≤ 63:=by
   rw [eW]
   unfold wayf
   rw [List.length_map]
   exact Nat.le_trans (List.length_filter_le _ _) l2
  refine ⟨p2,rfl,_,SqL.of z7,Nat.lt_of_le_of_lt (Nat.succ_le_succ l3) (by decide +kernel),fun d hd'=>⟨_,z7,z49 _ _ List.nodup_nil,Nat.lt_of_le_of_lt (zjd _) (by omega),fun l' ks hl' hperm hsort=>?_⟩⟩
  have s5:=((s2.trans s3).trans (Same.upd (o:=.lst ((z3c L hd lk sh tick).map V.str)) hp2)).trans (Same.upd (o:=tso P w d (z1h (z3c L hd lk sh tick))) hd')
  exact q l' ks _ (zv s5 hl') z7 hperm hsort (s5.trans (Same.upd hl'))
def zcf (C:Addr):Sp:=fun vs H Q _=>∃ (k:Addr) (u:Bool) (t:Int) (L:NL) (hd lk:Str) (sh:Bool) (tick:Int),vs = [.ref k,.str hd,.str lk,.bl sh,.int tick] ∧ KeeperAt C H k u t L ∧ L.length ≤ 63 ∧ lk.length ≤ 1000 ∧ z52 H Q (.bl (z2v L hd lk sh tick))
theorem z6g (F:MDef K y6 "says_free" "Keeper.says_free" z31 ["self","holder","lock","shared","tick"]) (T:Txt K mg y0 yd yc y6 yb ya y8 y7 y9) (yh:MHas P w K mg base CX0 4 y6 "names_in_way" ["self","holder","lock","shared","tick"] (z88 y6)):MHas P w K mg base CX0 5 y6 "says_free" ["self","holder","lock","shared","tick"] (zcf y6):=by
 refine F.ok z6e (fun vs H Q E h=>?_) (fun f cdv A outer s H vs Q E hr h=>?_)
 ·obtain ⟨k,u,t,L,hd,lk,sh,tick,rfl,_⟩:=h
  rfl
 ·obtain ⟨k,u,t,L,hd,lk,sh,tick,rfl,hk,h63,hl,q⟩:=h
  have hu:=hr.units0
  refine ⟨_,(@za _ _ _ (@zl _ _ _ _ (@z1e _ _ _ _ _ _ _ _ (zbw hu) (@z20 _ _ _ _ _ _ _ _ _ _ _ _ _ _ yh T.cl_Keeper (hr.mono (by decide)) (pv 0) (@z0 _ _ _ _ _ (pv 1) (@z0 _ _ _ _ _ (pv 2) (@z0 _ _ _ _ _ (pv 3) (@z0 _ _ _ _ _ (pv 4) z6 rfl) rfl) rfl) rfl) rfl rfl rfl) (@z1c _ _ _ _ z6) (zm _)))),?_⟩
  walk_at "rd"
  obtain ⟨⟨dx,l,h1,h2⟩,hn,hlen⟩:=id hk
  refine ⟨_,_,h1,z3q u t l (by decide +kernel) (by decide +kernel) (by decide +kernel),k,u,t,L,hd,lk,sh,tick,rfl,hk,h63,hl,fun r ks H1 hr0 hr1 hp hs s1=>⟨Nat.zero_le _,fun p hp0=>⟨r,rfl,_,SqL.of (Same.upd hp0 _ _ hr1),SqL.of z7,?_⟩⟩⟩
  have e:(ks.map V.str).isEmpty = z2v L hd lk sh tick:=by
   rw [← zgm,Bool.eq_iff_iff]
   simp only [List.isEmpty_iff,List.map_eq_nil_iff,decide_eq_true_eq]
   exact zje hp
  rw [e]
  exact q _ (s1.trans (Same.upd hp0))
def z45 (hd lk:Str) (L:NL):NL:=L.filter fun q=>!(decide (q.2.h = hd) && decide (q.2.l = lk))
def zgn (C CD CO CI:Addr):Sp:=fun vs H Q E=>∃ (k:Addr) (u:Bool) (t:Int) (L:NL) (n:Int) (hd lk:Str) (sh:Bool) (tick time:Int),vs = [.ref k,.int n,.str hd,.str lk,.bl sh,.int tick,.int time] ∧ KeeperAt C H k u t L ∧ L.length ≤ 62 ∧ hd.length ≤ 1000 ∧ lk.length ≤ 1000 ∧
 (u = false → E (.ref CD) none H) ∧ (u = true → n ≤ t → E (.ref CO) none H) ∧ (u = true → t < n → z2v L hd lk sh tick = false → ∀ H',Same H H' → E (.ref CI) none H') ∧
 (u = true → t < n → z2v L hd lk sh tick = true → ∀ (p:Addr) (H':Hp),H p = none → KeeperAt C H' k u n (z45 hd lk L ++ [(p,⟨n,hd,lk,sh,tick + time⟩)]) → (∃ dx l,H' k = some (.ins C dx (kf u n l)) ∧ H l = none) → But k H H' → Q .non H')
theorem za4 (F:MDef K y6 "take" "Keeper.take" z4e ["self","number","holder","lock","shared","tick","time"]) (T:Txt K mg y0 yd yc y6 yb ya y8 y7 y9) (yk:MHas P w K mg base CX0 5 y6 "says_free" ["self","holder","lock","shared","tick"] (zcf y6)):MHas P w K mg base (CX1 P w) 6 y6 "take" ["self","number","holder","lock","shared","tick","time"] (zgn y6 yd ya yc):=by
 refine F.okx sc_Keeper_take (fun vs H Q E h=>?_) (fun f cdv A outer s H vs Q E hr h=>?_)
 ·obtain ⟨k,u,t,L,n,hd,lk,sh,tick,time,rfl,_⟩:=h
  rfl
 ·obtain ⟨k,u,t,L,n,hd,lk,sh,tick,time,rfl,hk,h900,hh,hl,e1,e2,e3,q⟩:=h
  have hu:=hr.units0
  refine ⟨_,(@z8 _ _ _ _ _ (@zy _ _ _ _ _ _ _ _ (@z3i _ _ _ _ (@z1k _ _ _ (@z2b _ _ _ _ _ (pv 0) rfl) (by intro _; rfl))) (@za _ _ _ (@z4s _ _ _ _ _ _ _ _ _ _ _ _ _ _ z48 rfl PySem.F.excBase_ValueError T.x_Down rfl T.g_Down (@z0 _ _ _ _ _ zj z6 rfl) rfl rfl (by decide))) zo) (@z8 _ _ _ _ _ (@zy _ _ _ _ _ _ _ _ (@zn _ _ _ _ _ _ _ _ ze3 (pv 1) (@z2b _ _ _ _ _ (pv 0) rfl) (zm _)) (@za _ _ _ (@z4s _ _ _ _ _ _ _ _ _ _ _ _ _ _ z48 rfl PySem.F.excBase_ValueError T.x_OldNumber rfl T.g_OldNumber (@z0 _ _ _ _ _ zj z6 rfl) rfl rfl (by decide))) zo) (@z8 _ _ _ _ _ (@zy _ _ _ _ _ _ _ _ (@z3i _ _ _ _ (@z1k _ _ _ (@z20 _ _ _ _ _ _ _ _ _ _ _ _ _ _ yk T.cl_Keeper (hr.mono (by decide)) (pv 0) (@z0 _ _ _ _ _ (pv 2) (@z0 _ _ _ _ _ (pv 3) (@z0 _ _ _ _ _ (pv 4) (@z0 _ _ _ _ _ (pv 5) z6 rfl) rfl) rfl) rfl) rfl rfl rfl) (by intro _; rfl))) (@za _ _ _ (@z4s _ _ _ _ _ _ _ _ _ _ _ _ _ _ z48 rfl PySem.F.excBase_ValueError T.x_InTheWay rfl T.g_InTheWay (@z0 _ _ _ _ _ zj z6 rfl) rfl rfl (by decide))) zo) (@z8 _ _ _ _ _ (@z8m _ _ "note" (["holder","lock"]) ([2,3]) _ _ _ _ _ _ _ _ 7 _ _ _ rfl ⟨rfl,by decide +kernel,by decide +kernel,rfl,zu rfl,by decide +kernel,⟨⟨rfl,Or.inl rfl,rfl⟩,⟨⟨rfl,Or.inl rfl,rfl⟩,trivial⟩⟩⟩ sc_Keeper_take.nd rfl (Or.inl rfl) (@z18 _ _ _ _ (@z2b _ _ _ _ _ (pv 0) rfl)) (fun _ _ _ _=>(@z2k _ _ _ (@zn _ _ _ _ _ _ _ _ (zhl (K:=K) hu) (@z1l _ _ _ _ _ (@z0 _ _ _ _ _ (@zh _ _ _ _ _ _ _ (z1y (K:=K)) (pv 0) z4 (fun _ _=>rfl)) (@z0 _ _ _ _ _ (@zh _ _ _ _ _ _ _ (z1y (K:=K)) (pv 0) z4 (fun _ _=>rfl)) z6 rfl) rfl)) (@z1l _ _ _ _ _ (@z0 _ _ _ _ _ (pv 1) (@z0 _ _ _ _ _ (pv 2) z6 rfl) rfl)) (zm _)))) (fun _ _ _ _=>(pv 0)) rfl (by intro _; rfl) (Or.inr rfl)) (@z8 _ _ _ _ _ (@z38 _ _ _ _ _ _ _ _ (pv 0) (@zf _ _ _ _ _ _ _ _ zfm (pv 7) (@z1c _ _ _ _ (@z0 _ _ _ _ _ (@z1l _ _ _ _ _ (@z0 _ _ _ _ _ (pv 1) (@z0 _ _ _ _ _ (pv 2) (@z0 _ _ _ _ _ (pv 3) (@z0 _ _ _ _ _ (pv 4) (@z0 _ _ _ _ _ (@zf _ _ _ _ _ _ _ _ z14 (pv 5) (pv 6)) z6 rfl) rfl) rfl) rfl) rfl)) z6 rfl))) rfl) (@za _ _ _ (@z38 _ _ _ _ _ _ _ _ (pv 0) (pv 1) rfl))))))),?_⟩
  walk_at "rd"
  obtain ⟨⟨dx,l,h1,h2⟩,hn,hlen⟩:=id hk
  refine ⟨_,_,_,h1,T.cl_Keeper,T.n_Keeper_up,_,z7e u t l,u,rfl,?_⟩
  cases hup:u with
  | false=>exact ⟨zd (by decide),e1 hup⟩
  | true =>
  rw [if_neg (by decide)]
  refine ⟨_,_,_,h1,T.cl_Keeper,T.n_Keeper_top,_,zgk u t l,t,rfl,?_⟩
  by_cases hnt:n ≤ t
  ·rw [if_pos (decide_eq_true hnt)]
   exact ⟨zd (by decide),e2 hup hnt⟩
  rw [if_neg (by simpa using hnt)]
  refine ⟨_,_,h1,z3q u t l (by decide +kernel) (by decide +kernel) (by decide +kernel),k,u,t,L,hd,lk,sh,tick,rfl,hk,by omega,hl,fun H1 s1=>⟨_,rfl,?_⟩⟩
  cases hf:z2v L hd lk sh tick with
  | false=>exact ⟨zd (by decide),e3 hup (by omega) hf H1 s1⟩
  | true =>
  rw [if_neg (by decide)]
  have hn1:=hn.mono s1
  refine ⟨_,_,_,s1 _ _ h1,T.cl_Keeper,T.n_Keeper_kept,_,z35 u t l,l,rfl,⟨_,SqL.of (s1 _ _ h2)⟩,?_⟩
  refine z1m (xs:=refs L) (by rw [z17]; exact zd (by omega)) (fun i acc H'=>acc = refs (z45 hd lk (L.take i)) ∧ Same H1 H') ⟨by simp [z45,refs],Same.refl _⟩ ?_ ?_ ?_ ?_
  ·rintro i acc H' ⟨rfl,-⟩
   rw [z17]
   exact Nat.le_trans (List.length_filter_le _ _) (by rw [List.length_take]; omega)
  ·rintro i acc H' ⟨-,s2⟩
   exact SqL.of (s2 _ _ (s1 _ _ h2))
  ·rintro Nn i acc H' x hN hx hi ⟨rfl,s2⟩
   obtain ⟨y,hy,rfl⟩:=z3e hx
   walk_at "rd"
   have ty:=hn1.tu _ (List.mem_of_getElem? hy)
   refine ⟨_,_,_,_,rfl,rfl,SqT.of (s2 _ _ ty),zb (j:=1) rfl,?_⟩
   refine ⟨_,_,_,_,rfl,rfl,SqT.of (s2 _ _ ty),zb (j:=2) rfl,?_⟩
   refine ⟨zd (by decide),fun p hp=>⟨zd (by decide),fun r hr'=>?_⟩⟩
   have npr:p ≠ r:=zc z7 hr'
   refine ⟨_,_,_,_,rfl,rfl,SqT.of (by rw [z9 npr,z7]),SqT.of z7,rfl,rfl,?_⟩
   have st:=z1o (fun q:Addr × Nt=>!(decide (q.2.h = hd) && decide (q.2.l = lk))) hy
   have s3:Same H1 (upd (upd H' p (.tup [V.str y.2.h,V.str y.2.l])) r (.tup [V.str hd,V.str lk])):=(s2.trans (Same.upd hp)).trans (Same.upd hr')
   have ev:eqVs [V.str y.2.h,V.str y.2.l] [V.str hd,V.str lk] = (decide (y.2.h = hd) && decide (y.2.l = lk)):=by
    have:=z5x [y.2.h,y.2.l] [hd,lk]
    simp only [List.map_cons,List.map_nil] at this
    rw [this]
    simp [Bool.decide_and]
   simp only [ev,if_true]
   cases hc:(decide (y.2.h = hd) && decide (y.2.l = lk)) with
   | true =>
    refine ⟨_,rfl,?_⟩
    rw [if_neg (by decide)]
    refine hN _ _ ⟨?_,s3⟩
    unfold z45
    rw [st,hc]
    simp
   | false =>
    refine ⟨_,rfl,?_⟩
    rw [if_pos (by decide)]
    refine hN _ _ ⟨?_,s3⟩
    unfold z45
    rw [st,hc]
    simp [refs]
  ·rintro acc H2 ⟨rfl,s2⟩ p hp
   rw [z17,List.take_length]
   refine ⟨zd (by decide),fun p1 hp1=>⟨zd (by decide),fun p2 hp2=>?_⟩⟩
   have n01:p ≠ p1:=zc z7 hp1
   have n12:p1 ≠ p2:=zc z7 hp2
   have n02:p ≠ p2:=zc (by rw [z9 n01]; exact z7) hp2
   have kl:(z45 hd lk L).length ≤ L.length:=List.length_filter_le _ _
   refine ⟨_,_,_,_,rfl,rfl,by rw [z9 n02,z9 n01,z7],z7,zd (by rw [z17]; show _ + 1 ≤ _; omega),fun p3 hp3=>?_⟩
   have n13:p1 ≠ p3:=zc (by rw [z9 n12]; exact z7) hp3
   have s3:=(((s1.trans s2).trans (Same.upd (o:=.lst (refs (z45 hd lk L))) hp)).trans (Same.upd (o:=.tup [V.int n,V.str hd,V.str lk,V.bl sh,V.int (tick + time)]) hp1)).trans (Same.upd (o:=.lst [V.ref p1]) hp2)
   have s4:=s3.trans (Same.upd (o:=.lst (refs (z45 hd lk L) ++ [V.ref p1])) hp3)
   have nk3:k ≠ p3:=zc (s3 _ _ h1) hp3
   refine ⟨_,_,_,s4 _ _ h1,T.cl_Keeper,T.n_Keeper_kept,by show (3:Nat) < 1000; decide,_,_,_,z7,T.cl_Keeper,T.n_Keeper_top,by rw [z5h]; show (3:Nat) < 1000; decide,?_⟩
   rw [z5h,zev]
   have hp1':H p1 = none:=zv ((s1.trans s2).trans (Same.upd hp)) hp1
   have nk1:p1 ≠ k:=fun z=>by rw [z,h1] at hp1'; cases hp1'
   refine q hup (by omega) hf p1 _ hp1' ⟨⟨dx,p3,z7,?_⟩,⟨fun x hx=>?_,fun x hx=>?_⟩,?_⟩ ⟨dx,p3,z7,zv s3 hp3⟩ fun b o e nb=>?_
   ·rw [z9 nk3.symm,z9 nk3.symm,z7]
    simp [refs]
   ·rcases List.mem_append.mp hx with z | z
    ·have tz:=hn.tu _ (List.mem_filter.mp z).1
     have nz:x.1 ≠ k:=fun e=>by rw [e,h1] at tz; cases tz
     rw [z9 nz,z9 nz]
     exact s4 _ _ tz
    ·have:x = (p1,⟨n,hd,lk,sh,tick + time⟩):=by simpa using z
     subst this
     show upd _ k _ p1 = _
     rw [z9 nk1,z9 nk1,z9 n13,z9 n12,z7]
     rfl
   ·rcases List.mem_append.mp hx with z | z
    ·exact hn.sm _ (List.mem_filter.mp z).1
    ·have:x = (p1,⟨n,hd,lk,sh,tick + time⟩):=by simpa using z
     subst this
     exact ⟨hh,hl⟩
   ·rw [List.length_append]
    show _ + 1 ≤ _
    omega
   ·rw [z9 nb,z9 nb]
    exact s4 _ _ e
def z90 (C:Addr) (b:Bool):Sp:=fun vs H Q _=>∃ (k:Addr) (u:Bool) (t:Int) (L:NL),vs = [.ref k] ∧ KeeperAt C H k u t L ∧ ∀ (H':Hp),KeeperAt C H' k b t L → (∀ dx l,H k = some (.ins C dx (kf u t l)) → H' k = some (.ins C dx (kf b t l))) → But k H H' → Q .non H'
theorem zgo {C:Addr} {H:Hp} {k:Addr} {u b:Bool} {t:Int} {L:NL} {dx l:Addr} (hk:KeeperAt C H k u t L) (h1:H k = some (.ins C dx (kf u t l))) (h2:H l = some (.lst (refs L))):KeeperAt C (upd H k (.ins C dx (kf b t l))) k b t L:=by
 have nl:l ≠ k:=fun z=>by rw [z,h1] at h2; cases h2
 refine ⟨⟨dx,l,z7,by rw [z9 nl]; exact h2⟩,⟨fun x hx=>?_,hk.nt.sm⟩,hk.len⟩
 have tz:=hk.nt.tu _ hx
 have nz:x.1 ≠ k:=fun e=>by rw [e,h1] at tz; cases tz
 rw [z9 nz]
 exact tz
theorem za5 (F:MDef K y6 "fall" "Keeper.fall" z4b ["self"]) (T:Txt K mg y0 yd yc y6 yb ya y8 y7 y9):MHas P w K mg base CX0 1 y6 "fall" ["self"] (z90 y6 false):=by
 refine F.ok z9y (fun vs H Q E h=>?_) (fun f cdv A outer s H vs Q E hr h=>?_)
 ·obtain ⟨k,u,t,L,rfl,_⟩:=h
  rfl
 ·obtain ⟨k,u,t,L,rfl,hk,q⟩:=h
  refine ⟨_,(@za _ _ _ (@z38 _ _ _ _ _ _ _ _ (pv 0) z22 rfl)),?_⟩
  walk_at "rd"
  obtain ⟨⟨dx,l,h1,h2⟩,hn,hlen⟩:=id hk
  refine ⟨_,_,_,h1,T.cl_Keeper,T.n_Keeper_up,by show (3:Nat) < 1000; decide,?_⟩
  rw [zax]
  exact q _ (zgo hk h1 h2) (fun dx' l' e=>by rw [h1] at e; injection e with e; injection e with e1 e2 e3; rw [z7,e2]; have:=congrArg (List.lookup ("kept" : Str)) e3; rw [z35,z35] at this; injection this with this; injection this with this; rw [this]) fun b o e nb=>by rw [z9 nb]; exact e
theorem za6 (F:MDef K y6 "rise" "Keeper.rise" z4c ["self"]) (T:Txt K mg y0 yd yc y6 yb ya y8 y7 y9):MHas P w K mg base CX0 1 y6 "rise" ["self"] (z90 y6 true):=by
 refine F.ok z9z (fun vs H Q E h=>?_) (fun f cdv A outer s H vs Q E hr h=>?_)
 ·obtain ⟨k,u,t,L,rfl,_⟩:=h
  rfl
 ·obtain ⟨k,u,t,L,rfl,hk,q⟩:=h
  refine ⟨_,(@za _ _ _ (@z38 _ _ _ _ _ _ _ _ (pv 0) z22 rfl)),?_⟩
  walk_at "rd"
  obtain ⟨⟨dx,l,h1,h2⟩,hn,hlen⟩:=id hk
  refine ⟨_,_,_,h1,T.cl_Keeper,T.n_Keeper_up,by show (3:Nat) < 1000; decide,?_⟩
  rw [zax]
  exact q _ (zgo hk h1 h2) (fun dx' l' e=>by rw [h1] at e; injection e with e; injection e with e1 e2 e3; rw [z7,e2]; have:=congrArg (List.lookup ("kept" : Str)) e3; rw [z35,z35] at this; injection this with this; injection this with this; rw [this]) fun b o e nb=>by rw [z9 nb]; exact e
def z28 (tick:Int) (N:List Nt):List Nt:=N.filter fun x=>decide (tick < x.e)
def z91 (N:List Nt) (hd lk:Str) (sh:Bool) (tick:Int):Bool:=!((z28 tick N).any fun x=>z1q hd lk sh x)
def z36 (hd lk:Str) (N:List Nt):List Nt:=N.filter fun x=>!(decide (x.h = hd) && decide (x.l = lk))
theorem z53 (tick:Int) (L:NL):(z16 tick L).map (·.2) = z28 tick (L.map (·.2)):=by
 unfold z16 z28
 rw [List.filter_map]
 rfl
theorem z92 (L:NL) (hd lk:Str) (sh:Bool) (tick:Int):z2v L hd lk sh tick = z91 (L.map (·.2)) hd lk sh tick:=by
 unfold z2v z91
 rw [← z53,List.any_map]
 rfl
theorem zgp (hd lk:Str) (L:NL):(z45 hd lk L).map (·.2) = z36 hd lk (L.map (·.2)):=by
 unfold z45 z36
 rw [List.filter_map]
 rfl
structure KN where
 u:Bool
 t:Int
 N:List Nt
theorem KeeperAt.but {C k k2 dx:Addr} {fs:List (Str × V)} {H H':Hp} {u:Bool} {t:Int} {L:NL} (h:KeeperAt C H k2 u t L) (b:But k H H') (hk:H k = some (.ins C dx fs)) (ne:k2 ≠ k):KeeperAt C H' k2 u t L:=by
 obtain ⟨⟨dx2,l,h1,h2⟩,hn,hl⟩:=h
 have nl:l ≠ k:=fun z=>by rw [z,hk] at h2; cases h2
 refine ⟨⟨dx2,l,b _ _ h1 ne,b _ _ h2 nl⟩,⟨fun q hq=>b _ _ (hn.tu q hq) fun z=>?_,hn.sm⟩,hl⟩
 have:=hn.tu q hq
 rw [z,hk] at this
 cases this
theorem n5:¬ (("keepers" : Str) = "most"):=by decide +kernel
def cf (l:Addr) (m:Int):List (Str × V):=[("keepers",.ref l),("most",.int m)]
theorem z64 (l:Addr) (m:Int):(cf l m).lookup ("keepers" : Str) = some (.ref l):=by simp [cf,List.lookup_cons]
theorem zjf (l:Addr) (m:Int):(cf l m).lookup ("most" : Str) = some (.int m):=by
 have e:(("most" : Str) == "keepers") = false:=by decide +kernel
 simp [cf,List.lookup_cons,e]
theorem z2j (l:Addr) (m:Int) {x:Str} (h1:(x == "keepers") = false) (h2:(x == "most") = false):(cf l m).lookup x = none:=by
 simp [cf,List.lookup_cons,h1,h2]
theorem zkr (l:Addr) (m:Int):putF "most" (.int m) (putF "keepers" (.ref l) []) = cf l m:=by simp [putF,cf,n5]
def KAt (C:Addr) (H:Hp) (k l:Addr) (s:KN):Prop:=(∃ dx,H k = some (.ins C dx (kf s.u s.t l))) ∧ ∃ L:NL,L.map (·.2) = s.N ∧ KeeperAt C H k s.u s.t L
theorem KAt.mono {C:Addr} {H H':Hp} {k l:Addr} {s:KN} (h:KAt C H k l s) (e:Same H H'):KAt C H' k l s:=let ⟨⟨dx,z⟩,L,a,b⟩:=h; ⟨⟨dx,e _ _ z⟩,L,a,b.mono e⟩
theorem KAt.ob {C:Addr} {H:Hp} {k l:Addr} {s:KN} (h:KAt C H k l s):∃ dx fs,H k = some (.ins C dx fs):=let ⟨⟨dx,z⟩,_⟩:=h; ⟨dx,_,z⟩
theorem zcg {u u':Bool} {t t':Int} {l l':Addr} (h:kf u t l = kf u' t' l'):l = l':=by
 have:=congrArg (List.lookup ("kept" : Str)) h
 rw [z35,z35] at this
 injection this with this
 injection this
theorem KAt.list {C:Addr} {H:Hp} {k l:Addr} {s:KN} (h:KAt C H k l s):∃ xs,H l = some (.lst xs):=by
 obtain ⟨⟨dx,z⟩,L,-,⟨dx',l',h1,h2⟩,-,-⟩:=h
 rw [z] at h1
 injection h1 with h1
 injection h1 with a b c
 rw [zcg c]
 exact ⟨_,h2⟩
theorem KAt.upd {C:Addr} {H:Hp} {k l p:Addr} {s:KN} {xs:List V} {o:HO} (h:KAt C H k l s) (hp:H p = some (.lst xs)) (hn:l ≠ p):KAt C (upd H p o) k l s:=by
 obtain ⟨⟨dx,z⟩,L,e,⟨dx',l',h1,h2⟩,hn',hl⟩:=h
 have el:l' = l:=by
  rw [z] at h1
  injection h1 with h1
  injection h1 with a b c
  exact (zcg c).symm
 have nk:k ≠ p:=fun q=>by rw [q,hp] at z; cases z
 refine ⟨⟨dx,by rw [z9 nk]; exact z⟩,L,e,⟨dx',l',by rw [z9 nk]; exact h1,by rw [z9 (by rw [el]; exact hn)]; exact h2⟩,⟨fun q hq=>?_,hn'.sm⟩,hl⟩
 have nq:q.1 ≠ p:=fun y=>by have:=hn'.tu q hq; rw [y,hp] at this; cases this
 rw [z9 nq]
 exact hn'.tu q hq
structure CAt (CC CK:Addr) (H:Hp) (c l:Addr) (ks ls:List Addr) (ss:List KN):Prop where
 ob:∃ dx,H c = some (.ins CC dx (cf l ((ks.length:Int) / 2 + 1)))
 li:H l = some (.lst (ks.map V.ref))
 kp:∀ (i:Nat) (k:Addr),ks[i]? = some k → ∃ s l',ss[i]? = some s ∧ ls[i]? = some l' ∧ KAt CK H k l' s
 nd:ks.Nodup
 ln:ss.length = ks.length
 l2:ls.length = ks.length
 sz:ks.length ≤ 100
theorem CAt.mono {CC CK:Addr} {H H':Hp} {c l:Addr} {ks ls:List Addr} {ss:List KN} (h:CAt CC CK H c l ks ls ss) (s:Same H H'):CAt CC CK H' c l ks ls ss:=by
 obtain ⟨⟨dx,h1⟩,h2,h3,h4,h5,h6,h7⟩:=h
 exact ⟨⟨dx,s _ _ h1⟩,s _ _ h2,fun i k e=>(let ⟨u,l',e1,e2,e3⟩:=h3 i k e; ⟨u,l',e1,e2,e3.mono s⟩),h4,h5,h6,h7⟩
theorem CAt.upd {CC CK:Addr} {H:Hp} {c l p:Addr} {ks ls:List Addr} {ss:List KN} {xs:List V} {o:HO} (h:CAt CC CK H c l ks ls ss) (hp:H p = some (.lst xs)) (n1:l ≠ p) (n2:p ∉ ls):CAt CC CK (upd H p o) c l ks ls ss:=by
 obtain ⟨⟨dx,h1⟩,h2,h3,h4,h5,h6,h7⟩:=h
 refine ⟨⟨dx,by rw [z9 (fun q=>by rw [q,hp] at h1; cases h1)]; exact h1⟩,by rw [z9 n1]; exact h2,fun i k e=>?_,h4,h5,h6,h7⟩
 obtain ⟨u,l',e1,e2,e3⟩:=h3 i k e
 exact ⟨u,l',e1,e2,e3.upd hp fun q=>n2 (q ▸ List.mem_of_getElem? e2)⟩
def LsOk (H:Hp) (ls ls':List Addr):Prop:=∀ x ∈ ls',x ∈ ls ∨ H x = none
theorem LsOk.refl (H:Hp) (ls:List Addr):LsOk H ls ls:=fun x hx=>.inl hx
def ButK (ks:List Addr) (H H':Hp):Prop:=∀ b o,H b = some o → b ∉ ks → H' b = some o
theorem ButK.of {ks:List Addr} {H H':Hp} (s:Same H H'):ButK ks H H':=fun b o e _=>s b o e
theorem ButK.trans {ks:List Addr} {H H1 H2:Hp} (a:ButK ks H H1) (b:ButK ks H1 H2):ButK ks H H2:=fun c o e n=>b c o (a c o e n) n
theorem ButK.but {ks:List Addr} {H H':Hp} {k:Addr} (b:But k H H') (h:k ∈ ks):ButK ks H H':=fun c o e n=>b c o e fun z=>n (z ▸ h)
theorem CAt.mem {CC CK:Addr} {H:Hp} {c l:Addr} {ks ls:List Addr} {ss:List KN} (h:CAt CC CK H c l ks ls ss) {k:Addr} (hk:k ∈ ks):∃ dx fs,H k = some (.ins CK dx fs):=by
 obtain ⟨j,hj,e⟩:=List.getElem_of_mem hk
 obtain ⟨s,l',-,-,hs⟩:=h.kp j k (by rw [List.getElem?_eq_getElem hj,e])
 exact hs.ob
theorem CAt.lsome {CC CK:Addr} {H:Hp} {c l:Addr} {ks ls:List Addr} {ss:List KN} (h:CAt CC CK H c l ks ls ss) {x:Addr} (hx:x ∈ ls):∃ xs,H x = some (.lst xs):=by
 obtain ⟨j,hj,e⟩:=List.getElem_of_mem hx
 obtain ⟨s,l',-,e2,hs⟩:=h.kp j _ (List.getElem?_eq_getElem (by rw [← h.l2]; exact hj))
 rw [List.getElem?_eq_getElem hj] at e2
 injection e2 with e2
 rw [← e,e2]
 exact hs.list
theorem z65 {α:Type} {xs:List α} {i:Nat} {x:α} (h:xs[i]? = some x):xs.set i x = xs:=by
 apply List.ext_getElem?
 intro j
 by_cases hj:j = i
 ·subst hj
  rw [List.getElem?_set_self (List.getElem?_eq_some_iff.mp h).1,h]
 ·rw [List.getElem?_set_ne (Ne.symm hj)]
theorem CAt.set {CC CK:Addr} {H H':Hp} {c l k l1:Addr} {ks ls:List Addr} {ss:List KN} {j:Nat} {s:KN} (h:CAt CC CK H c l ks ls ss) (hj:ks[j]? = some k) (hk:KAt CK H' k l1 s) (hb:But k H H'):CAt CC CK H' c l ks (ls.set j l1) (ss.set j s):=by
 obtain ⟨s0,l0,hu,hl0,hku⟩:=h.kp j k hj
 obtain ⟨dxk,fk,h1⟩:=hku.ob
 obtain ⟨dx,hob⟩:=h.ob
 have hjl:j < ks.length:=(List.getElem?_eq_some_iff.mp hj).1
 refine ⟨⟨dx,hb _ _ hob fun z=>?_⟩,hb _ _ h.li fun z=>?_,fun i k2 e=>?_,h.nd,by rw [List.length_set]; exact h.ln,by rw [List.length_set]; exact h.l2,h.sz⟩
 ·rw [z,h1] at hob
  injection hob with hob
  injection hob with a1 a2 a3
  subst a1
  obtain ⟨⟨dy,g1⟩,-⟩:=hku
  rw [h1] at g1
  injection g1 with g1
  injection g1 with b1 b2 b3
  rw [b3] at a3
  have:=congrArg (List.lookup ("up" : Str)) a3
  rw [z7e,z2j _ _ (by decide +kernel) (by decide +kernel)] at this
  cases this
 ·have:=h.li
  rw [z,h1] at this
  cases this
 ·by_cases hij:i = j
  ·subst hij
   rw [hj] at e
   cases e
   exact ⟨s,l1,by rw [List.getElem?_set_self (by rw [h.ln]; exact hjl)],by rw [List.getElem?_set_self (by rw [h.l2]; exact hjl)],hk⟩
  ·obtain ⟨u2,l2',e2,e2',⟨dx2,z2⟩,L2,e3,hk2⟩:=h.kp i k2 e
   have nk2:k2 ≠ k:=fun z=>hij ?_
   ·exact ⟨u2,l2',by rw [List.getElem?_set_ne (Ne.symm hij)]; exact e2,by rw [List.getElem?_set_ne (Ne.symm hij)]; exact e2',⟨dx2,hb _ _ z2 nk2⟩,L2,e3,hk2.but hb h1 nk2⟩
   have hil:i < ks.length:=(List.getElem?_eq_some_iff.mp e).1
   have ei:ks[i] = k:=by rw [← z]; exact (List.getElem?_eq_some_iff.mp e).2
   have ej:ks[j] = k:=(List.getElem?_eq_some_iff.mp hj).2
   rcases Nat.lt_trichotomy i j with y | y | y
   ·exact absurd (ei.trans ej.symm) (List.pairwise_iff_getElem.mp h.nd i j hil hjl y)
   ·exact y
   ·exact absurd (ej.trans ei.symm) (List.pairwise_iff_getElem.mp h.nd j i hjl hil y)
def z3r (n:Nat):List KN:=List.replicate n ⟨true,0,[]⟩
def zdr (CC CK:Addr):Sp:=fun vs H Q _=>∃ (c dx:Addr) (n:Nat),vs = [.ref c,.int n] ∧ n ≤ 100 ∧ H c = some (.ins CC dx []) ∧ ∀ (l:Addr) (ks ls:List Addr) (H':Hp),ks.length = n → CAt CC CK H' c l ks ls (z3r n) → (∀ b o,H b = some o → b ≠ c → H' b = some o) → (∀ k ∈ ks,H k = none) → (∀ x ∈ ls,H x = none) → H l = none → Q .non H'
theorem z6h (F:KDef K y0 "Council.__init__" z32 ["self","many"]) (T:Txt K mg y0 yd yc y6 yb ya y8 y7 y9) (yu:KHas P w K mg base 1 y6 ["self"] (zgl y6)):KHas P w K mg base 3 y0 ["self","many"] (zdr y0 y6):=by
 refine F.ok z6f (fun vs H Q E h=>?_) (fun f cdv A outer s H vs Q E hr h=>?_)
 ·obtain ⟨c,dx,n,rfl,_⟩:=h
  rfl
 ·obtain ⟨c,dx,n,rfl,hn,hc,q⟩:=h
  refine ⟨_,(@z8 _ _ _ _ _ (@z38 _ _ _ _ _ _ _ _ (pv 0) (@z1x _ _ "place" ([]) ([]) _ _ _ _ _ _ _ _ rfl ⟨rfl,by decide +kernel,by decide +kernel,rfl,zu rfl,by decide +kernel,trivial⟩ (@z2q _ _ _ _ _ _ rfl T.b_range (@z0 _ _ _ _ _ (pv 1) z6 rfl) rfl) (fun _ _ _ _=>z3f) (fun _ _ _ _=>(@zj7 _ _ _ _ _ _ _ _ yu (hr.mono (by decide)) rfl T.g_Keeper (by decide))) (by intro _; rfl)) rfl) (@za _ _ _ (@z38 _ _ _ _ _ _ _ _ (pv 0) (@zf _ _ _ _ _ _ _ _ z14 (@zf _ _ _ _ _ _ _ _ z19 (@zg _ _ _ _ _ _ _ _ _ zq rfl T.b_len (by decide +kernel) (@z0 _ _ _ _ _ (@z2b _ _ _ _ _ (pv 0) rfl) z6 rfl) (by decide) (by decide) rfl rfl) z4) z4) rfl))),?_⟩
  walk_at "rd"
  refine ⟨⟨by omega,by omega⟩,?_⟩
  rw [Int.toNat_natCast]
  refine z30 (zd (by omega)) (fun i acc H'=>∃ ks:List Addr,acc = ks.map V.ref ∧ ks.length = i ∧ ks.Nodup ∧ (∀ k ∈ ks,H k = none ∧ ∃ l1,H l1 = none ∧ KAt y6 H' k l1 ⟨true,0,[]⟩) ∧ Same H H') ⟨[],rfl,rfl,List.nodup_nil,fun k hk=>(by cases hk),Same.refl _⟩ ?_ ?_ ?_
  ·rintro i acc H' ⟨ks,rfl,rfl,-⟩
   rw [List.length_map]
   exact Nat.le_refl _
  ·rintro Nn i acc H' hN hi ⟨ks,rfl,hl,hnd,hks,sH⟩
   walk_at "rd"
   intro x d hx hd hne
   refine ⟨x,d,rfl,z7,fun H3 hk3 hz3 hb3=>⟨rfl,hN _ _ ⟨ks ++ [x],by simp,by simp [hl],?_,?_,?_⟩⟩⟩
   ·rw [List.nodup_append]
    refine ⟨hnd,by simp,fun a ha b hb=>?_⟩
    have:b = x:=by simpa using hb
    rw [this]
    rintro rfl
    obtain ⟨-,l1,-,⟨_,e⟩,-⟩:=hks a ha
    rw [e] at hx
    cases hx
   ·have s3:Same H' H3:=fun b o e=>by
     have n1:b ≠ x:=zc e hx
     have n2:b ≠ d:=zc e hd
     exact hb3 b o (by rw [z9 n1,z9 n2]; exact e) n1
    intro k hk
    rcases List.mem_append.mp hk with z | z
    ·obtain ⟨a1,l1,a2,a3⟩:=hks k z
     exact ⟨a1,l1,a2,a3.mono s3⟩
    ·have:k = x:=by simpa using z
     subst this
     obtain ⟨dx3,l3,z3,n3⟩:=hz3
     have n3':H' l3 = none:=by
      cases e:H' l3 with
      | none=>rfl
      | some o =>
       have na:l3 ≠ k:=zc e hx
       have nb:l3 ≠ d:=zc e hd
       rw [z9 na,z9 nb,e] at n3
       cases n3
     exact ⟨zv sH hx,l3,zv sH n3',⟨dx3,z3⟩,[],rfl,hk3⟩
   ·intro b o e
    have e1:=sH _ _ e
    have n1:b ≠ x:=zc e1 hx
    have n2:b ≠ d:=zc e1 hd
    exact hb3 b o (by rw [z9 n1,z9 n2]; exact e1) n1
  ·rintro acc H' ⟨ks,rfl,hl,hnd,hks,sH⟩ p hp
   have s2:=sH.trans (Same.upd (o:=.lst (ks.map V.ref)) hp)
   have gp:(upd H' p (.lst (ks.map V.ref))) p = some (.lst (ks.map V.ref)):=z7
   have hks2:∀ k ∈ ks,H k = none ∧ ∃ l1,H l1 = none ∧ KAt y6 (upd H' p (.lst (ks.map V.ref))) k l1 ⟨true,0,[]⟩:=fun k hk=>let ⟨a1,l1,a2,a3⟩:=hks k hk; ⟨a1,l1,a2,a3.mono (Same.upd hp)⟩
   have hp0:H p = none:=zv sH hp
   generalize upd H' p (.lst (ks.map V.ref)) = H2 at s2 gp hks2 ⊢
   have nkc:∀ k ∈ ks,k ≠ c:=fun k hk z=>by have:=(hks2 k hk).1; rw [z,hc] at this; cases this
   have gc2:=s2 _ _ hc
   have ncp:c ≠ p:=fun z=>by rw [z,gp] at gc2; cases gc2
   refine ⟨_,_,_,gc2,T.cl_Council,T.n_Council_keepers,by decide,?_⟩
   have kk:(putF (Str.ofString "keepers") (V.ref p) []).lookup (Str.ofString "keepers") = some (V.ref p):=by simp [putF,List.lookup_cons]
   have gp1:(upd H2 c (HO.ins y0 dx (putF (Str.ofString "keepers") (V.ref p) []))) p = some (.lst (ks.map V.ref)):=by rw [z9 ncp.symm]; exact gp
   refine ⟨_,_,_,z7,T.cl_Council,T.n_Council_keepers,_,kk,p,rfl,_,.inl (SqL.of gp1),cdiv (by decide) (by decide),_,_,_,z7,T.cl_Council,T.n_Council_most,by simp [putF],?_⟩
   rw [zkr,List.length_map]
   have but2:∀ b o,H2 b = some o → b ≠ c → (upd (upd H2 c (HO.ins y0 dx (putF (Str.ofString "keepers") (V.ref p) []))) c (HO.ins y0 dx (cf p ((ks.length:Int) / 2 + 1)))) b = some o:=fun b o e nb=>by
    rw [z9 nb,z9 nb]
    exact e
   obtain ⟨lf,hlf⟩:∃ lf:Addr → Addr,∀ k ∈ ks,H (lf k) = none ∧ KAt y6 H2 k (lf k) ⟨true,0,[]⟩:=by
    refine ⟨fun k=>if h:k ∈ ks then Classical.choose (hks2 k h).2 else k,fun k hk=>?_⟩
    simp only [hk,dite_true]
    exact Classical.choose_spec (hks2 k hk).2
   refine q p ks (ks.map lf) _ hl ⟨⟨dx,z7⟩,but2 _ _ gp ncp.symm,fun i k e=>⟨⟨true,0,[]⟩,lf k,?_,by rw [List.getElem?_map,e]; rfl,?_⟩,hnd,by unfold z3r; rw [List.length_replicate,hl],List.length_map _,by omega⟩ (fun b o e nb=>but2 b o (s2 _ _ e) nb) (fun k hk=>(hks2 k hk).1) (fun x hx=>?_) hp0
   ·have:=(List.getElem?_eq_some_iff.mp e).1
    unfold z3r
    rw [List.getElem?_replicate,if_pos (by omega)]
   ·obtain ⟨⟨dz,z⟩,L,eL,⟨dk,lk,a1,a2⟩,a3,a4⟩:=(hlf k (List.mem_of_getElem? e)).2
    have nk:=nkc k (List.mem_of_getElem? e)
    have eL0:L = []:=List.map_eq_nil_iff.mp eL
    subst eL0
    exact ⟨⟨dz,but2 _ _ z nk⟩,[],rfl,⟨dk,lk,but2 _ _ a1 nk,but2 _ _ a2 fun z=>by rw [z,gc2] at a2; cases a2⟩,⟨fun y hy=>(by cases hy),fun y hy=>(by cases hy)⟩,a4⟩
   ·obtain ⟨k,hk,rfl⟩:=List.mem_map.mp hx
    exact (hlf k hk).1
def z93 (CC CK CU:Addr):Sp:=fun vs H Q E=>∃ (c l:Addr) (ks ls:List Addr) (ss:List KN) (p:Int),vs = [.ref c,.int p] ∧ CAt CC CK H c l ks ls ss ∧ (¬ (1 ≤ p ∧ p ≤ (ks.length:Int)) → E (.ref CU) none H) ∧ (∀ (j:Nat) (k:Addr),p = (j:Int) + 1 → ks[j]? = some k → Q (.ref k) H)
theorem z66 (F:MDef K y0 "keeper_at" "Council.keeper_at" z2y ["self","place"]) (T:Txt K mg y0 yd yc y6 yb ya y8 y7 y9):MHas P w K mg base (CX1 P w) 1 y0 "keeper_at" ["self","place"] (z93 y0 y6 y8):=by
 refine F.okx z63 (fun vs H Q E h=>?_) (fun f cdv A outer s H vs Q E hr h=>?_)
 ·obtain ⟨c,l,ks,ls,us,p,rfl,_⟩:=h
  rfl
 ·obtain ⟨c,l,ks,ls,us,p,rfl,hc,e1,q⟩:=h
  refine ⟨_,(@z8 _ _ _ _ _ (@zy _ _ _ _ _ _ _ _ (@z3i _ _ _ _ (@zhd _ _ _ _ _ _ _ _ _ _ _ _ ze3 ze3 z4 (pv 1) (@zg _ _ _ _ _ _ _ _ _ zq rfl T.b_len (by decide +kernel) (@z0 _ _ _ _ _ (@z2b _ _ _ _ _ (pv 0) rfl) z6 rfl) (by decide) (by decide) rfl rfl) (by with_unfolding_all rfl))) (@za _ _ _ (@z4s _ _ _ _ _ _ _ _ _ _ _ _ _ _ z48 rfl PySem.F.excBase_ValueError T.x_UnknownKeeper rfl T.g_UnknownKeeper (@z0 _ _ _ _ _ zj z6 rfl) rfl rfl (by decide))) zo) (@za _ _ _ (@zl _ _ _ _ (@zh _ _ _ _ _ _ _ ix_list (@z2b _ _ _ _ _ (pv 0) rfl) (@zf _ _ _ _ _ _ _ _ z2u (pv 1) z4) (fun _ _=>rfl))))),?_⟩
  walk_at "rd"
  obtain ⟨dx,hob⟩:=hc.ob
  by_cases h1:1 ≤ p
  ·rw [if_pos (by simpa using h1)]
   refine ⟨_,_,_,hob,T.cl_Council,T.n_Council_keepers,_,z64 _ _,l,rfl,_,.inl (SqL.of hc.li),?_⟩
   rw [List.length_map]
   by_cases h2:p ≤ (ks.length:Int)
   ·rw [if_neg (by simpa using h2)]
    obtain ⟨j,ej⟩:=Int.eq_ofNat_of_zero_le (show 0 ≤ p - 1 by omega)
    have hj:j < ks.length:=by omega
    refine ⟨_,_,_,hob,T.cl_Council,T.n_Council_keepers,_,z64 _ _,l,_,_,_,rfl,rfl,SqL.of hc.li,by rw [ej]; exact zb (v:=V.ref ks[j]) (by rw [List.getElem?_map,List.getElem?_eq_getElem hj]; rfl),q j _ (by omega) (List.getElem?_eq_getElem hj)⟩
   ·rw [if_pos (by simpa using h2)]
    exact ⟨zd (by decide),e1 fun z=>h2 z.2⟩
  ·rw [if_neg (by simpa using h1),if_pos (by decide)]
   exact ⟨zd (by decide),e1 fun z=>h1 z.1⟩
def ptup (L:List (Addr × Nat × Addr)):List V:=L.map fun q=>V.ref q.1
theorem z42 (L:List (Addr × Nat × Addr)):(ptup L).length = L.length:=List.length_map _
theorem z67 {L:List (Addr × Nat × Addr)} {i:Nat} {x:V} (hx:(ptup L)[i]? = some x):∃ y,L[i]? = some y ∧ x = V.ref y.1:=by
 unfold ptup at hx
 rw [List.getElem?_map] at hx
 cases e:L[i]? with
 | none=>rw [e] at hx; cases hx
 | some y=>rw [e] at hx; exact ⟨y,rfl,(Option.some.inj hx).symm⟩
def upAt (ss:List KN) (j:Nat):Bool:=match ss[j]? with | some s=>s.u | none=>false
def upl (ss:List KN) (n:Nat):List Nat:=(List.range n).filter (upAt ss)
theorem z5s (ss:List KN) (n:Nat):(upl ss n).length ≤ n:=Nat.le_trans (List.length_filter_le _ _) (by rw [List.length_range]; exact Nat.le_refl _)
theorem z2n {ss:List KN} {n j:Nat} (h:j ∈ upl ss n):j < n ∧ upAt ss j = true:=⟨List.mem_range.mp (List.mem_filter.mp h).1,(List.mem_filter.mp h).2⟩
theorem z54 (ss:List KN) (n:Nat):(upl ss n).Nodup:=List.Nodup.sublist List.filter_sublist List.nodup_range
structure Pairs (H:Hp) (ks:List Addr) (ss:List KN) (L:List (Addr × Nat × Addr)):Prop where
 mp:L.map (·.2.1) = upl ss ks.length
 tu:∀ q ∈ L,H q.1 = some (.tup [.int ((q.2.1:Int) + 1),.ref q.2.2])
 at_:∀ q ∈ L,ks[q.2.1]? = some q.2.2
theorem Pairs.mono {H H':Hp} {ks:List Addr} {ss:List KN} {L:List (Addr × Nat × Addr)} (h:Pairs H ks ss L) (s:Same H H'):Pairs H' ks ss L:=⟨h.mp,fun q hq=>s _ _ (h.tu q hq),h.at_⟩
theorem Pairs.len {H:Hp} {ks:List Addr} {ss:List KN} {L:List (Addr × Nat × Addr)} (h:Pairs H ks ss L):L.length ≤ ks.length:=by
 have:=congrArg List.length h.mp
 rw [List.length_map] at this
 rw [this]
 exact z5s _ _
theorem Pairs.take {H:Hp} {ks:List Addr} {ss:List KN} {L:List (Addr × Nat × Addr)} (h:Pairs H ks ss L) (i:Nat):(L.take i).map (·.2.1) = (upl ss ks.length).take i:=by rw [List.map_take,h.mp]
def z94 (CC CK:Addr):Sp:=fun vs H Q _=>∃ (c l:Addr) (ks ls:List Addr) (ss:List KN),vs = [.ref c] ∧ CAt CC CK H c l ks ls ss ∧ ∀ (r:Addr) (L:List (Addr × Nat × Addr)) (H':Hp),Pairs H' ks ss L → H r = none → H' r = some (.lst (ptup L)) → Same H H' → Q (.ref r) H'
theorem z5t (F:MDef K y0 "up_keepers" "Council.up_keepers" z2t ["self"]) (T:Txt K mg y0 yd yc y6 yb ya y8 y7 y9):MHas P w K mg base CX0 1 y0 "up_keepers" ["self"] (z94 y0 y6):=by
 refine F.ok z5r (fun vs H Q E h=>?_) (fun f cdv A outer s H vs Q E hr h=>?_)
 ·obtain ⟨c,l,ks,ls,us,rfl,_⟩:=h
  rfl
 ·obtain ⟨c,l,ks,ls,us,rfl,hc,q⟩:=h
  refine ⟨_,(@za _ _ _ (@zl _ _ _ _ (@z82 _ _ "place" "keeper" ([]) ([]) _ _ _ _ _ _ _ _ _ rfl ⟨rfl,by decide +kernel,by decide +kernel,rfl,rfl,zu rfl,by decide +kernel,trivial⟩ (fun _ _ _ _=>z6s (K:=K) rfl (z1r (z15 (i:=0) (show List.Nodup [("place" : Str),("keeper" : Str)] from by decide +kernel) rfl (Or.inl rfl)) (z1r (z15 (i:=1) (show List.Nodup [("place" : Str),("keeper" : Str)] from by decide +kernel) rfl (Or.inl rfl)) z4m))) (@zhq _ _ _ _ _ _ _ _ _ _ _ rfl T.b_enumerate (@z0 _ _ _ _ _ (@z2b _ _ _ _ _ (pv 0) rfl) z6 rfl) (@zj1 _ _ _ _ _ _ _ z4 zjw) rfl rfl) (fun _ _ _ _=>(@z2k _ _ _ (@z1k _ _ _ (@zbx _ K _ _ _ _ (pv 1) rfl rfl) (by intro _; rfl)))) (fun _ _ _ _=>(@z1l _ _ _ _ _ (@z0 _ _ _ _ _ (pv 0) (@z0 _ _ _ _ _ (pv 1) z6 rfl) rfl))) (by intro _; rfl)))),?_⟩
  walk_at "rd"
  obtain ⟨dx,hob⟩:=hc.ob
  have hsz:=hc.sz
  refine ⟨_,_,_,hob,T.cl_Council,T.n_Council_keepers,_,z64 _ _,l,rfl,_,SqL.of hc.li,?_⟩
  refine zc1 (xs:=ks.map V.ref) (by rw [List.length_map]; exact zd (by omega)) (fun i acc H'=>∃ L:List (Addr × Nat × Addr),acc = ptup L ∧ L.map (·.2.1) = upl us i ∧ (∀ q ∈ L,H' q.1 = some (.tup [.int ((q.2.1:Int) + 1),.ref q.2.2]) ∧ ks[q.2.1]? = some q.2.2) ∧ L.length ≤ i ∧ Same H H') ⟨[],rfl,rfl,fun q hq=>(by cases hq),Nat.le_refl _,Same.refl _⟩ ?_ ?_ ?_ ?_
  ·rintro i acc H' ⟨L,rfl,-,-,hl,-⟩
   unfold ptup
   rw [List.length_map]
   exact hl
  ·rintro i acc H' ⟨L,rfl,-,-,-,sH⟩
   exact SqL.of (sH _ _ hc.li)
  ·rintro Nn i acc H' x Ta hN hx hi ⟨L,rfl,hm,hT,hl,sH⟩ hTa
   obtain ⟨k,hk,rfl⟩:∃ k,ks[i]? = some k ∧ x = V.ref k:=by
    rw [List.getElem?_map] at hx
    cases e:ks[i]? with
    | none=>rw [e] at hx; cases hx
    | some k=>rw [e] at hx; exact ⟨k,rfl,(Option.some.inj hx).symm⟩
   obtain ⟨s,l1,hu,hl1,-,Ls,-,hku⟩:=hc.kp i k hk
   have sT:=Same.upd (o:=.tup [V.int ((i:Int) + 1),V.ref k]) hTa
   obtain ⟨⟨dk,lk,a1,a2⟩,-,-⟩:=id (hku.mono (sH.trans sT))
   have eu:upAt us i = s.u:=by unfold upAt; rw [hu]
   have step:upl us (i + 1) = upl us i ++ (if s.u = true then [i] else []):=by
    unfold upl
    rw [List.range_succ,List.filter_append]
    congr 1
    rw [List.filter_cons,eu]
    cases s.u <;> rfl
   have hT2:∀ q ∈ L,(upd H' Ta (.tup [V.int ((i:Int) + 1),V.ref k])) q.1 = some (.tup [.int ((q.2.1:Int) + 1),.ref q.2.2]) ∧ ks[q.2.1]? = some q.2.2:=fun q hq=>⟨sT _ _ (hT q hq).1,(hT q hq).2⟩
   refine ⟨Ta,_,rfl,SqT.of z7,rfl,?_⟩
   walk_at "rd"
   refine ⟨_,_,⟨rfl,rfl⟩,_,_,rfl,rfl,⟨_,rfl⟩,k,rfl,_,_,_,a1,T.cl_Keeper,T.n_Keeper_up,_,z7e s.u s.t lk,s.u,rfl,?_⟩
   cases hsu:s.u with
   | false =>
    rw [hsu] at step
    rw [if_neg Bool.false_ne_true]
    exact hN _ _ ⟨L,rfl,by rw [step,hm]; simp,hT2,by omega,sH.trans sT⟩
   | true =>
    rw [hsu] at step
    rw [if_pos rfl]
    refine ⟨zd (by decide),fun pt hpt=>hN _ _ ⟨L ++ [(pt,i,k)],by simp [ptup],by rw [step,List.map_append,hm]; rfl,fun y hy=>?_,by rw [List.length_append]; show L.length + 1 ≤ _; omega,(sH.trans sT).trans (Same.upd hpt)⟩⟩
    rcases List.mem_append.mp hy with z | z
    ·exact ⟨(Same.upd hpt) _ _ (hT2 y z).1,(hT2 y z).2⟩
    ·have:y = (pt,i,k):=by simpa using z
     subst this
     exact ⟨z7,hk⟩
  ·rintro acc H' ⟨L,rfl,hm,hT,hl,sH⟩ p hp
   rw [List.length_map] at hm
   exact q p L _ ⟨hm,fun y hy=>(Same.upd hp) _ _ (hT y hy).1,fun y hy=>(hT y hy).2⟩ (zv sH hp) z7 (sH.trans (Same.upd hp))
def spFR (CC CK CU:Addr) (b:Bool):Sp:=fun vs H Q E=>∃ (c l:Addr) (ks ls:List Addr) (ss:List KN) (p:Int),vs = [.ref c,.int p] ∧ CAt CC CK H c l ks ls ss ∧ (¬ (1 ≤ p ∧ p ≤ (ks.length:Int)) → E (.ref CU) none H) ∧
 (∀ (j:Nat) (k:Addr) (s:KN) (H':Hp),p = (j:Int) + 1 → ks[j]? = some k → ss[j]? = some s → CAt CC CK H' c l ks ls (ss.set j ⟨b,s.t,s.N⟩) → But k H H' → Q (.bl (if b then !s.u else s.u)) H')
theorem z95 (F:MDef K y0 "fall" "Council.fall" z3x ["self","keeper"]) (T:Txt K mg y0 yd yc y6 yb ya y8 y7 y9) (y16:MHas P w K mg base CX0 1 y6 "fall" ["self"] (z90 y6 false)) (yf:MHas P w K mg base (CX1 P w) 1 y0 "keeper_at" ["self","place"] (z93 y0 y6 y8)):MHas P w K mg base (CX1 P w) 2 y0 "fall" ["self","keeper"] (spFR y0 y6 y8 false):=by
 refine F.okx sc_Council_fall (fun vs H Q E h=>?_) (fun f cdv A outer s H vs Q E hr h=>?_)
 ·obtain ⟨c,l,ks,ls,us,p,rfl,_⟩:=h
  rfl
 ·obtain ⟨c,l,ks,ls,us,p,rfl,hc,e1,q⟩:=h
  refine ⟨_,(@z8 _ _ _ _ _ (@zi _ _ 2 _ _ _ _ sc_Council_fall.nd rfl (Or.inl rfl) (@z9q _ _ _ _ _ _ _ _ _ _ _ _ _ _ _ z6n yf T.cl_Council (hr.mono (by decide)) (pv 0) (@z0 _ _ _ _ _ (pv 1) z6 rfl) rfl rfl rfl) rfl (Or.inr rfl)) (@z8 _ _ _ _ _ (@zi _ _ 3 _ _ _ _ sc_Council_fall.nd rfl (Or.inl rfl) (@z2b _ _ _ _ _ (pv 2) rfl) rfl (Or.inr rfl)) (@z8 _ _ _ _ _ (@z1w _ _ _ _ (@z4n _ _ _ _ _ _ _ _ _ _ _ y16 T.cl_Keeper (hr.mono (by decide)) (pv 2) rfl) rfl) (@za _ _ _ (@zl _ _ _ _ (pv 3)))))),?_⟩
  walk_at "rd"
  obtain ⟨dx,hob⟩:=hc.ob
  refine ⟨_,_,hob,z2j _ _ (by decide +kernel) (by decide +kernel),c,l,ks,ls,us,p,rfl,hc,e1,fun j k ej hj=>?_⟩
  obtain ⟨s,l1,hu,hl1,⟨dk1,z1⟩,Ls,eL,hk⟩:=hc.kp j k hj
  obtain ⟨⟨dk,lk,a1,a2⟩,-,-⟩:=id hk
  refine ⟨k,rfl,_,_,_,a1,T.cl_Keeper,T.n_Keeper_up,_,z7e s.u s.t lk,k,rfl,_,_,a1,z3q s.u s.t lk (by decide +kernel) (by decide +kernel) (by decide +kernel),k,s.u,s.t,Ls,rfl,hk,fun H1 hk1 hz1 hb1=>?_⟩
  have hset:=hc.set hj (s:=⟨false,s.t,s.N⟩) ⟨⟨dk1,hz1 _ _ z1⟩,Ls,eL,hk1⟩ hb1
  rw [z65 hl1] at hset
  have:=q j k s H1 ej hj hu hset hb1
  simpa using this
theorem z96 (F:MDef K y0 "rise" "Council.rise" z3y ["self","keeper"]) (T:Txt K mg y0 yd yc y6 yb ya y8 y7 y9) (y14:MHas P w K mg base CX0 1 y6 "rise" ["self"] (z90 y6 true)) (yf:MHas P w K mg base (CX1 P w) 1 y0 "keeper_at" ["self","place"] (z93 y0 y6 y8)):MHas P w K mg base (CX1 P w) 2 y0 "rise" ["self","keeper"] (spFR y0 y6 y8 true):=by
 refine F.okx sc_Council_rise (fun vs H Q E h=>?_) (fun f cdv A outer s H vs Q E hr h=>?_)
 ·obtain ⟨c,l,ks,ls,us,p,rfl,_⟩:=h
  rfl
 ·obtain ⟨c,l,ks,ls,us,p,rfl,hc,e1,q⟩:=h
  refine ⟨_,(@z8 _ _ _ _ _ (@zi _ _ 2 _ _ _ _ sc_Council_rise.nd rfl (Or.inl rfl) (@z9q _ _ _ _ _ _ _ _ _ _ _ _ _ _ _ z6n yf T.cl_Council (hr.mono (by decide)) (pv 0) (@z0 _ _ _ _ _ (pv 1) z6 rfl) rfl rfl rfl) rfl (Or.inr rfl)) (@z8 _ _ _ _ _ (@zi _ _ 3 _ _ _ _ sc_Council_rise.nd rfl (Or.inl rfl) (@z2b _ _ _ _ _ (pv 2) rfl) rfl (Or.inr rfl)) (@z8 _ _ _ _ _ (@z1w _ _ _ _ (@z4n _ _ _ _ _ _ _ _ _ _ _ y14 T.cl_Keeper (hr.mono (by decide)) (pv 2) rfl) rfl) (@za _ _ _ (@zl _ _ _ _ (@zbn _ _ _ _ (pv 3))))))),?_⟩
  walk_at "rd"
  obtain ⟨dx,hob⟩:=hc.ob
  refine ⟨_,_,hob,z2j _ _ (by decide +kernel) (by decide +kernel),c,l,ks,ls,us,p,rfl,hc,e1,fun j k ej hj=>?_⟩
  obtain ⟨s,l1,hu,hl1,⟨dk1,z1⟩,Ls,eL,hk⟩:=hc.kp j k hj
  obtain ⟨⟨dk,lk,a1,a2⟩,-,-⟩:=id hk
  refine ⟨k,rfl,_,_,_,a1,T.cl_Keeper,T.n_Keeper_up,_,z7e s.u s.t lk,k,rfl,_,_,a1,z3q s.u s.t lk (by decide +kernel) (by decide +kernel) (by decide +kernel),k,s.u,s.t,Ls,rfl,hk,fun H1 hk1 hz1 hb1=>?_⟩
  have hset:=hc.set hj (s:=⟨true,s.t,s.N⟩) ⟨⟨dk1,hz1 _ _ z1⟩,Ls,eL,hk1⟩ hb1
  rw [z65 hl1] at hset
  have:=q j k s H1 ej hj hu hset hb1
  simpa using this
def zjg (CC CK CU:Addr):Sp:=fun vs H Q E=>∃ (c l:Addr) (ks ls:List Addr) (ss:List KN) (p tick:Int),vs = [.ref c,.int p,.int tick] ∧ CAt CC CK H c l ks ls ss ∧ (¬ (1 ≤ p ∧ p ≤ (ks.length:Int)) → E (.ref CU) none H) ∧
 (∀ (j:Nat) (s:KN),p = (j:Int) + 1 → ss[j]? = some s → ∀ (r:Addr) (L:NL) (H':Hp),H r = none → H' r = some (.lst (refs L)) → NotesAt H' L → L.map (·.2) = z28 tick s.N → Same H H' → Q (.ref r) H')
theorem z89 (F:MDef K y0 "notes" "Council.notes" z3p ["self","keeper","tick"]) (T:Txt K mg y0 yd yc y6 yb ya y8 y7 y9) (yi:MHas P w K mg base CX0 1 y6 "live" ["self","tick"] (z8z y6)) (yf:MHas P w K mg base (CX1 P w) 1 y0 "keeper_at" ["self","place"] (z93 y0 y6 y8)):MHas P w K mg base (CX1 P w) 2 y0 "notes" ["self","keeper","tick"] (zjg y0 y6 y8):=by
 refine F.okx z87 (fun vs H Q E h=>?_) (fun f cdv A outer s H vs Q E hr h=>?_)
 ·obtain ⟨c,l,ks,ls,us,p,tick,rfl,_⟩:=h
  rfl
 ·obtain ⟨c,l,ks,ls,us,p,tick,rfl,hc,e1,q⟩:=h
  refine ⟨_,(@za _ _ _ (@zl _ _ _ _ (@z20 _ _ _ _ _ _ _ _ _ _ _ _ _ _ yi T.cl_Keeper (hr.mono (by decide)) (@z9q _ _ _ _ _ _ _ _ _ _ _ _ _ _ _ z6n yf T.cl_Council (hr.mono (by decide)) (pv 0) (@z0 _ _ _ _ _ (pv 1) z6 rfl) rfl rfl rfl) (@z0 _ _ _ _ _ (pv 2) z6 rfl) rfl rfl rfl))),?_⟩
  walk_at "rd"
  obtain ⟨dx,hob⟩:=hc.ob
  refine ⟨_,_,hob,z2j _ _ (by decide +kernel) (by decide +kernel),c,l,ks,ls,us,p,rfl,hc,e1,fun j k ej hj=>?_⟩
  obtain ⟨s,l1,hu,hl1,⟨dk1,z1⟩,Ls,eL,hk⟩:=hc.kp j k hj
  obtain ⟨⟨dk,lk,a1,a2⟩,hn,-⟩:=id hk
  exact ⟨k,rfl,_,_,a1,z3q s.u s.t lk (by decide +kernel) (by decide +kernel) (by decide +kernel),k,s.u,s.t,Ls,tick,rfl,hk,fun r H1 hr0 hr1 s1=>q j s ej hu r (z16 tick Ls) H1 hr0 hr1 ((hn.mono s1).sub fun q h=>(List.mem_filter.mp h).1) (by rw [z53,eL]) s1⟩
def frAt (ss:List KN) (hd lk:Str) (sh:Bool) (tick:Int) (j:Nat):Bool:=match ss[j]? with | some s=>z91 s.N hd lk sh tick | none=>false
def sayl (ss:List KN) (n:Nat) (hd lk:Str) (sh:Bool) (tick:Int):List Nat:=(upl ss n).filter (frAt ss hd lk sh tick)
def z13 (js:List Nat):List V:=js.map fun (j:Nat)=>V.int ((j:Int) + 1)
theorem zhz (ss:List KN) (n:Nat) (hd lk:Str) (sh:Bool) (tick:Int):(sayl ss n hd lk sh tick).length ≤ n:=Nat.le_trans (List.length_filter_le _ _) (z5s _ _)
def z68 (ss:List KN):Prop:=∀ s ∈ ss,s.N.length ≤ 62
def zch (CC CK:Addr):Sp:=fun vs H Q _=>∃ (c l:Addr) (ks ls:List Addr) (ss:List KN) (hd lk:Str) (sh:Bool) (tick:Int),vs = [.ref c,.str hd,.str lk,.bl sh,.int tick] ∧ CAt CC CK H c l ks ls ss ∧ z68 ss ∧ lk.length ≤ 1000 ∧ ∀ (r:Addr) (H':Hp),H r = none → H' r = some (.lst (z13 (sayl ss ks.length hd lk sh tick))) → Same H H' → Q (.ref r) H'
theorem z7j (F:MDef K y0 "sayers" "Council.sayers" z3d ["self","holder","lock","shared","tick"]) (T:Txt K mg y0 yd yc y6 yb ya y8 y7 y9) (yk:MHas P w K mg base CX0 5 y6 "says_free" ["self","holder","lock","shared","tick"] (zcf y6)) (ye:MHas P w K mg base CX0 1 y0 "up_keepers" ["self"] (z94 y0 y6)):MHas P w K mg base CX0 6 y0 "sayers" ["self","holder","lock","shared","tick"] (zch y0 y6):=by
 refine F.ok z7i (fun vs H Q E h=>?_) (fun f cdv A outer s H vs Q E hr h=>?_)
 ·obtain ⟨c,l,ks,ls,ss,hd,lk,sh,tick,rfl,_⟩:=h
  rfl
 ·obtain ⟨c,l,ks,ls,ss,hd,lk,sh,tick,rfl,hc,hsm,hl,q⟩:=h
  refine ⟨_,(@za _ _ _ (@zl _ _ _ _ (@z82 _ _ "place" "keeper" (["holder","lock","shared","tick"]) ([1,2,3,4]) _ _ _ _ _ _ _ _ _ rfl ⟨rfl,by decide +kernel,by decide +kernel,rfl,rfl,zu rfl,by decide +kernel,⟨⟨rfl,Or.inl rfl,rfl⟩,⟨⟨rfl,Or.inl rfl,rfl⟩,⟨⟨rfl,Or.inl rfl,rfl⟩,⟨⟨rfl,Or.inl rfl,rfl⟩,trivial⟩⟩⟩⟩⟩ (fun _ _ _ _=>z6s (K:=K) rfl (z1r (z15 (i:=0) (show List.Nodup [("place" : Str),("keeper" : Str),("holder" : Str),("lock" : Str),("shared" : Str),("tick" : Str)] from by decide +kernel) rfl (Or.inl rfl)) (z1r (z15 (i:=1) (show List.Nodup [("place" : Str),("keeper" : Str),("holder" : Str),("lock" : Str),("shared" : Str),("tick" : Str)] from by decide +kernel) rfl (Or.inl rfl)) z4m))) (@z18 _ _ _ _ (@z4n _ _ _ _ _ _ _ _ _ _ _ ye T.cl_Council (hr.mono (by decide)) (pv 0) rfl)) (fun _ _ _ _=>(@z2k _ _ _ (@z1k _ _ _ (@z20 _ _ _ _ _ _ _ _ _ _ _ _ _ _ yk T.cl_Keeper (hr.mono (by decide)) (pv 1) (@z0 _ _ _ _ _ (pv 2) (@z0 _ _ _ _ _ (pv 3) (@z0 _ _ _ _ _ (pv 4) (@z0 _ _ _ _ _ (pv 5) z6 rfl) rfl) rfl) rfl) rfl rfl rfl) (by intro _; rfl)))) (fun _ _ _ _=>(pv 0)) (by intro _; rfl)))),?_⟩
  walk_at "rd"
  obtain ⟨dx,hob⟩:=hc.ob
  have hsz:=hc.sz
  refine ⟨_,_,hob,z2j _ _ (by decide +kernel) (by decide +kernel),c,l,ks,ls,ss,rfl,hc,fun r L H1 hL hr0 gr s1=>⟨r,rfl,⟨_,SqL.of gr⟩,?_⟩⟩
  have hll:=hL.len
  refine z6r (xs:=ptup L) (by rw [z42]; exact zd (by omega)) (fun i acc H'=>acc = z13 (((upl ss ks.length).take i).filter (frAt ss hd lk sh tick)) ∧ Same H1 H') ⟨rfl,Same.refl _⟩ ?_ ?_ ?_ ?_
  ·rintro i acc H' ⟨rfl,-⟩
   unfold z13
   rw [List.length_map]
   exact Nat.le_trans (List.length_filter_le _ _) (by rw [List.length_take]; omega)
  ·rintro i acc H' ⟨-,s2⟩
   exact SqL.of (s2 _ _ gr)
  ·rintro Nn i acc H' x hN hx hi ⟨rfl,s2⟩
   obtain ⟨y,hy,rfl⟩:=z67 hx
   have my:=List.mem_of_getElem? hy
   refine ⟨y.1,_,rfl,SqT.of (s2 _ _ (hL.tu y my)),rfl,?_⟩
   walk_at "rd"
   obtain ⟨s,l1,hu,hl1,-,Ls,eL,hk⟩:=(hc.mono (s1.trans s2)).kp y.2.1 y.2.2 (hL.at_ y my)
   obtain ⟨⟨dk,lk',a1,a2⟩,hn,-⟩:=id hk
   have l62:Ls.length ≤ 62:=by
    have:=hsm s (List.mem_of_getElem? hu)
    rw [← eL,List.length_map] at this
    exact this
   have gi:(upl ss ks.length)[i]? = some y.2.1:=by rw [← hL.mp,List.getElem?_map,hy]; rfl
   have stp:=z1o (frAt ss hd lk sh tick) gi
   have ef:frAt ss hd lk sh tick y.2.1 = z2v Ls hd lk sh tick:=by
    unfold frAt
    rw [hu,z92,eL]
   refine ⟨_,_,⟨rfl,rfl⟩,_,_,rfl,rfl,⟨_,rfl⟩,_,rfl,_,_,a1,z3q s.u s.t lk' (by decide +kernel) (by decide +kernel) (by decide +kernel),y.2.2,s.u,s.t,Ls,hd,lk,sh,tick,rfl,hk,by omega,hl,fun H3 s3=>⟨_,rfl,?_⟩⟩
   cases hf:z2v Ls hd lk sh tick with
   | true =>
    rw [if_pos rfl]
    refine hN _ _ ⟨?_,s2.trans s3⟩
    rw [stp,ef,hf]
    simp [z13]
   | false =>
    rw [if_neg Bool.false_ne_true]
    refine hN _ _ ⟨?_,s2.trans s3⟩
    rw [stp,ef,hf]
    simp
  ·rintro acc H' ⟨rfl,s2⟩ p hp
   have e:(upl ss ks.length).take (ptup L).length = upl ss ks.length:=by
    rw [z42,← hL.take,List.take_length,hL.mp]
   rw [e]
   exact q p _ (zv (s1.trans s2) hp) z7 ((s1.trans s2).trans (Same.upd hp))
def z97 (ss:List KN) (m:Int):Prop:=(∃ s ∈ ss,s.u = true ∧ s.t = m) ∧ ∀ s ∈ ss,s.u = true → s.t ≤ m
def z2d (ss:List KN) (sl:List Nat) (x:Nt):List KN:=ss.mapIdx fun j s=>if j ∈ sl then ⟨s.u,x.n,z36 x.h x.l s.N ++ [x]⟩ else s
theorem zgq (ss:List KN) (x:Nt):z2d ss [] x = ss:=by
 unfold z2d
 apply List.ext_getElem?
 intro i
 rw [List.getElem?_mapIdx]
 simp
theorem zew {ss:List KN} {sl:List Nat} {x:Nt} {i j:Nat} {s:KN} (hj:sl[i]? = some j) (hs:ss[j]? = some s) (nd:sl.Nodup):z2d ss (sl.take (i + 1)) x = (z2d ss (sl.take i) x).set j ⟨s.u,x.n,z36 x.h x.l s.N ++ [x]⟩ ∧ (z2d ss (sl.take i) x)[j]? = some s:=by
 have nj:j ∉ sl.take i:=fun h=>by
  obtain ⟨k,hk,e⟩:=List.getElem_of_mem h
  rw [List.length_take] at hk
  have e2:sl[k]? = some j:=by rw [List.getElem_take] at e; rw [List.getElem?_eq_getElem (by omega),e]
  have:=(List.getElem?_inj (by omega) nd).mp (e2.trans hj.symm)
  omega
 constructor
 ·unfold z2d
  apply List.ext_getElem?
  intro k
  rw [List.getElem?_mapIdx,List.take_succ,hj]
  by_cases hk:k = j
  ·subst hk
   have hl:k < ss.length:=(List.getElem?_eq_some_iff.mp hs).1
   rw [List.getElem?_set_self (by rw [List.length_mapIdx]; exact hl),hs]
   simp
  ·rw [List.getElem?_set_ne (Ne.symm hk),List.getElem?_mapIdx]
   simp [hk]
 ·unfold z2d
  rw [List.getElem?_mapIdx,hs]
  simp [nj]
def zgr (CC CK CN:Addr):Sp:=fun vs H Q E=>∃ (c l:Addr) (ks ls:List Addr) (ss:List KN) (hd lk:Str) (sh:Bool) (tick time:Int),vs = [.ref c,.str hd,.str lk,.bl sh,.int tick,.int time] ∧ CAt CC CK H c l ks ls ss ∧ z68 ss ∧ hd.length ≤ 1000 ∧ lk.length ≤ 1000 ∧
 (((sayl ss ks.length hd lk sh tick).length:Int) < (ks.length:Int) / 2 + 1 → ∀ H',Same H H' → E (.ref CN) none H') ∧
 (¬ ((sayl ss ks.length hd lk sh tick).length:Int) < (ks.length:Int) / 2 + 1 → ∀ (m:Int),z97 ss m → ∀ (r p:Addr) (ls':List Addr) (H':Hp),LsOk H ls ls' → CAt CC CK H' c l ks ls' (z2d ss (sayl ss ks.length hd lk sh tick) ⟨1 + m,hd,lk,sh,tick + time⟩) →
  H' r = some (.tup [.int (1 + m),.ref p]) → H' p = some (.lst (z13 (sayl ss ks.length hd lk sh tick))) → H r = none → H p = none → ButK ks H H' → Q (.ref r) H')
theorem z98 (F:MDef K y0 "give" "Council.give" z3z ["self","holder","lock","shared","tick","time"]) (T:Txt K mg y0 yd yc y6 yb ya y8 y7 y9) (y15:MHas P w K mg base (CX1 P w) 6 y6 "take" ["self","number","holder","lock","shared","tick","time"] (zgn y6 yd ya yc)) (yf:MHas P w K mg base (CX1 P w) 1 y0 "keeper_at" ["self","place"] (z93 y0 y6 y8)) (ye:MHas P w K mg base CX0 1 y0 "up_keepers" ["self"] (z94 y0 y6)) (yv:MHas P w K mg base CX0 6 y0 "sayers" ["self","holder","lock","shared","tick"] (zch y0 y6)):MHas P w K mg base (CX1 P w) 7 y0 "give" ["self","holder","lock","shared","tick","time"] (zgr y0 y6 yb):=by
 refine F.okx sc_Council_give (fun vs H Q E h=>?_) (fun f cdv A outer s H vs Q E hr h=>?_)
 ·obtain ⟨c,l,ks,ls,ss,hd,lk,sh,tick,time,rfl,_⟩:=h
  rfl
 ·obtain ⟨c,l,ks,ls,ss,hd,lk,sh,tick,time,rfl,hc,hsm,hh,hl,e1,q⟩:=h
  refine ⟨_,(@z8 _ _ _ _ _ (@zi _ _ 6 _ _ _ _ sc_Council_give.nd rfl (Or.inl rfl) (@z20 _ _ _ _ _ _ _ _ _ _ _ _ _ _ yv T.cl_Council (hr.mono (by decide)) (pv 0) (@z0 _ _ _ _ _ (pv 1) (@z0 _ _ _ _ _ (pv 2) (@z0 _ _ _ _ _ (pv 3) (@z0 _ _ _ _ _ (pv 4) z6 rfl) rfl) rfl) rfl) rfl rfl rfl) rfl (Or.inr rfl)) (@z8 _ _ _ _ _ (@zy _ _ _ _ _ _ _ _ (@zn _ _ _ _ _ _ _ _ z76 (@zg _ _ _ _ _ _ _ _ _ zq rfl T.b_len (by decide +kernel) (@z0 _ _ _ _ _ (pv 6) z6 rfl) (by decide) (by decide) rfl rfl) (@z2b _ _ _ _ _ (pv 0) rfl) (zm _)) (@za _ _ _ (@z4s _ _ _ _ _ _ _ _ _ _ _ _ _ _ z48 rfl PySem.F.excBase_ValueError T.x_NotFree rfl T.g_NotFree (@z0 _ _ _ _ _ zj z6 rfl) rfl rfl (by decide))) zo) (@z8 _ _ _ _ _ (@zi _ _ 7 _ _ _ _ sc_Council_give.nd rfl (Or.inl rfl) (@zf _ _ _ _ _ _ _ _ z14 z4 (@zg _ _ _ _ _ _ _ _ _ (z6q rfl) rfl T.b_max (by decide +kernel) (@z0 _ _ _ _ _ (@z82 _ _ "place" "keeper" ([]) ([]) _ _ _ _ _ _ _ _ _ rfl ⟨rfl,by decide +kernel,by decide +kernel,rfl,rfl,zu rfl,by decide +kernel,trivial⟩ (fun _ _ _ _=>z6s (K:=K) rfl (z1r (z15 (i:=0) (show List.Nodup [("place" : Str),("keeper" : Str)] from by decide +kernel) rfl (Or.inl rfl)) (z1r (z15 (i:=1) (show List.Nodup [("place" : Str),("keeper" : Str)] from by decide +kernel) rfl (Or.inl rfl)) z4m))) (@z18 _ _ _ _ (@z4n _ _ _ _ _ _ _ _ _ _ _ ye T.cl_Council (hr.mono (by decide)) (pv 0) rfl)) (fun _ _ _ _=>z3f) (fun _ _ _ _=>(@zbx _ K _ _ _ _ (pv 1) rfl rfl)) (by intro _; rfl)) z6 rfl) (by decide) (by decide) rfl rfl)) rfl (Or.inr rfl)) (@z8 _ _ _ _ _ (PS.nox (@z25 _ _ _ _ _ _ _ _ PassesOwn.never rfl (@z18 _ _ _ _ (pv 6)) (@z15 _ _ 8 _ sc_Council_give.nd rfl (Or.inl rfl) (Or.inr rfl)) (@za _ _ _ (@z1w _ _ _ _ (@z20 _ _ _ _ _ _ _ _ _ _ _ _ _ _ (@MHas.never _ _ _ _ _ _ _ _ _ _ y15) T.cl_Keeper (hr.mono (by decide)) (@z20 _ _ _ _ _ _ _ _ _ _ _ _ _ _ (@MHas.never _ _ _ _ _ _ _ _ _ _ yf) T.cl_Council (hr.mono (by decide)) (pv 0) (@z0 _ _ _ _ _ (pv 8) z6 rfl) rfl rfl rfl) (@z0 _ _ _ _ _ (pv 7) (@z0 _ _ _ _ _ (pv 1) (@z0 _ _ _ _ _ (pv 2) (@z0 _ _ _ _ _ (pv 3) (@z0 _ _ _ _ _ (pv 4) (@z0 _ _ _ _ _ (pv 5) z6 rfl) rfl) rfl) rfl) rfl) rfl) rfl rfl rfl) rfl)) (by intro _; rfl))) (@za _ _ _ (@zl _ _ _ _ (@z1l _ _ _ _ _ (@z0 _ _ _ _ _ (pv 7) (@z0 _ _ _ _ _ (pv 6) z6 rfl) rfl)))))))),?_⟩
  walk_at "rd"
  obtain ⟨dx,hob⟩:=hc.ob
  have hsz:=hc.sz
  have hsl:=zhz ss ks.length hd lk sh tick
  refine ⟨_,_,hob,z2j _ _ (by decide +kernel) (by decide +kernel),c,l,ks,ls,ss,hd,lk,sh,tick,rfl,hc,hsm,hl,fun r H1 hr0 gr s1=>?_⟩
  have snd:(sayl ss ks.length hd lk sh tick).Nodup:=List.Nodup.sublist List.filter_sublist (z54 _ _)
  have smem:∀ j ∈ sayl ss ks.length hd lk sh tick,j < ks.length ∧ upAt ss j = true ∧ frAt ss hd lk sh tick j = true:=fun j hj=>by
   obtain ⟨a,b⟩:=List.mem_filter.mp hj
   exact ⟨(z2n a).1,(z2n a).2,b⟩
  generalize sayl ss ks.length hd lk sh tick = sl at e1 q gr hsl snd smem
  refine ⟨r,rfl,_,.inl (SqL.of gr),_,_,_,s1 _ _ hob,T.cl_Council,T.n_Council_most,_,zjf _ _,_,rfl,?_⟩
  have epl:(z13 sl).length = sl.length:=List.length_map _
  rw [epl]
  by_cases hlt:(sl.length:Int) < (ks.length:Int) / 2 + 1
  ·rw [if_pos (decide_eq_true hlt)]
   exact ⟨zd (by decide),e1 hlt H1 s1⟩
  rw [if_neg (by simpa using hlt)]
  have q:=q hlt
  have hc1:=hc.mono s1
  refine ⟨_,_,s1 _ _ hob,z2j _ _ (by decide +kernel) (by decide +kernel),c,l,ks,ls,ss,rfl,hc1,fun r2 L H2 hL hr2 gr2 s2=>⟨r2,rfl,⟨_,SqL.of gr2⟩,?_⟩⟩
  have hll:=hL.len
  have hc2:=hc1.mono s2
  have stAt:∀ y ∈ L,∃ s,ss[y.2.1]? = some s ∧ s.u = true ∧ ∃ dx lk',H2 y.2.2 = some (.ins y6 dx (kf s.u s.t lk')):=fun y hy=>by
   obtain ⟨s,l1,hu,hl1,-,Ls,eL,⟨dk,lk',a1,a2⟩,-,-⟩:=hc2.kp y.2.1 y.2.2 (hL.at_ y hy)
   have hm:y.2.1 ∈ upl ss ks.length:=by rw [← hL.mp]; exact List.mem_map_of_mem hy
   have:=(z2n hm).2
   unfold upAt at this
   rw [hu] at this
   exact ⟨s,hu,this,dk,lk',a1⟩
  refine z6r (xs:=ptup L) (by rw [z42]; exact zd (by omega)) (fun i acc H'=>H2 = H' ∧ ∃ ns:List Int,acc = ns.map V.int ∧ ns.length = (L.take i).length ∧ (∀ x ∈ ns,∃ s ∈ ss,s.u = true ∧ s.t = x) ∧ ∀ y ∈ L.take i,∀ s,ss[y.2.1]? = some s → s.t ∈ ns) ⟨rfl,[],rfl,rfl,(fun x hx=>by cases hx),(fun y hy=>by cases hy)⟩ ?_ ?_ ?_ ?_
  ·rintro i acc H' ⟨-,ns,rfl,en,-⟩
   rw [List.length_map,en,List.length_take]
   omega
  ·rintro i acc H' ⟨rfl,-⟩
   exact SqL.of gr2
  ·rintro Nn i acc H' x hN hx hi ⟨rfl,ns,rfl,en,hn1,hn2⟩
   obtain ⟨y,hy,rfl⟩:=z67 hx
   have my:=List.mem_of_getElem? hy
   refine ⟨y.1,_,rfl,SqT.of (hL.tu y my),rfl,?_⟩
   walk_at "rd"
   obtain ⟨s,hu,hup,dk,lk',a1⟩:=stAt y my
   refine ⟨_,_,⟨rfl,rfl⟩,_,_,rfl,rfl,⟨_,rfl⟩,y.2.2,rfl,_,_,_,a1,T.cl_Keeper,T.n_Keeper_top,_,zgk s.u s.t lk',hN _ _ ⟨rfl,ns ++ [s.t],by simp,?_,fun x hx=>?_,fun z hz s' hs'=>?_⟩⟩
   ·rw [List.length_append,en,List.take_succ,hy]
    simp
   ·rcases List.mem_append.mp hx with hx | hx
    ·exact hn1 x hx
    ·have:x = s.t:=by simpa using hx
     exact ⟨s,List.mem_of_getElem? hu,hup,this.symm⟩
   ·rw [List.take_succ,hy] at hz
    rcases List.mem_append.mp hz with hz | hz
    ·exact List.mem_append_left _ (hn2 z hz s' hs')
    ·have:z = y:=by simpa using hz
     rw [this,hu] at hs'
     cases hs'
     simp
  rintro acc H' ⟨rfl,ns,rfl,en,hn1,hn2⟩ p hp
  rw [z42,List.take_length] at en hn2
  have lsl:0 < sl.length:=by
   have:(0:Int) ≤ (ks.length:Int) / 2:=Int.ediv_nonneg (by omega) (by decide)
   omega
  obtain ⟨j0,hj0⟩:∃ j,j ∈ sl:=⟨sl[0],List.getElem_mem lsl⟩
  have memL:∀ j,j < ks.length → upAt ss j = true → ∃ y ∈ L,y.2.1 = j:=fun j hj hu=>by
   have:j ∈ upl ss ks.length:=List.mem_filter.mpr ⟨List.mem_range.mpr hj,hu⟩
   rw [← hL.mp] at this
   obtain ⟨y,hy,e⟩:=List.mem_map.mp this
   exact ⟨y,hy,e⟩
  have nne:ns ≠ []:=by
   obtain ⟨a,b,-⟩:=smem j0 hj0
   obtain ⟨y,hy,-⟩:=memL j0 a b
   intro z
   rw [z] at en
   have:L = []:=List.length_eq_zero_iff.mp en.symm
   rw [this] at hy
   cases hy
  have s3:=s2.trans (Same.upd (o:=.lst (ns.map V.int)) hp)
  refine ⟨p,rfl,ns,SqL.of z7,nne,fun m hm hmax=>⟨r,rfl,⟨_,SqL.of (s3 _ _ gr)⟩,?_⟩⟩
  have top:z97 ss m:=⟨hn1 m hm,fun s hs hup=>by
   obtain ⟨j,hj,e⟩:=List.getElem_of_mem hs
   have ej:ss[j]? = some s:=by rw [List.getElem?_eq_getElem hj,e]
   obtain ⟨y,hy,e2⟩:=memL j (by rw [← hc.ln]; exact hj) (by unfold upAt; rw [ej]; exact hup)
   exact hmax _ (hn2 y hy s (by rw [e2]; exact ej))⟩
  generalize upd H2 p (.lst (ns.map V.int)) = H3 at s3 ⊢
  have hc3:=hc1.mono s3
  have gr3:=s3 _ _ gr
  refine z1i (xs:=z13 sl) (fun i σ H'=>∃ (v8:Option V) (ls':List Addr),σ = [some (V.ref c),some (V.str hd),some (V.str lk),some (V.bl sh),some (V.int tick),some (V.int time),some (V.ref r),some (V.int (1 + m)),v8] ∧ LsOk H ls ls' ∧ CAt y0 y6 H' c l ks ls' (z2d ss (sl.take i) ⟨1 + m,hd,lk,sh,tick + time⟩) ∧ ButK ks H3 H') ⟨_,ls,rfl,LsOk.refl _ _,by rw [List.take_zero,zgq]; exact hc3,fun b o e _=>e⟩ ?_ ?_ ?_
  ·rintro i σ H' - ⟨v8,ls',rfl,-,-,b⟩
   refine SqL.of (b _ _ gr3 fun z=>?_)
   obtain ⟨_,_,e⟩:=hc3.mem z
   rw [gr3] at e
   cases e
  ·rintro Pv hP i x σ H' hx ⟨v8,ls',rfl,hls,hci,b⟩
   unfold z13 at hx
   rw [List.getElem?_map] at hx
   cases ej:sl[i]? with
   | none=>rw [ej] at hx; cases hx
   | some j =>
   rw [ej] at hx
   cases hx
   walk_at "rd"
   obtain ⟨hjl,hju,hjf⟩:=smem j (List.mem_of_getElem? ej)
   have hjk:ks[j]? = some ks[j]:=List.getElem?_eq_getElem hjl
   obtain ⟨s,l1,hs,-,-⟩:=hc3.kp j _ hjk
   obtain ⟨eg,eg2⟩:=zew (x:=⟨1 + m,hd,lk,sh,tick + time⟩) ej hs snd
   obtain ⟨dxi,hobi⟩:=hci.ob
   refine ⟨_,_,hobi,z2j _ _ (by decide +kernel) (by decide +kernel),c,l,ks,ls',_,_,rfl,hci,fun z=>absurd ⟨by omega,by omega⟩ z,fun j' k' ej' hk'=>?_⟩
   have ejj:j' = j:=by omega
   subst ejj
   obtain ⟨s',l2,hs',hl2,-,Ls,eL,hk⟩:=hci.kp j' k' hk'
   rw [eg2] at hs'
   cases hs'
   obtain ⟨⟨dk,lk',a1,a2⟩,hn,-⟩:=id hk
   have l62:Ls.length ≤ 62:=by
    have:=hsm s (List.mem_of_getElem? hs)
    rw [← eL,List.length_map] at this
    exact this
   have hup:s.u = true:=by unfold upAt at hju; rw [hs] at hju; exact hju
   have hfr:z2v Ls hd lk sh tick = true:=by unfold frAt at hjf; rw [hs] at hjf; rw [z92,eL]; exact hjf
   have hlt2:s.t < 1 + m:=by have:=top.2 s (List.mem_of_getElem? hs) hup; omega
   refine ⟨k',rfl,_,_,a1,z3q s.u s.t lk' (by decide +kernel) (by decide +kernel) (by decide +kernel),k',s.u,s.t,Ls,1 + m,hd,lk,sh,tick,time,rfl,hk,l62,hh,hl,fun z=>(by rw [hup] at z; cases z),fun _ z=>(by omega),fun _ _ z=>(by rw [hfr] at z; cases z),fun _ _ _ pn H5 hpn hk5 hz5 hb5=>?_⟩
   obtain ⟨dx5,l5,z5,n5'⟩:=hz5
   have n50:H l5 = none:=by
    cases e:H l5 with
    | none=>rfl
    | some o =>
     by_cases z:l5 ∈ ks
     ·obtain ⟨_,_,e2⟩:=hci.mem z
      rw [n5'] at e2
      cases e2
     ·rw [((ButK.of (s1.trans s3)).trans b) _ _ e z] at n5'
      cases n5'
   refine hP _ _ _ ⟨_,ls'.set j' l5,rfl,fun x hx=>?_,?_,b.trans (ButK.but hb5 (List.mem_of_getElem? hk'))⟩
   ·rcases List.mem_or_eq_of_mem_set hx with z | z
    ·exact hls x z
    ·exact .inr (z ▸ n50)
   rw [eg]
   refine hci.set hk' ⟨⟨dx5,z5⟩,_,?_,hk5⟩ hb5
   rw [List.map_append,zgp,eL]
   rfl
  ·rintro σ H' ⟨v8,ls',rfl,hls,hci,b⟩
   walk_at "rd"
   have epl':(z13 sl).length = sl.length:=List.length_map _
   rw [epl',List.take_length] at hci
   refine ⟨zd (by decide),fun pr hpr=>?_⟩
   have nrk:r ∉ ks:=fun z=>by
    obtain ⟨_,_,e⟩:=hc3.mem z
    rw [gr3] at e
    cases e
   have b0:ButK ks H H':=(ButK.of (s1.trans s3)).trans b
   have hpr0:H pr = none:=by
    cases e:H pr with
    | none=>rfl
    | some o =>
     by_cases z:pr ∈ ks
     ·obtain ⟨_,_,e2⟩:=hci.mem z
      rw [hpr] at e2
      cases e2
     ·rw [b0 _ _ e z] at hpr
      cases hpr
   exact q m top pr r ls' _ hls (hci.mono (Same.upd hpr)) z7 (Same.upd hpr _ _ (b _ _ gr3 nrk)) hpr0 hr0 (b0.trans (ButK.of (Same.upd hpr)))
def spAt (K:PySem.W.Frag):Sp:=fun vs H Q _=>∃ (p:Addr) (ns:List Int) (k:Nat),vs = [.ref p,.int k] ∧ SqL K H p (ns.map V.int) ∧ ns.length ≤ 1000 ∧ Q (.int (ns.getD k 0)) H
theorem zex (F:Def K mg "_law_at" z6y ["_law_script","_law_k"]) (T:Txt K mg y0 yd yc y6 yb ya y8 y7 y9):Has P w K mg base 1 "_law_at" ["_law_script","_law_k"] (spAt K):=by
 refine F.ok zet (fun vs H Q E h=>?_) (fun f cdv A outer s H vs Q E hr h=>?_)
 ·obtain ⟨p,ns,k,rfl,_⟩:=h
  rfl
 ·obtain ⟨p,ns,k,rfl,hp,hl,q⟩:=h
  refine ⟨_,(@z8 _ _ _ _ _ (@zy _ _ _ _ _ _ _ _ (@zn _ _ _ _ _ _ _ _ z76 (pv 1) (@zg _ _ _ _ _ _ _ _ _ zq rfl T.b_len (by decide +kernel) (@z0 _ _ _ _ _ (pv 0) z6 rfl) (by decide) (by decide) rfl rfl) (zm _)) (@za _ _ _ (@zl _ _ _ _ (@zh _ _ _ _ _ _ _ ix_list (pv 0) (pv 1) (fun _ _=>rfl)))) zo) (@za _ _ _ (@zl _ _ _ _ z4))),?_⟩
  walk_at "rd"
  refine ⟨_,.inl hp,?_⟩
  rw [List.length_map]
  by_cases hk:k < ns.length
  ·rw [if_pos (by simpa using hk)]
   refine ⟨p,_,_,_,rfl,rfl,hp,zb (v:=.int (ns.getD k 0)) ?_,q⟩
   rw [List.getElem?_map,List.getD_eq_getElem?_getD,List.getElem?_eq_getElem hk]
   rfl
  ·rw [if_neg (by simpa using hk)]
   have e:ns.getD k 0 = 0:=by rw [List.getD_eq_getElem?_getD,List.getElem?_eq_none (by omega)]; rfl
   rw [← e]
   exact q
def abc:Str := "abcdefghijklmnopqrstuvwxyz0123456789"
theorem zjh:∀ n,n < 36 → ∃ c,abc.cps.toList[n]? = some c:=by
 intro n hn
 have l:abc.cps.toList.length = 36:=by decide +kernel
 exact ⟨_,List.getElem?_eq_getElem (by omega)⟩
theorem zkc (j:Int) (h0:0 ≤ j) (h1:j < 36):∃ c,atI abc.cps.toList j = some c:=by
 obtain ⟨n,rfl⟩:=Int.eq_ofNat_of_zero_le h0
 obtain ⟨c,hc⟩:=zjh n (by omega)
 exact ⟨c,zb hc⟩
theorem zgs {d:Nat} {n:Nat} (h:n ≤ 100):MulOk ⟨#[d]⟩ (n:Int):=by
 have f:∀ m:_root_.Fin 101,(decide ((m.val:Int) < 1) || (decide (¬ ((1:Int) > (2 ^ 63 - 1) / (m.val:Int))) && (Builtin.Str.tooLong (1 * m.val) == false))) = true:=by decide +kernel
 have g:=f ⟨n,by omega⟩
 dsimp only at g
 rw [Bool.or_eq_true,Bool.and_eq_true] at g
 have l:(⟨#[d]⟩:Str).length = 1:=rfl
 refine ⟨?_,fun h1 _=>?_,fun h1 _=>?_⟩
 ·rw [Bool.or_eq_false_iff]
  exact ⟨decide_eq_false (by omega),decide_eq_false (by omega)⟩
 ·rcases g with g | g
  ·exact absurd (of_decide_eq_true g) h1
  ·rw [l]
   exact of_decide_eq_true g.1
 ·rcases g with g | g
  ·exact absurd (of_decide_eq_true g) h1
  ·rw [l,Int.toNat_natCast]
   exact eq_of_beq g.2
theorem zci (d:Nat):∀ (m:Nat) (acc:Array Nat),((List.replicate m #[d]).foldl (· ++ ·) acc).size = acc.size + m
 | 0,acc=>rfl
 | m + 1,acc=>by
  rw [List.replicate_succ,List.foldl_cons,zci d m,Array.size_append]
  show acc.size + 1 + m = _
  omega
theorem za7 (d n:Nat):(Txt.mul ⟨#[d]⟩ (n:Int)).length = n:=by
 unfold Txt.mul
 by_cases h1:(n:Int) < 1
 ·rw [if_pos h1]
  have:n = 0:=by omega
  subst this
  rfl
 ·rw [if_neg h1]
  by_cases h2:n = 1
  ·subst h2
   rfl
  ·rw [if_neg (by simp; exact ⟨by omega,by show ¬ (1 = 0); decide⟩)]
   show ((List.replicate (n:Int).toNat #[d]).foldl (· ++ ·) #[]).size = n
   rw [zci,Int.toNat_natCast]
   show 0 + n = n
   omega
def zcj:Sp:=fun vs H Q _=>∃ (c:Int) (k:Nat),vs = [.int c,.int k] ∧ k ≤ 10 ∧ ∀ z:Str,z.length ≤ 16 → Q (.str z) H
theorem zck (F:Def K mg "_law_name" z5c ["_law_cell","_law_k"]) (T:Txt K mg y0 yd yc y6 yb ya y8 y7 y9):Has P w K mg base 1 "_law_name" ["_law_cell","_law_k"] (zcj):=by
 refine F.ok sc__law_name (fun vs H Q E h=>?_) (fun f cdv A outer s H vs Q E hr h=>?_)
 ·obtain ⟨c,k,rfl,_⟩:=h
  rfl
 ·obtain ⟨c,k,rfl,hk,q⟩:=h
  have hu:=hr.units0
  refine ⟨_,(@z8 _ _ _ _ _ (@zi _ _ 2 _ _ _ _ sc__law_name.nd rfl (Or.inl rfl) zj rfl (Or.inr rfl)) (@z8 _ _ _ _ _ (@zi _ _ 3 _ _ _ _ sc__law_name.nd rfl (Or.inl rfl) (@zf _ _ _ _ _ _ _ _ z19 (pv 0) z4) rfl (Or.inr rfl)) (@z8 _ _ _ _ _ (@zy _ _ _ _ _ _ _ _ (@zn _ _ _ _ _ _ _ _ z1a (@zf _ _ _ _ _ _ _ _ z10 (pv 0) z4) z4 (zm _)) (@z8 _ _ _ _ _ (@zy _ _ _ _ _ _ _ _ (@zn _ _ _ _ _ _ _ _ zbi (pv 1) z4 (zm _)) (@za _ _ _ (@zl _ _ _ _ (@zf _ _ _ _ _ _ _ _ z3j (@zh _ _ _ _ _ _ _ z5n (pv 2) (@zf _ _ _ _ _ _ _ _ z10 (@zf _ _ _ _ _ _ _ _ z14 (pv 3) z4) z4) (fun _ _=>rfl)) (@zf _ _ _ _ _ _ _ _ z8p (@zh _ _ _ _ _ _ _ z5n (pv 2) (@zf _ _ _ _ _ _ _ _ z10 (pv 3) z4) (fun _ _=>rfl)) (@zf _ _ _ _ _ _ _ _ z2u (pv 1) z4))))) zo) (@za _ _ _ (@zl _ _ _ _ (@zf _ _ _ _ _ _ _ _ z8p (@zh _ _ _ _ _ _ _ z5n (pv 2) (@zf _ _ _ _ _ _ _ _ z10 (pv 3) z4) (fun _ _=>rfl)) (@zf _ _ _ _ _ _ _ _ z14 (pv 1) z4))))) zo) (@z8 _ _ _ _ _ (@zy _ _ _ _ _ _ _ _ (@zn _ _ _ _ _ _ _ _ z1a (@zf _ _ _ _ _ _ _ _ z10 (pv 0) z4) z4 (zm _)) (@za _ _ _ (@zl _ _ _ _ (@zf _ _ _ _ _ _ _ _ z3j (@zh _ _ _ _ _ _ _ z5n (pv 2) (@zf _ _ _ _ _ _ _ _ z10 (@zf _ _ _ _ _ _ _ _ z14 (pv 3) (@zf _ _ _ _ _ _ _ _ z6i z4 (pv 1))) z4) (fun _ _=>rfl)) (@z5v _ _ _ _ _ _ _ _ _ _ zk0 zj z78 (@z79 _ _ _ (@zf _ _ _ _ _ _ _ _ z10 (@zf _ _ _ _ _ _ _ _ z14 (@zf _ _ _ _ _ _ _ _ z19 (pv 3) z4) (@zf _ _ _ _ _ _ _ _ z6i z4 (pv 1))) z4)))))) zo) (@z8 _ _ _ _ _ (@zi _ _ 4 _ _ _ _ sc__law_name.nd rfl (Or.inl rfl) (@zf _ _ _ _ _ _ _ _ z14 z4 (@zf _ _ _ _ _ _ _ _ z10 (pv 3) z4)) rfl (Or.inr rfl)) (@z8 _ _ _ _ _ (@zi _ _ 5 _ _ _ _ sc__law_name.nd rfl (Or.inl rfl) (@zf _ _ _ _ _ _ _ _ z10 (@zf _ _ _ _ _ _ _ _ z19 (pv 3) z4) (pv 4)) rfl (Or.inr rfl)) (@z8 _ _ _ _ _ (@zi _ _ 6 _ _ _ _ sc__law_name.nd rfl (Or.inl rfl) zj rfl (Or.inr rfl)) (@z8 _ _ _ _ _ (@z25 _ _ _ _ _ _ _ _ PassesOwn.never rfl (@z2q _ _ _ _ _ _ rfl T.b_range (@z0 _ _ _ _ _ (pv 4) z6 rfl) rfl) (@z15 _ _ 7 _ sc__law_name.nd rfl (Or.inl rfl) (Or.inr rfl)) (@z8 _ _ _ _ _ (@zi _ _ 8 _ _ _ _ sc__law_name.nd rfl (Or.inl rfl) (@zf _ _ _ _ _ _ _ _ z14 (@zf _ _ _ _ _ _ _ _ z19 (pv 3) z4) (@zf _ _ _ _ _ _ _ _ z6i z4 (pv 7))) rfl (Or.inr rfl)) (@z3t _ _ _ _ _ (@zy _ _ _ _ _ _ _ _ (@zn _ _ _ _ _ _ _ _ z1a (pv 7) (pv 5) (zm _)) (@za _ _ _ (@zi _ _ 8 _ _ _ _ sc__law_name.nd rfl (Or.inl rfl) (@zf _ _ _ _ _ _ _ _ z14 (@zf _ _ _ _ _ _ _ _ z19 (pv 3) z4) (@zf _ _ _ _ _ _ _ _ z6i z4 (pv 1))) rfl (Or.inr rfl))) zo) (@za _ _ _ (@zi _ _ 6 _ _ _ _ sc__law_name.nd rfl (Or.inl rfl) (@zf _ _ _ _ _ _ _ _ z3j (pv 6) (@zh _ _ _ _ _ _ _ z5n (pv 2) (@zf _ _ _ _ _ _ _ _ z10 (pv 8) z4) (fun _ _=>rfl))) rfl (Or.inr rfl))))) (by intro _; rfl)) (@za _ _ _ (@zl _ _ _ _ (pv 6))))))))))),?_⟩
  walk_at "rd"
  have sgn:∀ (j:Int) (R:VK),0 ≤ j → j < 36 → (∀ d:Nat,R (.str ⟨#[d]⟩) H) → rIxS (V.str "abcdefghijklmnopqrstuvwxyz0123456789") (V.int j) H R:=fun j R h0 h1 k=>by
   obtain ⟨d,hd⟩:=zkc j h0 h1
   exact ⟨abc,_,d,rfl,rfl,by decide,hd,k d⟩
  refine ⟨cdiv (by decide) (by decide),by decide,ite2 (fun _=>ite2 (fun h8=>?_) (fun h8=>?_)) (fun _=>⟨by decide,ite2 (fun _=>?_) (fun _=>?_)⟩)⟩
  ·have h8':8 ≤ k:=by have:=of_decide_eq_true h8; omega
   have e7:(k:Int) - 7 = ((k - 7:Nat):Int):=by omega
   rw [e7]
   refine ⟨by decide,sgn _ _ (by omega) (by omega) fun d=>⟨by decide,sgn _ _ (by omega) (by omega) fun d'=>⟨_,rfl,zgs (by omega),_,rfl,?_,q _ ?_⟩⟩⟩
   ·rw [za7]
    exact zd (by show 1 + _ ≤ _; omega)
   ·rw [PySem.Str.length_append,za7]
    show 1 + _ ≤ _
    omega
  ·have e7:(k:Int) + 1 = ((k + 1:Nat):Int):=by omega
   rw [e7]
   refine ⟨by decide,sgn _ _ (by omega) (by omega) fun d=>⟨_,rfl,zgs (by omega),q _ ?_⟩⟩
   rw [za7]
   omega
  ·have l7:∀ u,(Txt.slice ("k0stemz" : Str) none u).length ≤ 7:=fun u=>Txt.slice_le _ _ _
   refine ⟨.inl ⟨by decide,by decide⟩,by decide,sgn _ _ (by omega) (by omega) fun d=>⟨cdiv (by decide) (by decide),.inl ⟨by decide,by decide⟩,by decide,by decide,_,rfl,?_,q _ ?_⟩⟩
   ·have:=l7 (some ((c / 3 / 36 + 3 * (k:Int)) % 8))
    exact zd (by show 1 + _ ≤ _; omega)
   ·have:=l7 (some ((c / 3 / 36 + 3 * (k:Int)) % 8))
    rw [PySem.Str.length_append]
    show 1 + _ ≤ _
    omega
  ·refine ⟨by decide,cdiv (by decide) (by decide),by omega,⟨by omega,by omega⟩,?_⟩
   refine z59 (fun i σ H'=>H' = H ∧ ∃ (z:Str) (v v':Option V),σ = [some (V.int c),some (V.int k),some (V.str "abcdefghijklmnopqrstuvwxyz0123456789"),some (V.int (c / 3)),some (V.int (1 + c / 3 % 8)),some (V.int (c / 3 / 8 % (1 + c / 3 % 8))),some (V.str z),v,v'] ∧ z.length = i) ⟨rfl,_,_,_,rfl,rfl⟩ ?_ ?_
   ·rintro Pv hP i σ H' hi ⟨rfl,z,v,v',rfl,hz⟩
    walk_at "rd"
    refine ⟨cdiv (by decide) (by decide),.inl ⟨by decide,by decide⟩,?_⟩
    refine z5z (fun σ H2=>H2 = H' ∧ ∃ (r:Int),σ = [some (V.int c),some (V.int k),some (V.str "abcdefghijklmnopqrstuvwxyz0123456789"),some (V.int (c / 3)),some (V.int (1 + c / 3 % 8)),some (V.int (c / 3 / 8 % (1 + c / 3 % 8))),some (V.str z),some (V.int (0 + i)),some (V.int r)]) (fun Mid hM=>?_) ?_
    ·walk_at "rd"
     exact ite2 (fun _=>⟨cdiv (by decide) (by decide),.inl ⟨by decide,by decide⟩,hM _ _ ⟨rfl,_,rfl⟩⟩) (fun _=>hM _ _ ⟨rfl,_,rfl⟩)
    ·rintro σ H2 ⟨rfl,r,rfl⟩
     walk_at "rd"
     refine ⟨by decide,sgn _ _ (by omega) (by omega) fun d=>⟨_,rfl,zd (by show _ + 1 ≤ _; omega),hP _ _ _ ⟨rfl,_,_,_,rfl,?_⟩⟩⟩
     rw [PySem.Str.length_append]
     show _ + 1 = _
     omega
   ·rintro σ H' ⟨rfl,z,v,v',rfl,hz⟩
    walk_at "rd"
    exact q z (by omega)
def zds:Sp:=fun vs H Q _=>∃ (c:Int) (m:Nat),vs = [.int c,.int m] ∧ m ≤ 10 ∧ ∀ (r:Addr) (zs:List Str) (H':Hp),zs.length = m → (∀ z ∈ zs,z.length ≤ 16) → H r = none → H' r = some (.lst (zs.map V.str)) → Same H H' → Q (.ref r) H'
theorem zba (F:Def K mg "_law_names" z4w ["_law_cell","_law_many"]) (T:Txt K mg y0 yd yc y6 yb ya y8 y7 y9) (yp:Has P w K mg base 1 "_law_name" ["_law_cell","_law_k"] (zcj)):Has P w K mg base 2 "_law_names" ["_law_cell","_law_many"] (zds):=by
 refine F.ok zb9 (fun vs H Q E h=>?_) (fun f cdv A outer s H vs Q E hr h=>?_)
 ·obtain ⟨c,m,rfl,_⟩:=h
  rfl
 ·obtain ⟨c,m,rfl,hm,q⟩:=h
  have hu:=hr.units0
  refine ⟨_,(@za _ _ _ (@zl _ _ _ _ (@z1x _ _ "_law_k" (["_law_cell"]) ([0]) _ _ _ _ _ _ _ _ rfl ⟨rfl,by decide +kernel,by decide +kernel,rfl,zu rfl,by decide +kernel,⟨⟨rfl,Or.inl rfl,rfl⟩,trivial⟩⟩ (@z2q _ _ _ _ _ _ rfl T.b_range (@z0 _ _ _ _ _ (pv 1) z6 rfl) rfl) (fun _ _ _ _=>z3f) (fun _ _ _ _=>(@zp _ _ _ _ _ _ _ _ _ _ yp (hr.mono (by decide)) rfl (@z0 _ _ _ _ _ (pv 1) (@z0 _ _ _ _ _ (pv 0) z6 rfl) rfl) (by decide) rfl rfl)) (by intro _; rfl)))),?_⟩
  walk_at "rd"
  refine ⟨⟨by omega,by omega⟩,?_⟩
  rw [Int.toNat_natCast]
  refine z30 (zd (by omega)) (fun i acc H'=>H' = H ∧ ∃ zs:List Str,acc = zs.map V.str ∧ zs.length = i ∧ ∀ z ∈ zs,z.length ≤ 16) ⟨rfl,[],rfl,rfl,by simp⟩ ?_ ?_ ?_
  ·rintro i acc H' ⟨-,zs,rfl,rfl,-⟩
   rw [List.length_map]
   exact Nat.le_refl _
  ·rintro Nn i acc H' hN hi ⟨rfl,zs,rfl,hl,hz⟩
   walk_at "rd"
   refine ⟨c,i,by simp,by omega,fun z hz'=>hN _ _ ⟨rfl,zs ++ [z],by simp,by simp [hl],?_⟩⟩
   intro y hy
   rcases List.mem_append.mp hy with h | h
   ·exact hz y h
   ·have:y = z:=by simpa using h
    rw [this]
    exact hz'
  ·rintro acc H' ⟨rfl,zs,rfl,hl,hz⟩ p hp
   exact q p zs _ hl hz hp z7 (Same.upd hp)
def zdt:Sp:=fun vs H Q _=>∃ (c w':Int) (m:Nat),vs = [.int c,.int w',.int m] ∧ m ≤ 10 ∧ ∀ (r:Addr) (zs:List Str) (H':Hp),zs.length = m → (∀ z ∈ zs,z.length ≤ 200) → H r = none → H' r = some (.lst (zs.map V.str)) → Same H H' → Q (.ref r) H'
theorem zbb (F:Def K mg "_law_locks" z4x ["_law_cell","_law_words","_law_many"]) (T:Txt K mg y0 yd yc y6 yb ya y8 y7 y9) (yp:Has P w K mg base 1 "_law_name" ["_law_cell","_law_k"] (zcj)):Has P w K mg base 2 "_law_locks" ["_law_cell","_law_words","_law_many"] (zdt):=by
 refine F.ok sc__law_locks (fun vs H Q E h=>?_) (fun f cdv A outer s H vs Q E hr h=>?_)
 ·obtain ⟨c,w',m,rfl,_⟩:=h
  rfl
 ·obtain ⟨c,w',m,rfl,hm,q⟩:=h
  have hu:=hr.units0
  refine ⟨_,(@z8 _ _ _ _ _ (@zi _ _ 3 _ _ _ _ sc__law_locks.nd rfl (Or.inl rfl) (@z1c _ _ _ _ z6) rfl (Or.inr rfl)) (@z8 _ _ _ _ _ (@zi _ _ 4 _ _ _ _ sc__law_locks.nd rfl (Or.inl rfl) (@zf _ _ _ _ _ _ _ _ z19 (pv 0) z4) rfl (Or.inr rfl)) (@z8 _ _ _ _ _ (@z25 _ _ _ _ _ _ _ _ PassesOwn.never rfl (@z2q _ _ _ _ _ _ rfl T.b_range (@z0 _ _ _ _ _ (pv 2) z6 rfl) rfl) (@z15 _ _ 5 _ sc__law_locks.nd rfl (Or.inl rfl) (Or.inr rfl)) (@z8 _ _ _ _ _ (@zi _ _ 6 _ _ _ _ sc__law_locks.nd rfl (Or.inl rfl) (@zif _ _ _ _ _ _ zfd z4) rfl (Or.inr rfl)) (@z3t _ _ _ _ _ (@zy _ _ _ _ _ _ _ _ (@zn _ _ _ _ _ _ _ _ z1a (@zf _ _ _ _ _ _ _ _ z10 (pv 0) z4) z4 (zm _)) (@za _ _ _ (@zi _ _ 6 _ _ _ _ sc__law_locks.nd rfl (Or.inl rfl) (@zf _ _ _ _ _ _ _ _ z2u (pv 5) z4) rfl (Or.inr rfl))) zo) (@z3t _ _ _ _ _ (@zy _ _ _ _ _ _ _ _ (@zn _ _ _ _ _ _ _ _ z1a (@zf _ _ _ _ _ _ _ _ z10 (pv 0) z4) z4 (zm _)) (@za _ _ _ (@zi _ _ 6 _ _ _ _ sc__law_locks.nd rfl (Or.inl rfl) (@zf _ _ _ _ _ _ _ _ z2u (@zg _ _ _ _ _ _ _ _ _ (zaf rfl) rfl T.b_min (by decide +kernel) (@z0 _ _ _ _ _ (pv 5) (@z0 _ _ _ _ _ z4 z6 rfl) rfl) (by decide) (by decide) rfl rfl) z4) rfl (Or.inr rfl))) zo) (@z3t _ _ _ _ _ (@zy _ _ _ _ _ _ _ _ (@zn _ _ _ _ _ _ _ _ z1a (@zf _ _ _ _ _ _ _ _ z10 (pv 0) z4) z4 (zm _)) (@za _ _ _ (@zi _ _ 6 _ _ _ _ sc__law_locks.nd rfl (Or.inl rfl) (@zf _ _ _ _ _ _ _ _ z19 (@zf _ _ _ _ _ _ _ _ z2u (pv 5) z4) z4) rfl (Or.inr rfl))) zo) (@z3t _ _ _ _ _ (@zy _ _ _ _ _ _ _ _ (@zn _ _ _ _ _ _ _ _ zbi (@zf _ _ _ _ _ _ _ _ z10 (pv 0) z4) z4 (zm _)) (@z8 _ _ _ _ _ (@zi _ _ 6 _ _ _ _ sc__law_locks.nd rfl (Or.inl rfl) (@zf _ _ _ _ _ _ _ _ z2u (@zf _ _ _ _ _ _ _ _ z10 (pv 4) (@zf _ _ _ _ _ _ _ _ z14 (pv 5) z4)) z4) rfl (Or.inr rfl)) (@za _ _ _ (@zi _ _ 4 _ _ _ _ sc__law_locks.nd rfl (Or.inl rfl) (@zf _ _ _ _ _ _ _ _ z19 (pv 4) (@zf _ _ _ _ _ _ _ _ z14 (pv 5) z4)) rfl (Or.inr rfl)))) zo) (@z8 _ _ _ _ _ (@zi _ _ 7 _ _ _ _ sc__law_locks.nd rfl (Or.inl rfl) (@zp _ _ _ _ _ _ _ _ _ _ yp (hr.mono (by decide)) rfl (@z0 _ _ _ _ _ (pv 1) (@z0 _ _ _ _ _ (pv 5) z6 rfl) rfl) (by decide) rfl rfl) rfl (Or.inr rfl)) (@z3t _ _ _ _ _ (@zy _ _ _ _ _ _ _ _ (PW.pt (@z3h _ _ _ _ _ _ _ (@zn _ _ _ _ _ _ _ _ zbi (pv 6) z4 (zm _)) (@z5k _ _ _ _ (@zn _ _ _ _ _ _ _ _ z76 (@z2c _ _ _ _ _ _ _ _ _ _ _ _ PySem.F.plainAttrs_str PySem.F.slot_str_count PySem.F.type_str_count zhk (@zh _ _ _ _ _ _ _ ix_list (pv 3) (pv 6) (fun _ _=>rfl)) (@z0 _ _ _ _ _ zj z6 rfl) rfl rfl rfl rfl rfl) z4 (zm _))))) (@za _ _ _ (@zi _ _ 7 _ _ _ _ sc__law_locks.nd rfl (Or.inl rfl) (@zf _ _ _ _ _ _ _ _ z3j (@zf _ _ _ _ _ _ _ _ z3j (@zh _ _ _ _ _ _ _ ix_list (pv 3) (pv 6) (fun _ _=>rfl)) zj) (pv 7)) rfl (Or.inr rfl))) zo) (@za _ _ _ (@z1w _ _ _ _ (@z2c _ _ _ _ _ _ _ _ _ _ _ _ PySem.F.plainAttrs_list PySem.F.slot_list_append PySem.F.type_list_append z23 (pv 3) (@z0 _ _ _ _ _ (pv 7) z6 rfl) rfl rfl rfl rfl rfl) rfl))))))))) (by intro _; rfl)) (@za _ _ _ (@zl _ _ _ _ (pv 3)))))),?_⟩
  walk_at "rd"
  refine ⟨by decide,fun p hp=>⟨cdiv (by decide) (by decide),⟨by omega,by omega⟩,?_⟩⟩
  rw [Int.toNat_natCast]
  let Inv:=fun (i:Nat) (zs:List Str) (H':Hp)=>zs.length = i ∧ (∀ z ∈ zs,z.length ≤ 20 * i) ∧ H' p = some (.lst (zs.map V.str)) ∧ Same H H'
  refine z59 (fun i σ H'=>∃ (zs:List Str) (r:Int) (v5 v6 v7:Option V),σ = [some (.int c),some (.int w'),some (.int m),some (.ref p),some (.int r),v5,v6,v7] ∧ Inv i zs H') ⟨[],_,_,_,_,rfl,rfl,(fun z hz=>by cases hz),z7,Same.upd hp⟩ ?_ ?_
  ·rintro Pv hP i σ H' hi ⟨zs,r,v5,v6,v7,rfl,hI⟩
   walk_at "rd"
   refine z5z (fun σ H2=>H' = H2 ∧ ∃ (pa r:Int),-1 ≤ pa ∧ pa < i ∧ σ = [some (.int c),some (.int w'),some (.int m),some (.ref p),some (.int r),some (.int (0 + i)),some (.int pa),v7]) (fun Mid hM=>?_) ?_
   ·walk_at "rd"
    exact ⟨by decide,ite2 (fun _=>hM _ _ ⟨rfl,_,_,by omega,by omega,rfl⟩) (fun _=>hM _ _ ⟨rfl,_,_,by omega,by omega,rfl⟩)⟩
   rintro σ H2 ⟨rfl,pa,r,p1,p2,rfl⟩
   refine z5z (fun σ H2=>H' = H2 ∧ ∃ (pa r:Int),-1 ≤ pa ∧ pa < i ∧ σ = [some (.int c),some (.int w'),some (.int m),some (.ref p),some (.int r),some (.int (0 + i)),some (.int pa),v7]) (fun Mid hM=>?_) ?_
   ·walk_at "rd"
    refine ⟨by decide,ite2 (fun _=>⟨_,_,⟨rfl,rfl⟩,hM _ _ ⟨rfl,_,_,?_,?_,rfl⟩⟩) (fun _=>hM _ _ ⟨rfl,_,_,p1,p2,rfl⟩)⟩ <;> (split <;> omega)
   rintro σ H2 ⟨rfl,pa,r,p1,p2,rfl⟩
   refine z5z (fun σ H2=>H' = H2 ∧ ∃ (pa r:Int),-1 ≤ pa ∧ pa < i ∧ σ = [some (.int c),some (.int w'),some (.int m),some (.ref p),some (.int r),some (.int (0 + i)),some (.int pa),v7]) (fun Mid hM=>?_) ?_
   ·walk_at "rd"
    exact ⟨by decide,ite2 (fun _=>⟨cdiv (by decide) (by decide),hM _ _ ⟨rfl,_,_,by omega,by omega,rfl⟩⟩) (fun _=>hM _ _ ⟨rfl,_,_,p1,p2,rfl⟩)⟩
   rintro σ H2 ⟨rfl,pa,r,p1,p2,rfl⟩
   refine z5z (fun σ H2=>H' = H2 ∧ ∃ (pa r:Int),-1 ≤ pa ∧ pa < i ∧ σ = [some (.int c),some (.int w'),some (.int m),some (.ref p),some (.int r),some (.int (0 + i)),some (.int pa),v7]) (fun Mid hM=>?_) ?_
   ·walk_at "rd"
    have b1:=Int.emod_nonneg r (b:=0 + (i:Int) + 1) (by omega)
    have b2:=Int.emod_lt_of_pos r (b:=0 + (i:Int) + 1) (by omega)
    exact ⟨by decide,ite2 (fun _=>⟨by omega,cdiv (by omega) (by omega),hM _ _ ⟨rfl,_,_,by omega,by omega,rfl⟩⟩) (fun _=>hM _ _ ⟨rfl,_,_,p1,p2,rfl⟩)⟩
   rintro σ H2 ⟨rfl,pa,r,p1,p2,rfl⟩
   obtain ⟨hl,hz,hg,hs⟩:=hI
   walk_at "rd"
   refine ⟨w',i,by simp,by omega,fun z hz16=>?_⟩
   refine z5z (fun σ H2=>H' = H2 ∧ ∃ z:Str,z.length ≤ 20 * (i + 1) ∧ σ = [some (.int c),some (.int w'),some (.int m),some (.ref p),some (.int r),some (.int (0 + i)),some (.int pa),some (.str z)]) (fun Mid hM=>?_) ?_
   ·walk_at "rd"
    refine ite2 (fun h0=>?_) (fun _=>hM _ _ ⟨rfl,z,by omega,rfl⟩)
    obtain ⟨n,rfl⟩:=Int.eq_ofNat_of_zero_le (of_decide_eq_true h0)
    have hn:n < zs.length:=by omega
    have gn:(zs.map V.str)[n]? = some (.str zs[n]):=by rw [List.getElem?_map,List.getElem?_eq_getElem hn]; rfl
    have bn:=hz _ (List.getElem_mem hn)
    have l1:("/" : Str).length = 1:=rfl
    refine ⟨_,_,_,_,rfl,rfl,SqL.of hg,zb gn,trivial,_,rfl,ite2 (fun _=>?_) (fun _=>hM _ _ ⟨rfl,z,by omega,rfl⟩)⟩
    refine ⟨_,_,_,_,rfl,rfl,SqL.of hg,zb gn,_,rfl,zd (by omega),zd (by rw [PySem.Str.length_append]; omega),hM _ _ ⟨rfl,_,?_,rfl⟩⟩
    rw [PySem.Str.length_append,PySem.Str.length_append]
    omega
   rintro σ H2 ⟨rfl,y,hy,rfl⟩
   walk_at "rd"
   refine ⟨.inl ⟨_,SqL.of hg⟩,_,_,_,rfl,rfl,hg,by rw [List.length_map]; exact z1u (by omega),hP _ _ _ ⟨zs ++ [y],_,_,_,_,rfl,by simp [hl],fun x hx=>?_,?_,?_⟩⟩
   ·rcases List.mem_append.mp hx with h | h
    ·have:=hz x h
     omega
    ·have:x = y:=by simpa using h
     rw [this]
     exact hy
   ·rw [z7,List.map_append]
    rfl
   ·intro b o e
    rw [z9 (zc e hp)]
    exact hs b o e
  ·rintro σ H' ⟨zs,r,v5,v6,v7,rfl,hl,hz,hg,hs⟩
   walk_at "rd"
   exact q p zs H' hl (fun z h=>by have:=hz z h; omega) hp hg hs
def zey (a b:Str):Bool:=decide ((sp a).take (min (sp a).length (sp b).length) = (sp b).take (min (sp a).length (sp b).length))
def zgt:Sp:=fun vs H Q _=>∃ a b:Str,vs = [.str a,.str b] ∧ a.length ≤ 1000 ∧ b.length ≤ 1000 ∧ z52 H Q (.bl (zey a b))
theorem zcl (F:Def K mg "_law_line" z5e ["_law_one","_law_other"]) (T:Txt K mg y0 yd yc y6 yb ya y8 y7 y9):Has P w K mg base 1 "_law_line" ["_law_one","_law_other"] (zgt):=by
 refine F.ok sc__law_line (fun vs H Q E h=>?_) (fun f cdv A outer s H vs Q E hr h=>?_)
 ·obtain ⟨a,b,rfl,_⟩:=h
  rfl
 ·obtain ⟨a,b,rfl,ha,hb,k⟩:=h
  have hu:=hr.units0
  refine ⟨_,(@z8 _ _ _ _ _ (@zi _ _ 2 _ _ _ _ sc__law_line.nd rfl (Or.inl rfl) (@z2c _ _ _ _ _ _ _ _ _ _ _ _ PySem.F.plainAttrs_str PySem.F.slot_str_split PySem.F.type_str_split z5y (pv 0) (@z0 _ _ _ _ _ zj z6 rfl) rfl rfl rfl rfl rfl) rfl (Or.inr rfl)) (@z8 _ _ _ _ _ (@zi _ _ 3 _ _ _ _ sc__law_line.nd rfl (Or.inl rfl) (@z2c _ _ _ _ _ _ _ _ _ _ _ _ PySem.F.plainAttrs_str PySem.F.slot_str_split PySem.F.type_str_split z5y (pv 1) (@z0 _ _ _ _ _ zj z6 rfl) rfl rfl rfl rfl rfl) rfl (Or.inr rfl)) (@z8 _ _ _ _ _ (@zi _ _ 4 _ _ _ _ sc__law_line.nd rfl (Or.inl rfl) (@zg _ _ _ _ _ _ _ _ _ (zaf rfl) rfl T.b_min (by decide +kernel) (@z0 _ _ _ _ _ (@zg _ _ _ _ _ _ _ _ _ zq rfl T.b_len (by decide +kernel) (@z0 _ _ _ _ _ (pv 2) z6 rfl) (by decide) (by decide) rfl rfl) (@z0 _ _ _ _ _ (@zg _ _ _ _ _ _ _ _ _ zq rfl T.b_len (by decide +kernel) (@z0 _ _ _ _ _ (pv 3) z6 rfl) (by decide) (by decide) rfl rfl) z6 rfl) rfl) (by decide) (by decide) rfl rfl) rfl (Or.inr rfl)) (@za _ _ _ (@zl _ _ _ _ (@z1e _ _ _ _ _ _ _ _ (zfq hu) (@z5v _ _ _ _ _ _ _ _ _ _ z9m (pv 2) z78 (@z79 _ _ _ (pv 4))) (@z5v _ _ _ _ _ _ _ _ _ _ z9m (pv 3) z78 (@z79 _ _ _ (pv 4))) (zm _))))))),?_⟩
  walk_at "rd"
  refine z7b rfl (by omega) fun p hp=>z7b rfl (by omega) fun q hq=>?_
  have npq:p ≠ q:=zc z7 hq
  have gp:(upd (upd H p (.lst ((Txt.split a "/").map V.str))) q (.lst ((Txt.split b "/").map V.str))) p = some (.lst ((Txt.split a "/").map V.str)):=by rw [z9 npq,z7]
  refine ⟨_,rfl,_,.inl (SqL.of gp),_,rfl,_,.inl (SqL.of z7),_,_,⟨rfl,rfl⟩,_,_,rfl,SqL.of gp,fun r hr'=>?_⟩
  have nr:∀ b,b = p ∨ b = q → b ≠ r:=fun b hb z=>by
   subst z
   rcases hb with rfl | rfl
   ·rw [gp] at hr'; cases hr'
   ·rw [z7] at hr'; cases hr'
  have em:(if ((List.map V.str (Txt.split b "/")).length:Int) < ((List.map V.str (Txt.split a "/")).length:Int) then ((List.map V.str (Txt.split b "/")).length:Int) else ((List.map V.str (Txt.split a "/")).length:Int)) = ((min (sp a).length (sp b).length:Nat):Int):=by
   rw [List.length_map,List.length_map]
   show (if ((sp b).length:Int) < ((sp a).length:Int) then ((sp b).length:Int) else ((sp a).length:Int)) = _
   split <;> omega
  rw [em]
  refine ⟨_,_,rfl,SqL.of (by rw [z9 (nr q (.inr rfl)),z7]),fun t ht=>?_⟩
  have nrt:r ≠ t:=zc z7 ht
  have c1:cutV (List.map V.str (Txt.split a "/")) none (some ((min (sp a).length (sp b).length:Nat):Int)) = ((sp a).take (min (sp a).length (sp b).length)).map V.str:=by rw [z8n,← List.map_take]; rfl
  have c2:cutV (List.map V.str (Txt.split b "/")) none (some ((min (sp a).length (sp b).length:Nat):Int)) = ((sp b).take (min (sp a).length (sp b).length)).map V.str:=by rw [z8n,← List.map_take]; rfl
  refine ⟨_,_,_,_,rfl,rfl,SqL.of (by rw [z9 nrt,z7]),SqL.of z7,by rw [c1]; exact z2l _,by rw [c2]; exact z2l _,?_⟩
  have e:eqVs (cutV (List.map V.str (Txt.split a "/")) none (some ((min (sp a).length (sp b).length:Nat):Int))) (cutV (List.map V.str (Txt.split b "/")) none (some ((min (sp a).length (sp b).length:Nat):Int))) = zey a b:=by
   rw [c1,c2,z5x]
   rfl
  show Q (.bl (eqVs _ _)) _
  rw [e]
  exact k _ ((((Same.upd hp).trans (Same.upd hq)).trans (Same.upd hr')).trans (Same.upd ht))
theorem zi0 (a b:Str):onl a b = onl b a:=by unfold onl; rw [Bool.or_comm]
theorem zi1 {α:Type} [DecidableEq α] (A B:List α):(decide (A.take B.length = B) || decide (B.take A.length = A)) = decide (A.take (min A.length B.length) = B.take (min A.length B.length)):=by
 rw [Bool.eq_iff_iff]
 simp only [Bool.or_eq_true,decide_eq_true_eq]
 constructor
 ·rintro (h | h)
  ·have hl:B.length ≤ A.length:=by have:=congrArg List.length h; rw [List.length_take] at this; omega
   rw [Nat.min_eq_right hl,h,List.take_length]
  ·have hl:A.length ≤ B.length:=by have:=congrArg List.length h; rw [List.length_take] at this; omega
   rw [Nat.min_eq_left hl,h,List.take_length]
 ·intro h
  by_cases hl:B.length ≤ A.length
  ·rw [Nat.min_eq_right hl,List.take_length] at h
   exact .inl h
  ·rw [Nat.min_eq_left (by omega),List.take_length] at h
   exact .inr h.symm
theorem zji (a b:Str):onl a b = zey a b:=zi1 (sp a) (sp b)
def zgu:Sp:=fun vs H Q _=>∃ (a b:Str) (x y:Bool),vs = [.str a,.bl x,.str b,.bl y] ∧ a.length ≤ 1000 ∧ b.length ≤ 1000 ∧ z52 H Q (.bl (onl a b && !(x && y)))
theorem zd9 (F:Def K mg "_law_way" z60 ["_law_lock","_law_shared","_law_other","_law_other_shared"]) (T:Txt K mg y0 yd yc y6 yb ya y8 y7 y9) (y1b:Has P w K mg base 1 "_law_line" ["_law_one","_law_other"] (zgt)):Has P w K mg base 2 "_law_way" ["_law_lock","_law_shared","_law_other","_law_other_shared"] (zgu):=by
  refine F.ok zd6 (fun vs H Q E h=>?_) (fun f cdv A outer s H vs Q E hr h=>?_)
  · obtain ⟨a,b,x,y,rfl,_⟩:=h
    rfl
  · obtain ⟨a,b,x,y,rfl,ha,hb,q⟩:=h
    have hu:=hr.units0
    refine ⟨_,(@za _ _ _ (@zl _ _ _ _ (@z2a _ _ _ _ _ _ _ (@zbn _ _ _ _ (@z2a _ _ _ _ _ _ _ (pv 1) (@z24 _ _ _ _ _ (pv 3)))) (@z24 _ _ _ _ _ (@zp _ _ _ _ _ _ _ _ _ _ y1b (hr.mono (by decide)) rfl (@z0 _ _ _ _ _ (pv 0) (@z0 _ _ _ _ _ (pv 2) z6 rfl) rfl) (by decide) rfl rfl))))),?_⟩
    walk_at "rd"
    have e:=zji a b
    cases x <;> cases y <;> simp only [Bool.not_true,Bool.not_false,if_true,if_false,Bool.false_eq_true] <;>
    first
    | (refine ⟨a,b,rfl,ha,hb,fun H' s'=>?_⟩
       have:=q H' s'
       rw [e] at this
       simpa using this)
    | (have:=q H (Same.refl _)
       simpa using this)
def z99 (v:V):Prop:=(∃ i,v = .int i) ∨ (∃ z,v = .str z) ∨ (∃ b,v = .bl b)
def Alike (H:Hp):Nat → V → V → Prop
 | 0,v,v'=>v = v' ∧ z99 v
 | n + 1,v,v'=>(v = v' ∧ z99 v) ∨ ∃ (a b:Addr) (xs ys:List V),v = .ref a ∧ v' = .ref b ∧ ((H a = some (.lst xs) ∧ H b = some (.lst ys)) ∨ (H a = some (.tup xs) ∧ H b = some (.tup ys))) ∧ xs.length = ys.length ∧ xs.length ≤ 1000 ∧
   ∀ (i:Nat) (x y:V),xs[i]? = some x → ys[i]? = some y → Alike H n x y
theorem Alike.mono {H H':Hp} (s:Same H H'):∀ {n:Nat} {v v':V},Alike H n v v' → Alike H' n v v'
 | 0,_,_,h=>h
 | n + 1,_,_,.inl h=>.inl h
 | n + 1,_,_,.inr ⟨a,b,xs,ys,e1,e2,h,hl,hz,k⟩=>.inr ⟨a,b,xs,ys,e1,e2,h.elim (fun z=>.inl ⟨s _ _ z.1,s _ _ z.2⟩) (fun z=>.inr ⟨s _ _ z.1,s _ _ z.2⟩),hl,hz,fun i x y hx hy=>Alike.mono s (k i x y hx hy)⟩
theorem Alike.up {H:Hp}:∀ {n:Nat} {v v':V},Alike H n v v' → Alike H (n + 1) v v'
 | 0,_,_,h=>.inl h
 | n + 1,_,_,.inl h=>.inl h
 | n + 1,_,_,.inr ⟨a,b,xs,ys,e1,e2,h,hl,hz,k⟩=>.inr ⟨a,b,xs,ys,e1,e2,h,hl,hz,fun i x y hx hy=>(k i x y hx hy).up⟩
def z2o (n:Nat):Sp:=fun vs H Q _=>∃ v v',vs = [v,v'] ∧ Alike H n v v' ∧ z52 H Q (.bl true)
theorem zi2 (F:Def K mg "_law_same" z2h ["_law_found","_law_due"]) (T:Txt K mg y0 yd yc y6 yb ya y8 y7 y9) (yg:Has P w K mg base 0 "_law_same" ["_law_found","_law_due"] (zdn)):Has P w K mg base 1 "_law_same" ["_law_found","_law_due"] (z2o 0):=by
 refine F.ok z70 (fun vs H Q E h=>?_) (fun f cdv A outer s H vs Q E hr h=>?_)
 ·obtain ⟨v,v',rfl,_⟩:=h
  rfl
 ·have hu:=hr.units0
  obtain ⟨v,v',rfl,pv',q⟩:=h
  replace pv':v = v' ∧ z99 v:=pv'
  ·obtain ⟨rfl,pv'⟩:=pv'
   refine ⟨_,(@z8 _ _ _ _ _ (@zy _ _ _ _ _ _ _ _ (@z1k _ _ _ (@zg _ _ _ _ _ _ _ _ _ z6p rfl T.b_isinstance (by decide +kernel) (@z0 _ _ _ _ _ (pv 1) (@z0 _ _ _ _ _ (@z1l _ _ _ _ _ (@z0 _ _ _ _ _ (@zt _ _ (.ty "list") _ _ rfl T.b_list (by decide +kernel) rfl (by decide) (by decide)) (@z0 _ _ _ _ _ (@zt _ _ (.ty "tuple") _ _ rfl T.b_tuple (by decide +kernel) rfl (by decide) (by decide)) z6 rfl) rfl)) z6 rfl) rfl) (by decide) (by decide) rfl rfl) (by intro _; rfl)) (@z8 _ _ _ _ _ (@zy _ _ _ _ _ _ _ _ (PW.pt (@z75 _ _ _ _ _ _ _ (@zn _ _ _ _ _ _ _ _ z2r (@zg _ _ _ _ _ _ _ _ _ zw rfl T.b_isinstance (by decide +kernel) (@z0 _ _ _ _ _ (pv 0) (@z0 _ _ _ _ _ (@zt _ _ (.ty "list") _ _ rfl T.b_list (by decide +kernel) rfl (by decide) (by decide)) z6 rfl) rfl) (by decide) (by decide) rfl rfl) (@zg _ _ _ _ _ _ _ _ _ zw rfl T.b_isinstance (by decide +kernel) (@z0 _ _ _ _ _ (pv 1) (@z0 _ _ _ _ _ (@zt _ _ (.ty "list") _ _ rfl T.b_list (by decide +kernel) rfl (by decide) (by decide)) z6 rfl) rfl) (by decide) (by decide) rfl rfl) (zm _)) (@z5l _ _ _ _ (@zn _ _ _ _ _ _ _ _ z2r (@zg _ _ _ _ _ _ _ _ _ zw rfl T.b_isinstance (by decide +kernel) (@z0 _ _ _ _ _ (pv 0) (@z0 _ _ _ _ _ (@zt _ _ (.ty "tuple") _ _ rfl T.b_tuple (by decide +kernel) rfl (by decide) (by decide)) z6 rfl) rfl) (by decide) (by decide) rfl rfl) (@zg _ _ _ _ _ _ _ _ _ zw rfl T.b_isinstance (by decide +kernel) (@z0 _ _ _ _ _ (pv 1) (@z0 _ _ _ _ _ (@zt _ _ (.ty "tuple") _ _ rfl T.b_tuple (by decide +kernel) rfl (by decide) (by decide)) z6 rfl) rfl) (by decide) (by decide) rfl rfl) (zm _))))) (@za _ _ _ (@zl _ _ _ _ z22)) zo) (@za _ _ _ (@zl _ _ _ _ (@z2a _ _ _ _ _ _ _ (@z1e _ _ _ _ _ _ _ _ z1a (@zg _ _ _ _ _ _ _ _ _ zq rfl T.b_len (by decide +kernel) (@z0 _ _ _ _ _ (pv 0) z6 rfl) (by decide) (by decide) rfl rfl) (@zg _ _ _ _ _ _ _ _ _ zq rfl T.b_len (by decide +kernel) (@z0 _ _ _ _ _ (pv 1) z6 rfl) (by decide) (by decide) rfl rfl) (zm _)) (@z24 _ _ _ _ _ (@zg _ _ _ _ _ _ _ _ _ (z58 rfl) rfl T.b_all (by decide +kernel) (@z0 _ _ _ _ _ (@z1x _ _ "_law_k" (["_law_found","_law_due"]) ([0,1]) _ _ _ _ _ _ _ _ rfl ⟨rfl,by decide +kernel,by decide +kernel,rfl,zu rfl,by decide +kernel,⟨⟨rfl,Or.inl rfl,rfl⟩,⟨⟨rfl,Or.inl rfl,rfl⟩,trivial⟩⟩⟩ (@z2q _ _ _ _ _ _ rfl T.b_range (@z0 _ _ _ _ _ (@zg _ _ _ _ _ _ _ _ _ zq rfl T.b_len (by decide +kernel) (@z0 _ _ _ _ _ (pv 1) z6 rfl) (by decide) (by decide) rfl rfl) z6 rfl) rfl) (fun _ _ _ _=>z3f) (fun _ _ _ _=>(@zp _ _ _ _ _ _ _ _ _ _ yg (hr.mono (by decide)) rfl (@z0 _ _ _ _ _ (@zh _ _ _ _ _ _ _ (z3u (K:=K)) (pv 1) (pv 0) (fun _ _=>rfl)) (@z0 _ _ _ _ _ (@zh _ _ _ _ _ _ _ (z3u (K:=K)) (pv 2) (pv 0) (fun _ _=>rfl)) z6 rfl) rfl) (by decide) rfl rfl)) (by intro _; rfl)) z6 rfl) (by decide) (by decide) rfl rfl)))))) zo) (@z8 _ _ _ _ _ (@zy _ _ _ _ _ _ _ _ (@zn _ _ _ _ _ _ _ _ z2r (@zg _ _ _ _ _ _ _ _ _ zw rfl T.b_isinstance (by decide +kernel) (@z0 _ _ _ _ _ (pv 0) (@z0 _ _ _ _ _ (@zt _ _ (.ty "bool") _ _ rfl T.b_bool (by decide +kernel) rfl (by decide) (by decide)) z6 rfl) rfl) (by decide) (by decide) rfl rfl) (@zg _ _ _ _ _ _ _ _ _ zw rfl T.b_isinstance (by decide +kernel) (@z0 _ _ _ _ _ (pv 1) (@z0 _ _ _ _ _ (@zt _ _ (.ty "bool") _ _ rfl T.b_bool (by decide +kernel) rfl (by decide) (by decide)) z6 rfl) rfl) (by decide) (by decide) rfl rfl) (zm _)) (@za _ _ _ (@zl _ _ _ _ z22)) zo) (@z8 _ _ _ _ _ (@zy _ _ _ _ _ _ _ _ (@z1k _ _ _ (@zg _ _ _ _ _ _ _ _ _ zw rfl T.b_isinstance (by decide +kernel) (@z0 _ _ _ _ _ (pv 1) (@z0 _ _ _ _ _ (@zt _ _ (.ty "int") _ _ rfl T.b_int (by decide +kernel) rfl (by decide) (by decide)) z6 rfl) rfl) (by decide) (by decide) rfl rfl) (by intro _; rfl)) (@za _ _ _ (@zl _ _ _ _ (@z2a _ _ _ _ _ _ _ (@zg _ _ _ _ _ _ _ _ _ zw rfl T.b_isinstance (by decide +kernel) (@z0 _ _ _ _ _ (pv 0) (@z0 _ _ _ _ _ (@zt _ _ (.ty "int") _ _ rfl T.b_int (by decide +kernel) rfl (by decide) (by decide)) z6 rfl) rfl) (by decide) (by decide) rfl rfl) (@z24 _ _ _ _ _ (@z1e _ _ _ _ _ _ _ _ z1a (pv 0) (pv 1) (zm _)))))) zo) (@za _ _ _ (@zl _ _ _ _ (@z2a _ _ _ _ _ _ _ (@zg _ _ _ _ _ _ _ _ _ zw rfl T.b_isinstance (by decide +kernel) (@z0 _ _ _ _ _ (pv 0) (@z0 _ _ _ _ _ (@zt _ _ (.ty "str") _ _ rfl T.b_str (by decide +kernel) rfl (by decide) (by decide)) z6 rfl) rfl) (by decide) (by decide) rfl rfl) (@z24 _ _ _ _ _ (@z1e _ _ _ _ _ _ _ _ z1a (pv 0) (pv 1) (zm _))))))))),?_⟩
   walk_at "rd"
   refine ⟨zd (by decide),fun p hp=>?_⟩
   have s1:=q _ (Same.upd (o:=.tup [V.ty "list",V.ty "tuple"]) hp)
   rcases pv' with ⟨i,rfl⟩ | ⟨z,rfl⟩ | ⟨b,rfl⟩
   ·refine ⟨_,_,⟨rfl,rfl⟩,_,_,SqT.of z7,_,.int i,_,(z3g K).1,?_⟩
    rw [if_neg Bool.false_ne_true]
    refine ⟨_,_,⟨rfl,rfl⟩,_,.int i,_,z3m K,_,_,⟨rfl,rfl⟩,_,.int i,_,z3m K,?_⟩
    rw [if_neg (by decide)]
    refine ⟨_,_,⟨rfl,rfl⟩,_,.int i,_,(z1d K).1,?_⟩
    rw [if_pos rfl]
    refine ⟨_,_,⟨rfl,rfl⟩,_,.int i,_,(z1d K).1,?_⟩
    rw [if_pos rfl]
    exact ⟨rfl,by simpa using s1⟩
   ·refine ⟨_,_,⟨rfl,rfl⟩,_,_,SqT.of z7,_,.str z,_,(z3g K).2.2.1,?_⟩
    rw [if_neg Bool.false_ne_true]
    refine ⟨_,_,⟨rfl,rfl⟩,_,.str z,_,(z1d K).2.2.2.2.2.1,_,_,⟨rfl,rfl⟩,_,.str z,_,(z1d K).2.2.2.2.2.1,?_⟩
    rw [if_neg (by decide)]
    refine ⟨_,_,⟨rfl,rfl⟩,_,.str z,_,(z1d K).2.2.1,?_⟩
    rw [if_neg Bool.false_ne_true]
    refine ⟨_,_,⟨rfl,rfl⟩,_,.str z,_,(z1d K).2.2.2.1,?_⟩
    rw [if_pos rfl]
    exact ⟨rfl,by simpa using s1⟩
   ·refine ⟨_,_,⟨rfl,rfl⟩,_,_,SqT.of z7,_,.bl b,_,(z3g K).2.1,?_⟩
    rw [if_neg Bool.false_ne_true]
    refine ⟨_,_,⟨rfl,rfl⟩,_,.bl b,_,z3a K,_,_,⟨rfl,rfl⟩,_,.bl b,_,z3a K,?_⟩
    rw [if_neg (by decide)]
    refine ⟨_,_,⟨rfl,rfl⟩,_,.bl b,_,(z1d K).2.1,?_⟩
    rw [if_pos rfl]
    refine ⟨_,_,⟨rfl,rfl⟩,_,.bl b,_,(z1d K).2.1,?_⟩
    rw [if_pos rfl]
    exact ⟨rfl,by simpa using s1⟩
theorem z8a {n:Nat} (F:Def K mg "_law_same" z2h ["_law_found","_law_due"]) (T:Txt K mg y0 yd yc y6 yb ya y8 y7 y9) (yg:Has P w K mg base (n + 1) "_law_same" ["_law_found","_law_due"] (z2o n)):Has P w K mg base (n + 1 + 1) "_law_same" ["_law_found","_law_due"] (z2o (n + 1)):=by
 refine F.ok z70 (fun vs H Q E h=>?_) (fun f cdv A outer s H vs Q E hr h=>?_)
 ·obtain ⟨v,v',rfl,_⟩:=h
  rfl
 ·have hu:=hr.units0
  obtain ⟨v,v',rfl,pv',q⟩:=h
  rcases pv' with pv' | ⟨a,b,xs,ys,rfl,rfl,hab,hlm,hz,kk⟩
  ·obtain ⟨rfl,pv'⟩:=pv'
   refine ⟨_,(@z8 _ _ _ _ _ (@zy _ _ _ _ _ _ _ _ (@z1k _ _ _ (@zg _ _ _ _ _ _ _ _ _ z6p rfl T.b_isinstance (by decide +kernel) (@z0 _ _ _ _ _ (pv 1) (@z0 _ _ _ _ _ (@z1l _ _ _ _ _ (@z0 _ _ _ _ _ (@zt _ _ (.ty "list") _ _ rfl T.b_list (by decide +kernel) rfl (by decide) (by decide)) (@z0 _ _ _ _ _ (@zt _ _ (.ty "tuple") _ _ rfl T.b_tuple (by decide +kernel) rfl (by decide) (by decide)) z6 rfl) rfl)) z6 rfl) rfl) (by decide) (by decide) rfl rfl) (by intro _; rfl)) (@z8 _ _ _ _ _ (@zy _ _ _ _ _ _ _ _ (PW.pt (@z75 _ _ _ _ _ _ _ (@zn _ _ _ _ _ _ _ _ z2r (@zg _ _ _ _ _ _ _ _ _ zw rfl T.b_isinstance (by decide +kernel) (@z0 _ _ _ _ _ (pv 0) (@z0 _ _ _ _ _ (@zt _ _ (.ty "list") _ _ rfl T.b_list (by decide +kernel) rfl (by decide) (by decide)) z6 rfl) rfl) (by decide) (by decide) rfl rfl) (@zg _ _ _ _ _ _ _ _ _ zw rfl T.b_isinstance (by decide +kernel) (@z0 _ _ _ _ _ (pv 1) (@z0 _ _ _ _ _ (@zt _ _ (.ty "list") _ _ rfl T.b_list (by decide +kernel) rfl (by decide) (by decide)) z6 rfl) rfl) (by decide) (by decide) rfl rfl) (zm _)) (@z5l _ _ _ _ (@zn _ _ _ _ _ _ _ _ z2r (@zg _ _ _ _ _ _ _ _ _ zw rfl T.b_isinstance (by decide +kernel) (@z0 _ _ _ _ _ (pv 0) (@z0 _ _ _ _ _ (@zt _ _ (.ty "tuple") _ _ rfl T.b_tuple (by decide +kernel) rfl (by decide) (by decide)) z6 rfl) rfl) (by decide) (by decide) rfl rfl) (@zg _ _ _ _ _ _ _ _ _ zw rfl T.b_isinstance (by decide +kernel) (@z0 _ _ _ _ _ (pv 1) (@z0 _ _ _ _ _ (@zt _ _ (.ty "tuple") _ _ rfl T.b_tuple (by decide +kernel) rfl (by decide) (by decide)) z6 rfl) rfl) (by decide) (by decide) rfl rfl) (zm _))))) (@za _ _ _ (@zl _ _ _ _ z22)) zo) (@za _ _ _ (@zl _ _ _ _ (@z2a _ _ _ _ _ _ _ (@z1e _ _ _ _ _ _ _ _ z1a (@zg _ _ _ _ _ _ _ _ _ zq rfl T.b_len (by decide +kernel) (@z0 _ _ _ _ _ (pv 0) z6 rfl) (by decide) (by decide) rfl rfl) (@zg _ _ _ _ _ _ _ _ _ zq rfl T.b_len (by decide +kernel) (@z0 _ _ _ _ _ (pv 1) z6 rfl) (by decide) (by decide) rfl rfl) (zm _)) (@z24 _ _ _ _ _ (@zg _ _ _ _ _ _ _ _ _ (z58 rfl) rfl T.b_all (by decide +kernel) (@z0 _ _ _ _ _ (@z1x _ _ "_law_k" (["_law_found","_law_due"]) ([0,1]) _ _ _ _ _ _ _ _ rfl ⟨rfl,by decide +kernel,by decide +kernel,rfl,zu rfl,by decide +kernel,⟨⟨rfl,Or.inl rfl,rfl⟩,⟨⟨rfl,Or.inl rfl,rfl⟩,trivial⟩⟩⟩ (@z2q _ _ _ _ _ _ rfl T.b_range (@z0 _ _ _ _ _ (@zg _ _ _ _ _ _ _ _ _ zq rfl T.b_len (by decide +kernel) (@z0 _ _ _ _ _ (pv 1) z6 rfl) (by decide) (by decide) rfl rfl) z6 rfl) rfl) (fun _ _ _ _=>z3f) (fun _ _ _ _=>(@zp _ _ _ _ _ _ _ _ _ _ yg (hr.mono (by omega)) rfl (@z0 _ _ _ _ _ (@zh _ _ _ _ _ _ _ (z3u (K:=K)) (pv 1) (pv 0) (fun _ _=>rfl)) (@z0 _ _ _ _ _ (@zh _ _ _ _ _ _ _ (z3u (K:=K)) (pv 2) (pv 0) (fun _ _=>rfl)) z6 rfl) rfl) (by decide) rfl rfl)) (by intro _; rfl)) z6 rfl) (by decide) (by decide) rfl rfl)))))) zo) (@z8 _ _ _ _ _ (@zy _ _ _ _ _ _ _ _ (@zn _ _ _ _ _ _ _ _ z2r (@zg _ _ _ _ _ _ _ _ _ zw rfl T.b_isinstance (by decide +kernel) (@z0 _ _ _ _ _ (pv 0) (@z0 _ _ _ _ _ (@zt _ _ (.ty "bool") _ _ rfl T.b_bool (by decide +kernel) rfl (by decide) (by decide)) z6 rfl) rfl) (by decide) (by decide) rfl rfl) (@zg _ _ _ _ _ _ _ _ _ zw rfl T.b_isinstance (by decide +kernel) (@z0 _ _ _ _ _ (pv 1) (@z0 _ _ _ _ _ (@zt _ _ (.ty "bool") _ _ rfl T.b_bool (by decide +kernel) rfl (by decide) (by decide)) z6 rfl) rfl) (by decide) (by decide) rfl rfl) (zm _)) (@za _ _ _ (@zl _ _ _ _ z22)) zo) (@z8 _ _ _ _ _ (@zy _ _ _ _ _ _ _ _ (@z1k _ _ _ (@zg _ _ _ _ _ _ _ _ _ zw rfl T.b_isinstance (by decide +kernel) (@z0 _ _ _ _ _ (pv 1) (@z0 _ _ _ _ _ (@zt _ _ (.ty "int") _ _ rfl T.b_int (by decide +kernel) rfl (by decide) (by decide)) z6 rfl) rfl) (by decide) (by decide) rfl rfl) (by intro _; rfl)) (@za _ _ _ (@zl _ _ _ _ (@z2a _ _ _ _ _ _ _ (@zg _ _ _ _ _ _ _ _ _ zw rfl T.b_isinstance (by decide +kernel) (@z0 _ _ _ _ _ (pv 0) (@z0 _ _ _ _ _ (@zt _ _ (.ty "int") _ _ rfl T.b_int (by decide +kernel) rfl (by decide) (by decide)) z6 rfl) rfl) (by decide) (by decide) rfl rfl) (@z24 _ _ _ _ _ (@z1e _ _ _ _ _ _ _ _ z1a (pv 0) (pv 1) (zm _)))))) zo) (@za _ _ _ (@zl _ _ _ _ (@z2a _ _ _ _ _ _ _ (@zg _ _ _ _ _ _ _ _ _ zw rfl T.b_isinstance (by decide +kernel) (@z0 _ _ _ _ _ (pv 0) (@z0 _ _ _ _ _ (@zt _ _ (.ty "str") _ _ rfl T.b_str (by decide +kernel) rfl (by decide) (by decide)) z6 rfl) rfl) (by decide) (by decide) rfl rfl) (@z24 _ _ _ _ _ (@z1e _ _ _ _ _ _ _ _ z1a (pv 0) (pv 1) (zm _))))))))),?_⟩
   walk_at "rd"
   refine ⟨zd (by decide),fun p hp=>?_⟩
   have s1:=q _ (Same.upd (o:=.tup [V.ty "list",V.ty "tuple"]) hp)
   rcases pv' with ⟨i,rfl⟩ | ⟨z,rfl⟩ | ⟨b,rfl⟩
   ·refine ⟨_,_,⟨rfl,rfl⟩,_,_,SqT.of z7,_,.int i,_,(z3g K).1,?_⟩
    rw [if_neg Bool.false_ne_true]
    refine ⟨_,_,⟨rfl,rfl⟩,_,.int i,_,z3m K,_,_,⟨rfl,rfl⟩,_,.int i,_,z3m K,?_⟩
    rw [if_neg (by decide)]
    refine ⟨_,_,⟨rfl,rfl⟩,_,.int i,_,(z1d K).1,?_⟩
    rw [if_pos rfl]
    refine ⟨_,_,⟨rfl,rfl⟩,_,.int i,_,(z1d K).1,?_⟩
    rw [if_pos rfl]
    exact ⟨rfl,by simpa using s1⟩
   ·refine ⟨_,_,⟨rfl,rfl⟩,_,_,SqT.of z7,_,.str z,_,(z3g K).2.2.1,?_⟩
    rw [if_neg Bool.false_ne_true]
    refine ⟨_,_,⟨rfl,rfl⟩,_,.str z,_,(z1d K).2.2.2.2.2.1,_,_,⟨rfl,rfl⟩,_,.str z,_,(z1d K).2.2.2.2.2.1,?_⟩
    rw [if_neg (by decide)]
    refine ⟨_,_,⟨rfl,rfl⟩,_,.str z,_,(z1d K).2.2.1,?_⟩
    rw [if_neg Bool.false_ne_true]
    refine ⟨_,_,⟨rfl,rfl⟩,_,.str z,_,(z1d K).2.2.2.1,?_⟩
    rw [if_pos rfl]
    exact ⟨rfl,by simpa using s1⟩
   ·refine ⟨_,_,⟨rfl,rfl⟩,_,_,SqT.of z7,_,.bl b,_,(z3g K).2.1,?_⟩
    rw [if_neg Bool.false_ne_true]
    refine ⟨_,_,⟨rfl,rfl⟩,_,.bl b,_,z3a K,_,_,⟨rfl,rfl⟩,_,.bl b,_,z3a K,?_⟩
    rw [if_neg (by decide)]
    refine ⟨_,_,⟨rfl,rfl⟩,_,.bl b,_,(z1d K).2.1,?_⟩
    rw [if_pos rfl]
    refine ⟨_,_,⟨rfl,rfl⟩,_,.bl b,_,(z1d K).2.1,?_⟩
    rw [if_pos rfl]
    exact ⟨rfl,by simpa using s1⟩
  ·skip
   refine ⟨_,(@z8 _ _ _ _ _ (@zy _ _ _ _ _ _ _ _ (@z1k _ _ _ (@zg _ _ _ _ _ _ _ _ _ z6p rfl T.b_isinstance (by decide +kernel) (@z0 _ _ _ _ _ (pv 1) (@z0 _ _ _ _ _ (@z1l _ _ _ _ _ (@z0 _ _ _ _ _ (@zt _ _ (.ty "list") _ _ rfl T.b_list (by decide +kernel) rfl (by decide) (by decide)) (@z0 _ _ _ _ _ (@zt _ _ (.ty "tuple") _ _ rfl T.b_tuple (by decide +kernel) rfl (by decide) (by decide)) z6 rfl) rfl)) z6 rfl) rfl) (by decide) (by decide) rfl rfl) (by intro _; rfl)) (@z8 _ _ _ _ _ (@zy _ _ _ _ _ _ _ _ (PW.pt (@z75 _ _ _ _ _ _ _ (@zn _ _ _ _ _ _ _ _ z2r (@zg _ _ _ _ _ _ _ _ _ zw rfl T.b_isinstance (by decide +kernel) (@z0 _ _ _ _ _ (pv 0) (@z0 _ _ _ _ _ (@zt _ _ (.ty "list") _ _ rfl T.b_list (by decide +kernel) rfl (by decide) (by decide)) z6 rfl) rfl) (by decide) (by decide) rfl rfl) (@zg _ _ _ _ _ _ _ _ _ zw rfl T.b_isinstance (by decide +kernel) (@z0 _ _ _ _ _ (pv 1) (@z0 _ _ _ _ _ (@zt _ _ (.ty "list") _ _ rfl T.b_list (by decide +kernel) rfl (by decide) (by decide)) z6 rfl) rfl) (by decide) (by decide) rfl rfl) (zm _)) (@z5l _ _ _ _ (@zn _ _ _ _ _ _ _ _ z2r (@zg _ _ _ _ _ _ _ _ _ zw rfl T.b_isinstance (by decide +kernel) (@z0 _ _ _ _ _ (pv 0) (@z0 _ _ _ _ _ (@zt _ _ (.ty "tuple") _ _ rfl T.b_tuple (by decide +kernel) rfl (by decide) (by decide)) z6 rfl) rfl) (by decide) (by decide) rfl rfl) (@zg _ _ _ _ _ _ _ _ _ zw rfl T.b_isinstance (by decide +kernel) (@z0 _ _ _ _ _ (pv 1) (@z0 _ _ _ _ _ (@zt _ _ (.ty "tuple") _ _ rfl T.b_tuple (by decide +kernel) rfl (by decide) (by decide)) z6 rfl) rfl) (by decide) (by decide) rfl rfl) (zm _))))) (@za _ _ _ (@zl _ _ _ _ z22)) zo) (@za _ _ _ (@zl _ _ _ _ (@z2a _ _ _ _ _ _ _ (@z1e _ _ _ _ _ _ _ _ z1a (@zg _ _ _ _ _ _ _ _ _ zq rfl T.b_len (by decide +kernel) (@z0 _ _ _ _ _ (pv 0) z6 rfl) (by decide) (by decide) rfl rfl) (@zg _ _ _ _ _ _ _ _ _ zq rfl T.b_len (by decide +kernel) (@z0 _ _ _ _ _ (pv 1) z6 rfl) (by decide) (by decide) rfl rfl) (zm _)) (@z24 _ _ _ _ _ (@zg _ _ _ _ _ _ _ _ _ (z58 rfl) rfl T.b_all (by decide +kernel) (@z0 _ _ _ _ _ (@z1x _ _ "_law_k" (["_law_found","_law_due"]) ([0,1]) _ _ _ _ _ _ _ _ rfl ⟨rfl,by decide +kernel,by decide +kernel,rfl,zu rfl,by decide +kernel,⟨⟨rfl,Or.inl rfl,rfl⟩,⟨⟨rfl,Or.inl rfl,rfl⟩,trivial⟩⟩⟩ (@z2q _ _ _ _ _ _ rfl T.b_range (@z0 _ _ _ _ _ (@zg _ _ _ _ _ _ _ _ _ zq rfl T.b_len (by decide +kernel) (@z0 _ _ _ _ _ (pv 1) z6 rfl) (by decide) (by decide) rfl rfl) z6 rfl) rfl) (fun _ _ _ _=>z3f) (fun _ _ _ _=>(@zp _ _ _ _ _ _ _ _ _ _ yg (hr.mono (by omega)) rfl (@z0 _ _ _ _ _ (@zh _ _ _ _ _ _ _ (z3u (K:=K)) (pv 1) (pv 0) (fun _ _=>rfl)) (@z0 _ _ _ _ _ (@zh _ _ _ _ _ _ _ (z3u (K:=K)) (pv 2) (pv 0) (fun _ _=>rfl)) z6 rfl) rfl) (by decide) rfl rfl)) (by intro _; rfl)) z6 rfl) (by decide) (by decide) rfl rfl)))))) zo) (@z8 _ _ _ _ _ (@zy _ _ _ _ _ _ _ _ (@zn _ _ _ _ _ _ _ _ z2r (@zg _ _ _ _ _ _ _ _ _ zw rfl T.b_isinstance (by decide +kernel) (@z0 _ _ _ _ _ (pv 0) (@z0 _ _ _ _ _ (@zt _ _ (.ty "bool") _ _ rfl T.b_bool (by decide +kernel) rfl (by decide) (by decide)) z6 rfl) rfl) (by decide) (by decide) rfl rfl) (@zg _ _ _ _ _ _ _ _ _ zw rfl T.b_isinstance (by decide +kernel) (@z0 _ _ _ _ _ (pv 1) (@z0 _ _ _ _ _ (@zt _ _ (.ty "bool") _ _ rfl T.b_bool (by decide +kernel) rfl (by decide) (by decide)) z6 rfl) rfl) (by decide) (by decide) rfl rfl) (zm _)) (@za _ _ _ (@zl _ _ _ _ z22)) zo) (@z8 _ _ _ _ _ (@zy _ _ _ _ _ _ _ _ (@z1k _ _ _ (@zg _ _ _ _ _ _ _ _ _ zw rfl T.b_isinstance (by decide +kernel) (@z0 _ _ _ _ _ (pv 1) (@z0 _ _ _ _ _ (@zt _ _ (.ty "int") _ _ rfl T.b_int (by decide +kernel) rfl (by decide) (by decide)) z6 rfl) rfl) (by decide) (by decide) rfl rfl) (by intro _; rfl)) (@za _ _ _ (@zl _ _ _ _ (@z2a _ _ _ _ _ _ _ (@zg _ _ _ _ _ _ _ _ _ zw rfl T.b_isinstance (by decide +kernel) (@z0 _ _ _ _ _ (pv 0) (@z0 _ _ _ _ _ (@zt _ _ (.ty "int") _ _ rfl T.b_int (by decide +kernel) rfl (by decide) (by decide)) z6 rfl) rfl) (by decide) (by decide) rfl rfl) (@z24 _ _ _ _ _ (@z1e _ _ _ _ _ _ _ _ z1a (pv 0) (pv 1) (zm _)))))) zo) (@za _ _ _ (@zl _ _ _ _ (@z2a _ _ _ _ _ _ _ (@zg _ _ _ _ _ _ _ _ _ zw rfl T.b_isinstance (by decide +kernel) (@z0 _ _ _ _ _ (pv 0) (@z0 _ _ _ _ _ (@zt _ _ (.ty "str") _ _ rfl T.b_str (by decide +kernel) rfl (by decide) (by decide)) z6 rfl) rfl) (by decide) (by decide) rfl rfl) (@z24 _ _ _ _ _ (@z1e _ _ _ _ _ _ _ _ z1a (pv 0) (pv 1) (zm _))))))))),?_⟩
   walk_at "rd"
   refine ⟨zd (by decide),fun p hp=>?_⟩
   have s1:=Same.upd (o:=.tup [V.ty "list",V.ty "tuple"]) hp
   rcases hab with ⟨ha,hb⟩ | ⟨ha,hb⟩
   ·have ha1:=s1 _ _ ha
    have hb1:=s1 _ _ hb
    refine ⟨_,_,⟨rfl,rfl⟩,_,_,SqT.of z7,_,.lst hb1,_,(z3g K).2.2.2.1,?_⟩
    rw [if_pos rfl]
    refine ⟨_,_,⟨rfl,rfl⟩,_,.lst ha1,_,z6c K,_,_,⟨rfl,rfl⟩,_,.lst hb1,_,z6c K,?_⟩
    rw [if_neg (by decide)]
    refine ⟨_,_,⟨rfl,rfl⟩,_,.lst ha1,_,(z1d K).2.2.2.2.2.2.2.2,_,_,⟨rfl,rfl⟩,_,.lst hb1,_,(z1d K).2.2.2.2.2.2.2.2,?_⟩
    rw [if_neg (by decide)]
    refine ⟨xs,.inl (SqL.of ha1),ys,.inl (SqL.of hb1),?_⟩
    rw [if_pos (by rw [hlm]; simp)]
    refine ⟨ys,.inl (SqL.of hb1),⟨by omega,by omega⟩,?_⟩
    rw [Int.toNat_natCast,← hlm]
    refine z30 (zd (by omega)) (fun i acc H'=>acc = (List.replicate i true).map V.bl ∧ Same (upd H p (.tup [V.ty "list",V.ty "tuple"])) H') ⟨rfl,Same.refl _⟩ ?_ ?_ ?_
    ·rintro i acc H' ⟨rfl,-⟩
     simp
    ·rintro Nn i acc H' hN hi ⟨rfl,s2⟩
     walk_at "rd"
     have ei:((0:Int) + (i:Int)) = (i:Int):=by omega
     rw [ei]
     have gx:xs[i]? = some xs[i]:=List.getElem?_eq_getElem hi
     have gy:ys[i]? = some (ys[i]'(by omega)):=List.getElem?_eq_getElem (by omega)
     refine (.inl ⟨_,_,_,_,rfl,rfl,SqL.of (s2 _ _ ha1),zb gx,?_⟩)
     refine (.inl ⟨_,_,_,_,rfl,rfl,SqL.of (s2 _ _ hb1),zb gy,?_⟩)
     refine ⟨_,_,rfl,(kk i _ _ gx gy).mono (s1.trans s2),fun H3 s3=>hN _ _ ⟨?_,s2.trans s3⟩⟩
     rw [List.replicate_succ',List.map_append]
     rfl
    ·rintro acc H' ⟨rfl,s2⟩ r hr'
     refine ⟨_,rfl,_,SqL.of z7,?_⟩
     have e:(List.replicate xs.length true).all id = true:=by simp
     rw [e]
     exact q _ ((s1.trans s2).trans (Same.upd hr'))
   ·have ha1:=s1 _ _ ha
    have hb1:=s1 _ _ hb
    refine ⟨_,_,⟨rfl,rfl⟩,_,_,SqT.of z7,_,.tup hb1,_,(z3g K).2.2.2.2,?_⟩
    rw [if_pos rfl]
    refine ⟨_,_,⟨rfl,rfl⟩,_,.tup ha1,_,(z1d K).2.2.2.2.2.2.2.1,_,_,⟨rfl,rfl⟩,_,.tup hb1,_,(z1d K).2.2.2.2.2.2.2.1,?_⟩
    rw [if_neg (by decide)]
    refine ⟨_,_,⟨rfl,rfl⟩,_,.tup ha1,_,(z1d K).2.2.2.2.2.2.1,_,_,⟨rfl,rfl⟩,_,.tup hb1,_,(z1d K).2.2.2.2.2.2.1,?_⟩
    rw [if_neg (by decide)]
    refine ⟨xs,.inr (SqT.of ha1),ys,.inr (SqT.of hb1),?_⟩
    rw [if_pos (by rw [hlm]; simp)]
    refine ⟨ys,.inr (SqT.of hb1),⟨by omega,by omega⟩,?_⟩
    rw [Int.toNat_natCast,← hlm]
    refine z30 (zd (by omega)) (fun i acc H'=>acc = (List.replicate i true).map V.bl ∧ Same (upd H p (.tup [V.ty "list",V.ty "tuple"])) H') ⟨rfl,Same.refl _⟩ ?_ ?_ ?_
    ·rintro i acc H' ⟨rfl,-⟩
     simp
    ·rintro Nn i acc H' hN hi ⟨rfl,s2⟩
     walk_at "rd"
     have ei:((0:Int) + (i:Int)) = (i:Int):=by omega
     rw [ei]
     have gx:xs[i]? = some xs[i]:=List.getElem?_eq_getElem hi
     have gy:ys[i]? = some (ys[i]'(by omega)):=List.getElem?_eq_getElem (by omega)
     refine (.inr (.inl ⟨_,_,_,_,rfl,rfl,SqT.of (s2 _ _ ha1),zb gx,?_⟩))
     refine (.inr (.inl ⟨_,_,_,_,rfl,rfl,SqT.of (s2 _ _ hb1),zb gy,?_⟩))
     refine ⟨_,_,rfl,(kk i _ _ gx gy).mono (s1.trans s2),fun H3 s3=>hN _ _ ⟨?_,s2.trans s3⟩⟩
     rw [List.replicate_succ',List.map_append]
     rfl
    ·rintro acc H' ⟨rfl,s2⟩ r hr'
     refine ⟨_,rfl,_,SqL.of z7,?_⟩
     have e:(List.replicate xs.length true).all id = true:=by simp
     rw [e]
     exact q _ ((s1.trans s2).trans (Same.upd hr'))
theorem zi3 (F:Def K mg "_law_same" z2h ["_law_found","_law_due"]) (T:Txt K mg y0 yd yc y6 yb ya y8 y7 y9) (yg:Has P w K mg base 2 "_law_same" ["_law_found","_law_due"] (z2o 1)):Has P w K mg base 3 "_law_same" ["_law_found","_law_due"] (z2o 2):=z8a F T yg
theorem zi4 (F:Def K mg "_law_same" z2h ["_law_found","_law_due"]) (T:Txt K mg y0 yd yc y6 yb ya y8 y7 y9) (yg:Has P w K mg base 3 "_law_same" ["_law_found","_law_due"] (z2o 2)):Has P w K mg base 4 "_law_same" ["_law_found","_law_due"] (z2o 3):=z8a F T yg
def zgv:Sp:=fun vs H Q _=>∃ (c:Int) (p:Addr) (zs:List Str),vs = [.int c,.ref p] ∧ H p = some (.lst (zs.map V.str)) ∧ zs.length ≤ 10 ∧ ∀ (r:Addr) (ys:List Str) (H':Hp),ys.length ≤ 10 → (∀ y ∈ ys,y ∈ zs) → H r = none → H' r = some (.lst (ys.map V.str)) → Same H H' → Q (.ref r) H'
theorem zcm (F:Def K mg "_law_some" z5d ["_law_cell","_law_names_here"]) (T:Txt K mg y0 yd yc y6 yb ya y8 y7 y9):Has P w K mg base 1 "_law_some" ["_law_cell","_law_names_here"] (zgv):=by
 refine F.ok sc__law_some (fun vs H Q E h=>?_) (fun f cdv A outer s H vs Q E hr h=>?_)
 ·obtain ⟨c,p,zs,rfl,_⟩:=h
  rfl
 ·obtain ⟨c,p,zs,rfl,hp,hl,q⟩:=h
  refine ⟨_,(@z8 _ _ _ _ _ (@zi _ _ 2 _ _ _ _ sc__law_some.nd rfl (Or.inl rfl) (@z1c _ _ _ _ z6) rfl (Or.inr rfl)) (@z8 _ _ _ _ _ (@zi _ _ 3 _ _ _ _ sc__law_some.nd rfl (Or.inl rfl) (pv 0) rfl (Or.inr rfl)) (@z8 _ _ _ _ _ (@z25 _ _ _ _ _ _ _ _ PassesOwn.never rfl (@z18 _ _ _ _ (pv 1)) (@z15 _ _ 4 _ sc__law_some.nd rfl (Or.inl rfl) (Or.inr rfl)) (@z3t _ _ _ _ _ (@zy _ _ _ _ _ _ _ _ (@zn _ _ _ _ _ _ _ _ z1a (@zf _ _ _ _ _ _ _ _ z10 (pv 3) z4) z4 (zm _)) (@za _ _ _ (@z1w _ _ _ _ (@z2c _ _ _ _ _ _ _ _ _ _ _ _ PySem.F.plainAttrs_list PySem.F.slot_list_append PySem.F.type_list_append z23 (pv 2) (@z0 _ _ _ _ _ (pv 4) z6 rfl) rfl rfl rfl rfl rfl) rfl)) zo) (@za _ _ _ (@zi _ _ 3 _ _ _ _ sc__law_some.nd rfl (Or.inl rfl) (@zf _ _ _ _ _ _ _ _ z19 (pv 3) z4) rfl (Or.inr rfl)))) (by intro _; rfl)) (@za _ _ _ (@zl _ _ _ _ (pv 2)))))),?_⟩
  walk_at "rd"
  refine ⟨Nat.zero_le _,fun r hr0=>⟨⟨_,SqL.of (Same.upd hr0 _ _ hp)⟩,?_⟩⟩
  have npr:p ≠ r:=zc hp hr0
  refine z1i (xs:=zs.map V.str) (fun i σ H'=>∃ (c':Int) (v4:Option V) (ys:List Str),σ = [some (V.int c),some (V.ref p),some (V.ref r),some (V.int c'),v4] ∧ ys.length ≤ i ∧ (∀ y ∈ ys,y ∈ zs) ∧ H' r = some (.lst (ys.map V.str)) ∧ Same H H') ⟨c,_,[],rfl,Nat.le_refl _,(fun y hy=>by cases hy),z7,Same.upd hr0⟩ ?_ ?_ ?_
  ·rintro i σ H' - ⟨c',v4,ys,rfl,-,-,-,s1⟩
   exact SqL.of (s1 _ _ hp)
  ·rintro Pv hP i x σ H' hx ⟨c',v4,ys,rfl,ly,my,gr,s1⟩
   rw [List.getElem?_map] at hx
   cases e:zs[i]? with
   | none=>rw [e] at hx; cases hx
   | some z =>
   rw [e] at hx
   cases hx
   walk_at "rd"
   have mz:=List.mem_of_getElem? e
   have il:i < zs.length:=(List.getElem?_eq_some_iff.mp e).1
   refine z5z (fun σ H2=>∃ ys:List Str,σ = [some (V.int c),some (V.ref p),some (V.ref r),some (V.int c'),some (V.str z)] ∧ ys.length ≤ i + 1 ∧ (∀ y ∈ ys,y ∈ zs) ∧ H2 r = some (.lst (ys.map V.str)) ∧ Same H H2) (fun Mid hM=>?_) ?_
   ·walk_at "rd"
    refine ⟨by decide,ite2 (fun _=>?_) (fun _=>hM _ _ ⟨ys,rfl,by omega,my,gr,s1⟩)⟩
    refine ⟨.inl ⟨_,SqL.of gr⟩,_,_,_,rfl,rfl,gr,z1u (by rw [List.length_map]; omega),hM _ _ ⟨ys ++ [z],rfl,by rw [List.length_append]; show _ + 1 ≤ _; omega,fun y hy=>?_,by rw [z7]; simp,fun b o hb=>?_⟩⟩
    ·rcases List.mem_append.mp hy with hy | hy
     ·exact my y hy
     ·rw [List.mem_singleton.mp hy]; exact mz
    ·rw [z9 (zc hb hr0)]; exact s1 _ _ hb
   ·rintro σ H2 ⟨ys,rfl,ly,my,gr,s1⟩
    walk_at "rd"
    exact ⟨cdiv (by decide) (by decide),hP _ _ _ ⟨_,_,ys,rfl,ly,my,gr,s1⟩⟩
  ·rintro σ H' ⟨c',v4,ys,rfl,ly,my,gr,s1⟩
   walk_at "rd"
   rw [List.length_map] at ly
   exact q r ys H' (by omega) my hr0 gr s1
structure Su where
 n:Nat
 ph:Addr
 pl:Addr
 pc:Addr
 pt:Addr
 hs:List Str
 lks:List Str
 shs:List Str
 sts:List Str
structure SuAt (H:Hp) (a:Addr) (u:Su):Prop where
 tu:H a = some (.tup [.int (u.n:Int),.ref u.ph,.ref u.pl,.ref u.pc,.ref u.pt])
 gh:H u.ph = some (.lst (u.hs.map V.str))
 gl:H u.pl = some (.lst (u.lks.map V.str))
 gc:H u.pc = some (.lst (u.shs.map V.str))
 gt:H u.pt = some (.lst (u.sts.map V.str))
structure Su.ok (u:Su):Prop where
 n1:1 ≤ u.n
 n5:u.n ≤ 5
 h1:1 ≤ u.hs.length
 h8:u.hs.length ≤ 8
 l1:1 ≤ u.lks.length
 l10:u.lks.length ≤ 10
 c10:u.shs.length ≤ 10
 t4:u.sts.length ≤ 4
 hl:∀ z ∈ u.hs,z.length ≤ 16
 ll:∀ z ∈ u.lks,z.length ≤ 200
theorem SuAt.mono {H H':Hp} {a:Addr} {u:Su} (h:SuAt H a u) (s:Same H H'):SuAt H' a u:=⟨s _ _ h.tu,s _ _ h.gh,s _ _ h.gl,s _ _ h.gc,s _ _ h.gt⟩
def zdu (K:PySem.W.Frag):Sp:=fun vs H Q _=>∃ (a:Addr) (ns:List Int),vs = [.ref a] ∧ SqL K H a (ns.map V.int) ∧ ns.length ≤ 63 ∧ ∀ (r:Addr) (u:Su) (H':Hp),SuAt H' r u → u.ok → Same H H' → Q (.ref r) H'
theorem zbc (F:Def K mg "_law_setup" z4y ["_law_script"]) (T:Txt K mg y0 yd yc y6 yb ya y8 y7 y9) (yl:Has P w K mg base 1 "_law_at" ["_law_script","_law_k"] (spAt K)) (yw:Has P w K mg base 2 "_law_names" ["_law_cell","_law_many"] (zds)) (y19:Has P w K mg base 2 "_law_locks" ["_law_cell","_law_words","_law_many"] (zdt)) (y1a:Has P w K mg base 1 "_law_some" ["_law_cell","_law_names_here"] (zgv)):Has P w K mg base 3 "_law_setup" ["_law_script"] (zdu K):=by
 refine F.ok sc__law_setup (fun vs H Q E h=>?_) (fun f cdv A outer s H vs Q E hr h=>?_)
 ·obtain ⟨a,ns,rfl,_⟩:=h
  rfl
 ·obtain ⟨a,ns,rfl,ha,hns,q⟩:=h
  have hu:=hr.units0
  refine ⟨_,(@z8 _ _ _ _ _ (@zi _ _ 1 _ _ _ _ sc__law_setup.nd rfl (Or.inl rfl) (@zf _ _ _ _ _ _ _ _ z14 z4 (@zf _ _ _ _ _ _ _ _ z10 (@zp _ _ _ _ _ _ _ _ _ _ yl (hr.mono (by decide)) rfl (@z0 _ _ _ _ _ (pv 0) (@z0 _ _ _ _ _ z4 z6 rfl) rfl) (by decide) rfl rfl) z4)) rfl (Or.inr rfl)) (@z8 _ _ _ _ _ (@zi _ _ 2 _ _ _ _ sc__law_setup.nd rfl (Or.inl rfl) (@zp _ _ _ _ _ _ _ _ _ _ yw (hr.mono (by decide)) rfl (@z0 _ _ _ _ _ (@zf _ _ _ _ _ _ _ _ z19 (@zp _ _ _ _ _ _ _ _ _ _ yl (hr.mono (by decide)) rfl (@z0 _ _ _ _ _ (pv 0) (@z0 _ _ _ _ _ z4 z6 rfl) rfl) (by decide) rfl rfl) z4) (@z0 _ _ _ _ _ (@zf _ _ _ _ _ _ _ _ z14 z4 (@zf _ _ _ _ _ _ _ _ z10 (@zf _ _ _ _ _ _ _ _ z14 (@zp _ _ _ _ _ _ _ _ _ _ yl (hr.mono (by decide)) rfl (@z0 _ _ _ _ _ (pv 0) (@z0 _ _ _ _ _ z4 z6 rfl) rfl) (by decide) rfl rfl) z4) z4)) z6 rfl) rfl) (by decide) rfl rfl) rfl (Or.inr rfl)) (@z8 _ _ _ _ _ (@zi _ _ 3 _ _ _ _ sc__law_setup.nd rfl (Or.inl rfl) (@zp _ _ _ _ _ _ _ _ _ _ y19 (hr.mono (by decide)) rfl (@z0 _ _ _ _ _ (@zp _ _ _ _ _ _ _ _ _ _ yl (hr.mono (by decide)) rfl (@z0 _ _ _ _ _ (pv 0) (@z0 _ _ _ _ _ z4 z6 rfl) rfl) (by decide) rfl rfl) (@z0 _ _ _ _ _ (@zf _ _ _ _ _ _ _ _ z19 (@zp _ _ _ _ _ _ _ _ _ _ yl (hr.mono (by decide)) rfl (@z0 _ _ _ _ _ (pv 0) (@z0 _ _ _ _ _ z4 z6 rfl) rfl) (by decide) rfl rfl) z4) (@z0 _ _ _ _ _ (@zf _ _ _ _ _ _ _ _ z14 z4 (@zf _ _ _ _ _ _ _ _ z10 (@zf _ _ _ _ _ _ _ _ z14 (@zp _ _ _ _ _ _ _ _ _ _ yl (hr.mono (by decide)) rfl (@z0 _ _ _ _ _ (pv 0) (@z0 _ _ _ _ _ z4 z6 rfl) rfl) (by decide) rfl rfl) z4) z4)) z6 rfl) rfl) rfl) (by decide) rfl rfl) rfl (Or.inr rfl)) (@z8 _ _ _ _ _ (@zi _ _ 4 _ _ _ _ sc__law_setup.nd rfl (Or.inl rfl) (@zp _ _ _ _ _ _ _ _ _ _ y1a (hr.mono (by decide)) rfl (@z0 _ _ _ _ _ (@zf _ _ _ _ _ _ _ _ z2u (@zf _ _ _ _ _ _ _ _ z19 (@zp _ _ _ _ _ _ _ _ _ _ yl (hr.mono (by decide)) rfl (@z0 _ _ _ _ _ (pv 0) (@z0 _ _ _ _ _ z4 z6 rfl) rfl) (by decide) rfl rfl) z4) z4) (@z0 _ _ _ _ _ (pv 3) z6 rfl) rfl) (by decide) rfl rfl) rfl (Or.inr rfl)) (@z8 _ _ _ _ _ (@zi _ _ 5 _ _ _ _ sc__law_setup.nd rfl (Or.inl rfl) (@zp _ _ _ _ _ _ _ _ _ _ yw (hr.mono (by decide)) rfl (@z0 _ _ _ _ _ (@zf _ _ _ _ _ _ _ _ z19 (@zp _ _ _ _ _ _ _ _ _ _ yl (hr.mono (by decide)) rfl (@z0 _ _ _ _ _ (pv 0) (@z0 _ _ _ _ _ z4 z6 rfl) rfl) (by decide) rfl rfl) z4) (@z0 _ _ _ _ _ (@zh _ _ _ _ _ _ _ ix_list (@z1c _ _ _ _ (@z0 _ _ _ _ _ z4 (@z0 _ _ _ _ _ z4 (@z0 _ _ _ _ _ z4 (@z0 _ _ _ _ _ z4 (@z0 _ _ _ _ _ z4 (@z0 _ _ _ _ _ z4 (@z0 _ _ _ _ _ z4 (@z0 _ _ _ _ _ z4 z6 rfl) rfl) rfl) rfl) rfl) rfl) rfl) rfl)) (@zf _ _ _ _ _ _ _ _ z10 (@zp _ _ _ _ _ _ _ _ _ _ yl (hr.mono (by decide)) rfl (@z0 _ _ _ _ _ (pv 0) (@z0 _ _ _ _ _ z4 z6 rfl) rfl) (by decide) rfl rfl) z4) (fun _ _=>rfl)) z6 rfl) rfl) (by decide) rfl rfl) rfl (Or.inr rfl)) (@za _ _ _ (@zl _ _ _ _ (@z1l _ _ _ _ _ (@z0 _ _ _ _ _ (pv 1) (@z0 _ _ _ _ _ (pv 2) (@z0 _ _ _ _ _ (pv 3) (@z0 _ _ _ _ _ (pv 4) (@z0 _ _ _ _ _ (pv 5) z6 rfl) rfl) rfl) rfl) rfl))))))))),?_⟩
  walk_at "rd"
  refine ⟨a,ns,0,rfl,ha,by omega,_,rfl,by decide,?_⟩
  obtain ⟨n,en⟩:=Int.eq_ofNat_of_zero_le (show 0 ≤ 1 + ns.getD 0 0 % 5 by omega)
  rw [en]
  refine ⟨a,ns,0,rfl,ha,by omega,_,rfl,cdiv (by decide) (by decide),a,ns,1,rfl,ha,by omega,_,rfl,by decide,?_⟩
  obtain ⟨m,em⟩:=Int.eq_ofNat_of_zero_le (show 0 ≤ 1 + (ns.getD 1 0 + 2) % 8 by omega)
  rw [em]
  refine ⟨_,m,rfl,by omega,fun ph hz H1 hl1 hN1 hp0 gh s1=>?_⟩
  refine ⟨a,ns,2,rfl,s1.seq ha,by omega,a,ns,1,rfl,s1.seq ha,by omega,_,rfl,cdiv (by decide) (by decide),a,ns,3,rfl,s1.seq ha,by omega,_,rfl,by decide,?_⟩
  obtain ⟨m2,em2⟩:=Int.eq_ofNat_of_zero_le (show 0 ≤ 1 + (ns.getD 3 0 + 2) % 10 by omega)
  rw [em2]
  refine ⟨_,_,m2,rfl,by omega,fun pl lz H2 hl2 hN2 lp0 gl s2=>?_⟩
  have s12:=s1.trans s2
  refine ⟨a,ns,3,rfl,s12.seq ha,by omega,_,rfl,cdiv (by decide) (by decide),?_⟩
  refine ⟨_,pl,lz,rfl,gl,by omega,fun pc cz H3 hl3 hN3 cp0 gc s3=>?_⟩
  have s13:=s12.trans s3
  refine ⟨a,ns,4,rfl,s13.seq ha,by omega,_,rfl,cdiv (by decide) (by decide),zd (by decide),fun p4 hp4=>?_⟩
  have u4:=Same.upd (o:=.lst [V.int 1,V.int 2,V.int 1,V.int 4,V.int 1,V.int 3,V.int 0,V.int 1]) hp4
  have g4:upd H3 p4 (.lst [V.int 1,V.int 2,V.int 1,V.int 4,V.int 1,V.int 3,V.int 0,V.int 1]) p4 = some (.lst [V.int 1,V.int 2,V.int 1,V.int 4,V.int 1,V.int 3,V.int 0,V.int 1]):=z7
  generalize upd H3 p4 (.lst [V.int 1,V.int 2,V.int 1,V.int 4,V.int 1,V.int 3,V.int 0,V.int 1]) = H4 at u4 g4 ⊢
  refine ⟨a,ns,4,rfl,(s13.trans u4).seq ha,by omega,_,rfl,by decide,?_⟩
  obtain ⟨m3,em3,hm3⟩:∃ m3:Nat,atI [V.int 1,V.int 2,V.int 1,V.int 4,V.int 1,V.int 3,V.int 0,V.int 1] (ns.getD 4 0 % 8) = some (V.int (m3:Int)) ∧ m3 ≤ 4:=by
   rcases (show ns.getD 4 0 % 8 = 0 ∨ ns.getD 4 0 % 8 = 1 ∨ ns.getD 4 0 % 8 = 2 ∨ ns.getD 4 0 % 8 = 3 ∨ ns.getD 4 0 % 8 = 4 ∨ ns.getD 4 0 % 8 = 5 ∨ ns.getD 4 0 % 8 = 6 ∨ ns.getD 4 0 % 8 = 7 by omega) with e | e | e | e | e | e | e | e
   ·exact ⟨1,by rw [e]; exact zb (j:=0) rfl,by decide⟩
   ·exact ⟨2,by rw [e]; exact zb (j:=1) rfl,by decide⟩
   ·exact ⟨1,by rw [e]; exact zb (j:=2) rfl,by decide⟩
   ·exact ⟨4,by rw [e]; exact zb (j:=3) rfl,by decide⟩
   ·exact ⟨1,by rw [e]; exact zb (j:=4) rfl,by decide⟩
   ·exact ⟨3,by rw [e]; exact zb (j:=5) rfl,by decide⟩
   ·exact ⟨0,by rw [e]; exact zb (j:=6) rfl,by decide⟩
   ·exact ⟨1,by rw [e]; exact zb (j:=7) rfl,by decide⟩
  refine ⟨_,_,_,_,rfl,rfl,SqL.of g4,em3,?_⟩
  refine ⟨_,m3,rfl,by omega,fun pt tz H5 hl5 hN5 tp0 gt s5=>⟨zd (by decide),fun r hr0=>?_⟩⟩
  have u6:=Same.upd (o:=.tup [V.int (n:Int),V.ref ph,V.ref pl,V.ref pc,V.ref pt]) hr0
  have s45:=u4.trans s5
  exact q r ⟨n,ph,pl,pc,pt,hz,lz,cz,tz⟩ _ ⟨z7,u6 _ _ (s45 _ _ (s3 _ _ (s2 _ _ gh))),u6 _ _ (s45 _ _ (s3 _ _ gl)),u6 _ _ (s45 _ _ gc),u6 _ _ gt⟩ ⟨by show 1 ≤ n; omega,by show n ≤ 5; omega,by show 1 ≤ hz.length; omega,by show hz.length ≤ 8; omega,by show 1 ≤ lz.length; omega,by show lz.length ≤ 10; omega,hl3,by show tz.length ≤ 4; omega,hN1,hN2⟩ ((s13.trans s45).trans u6)
def za8:Sp:=fun vs H Q _=>∃ (c k:Int) (a:Addr) (u:Su),vs = [.int c,.int k,.ref a] ∧ SuAt H a u ∧ u.ok ∧ ∀ (r:Addr) (hd lk:Str) (sh:Bool) (tm:Int) (H':Hp),hd ∈ u.hs → lk ∈ u.lks → 1 ≤ tm → tm ≤ 1000 → H' r = some (.tup [.str "ask",.str hd,.str lk,.bl sh,.int tm]) → Same H H' → Q (.ref r) H'
theorem zcn {zs:List Str} (h:1 ≤ zs.length) (i:Int):∃ z ∈ zs,atI (zs.map V.str) (i % (zs.length:Int)) = some (V.str z):=by
 have h0:0 ≤ i % (zs.length:Int):=Int.emod_nonneg _ (by omega)
 have h1:i % (zs.length:Int) < (zs.length:Int):=Int.emod_lt_of_pos _ (by omega)
 obtain ⟨j,ej⟩:=Int.eq_ofNat_of_zero_le h0
 have hj:j < zs.length:=by omega
 refine ⟨zs[j],List.getElem_mem hj,?_⟩
 rw [ej]
 exact zb (by rw [List.getElem?_map,List.getElem?_eq_getElem hj]; rfl)
theorem zez {X:Cx} {K:PySem.W.Frag} (hu:X.A.units < cLine) (h:X.K = K:=by rfl):OpR X (compareOp .Eq) (fun x y H Q=>∃ p q xs,x = .ref p ∧ y = .ref q ∧ SqL K H p xs ∧ SqL K H q [] ∧ Q (.bl xs.isEmpty) H):=h ▸ zbw hu
structure Nk where
 k:Nat
 x:Nt
def Nk.vals (q:Nk):List V:=[.int ((q.k:Int) + 1),.int q.x.n,.str q.x.h,.str q.x.l,.bl q.x.sh,.int q.x.e]
abbrev KL:=List (Addr × Nk)
def refk (L:KL):List V:=L.map fun q=>V.ref q.1
theorem z43 (L:KL):(refk L).length = L.length:=List.length_map _
theorem z8b {L:KL} {i:Nat} {x:V} (h:(refk L)[i]? = some x):∃ q,L[i]? = some q ∧ x = .ref q.1:=by
 unfold refk at h
 rw [List.getElem?_map] at h
 cases e:L[i]? with
 | none=>rw [e] at h; cases h
 | some q=>rw [e] at h; exact ⟨q,rfl,(Option.some.inj h).symm⟩
def KsAt (H:Hp) (L:KL):Prop:=∀ q ∈ L,H q.1 = some (.tup q.2.vals)
def cyv (x:Nt):List V:=[.str x.h,.int x.n,.str x.l,.bl x.sh,.int x.e]
structure Sv where
 now:Int
 ps:Addr
 pu:Addr
 pt:Addr
 pn:Addr
 pr:Addr
 pc:Addr
 pk:Addr
 po:Addr
 pl:Addr
 us:List Bool
 ts:List Int
 N:KL
 C:NL
 lg:List V
def stw (S:Sv):List (Key × V):=[(.inr "now",.int S.now),(.inr "setup",.ref S.ps),(.inr "ups",.ref S.pu),(.inr "tops",.ref S.pt),(.inr "notes",.ref S.pn),(.inr "row",.ref S.pr),(.inr "carry",.ref S.pc),(.inr "sleep",.ref S.pk),(.inr "took",.ref S.po),(.inr "log",.ref S.pl)]
section
variable {H:Hp} {d:Addr} {S:Sv}
theorem z55 {k:Key} {v:V} (e:H d = some (.dK (stw S))) (h:valV (stw S) k = some v):DGet H d (kV k) (some v):=by
 have:=DGet.k (k:=k) e
 rwa [h] at this
theorem z2p (e:H d = some (.dK (stw S))):DGet H d (.str "now") (some (.int S.now)):=z55 (k:=.inr "now") e (by kernel_rfl)
theorem z8c (e:H d = some (.dK (stw S))):DGet H d (.str "setup") (some (.ref S.ps)):=z55 (k:=.inr "setup") e (by kernel_rfl)
theorem z9a (e:H d = some (.dK (stw S))):DGet H d (.str "ups") (some (.ref S.pu)):=z55 (k:=.inr "ups") e (by kernel_rfl)
theorem za9 (e:H d = some (.dK (stw S))):DGet H d (.str "tops") (some (.ref S.pt)):=z55 (k:=.inr "tops") e (by kernel_rfl)
theorem z8d (e:H d = some (.dK (stw S))):DGet H d (.str "notes") (some (.ref S.pn)):=z55 (k:=.inr "notes") e (by kernel_rfl)
theorem zkd (e:H d = some (.dK (stw S))):DGet H d (.str "row") (some (.ref S.pr)):=z55 (k:=.inr "row") e (by kernel_rfl)
theorem zco (e:H d = some (.dK (stw S))):DGet H d (.str "carry") (some (.ref S.pc)):=z55 (k:=.inr "carry") e (by kernel_rfl)
theorem zgw (e:H d = some (.dK (stw S))):DGet H d (.str "log") (some (.ref S.pl)):=z55 (k:=.inr "log") e (by kernel_rfl)
theorem ten (S:Sv):(stw S).length < sizeLine:=z1u (by show 10 ≤ 1000; decide)
theorem z9b {k:Key} {v:V} {S':Sv} (e:H d = some (.dK (stw S))) (h:putK (stw S) k v = stw S'):DPut H d (kV k) v (upd H d (.dK (stw S'))):=by
 have:=DPut.k (k:=k) (v:=v) e (ten S)
 rwa [h] at this
theorem zf0 (e:H d = some (.dK (stw S))) (n:Int):DPut H d (.str "now") (.int n) (upd H d (.dK (stw { S with now:=n }))):=z9b (k:=.inr "now") e (by kernel_rfl)
theorem z73 (e:H d = some (.dK (stw S))) (p:Addr) (N:KL):DPut H d (.str "notes") (.ref p) (upd H d (.dK (stw { S with pn:=p,N:=N }))):=z9b (k:=.inr "notes") e (by kernel_rfl)
theorem zf1 (e:H d = some (.dK (stw S))) (p:Addr):DPut H d (.str "row") (.ref p) (upd H d (.dK (stw { S with pr:=p }))):=z9b (k:=.inr "row") e (by kernel_rfl)
theorem zcp (e:H d = some (.dK (stw S))) (p:Addr) (C:NL):DPut H d (.str "carry") (.ref p) (upd H d (.dK (stw { S with pc:=p,C:=C }))):=z9b (k:=.inr "carry") e (by kernel_rfl)
end
def Sv.lists (S:Sv):List Addr:=[S.pu,S.pt,S.pn,S.pr,S.pc,S.pl]
def Su.lists (u:Su):List Addr:=[u.ph,u.pl,u.pc,u.pt]
structure StAt (H:Hp) (d:Addr) (S:Sv) (u:Su):Prop where
 st:H d = some (.dK (stw S))
 su:SuAt H S.ps u
 gu:H S.pu = some (.lst (S.us.map V.bl))
 gt:H S.pt = some (.lst (S.ts.map V.int))
 gn:H S.pn = some (.lst (refk S.N))
 kn:KsAt H S.N
 gr:H S.pr = some (.lst [])
 gc:H S.pc = some (.lst (refs S.C))
 kc:∀ q ∈ S.C,H q.1 = some (.tup (cyv q.2))
 gl:H S.pl = some (.lst S.lg)
 nd:S.lists.Nodup
 sd:∀ p ∈ S.lists,p ∉ u.lists
theorem StAt.mono {H H':Hp} {d:Addr} {S:Sv} {u:Su} (h:StAt H d S u) (s:Same H H'):StAt H' d S u :=
 ⟨s _ _ h.st,h.su.mono s,s _ _ h.gu,s _ _ h.gt,s _ _ h.gn,fun q hq=>s _ _ (h.kn q hq),s _ _ h.gr,s _ _ h.gc,fun q hq=>s _ _ (h.kc q hq),s _ _ h.gl,h.nd,h.sd⟩
theorem StAt.butK {CC CK:Addr} {H H':Hp} {c l:Addr} {ks ls:List Addr} {ss:List KN} {d:Addr} {S:Sv} {u:Su} (h:StAt H d S u) (hc:CAt CC CK H c l ks ls ss) (s:ButK ks H H'):StAt H' d S u:=by
 have st:∀ b o,H b = some o → (∀ C dx fs,o ≠ .ins C dx fs) → H' b = some o:=fun b o e no=>s b o e fun hb=>by
  obtain ⟨dx,fs,z⟩:=hc.mem hb
  rw [e] at z
  cases z
  exact no _ _ _ rfl
 have L:∀ b xs,H b = some (.lst xs) → H' b = some (.lst xs):=fun b xs e=>st b _ e fun _ _ _ z=>by cases z
 have T:∀ b xs,H b = some (.tup xs) → H' b = some (.tup xs):=fun b xs e=>st b _ e fun _ _ _ z=>by cases z
 exact ⟨st _ _ h.st (fun _ _ _ z=>by cases z),⟨T _ _ h.su.tu,L _ _ h.su.gh,L _ _ h.su.gl,L _ _ h.su.gc,L _ _ h.su.gt⟩,L _ _ h.gu,L _ _ h.gt,L _ _ h.gn,fun q hq=>T _ _ (h.kn q hq),L _ _ h.gr,L _ _ h.gc,fun q hq=>T _ _ (h.kc q hq),L _ _ h.gl,h.nd,h.sd⟩
abbrev own (d:Addr) (S:Sv):List Addr:=[d,S.pu,S.pt,S.pc,S.pl]
theorem zke (n:Nat) (b:Bool):(List.replicate n [V.bl b]).flatten = (List.replicate n b).map V.bl:=by
 induction n with
 | zero=>rfl
 | succ n ih=>rw [List.replicate_succ,List.flatten_cons,ih,List.replicate_succ,List.map_cons]; rfl
theorem zjj (n:Nat) (b:Int):(List.replicate n [V.int b]).flatten = (List.replicate n b).map V.int:=by
 induction n with
 | zero=>rfl
 | succ n ih=>rw [List.replicate_succ,List.flatten_cons,ih,List.replicate_succ,List.map_cons]; rfl
def ziq:Sp:=fun vs H Q _=>∃ (a:Addr) (u:Su),vs = [.ref a] ∧ SuAt H a u ∧ u.ok ∧ ∀ (d:Addr) (S:Sv) (H':Hp),StAt H' d S u → S.ps = a → S.now = 0 → S.us = List.replicate u.n true → S.ts = List.replicate u.n 0 → S.N = [] → S.C = [] → S.lg = [] → H d = none → (∀ p ∈ S.lists,H p = none) → Same H H' → Q (.ref d) H'
theorem zjk (y:Str) (zs:List Str):inV (.str y) (zs.map V.str) = decide (y ∈ zs):=by
 induction zs with
 | nil=>rfl
 | cons a zs ih =>
  show (eqV (.str a) (.str y) || inV (.str y) (zs.map V.str)) = _
  rw [ih]
  show ((a == y) || decide (y ∈ zs)) = _
  by_cases h:a = y
  ·subst h; simp
  ·have h':¬ y = a:=fun z=>h z.symm
   simp [h,h']
def upL (us:List Bool):List Nat:=(List.range us.length).filter fun j=>us.getD j false
theorem z7f (us:List Bool):(upL us).length ≤ us.length:=Nat.le_trans (List.length_filter_le _ _) (by rw [List.length_range]; exact Nat.le_refl _)
theorem zf2 {p:Nat → Bool} (i:Nat):(List.range (i + 1)).filter p = (List.range i).filter p ++ (if p i = true then [i] else []):=by
 rw [List.range_succ,List.filter_append]
 simp [List.filter_cons]
def z9c (K:PySem.W.Frag):Sp:=fun vs H Q _=>∃ (d:Addr) (S:Sv) (u:Su),vs = [.ref d] ∧ StAt H d S u ∧ u.ok ∧ S.us.length = u.n ∧ ∀ (r:Addr) (H':Hp),H r = none → H' r = some (.lst (z13 (upL S.us))) → Same H H' → Q (.ref r) H'
theorem zda (F:Def K mg "_law_ups" z62 ["_law_state"]) (T:Txt K mg y0 yd yc y6 yb ya y8 y7 y9):Has P w K mg base 1 "_law_ups" ["_law_state"] (z9c K):=by
 refine F.ok zd8 (fun vs H Q E h=>?_) (fun f cdv A outer s H vs Q E hr h=>?_)
 ·obtain ⟨d,S,u,rfl,_⟩:=h
  rfl
 ·obtain ⟨d,S,u,rfl,hS,hok,hn,q⟩:=h
  have hu:=hr.units0
  have hu2:=z3l hr
  have n5:=hok.n5
  refine ⟨_,(@za _ _ _ (@zl _ _ _ _ (@z1x _ _ "_law_k" (["_law_state"]) ([0]) _ _ _ _ _ _ _ _ rfl ⟨rfl,by decide +kernel,by decide +kernel,rfl,zu rfl,by decide +kernel,⟨⟨rfl,Or.inl rfl,rfl⟩,trivial⟩⟩ (@z2q _ _ _ _ _ _ rfl T.b_range (@z0 _ _ _ _ _ (@zh _ _ _ _ _ _ _ ix_tup (@zx _ _ _ _ _ _ hu2 (pv 0) zj (fun _ _=>rfl)) z4 (fun _ _=>rfl)) z6 rfl) rfl) (fun _ _ _ _=>(@z2k _ _ _ (@z1k _ _ _ (@zh _ _ _ _ _ _ _ (zaq (K:=K)) (@zx _ _ _ _ _ _ hu2 (pv 1) zj (fun _ _=>rfl)) (pv 0) (fun _ _=>rfl)) (by intro _; rfl)))) (fun _ _ _ _=>(@zf _ _ _ _ _ _ _ _ z14 (pv 0) z4)) (by intro _; rfl)))),?_⟩
  walk_at "rd"
  refine ⟨_,z8c hS.st,_,_,_,_,rfl,rfl,SqT.of hS.su.tu,zb (j:=0) rfl,_,rfl,⟨by omega,by omega⟩,?_⟩
  rw [Int.toNat_natCast]
  refine z30 (zd (by omega)) (fun i acc H'=>H' = H ∧ acc = z13 ((List.range i).filter fun j=>S.us.getD j false)) ⟨rfl,rfl⟩ ?_ ?_ ?_
  ·rintro i acc H' ⟨-,rfl⟩
   unfold z13
   rw [List.length_map]
   exact Nat.le_trans (List.length_filter_le _ _) (by rw [List.length_range]; exact Nat.le_refl _)
  ·rintro Nn i acc H' hN hi ⟨rfl,rfl⟩
   walk_at "rd"
   simp only [Int.zero_add]
   have hi2:i < S.us.length:=by omega
   have gb:(S.us.map V.bl)[i]? = some (.bl S.us[i]):=by rw [List.getElem?_map,List.getElem?_eq_getElem hi2]; rfl
   have eb:S.us.getD i false = S.us[i]:=by rw [List.getD_eq_getElem?_getD,List.getElem?_eq_getElem hi2]; rfl
   refine ⟨_,z9a hS.st,_,_,_,_,rfl,rfl,SqL.of hS.gu,zb gb,_,rfl,?_⟩
   have stp:=zf2 (p:=fun j=>S.us.getD j false) i
   simp only [eb] at stp
   cases e:S.us[i] with
   | true =>
    rw [if_pos rfl]
    refine hN _ _ ⟨rfl,?_⟩
    rw [stp,e]
    simp [z13]
   | false =>
    rw [if_neg Bool.false_ne_true]
    refine hN _ _ ⟨rfl,?_⟩
    rw [stp,e]
    simp [z13]
  ·rintro acc H' ⟨rfl,rfl⟩ p hp
   refine q p _ hp ?_ (Same.upd hp)
   rw [z7]
   unfold upL
   rw [hn]
def z21 (k:Nat) (now:Int) (hd lk:Str) (sh:Bool) (zs:List Str) (q:Nk):List Str:=if (decide (q.k = k) && decide (now < q.x.e) && z1q hd lk sh q.x && !decide (q.x.h ∈ zs)) = true then zs ++ [q.x.h] else zs
def nmOf (k:Nat) (now:Int) (hd lk:Str) (sh:Bool) (N:List Nk):List Str:=N.foldl (z21 k now hd lk sh) []
theorem zgx (k:Nat) (now:Int) (hd lk:Str) (sh:Bool) (N:List Nk) (q:Nk):nmOf k now hd lk sh (N ++ [q]) = z21 k now hd lk sh (nmOf k now hd lk sh N) q:=by
 unfold nmOf
 rw [List.foldl_append]
 rfl
theorem z4i {α β:Type} (f:α → β) {L:List α} {i:Nat} {x:α} (h:L[i]? = some x):(L.take (i + 1)).map f = (L.take i).map f ++ [f x]:=by
 rw [List.take_succ,h,List.map_append]
 rfl
theorem zgy {k:Nat} {now:Int} {hd lk:Str} {sh:Bool} {zs:List Str} {q:Nk} (h:zs ≠ []):z21 k now hd lk sh zs q ≠ []:=by
 unfold z21
 split
 ·simp
 ·exact h
theorem z9d {k:Nat} {now:Int} {hd lk:Str} {sh:Bool}:∀ (N:List Nk) {zs:List Str},zs ≠ [] → N.foldl (z21 k now hd lk sh) zs ≠ []
 | [],_,h=>h
 | q :: N,_,h=>z9d N (zgy h)
theorem zkf (k:Nat) (now:Int) (hd lk:Str) (sh:Bool) (N:List Nk):nmOf k now hd lk sh N = [] ↔ ∀ q ∈ N,q.k = k → now < q.x.e → z1q hd lk sh q.x = false:=by
 unfold nmOf
 induction N with
 | nil=>exact ⟨fun _ q hq=>(by cases hq),fun _=>rfl⟩
 | cons a N ih =>
  rw [List.foldl_cons]
  by_cases c:(decide (a.k = k) && decide (now < a.x.e) && z1q hd lk sh a.x) = true
  ·have e:z21 k now hd lk sh [] a = [a.x.h]:=by
    unfold z21
    rw [c]
    rfl
   rw [e]
   refine ⟨fun h=>absurd h (z9d N (by simp)),fun h=>?_⟩
   simp only [Bool.and_eq_true,decide_eq_true_eq] at c
   have:=h a (List.mem_cons_self ..) c.1.1 c.1.2
   rw [c.2] at this
   cases this
  ·have e:z21 k now hd lk sh [] a = []:=by
    unfold z21
    rw [if_neg]
    intro z
    rw [Bool.and_eq_true] at z
    exact c z.1
   rw [e,ih]
   refine ⟨fun h q hq=>?_,fun h q hq=>h q (List.mem_cons_of_mem _ hq)⟩
   rcases List.mem_cons.mp hq with rfl | hq
   ·intro h1 h2
    cases eb:z1q hd lk sh q.x with
    | false=>rfl
    | true=>exact absurd (by rw [decide_eq_true h1,decide_eq_true h2,eb]; rfl) c
   ·exact h q hq
def z8e (K:PySem.W.Frag):Sp:=fun vs H Q _=>∃ (d a:Addr) (S:Sv) (u:Su) (z:Int) (hd lk:Str) (sh:Bool) (tm:Int) (k:Nat),vs = [.ref d,.ref a,.int ((k:Int) + 1)] ∧ StAt H d S u ∧ H a = some (.tup [.int z,.str hd,.str lk,.bl sh,.int tm]) ∧ lk.length ≤ 1000 ∧ (∀ q ∈ S.N,q.2.x.l.length ≤ 1000) ∧ S.N.length ≤ 400 ∧
 ∀ (r:Addr) (H':Hp),H r = none → H' r = some (.lst ((nmOf k S.now hd lk sh (S.N.map (·.2))).map V.str)) → Same H H' → Q (.ref r) H'
theorem zaa (F:Def K mg "_law_naming" z4g ["_law_state","_law_asking","_law_keeper"]) (T:Txt K mg y0 yd yc y6 yb ya y8 y7 y9) (y1f:Has P w K mg base 2 "_law_way" ["_law_lock","_law_shared","_law_other","_law_other_shared"] (zgu)):Has P w K mg base 3 "_law_naming" ["_law_state","_law_asking","_law_keeper"] (z8e K):=by
 refine F.ok sc__law_naming (fun vs H Q E h=>?_) (fun f cdv A outer s H vs Q E hr h=>?_)
 ·obtain ⟨d,a,S,u,z,hd,lk,sh,tm,k,rfl,_⟩:=h
  rfl
 ·obtain ⟨d,a,S,u,z,hd,lk,sh,tm,k,rfl,hS,ga,hlk,hll,hn,q⟩:=h
  have hu:=hr.units0
  have hu2:=z3l hr
  refine ⟨_,(@z8 _ _ _ _ _ (@zi _ _ 3 _ _ _ _ sc__law_naming.nd rfl (Or.inl rfl) (@z1c _ _ _ _ z6) rfl (Or.inr rfl)) (@z8 _ _ _ _ _ (@z25 _ _ _ _ _ _ _ _ PassesOwn.never rfl (@z18 _ _ _ _ (@zx _ _ _ _ _ _ hu2 (pv 0) zj (fun _ _=>rfl))) (@z15 _ _ 4 _ sc__law_naming.nd rfl (Or.inl rfl) (Or.inr rfl)) (@za _ _ _ (@zy _ _ _ _ _ _ _ _ (PW.pt (@z3h _ _ _ _ _ _ _ (@zn _ _ _ _ _ _ _ _ z1a (@zh _ _ _ _ _ _ _ ix_tup (pv 4) z4 (fun _ _=>rfl)) (pv 2) (zm _)) (@z3h _ _ _ _ _ _ _ (@zn _ _ _ _ _ _ _ _ zbh (@zh _ _ _ _ _ _ _ ix_tup (pv 4) z4 (fun _ _=>rfl)) (@zx _ _ _ _ _ _ hu2 (pv 0) zj (fun _ _=>rfl)) (zm _)) (@z3h _ _ _ _ _ _ _ (@zn _ _ _ _ _ _ _ _ z2r (@zh _ _ _ _ _ _ _ ix_tup (pv 4) z4 (fun _ _=>rfl)) (@zh _ _ _ _ _ _ _ ix_tup (pv 1) z4 (fun _ _=>rfl)) (zm _)) (@z5k _ _ _ _ (@zn _ _ _ _ _ _ _ _ z6m (@zh _ _ _ _ _ _ _ ix_tup (pv 4) z4 (fun _ _=>rfl)) (pv 3) (by with_unfolding_all rfl))))))) (@za _ _ _ (@zy _ _ _ _ _ _ _ _ (@z1k _ _ _ (@zp _ _ _ _ _ _ _ _ _ _ y1f (hr.mono (by decide)) rfl (@z0 _ _ _ _ _ (@zh _ _ _ _ _ _ _ ix_tup (pv 4) z4 (fun _ _=>rfl)) (@z0 _ _ _ _ _ (@zh _ _ _ _ _ _ _ ix_tup (pv 4) z4 (fun _ _=>rfl)) (@z0 _ _ _ _ _ (@zh _ _ _ _ _ _ _ ix_tup (pv 1) z4 (fun _ _=>rfl)) (@z0 _ _ _ _ _ (@zh _ _ _ _ _ _ _ ix_tup (pv 1) z4 (fun _ _=>rfl)) z6 rfl) rfl) rfl) rfl) (by decide) rfl rfl) (by intro _; rfl)) (@za _ _ _ (@z1w _ _ _ _ (@z2c _ _ _ _ _ _ _ _ _ _ _ _ PySem.F.plainAttrs_list PySem.F.slot_list_append PySem.F.type_list_append z23 (pv 3) (@z0 _ _ _ _ _ (@zh _ _ _ _ _ _ _ ix_tup (pv 4) z4 (fun _ _=>rfl)) z6 rfl) rfl rfl rfl rfl rfl) rfl)) zo)) zo)) (by intro _; rfl)) (@za _ _ _ (@zl _ _ _ _ (pv 3))))),?_⟩
  walk_at "rd"
  refine ⟨Nat.zero_le _,fun p hp=>?_⟩
  have s1:=Same.upd (o:=.lst []) hp
  have g1:upd H p (.lst []) p = some (.lst []):=z7
  generalize upd H p (.lst []) = H1 at s1 g1 ⊢
  refine ⟨_,z8d (s1 _ _ hS.st),_,rfl,⟨_,SqL.of (s1 _ _ hS.gn)⟩,?_⟩
  refine z1i (xs:=refk S.N) (fun i σ H'=>∃ (zs:List Str) (v4:Option V),σ = [some (V.ref d),some (V.ref a),some (V.int ((k:Int) + 1)),some (V.ref p),v4] ∧ zs.length ≤ i ∧ H' p = some (.lst (zs.map V.str)) ∧ zs = nmOf k S.now hd lk sh ((S.N.take i).map (·.2)) ∧ Same H H') ⟨[],_,rfl,Nat.le_refl _,g1,rfl,s1⟩ ?_ ?_ ?_
  ·rintro i σ H' - ⟨zs,v4,-,-,-,-,s2⟩
   exact SqL.of (s2 _ _ hS.gn)
  ·rintro Pv hP i x σ H' hx ⟨zs,v4,rfl,lz,gz,iz,s2⟩
   obtain ⟨y,hy,rfl⟩:=z8b hx
   have my:=List.mem_of_getElem? hy
   have hi:i < S.N.length:=(List.getElem?_eq_some_iff.mp hy).1
   have stp:nmOf k S.now hd lk sh ((S.N.take (i + 1)).map (·.2)) = z21 k S.now hd lk sh zs y.2:=by
    rw [z4i _ hy,zgx,← iz]
   have no:∀ H2,Same H' H2 → (decide (y.2.k = k) && decide (S.now < y.2.x.e) && z1q hd lk sh y.2.x && !decide (y.2.x.h ∈ zs)) = false → Pv (i + 1) [some (V.ref d),some (V.ref a),some (V.int ((k:Int) + 1)),some (V.ref p),some (V.ref y.1)] H2:=fun H2 s3 e=>hP _ _ _ ⟨zs,_,rfl,by omega,s3 _ _ gz,by rw [stp]; unfold z21; rw [if_neg (by rw [e]; exact Bool.false_ne_true)],s2.trans s3⟩
   have hy1:=s2 _ _ (hS.kn y my)
   have hst:=s2 _ _ hS.st
   have ga2:=s2 _ _ ga
   walk_at "rd"
   refine ⟨_,_,_,_,rfl,rfl,SqT.of hy1,zb (j:=0) rfl,rfl,?_⟩
   by_cases c1:y.2.k = k
   rotate_left
   ·rw [if_neg (by simp; omega)]
    exact no _ (Same.refl _) (by simp [c1])
   rw [if_pos (decide_eq_true (congrArg V.int (by rw [c1])))]
   refine ⟨_,_,_,_,rfl,rfl,SqT.of hy1,zb (j:=5) rfl,_,z2p hst,_,rfl,_,rfl,?_⟩
   by_cases c2:S.now < y.2.x.e
   rotate_left
   ·rw [if_neg (by simpa using c2)]
    exact no _ (Same.refl _) (by simp [c2])
   rw [if_pos (decide_eq_true c2)]
   refine ⟨_,_,_,_,rfl,rfl,SqT.of hy1,zb (j:=2) rfl,_,_,_,_,rfl,rfl,SqT.of ga2,zb (j:=1) rfl,rfl,?_⟩
   by_cases c3:y.2.x.h = hd
   ·rw [if_neg (by simp [c3])]
    exact no _ (Same.refl _) (by simp [z1q,c3])
   rw [if_pos (by simp [c3])]
   refine ⟨_,_,_,_,rfl,rfl,SqT.of hy1,zb (j:=2) rfl,?_⟩
   refine ⟨_,_,rfl,.inl (SqL.of gz),rfl,z2l _,_,rfl,?_⟩
   rw [if_pos rfl,zjk]
   by_cases c4:y.2.x.h ∈ zs
   ·rw [if_neg (by simp [c4])]
    exact no _ (Same.refl _) (by simp [c4])
   rw [if_pos (by simp [c4])]
   refine ⟨_,_,_,_,rfl,rfl,SqT.of hy1,zb (j:=3) rfl,_,_,_,_,rfl,rfl,SqT.of hy1,zb (j:=4) rfl,_,_,_,_,rfl,rfl,SqT.of ga2,zb (j:=2) rfl,_,_,_,_,rfl,rfl,SqT.of ga2,zb (j:=3) rfl,?_⟩
   refine ⟨_,_,_,_,rfl,hll y my,hlk,fun H2 s3=>⟨_,rfl,?_⟩⟩
   have eb:z1q hd lk sh y.2.x = (onl y.2.x.l lk && !(y.2.x.sh && sh)):=by
    unfold z1q
    rw [decide_eq_true c3,Bool.true_and,zi0,Bool.and_comm sh]
   by_cases c5:(onl y.2.x.l lk && !(y.2.x.sh && sh)) = true
   ·rw [if_pos c5]
    refine ⟨.inl ⟨_,SqL.of (s3 _ _ gz)⟩,_,_,_,_,rfl,rfl,SqT.of (s3 _ _ hy1),zb (j:=2) rfl,?_⟩
    refine ⟨_,_,_,rfl,rfl,s3 _ _ gz,z1u (by rw [List.length_map]; omega),hP _ _ _ ⟨zs ++ [y.2.x.h],_,rfl,by rw [List.length_append]; show _ + 1 ≤ _; omega,by rw [z7]; simp,?_,fun b o e=>?_⟩⟩
    ·rw [stp]
     unfold z21
     rw [if_pos]
     rw [eb,c5]
     simp [c1,c2,c4]
    ·rw [z9 (zc e hp)]
     exact s3 _ _ (s2 _ _ e)
   ·rw [if_neg c5]
    refine no _ s3 ?_
    rw [eb]
    simp only [Bool.not_eq_true] at c5
    rw [c5]
    simp
  ·rintro σ H' ⟨zs,v4,rfl,lz,gz,iz,s2⟩
   walk_at "rd"
   rw [z43,List.take_length] at iz
   exact q p H' hp (by rw [← iz]; exact gz) s2
def sayL (S:Sv) (hd lk:Str) (sh:Bool):List Nat:=(upL S.us).filter fun k=>(nmOf k S.now hd lk sh (S.N.map (·.2))).isEmpty
theorem zcq (S:Sv) (hd lk:Str) (sh:Bool):(sayL S hd lk sh).length ≤ S.us.length:=Nat.le_trans (List.length_filter_le _ _) (z7f _)
theorem z1v (js:List Nat):(z13 js).length = js.length:=List.length_map _
theorem z56 {js:List Nat} {i:Nat} {x:V} (h:(z13 js)[i]? = some x):∃ j,js[i]? = some j ∧ x = V.int ((j:Int) + 1):=by
 unfold z13 at h
 rw [List.getElem?_map] at h
 cases e:js[i]? with
 | none=>rw [e] at h; cases h
 | some j=>rw [e] at h; exact ⟨j,rfl,(Option.some.inj h).symm⟩
def SayP (S:Sv) (u:Su):Prop:=u.ok ∧ S.us.length = u.n ∧ (∀ q ∈ S.N,q.2.x.l.length ≤ 1000) ∧ S.N.length ≤ 400
def z9e (K:PySem.W.Frag):Sp:=fun vs H Q _=>∃ (d a:Addr) (S:Sv) (u:Su) (z:Int) (hd lk:Str) (sh:Bool) (tm:Int),vs = [.ref d,.ref a] ∧ StAt H d S u ∧ H a = some (.tup [.int z,.str hd,.str lk,.bl sh,.int tm]) ∧ lk.length ≤ 1000 ∧ SayP S u ∧
 ∀ (r:Addr) (H':Hp),H r = none → H' r = some (.lst (z13 (sayL S hd lk sh))) → Same H H' → Q (.ref r) H'
theorem zab (F:Def K mg "_law_sayers" z4h ["_law_state","_law_asking"]) (T:Txt K mg y0 yd yc y6 yb ya y8 y7 y9) (yn:Has P w K mg base 3 "_law_naming" ["_law_state","_law_asking","_law_keeper"] (z8e K)) (ym:Has P w K mg base 1 "_law_ups" ["_law_state"] (z9c K)):Has P w K mg base 4 "_law_sayers" ["_law_state","_law_asking"] (z9e K):=by
 refine F.ok za2 (fun vs H Q E h=>?_) (fun f cdv A outer s H vs Q E hr h=>?_)
 ·obtain ⟨d,a,S,u,z,hd,lk,sh,tm,rfl,_⟩:=h
  rfl
 ·obtain ⟨d,a,S,u,z,hd,lk,sh,tm,rfl,hS,ga,hlk,⟨hok,hun,hll,hn⟩,q⟩:=h
  have hu:=hr.units0
  have hu2:=z3l hr
  have n5:=hok.n5
  refine ⟨_,(@za _ _ _ (@zl _ _ _ _ (@z1x _ _ "_law_k" (["_law_state","_law_asking"]) ([0,1]) _ _ _ _ _ _ _ _ rfl ⟨rfl,by decide +kernel,by decide +kernel,rfl,zu rfl,by decide +kernel,⟨⟨rfl,Or.inl rfl,rfl⟩,⟨⟨rfl,Or.inl rfl,rfl⟩,trivial⟩⟩⟩ (@z18 _ _ _ _ (@zp _ _ _ _ _ _ _ _ _ _ ym (hr.mono (by decide)) rfl (@z0 _ _ _ _ _ (pv 0) z6 rfl) (by decide) rfl rfl)) (fun _ _ _ _=>(@z2k _ _ _ (@zn _ _ _ _ _ _ _ _ (zez (K:=K) hu) (@zp _ _ _ _ _ _ _ _ _ _ yn (hr.mono (by decide)) rfl (@z0 _ _ _ _ _ (pv 1) (@z0 _ _ _ _ _ (pv 2) (@z0 _ _ _ _ _ (pv 0) z6 rfl) rfl) rfl) (by decide) rfl rfl) (@z1c _ _ _ _ z6) (zm _)))) (fun _ _ _ _=>(pv 0)) (by intro _; rfl)))),?_⟩
  walk_at "rd"
  refine ⟨d,S,u,rfl,hS,hok,hun,fun r H1 hr0 gr s1=>⟨r,rfl,⟨_,SqL.of gr⟩,?_⟩⟩
  have lu:=z7f S.us
  refine z1m (xs:=z13 (upL S.us)) (by rw [z1v]; exact zd (by omega)) (fun i acc H'=>acc = z13 (((upL S.us).take i).filter fun k=>(nmOf k S.now hd lk sh (S.N.map (·.2))).isEmpty) ∧ Same H1 H') ⟨rfl,Same.refl _⟩ ?_ ?_ ?_ ?_
  ·rintro i acc H' ⟨rfl,-⟩
   rw [z1v]
   exact Nat.le_trans (List.length_filter_le _ _) (by rw [List.length_take]; omega)
  ·rintro i acc H' ⟨-,s2⟩
   exact SqL.of (s2 _ _ gr)
  ·rintro Nn i acc H' x hN hx hi ⟨rfl,s2⟩
   obtain ⟨k,hk,rfl⟩:=z56 hx
   walk_at "rd"
   have s12:=s1.trans s2
   have stp:=z1o (fun k=>(nmOf k S.now hd lk sh (S.N.map (·.2))).isEmpty) hk
   refine ⟨d,a,S,u,z,hd,lk,sh,tm,k,rfl,hS.mono s12,s12 _ _ ga,hlk,hll,hn,fun r2 H2 hr2 gr2 s3=>?_⟩
   refine ⟨Nat.zero_le _,fun p hp=>?_⟩
   have s4:=Same.upd (o:=.lst []) hp
   refine ⟨_,rfl,_,SqL.of (s4 _ _ gr2),SqL.of z7,?_⟩
   have ee:((nmOf k S.now hd lk sh (S.N.map (·.2))).map V.str).isEmpty = (nmOf k S.now hd lk sh (S.N.map (·.2))).isEmpty:=by
    cases nmOf k S.now hd lk sh (S.N.map (·.2)) <;> rfl
   rw [ee]
   by_cases c:(nmOf k S.now hd lk sh (S.N.map (·.2))).isEmpty = true
   ·rw [if_pos c]
    refine hN _ _ ⟨?_,s2.trans (s3.trans s4)⟩
    rw [stp,if_pos c]
    simp [z13]
   ·rw [if_neg c]
    refine hN _ _ ⟨?_,s2.trans (s3.trans s4)⟩
    rw [stp,if_neg c]
    simp [z13]
  ·rintro acc H' ⟨rfl,s2⟩ p hp
   refine q p _ (zv (s1.trans s2) hp) ?_ ((s1.trans s2).trans (Same.upd hp))
   rw [z7,z1v,List.take_length]
   rfl
def zdv (K:PySem.W.Frag):Sp:=fun vs H Q _=>∃ (d a:Addr) (S:Sv) (u:Su) (z:Int) (hd lk:Str) (sh:Bool) (tm:Int),vs = [.ref d,.ref a] ∧ StAt H d S u ∧ H a = some (.tup [.int z,.str hd,.str lk,.bl sh,.int tm]) ∧ lk.length ≤ 1000 ∧ SayP S u ∧
 z52 H Q (.bl (decide ((u.n:Int) < 2 * ((sayL S hd lk sh).length:Int))))
theorem zcr (F:Def K mg "_law_free" z5f ["_law_state","_law_asking"]) (T:Txt K mg y0 yd yc y6 yb ya y8 y7 y9) (yj:Has P w K mg base 4 "_law_sayers" ["_law_state","_law_asking"] (z9e K)):Has P w K mg base 5 "_law_free" ["_law_state","_law_asking"] (zdv K):=by
 refine F.ok zcd (fun vs H Q E h=>?_) (fun f cdv A outer s H vs Q E hr h=>?_)
 ·obtain ⟨d,a,S,u,z,hd,lk,sh,tm,rfl,_⟩:=h
  rfl
 ·obtain ⟨d,a,S,u,z,hd,lk,sh,tm,rfl,hS,ga,hlk,hp,q⟩:=h
  have hu:=hr.units0
  have hu2:=z3l hr
  refine ⟨_,(@za _ _ _ (@zl _ _ _ _ (@z1e _ _ _ _ _ _ _ _ zbh (@zf _ _ _ _ _ _ _ _ z6i z4 (@zg _ _ _ _ _ _ _ _ _ zq rfl T.b_len (by decide +kernel) (@z0 _ _ _ _ _ (@zp _ _ _ _ _ _ _ _ _ _ yj (hr.mono (by decide)) rfl (@z0 _ _ _ _ _ (pv 0) (@z0 _ _ _ _ _ (pv 1) z6 rfl) rfl) (by decide) rfl rfl) z6 rfl) (by decide) (by decide) rfl rfl)) (@zh _ _ _ _ _ _ _ ix_tup (@zx _ _ _ _ _ _ hu2 (pv 0) zj (fun _ _=>rfl)) z4 (fun _ _=>rfl)) (zm _)))),?_⟩
  walk_at "rd"
  refine ⟨d,a,S,u,z,hd,lk,sh,tm,rfl,hS,ga,hlk,hp,fun r H1 hr0 gr s1=>?_⟩
  exact ⟨r,rfl,_,.inl (SqL.of gr),.inl ⟨by decide,by decide⟩,_,z8c (s1 _ _ hS.st),_,_,_,_,rfl,rfl,SqT.of (s1 _ _ hS.su.tu),zb (j:=0) rfl,_,rfl,by rw [z1v]; exact q _ s1⟩
theorem zi5 (j:Nat) (js:List Nat):inV (V.int ((j:Int) + 1)) (z13 js) = decide (j ∈ js):=by
 unfold inV z13
 rw [List.any_map,Bool.eq_iff_iff]
 simp only [List.any_eq_true,decide_eq_true_eq,Function.comp]
 constructor
 ·rintro ⟨x,hx,e⟩
  have:j = x:=by
   simp [eqV] at e
   omega
  exact this ▸ hx
 ·intro h
  exact ⟨j,h,by simp [eqV]⟩
theorem zf3 (js:List Nat):(z13 js).all z2i = true:=by
 unfold z13
 rw [List.all_map,List.all_eq_true]
 intro x _
 rfl
theorem zdw {n m:Nat} (h:m < n):ixN n (m:Int) = some m:=by
 unfold ixN
 simp
 omega
def z1t (now:Int) (sl:List Nat) (hd lk:Str) (q:Nk):Bool:=decide (now < q.x.e) && !(decide (q.k ∈ sl) && (decide (q.x.h = hd) && decide (q.x.l = lk)))
def z57 (N:List Nk) (now:Int) (sl:List Nat) (x:Nt):List Nk:=N.filter (z1t now sl x.h x.l) ++ sl.map fun k=>⟨k,x⟩
def topS (ts:List Int) (sl:List Nat) (n:Int):List Int:=ts.mapIdx fun j t=>if j ∈ sl then n else t
theorem z69 (ts:List Int) (sl:List Nat) (n:Int):(topS ts sl n).length = ts.length:=List.length_mapIdx
theorem zi6 (ts:List Int) (n:Int):topS ts [] n = ts:=by
 unfold topS
 apply List.ext_getElem?
 intro j
 rw [List.getElem?_mapIdx]
 cases ts[j]? <;> simp
theorem zgz {ts:List Int} {sl:List Nat} {n:Int} {i j:Nat} (hj:sl[i]? = some j):topS ts (sl.take (i + 1)) n = (topS ts (sl.take i) n).set j n:=by
 have et:sl.take (i + 1) = sl.take i ++ [j]:=by rw [List.take_succ,hj]; rfl
 apply List.ext_getElem?
 intro k
 by_cases hk:k = j
 ·subst hk
  by_cases hl:k < ts.length
  ·rw [List.getElem?_set_self (by rw [z69]; exact hl)]
   unfold topS
   rw [List.getElem?_mapIdx,List.getElem?_eq_getElem hl,et]
   simp
  ·rw [List.getElem?_eq_none (by rw [z69]; omega),List.getElem?_eq_none (by rw [List.length_set,z69]; omega)]
 ·rw [List.getElem?_set_ne (Ne.symm hk)]
  unfold topS
  rw [List.getElem?_mapIdx,List.getElem?_mapIdx,et]
  cases ts[k]? with
  | none=>rfl
  | some t=>simp [hk]
def zcs (us:List Bool) (ts:List Int) (m:Int):Prop:=(∃ j ∈ upL us,ts[j]? = some m) ∧ ∀ j ∈ upL us,∀ t,ts[j]? = some t → t ≤ m
def zdx (K:PySem.W.Frag):Sp:=fun vs H Q _=>∃ (d a:Addr) (S:Sv) (u:Su) (z:Int) (hd lk:Str) (sh:Bool) (tm:Int),vs = [.ref d,.ref a] ∧ StAt H d S u ∧ H a = some (.tup [.int z,.str hd,.str lk,.bl sh,.int tm]) ∧ lk.length ≤ 1000 ∧ SayP S u ∧ S.ts.length = u.n ∧ sayL S hd lk sh ≠ [] ∧ S.C.length ≤ 400 ∧ S.lg.length ≤ 400 ∧
 ∀ (m:Int) (S':Sv) (H':Hp) (pl pb:Addr),zcs S.us S.ts m → StAt H' d S' u → S'.now = S.now → S'.ps = S.ps → S'.us = S.us → S'.ts = topS S.ts (sayL S hd lk sh) (1 + m) → S'.N.map (·.2) = z57 (S.N.map (·.2)) S.now (sayL S hd lk sh) ⟨1 + m,hd,lk,sh,S.now + tm⟩ → S'.C.length ≤ S.C.length + 1 → S'.lg = S.lg ++ [.ref pl] →
  H' pl = some (.tup [.str "given",.int S.now,.str hd,.str lk,.bl sh,.int (1 + m),.int (S.now + tm),.ref pb]) → (∀ p ∈ S'.lists,p ∈ S.lists ∨ H p = none) → ButK (own d S) H H' → Q .non H'
theorem zct (F:Def K mg "_law_give" z5g ["_law_state","_law_asking"]) (T:Txt K mg y0 yd yc y6 yb ya y8 y7 y9) (ym:Has P w K mg base 1 "_law_ups" ["_law_state"] (z9c K)) (yj:Has P w K mg base 4 "_law_sayers" ["_law_state","_law_asking"] (z9e K)):Has P w K mg base 5 "_law_give" ["_law_state","_law_asking"] (zdx K):=by
 refine F.ok sc__law_give (fun vs H Q E h=>?_) (fun f cdv A outer s H vs Q E hr h=>?_)
 ·obtain ⟨d,a,S,u,z,hd,lk,sh,tm,rfl,_⟩:=h
  rfl
 ·obtain ⟨d,a,S,u,z,hd,lk,sh,tm,rfl,hS,ga,hlk,hp,htn,hne,hC,hlg,q⟩:=h
  have hu:=hr.units0
  have hu2:=z3l hr
  refine ⟨_,(@z8 _ _ _ _ _ (@zi _ _ 2 _ _ _ _ sc__law_give.nd rfl (Or.inl rfl) (@zp _ _ _ _ _ _ _ _ _ _ yj (hr.mono (by decide)) rfl (@z0 _ _ _ _ _ (pv 0) (@z0 _ _ _ _ _ (pv 1) z6 rfl) rfl) (by decide) rfl rfl) rfl (Or.inr rfl)) (@z8 _ _ _ _ _ (@zi _ _ 3 _ _ _ _ sc__law_give.nd rfl (Or.inl rfl) (@zf _ _ _ _ _ _ _ _ z14 z4 (@zg _ _ _ _ _ _ _ _ _ (z6q rfl) rfl T.b_max (by decide +kernel) (@z0 _ _ _ _ _ (@z1x _ _ "_law_k" (["_law_state"]) ([0]) _ _ _ _ _ _ _ _ rfl ⟨rfl,by decide +kernel,by decide +kernel,rfl,zu rfl,by decide +kernel,⟨⟨rfl,Or.inl rfl,rfl⟩,trivial⟩⟩ (@z18 _ _ _ _ (@zp _ _ _ _ _ _ _ _ _ _ ym (hr.mono (by decide)) rfl (@z0 _ _ _ _ _ (pv 0) z6 rfl) (by decide) rfl rfl)) (fun _ _ _ _=>z3f) (fun _ _ _ _=>(@zh _ _ _ _ _ _ _ (zaq (K:=K)) (@zx _ _ _ _ _ _ hu2 (pv 1) zj (fun _ _=>rfl)) (@zf _ _ _ _ _ _ _ _ z2u (pv 0) z4) (fun _ _=>rfl))) (by intro _; rfl)) z6 rfl) (by decide) (by decide) rfl rfl)) rfl (Or.inr rfl)) (@z8 _ _ _ _ _ (@zbo _ _ _ _ _ _ (@z1l _ _ _ _ _ (@z0 _ _ _ _ _ (@zh _ _ _ _ _ _ _ ix_tup (pv 1) z4 (fun _ _=>rfl)) (@z0 _ _ _ _ _ (@zh _ _ _ _ _ _ _ ix_tup (pv 1) z4 (fun _ _=>rfl)) (@z0 _ _ _ _ _ (@zh _ _ _ _ _ _ _ ix_tup (pv 1) z4 (fun _ _=>rfl)) z6 rfl) rfl) rfl)) (@z8h _ _ _ _ _ _ rfl (@z1r _ _ _ _ _ (@z15 _ _ 4 _ sc__law_give.nd rfl (Or.inr rfl) (Or.inl rfl)) (@z1r _ _ _ _ _ (@z15 _ _ 5 _ sc__law_give.nd rfl (Or.inr rfl) (Or.inl rfl)) (@z1r _ _ _ _ _ (@z15 _ _ 6 _ sc__law_give.nd rfl (Or.inl rfl) (Or.inr rfl)) z4m rfl) rfl) rfl) rfl rfl) rfl rfl rfl) (@z8 _ _ _ _ _ (@zi _ _ 7 _ _ _ _ sc__law_give.nd rfl (Or.inl rfl) (@zf _ _ _ _ _ _ _ _ z14 (@zx _ _ _ _ _ _ hu2 (pv 0) zj (fun _ _=>rfl)) (@zh _ _ _ _ _ _ _ ix_tup (pv 1) z4 (fun _ _=>rfl))) rfl (Or.inr rfl)) (@z8 _ _ _ _ _ (@zi _ _ 8 _ _ _ _ sc__law_give.nd rfl (Or.inl rfl) (@z1c _ _ _ _ z6) rfl (Or.inr rfl)) (@z8 _ _ _ _ _ (@z25 _ _ _ _ _ _ _ _ PassesOwn.never rfl (@z18 _ _ _ _ (@zx _ _ _ _ _ _ hu2 (pv 0) zj (fun _ _=>rfl))) (@z15 _ _ 9 _ sc__law_give.nd rfl (Or.inl rfl) (Or.inr rfl)) (@za _ _ _ (@zy _ _ _ _ _ _ _ _ (PW.pt (@z3h _ _ _ _ _ _ _ (@zn _ _ _ _ _ _ _ _ zbh (@zh _ _ _ _ _ _ _ ix_tup (pv 9) z4 (fun _ _=>rfl)) (@zx _ _ _ _ _ _ hu2 (pv 0) zj (fun _ _=>rfl)) (zm _)) (@z5k _ _ _ _ (@z3i _ _ _ _ (PW.pt (@z3h _ _ _ _ _ _ _ (@zn _ _ _ _ _ _ _ _ zak (@zh _ _ _ _ _ _ _ ix_tup (pv 9) z4 (fun _ _=>rfl)) (pv 2) (by with_unfolding_all rfl)) (@z3h _ _ _ _ _ _ _ (@zn _ _ _ _ _ _ _ _ z1a (@zh _ _ _ _ _ _ _ ix_tup (pv 9) z4 (fun _ _=>rfl)) (pv 4) (zm _)) (@z5k _ _ _ _ (@zn _ _ _ _ _ _ _ _ z1a (@zh _ _ _ _ _ _ _ ix_tup (pv 9) z4 (fun _ _=>rfl)) (pv 5) (zm _)))))))))) (@za _ _ _ (@z1w _ _ _ _ (@z2c _ _ _ _ _ _ _ _ _ _ _ _ PySem.F.plainAttrs_list PySem.F.slot_list_append PySem.F.type_list_append z23 (pv 8) (@z0 _ _ _ _ _ (pv 9) z6 rfl) rfl rfl rfl rfl rfl) rfl)) zo)) (by intro _; rfl)) (@z8 _ _ _ _ _ (@z25 _ _ _ _ _ _ _ _ PassesOwn.never rfl (@z18 _ _ _ _ (pv 2)) (@z15 _ _ 10 _ sc__law_give.nd rfl (Or.inl rfl) (Or.inr rfl)) (@z8 _ _ _ _ _ (@z1w _ _ _ _ (@z2c _ _ _ _ _ _ _ _ _ _ _ _ PySem.F.plainAttrs_list PySem.F.slot_list_append PySem.F.type_list_append z23 (pv 8) (@z0 _ _ _ _ _ (@z1l _ _ _ _ _ (@z0 _ _ _ _ _ (pv 10) (@z0 _ _ _ _ _ (pv 3) (@z0 _ _ _ _ _ (pv 4) (@z0 _ _ _ _ _ (pv 5) (@z0 _ _ _ _ _ (pv 6) (@z0 _ _ _ _ _ (pv 7) z6 rfl) rfl) rfl) rfl) rfl) rfl)) z6 rfl) rfl rfl rfl rfl rfl) rfl) (@za _ _ _ (@zbo _ _ _ _ _ _ (pv 3) (@zf8 _ _ _ _ _ _ _ (@zx _ _ _ _ _ _ hu2 (pv 0) zj (fun _ _=>rfl)) (@zf _ _ _ _ _ _ _ _ z2u (pv 10) z4) zbt (by intro _; rfl)) rfl rfl rfl))) (by intro _; rfl)) (@z8 _ _ _ _ _ (@z4o _ _ _ _ _ _ _ _ _ hu2 (pv 0) zj (pv 8) rfl) (@z8 _ _ _ _ _ (@z4o _ _ _ _ _ _ _ _ _ hu2 (pv 0) zj (@z1x _ _ "_law_one" (["_law_holder"]) ([4]) _ _ _ _ _ _ _ _ rfl ⟨rfl,by decide +kernel,by decide +kernel,rfl,zu rfl,by decide +kernel,⟨⟨rfl,Or.inl rfl,rfl⟩,trivial⟩⟩ (@z18 _ _ _ _ (@zx _ _ _ _ _ _ hu2 (pv 0) zj (fun _ _=>rfl))) (fun _ _ _ _=>(@z2k _ _ _ (@zn _ _ _ _ _ _ _ _ z2r (@zh _ _ _ _ _ _ _ (z1y (K:=K)) (pv 0) z4 (fun _ _=>rfl)) (pv 1) (zm _)))) (fun _ _ _ _=>(pv 0)) (by intro _; rfl)) rfl) (@z8 _ _ _ _ _ (@z4o _ _ _ _ _ _ _ _ _ hu2 (pv 0) zj (@z1x _ _ "_law_one" (["_law_holder","_law_lock"]) ([4,5]) _ _ _ _ _ _ _ _ rfl ⟨rfl,by decide +kernel,by decide +kernel,rfl,zu rfl,by decide +kernel,⟨⟨rfl,Or.inl rfl,rfl⟩,⟨⟨rfl,Or.inl rfl,rfl⟩,trivial⟩⟩⟩ (@z18 _ _ _ _ (@zx _ _ _ _ _ _ hu2 (pv 0) zj (fun _ _=>rfl))) (fun _ _ _ _=>(@z2k _ _ _ (PW.pt (@z75 _ _ _ _ _ _ _ (@zn _ _ _ _ _ _ _ _ z2r (@zh _ _ _ _ _ _ _ (z1y (K:=K)) (pv 0) z4 (fun _ _=>rfl)) (pv 1) (zm _)) (@z5l _ _ _ _ (@zn _ _ _ _ _ _ _ _ z2r (@zh _ _ _ _ _ _ _ (z1y (K:=K)) (pv 0) z4 (fun _ _=>rfl)) (pv 2) (zm _))))))) (fun _ _ _ _=>(pv 0)) (by intro _; rfl)) rfl) (@z8 _ _ _ _ _ (@z1w _ _ _ _ (@z2c _ _ _ _ _ _ _ _ _ _ _ _ PySem.F.plainAttrs_list PySem.F.slot_list_append PySem.F.type_list_append z23 (@zx _ _ _ _ _ _ hu2 (pv 0) zj (fun _ _=>rfl)) (@z0 _ _ _ _ _ (@z1l _ _ _ _ _ (@z0 _ _ _ _ _ (pv 4) (@z0 _ _ _ _ _ (pv 3) (@z0 _ _ _ _ _ (pv 5) (@z0 _ _ _ _ _ (pv 6) (@z0 _ _ _ _ _ (pv 7) z6 rfl) rfl) rfl) rfl) rfl)) z6 rfl) rfl rfl rfl rfl rfl) rfl) (@za _ _ _ (@z1w _ _ _ _ (@z2c _ _ _ _ _ _ _ _ _ _ _ _ PySem.F.plainAttrs_list PySem.F.slot_list_append PySem.F.type_list_append z23 (@zx _ _ _ _ _ _ hu2 (pv 0) zj (fun _ _=>rfl)) (@z0 _ _ _ _ _ (@z1l _ _ _ _ _ (@z0 _ _ _ _ _ zj (@z0 _ _ _ _ _ (@zx _ _ _ _ _ _ hu2 (pv 0) zj (fun _ _=>rfl)) (@z0 _ _ _ _ _ (pv 4) (@z0 _ _ _ _ _ (pv 5) (@z0 _ _ _ _ _ (pv 6) (@z0 _ _ _ _ _ (pv 3) (@z0 _ _ _ _ _ (pv 7) (@z0 _ _ _ _ _ (@z6l _ _ _ _ _ _ _ _ _ zaz rfl T.b_tuple (by decide +kernel) (@z0 _ _ _ _ _ (pv 2) z6 rfl) (by decide) (by decide) rfl rfl) z6 rfl) rfl) rfl) rfl) rfl) rfl) rfl) rfl)) z6 rfl) rfl rfl rfl rfl rfl) rfl))))))))))))),?_⟩
  walk_at "rd"
  obtain ⟨hok,hun,hll,hn⟩:=id hp
  have n5:=hok.n5
  refine ⟨d,a,S,u,z,hd,lk,sh,tm,rfl,hS,ga,hlk,hp,fun rb H1 hrb grb s1=>?_⟩
  refine ⟨d,S,u,rfl,hS.mono s1,hok,hun,fun r2 H2 hr2 gr2 s2=>⟨r2,rfl,⟨_,SqL.of gr2⟩,?_⟩⟩
  have lu:=z7f S.us
  have s12:=s1.trans s2
  have h2:=hS.mono s12
  have jlt:∀ j ∈ upL S.us,j < S.ts.length:=fun j hj=>by
   have:=List.mem_range.mp (List.mem_filter.mp hj).1
   omega
  refine z1m (xs:=z13 (upL S.us)) (by rw [z1v]; exact zd (by omega)) (fun i acc H'=>H' = H2 ∧ acc = (((upL S.us).take i).map fun j=>S.ts.getD j 0).map V.int) ⟨rfl,rfl⟩ ?_ ?_ ?_ ?_
  ·rintro i acc H' ⟨-,rfl⟩
   rw [List.length_map,List.length_map,List.length_take]
   omega
  ·rintro i acc H' ⟨rfl,-⟩
   exact SqL.of gr2
  ·rintro Nn i acc H' x hN hx hi ⟨rfl,rfl⟩
   obtain ⟨k,hk,rfl⟩:=z56 hx
   walk_at "rd"
   have e1:(k:Int) + 1 - 1 = (k:Int):=by omega
   rw [e1]
   have hkl:=jlt k (List.mem_of_getElem? hk)
   refine ⟨_,za9 h2.st,_,_,_,_,rfl,rfl,SqL.of h2.gt,zb (v:=.int (S.ts.getD k 0)) ?_,hN _ _ ⟨rfl,?_⟩⟩
   ·rw [List.getElem?_map,List.getD_eq_getElem?_getD,List.getElem?_eq_getElem hkl]; rfl
   ·rw [z4i _ hk]
    simp
  rintro acc H' ⟨rfl,rfl⟩ pm hpm
  rw [z1v,List.take_length]
  refine ⟨pm,rfl,_,SqL.of z7,?_,fun m hm hmax=>?_⟩
  ·intro e
   have:sayL S hd lk sh = []:=by
    unfold sayL
    rw [List.map_eq_nil_iff.mp e]
    rfl
   exact hne this
  have hT:zcs S.us S.ts m:=by
   obtain ⟨j,hj,ej⟩:=List.mem_map.mp hm
   have hjl:=jlt j hj
   refine ⟨⟨j,hj,?_⟩,fun k hk t ht=>?_⟩
   ·rw [← ej,List.getD_eq_getElem?_getD,List.getElem?_eq_getElem hjl]; rfl
   ·refine hmax t (List.mem_map.mpr ⟨k,hk,?_⟩)
    rw [List.getD_eq_getElem?_getD,ht]; rfl
  have s3:=s12.trans (Same.upd (o:=.lst (((upL S.us).map fun j=>S.ts.getD j 0).map V.int)) hpm)
  have grb3:=Same.upd (o:=.lst (((upL S.us).map fun j=>S.ts.getD j 0).map V.int)) hpm _ _ (s2 _ _ grb)
  generalize upd H' pm _ = H3 at s3 grb3 ⊢
  refine ⟨_,_,_,_,rfl,rfl,SqT.of (s3 _ _ ga),zb (j:=1) rfl,_,_,_,_,rfl,rfl,SqT.of (s3 _ _ ga),zb (j:=2) rfl,_,_,_,_,rfl,rfl,SqT.of (s3 _ _ ga),zb (j:=3) rfl,zd (by decide),fun p3 hp3=>⟨_,SqT.of z7,rfl,_,_,rfl,_,_,rfl,_,_,rfl,rfl,?_⟩⟩
  have s4:=s3.trans (Same.upd (o:=.tup [V.str hd,V.str lk,V.bl sh]) hp3)
  have grb4:=Same.upd (o:=.tup [V.str hd,V.str lk,V.bl sh]) hp3 _ _ grb3
  generalize upd H3 p3 (.tup [V.str hd,V.str lk,V.bl sh]) = H4 at s4 grb4 ⊢
  have h4:=hS.mono s4
  refine ⟨_,z2p h4.st,?_⟩
  refine ⟨_,_,_,_,rfl,rfl,SqT.of (s4 _ _ ga),zb (j:=4) rfl,_,rfl,_,rfl,Nat.zero_le _,fun pn hpn=>?_⟩
  have hpn0:H pn = none:=zv s4 hpn
  have s5:=s4.trans (Same.upd (o:=.lst []) hpn)
  have grb5:=Same.upd (o:=.lst []) hpn _ _ grb4
  have g5:upd H4 pn (.lst []) pn = some (.lst (refk [])):=z7
  have s45:=Same.upd (o:=.lst []) hpn
  generalize upd H4 pn (.lst []) = H5 at s5 grb5 g5 s45 ⊢
  refine ⟨_,z8d (s5 _ _ hS.st),_,rfl,⟨_,SqL.of (s5 _ _ hS.gn)⟩,?_⟩
  refine z1i (xs:=refk S.N) (fun i σ H'=>∃ (v9:Option V),σ = [some (V.ref d),some (V.ref a),some (V.ref rb),some (V.int (1 + m)),some (V.str hd),some (V.str lk),some (V.bl sh),some (V.int (S.now + tm)),some (V.ref pn),v9,none] ∧ H' pn = some (.lst (refk ((S.N.take i).filter fun q=>z1t S.now (sayL S hd lk sh) hd lk q.2))) ∧ Same H4 H') ⟨_,rfl,g5,s45⟩ ?_ ?_ ?_
  ·rintro i σ H' - ⟨v9,-,-,s6⟩
   exact SqL.of (s6 _ _ h4.gn)
  ·rintro Pv hP i x σ H' hx ⟨v9,rfl,gp,s6⟩
   obtain ⟨y,hy,rfl⟩:=z8b hx
   have my:=List.mem_of_getElem? hy
   have hi:i < S.N.length:=(List.getElem?_eq_some_iff.mp hy).1
   have stp:=z1o (fun q:Addr × Nk=>z1t S.now (sayL S hd lk sh) hd lk q.2) hy
   have hy1:=s6 _ _ (h4.kn y my)
   have hst:=s6 _ _ h4.st
   have lF:((S.N.take i).filter fun q=>z1t S.now (sayL S hd lk sh) hd lk q.2).length ≤ 400:=Nat.le_trans (List.length_filter_le _ _) (by rw [List.length_take]; omega)
   have no:z1t S.now (sayL S hd lk sh) hd lk y.2 = false → Pv (i + 1) [some (V.ref d),some (V.ref a),some (V.ref rb),some (V.int (1 + m)),some (V.str hd),some (V.str lk),some (V.bl sh),some (V.int (S.now + tm)),some (V.ref pn),some (V.ref y.1),none] H':=fun e=>hP _ _ _ ⟨_,rfl,by rw [stp,if_neg (by rw [e]; exact Bool.false_ne_true),List.append_nil]; exact gp,s6⟩
   have yes:z1t S.now (sayL S hd lk sh) hd lk y.2 = true → z7a (V.ref pn) [V.ref y.1] H' (fun _ H1=>Pv (i + 1) [some (V.ref d),some (V.ref a),some (V.ref rb),some (V.int (1 + m)),some (V.str hd),some (V.str lk),some (V.bl sh),some (V.int (S.now + tm)),some (V.ref pn),some (V.ref y.1),none] H1):=fun e=>by
    refine ⟨_,_,_,rfl,rfl,gp,z1u (by rw [z43]; omega),hP _ _ _ ⟨_,rfl,by rw [z7,stp,if_pos e]; simp [refk],fun b o hb=>?_⟩⟩
    rw [z9 (zc hb hpn)]
    exact s6 _ _ hb
   walk_at "rd"
   have grb6:H' rb = some (.lst (z13 (sayL S hd lk sh))):=s6 _ _ grb4
   refine ⟨_,_,_,_,rfl,rfl,SqT.of hy1,zb (j:=5) rfl,_,z2p hst,_,rfl,_,rfl,?_⟩
   by_cases c1:S.now < y.2.x.e
   rotate_left
   ·rw [if_neg (by simpa using c1)]
    exact no (by unfold z1t; simp [c1])
   rw [if_pos (decide_eq_true c1)]
   refine ⟨_,_,_,_,rfl,rfl,SqT.of hy1,zb (j:=0) rfl,_,_,rfl,.inl (SqL.of grb6),rfl,zf3 _,_,rfl,?_⟩
   rw [if_neg Bool.false_ne_true,zi5]
   by_cases c2:y.2.k ∈ sayL S hd lk sh
   rotate_left
   ·rw [if_neg (by simpa using c2),if_pos (by decide)]
    exact ⟨.inl ⟨_,SqL.of gp⟩,yes (by unfold z1t; simp [c1,c2])⟩
   rw [if_pos (decide_eq_true c2)]
   refine ⟨_,_,_,_,rfl,rfl,SqT.of hy1,zb (j:=2) rfl,rfl,?_⟩
   by_cases c3:y.2.x.h = hd
   rotate_left
   ·rw [if_neg (by simpa using c3),if_pos (by decide)]
    exact ⟨.inl ⟨_,SqL.of gp⟩,yes (by unfold z1t; simp [c1,c3])⟩
   rw [if_pos (decide_eq_true (congrArg V.str c3))]
   refine ⟨_,_,_,_,rfl,rfl,SqT.of hy1,zb (j:=3) rfl,rfl,?_⟩
   by_cases c4:y.2.x.l = lk
   ·rw [if_neg (by simp [c4])]
    exact no (by unfold z1t; simp [c2,c3,c4])
   ·rw [if_pos (by simp [c4])]
    exact ⟨.inl ⟨_,SqL.of gp⟩,yes (by unfold z1t; simp [c1,c4])⟩
  rintro σ H' ⟨v9,rfl,gp,s6⟩
  rw [z43,List.take_length] at gp
  walk_at "rd"
  have ndt:d ≠ S.pt:=fun e=>by have:=h4.st; rw [e,h4.gt] at this; cases this
  have npt:pn ≠ S.pt:=fun e=>by rw [e,h4.gt] at hpn; cases hpn
  have nrb:rb ≠ S.pt:=fun e=>by have:=hS.gt; rw [← e,hrb] at this; cases this
  refine ⟨⟨_,SqL.of (s6 _ _ grb4)⟩,?_⟩
  have lsl:(sayL S hd lk sh).length ≤ 5:=by have:=zcq S hd lk sh; omega
  have jl2:∀ j ∈ sayL S hd lk sh,j < S.ts.length:=fun j hj=>jlt j (List.mem_filter.mp hj).1
  have lF:(S.N.filter fun q=>z1t S.now (sayL S hd lk sh) hd lk q.2).length ≤ 400:=Nat.le_trans (List.length_filter_le _ _) hn
  have kF:∀ z ∈ S.N.filter (fun q=>z1t S.now (sayL S hd lk sh) hd lk q.2),z ∈ S.N:=fun z hz=>(List.mem_filter.mp hz).1
  have eF:(S.N.filter fun q=>z1t S.now (sayL S hd lk sh) hd lk q.2).map (·.2) = (S.N.map (·.2)).filter (z1t S.now (sayL S hd lk sh) hd lk):=by rw [List.filter_map]; rfl
  generalize hF:(S.N.filter fun q=>z1t S.now (sayL S hd lk sh) hd lk q.2) = F1 at gp lF kF eF
  refine z1i (xs:=z13 (sayL S hd lk sh)) (fun i σ H'=>∃ (M:KL) (v9 v10:Option V),σ = [some (V.ref d),some (V.ref a),some (V.ref rb),some (V.int (1 + m)),some (V.str hd),some (V.str lk),some (V.bl sh),some (V.int (S.now + tm)),some (V.ref pn),v9,v10] ∧ M.map (·.2) = ((sayL S hd lk sh).take i).map (fun k=>⟨k,⟨1 + m,hd,lk,sh,S.now + tm⟩⟩) ∧ KsAt H' M ∧ H' pn = some (.lst (refk (F1 ++ M))) ∧ H' S.pt = some (.lst ((topS S.ts ((sayL S hd lk sh).take i) (1 + m)).map V.int)) ∧ But S.pt H4 H') ⟨[],_,_,rfl,rfl,(fun z hz=>by cases hz),by rw [List.append_nil]; exact gp,by rw [List.take_zero,zi6]; exact s6 _ _ h4.gt,But.of s6⟩ ?_ ?_ ?_
  ·rintro i σ H7 - ⟨M,v9,v10,-,-,-,-,-,b7⟩
   exact SqL.of (b7 _ _ grb4 nrb)
  ·rintro Pv hP i x σ H7 hx ⟨M,v9,v10,rfl,eM,kM,g7,t7,b7⟩
   obtain ⟨k,hk,rfl⟩:=z56 hx
   have hkl:=jl2 k (List.mem_of_getElem? hk)
   have lM:M.length ≤ 5:=by
    have:=congrArg List.length eM
    rw [List.length_map,List.length_map,List.length_take] at this
    omega
   walk_at "rd"
   refine ⟨.inl ⟨_,SqL.of g7⟩,zd (by decide),fun pa hpa=>?_⟩
   have s8:=Same.upd (o:=.tup [V.int ((k:Int) + 1),V.int (1 + m),V.str hd,V.str lk,V.bl sh,V.int (S.now + tm)]) hpa
   have g8:upd H7 pa (.tup [V.int ((k:Int) + 1),V.int (1 + m),V.str hd,V.str lk,V.bl sh,V.int (S.now + tm)]) pa = some (.tup (Nk.vals ⟨k,⟨1 + m,hd,lk,sh,S.now + tm⟩⟩)):=z7
   generalize upd H7 pa _ = H8 at s8 g8 ⊢
   have g78:=s8 _ _ g7
   refine ⟨_,_,_,rfl,rfl,g78,z1u (by rw [z43,List.length_append]; omega),?_⟩
   have npa:S.pt ≠ pa:=fun e=>by rw [← e,t7] at hpa; cases hpa
   have stp:=zgz (ts:=S.ts) (n:=1 + m) hk
   have np8:H8 pn ≠ none:=by rw [g78]; exact fun z=>by cases z
   have hst:H7 d = some (.dK (stw S)):=b7 _ _ h4.st ndt
   have nd8:d ≠ pn:=fun e=>by rw [e,g7] at hst; cases hst
   have g9:upd H8 pn (.lst (refk (F1 ++ M) ++ [V.ref pa])) pn = some (.lst (refk (F1 ++ (M ++ [(pa,⟨k,⟨1 + m,hd,lk,sh,S.now + tm⟩⟩)])))):=by rw [z7]; simp [refk]
   have f9:∀ b o,H8 b = some o → b ≠ pn → upd H8 pn (.lst (refk (F1 ++ M) ++ [V.ref pa])) b = some o:=fun b o e nb=>by rw [z9 nb]; exact e
   have e1:(k:Int) + 1 - 1 = (k:Int):=by omega
   generalize upd H8 pn (.lst (refk (F1 ++ M) ++ [V.ref pa])) = H9 at g9 f9 ⊢
   have t9:H9 S.pt = some (.lst ((topS S.ts ((sayL S hd lk sh).take i) (1 + m)).map V.int)):=f9 _ _ (s8 _ _ t7) npt.symm
   refine ⟨_,za9 (f9 _ _ (s8 _ _ hst) nd8),?_⟩
   rw [e1]
   refine ⟨S.pt,_,k,k,rfl,rfl,t9,zdw (by rw [List.length_map,z69]; exact hkl),hP _ _ _ ⟨M ++ [(pa,⟨k,⟨1 + m,hd,lk,sh,S.now + tm⟩⟩)],_,_,rfl,?_,fun z hz=>?_,?_,?_,fun b o e nb=>?_⟩⟩
   ·rw [List.map_append,eM,z4i _ hk]
    rfl
   ·have hz8:H8 z.1 = some (.tup z.2.vals):=by
     rcases List.mem_append.mp hz with hz | hz
     ·exact s8 _ _ (kM z hz)
     ·rw [List.mem_singleton.mp hz]; exact g8
    have hz9:=f9 _ _ hz8 fun e=>by rw [e,g78] at hz8; cases hz8
    rw [z9 (fun e=>by rw [e,t9] at hz9; cases hz9)]
    exact hz9
   ·rw [z9 npt]; exact g9
   ·rw [z7,stp,List.map_set]
   ·rw [z9 nb]
    refine f9 _ _ (s8 _ _ (b7 b o e nb)) fun z=>?_
    rw [z,hpn] at e
    cases e
  rintro σ H7 ⟨M,v9',v10,rfl,eM,kM,g7,t7,b7⟩
  rw [z1v,List.take_length] at eM t7
  walk_at "rd"
  have hst:H7 d = some (.dK (stw S)):=b7 _ _ h4.st ndt
  have f7:∀ b o,H b = some o → b ≠ S.pt → H7 b = some o:=fun b o e nb=>b7 _ _ (s4 _ _ e) nb
  have dom7:∀ b,H7 b = none → H b = none:=fun b e=>by
   cases eb:H b with
   | none=>rfl
   | some o =>
    by_cases z:b = S.pt
    ·rw [z,t7] at e; cases e
    ·rw [f7 b o eb z] at e; cases e
  obtain ⟨S1,eS1⟩:∃ S1:Sv,S1 = { S with pn:=pn,N:=F1 ++ M }:=⟨_,rfl⟩
  refine ⟨_,z73 hst pn (F1 ++ M),?_⟩
  rw [← eS1]
  have g8d:upd H7 d (.dK (stw S1)) d = some (.dK (stw S1)):=z7
  have f8:∀ b o,H7 b = some o → b ≠ d → upd H7 d (.dK (stw S1)) b = some o:=fun b o e nb=>by rw [z9 nb]; exact e
  have dom8:∀ b,upd H7 d (.dK (stw S1)) b = none → H7 b = none:=fun b e=>by
   by_cases z:b = d
   ·rw [z,z7] at e; cases e
   ·rwa [z9 z] at e
  generalize upd H7 d (.dK (stw S1)) = H8 at g8d f8 dom8 ⊢
  have nl:∀ b xs,H7 b = some (.lst xs) → b ≠ d:=fun b xs e z=>by rw [z,hst] at e; cases e
  have nt:∀ b xs,H7 b = some (.tup xs) → b ≠ d:=fun b xs e z=>by rw [z,hst] at e; cases e
  obtain ⟨hnd,hsd⟩:=And.intro hS.nd hS.sd
  have npu_pt:S.pu ≠ S.pt:=by have:=hS.nd; simp [Sv.lists] at this; exact this.1.1
  have npr_pt:S.pr ≠ S.pt:=by have:=hS.nd; simp [Sv.lists] at this; exact fun e=>this.2.1.2.1 e.symm
  have npc_pt:S.pc ≠ S.pt:=by have:=hS.nd; simp [Sv.lists] at this; exact fun e=>this.2.1.2.2.1 e.symm
  have npl_pt:S.pl ≠ S.pt:=by have:=hS.nd; simp [Sv.lists] at this; exact fun e=>this.2.1.2.2.2 e.symm
  have npu_pl:S.pu ≠ S.pl:=by have:=hS.nd; simp [Sv.lists] at this; exact this.1.2.2.2.2
  have u7:=f7 _ _ hS.gu npu_pt
  have r7:=f7 _ _ hS.gr npr_pt
  have c7:=f7 _ _ hS.gc npc_pt
  have l7:=f7 _ _ hS.gl npl_pt
  have r8:=f8 _ _ r7 (nl _ _ r7)
  have ePr:S1.pr = S.pr:=by rw [eS1]
  have ePc:S1.pc = S.pc:=by rw [eS1]
  have ePl:S1.pl = S.pl:=by rw [eS1]
  have eNow:S1.now = S.now:=by rw [eS1]
  have q8:=zkd g8d
  rw [ePr] at q8
  refine ⟨_,q8,_,rfl,⟨_,SqL.of r8⟩,?_⟩
  refine z1m (xs:=[]) (zd (by decide)) (fun j acc H'=>H' = H8 ∧ acc = []) ⟨rfl,rfl⟩ ?_ ?_ ?_ ?_
  ·rintro j acc H' ⟨-,rfl⟩
   exact Nat.zero_le _
  ·rintro j acc H' ⟨rfl,-⟩
   exact SqL.of r8
  ·rintro Nn j acc H' x hN hx hj ⟨rfl,rfl⟩
   cases hx
  rintro acc H' ⟨rfl,rfl⟩ pr2 hpr2
  have s9:=Same.upd (o:=.lst []) hpr2
  have g9:upd H' pr2 (.lst []) pr2 = some (.lst []):=z7
  generalize upd H' pr2 (.lst []) = H9 at s9 g9 ⊢
  refine ⟨_,zf1 (s9 _ _ g8d) pr2,?_⟩
  obtain ⟨S2,eS2⟩:∃ S2:Sv,S2 = { S1 with pr:=pr2 }:=⟨_,rfl⟩
  rw [← eS2]
  have g9d:=s9 _ _ g8d
  have g10d:upd H9 d (.dK (stw S2)) d = some (.dK (stw S2)):=z7
  have f10:∀ b o,H9 b = some o → b ≠ d → upd H9 d (.dK (stw S2)) b = some o:=fun b o e nb=>by rw [z9 nb]; exact e
  have dom10:∀ b,upd H9 d (.dK (stw S2)) b = none → H9 b = none:=fun b e=>by
   by_cases z:b = d
   ·rw [z,z7] at e; cases e
   ·rwa [z9 z] at e
  generalize upd H9 d (.dK (stw S2)) = H10 at g10d f10 dom10 ⊢
  have f710:∀ b o,H7 b = some o → b ≠ d → H10 b = some o:=fun b o e nb=>f10 _ _ (s9 _ _ (f8 _ _ e nb)) nb
  have c10:=f710 _ _ c7 (nl _ _ c7)
  have kc10:∀ z ∈ S.C,H10 z.1 = some (.tup (cyv z.2)):=fun z hz=>by
   have h1:=f7 _ _ (hS.kc z hz) fun e=>by have:=hS.kc z hz; rw [e,hS.gt] at this; cases this
   exact f710 _ _ h1 (nt _ _ h1)
  have ePc2:S2.pc = S.pc:=by rw [eS2]; exact ePc
  have q10:=zco g10d
  rw [ePc2] at q10
  refine ⟨_,q10,_,rfl,⟨_,SqL.of c10⟩,?_⟩
  refine z1m (xs:=refs S.C) (by rw [z17]; exact zd (by omega)) (fun j acc H'=>H' = H10 ∧ acc = refs ((S.C.take j).filter fun q=>!(decide (q.2.h = hd) && decide (q.2.l = lk)))) ⟨rfl,rfl⟩ ?_ ?_ ?_ ?_
  ·rintro j acc H' ⟨-,rfl⟩
   rw [z17]
   exact Nat.le_trans (List.length_filter_le _ _) (by rw [List.length_take]; omega)
  ·rintro j acc H' ⟨rfl,-⟩
   exact SqL.of c10
  ·rintro Nn j acc H' x hN hx hj ⟨rfl,rfl⟩
   obtain ⟨y,hy,rfl⟩:=z3e hx
   have stp:=z1o (fun q:Addr × Nt=>!(decide (q.2.h = hd) && decide (q.2.l = lk))) hy
   have hy1:=kc10 y (List.mem_of_getElem? hy)
   walk_at "rd"
   refine ⟨_,_,_,_,rfl,rfl,SqT.of hy1,zb (j:=0) rfl,rfl,?_⟩
   by_cases c1:y.2.h = hd
   ·rw [if_neg (by simp [c1])]
    refine ⟨_,_,_,_,rfl,rfl,SqT.of hy1,zb (j:=2) rfl,rfl,?_⟩
    by_cases c2:y.2.l = lk
    ·rw [if_neg (by simp [c2])]
     refine hN _ _ ⟨rfl,?_⟩
     rw [stp,if_neg (by simp [c1,c2]),List.append_nil]
    ·rw [if_pos (by simp [c2])]
     refine hN _ _ ⟨rfl,?_⟩
     rw [stp,if_pos (by simp [c2])]
     simp [refs]
   ·rw [if_pos (by simp [c1])]
    refine hN _ _ ⟨rfl,?_⟩
    rw [stp,if_pos (by simp [c1])]
    simp [refs]
  rintro acc H' ⟨rfl,rfl⟩ pc2 hpc2
  rw [z17,List.take_length]
  have kC2:∀ z ∈ S.C.filter (fun q=>!(decide (q.2.h = hd) && decide (q.2.l = lk))),z ∈ S.C:=fun z hz=>(List.mem_filter.mp hz).1
  have lC2:(S.C.filter fun q=>!(decide (q.2.h = hd) && decide (q.2.l = lk))).length ≤ S.C.length:=List.length_filter_le _ _
  generalize (S.C.filter fun q=>!(decide (q.2.h = hd) && decide (q.2.l = lk))) = C2 at kC2 lC2 ⊢
  have s11:=Same.upd (o:=.lst (refs C2)) hpc2
  have g11:upd H' pc2 (.lst (refs C2)) pc2 = some (.lst (refs C2)):=z7
  generalize upd H' pc2 (.lst (refs C2)) = H11 at s11 g11 ⊢
  refine ⟨_,zcp (s11 _ _ g10d) pc2 C2,?_⟩
  obtain ⟨S3,eS3⟩:∃ S3:Sv,S3 = { S2 with pc:=pc2,C:=C2 }:=⟨_,rfl⟩
  rw [← eS3]
  have npd:pc2 ≠ d:=fun e=>by rw [e,s11 _ _ g10d] at g11; cases g11
  have g12d:upd H11 d (.dK (stw S3)) d = some (.dK (stw S3)):=z7
  have f12:∀ b o,H11 b = some o → b ≠ d → upd H11 d (.dK (stw S3)) b = some o:=fun b o e nb=>by rw [z9 nb]; exact e
  generalize upd H11 d (.dK (stw S3)) = H12 at g12d f12 ⊢
  have ePc3:S3.pc = pc2:=by rw [eS3]
  have q12:=zco g12d
  rw [ePc3] at q12
  have c12:=f12 _ _ g11 npd
  refine ⟨_,q12,.inl ⟨_,SqL.of c12⟩,zd (by decide),fun py hpy=>?_⟩
  have s13:=Same.upd (o:=.tup [V.str hd,V.int (1 + m),V.str lk,V.bl sh,V.int (S.now + tm)]) hpy
  have g13:upd H12 py (.tup [V.str hd,V.int (1 + m),V.str lk,V.bl sh,V.int (S.now + tm)]) py = some (.tup (cyv ⟨1 + m,hd,lk,sh,S.now + tm⟩)):=z7
  generalize upd H12 py _ = H13 at s13 g13 ⊢
  have c13:=s13 _ _ c12
  refine ⟨pc2,_,_,rfl,rfl,c13,z1u (by rw [z17]; omega),?_⟩
  have g14c:upd H13 pc2 (.lst (refs C2 ++ [V.ref py])) pc2 = some (.lst (refs (C2 ++ [(py,⟨1 + m,hd,lk,sh,S.now + tm⟩)]))):=by rw [z7]; simp [refs]
  have f14:∀ b o,H13 b = some o → b ≠ pc2 → upd H13 pc2 (.lst (refs C2 ++ [V.ref py])) b = some o:=fun b o e nb=>by rw [z9 nb]; exact e
  have dom14:∀ b,upd H13 pc2 (.lst (refs C2 ++ [V.ref py])) b = none → H13 b = none:=fun b e=>by
   by_cases z:b = pc2
   ·rw [z,z7] at e; cases e
   ·rwa [z9 z] at e
  generalize upd H13 pc2 (.lst (refs C2 ++ [V.ref py])) = H14 at g14c f14 dom14 ⊢
  have f1014:∀ b o,H' b = some o → b ≠ d → H14 b = some o:=fun b o e nb=>f14 _ _ (s13 _ _ (f12 _ _ (s11 _ _ e) nb)) (zc e hpc2)
  have f714:∀ b o,H7 b = some o → b ≠ d → H14 b = some o:=fun b o e nb=>f1014 _ _ (f710 _ _ e nb) nb
  have g14d:H14 d = some (.dK (stw S3)):=f14 _ _ (s13 _ _ g12d) npd.symm
  have ePl3:S3.pl = S.pl:=by rw [eS3,eS2,eS1]
  have eNow3:S3.now = S.now:=by rw [eS3,eS2,eS1]
  have q14:=zgw g14d
  rw [ePl3] at q14
  have n14:=z2p g14d
  rw [eNow3] at n14
  have l14:=f714 _ _ l7 (nl _ _ l7)
  have rb7:=b7 _ _ grb4 nrb
  have rb14:=f714 _ _ rb7 (nl _ _ rb7)
  refine ⟨_,q14,.inl ⟨_,SqL.of l14⟩,_,n14,_,.inl ⟨SqL.of rb14,fun pb hpb=>⟨zd (by decide),fun pg hpg=>?_⟩⟩⟩
  have s15:=Same.upd (o:=.tup (z13 (sayL S hd lk sh))) hpb
  generalize upd H14 pb (.tup (z13 (sayL S hd lk sh))) = H15 at s15 hpg ⊢
  have s16:=s15.trans (Same.upd (o:=.tup [V.str "given",V.int S.now,V.str hd,V.str lk,V.bl sh,V.int (1 + m),V.int (S.now + tm),V.ref pb]) hpg)
  have g16:upd H15 pg (.tup [V.str "given",V.int S.now,V.str hd,V.str lk,V.bl sh,V.int (1 + m),V.int (S.now + tm),V.ref pb]) pg = some (.tup [V.str "given",V.int S.now,V.str hd,V.str lk,V.bl sh,V.int (1 + m),V.int (S.now + tm),V.ref pb]):=z7
  generalize upd H15 pg _ = H16 at s16 g16 ⊢
  have l16:=s16 _ _ l14
  refine ⟨_,_,_,rfl,rfl,l16,z1u (by omega),?_⟩
  have g17l:upd H16 S.pl (.lst (S.lg ++ [V.ref pg])) S.pl = some (.lst (S.lg ++ [V.ref pg])):=z7
  have f17:∀ b o,H16 b = some o → b ≠ S.pl → upd H16 S.pl (.lst (S.lg ++ [V.ref pg])) b = some o:=fun b o e nb=>by rw [z9 nb]; exact e
  generalize upd H16 S.pl (.lst (S.lg ++ [V.ref pg])) = H17 at g17l f17 ⊢
  have F7:∀ b o,H7 b = some o → b ≠ d → b ≠ S.pl → H17 b = some o:=fun b o e n1 n2=>f17 _ _ (s16 _ _ (f714 _ _ e n1)) n2
  have FH:∀ b o,H b = some o → b ≠ S.pt → b ≠ d → b ≠ S.pl → H17 b = some o:=fun b o e n1 n2 n3=>F7 _ _ (f7 _ _ e n1) n2 n3
  have FT:∀ b xs,H b = some (.tup xs) → H17 b = some (.tup xs):=fun b xs e=>FH _ _ e (fun z=>by rw [z,hS.gt] at e; cases e) (fun z=>by rw [z,hS.st] at e; cases e) (fun z=>by rw [z,hS.gl] at e; cases e)
  have FL:∀ b xs,H b = some (.lst xs) → b ∉ S.lists → H17 b = some (.lst xs):=fun b xs e nb=>FH _ _ e (fun z=>nb (by rw [z]; simp [Sv.lists])) (fun z=>by rw [z,hS.st] at e; cases e) (fun z=>nb (by rw [z]; simp [Sv.lists]))
  have su:=hS.su
  have nS:∀ x ∈ u.lists,x ∉ S.lists:=fun x hx hx2=>hS.sd x hx2 hx
  have dl:S.pl ≠ d:=nl _ _ l7
  have hpr2n:H pr2 = none:=dom7 _ (dom8 _ hpr2)
  have hpc2n:H pc2 = none:=by
   have h10:=dom10 _ hpc2
   exact dom7 _ (dom8 _ (zv s9 h10))
  subst eS1
  subst eS2
  subst eS3
  have pn_pl:pn ≠ S.pl:=fun e=>by rw [e,h4.gl] at hpn; cases hpn
  have pn_pu:pn ≠ S.pu:=fun e=>by rw [e,h4.gu] at hpn; cases hpn
  have l8:=f8 _ _ l7 (nl _ _ l7)
  have pr_pl:pr2 ≠ S.pl:=fun e=>by rw [e,l8] at hpr2; cases hpr2
  have pr_pu:pr2 ≠ S.pu:=fun e=>by rw [e,f8 _ _ u7 (nl _ _ u7)] at hpr2; cases hpr2
  have pr_pt:pr2 ≠ S.pt:=fun e=>by rw [e,f8 _ _ t7 (nl _ _ t7)] at hpr2; cases hpr2
  have pr_pn:pr2 ≠ pn:=fun e=>by rw [e,f8 _ _ g7 (nl _ _ g7)] at hpr2; cases hpr2
  have pr_d:pr2 ≠ d:=fun e=>by rw [e,g8d] at hpr2; cases hpr2
  have pc_pl:pc2 ≠ S.pl:=fun e=>by rw [e,f710 _ _ l7 (nl _ _ l7)] at hpc2; cases hpc2
  have pc_pu:pc2 ≠ S.pu:=fun e=>by rw [e,f710 _ _ u7 (nl _ _ u7)] at hpc2; cases hpc2
  have pc_pt:pc2 ≠ S.pt:=fun e=>by rw [e,f710 _ _ t7 (nl _ _ t7)] at hpc2; cases hpc2
  have pc_pn:pc2 ≠ pn:=fun e=>by rw [e,f710 _ _ g7 (nl _ _ g7)] at hpc2; cases hpc2
  have r10:=f10 _ _ g9 pr_d
  have pc_pr:pc2 ≠ pr2:=fun e=>by rw [e,r10] at hpc2; cases hpc2
  have py_pc:py ≠ pc2:=fun e=>by rw [e,c12] at hpy; cases hpy
  have g14y:=f14 _ _ g13 py_pc
  have tl:∀ b xs,H16 b = some (.tup xs) → b ≠ S.pl:=fun b xs e z=>by rw [z,l16] at e; cases e
  refine q m ⟨S.now,S.ps,S.pu,S.pt,pn,pr2,pc2,S.pk,S.po,S.pl,S.us,topS S.ts (sayL S hd lk sh) (1 + m),F1 ++ M,C2 ++ [(py,⟨1 + m,hd,lk,sh,S.now + tm⟩)],S.lg ++ [V.ref pg]⟩ H17 pg pb hT
   ⟨f17 _ _ (s16 _ _ g14d) dl.symm,⟨FT _ _ su.tu,FL _ _ su.gh (nS _ (by simp [Su.lists])),FL _ _ su.gl (nS _ (by simp [Su.lists])),FL _ _ su.gc (nS _ (by simp [Su.lists])),FL _ _ su.gt (nS _ (by simp [Su.lists]))⟩,
    F7 _ _ u7 (nl _ _ u7) npu_pl,F7 _ _ t7 (nl _ _ t7) npl_pt.symm,F7 _ _ g7 (nl _ _ g7) pn_pl,fun z hz=>?_,f17 _ _ (s16 _ _ (f1014 _ _ r10 pr_d)) pr_pl,f17 _ _ (s16 _ _ g14c) pc_pl,fun z hz=>?_,g17l,?_,fun x hx hx2=>?_⟩
   rfl rfl rfl rfl ?_ ?_ rfl (f17 _ _ g16 (tl _ _ g16)) (fun x hx=>?_) fun b o e nb=>?_
  ·rcases List.mem_append.mp hz with hz | hz
   ·exact FT _ _ (hS.kn z (kF z hz))
   ·have:=kM z hz
    exact F7 _ _ this (nt _ _ this) fun e=>by rw [e,l7] at this; cases this
  ·rcases List.mem_append.mp hz with hz | hz
   ·exact FT _ _ (hS.kc z (kC2 z hz))
   ·rw [List.mem_singleton.mp hz]
    have:=s16 _ _ g14y
    exact f17 _ _ this (tl _ _ this)
  ·show [S.pu,S.pt,pn,pr2,pc2,S.pl].Nodup
   simp [npu_pt,npu_pl,pn_pu.symm,pr_pu.symm,pc_pu.symm,npt.symm,pr_pt.symm,pc_pt.symm,npl_pt.symm,pr_pn.symm,pc_pn.symm,pn_pl,pc_pr.symm,pr_pl,pc_pl]
  ·have hx3:x ∈ [S.pu,S.pt,pn,pr2,pc2,S.pl]:=hx
   have hsu:∃ xs,H x = some (.lst xs):=by
    simp only [Su.lists,List.mem_cons,List.not_mem_nil,or_false] at hx2
    rcases hx2 with rfl | rfl | rfl | rfl
    ·exact ⟨_,su.gh⟩
    ·exact ⟨_,su.gl⟩
    ·exact ⟨_,su.gc⟩
    ·exact ⟨_,su.gt⟩
   obtain ⟨xs,ex⟩:=hsu
   simp only [List.mem_cons,List.not_mem_nil,or_false] at hx3
   rcases hx3 with rfl | rfl | rfl | rfl | rfl | rfl
   ·exact hS.sd _ (by simp [Sv.lists]) hx2
   ·exact hS.sd _ (by simp [Sv.lists]) hx2
   ·rw [hpn0] at ex; cases ex
   ·rw [hpr2n] at ex; cases ex
   ·rw [hpc2n] at ex; cases ex
   ·exact hS.sd _ (by simp [Sv.lists]) hx2
  ·show (F1 ++ M).map (·.2) = _
   rw [List.map_append,eF,eM]
   rfl
  ·show (C2 ++ [(py,_)]).length ≤ _
   rw [List.length_append]
   show _ + 1 ≤ _
   omega
  ·have hx3:x ∈ [S.pu,S.pt,pn,pr2,pc2,S.pl]:=hx
   simp only [List.mem_cons,List.not_mem_nil,or_false] at hx3
   rcases hx3 with rfl | rfl | rfl | rfl | rfl | rfl
   ·exact .inl (by simp [Sv.lists])
   ·exact .inl (by simp [Sv.lists])
   ·exact .inr hpn0
   ·exact .inr hpr2n
   ·exact .inr hpc2n
   ·exact .inl (by simp [Sv.lists])
  ·simp only [own,List.mem_cons,List.not_mem_nil,or_false,not_or] at nb
   exact FH b o e nb.2.2.1 nb.1 nb.2.2.2.2
def isDr (num now:Int) (us:List Bool) (q:Nk):Bool:=decide (q.x.n = num) && (decide (now < q.x.e) && us.getD q.k false)
def z9f (K:PySem.W.Frag):Sp:=fun vs H Q _=>∃ (d:Addr) (S:Sv) (u:Su) (num:Int),vs = [.ref d,.int num] ∧ StAt H d S u ∧ SayP S u ∧ (∀ q ∈ S.N,q.2.k < u.n) ∧ (S.N.filter fun q=>isDr num S.now S.us q.2).length < 64 ∧
 ∀ (r pn:Addr) (ks:List Int) (H':Hp),ks.Perm ((S.N.filter fun q=>isDr num S.now S.us q.2).map fun q=>(q.2.k:Int) + 1) → ks.Pairwise (· ≤ ·) → H' r = some (.lst (ks.map V.int)) → StAt H' d { S with pn:=pn,N:=S.N.filter fun q=>!isDr num S.now S.us q.2 } u → H pn = none → H r = none → ButK [d] H H' → Q (.ref r) H'
theorem z9g (F:Def K mg "_law_dropped" z41 ["_law_state","_law_number"]) (T:Txt K mg y0 yd yc y6 yb ya y8 y7 y9):Has P w K mg base 1 "_law_dropped" ["_law_state","_law_number"] (z9f K):=by
 refine F.ok sc__law_dropped (fun vs H Q E h=>?_) (fun f cdv A outer s H vs Q E hr h=>?_)
 ·obtain ⟨d,S,u,num,rfl,_⟩:=h
  rfl
 ·obtain ⟨d,S,u,num,rfl,hS,⟨hok,hun,hll,hn⟩,hk,h64,q⟩:=h
  have hu:=hr.units0
  have hu2:=z3l hr
  refine ⟨_,(@z8 _ _ _ _ _ (@zi _ _ 2 _ _ _ _ sc__law_dropped.nd rfl (Or.inl rfl) (@z1c _ _ _ _ z6) rfl (Or.inr rfl)) (@z8 _ _ _ _ _ (@zi _ _ 3 _ _ _ _ sc__law_dropped.nd rfl (Or.inl rfl) (@z1c _ _ _ _ z6) rfl (Or.inr rfl)) (@z8 _ _ _ _ _ (@z25 _ _ _ _ _ _ _ _ PassesOwn.never rfl (@z18 _ _ _ _ (@zx _ _ _ _ _ _ hu2 (pv 0) zj (fun _ _=>rfl))) (@z15 _ _ 4 _ sc__law_dropped.nd rfl (Or.inl rfl) (Or.inr rfl)) (@za _ _ _ (@zy _ _ _ _ _ _ _ _ (PW.pt (@z3h _ _ _ _ _ _ _ (@zn _ _ _ _ _ _ _ _ z1a (@zh _ _ _ _ _ _ _ ix_tup (pv 4) z4 (fun _ _=>rfl)) (pv 1) (zm _)) (@z3h _ _ _ _ _ _ _ (@zn _ _ _ _ _ _ _ _ zbh (@zh _ _ _ _ _ _ _ ix_tup (pv 4) z4 (fun _ _=>rfl)) (@zx _ _ _ _ _ _ hu2 (pv 0) zj (fun _ _=>rfl)) (zm _)) (@z5k _ _ _ _ (@z1k _ _ _ (@zh _ _ _ _ _ _ _ ix_list (@zx _ _ _ _ _ _ hu2 (pv 0) zj (fun _ _=>rfl)) (@zf _ _ _ _ _ _ _ _ z2u (@zh _ _ _ _ _ _ _ ix_tup (pv 4) z4 (fun _ _=>rfl)) z4) (fun _ _=>rfl)) (by intro _; rfl)))))) (@za _ _ _ (@z1w _ _ _ _ (@z2c _ _ _ _ _ _ _ _ _ _ _ _ PySem.F.plainAttrs_list PySem.F.slot_list_append PySem.F.type_list_append z23 (pv 2) (@z0 _ _ _ _ _ (@zh _ _ _ _ _ _ _ ix_tup (pv 4) z4 (fun _ _=>rfl)) z6 rfl) rfl rfl rfl rfl rfl) rfl)) (@za _ _ _ (@z1w _ _ _ _ (@z2c _ _ _ _ _ _ _ _ _ _ _ _ PySem.F.plainAttrs_list PySem.F.slot_list_append PySem.F.type_list_append z23 (pv 3) (@z0 _ _ _ _ _ (pv 4) z6 rfl) rfl rfl rfl rfl rfl) rfl)))) (by intro _; rfl)) (@z8 _ _ _ _ _ (@z4o _ _ _ _ _ _ _ _ _ hu2 (pv 0) zj (pv 3) rfl) (@za _ _ _ (@zl _ _ _ _ (@zg _ _ _ _ _ _ _ _ _ zca rfl T.b_sorted (by decide +kernel) (@z0 _ _ _ _ _ (pv 2) z6 rfl) (by decide) (by decide) rfl rfl))))))),?_⟩
  walk_at "rd"
  refine ⟨Nat.zero_le _,fun pf hpf=>⟨Nat.zero_le _,fun pn hpn=>?_⟩⟩
  have s1:=Same.upd (o:=.lst []) hpf
  have g1:upd H pf (.lst []) pf = some (.lst []):=z7
  generalize upd H pf (.lst []) = H1 at s1 g1 hpn ⊢
  have s2:=Same.upd (o:=.lst []) hpn
  have g2:upd H1 pn (.lst []) pn = some (.lst []):=z7
  have g2f:=s2 _ _ g1
  have nfn:pf ≠ pn:=fun e=>by rw [e,hpn] at g1; cases g1
  generalize upd H1 pn (.lst []) = H2 at s2 g2 g2f ⊢
  have s12:=s1.trans s2
  have hpn0:H pn = none:=zv s1 hpn
  refine ⟨_,z8d (s12 _ _ hS.st),_,rfl,⟨_,SqL.of (s12 _ _ hS.gn)⟩,?_⟩
  refine z1i (xs:=refk S.N) (fun i σ H'=>∃ (v4:Option V),σ = [some (V.ref d),some (V.int num),some (V.ref pf),some (V.ref pn),v4] ∧ H' pf = some (.lst ((((S.N.take i).filter fun q=>isDr num S.now S.us q.2).map fun q=>(q.2.k:Int) + 1).map V.int)) ∧ H' pn = some (.lst (refk ((S.N.take i).filter fun q=>!isDr num S.now S.us q.2))) ∧ Same H H') ⟨_,rfl,g2f,g2,s12⟩ ?_ ?_ ?_
  ·rintro i σ H' - ⟨v4,-,-,-,s3⟩
   exact SqL.of (s3 _ _ hS.gn)
  ·rintro Pv hP i x σ H' hx ⟨v4,rfl,gf,gn,s3⟩
   obtain ⟨y,hy,rfl⟩:=z8b hx
   have my:=List.mem_of_getElem? hy
   have hi:i < S.N.length:=(List.getElem?_eq_some_iff.mp hy).1
   have st1:=z1o (fun q:Addr × Nk=>isDr num S.now S.us q.2) hy
   have st2:=z1o (fun q:Addr × Nk=>!isDr num S.now S.us q.2) hy
   have hy1:=s3 _ _ (hS.kn y my)
   have hst:=s3 _ _ hS.st
   have l1:((S.N.take i).filter fun q=>isDr num S.now S.us q.2).length ≤ 400:=Nat.le_trans (List.length_filter_le _ _) (by rw [List.length_take]; omega)
   have l2:((S.N.take i).filter fun q=>!isDr num S.now S.us q.2).length ≤ 400:=Nat.le_trans (List.length_filter_le _ _) (by rw [List.length_take]; omega)
   have yes:isDr num S.now S.us y.2 = true → z7a (V.ref pf) [V.int ((y.2.k:Int) + 1)] H' (fun _ H1=>Pv (i + 1) [some (V.ref d),some (V.int num),some (V.ref pf),some (V.ref pn),some (V.ref y.1)] H1):=fun e=>by
    refine ⟨_,_,_,rfl,rfl,gf,z1u (by rw [List.length_map,List.length_map]; omega),hP _ _ _ ⟨_,rfl,by rw [z7,st1,if_pos e]; simp,by rw [z9 nfn.symm,st2,if_neg (by rw [e]; exact Bool.false_ne_true),List.append_nil]; exact gn,fun b o hb=>?_⟩⟩
    rw [z9 (zc hb hpf)]
    exact s3 _ _ hb
   have no:isDr num S.now S.us y.2 = false → z7a (V.ref pn) [V.ref y.1] H' (fun _ H1=>Pv (i + 1) [some (V.ref d),some (V.int num),some (V.ref pf),some (V.ref pn),some (V.ref y.1)] H1):=fun e=>by
    refine ⟨_,_,_,rfl,rfl,gn,z1u (by rw [z43]; omega),hP _ _ _ ⟨_,rfl,by rw [z9 nfn,st1,if_neg (by rw [e]; exact Bool.false_ne_true),List.append_nil]; exact gf,by rw [z7,st2,if_pos (by rw [e]; rfl)]; simp [refk],fun b o hb=>?_⟩⟩
    rw [z9 (zc hb hpn0)]
    exact s3 _ _ hb
   walk_at "rd"
   have hyk:y.2.k < S.us.length:=by have:=hk y my; omega
   have gb:(S.us.map V.bl)[y.2.k]? = some (.bl S.us[y.2.k]):=by rw [List.getElem?_map,List.getElem?_eq_getElem hyk]; rfl
   have eb:S.us.getD y.2.k false = S.us[y.2.k]:=by rw [List.getD_eq_getElem?_getD,List.getElem?_eq_getElem hyk]; rfl
   refine ⟨_,_,_,_,rfl,rfl,SqT.of hy1,zb (j:=1) rfl,rfl,?_⟩
   by_cases c1:y.2.x.n = num
   rotate_left
   ·rw [if_neg (by simpa using c1)]
    exact ⟨.inl ⟨_,SqL.of gn⟩,no (by unfold isDr; simp [c1])⟩
   rw [if_pos (decide_eq_true (congrArg V.int c1))]
   refine ⟨_,_,_,_,rfl,rfl,SqT.of hy1,zb (j:=5) rfl,_,z2p hst,_,rfl,_,rfl,?_⟩
   by_cases c2:S.now < y.2.x.e
   rotate_left
   ·rw [if_neg (by simpa using c2)]
    exact ⟨.inl ⟨_,SqL.of gn⟩,no (by unfold isDr; simp [c2])⟩
   rw [if_pos (decide_eq_true c2)]
   refine ⟨_,z9a hst,_,_,_,_,rfl,rfl,SqT.of hy1,zb (j:=0) rfl,_,rfl,?_⟩
   rw [show ((y.2.k:Int) + 1) - 1 = (y.2.k:Int) by omega]
   refine ⟨_,_,_,_,rfl,rfl,SqL.of (s3 _ _ hS.gu),zb gb,_,rfl,?_⟩
   cases c3:S.us[y.2.k] with
   | true =>
    rw [if_pos rfl]
    exact ⟨.inl ⟨_,SqL.of gf⟩,_,_,_,_,rfl,rfl,SqT.of hy1,zb (j:=0) rfl,yes (by unfold isDr; rw [eb,c3]; simp [c1,c2])⟩
   | false =>
    rw [if_neg Bool.false_ne_true]
    exact ⟨.inl ⟨_,SqL.of gn⟩,no (by unfold isDr; rw [eb,c3]; simp)⟩
  rintro σ H' ⟨v4,rfl,gf,gn,s3⟩
  rw [z43,List.take_length] at gf gn
  walk_at "rd"
  have hst:=s3 _ _ hS.st
  refine ⟨_,z73 hst pn (S.N.filter fun q=>!isDr num S.now S.us q.2),?_⟩
  have nfd:pf ≠ d:=fun e=>by rw [e,hst] at gf; cases gf
  have nnd:pn ≠ d:=fun e=>by rw [e,hst] at gn; cases gn
  have fL:∀ b xs,H' b = some (.lst xs) → upd H' d (.dK (stw { S with pn:=pn,N:=S.N.filter fun q=>!isDr num S.now S.us q.2 })) b = some (.lst xs):=fun b xs e=>by rw [z9 (fun z=>by rw [z,hst] at e; cases e)]; exact e
  have fT:∀ b xs,H' b = some (.tup xs) → upd H' d (.dK (stw { S with pn:=pn,N:=S.N.filter fun q=>!isDr num S.now S.us q.2 })) b = some (.tup xs):=fun b xs e=>by rw [z9 (fun z=>by rw [z,hst] at e; cases e)]; exact e
  have g4:upd H' d (.dK (stw { S with pn:=pn,N:=S.N.filter fun q=>!isDr num S.now S.us q.2 })) d = some (.dK (stw { S with pn:=pn,N:=S.N.filter fun q=>!isDr num S.now S.us q.2 })):=z7
  have b4:∀ b o,H b = some o → b ≠ d → upd H' d (.dK (stw { S with pn:=pn,N:=S.N.filter fun q=>!isDr num S.now S.us q.2 })) b = some o:=fun b o e nb=>by rw [z9 nb]; exact s3 _ _ e
  have d4:∀ b,upd H' d (.dK (stw { S with pn:=pn,N:=S.N.filter fun q=>!isDr num S.now S.us q.2 })) b = none → H b = none:=fun b e=>by
   by_cases z:b = d
   ·rw [z,z7] at e; cases e
   ·rw [z9 z] at e; exact zv s3 e
  generalize upd H' d _ = H4 at fL fT g4 b4 d4 ⊢
  have hS3:=hS.mono s3
  refine ⟨_,SqL.of (fL _ _ gf),by rw [List.length_map]; exact h64,fun r ks hr0 hp hs=>?_⟩
  have s5:=Same.upd (o:=.lst (ks.map V.int)) hr0
  have nn:∀ x ∈ S.lists,x ≠ pn:=fun x hx e=>by
   have:∃ xs,H x = some (.lst xs):=by
    simp only [Sv.lists,List.mem_cons,List.not_mem_nil,or_false] at hx
    rcases hx with rfl | rfl | rfl | rfl | rfl | rfl
    ·exact ⟨_,hS.gu⟩
    ·exact ⟨_,hS.gt⟩
    ·exact ⟨_,hS.gn⟩
    ·exact ⟨_,hS.gr⟩
    ·exact ⟨_,hS.gc⟩
    ·exact ⟨_,hS.gl⟩
   obtain ⟨xs,ex⟩:=this
   rw [e,hpn0] at ex
   cases ex
  have hnd:=hS.nd
  have st4:StAt H4 d { S with pn:=pn,N:=S.N.filter fun q=>!isDr num S.now S.us q.2 } u:=by
   refine ⟨g4,⟨fT _ _ hS3.su.tu,fL _ _ hS3.su.gh,fL _ _ hS3.su.gl,fL _ _ hS3.su.gc,fL _ _ hS3.su.gt⟩,fL _ _ hS3.gu,fL _ _ hS3.gt,fL _ _ gn,fun z hz=>fT _ _ (hS3.kn z (List.mem_filter.mp hz).1),fL _ _ hS3.gr,fL _ _ hS3.gc,fun z hz=>fT _ _ (hS3.kc z hz),fL _ _ hS3.gl,?_,fun x hx hx2=>?_⟩
   ·show [S.pu,S.pt,pn,S.pr,S.pc,S.pl].Nodup
    have a1:=nn S.pu (by simp [Sv.lists])
    have a2:=nn S.pt (by simp [Sv.lists])
    have a3:=nn S.pr (by simp [Sv.lists])
    have a4:=nn S.pc (by simp [Sv.lists])
    have a5:=nn S.pl (by simp [Sv.lists])
    simp only [Sv.lists,List.nodup_cons,List.mem_cons,List.not_mem_nil,or_false,not_or,List.nodup_nil,and_true,not_false_eq_true] at hnd ⊢
    obtain ⟨⟨x1,x2,x3,x4,x5⟩,⟨y1,y2,y3,y4⟩,⟨z1,z2,z3⟩,⟨w1,w2⟩,v⟩:=hnd
    exact ⟨⟨x1,a1,x3,x4,x5⟩,⟨a2,y2,y3,y4⟩,⟨a3.symm,a4.symm,a5.symm⟩,⟨w1,w2⟩,v⟩
   ·have hx3:x ∈ [S.pu,S.pt,pn,S.pr,S.pc,S.pl]:=hx
    simp only [List.mem_cons,List.not_mem_nil,or_false] at hx3
    rcases hx3 with rfl | rfl | rfl | rfl | rfl | rfl
    ·exact hS.sd _ (by simp [Sv.lists]) hx2
    ·exact hS.sd _ (by simp [Sv.lists]) hx2
    ·simp only [Su.lists,List.mem_cons,List.not_mem_nil,or_false] at hx2
     rcases hx2 with rfl | rfl | rfl | rfl
     ·rw [hS.su.gh] at hpn0; cases hpn0
     ·rw [hS.su.gl] at hpn0; cases hpn0
     ·rw [hS.su.gc] at hpn0; cases hpn0
     ·rw [hS.su.gt] at hpn0; cases hpn0
    ·exact hS.sd _ (by simp [Sv.lists]) hx2
    ·exact hS.sd _ (by simp [Sv.lists]) hx2
    ·exact hS.sd _ (by simp [Sv.lists]) hx2
  refine q r pn ks _ hp hs z7 (st4.mono s5) hpn0 (d4 _ hr0) fun b o e nb=>s5 _ _ (b4 b o e (by simpa using nb))
def z4l (n:Int) (L:NL):NL:=L.filter fun q=>decide (q.2.n ≠ n)
def hasn (n:Int) (L:NL):Bool:=L.any fun q=>decide (q.2.n = n)
def zh0 (C:Addr):Sp:=fun vs H Q _=>∃ (k:Addr) (u:Bool) (t:Int) (L:NL) (n tick:Int),vs = [.ref k,.int n,.int tick] ∧ KeeperAt C H k u t L ∧
 ((u && hasn n (z16 tick L)) = false → ∀ (H':Hp),Same H H' → Q (.bl false) H') ∧ ((u && hasn n (z16 tick L)) = true → ∀ (H':Hp) (dx p3:Addr),H p3 = none → H' k = some (.ins C dx (kf u t p3)) → KeeperAt C H' k u t (z4l n L) → But k H H' → Q (.bl true) H')
theorem zac (F:MDef K y6 "drop" "Keeper.drop" z4f ["self","number","tick"]) (T:Txt K mg y0 yd yc y6 yb ya y8 y7 y9) (yi:MHas P w K mg base CX0 1 y6 "live" ["self","tick"] (z8z y6)):MHas P w K mg base CX0 2 y6 "drop" ["self","number","tick"] (zh0 y6):=by
 refine F.ok za1 (fun vs H Q E h=>?_) (fun f cdv A outer s H vs Q E hr h=>?_)
 ·obtain ⟨k,u,t,L,n,tick,rfl,_⟩:=h
  rfl
 ·obtain ⟨k,u,t,L,n,tick,rfl,hk,q1,q2⟩:=h
  have hu:=hr.units0
  refine ⟨_,(@z8 _ _ _ _ _ (@zy _ _ _ _ _ _ _ _ (PW.pt (@z75 _ _ _ _ _ _ _ (@z3i _ _ _ _ (@z1k _ _ _ (@z2b _ _ _ _ _ (pv 0) rfl) (by intro _; rfl))) (@z5l _ _ _ _ (@zn _ _ _ _ _ _ _ _ z6m (pv 1) (@z1x _ _ "note" ([]) ([]) _ _ _ _ _ _ _ _ rfl ⟨rfl,by decide +kernel,by decide +kernel,rfl,zu rfl,by decide +kernel,trivial⟩ (@z18 _ _ _ _ (@z20 _ _ _ _ _ _ _ _ _ _ _ _ _ _ yi T.cl_Keeper (hr.mono (by decide)) (pv 0) (@z0 _ _ _ _ _ (pv 2) z6 rfl) rfl rfl rfl)) (fun _ _ _ _=>z3f) (fun _ _ _ _=>(@zh _ _ _ _ _ _ _ (z1y (K:=K)) (pv 0) z4 (fun _ _=>rfl))) (by intro _; rfl)) (by with_unfolding_all rfl))))) (@za _ _ _ (@zl _ _ _ _ z22)) zo) (@z8 _ _ _ _ _ (@z38 _ _ _ _ _ _ _ _ (pv 0) (@z1x _ _ "note" (["number"]) ([1]) _ _ _ _ _ _ _ _ rfl ⟨rfl,by decide +kernel,by decide +kernel,rfl,zu rfl,by decide +kernel,⟨⟨rfl,Or.inl rfl,rfl⟩,trivial⟩⟩ (@z18 _ _ _ _ (@z2b _ _ _ _ _ (pv 0) rfl)) (fun _ _ _ _=>(@z2k _ _ _ (@zn _ _ _ _ _ _ _ _ z2r (@zh _ _ _ _ _ _ _ (z1y (K:=K)) (pv 0) z4 (fun _ _=>rfl)) (pv 1) (zm _)))) (fun _ _ _ _=>(pv 0)) (by intro _; rfl)) rfl) (@za _ _ _ (@zl _ _ _ _ z22)))),?_⟩
  walk_at "rd"
  obtain ⟨⟨dx,l,h1,h2⟩,hn,hlen⟩:=id hk
  refine ⟨_,_,_,h1,T.cl_Keeper,T.n_Keeper_up,_,z7e u t l,u,rfl,?_⟩
  cases hup:u with
  | false=>exact q1 (by rw [hup]; rfl) H (Same.refl _)
  | true =>
  rw [if_neg (by decide)]
  refine ⟨_,_,h1,z3q u t l (by decide +kernel) (by decide +kernel) (by decide +kernel),k,u,t,L,tick,rfl,hk,fun r H1 hr0 hr1 hs1=>⟨r,rfl,⟨_,SqL.of hr1⟩,?_⟩⟩
  have hl1:(z16 tick L).length ≤ L.length:=List.length_filter_le _ _
  have hn1:NotesAt H1 (z16 tick L):=(hn.mono hs1).sub fun q h=>(List.mem_filter.mp h).1
  refine z1m (xs:=refs (z16 tick L)) (by rw [z17]; exact zd (by omega)) (fun i acc H'=>acc = ((z16 tick L).take i).map (fun q=>V.int q.2.n) ∧ H1 = H') ⟨by simp,rfl⟩ ?_ ?_ ?_ ?_
  ·rintro i acc H' ⟨rfl,-⟩
   rw [List.length_map,List.length_take]
   omega
  ·rintro i acc H' ⟨-,rfl⟩
   exact SqL.of hr1
  ·rintro Nn i acc H' x hN hx hi ⟨rfl,rfl⟩
   obtain ⟨y,hy,rfl⟩:=z3e hx
   walk_at "rd"
   refine ⟨_,_,_,_,rfl,rfl,SqT.of (hn1.tu _ (List.mem_of_getElem? hy)),zb (j:=0) rfl,hN _ _ ⟨?_,rfl⟩⟩
   rw [List.take_succ,hy,List.map_append]
   rfl
  ·rintro acc H' ⟨rfl,rfl⟩ p hp
   rw [z17,List.take_length]
   have s2:=hs1.trans (Same.upd (o:=.lst ((z16 tick L).map fun q=>V.int q.2.n)) hp)
   have ein:inV (V.int n) ((z16 tick L).map fun q=>V.int q.2.n) = hasn n (z16 tick L):=by
    unfold inV hasn
    rw [List.any_map]
    congr 1
   refine ⟨p,_,rfl,.inl (SqL.of z7),rfl,?_,?_⟩
   ·rw [List.all_eq_true]
    intro x hx
    obtain ⟨y,_,rfl⟩:=List.mem_map.mp hx
    rfl
   rw [ein]
   refine ⟨_,rfl,?_⟩
   cases hh:hasn n (z16 tick L) with
   | false =>
    rw [if_pos (by decide)]
    exact q1 (by rw [hup,hh]; rfl) _ s2
   | true =>
   rw [if_neg (by decide)]
   refine ⟨_,_,_,s2 _ _ h1,T.cl_Keeper,T.n_Keeper_kept,_,z35 u t l,l,rfl,⟨_,SqL.of (s2 _ _ h2)⟩,?_⟩
   refine z1m (xs:=refs L) (by rw [z17]; exact zd (by omega)) (fun i acc H'=>acc = refs (z4l n (L.take i)) ∧ upd H1 p (.lst ((z16 tick L).map fun q=>V.int q.2.n)) = H') ⟨by simp [z4l,refs],rfl⟩ ?_ ?_ ?_ ?_
   ·rintro i acc H' ⟨rfl,-⟩
    rw [z17]
    exact Nat.le_trans (List.length_filter_le _ _) (by rw [List.length_take]; omega)
   ·rintro i acc H' ⟨-,rfl⟩
    exact SqL.of (s2 _ _ h2)
   ·rintro Nn i acc H' x hN hx hi ⟨rfl,rfl⟩
    obtain ⟨y,hy,rfl⟩:=z3e hx
    walk_at "rd"
    refine ⟨_,_,_,_,rfl,rfl,SqT.of (s2 _ _ (hn.tu _ (List.mem_of_getElem? hy))),zb (j:=0) rfl,rfl,?_⟩
    have st:=z1o (fun q:Addr × Nt=>decide (q.2.n ≠ n)) hy
    by_cases hc:y.2.n = n
    ·rw [if_neg (by simp [hc])]
     refine hN _ _ ⟨?_,rfl⟩
     unfold z4l
     rw [st]
     simp [hc]
    ·rw [if_pos (by simp [hc])]
     refine hN _ _ ⟨?_,rfl⟩
     unfold z4l
     rw [st]
     simp [hc,refs]
   ·rintro acc H' ⟨rfl,rfl⟩ p3 hp3
    rw [z17,List.take_length]
    have s3:=s2.trans (Same.upd (o:=.lst (refs (z4l n L))) hp3)
    refine ⟨_,_,_,s3 _ _ h1,T.cl_Keeper,T.n_Keeper_kept,by show (3:Nat) < 1000; decide,?_⟩
    rw [z5h]
    have nk3:k ≠ p3:=zc (s2 _ _ h1) hp3
    refine q2 (by rw [hup,hh]; rfl) _ dx p3 (zv s2 hp3) z7 ⟨⟨dx,p3,z7,by rw [z9 nk3.symm,z7]⟩,⟨fun x hx=>?_,fun x hx=>hn.sm _ (List.mem_filter.mp hx).1⟩,Nat.le_trans (List.length_filter_le _ _) hlen⟩ fun b o e nb=>?_
    ·have tz:=hn.tu _ (List.mem_filter.mp hx).1
     have nz:x.1 ≠ k:=fun e=>by rw [e,h1] at tz; cases tz
     rw [z9 nz]
     exact s3 _ _ tz
    ·rw [z9 nb]
     exact s3 _ _ e
def hasN (num tick:Int) (s:KN):Bool:=(z28 tick s.N).any fun x=>decide (x.n = num)
def z2e (num tick:Int) (s:KN):KN:=if (s.u && hasN num tick s) = true then ⟨s.u,s.t,s.N.filter fun x=>decide (x.n ≠ num)⟩ else s
def z29 (ss:List KN) (js:List Nat) (num tick:Int):List KN:=ss.mapIdx fun j s=>if j ∈ js then z2e num tick s else s
def drAt (ss:List KN) (num tick:Int) (j:Nat):Bool:=match ss[j]? with | some s=>hasN num tick s | none=>false
theorem zh1 (ss:List KN) (num tick:Int):z29 ss [] num tick = ss:=by
 unfold z29
 apply List.ext_getElem?
 intro j
 rw [List.getElem?_mapIdx]
 cases ss[j]? <;> simp
theorem zf4 {ss:List KN} {js:List Nat} {num tick:Int} {i j:Nat} {s:KN} (hj:js[i]? = some j) (hs:ss[j]? = some s) (nd:js.Nodup):z29 ss (js.take (i + 1)) num tick = (z29 ss (js.take i) num tick).set j (z2e num tick s) ∧ (z29 ss (js.take i) num tick)[j]? = some s:=by
 have et:js.take (i + 1) = js.take i ++ [j]:=by rw [List.take_succ,hj]; rfl
 have nj:j ∉ js.take i:=fun h=>by
  obtain ⟨k,hk,e⟩:=List.getElem_of_mem h
  rw [List.length_take] at hk
  have e2:js[k]? = some j:=by rw [List.getElem_take] at e; rw [List.getElem?_eq_getElem (by omega),e]
  have:=(List.getElem?_inj (by omega) nd).mp (e2.trans hj.symm)
  omega
 constructor
 ·apply List.ext_getElem?
  intro k
  by_cases hk:k = j
  ·subst hk
   rw [List.getElem?_set_self (by unfold z29; rw [List.length_mapIdx]; exact (List.getElem?_eq_some_iff.mp hs).1)]
   unfold z29
   rw [List.getElem?_mapIdx,hs,et]
   simp
  ·rw [List.getElem?_set_ne (Ne.symm hk)]
   unfold z29
   rw [List.getElem?_mapIdx,List.getElem?_mapIdx,et]
   cases ss[k]? with
   | none=>rfl
   | some t=>simp [hk]
 ·unfold z29
  rw [List.getElem?_mapIdx,hs]
  simp [nj]
def zdy (CC CK:Addr):Sp:=fun vs H Q _=>∃ (c l:Addr) (ks ls:List Addr) (ss:List KN) (num tick:Int),vs = [.ref c,.int num,.int tick] ∧ CAt CC CK H c l ks ls ss ∧ z68 ss ∧
 ∀ (r:Addr) (ls':List Addr) (H':Hp),LsOk H ls ls' → CAt CC CK H' c l ks ls' (z29 ss (upl ss ks.length) num tick) → H r = none → H' r = some (.lst (z13 ((upl ss ks.length).filter (drAt ss num tick)))) → ButK ks H H' → Q (.ref r) H'
theorem z9h (F:MDef K y0 "drop" "Council.drop" z40 ["self","number","tick"]) (T:Txt K mg y0 yd yc y6 yb ya y8 y7 y9) (y13:MHas P w K mg base CX0 2 y6 "drop" ["self","number","tick"] (zh0 y6)) (ye:MHas P w K mg base CX0 1 y0 "up_keepers" ["self"] (z94 y0 y6)):MHas P w K mg base CX0 3 y0 "drop" ["self","number","tick"] (zdy y0 y6):=by
 refine F.ok sc_Council_drop (fun vs H Q E h=>?_) (fun f cdv A outer s H vs Q E hr h=>?_)
 ·obtain ⟨c,l,ks,ls,ss,num,tick,rfl,_⟩:=h
  rfl
 ·obtain ⟨c,l,ks,ls,ss,num,tick,rfl,hc,hsm,q⟩:=h
  have hu:=hr.units0
  refine ⟨_,(@z8 _ _ _ _ _ (@zi _ _ 3 _ _ _ _ sc_Council_drop.nd rfl (Or.inl rfl) (@z1c _ _ _ _ z6) rfl (Or.inr rfl)) (@z8 _ _ _ _ _ (@z25 _ _ _ _ _ _ _ _ PassesOwn.never rfl (@z18 _ _ _ _ (@z4n _ _ _ _ _ _ _ _ _ _ _ ye T.cl_Council (hr.mono (by decide)) (pv 0) rfl)) (@z8h _ _ _ _ _ _ rfl (@z1r _ _ _ _ _ (@z15 _ _ 4 _ sc_Council_drop.nd rfl (Or.inl rfl) (Or.inr rfl)) (@z1r _ _ _ _ _ (@z15 _ _ 5 _ sc_Council_drop.nd rfl (Or.inl rfl) (Or.inr rfl)) z4m rfl) rfl) rfl rfl) (@za _ _ _ (@zy _ _ _ _ _ _ _ _ (@z1k _ _ _ (@z20 _ _ _ _ _ _ _ _ _ _ _ _ _ _ y13 T.cl_Keeper (hr.mono (by decide)) (pv 5) (@z0 _ _ _ _ _ (pv 1) (@z0 _ _ _ _ _ (pv 2) z6 rfl) rfl) rfl rfl rfl) (by intro _; rfl)) (@za _ _ _ (@z1w _ _ _ _ (@z2c _ _ _ _ _ _ _ _ _ _ _ _ PySem.F.plainAttrs_list PySem.F.slot_list_append PySem.F.type_list_append z23 (pv 3) (@z0 _ _ _ _ _ (pv 4) z6 rfl) rfl rfl rfl rfl rfl) rfl)) zo)) (by intro _; rfl)) (@za _ _ _ (@zl _ _ _ _ (pv 3))))),?_⟩
  walk_at "rd"
  obtain ⟨dx,hob⟩:=hc.ob
  have hsz:=hc.sz
  refine ⟨Nat.zero_le _,fun p hp=>?_⟩
  have s1:=Same.upd (o:=.lst []) hp
  have g1:upd H p (.lst []) p = some (.lst (z13 [])):=z7
  generalize upd H p (.lst []) = H1 at s1 g1 ⊢
  refine ⟨_,_,s1 _ _ hob,z2j _ _ (by decide +kernel) (by decide +kernel),c,l,ks,ls,ss,rfl,hc.mono s1,fun r L H2 hL hr0 gr s2=>⟨r,rfl,⟨_,SqL.of gr⟩,?_⟩⟩
  have lL:=hL.len
  have s12:=s1.trans s2
  have npl:∀ x ∈ ls,x ≠ p:=fun x hx e=>by obtain ⟨xs,ex⟩:=hc.lsome hx; rw [e,hp] at ex; cases ex
  have nlp:l ≠ p:=fun e=>by have:=hc.li; rw [e,hp] at this; cases this
  refine z1i (xs:=ptup L) (fun i σ H'=>∃ (ls':List Addr) (v4 v5:Option V),σ = [some (V.ref c),some (V.int num),some (V.int tick),some (V.ref p),v4,v5] ∧ H' p = some (.lst (z13 (((upl ss ks.length).take i).filter (drAt ss num tick)))) ∧ LsOk H2 ls ls' ∧ CAt y0 y6 H' c l ks ls' (z29 ss ((upl ss ks.length).take i) num tick) ∧ (∀ b o,H2 b = some o → b ∉ ks → b ≠ p → H' b = some o)) ⟨ls,_,_,rfl,s2 _ _ g1,LsOk.refl _ _,by rw [List.take_zero,zh1]; exact hc.mono s12,fun b o e _ _=>e⟩ ?_ ?_ ?_
  ·rintro i σ H' - ⟨ls',v4,v5,-,-,-,hc3,b3⟩
   refine SqL.of (b3 _ _ gr (fun hk=>?_) ?_)
   ·obtain ⟨dx,fs,z⟩:=(hc.mono s12).mem hk
    rw [gr] at z
    cases z
   ·intro e
    rw [e,g1] at hr0
    cases hr0
  ·rintro Pv hP i x σ H' hx ⟨ls',v4,v5,rfl,gp,lo,hc3,b3⟩
   obtain ⟨y,hy,rfl⟩:=z67 hx
   have my:=List.mem_of_getElem? hy
   have hj:(upl ss ks.length)[i]? = some y.2.1:=by rw [← hL.mp,List.getElem?_map,hy]; rfl
   have stp:=z1o (drAt ss num tick) hj
   obtain ⟨s,l0,hs,hl0,-⟩:=hc.kp y.2.1 y.2.2 (hL.at_ y my)
   obtain ⟨dst,ds⟩:=zf4 (num:=num) (tick:=tick) hj hs (z54 ss ks.length)
   obtain ⟨s',l1,hs',hl1,hK⟩:=hc3.kp y.2.1 y.2.2 (hL.at_ y my)
   obtain rfl:s' = s:=by rw [ds] at hs'; exact (Option.some.inj hs').symm
   have ty:H' y.1 = some (.tup [.int ((y.2.1:Int) + 1),.ref y.2.2]):=b3 _ _ (hL.tu y my) (fun hk=>by obtain ⟨dx,fs,z⟩:=(hc.mono s12).mem hk; rw [hL.tu y my] at z; cases z) (fun e=>by have:=hL.tu y my; rw [e,s2 _ _ g1] at this; cases this)
   have eD:drAt ss num tick y.2.1 = hasN num tick s':=by unfold drAt; rw [hs]
   walk_at "rd"
   obtain ⟨⟨dk,a1⟩,Ls,eLs,hku⟩:=id hK
   have su:s'.u = true:=by
    have:=(z2n (List.mem_of_getElem? hj)).2
    unfold upAt at this
    rw [hs] at this
    exact this
   have eh:hasn num (z16 tick Ls) = hasN num tick s':=by
    unfold hasn hasN
    rw [← eLs,← z53,List.any_map]
    rfl
   have lp:(((upl ss ks.length).take i).filter (drAt ss num tick)).length ≤ 100:=Nat.le_trans (List.length_filter_le _ _) (by rw [List.length_take]; have:=z5s ss ks.length; omega)
   have pk:p ∉ ks:=fun hk=>by obtain ⟨dx,fs,z⟩:=hc3.mem hk; rw [gp] at z; cases z
   refine ⟨_,SqT.of ty,rfl,_,_,rfl,_,_,rfl,rfl,_,rfl,_,_,a1,z3q _ _ _ (by decide +kernel) (by decide +kernel) (by decide +kernel),?_⟩
   refine ⟨y.2.2,s'.u,s'.t,Ls,num,tick,rfl,hku,fun e H4 s4=>⟨false,rfl,?_⟩,fun e H4 dx4 p3 hp3 a4 k4 b4=>⟨true,rfl,?_⟩⟩
   ·rw [if_neg Bool.false_ne_true]
    rw [su,Bool.true_and,eh] at e
    have eS:z2e num tick s' = s':=by unfold z2e; rw [if_neg (by rw [e,Bool.and_false]; exact Bool.false_ne_true)]
    refine hP _ _ _ ⟨ls',_,_,rfl,?_,lo,?_,fun b o eb n1 n2=>s4 _ _ (b3 b o eb n1 n2)⟩
    ·rw [stp,if_neg (by rw [eD,e]; exact Bool.false_ne_true),List.append_nil]
     exact s4 _ _ gp
    ·rw [dst,eS,z65 ds]
     exact hc3.mono s4
   ·rw [if_pos rfl]
    rw [su,Bool.true_and,eh] at e
    have eS:z2e num tick s' = ⟨s'.u,s'.t,s'.N.filter fun x=>decide (x.n ≠ num)⟩:=by unfold z2e; rw [if_pos (by rw [e,su]; rfl)]
    have hK4:KAt y6 H4 y.2.2 p3 ⟨s'.u,s'.t,s'.N.filter fun x=>decide (x.n ≠ num)⟩:=⟨⟨dx4,a4⟩,z4l num Ls,by show (z4l num Ls).map (·.2) = _; rw [← eLs]; unfold z4l; rw [List.filter_map]; rfl,k4⟩
    have hc4:=hc3.set (hL.at_ y my) hK4 b4
    rw [← eS,← dst] at hc4
    have kk:y.2.2 ∈ ks:=List.mem_of_getElem? (hL.at_ y my)
    have gp4:=b4 _ _ gp fun z=>pk (z ▸ kk)
    have h23:H2 p3 = none:=by
     cases e2:H2 p3 with
     | none=>rfl
     | some o =>
      exfalso
      by_cases z1:p3 ∈ ks
      ·obtain ⟨dx,fs,z⟩:=hc3.mem z1
       rw [hp3] at z; cases z
      ·by_cases z2:p3 = p
       ·rw [z2,gp] at hp3; cases hp3
       ·rw [b3 _ _ e2 z1 z2] at hp3; cases hp3
    have lo4:LsOk H2 ls (ls'.set y.2.1 p3):=fun x hx=>by
     rcases List.mem_or_eq_of_mem_set hx with h | h
     ·exact lo x h
     ·rw [h]; exact .inr h23
    have np4:p ∉ ls'.set y.2.1 p3:=fun hx=>by
     rcases lo4 p hx with h | h
     ·exact npl p h rfl
     ·rw [s2 _ _ g1] at h; cases h
    refine ⟨.inl ⟨_,SqL.of gp4⟩,_,_,_,rfl,rfl,gp4,z1u (by rw [z1v]; omega),hP _ _ _ ⟨ls'.set y.2.1 p3,_,_,rfl,?_,lo4,hc4.upd gp4 nlp np4,fun b o eb n1 n2=>?_⟩⟩
    ·rw [z7,stp,if_pos (by rw [eD]; exact e)]
     simp [z13]
    ·rw [z9 n2]
     exact b4 _ _ (b3 b o eb n1 n2) fun z=>n1 (z ▸ kk)
  rintro σ H' ⟨ls',v4,v5,rfl,gp,lo,hc3,b3⟩
  walk_at "rd"
  have hlen:(ptup L).length = (upl ss ks.length).length:=by rw [z42,← hL.mp,List.length_map]
  rw [hlen,List.take_length] at gp hc3
  refine q p ls' H' (fun x hx=>?_) hc3 hp gp fun b o e nb=>b3 _ _ (s12 _ _ e) nb (zc e hp)
  rcases lo x hx with h | h
  ·exact .inl h
  ·exact .inr (zv s12 h)
structure Rel (S:Sv) (ss:List KN) (n:Nat):Prop where
 us:S.us = ss.map (·.u)
 ts:S.ts = ss.map (·.t)
 ln:ss.length = n
 nt:∀ j s,ss[j]? = some s → z28 S.now s.N = ((S.N.map (·.2)).filter fun q=>decide (q.k = j) && decide (S.now < q.x.e)).map (·.x)
 pw:∀ s ∈ ss,s.N.Pairwise (fun a b=>a.n < b.n) ∧ (∀ x ∈ s.N,x.n ≤ s.t) ∧ 0 ≤ s.t
 kb:∀ q ∈ S.N,q.2.k < n
theorem Rel.ups {S:Sv} {ss:List KN} {n:Nat} (h:Rel S ss n):upL S.us = upl ss n:=by
 unfold upL upl
 rw [h.us,List.length_map,h.ln]
 refine List.filter_congr fun j hj=>?_
 have hl:j < ss.length:=by rw [h.ln]; exact List.mem_range.mp hj
 unfold upAt
 rw [List.getD_eq_getElem?_getD,List.getElem?_map,List.getElem?_eq_getElem hl]
 rfl
theorem Rel.naming {S:Sv} {ss:List KN} {n:Nat} (h:Rel S ss n) {j:Nat} {s:KN} (hs:ss[j]? = some s) (f:Nt → Bool):((z28 S.now s.N).any f) = ((S.N.map (·.2)).any fun q=>decide (q.k = j) && (decide (S.now < q.x.e) && f q.x)):=by
 rw [h.nt j s hs,List.any_map,List.any_filter]
 congr 1
 funext q
 simp [Bool.and_assoc]
theorem Rel.say {S:Sv} {ss:List KN} {n:Nat} (h:Rel S ss n) (hd lk:Str) (sh:Bool):sayL S hd lk sh = sayl ss n hd lk sh S.now:=by
 unfold sayL sayl
 rw [h.ups]
 refine List.filter_congr fun j hj=>?_
 have hl:j < ss.length:=by rw [h.ln]; exact (z2n hj).1
 have hs:ss[j]? = some ss[j]:=List.getElem?_eq_getElem hl
 unfold frAt
 rw [hs]
 show _ = z91 ss[j].N hd lk sh S.now
 unfold z91
 rw [h.naming hs,Bool.eq_iff_iff,List.isEmpty_iff,zkf]
 simp only [Bool.not_eq_true',List.any_eq_false,Bool.and_eq_true,decide_eq_true_eq,not_and,Bool.not_eq_true]
theorem Rel.top {S:Sv} {ss:List KN} {n:Nat} (h:Rel S ss n) {m m':Int} (h1:zcs S.us S.ts m) (h2:z97 ss m'):m = m':=by
 obtain ⟨⟨j,hj,ej⟩,a⟩:=h1
 obtain ⟨⟨s,ms,us,es⟩,b⟩:=h2
 rw [h.ups] at hj a
 rw [h.ts] at ej a
 have hl:j < ss.length:=by rw [h.ln]; exact (z2n hj).1
 have hsj:ss[j]? = some ss[j]:=List.getElem?_eq_getElem hl
 rw [List.getElem?_map,hsj] at ej
 have ej':ss[j].t = m:=Option.some.inj ej
 have uj:=(z2n hj).2
 unfold upAt at uj
 rw [hsj] at uj
 have x1:=b ss[j] (List.getElem_mem hl) uj
 obtain ⟨i,hi,ei⟩:=List.getElem_of_mem ms
 have hi2:ss[i]? = some s:=by rw [List.getElem?_eq_getElem hi,ei]
 have ui:i ∈ upl ss n:=List.mem_filter.mpr ⟨List.mem_range.mpr (by rw [← h.ln]; exact hi),by unfold upAt; rw [hi2]; exact us⟩
 have x2:=a i ui s.t (by rw [List.getElem?_map,hi2]; rfl)
 omega
theorem Rel.later {S:Sv} {ss:List KN} {n:Nat} (h:Rel S ss n) {t:Int} (ht:S.now ≤ t):Rel { S with now:=t } ss n:=by
 refine ⟨h.us,h.ts,h.ln,fun j s hs=>?_,h.pw,h.kb⟩
 have e:=congrArg (List.filter fun x=>decide (t < x.e)) (h.nt j s hs)
 unfold z28 at e ⊢
 rw [List.filter_filter,List.filter_map,List.filter_filter] at e
 have l1:(s.N.filter fun a=>decide (t < a.e) && decide (S.now < a.e)) = s.N.filter fun x=>decide (t < x.e):=List.filter_congr fun x _=>by
  by_cases c:t < x.e
  ·have:S.now < x.e:=by omega
   simp [c,this]
  ·simp [c]
 rw [l1] at e
 show s.N.filter (fun x=>decide (t < x.e)) = _
 rw [e]
 congr 1
 refine List.filter_congr fun q _=>?_
 show (decide (t < q.x.e) && (decide (q.k = j) && decide (S.now < q.x.e))) = (decide (q.k = j) && decide (t < q.x.e))
 by_cases c:t < q.x.e
 ·have:S.now < q.x.e:=by omega
  simp [c,this]
 ·simp [c]
theorem Rel.stand {S:Sv} {ss:List KN} {n j:Nat} {s:KN} (h:Rel S ss n) (hs:ss[j]? = some s) (b:Bool):Rel { S with us:=S.us.set j b } (ss.set j ⟨b,s.t,s.N⟩) n:=by
 have hl:j < ss.length:=(List.getElem?_eq_some_iff.mp hs).1
 refine ⟨?_,?_,by rw [List.length_set]; exact h.ln,fun i s' hs'=>?_,fun s' hs'=>?_,h.kb⟩
 ·show S.us.set j b = _
  rw [h.us,List.map_set]
 ·show S.ts = _
  rw [h.ts,List.map_set,z65]
  rw [List.getElem?_map,hs]; rfl
 ·by_cases e:i = j
  ·subst e
   rw [List.getElem?_set_self hl] at hs'
   cases hs'
   exact h.nt i s hs
  ·rw [List.getElem?_set_ne (Ne.symm e)] at hs'
   exact h.nt i s' hs'
 ·rcases List.mem_or_eq_of_mem_set hs' with z | z
  ·exact h.pw s' z
  ·rw [z]; exact h.pw s (List.mem_of_getElem? hs)
theorem Rel.give {S S':Sv} {ss:List KN} {n:Nat} (h:Rel S ss n) {hd lk:Str} {sh:Bool} {m tm:Int} (ht:1 ≤ tm) (hT:z97 ss m) (e1:S'.now = S.now) (e2:S'.us = S.us) (e3:S'.ts = topS S.ts (sayL S hd lk sh) (1 + m)) (e4:S'.N.map (·.2) = z57 (S.N.map (·.2)) S.now (sayL S hd lk sh) ⟨1 + m,hd,lk,sh,S.now + tm⟩) :
  Rel S' (z2d ss (sayl ss n hd lk sh S.now) ⟨1 + m,hd,lk,sh,S.now + tm⟩) n:=by
 rw [← h.say]
 have up:∀ j ∈ sayL S hd lk sh,j < n ∧ upAt ss j = true:=fun j hj=>by
  rw [h.say] at hj
  exact z2n (List.mem_filter.mp hj).1
 have hm0:0 ≤ m:=by
  obtain ⟨⟨s,ms,-,es⟩,-⟩:=hT
  have:=(h.pw s ms).2.2
  omega
 have gl:(z2d ss (sayL S hd lk sh) ⟨1 + m,hd,lk,sh,S.now + tm⟩).length = ss.length:=by unfold z2d; exact List.length_mapIdx
 have get:∀ j,(z2d ss (sayL S hd lk sh) ⟨1 + m,hd,lk,sh,S.now + tm⟩)[j]? = (ss[j]?).map fun s=>if j ∈ sayL S hd lk sh then ⟨s.u,1 + m,z36 hd lk s.N ++ [⟨1 + m,hd,lk,sh,S.now + tm⟩]⟩ else s:=fun j=>by
  unfold z2d
  rw [List.getElem?_mapIdx]
 generalize hsl:sayL S hd lk sh = sl at up gl get e3 e4
 refine ⟨?_,?_,by rw [gl]; exact h.ln,fun j s' hs'=>?_,fun s' ms'=>?_,fun q hq=>?_⟩
 ·rw [e2,h.us]
  apply List.ext_getElem?
  intro j
  rw [List.getElem?_map,List.getElem?_map,get]
  cases ss[j]? with
  | none=>rfl
  | some s=>by_cases c:j ∈ sl <;> simp [c]
 ·rw [e3,h.ts]
  apply List.ext_getElem?
  intro j
  unfold topS
  rw [List.getElem?_mapIdx,List.getElem?_map,List.getElem?_map,get]
  cases ss[j]? with
  | none=>rfl
  | some s=>by_cases c:j ∈ sl <;> simp [c]
 ·rw [get] at hs'
  cases es:ss[j]? with
  | none=>rw [es] at hs'; cases hs'
  | some s =>
  rw [es] at hs'
  have ht0:=h.nt j s es
  rw [e1,e4]
  unfold z57
  rw [List.filter_append,List.map_append,List.filter_filter]
  have hlive:S.now < S.now + tm:=by omega
  by_cases c:j ∈ sl
  ·have e5:s' = ⟨s.u,1 + m,z36 hd lk s.N ++ [⟨1 + m,hd,lk,sh,S.now + tm⟩]⟩:=by
    have:=Option.some.inj hs'
    dsimp only at this
    rw [if_pos c] at this
    exact this.symm
   rw [e5]
   show z28 S.now (z36 hd lk s.N ++ [⟨1 + m,hd,lk,sh,S.now + tm⟩]) = _
   have l1:z28 S.now (z36 hd lk s.N ++ [⟨1 + m,hd,lk,sh,S.now + tm⟩]) = z36 hd lk (z28 S.now s.N) ++ [⟨1 + m,hd,lk,sh,S.now + tm⟩]:=by
    unfold z28 z36
    rw [List.filter_append,List.filter_filter,List.filter_filter]
    congr 1
    ·refine List.filter_congr fun x _=>Bool.and_comm _ _
    ·simp [hlive]
   rw [l1,ht0]
   congr 1
   ·unfold z36
    rw [List.filter_map,List.filter_filter]
    congr 1
    refine List.filter_congr fun q _=>?_
    show (!(decide (q.x.h = hd) && decide (q.x.l = lk)) && (decide (q.k = j) && decide (S.now < q.x.e))) = (decide (q.k = j) && decide (S.now < q.x.e) && z1t S.now sl hd lk q)
    unfold z1t
    by_cases cj:q.k = j
    ·subst cj
     simp only [c,decide_true,Bool.true_and]
     cases decide (S.now < q.x.e) <;> cases decide (q.x.h = hd) <;> cases decide (q.x.l = lk) <;> rfl
    ·simp [cj]
   ·have nd:sl.Nodup:=by
     rw [← hsl]
     exact List.Nodup.sublist List.filter_sublist (List.Nodup.sublist List.filter_sublist List.nodup_range)
    rw [List.filter_map,List.map_map]
    have e6:sl.filter ((fun q:Nk=>decide (q.k = j) && decide (S.now < q.x.e)) ∘ fun k=>(⟨k,⟨1 + m,hd,lk,sh,S.now + tm⟩⟩:Nk)) = [j]:=by
     have:((fun q:Nk=>decide (q.k = j) && decide (S.now < q.x.e)) ∘ fun k=>(⟨k,⟨1 + m,hd,lk,sh,S.now + tm⟩⟩:Nk)) = fun k=>decide (k = j):=by
      funext k
      simp [hlive]
     rw [this]
     clear hsl up gl get e3 e4 hs' this
     induction sl with
     | nil=>cases c
     | cons a sl ih =>
      obtain ⟨n1,n2⟩:=List.nodup_cons.mp nd
      by_cases ca:a = j
      ·subst ca
       rw [List.filter_cons_of_pos (by simp),List.filter_eq_nil_iff.mpr]
       intro x hx hh
       exact n1 (of_decide_eq_true hh ▸ hx)
      ·rw [List.filter_cons_of_neg (by simpa using ca)]
       exact ih ((List.mem_cons.mp c).resolve_left (fun z=>ca z.symm)) n2
    rw [e6]
    rfl
  ·have e5:s' = s:=by
    have:=Option.some.inj hs'
    dsimp only at this
    rw [if_neg c] at this
    exact this.symm
   rw [e5,ht0]
   have e6:(sl.map fun k=>(⟨k,⟨1 + m,hd,lk,sh,S.now + tm⟩⟩:Nk)).filter (fun q=>decide (q.k = j) && decide (S.now < q.x.e)) = []:=by
    rw [List.filter_eq_nil_iff]
    intro q hq
    obtain ⟨k,hk,rfl⟩:=List.mem_map.mp hq
    have:k ≠ j:=fun z=>c (z ▸ hk)
    simp [this]
   rw [e6,List.map_nil,List.append_nil]
   congr 1
   refine List.filter_congr fun q _=>?_
   show (decide (q.k = j) && decide (S.now < q.x.e)) = (decide (q.k = j) && decide (S.now < q.x.e) && z1t S.now sl hd lk q)
   unfold z1t
   by_cases cj:q.k = j
   ·subst cj
    simp [c]
   ·simp [cj]
 ·obtain ⟨j,hj⟩:=List.getElem?_of_mem ms'
  rw [get] at hj
  cases es:ss[j]? with
  | none=>rw [es] at hj; cases hj
  | some s =>
  rw [es] at hj
  have hp:=h.pw s (List.mem_of_getElem? es)
  have:=Option.some.inj hj
  dsimp only at this
  by_cases c:j ∈ sl
  ·rw [if_pos c] at this
   rw [← this]
   have us:s.u = true:=by
    have:=(up j c).2
    unfold upAt at this
    rw [es] at this
    exact this
   have hle:=hT.2 s (List.mem_of_getElem? es) us
   refine ⟨?_,?_,by show 0 ≤ 1 + m; omega⟩
   ·rw [List.pairwise_append]
    refine ⟨List.Pairwise.sublist List.filter_sublist hp.1,List.pairwise_singleton _ _,fun a ha b hb=>?_⟩
    rw [List.mem_singleton.mp hb]
    have:=hp.2.1 a (List.mem_filter.mp ha).1
    show a.n < 1 + m
    omega
   ·intro x hx
    show x.n ≤ 1 + m
    rcases List.mem_append.mp hx with hx | hx
    ·have:=hp.2.1 x (List.mem_filter.mp hx).1
     omega
    ·rw [List.mem_singleton.mp hx]
     exact Int.le_refl _
  ·rw [if_neg c] at this
   rw [← this]
   exact hp
 ·have hq2:q.2 ∈ S'.N.map (·.2):=List.mem_map_of_mem hq
  rw [e4] at hq2
  unfold z57 at hq2
  rcases List.mem_append.mp hq2 with z | z
  ·obtain ⟨y,hy,ey⟩:=List.mem_map.mp (List.mem_filter.mp z).1
   rw [← ey]
   exact h.kb y hy
  ·obtain ⟨k,hk,ek⟩:=List.mem_map.mp z
   rw [← ek]
   exact (up k hk).1
theorem Rel.drop {S:Sv} {ss:List KN} {n:Nat} (h:Rel S ss n) (num:Int) (pn:Addr) :
  Rel { S with pn:=pn,N:=S.N.filter fun q=>!isDr num S.now S.us q.2 } (z29 ss (upl ss n) num S.now) n:=by
 have gl:(z29 ss (upl ss n) num S.now).length = ss.length:=by unfold z29; exact List.length_mapIdx
 have get:∀ j,(z29 ss (upl ss n) num S.now)[j]? = (ss[j]?).map fun s=>if j ∈ upl ss n then z2e num S.now s else s:=fun j=>by
  unfold z29
  rw [List.getElem?_mapIdx]
 have du:∀ s:KN,(z2e num S.now s).u = s.u:=fun s=>by unfold z2e; split <;> rfl
 have dt:∀ s:KN,(z2e num S.now s).t = s.t:=fun s=>by unfold z2e; split <;> rfl
 have ds:∀ s:KN,∀ x ∈ (z2e num S.now s).N,x ∈ s.N:=fun s x hx=>by
  unfold z2e at hx
  split at hx
  ·exact (List.mem_filter.mp hx).1
  ·exact hx
 have dp:∀ s:KN,s.N.Pairwise (fun a b=>a.n < b.n) → (z2e num S.now s).N.Pairwise (fun a b=>a.n < b.n):=fun s hs=>by
  unfold z2e
  split
  ·exact List.Pairwise.sublist List.filter_sublist hs
  ·exact hs
 refine ⟨?_,?_,by rw [gl]; exact h.ln,fun j s' hs'=>?_,fun s' ms'=>?_,fun q hq=>h.kb q (List.mem_filter.mp hq).1⟩
 ·show S.us = _
  rw [h.us]
  apply List.ext_getElem?
  intro j
  rw [List.getElem?_map,List.getElem?_map,get]
  cases ss[j]? with
  | none=>rfl
  | some s=>by_cases c:j ∈ upl ss n <;> simp [c,du]
 ·show S.ts = _
  rw [h.ts]
  apply List.ext_getElem?
  intro j
  rw [List.getElem?_map,List.getElem?_map,get]
  cases ss[j]? with
  | none=>rfl
  | some s=>by_cases c:j ∈ upl ss n <;> simp [c,dt]
 ·rw [get] at hs'
  cases es:ss[j]? with
  | none=>rw [es] at hs'; cases hs'
  | some s =>
  rw [es] at hs'
  have hs2:=Option.some.inj hs'
  dsimp only at hs2
  have ht0:=h.nt j s es
  have hjl:j < ss.length:=(List.getElem?_eq_some_iff.mp es).1
  have eus:S.us.getD j false = s.u:=by rw [h.us,List.getD_eq_getElem?_getD,List.getElem?_map,es]; rfl
  show z28 S.now s'.N = ((List.map (·.2) (S.N.filter fun q=>!isDr num S.now S.us q.2)).filter fun q=>decide (q.k = j) && decide (S.now < q.x.e)).map (·.x)
  have eN:(S.N.filter fun q=>!isDr num S.now S.us q.2).map (·.2) = (S.N.map (·.2)).filter fun q=>!isDr num S.now S.us q:=by rw [List.filter_map]; rfl
  rw [eN,List.filter_filter]
  have key:((S.N.map (·.2)).filter fun q=>(decide (q.k = j) && decide (S.now < q.x.e)) && !isDr num S.now S.us q) = (((S.N.map (·.2)).filter fun q=>decide (q.k = j) && decide (S.now < q.x.e)).filter fun q=>!(s.u && decide (q.x.n = num))):=by
   rw [List.filter_filter]
   refine List.filter_congr fun q _=>?_
   unfold isDr
   by_cases cj:q.k = j
   ·rw [cj,eus]
    cases decide (S.now < q.x.e) <;> cases decide (q.x.n = num) <;> cases s.u <;> simp
   ·simp [cj]
  rw [key]
  have e7:(((S.N.map (·.2)).filter fun q=>decide (q.k = j) && decide (S.now < q.x.e)).filter fun q=>!(s.u && decide (q.x.n = num))).map (·.x) = (z28 S.now s.N).filter fun x=>!(s.u && decide (x.n = num)):=by
   rw [ht0]
   generalize ((S.N.map (·.2)).filter fun q=>decide (q.k = j) && decide (S.now < q.x.e)) = G
   rw [List.filter_map]
   rfl
  rw [e7]
  by_cases c:j ∈ upl ss n
  ·rw [if_pos c] at hs2
   have us:s.u = true:=by
    have:=(z2n c).2
    unfold upAt at this
    rw [es] at this
    exact this
   rw [← hs2]
   unfold z2e
   by_cases hh:hasN num S.now s = true
   ·rw [if_pos (by rw [us,hh]; rfl)]
    unfold z28
    rw [List.filter_filter,List.filter_filter]
    refine List.filter_congr fun x _=>?_
    rw [us]
    by_cases cn:x.n = num <;> simp [cn]
   ·rw [if_neg (by rw [us,Bool.true_and]; exact hh)]
    symm
    rw [List.filter_eq_self]
    intro x hx
    have:¬ (x.n = num):=fun z=>hh (List.any_eq_true.mpr ⟨x,hx,decide_eq_true z⟩)
    simp [this]
  ·rw [if_neg c] at hs2
   have us:s.u = false:=by
    cases eu:s.u with
    | false=>rfl
    | true =>
     refine absurd (List.mem_filter.mpr ⟨List.mem_range.mpr (by rw [← h.ln]; exact hjl),?_⟩) c
     unfold upAt
     rw [es]
     exact eu
   rw [← hs2,us]
   symm
   rw [List.filter_eq_self]
   intro x _
   rfl
 ·obtain ⟨j,hj⟩:=List.getElem?_of_mem ms'
  rw [get] at hj
  cases es:ss[j]? with
  | none=>rw [es] at hj; cases hj
  | some s =>
  rw [es] at hj
  have hp:=h.pw s (List.mem_of_getElem? es)
  have hs2:=Option.some.inj hj
  dsimp only at hs2
  by_cases c:j ∈ upl ss n
  ·rw [if_pos c] at hs2
   rw [← hs2]
   exact ⟨dp s hp.1,fun x hx=>by rw [dt]; exact hp.2.1 x (ds s x hx),by rw [dt]; exact hp.2.2⟩
  ·rw [if_neg c] at hs2
   rw [← hs2]
   exact hp
theorem zh2 {N:List Nt} (h:N.Pairwise fun a b=>a.n < b.n) (num:Int):(N.filter fun x=>decide (x.n = num)).length ≤ 1:=by
 induction h with
 | nil=>simp
 | cons h1 _ ih =>
  rename_i a l _
  by_cases c:a.n = num
  ·rw [List.filter_cons_of_pos (by simpa using c),List.filter_eq_nil_iff.mpr]
   ·simp
   ·intro x hx hh
    have:=h1 x hx
    have:=of_decide_eq_true hh
    omega
  ·rw [List.filter_cons_of_neg (by simpa using c)]
   exact ih
theorem Rel.dr_nodup {S:Sv} {ss:List KN} {n:Nat} (h:Rel S ss n) (num:Int):((S.N.filter fun q=>isDr num S.now S.us q.2).map fun q=>q.2.k).Nodup:=by
 rw [List.nodup_iff_count]
 intro j
 rw [List.count_eq_countP,List.countP_map,List.countP_eq_length_filter,List.filter_filter]
 by_cases hj:j < ss.length
 ·have es:ss[j]? = some ss[j]:=List.getElem?_eq_getElem hj
  have ht0:=h.nt j _ es
  have hp:=h.pw _ (List.getElem_mem hj)
  have h1:=zh2 (List.Pairwise.sublist (List.filter_sublist (p:=fun x=>decide (S.now < x.e))) hp.1) num
  have h2:(ss[j].N.filter fun x=>decide (S.now < x.e)) = z28 S.now ss[j].N:=rfl
  rw [h2,ht0,List.filter_map,List.length_map,List.filter_filter,List.filter_map,List.length_map] at h1
  refine Nat.le_trans ?_ h1
  refine List.Sublist.length_le ?_
  have:(S.N.filter fun a=>(((fun x=>x == j) ∘ fun q:Addr × Nk=>q.2.k) a && isDr num S.now S.us a.2)) = ((S.N.filter ((fun a:Nk=>((fun x:Nt=>decide (x.n = num)) ∘ fun x:Nk=>x.x) a && (decide (a.k = j) && decide (S.now < a.x.e))) ∘ fun x:Addr × Nk=>x.2)).filter fun a=>S.us.getD a.2.k false):=by
   rw [List.filter_filter]
   refine List.filter_congr fun q _=>?_
   show ((q.2.k == j) && isDr num S.now S.us q.2) = (S.us.getD q.2.k false && (decide (q.2.x.n = num) && (decide (q.2.k = j) && decide (S.now < q.2.x.e))))
   unfold isDr
   rw [show (q.2.k == j) = decide (q.2.k = j) from by rw [Bool.eq_iff_iff]; simp]
   cases decide (q.2.k = j) <;> cases decide (q.2.x.n = num) <;> cases decide (S.now < q.2.x.e) <;> cases S.us.getD q.2.k false <;> rfl
  rw [this]
  exact List.filter_sublist
 ·refine Nat.le_trans (Nat.le_of_eq ?_) (Nat.zero_le 1)
  rw [List.length_eq_zero_iff,List.filter_eq_nil_iff]
  intro q hq hh
  rw [Bool.and_eq_true] at hh
  have h1:(q.2.k == j) = true:=hh.1
  have:=h.kb q hq
  have h2:q.2.k = j:=by simpa using h1
  rw [h.ln] at hj
  omega
theorem Rel.dr_perm {S:Sv} {ss:List KN} {n:Nat} (h:Rel S ss n) (num:Int):((S.N.filter fun q=>isDr num S.now S.us q.2).map fun q=>q.2.k).Perm ((upl ss n).filter (drAt ss num S.now)):=by
 have nd:=h.dr_nodup num
 have nu:((upl ss n).filter (drAt ss num S.now)).Nodup:=List.Nodup.sublist List.filter_sublist (z54 ss n)
 rw [List.perm_ext_iff_of_nodup nd nu]
 intro j
 rw [List.mem_map,List.mem_filter]
 constructor
 ·rintro ⟨q,hq,rfl⟩
  obtain ⟨mq,dq⟩:=List.mem_filter.mp hq
  have kl:=h.kb q mq
  have hj:q.2.k < ss.length:=by rw [h.ln]; exact kl
  have es:ss[q.2.k]? = some ss[q.2.k]:=List.getElem?_eq_getElem hj
  unfold isDr at dq
  rw [Bool.and_eq_true,Bool.and_eq_true] at dq
  have hus:S.us.getD q.2.k false = ss[q.2.k].u:=by rw [h.us,List.getD_eq_getElem?_getD,List.getElem?_map,es]; rfl
  refine ⟨List.mem_filter.mpr ⟨List.mem_range.mpr kl,?_⟩,?_⟩
  ·unfold upAt
   rw [es]
   show ss[q.2.k].u = true
   rw [← hus]
   exact dq.2.2
  ·unfold drAt
   rw [es]
   show hasN num S.now ss[q.2.k] = true
   unfold hasN
   rw [h.naming es,List.any_eq_true]
   refine ⟨q.2,List.mem_map_of_mem mq,?_⟩
   rw [dq.1,dq.2.1]
   simp
 ·rintro ⟨hj,hd⟩
  obtain ⟨jn,ju⟩:=z2n hj
  have hjl:j < ss.length:=by rw [h.ln]; exact jn
  have es:ss[j]? = some ss[j]:=List.getElem?_eq_getElem hjl
  unfold drAt at hd
  rw [es] at hd
  have hd2:hasN num S.now ss[j] = true:=hd
  unfold hasN at hd2
  rw [h.naming es,List.any_eq_true] at hd2
  obtain ⟨x,mx,hx⟩:=hd2
  obtain ⟨q,mq,rfl⟩:=List.mem_map.mp mx
  rw [Bool.and_eq_true,Bool.and_eq_true] at hx
  have ek:=of_decide_eq_true hx.1
  refine ⟨q,List.mem_filter.mpr ⟨mq,?_⟩,ek⟩
  unfold isDr
  unfold upAt at ju
  rw [es] at ju
  rw [hx.2.1,hx.2.2,ek,h.us,List.getD_eq_getElem?_getD,List.getElem?_map,es]
  exact ju
theorem Rel.dropped {S:Sv} {ss:List KN} {n:Nat} (h:Rel S ss n) (num:Int) {ks:List Int} (hp:ks.Perm ((S.N.filter fun q=>isDr num S.now S.us q.2).map fun q=>(q.2.k:Int) + 1)) (hs:ks.Pairwise (· ≤ ·)):ks.map V.int = z13 ((upl ss n).filter (drAt ss num S.now)):=by
 have nd:=h.dr_nodup num
 have e1:((S.N.filter fun q=>isDr num S.now S.us q.2).map fun q=>(q.2.k:Int) + 1) = (((S.N.filter fun q=>isDr num S.now S.us q.2).map fun q=>q.2.k).map fun j:Nat=>(j:Int) + 1):=by rw [List.map_map]; rfl
 have nu:((upl ss n).filter (drAt ss num S.now)).Nodup:=List.Nodup.sublist List.filter_sublist (z54 ss n)
 have pm:=h.dr_perm num
 rw [e1] at hp
 have hp2:=hp.trans (pm.map fun j:Nat=>(j:Int) + 1)
 have so:(((upl ss n).filter (drAt ss num S.now)).map fun j:Nat=>(j:Int) + 1).Pairwise (· ≤ ·):=by
  rw [List.pairwise_map]
  refine List.Pairwise.imp (R:=fun a b:Nat=>a < b) (fun hab=>by omega) ?_
  exact List.Pairwise.sublist (List.filter_sublist.trans List.filter_sublist) List.pairwise_lt_range
 have e2:ks = ((upl ss n).filter (drAt ss num S.now)).map fun j:Nat=>(j:Int) + 1:=List.Perm.eq_of_pairwise (le:=fun a b:Int=>a ≤ b) (fun a b _ _ h1 h2=>by omega) hs so hp2
 rw [e2]
 unfold z13
 rw [List.map_map]
 rfl
def IsNm (c:Str → Nat) (r:Str):Prop:=(r = "" ∧ ∀ z,c z = 0) ∨ (0 < c r ∧ ∀ z,0 < c z → z12 (-(c z:Int)) z (-(c r:Int)) r = false)
theorem zh3 {a b:Int} {x y:Str} (h1:z12 a x b y = false) (h2:z12 b y a x = false):x = y:=by
 unfold z12 at h1 h2
 simp only [Bool.or_eq_false_iff,Bool.and_eq_false_iff,decide_eq_false_iff_not] at h1 h2
 obtain ⟨p1,p2⟩:=h1
 obtain ⟨q1,q2⟩:=h2
 have e:a = b:=by omega
 have k1:=p2.resolve_left (fun h=>h e)
 have k2:=q2.resolve_left (fun h=>h e.symm)
 have:=List.le_antisymm (List.not_lt.mp k2) (List.not_lt.mp k1)
 cases x; cases y
 simpa using this
theorem IsNm.one {c:Str → Nat} {r r':Str} (h:IsNm c r) (h':IsNm c r'):r = r':=by
 rcases h with ⟨rfl,z⟩ | ⟨p,a⟩
 ·rcases h' with ⟨rfl,-⟩ | ⟨p,-⟩
  ·rfl
  ·rw [z] at p; omega
 ·rcases h' with ⟨-,z⟩ | ⟨p',a'⟩
  ·rw [z] at p; omega
  ·exact zh3 (a' _ p) (a _ p')
theorem zdb (a:Int) (x:Str):z12 a x a x = false:=by
 unfold z12
 simp
theorem z9i {α:Type} (f:α → List Str) (z:Str):∀ js:List α,(∀ j ∈ js,(f j).Nodup) → (js.flatMap f).count z = (js.filter fun j=>decide (z ∈ f j)).length
 | [],_=>rfl
 | j :: js,h=>by
  rw [List.flatMap_cons,List.count_append,z9i f z js (fun i hi=>h i (List.mem_cons_of_mem _ hi)),List.filter_cons]
  have nd:=h j (List.mem_cons_self ..)
  by_cases m:z ∈ f j
  ·rw [if_pos (decide_eq_true m),List.length_cons,List.Nodup.count nd,if_pos m]
   omega
  ·rw [if_neg (by simpa using m),List.count_eq_zero.mpr m]
   omega
theorem zdz (k:Nat) (now:Int) (hd lk:Str) (sh:Bool) (z:Str):∀ (N:List Nk) (zs:List Str),z ∈ N.foldl (z21 k now hd lk sh) zs ↔ z ∈ zs ∨ ∃ q ∈ N,q.k = k ∧ now < q.x.e ∧ z1q hd lk sh q.x = true ∧ q.x.h = z
 | [],zs=>by simp
 | q :: N,zs=>by
  rw [List.foldl_cons,zdz k now hd lk sh z N]
  unfold z21
  by_cases c:(decide (q.k = k) && decide (now < q.x.e) && z1q hd lk sh q.x && !decide (q.x.h ∈ zs)) = true
  ·rw [if_pos c]
   simp only [Bool.and_eq_true,decide_eq_true_eq,Bool.not_eq_true',decide_eq_false_iff_not] at c
   obtain ⟨⟨⟨c1,c2⟩,c3⟩,c4⟩:=c
   rw [List.mem_append,List.mem_singleton]
   constructor
   ·rintro ((h | h) | ⟨y,hy,h⟩)
    ·exact .inl h
    ·exact .inr ⟨q,List.mem_cons_self ..,c1,c2,c3,h.symm⟩
    ·exact .inr ⟨y,List.mem_cons_of_mem _ hy,h⟩
   ·rintro (h | ⟨y,hy,h⟩)
    ·exact .inl (.inl h)
    ·rcases List.mem_cons.mp hy with rfl | hy
     ·exact .inl (.inr h.2.2.2.symm)
     ·exact .inr ⟨y,hy,h⟩
  ·rw [if_neg c]
   constructor
   ·rintro (h | ⟨y,hy,h⟩)
    ·exact .inl h
    ·exact .inr ⟨y,List.mem_cons_of_mem _ hy,h⟩
   ·rintro (h | ⟨y,hy,h⟩)
    ·exact .inl h
    ·rcases List.mem_cons.mp hy with rfl | hy
     ·left
      obtain ⟨h1,h2,h3,h4⟩:=h
      rw [decide_eq_true h1,decide_eq_true h2,h3,h4] at c
      simpa using c
     ·exact .inr ⟨y,hy,h⟩
theorem zh4 (k:Nat) (now:Int) (hd lk:Str) (sh:Bool):∀ (N:List Nk) (zs:List Str),zs.Nodup → (N.foldl (z21 k now hd lk sh) zs).Nodup
 | [],_,h=>h
 | q :: N,zs,h=>by
  rw [List.foldl_cons]
  refine zh4 k now hd lk sh N _ ?_
  unfold z21
  split
  ·next c =>
   simp only [Bool.and_eq_true,decide_eq_true_eq,Bool.not_eq_true',decide_eq_false_iff_not] at c
   rw [List.nodup_append]
   refine ⟨h,by simp,fun a ha b hb e=>?_⟩
   rw [List.mem_singleton.mp hb] at e
   subst e
   exact c.2 ha
  ·exact h
theorem nm_mem {k:Nat} {now:Int} {hd lk:Str} {sh:Bool} {z:Str} {N:List Nk}:z ∈ nmOf k now hd lk sh N ↔ ∃ q ∈ N,q.k = k ∧ now < q.x.e ∧ z1q hd lk sh q.x = true ∧ q.x.h = z:=by
 have:=zdz k now hd lk sh z N []
 simpa [nmOf] using this
theorem zir (k:Nat) (now:Int) (hd lk:Str) (sh:Bool) (N:List Nk):(nmOf k now hd lk sh N).Nodup:=zh4 k now hd lk sh N [] List.nodup_nil
theorem zh5:∀ (l m:List Str),l.Nodup → (∀ x ∈ l,x ∈ m) → l.length ≤ m.length
 | [],_,_,_=>Nat.zero_le _
 | x :: l,m,nd,h=>by
  obtain ⟨n1,n2⟩:=List.nodup_cons.mp nd
  have hx:=h x (List.mem_cons_self ..)
  have:=zh5 l (m.erase x) n2 fun y hy=>(List.mem_erase_of_ne (show y ≠ x from fun e=>n1 (by rw [← e]; exact hy))).mpr (h y (List.mem_cons_of_mem _ hy))
  rw [List.length_erase_of_mem hx] at this
  have:=List.length_pos_of_mem hx
  rw [List.length_cons]
  omega
def z3s (S:Sv) (hd lk:Str) (sh:Bool) (js:List Nat):List Str:=js.flatMap fun k=>nmOf k S.now hd lk sh (S.N.map (·.2))
def HsIn (S:Sv) (u:Su):Prop:=∀ q ∈ S.N,q.2.x.h ∈ u.hs
theorem HsIn.len {S:Sv} {u:Su} (h:HsIn S u) (h8:u.hs.length ≤ 8) (hd lk:Str) (sh:Bool):∀ js:List Nat,(z3s S hd lk sh js).length ≤ 8 * js.length
 | []=>Nat.le_refl _
 | j :: js=>by
  have ih:=HsIn.len h h8 hd lk sh js
  unfold z3s at ih ⊢
  rw [List.flatMap_cons,List.length_append,List.length_cons]
  have:=zh5 _ u.hs (zir j S.now hd lk sh (S.N.map (·.2))) fun x hx=>by
   obtain ⟨q,hq,-,-,-,e⟩:=nm_mem.mp hx
   obtain ⟨y,hy,rfl⟩:=List.mem_map.mp hq
   exact e ▸ h y hy
  omega
def z9j (ss:List KN) (hd lk:Str) (sh:Bool) (tick:Int) (j:Nat):List Str:=match ss[j]? with | some s=>((z28 tick s.N).filter (z1q hd lk sh)).map (·.h) | none=>[]
def cntC (ss:List KN) (hd lk:Str) (sh:Bool) (tick:Int) (js:List Nat) (z:Str):Nat:=(js.filter fun j=>decide (z ∈ z9j ss hd lk sh tick j)).length
theorem Rel.named {S:Sv} {ss:List KN} {n:Nat} (h:Rel S ss n) (hd lk:Str) (sh:Bool) (z:Str):(z3s S hd lk sh (upL S.us)).count z = cntC ss hd lk sh S.now (upl ss n) z:=by
 unfold z3s cntC
 rw [z9i _ _ _ fun j _=>zir _ _ _ _ _ _,h.ups]
 congr 1
 refine List.filter_congr fun j hj=>?_
 have hl:j < ss.length:=by rw [h.ln]; exact (z2n hj).1
 have hs:ss[j]? = some ss[j]:=List.getElem?_eq_getElem hl
 unfold z9j
 rw [hs]
 have e:=h.naming hs (fun x=>z1q hd lk sh x && decide (x.h = z))
 rw [Bool.eq_iff_iff] at e ⊢
 rw [decide_eq_true_eq,decide_eq_true_eq,nm_mem]
 simp only [List.any_eq_true,Bool.and_eq_true,decide_eq_true_eq] at e
 constructor
 ·rintro ⟨q,hq,h1,h2,h3,h4⟩
  obtain ⟨x,hx,e1,e2⟩:=e.mpr ⟨q,hq,h1,h2,h3,h4⟩
  exact List.mem_map.mpr ⟨x,List.mem_filter.mpr ⟨hx,e1⟩,e2⟩
 ·intro hm
  obtain ⟨x,hx,e2⟩:=List.mem_map.mp hm
  obtain ⟨hx,e1⟩:=List.mem_filter.mp hx
  obtain ⟨q,hq,h1,h2,h3,h4⟩:=e.mp ⟨x,hx,e1,e2⟩
  exact ⟨q,hq,h1,h2,h3,h4⟩
def ze0 (CC CK:Addr):Sp:=fun vs H Q _=>∃ (c a l:Addr) (ks ls:List Addr) (ss:List KN) (z:Int) (hd lk:Str) (sh:Bool) (tick time:Int),vs = [.ref c,.ref a,.int tick] ∧ H a = some (.tup [.int z,.str hd,.str lk,.bl sh,.int time]) ∧ CAt CC CK H c l ks ls ss ∧ z68 ss ∧ hd.length ≤ 1000 ∧ lk.length ≤ 1000 ∧
 (((sayl ss ks.length hd lk sh tick).length:Int) < (ks.length:Int) / 2 + 1 → ∀ (r:Addr) (H':Hp),H' r = some (.tup [.str "refused"]) → Same H H' → Q (.ref r) H') ∧
 (¬ ((sayl ss ks.length hd lk sh tick).length:Int) < (ks.length:Int) / 2 + 1 → ∀ (m:Int),z97 ss m → ∀ (r p:Addr) (ls':List Addr) (H':Hp),LsOk H ls ls' → CAt CC CK H' c l ks ls' (z2d ss (sayl ss ks.length hd lk sh tick) ⟨1 + m,hd,lk,sh,tick + time⟩) →
  H' r = some (.tup [.int (1 + m),.ref p]) → H' p = some (.lst (z13 (sayl ss ks.length hd lk sh tick))) → H r = none → H p = none → ButK ks H H' → Q (.ref r) H')
theorem zbd (F:Def K mg "_law_given" z50 ["_law_council","_law_asking","_law_tick"]) (T:Txt K mg y0 yd yc y6 yb ya y8 y7 y9) (yy:MHas P w K mg base (CX1 P w) 7 y0 "give" ["self","holder","lock","shared","tick","time"] (zgr y0 y6 yb)):Has P w K mg base 8 "_law_given" ["_law_council","_law_asking","_law_tick"] (ze0 y0 y6):=by
 refine F.ok sc__law_given (fun vs H Q E h=>?_) (fun f cdv A outer s H vs Q E hr h=>?_)
 ·obtain ⟨c,a,l,ks,ls,ss,z,hd,lk,sh,tick,time,rfl,_⟩:=h
  rfl
 ·obtain ⟨c,a,l,ks,ls,ss,z,hd,lk,sh,tick,time,rfl,ha,hc,hsm,hh,hl,q1,q2⟩:=h
  refine ⟨_,(@z8 _ _ _ _ _ (@zk6 _ _ _ _ _ _ _ (@zj5 _ _ _ _ (@zk4 _ _ _ _ _ _ _ _ _ _ _ _ _ _ yy T.cl_Council (hr.mono (by decide)) (pv 0) (@z0 _ _ _ _ _ (@zh _ _ _ _ _ _ _ ix_tup (pv 1) z4 (fun _ _=>rfl)) (@z0 _ _ _ _ _ (@zh _ _ _ _ _ _ _ ix_tup (pv 1) z4 (fun _ _=>rfl)) (@z0 _ _ _ _ _ (@zh _ _ _ _ _ _ _ ix_tup (pv 1) z4 (fun _ _=>rfl)) (@z0 _ _ _ _ _ (pv 2) (@z0 _ _ _ _ _ (@zh _ _ _ _ _ _ _ ix_tup (pv 1) z4 (fun _ _=>rfl)) z6 rfl) rfl) rfl) rfl) rfl) rfl rfl rfl rfl)) (@zj6 _ _ _ _ _ _ _ _ _ _ _ _ rfl T.g_NotFree T.x_NotFree (by decide +kernel) (fun _=>(@za _ _ _ (@zi _ _ 3 _ _ _ _ sc__law_given.nd rfl (Or.inl rfl) (@z1l _ _ _ _ _ (@z0 _ _ _ _ _ zj z6 rfl)) rfl (Or.inr rfl)))) zk5 (by decide)) rfl rfl) (@za _ _ _ (@zl _ _ _ _ (pv 3)))),?_⟩
  walk_at "rd"
  obtain ⟨dx,hob⟩:=hc.ob
  refine ⟨_,_,hob,z2j _ _ (by decide +kernel) (by decide +kernel),?_⟩
  refine ⟨_,_,_,_,rfl,rfl,SqT.of ha,zb (j:=1) rfl,?_⟩
  refine ⟨_,_,_,_,rfl,rfl,SqT.of ha,zb (j:=2) rfl,?_⟩
  refine ⟨_,_,_,_,rfl,rfl,SqT.of ha,zb (j:=3) rfl,?_⟩
  refine ⟨_,_,_,_,rfl,rfl,SqT.of ha,zb (j:=4) rfl,?_⟩
  refine ⟨c,l,ks,ls,ss,hd,lk,sh,tick,time,rfl,hc,hsm,hh,hl,fun hlt H1 s1=>?_,fun hlt m hm r p ls' H1 h1 h2 h3 h4 h6 h7 h5=>q2 hlt m hm r p ls' H1 h1 h2 h3 h4 h6 h7 h5⟩
  refine ⟨true,T.sb_NotFree_NotFree,?_⟩
  rw [if_pos rfl]
  exact ⟨zd (by decide),fun p hp=>q1 hlt p _ z7 (s1.trans (Same.upd hp))⟩
theorem atI_last (xs:List V) (v:V):atI (xs ++ [v]) (-1) = some v:=by
 unfold atI ixN
 rw [if_neg (by decide),if_pos (by rw [List.length_append]; show -((xs.length + 1:Nat):Int) ≤ -1; omega)]
 have e:((-1:Int) + ((xs ++ [v]).length:Int)).toNat = xs.length:=by rw [List.length_append]; show ((-1:Int) + ((xs.length + 1:Nat):Int)).toNat = _; omega
 rw [e]
 simp
theorem z7x (js:List Nat):∀ v ∈ z13 js,z99 v:=fun v hv=>by
 unfold z13 at hv
 obtain ⟨j,_,rfl⟩:=List.mem_map.mp hv
 exact .inl ⟨_,rfl⟩
theorem z6a {H:Hp} {a b:Addr} {xs:List V} {n:Nat} (h:(H a = some (.lst xs) ∧ H b = some (.lst xs)) ∨ (H a = some (.tup xs) ∧ H b = some (.tup xs))) (hp:∀ v ∈ xs,z99 v) (hl:xs.length ≤ 1000):Alike H (n + 1) (.ref a) (.ref b):=by
 refine .inr ⟨a,b,xs,xs,rfl,rfl,h,rfl,hl,fun i x y hx hy=>?_⟩
 rw [hx] at hy
 cases hy
 cases n with
 | zero=>exact ⟨rfl,hp x (List.mem_of_getElem? hx)⟩
 | succ n=>exact .inl ⟨rfl,hp x (List.mem_of_getElem? hx)⟩
theorem zdc {ss:List KN} {sl:List Nat} {x:Nt} {i:Nat} (h:∀ s ∈ ss,s.N.length ≤ i):∀ s ∈ z2d ss sl x,s.N.length ≤ i + 1:=fun s hs=>by
 unfold z2d at hs
 obtain ⟨j,hj⟩:=List.getElem?_of_mem hs
 rw [List.getElem?_mapIdx] at hj
 cases e:ss[j]? with
 | none=>rw [e] at hj; cases hj
 | some s0 =>
  rw [e] at hj
  have h0:=h s0 (List.mem_of_getElem? e)
  have:=Option.some.inj hj
  dsimp only at this
  by_cases c:j ∈ sl
  ·rw [if_pos c] at this
   rw [← this]
   show (z36 x.h x.l s0.N ++ [x]).length ≤ i + 1
   rw [List.length_append]
   have:(z36 x.h x.l s0.N).length ≤ s0.N.length:=List.length_filter_le _ _
   show _ + 1 ≤ _
   omega
  ·rw [if_neg c] at this
   rw [← this]
   omega
theorem CAt.butO {CC CK:Addr} {H H':Hp} {c l:Addr} {ks ls os:List Addr} {ss:List KN} (h:CAt CC CK H c l ks ls ss) (b:ButK os H H') (hos:∀ x ∈ os,(∃ xs,H x = some (.lst xs)) ∨ ∃ kv,H x = some (.dK kv)) (n1:l ∉ os) (n2:∀ x ∈ ls,x ∉ os):CAt CC CK H' c l ks ls ss:=by
 have ni:∀ x C dx fs,H x = some (.ins C dx fs) → x ∉ os:=fun x C dx fs e hx=>by
  rcases hos x hx with ⟨xs,z⟩ | ⟨kv,z⟩
  ·rw [e] at z; cases z
  ·rw [e] at z; cases z
 have nt:∀ x xs,H x = some (.tup xs) → x ∉ os:=fun x xs e hx=>by
  rcases hos x hx with ⟨xs,z⟩ | ⟨kv,z⟩
  ·rw [e] at z; cases z
  ·rw [e] at z; cases z
 obtain ⟨⟨dx,h1⟩,h2,h3,h4,h5,h6,h7⟩:=h
 refine ⟨⟨dx,b _ _ h1 (ni _ _ _ _ h1)⟩,b _ _ h2 n1,fun i k e=>?_,h4,h5,h6,h7⟩
 obtain ⟨s,l',e1,e2,⟨dx2,z⟩,L,eL,⟨dx',l2,g1,g2⟩,hn,hl⟩:=h3 i k e
 have el:l2 = l':=by
  rw [z] at g1
  injection g1 with g1
  injection g1 with a b c
  exact (zcg c).symm
 subst el
 exact ⟨s,l2,e1,e2,⟨dx2,b _ _ z (ni _ _ _ _ z)⟩,L,eL,⟨dx',l2,b _ _ g1 (ni _ _ _ _ g1),b _ _ g2 (n2 _ (List.mem_of_getElem? e2))⟩,⟨fun q hq=>b _ _ (hn.tu q hq) (nt _ _ (hn.tu q hq)),hn.sm⟩,hl⟩
structure Sb (S:Sv) (ss:List KN) (i:Nat):Prop where
 nN:S.N.length ≤ 5 * i
 nS:∀ s ∈ ss,s.N.length ≤ i
 nC:S.C.length ≤ i
 nL:S.lg.length ≤ i
 nl:∀ q ∈ S.N,q.2.x.l.length ≤ 1000
theorem Sb.now {S:Sv} {ss:List KN} {i:Nat} {t:Int} (h:Sb S ss i):Sb { S with now:=t } ss i:=⟨h.nN,h.nS,h.nC,h.nL,h.nl⟩
structure Day (CC CK:Addr) (H:Hp) (c l:Addr) (ks ls:List Addr) (ss:List KN) (d:Addr) (S:Sv) (u:Su) (i:Nat):Prop where
 ca:CAt CC CK H c l ks ls ss
 st:StAt H d S u
 rl:Rel S ss u.n
 kn:ks.length = u.n
 sb:Sb S ss i
 ap:∀ p ∈ S.lists,p ≠ l ∧ p ∉ ls
 nh:HsIn S u
theorem HsIn.give {S S':Sv} {u:Su} {sl:List Nat} {x:Nt} (h:HsIn S u) (hx:x.h ∈ u.hs) (e:S'.N.map (·.2) = z57 (S.N.map (·.2)) S.now sl x):HsIn S' u:=fun q hq=>by
 have hq2:q.2 ∈ S'.N.map (·.2):=List.mem_map_of_mem hq
 rw [e] at hq2
 unfold z57 at hq2
 rcases List.mem_append.mp hq2 with z | z
 ·obtain ⟨y,hy,ey⟩:=List.mem_map.mp (List.mem_filter.mp z).1
  rw [← ey]
  exact h y hy
 ·obtain ⟨k',hk',ek⟩:=List.mem_map.mp z
  rw [← ek]
  exact hx
theorem Day.mono {CC CK:Addr} {H H':Hp} {c l:Addr} {ks ls:List Addr} {ss:List KN} {d:Addr} {S:Sv} {u:Su} {i:Nat} (h:Day CC CK H c l ks ls ss d S u i) (s:Same H H'):Day CC CK H' c l ks ls ss d S u i:=⟨h.ca.mono s,h.st.mono s,h.rl,h.kn,h.sb,h.ap,h.nh⟩
theorem Sb.up {S:Sv} {ss:List KN} {i:Nat} (h:Sb S ss i):Sb S ss (i + 1):=⟨by have:=h.nN; omega,fun s hs=>by have:=h.nS s hs; omega,by have:=h.nC; omega,by have:=h.nL; omega,h.nl⟩
theorem Day.up {CC CK:Addr} {H:Hp} {c l:Addr} {ks ls:List Addr} {ss:List KN} {d:Addr} {S:Sv} {u:Su} {i:Nat} (h:Day CC CK H c l ks ls ss d S u i):Day CC CK H c l ks ls ss d S u (i + 1):=⟨h.ca,h.st,h.rl,h.kn,h.sb.up,h.ap,h.nh⟩
theorem Day.say {CC CK:Addr} {H:Hp} {c l:Addr} {ks ls:List Addr} {ss:List KN} {d:Addr} {S:Sv} {u:Su} {i:Nat} (h:Day CC CK H c l ks ls ss d S u i) (hok:u.ok) (hi:i ≤ 60):SayP S u:=⟨hok,by rw [h.rl.us,List.length_map]; exact h.rl.ln,h.sb.nl,by have:=h.sb.nN; omega⟩
theorem Day.own {CC CK:Addr} {H:Hp} {c l:Addr} {ks ls:List Addr} {ss:List KN} {d:Addr} {S:Sv} {u:Su} {i:Nat} (h:Day CC CK H c l ks ls ss d S u i):(∀ x ∈ d :: S.lists,(∃ xs,H x = some (.lst xs)) ∨ ∃ kv,H x = some (.dK kv)) ∧ l ∉ d :: S.lists ∧ ∀ x ∈ ls,x ∉ d :: S.lists:=by
 refine ⟨fun x hx=>?_,fun hx=>?_,fun x hx hx2=>?_⟩
 ·simp only [Sv.lists,List.mem_cons,List.not_mem_nil,or_false] at hx
  rcases hx with rfl | rfl | rfl | rfl | rfl | rfl | rfl
  ·exact .inr ⟨_,h.st.st⟩
  ·exact .inl ⟨_,h.st.gu⟩
  ·exact .inl ⟨_,h.st.gt⟩
  ·exact .inl ⟨_,h.st.gn⟩
  ·exact .inl ⟨_,h.st.gr⟩
  ·exact .inl ⟨_,h.st.gc⟩
  ·exact .inl ⟨_,h.st.gl⟩
 ·rcases List.mem_cons.mp hx with z | z
  ·have:=h.ca.li; rw [z,h.st.st] at this; cases this
  ·exact (h.ap l z).1 rfl
 ·rcases List.mem_cons.mp hx2 with z | z
  ·obtain ⟨xs,e⟩:=h.ca.lsome hx; rw [z,h.st.st] at e; cases e
  ·exact (h.ap x z).2 hx
theorem StAt.setU {H:Hp} {d:Addr} {S:Sv} {u:Su} (h:StAt H d S u) (j:Nat) (b:Bool):StAt (upd H S.pu (.lst ((S.us.set j b).map V.bl))) d { S with us:=S.us.set j b } u:=by
 have nl:=h.nd
 simp only [Sv.lists,List.nodup_cons,List.mem_cons,List.not_mem_nil,or_false,not_or] at nl
 obtain ⟨⟨x1,x2,x3,x4,x5⟩,-⟩:=nl
 have T:∀ a xs,H a = some (.tup xs) → upd H S.pu (.lst ((S.us.set j b).map V.bl)) a = some (.tup xs):=fun a xs e=>by rw [z9 (fun z=>by rw [z,h.gu] at e; cases e)]; exact e
 have L:∀ a xs,H a = some (.lst xs) → a ≠ S.pu → upd H S.pu (.lst ((S.us.set j b).map V.bl)) a = some (.lst xs):=fun a xs e ne=>by rw [z9 ne]; exact e
 have nu:∀ x ∈ u.lists,x ≠ S.pu:=fun x hx e=>h.sd S.pu (by simp [Sv.lists]) (e ▸ hx)
 exact ⟨by rw [z9 (fun z=>by have:=h.st; rw [z,h.gu] at this; cases this)]; exact h.st,⟨T _ _ h.su.tu,L _ _ h.su.gh (nu _ (by simp [Su.lists])),L _ _ h.su.gl (nu _ (by simp [Su.lists])),L _ _ h.su.gc (nu _ (by simp [Su.lists])),L _ _ h.su.gt (nu _ (by simp [Su.lists]))⟩,z7,L _ _ h.gt (Ne.symm x1),L _ _ h.gn (Ne.symm x2),fun q hq=>T _ _ (h.kn q hq),L _ _ h.gr (Ne.symm x3),L _ _ h.gc (Ne.symm x4),fun q hq=>T _ _ (h.kc q hq),L _ _ h.gl (Ne.symm x5),h.nd,h.sd⟩
theorem StAt.setN {H:Hp} {d:Addr} {S:Sv} {u:Su} (h:StAt H d S u) (t:Int):StAt (upd H d (.dK (stw { S with now:=t }))) d { S with now:=t } u:=by
 have T:∀ a xs,H a = some (.tup xs) → upd H d (.dK (stw { S with now:=t })) a = some (.tup xs):=fun a xs e=>by rw [z9 (fun z=>by rw [z,h.st] at e; cases e)]; exact e
 have L:∀ a xs,H a = some (.lst xs) → upd H d (.dK (stw { S with now:=t })) a = some (.lst xs):=fun a xs e=>by rw [z9 (fun z=>by rw [z,h.st] at e; cases e)]; exact e
 exact ⟨z7,⟨T _ _ h.su.tu,L _ _ h.su.gh,L _ _ h.su.gl,L _ _ h.su.gc,L _ _ h.su.gt⟩,L _ _ h.gu,L _ _ h.gt,L _ _ h.gn,fun q hq=>T _ _ (h.kn q hq),L _ _ h.gr,L _ _ h.gc,fun q hq=>T _ _ (h.kc q hq),L _ _ h.gl,h.nd,h.sd⟩
theorem zjl (p:Int) (hp:1 ≤ p) (j:Int) (h0:0 ≤ j) (h4:j < 4):∃ t:Int,atI [V.int 1,V.int 2,V.int 5,V.int p] j = some (.int t) ∧ 1 ≤ t:=by
 obtain ⟨n,rfl⟩:=Int.eq_ofNat_of_zero_le h0
 match n,h4 with
 | 0,_=>exact ⟨1,zb rfl,by decide⟩
 | 1,_=>exact ⟨2,zb rfl,by decide⟩
 | 2,_=>exact ⟨5,zb rfl,by decide⟩
 | 3,_=>exact ⟨p,zb rfl,hp⟩
theorem zdd {ss:List KN} {js:List Nat} {num tick:Int} {i:Nat} (h:∀ s ∈ ss,s.N.length ≤ i):∀ s ∈ z29 ss js num tick,s.N.length ≤ i:=fun s hs=>by
 unfold z29 at hs
 obtain ⟨j,hj⟩:=List.getElem?_of_mem hs
 rw [List.getElem?_mapIdx] at hj
 cases e:ss[j]? with
 | none=>rw [e] at hj; cases hj
 | some s0 =>
  rw [e] at hj
  have h0:=h s0 (List.mem_of_getElem? e)
  have:=Option.some.inj hj
  dsimp only at this
  by_cases c:j ∈ js
  ·rw [if_pos c] at this
   rw [← this]
   unfold z2e
   split
   ·exact Nat.le_trans (List.length_filter_le _ _) h0
   ·exact h0
  ·rw [if_neg c] at this
   rw [← this]
   exact h0
def zh6 (CC CK:Addr):Sp:=fun vs H Q _=>∃ (c l:Addr) (ks ls:List Addr) (ss:List KN) (d:Addr) (S:Sv) (u:Su) (i:Nat) (cell:Int) (k:Nat),vs = [.ref c,.ref d,.int cell,.int k] ∧ Day CC CK H c l ks ls ss d S u i ∧ u.ok ∧ i ≤ 60 ∧
 ∀ (ls':List Addr) (ss':List KN) (S':Sv) (H':Hp),Day CC CK H' c l ks ls' ss' d S' u (i + 1) → S'.ps = S.ps → (∀ p ∈ S'.lists,p ∈ S.lists ∨ H p = none) → (∀ b o,H b = some o → b ∉ ks → b ∉ d :: S.lists → H' b = some o) → Q (.bl true) H'
theorem z6b (F:Def K mg "_law_council_deed" z2z ["_law_council","_law_state","_law_cell","_law_k"]) (T:Txt K mg y0 yd yc y6 yb ya y8 y7 y9) (y12:MHas P w K mg base (CX1 P w) 2 y0 "fall" ["self","keeper"] (spFR y0 y6 y8 false)) (yz:MHas P w K mg base (CX1 P w) 2 y0 "rise" ["self","keeper"] (spFR y0 y6 y8 true)) (y11:MHas P w K mg base CX0 3 y0 "drop" ["self","number","tick"] (zdy y0 y6)) (yg:Has P w K mg base 4 "_law_same" ["_law_found","_law_due"] (z2o 3)) (yo:Has P w K mg base 1 "_law_asked" ["_law_rest","_law_k","_law_setup_here"] (za8)) (yj:Has P w K mg base 4 "_law_sayers" ["_law_state","_law_asking"] (z9e K)) (y1c:Has P w K mg base 5 "_law_free" ["_law_state","_law_asking"] (zdv K)) (y1d:Has P w K mg base 5 "_law_give" ["_law_state","_law_asking"] (zdx K)) (y10:Has P w K mg base 1 "_law_dropped" ["_law_state","_law_number"] (z9f K)) (y17:Has P w K mg base 8 "_law_given" ["_law_council","_law_asking","_law_tick"] (ze0 y0 y6)):Has P w K mg base 9 "_law_council_deed" ["_law_council","_law_state","_law_cell","_law_k"] (zh6 y0 y6):=by
 refine F.ok sc__law_council_deed (fun vs H Q E h=>?_) (fun f cdv A outer s H vs Q E hr h=>?_)
 ·obtain ⟨c,l,ks,ls,ss,d,S,u,i,cell,k,rfl,_⟩:=h
  rfl
 ·obtain ⟨c,l,ks,ls,ss,d,S,u,i,cell,k,rfl,hD,hok,hi,q⟩:=h
  have hu:=hr.units0
  have hu2:=z3l hr
  refine ⟨_,(@z8 _ _ _ _ _ (@zi _ _ 4 _ _ _ _ sc__law_council_deed.nd rfl (Or.inl rfl) (@zx _ _ _ _ _ _ hu2 (pv 1) zj (fun _ _=>rfl)) rfl (Or.inr rfl)) (@z8 _ _ _ _ _ (@zi _ _ 5 _ _ _ _ sc__law_council_deed.nd rfl (Or.inl rfl) (@zf _ _ _ _ _ _ _ _ z19 (pv 2) z4) rfl (Or.inr rfl)) (@z8 _ _ _ _ _ (@zy _ _ _ _ _ _ _ _ (@zn _ _ _ _ _ _ _ _ z76 (@zf _ _ _ _ _ _ _ _ z10 (pv 2) z4) z4 (zm _)) (@z8 _ _ _ _ _ (@zi _ _ 6 _ _ _ _ sc__law_council_deed.nd rfl (Or.inl rfl) (@zp _ _ _ _ _ _ _ _ _ _ yo (hr.mono (by decide)) rfl (@z0 _ _ _ _ _ (pv 5) (@z0 _ _ _ _ _ (pv 3) (@z0 _ _ _ _ _ (pv 4) z6 rfl) rfl) rfl) (by decide) rfl rfl) rfl (Or.inr rfl)) (@z8 _ _ _ _ _ (@zi _ _ 7 _ _ _ _ sc__law_council_deed.nd rfl (Or.inl rfl) (@z1l _ _ _ _ _ (@z0 _ _ _ _ _ (@zx _ _ _ _ _ _ hu2 (pv 1) zj (fun _ _=>rfl)) (@z0 _ _ _ _ _ (@zh _ _ _ _ _ _ _ ix_tup (pv 6) z4 (fun _ _=>rfl)) (@z0 _ _ _ _ _ (@zh _ _ _ _ _ _ _ ix_tup (pv 6) z4 (fun _ _=>rfl)) (@z0 _ _ _ _ _ (@zh _ _ _ _ _ _ _ ix_tup (pv 6) z4 (fun _ _=>rfl)) (@z0 _ _ _ _ _ (@zh _ _ _ _ _ _ _ ix_tup (pv 6) z4 (fun _ _=>rfl)) z6 rfl) rfl) rfl) rfl) rfl)) rfl (Or.inr rfl)) (@z8 _ _ _ _ _ (@zi _ _ 8 _ _ _ _ sc__law_council_deed.nd rfl (Or.inl rfl) (@zp _ _ _ _ _ _ _ _ _ _ y17 (hr.mono (by decide)) rfl (@z0 _ _ _ _ _ (pv 0) (@z0 _ _ _ _ _ (pv 7) (@z0 _ _ _ _ _ (@zx _ _ _ _ _ _ hu2 (pv 1) zj (fun _ _=>rfl)) z6 rfl) rfl) rfl) (by decide) rfl rfl) rfl (Or.inr rfl)) (@z8 _ _ _ _ _ (@zy _ _ _ _ _ _ _ _ (@z3i _ _ _ _ (@z1k _ _ _ (@zp _ _ _ _ _ _ _ _ _ _ y1c (hr.mono (by decide)) rfl (@z0 _ _ _ _ _ (pv 1) (@z0 _ _ _ _ _ (pv 7) z6 rfl) rfl) (by decide) rfl rfl) (by intro _; rfl))) (@za _ _ _ (@zl _ _ _ _ (@zp _ _ _ _ _ _ _ _ _ _ yg (hr.mono (by decide)) rfl (@z0 _ _ _ _ _ (pv 8) (@z0 _ _ _ _ _ (@z1l _ _ _ _ _ (@z0 _ _ _ _ _ zj z6 rfl)) z6 rfl) rfl) (by decide) rfl rfl))) zo) (@z8 _ _ _ _ _ (@zi _ _ 9 _ _ _ _ sc__law_council_deed.nd rfl (Or.inl rfl) (@zp _ _ _ _ _ _ _ _ _ _ yj (hr.mono (by decide)) rfl (@z0 _ _ _ _ _ (pv 1) (@z0 _ _ _ _ _ (pv 7) z6 rfl) rfl) (by decide) rfl rfl) rfl (Or.inr rfl)) (@z8 _ _ _ _ _ (@z1w _ _ _ _ (@zp _ _ _ _ _ _ _ _ _ _ y1d (hr.mono (by decide)) rfl (@z0 _ _ _ _ _ (pv 1) (@z0 _ _ _ _ _ (pv 7) z6 rfl) rfl) (by decide) rfl rfl) rfl) (@za _ _ _ (@zl _ _ _ _ (@zp _ _ _ _ _ _ _ _ _ _ yg (hr.mono (by decide)) rfl (@z0 _ _ _ _ _ (pv 8) (@z0 _ _ _ _ _ (@z1l _ _ _ _ _ (@z0 _ _ _ _ _ (@zh _ _ _ _ _ _ _ ix_tup (@zh _ _ _ _ _ _ _ ix_list (@zx _ _ _ _ _ _ hu2 (pv 1) zj (fun _ _=>rfl)) (@zif _ _ _ _ _ _ zfd z4) (fun _ _=>rfl)) z4 (fun _ _=>rfl)) (@z0 _ _ _ _ _ (pv 9) z6 rfl) rfl)) z6 rfl) rfl) (by decide) rfl rfl))))))))) zo) (@z8 _ _ _ _ _ (@zy _ _ _ _ _ _ _ _ (@zn _ _ _ _ _ _ _ _ z1a (@zf _ _ _ _ _ _ _ _ z10 (pv 2) z4) z4 (zm _)) (@z8 _ _ _ _ _ (@zi _ _ 10 _ _ _ _ sc__law_council_deed.nd rfl (Or.inl rfl) (@zf _ _ _ _ _ _ _ _ z10 (pv 5) (@zf _ _ _ _ _ _ _ _ z14 (@zg _ _ _ _ _ _ _ _ _ (z6q rfl) rfl T.b_max (by decide +kernel) (@z0 _ _ _ _ _ (@zx _ _ _ _ _ _ hu2 (pv 1) zj (fun _ _=>rfl)) z6 rfl) (by decide) (by decide) rfl rfl) z4)) rfl (Or.inr rfl)) (@za _ _ _ (@zl _ _ _ _ (@zp _ _ _ _ _ _ _ _ _ _ yg (hr.mono (by decide)) rfl (@z0 _ _ _ _ _ (@z20 _ _ _ _ _ _ _ _ _ _ _ _ _ _ y11 T.cl_Council (hr.mono (by decide)) (pv 0) (@z0 _ _ _ _ _ (pv 10) (@z0 _ _ _ _ _ (@zx _ _ _ _ _ _ hu2 (pv 1) zj (fun _ _=>rfl)) z6 rfl) rfl) rfl rfl rfl) (@z0 _ _ _ _ _ (@zp _ _ _ _ _ _ _ _ _ _ y10 (hr.mono (by decide)) rfl (@z0 _ _ _ _ _ (pv 1) (@z0 _ _ _ _ _ (pv 10) z6 rfl) rfl) (by decide) rfl rfl) z6 rfl) rfl) (by decide) rfl rfl)))) zo) (@z8 _ _ _ _ _ (@zy _ _ _ _ _ _ _ _ (@zn _ _ _ _ _ _ _ _ z76 (@zf _ _ _ _ _ _ _ _ z10 (pv 2) z4) z4 (zm _)) (@z8 _ _ _ _ _ (@zi _ _ 11 _ _ _ _ sc__law_council_deed.nd rfl (Or.inl rfl) (@zf _ _ _ _ _ _ _ _ z14 z4 (@zf _ _ _ _ _ _ _ _ z10 (@zf _ _ _ _ _ _ _ _ z14 (pv 5) (@zf _ _ _ _ _ _ _ _ z19 (pv 3) z4)) (@zh _ _ _ _ _ _ _ ix_tup (pv 4) z4 (fun _ _=>rfl)))) rfl (Or.inr rfl)) (@z8 _ _ _ _ _ (@zi _ _ 12 _ _ _ _ sc__law_council_deed.nd rfl (Or.inl rfl) (@z1e _ _ _ _ _ _ _ _ z1a (@zh _ _ _ _ _ _ _ ix_list (@zx _ _ _ _ _ _ hu2 (pv 1) zj (fun _ _=>rfl)) (@zf _ _ _ _ _ _ _ _ z2u (pv 11) z4) (fun _ _=>rfl)) (@z1e _ _ _ _ _ _ _ _ z1a (@zf _ _ _ _ _ _ _ _ z10 (pv 2) z4) z4 (zm _)) (zm _)) rfl (Or.inr rfl)) (@z8 _ _ _ _ _ (@zbo _ _ _ _ _ _ (@z1e _ _ _ _ _ _ _ _ z1a (@zf _ _ _ _ _ _ _ _ z10 (pv 2) z4) z4 (zm _)) (@zf8 _ _ _ _ _ _ _ (@zx _ _ _ _ _ _ hu2 (pv 1) zj (fun _ _=>rfl)) (@zf _ _ _ _ _ _ _ _ z2u (pv 11) z4) zbt (by intro _; rfl)) rfl rfl rfl) (@z8 _ _ _ _ _ (@zy _ _ _ _ _ _ _ _ (@zn _ _ _ _ _ _ _ _ z1a (@zf _ _ _ _ _ _ _ _ z10 (pv 2) z4) z4 (zm _)) (@za _ _ _ (@zl _ _ _ _ (@zp _ _ _ _ _ _ _ _ _ _ yg (hr.mono (by decide)) rfl (@z0 _ _ _ _ _ (@z20 _ _ _ _ _ _ _ _ _ _ _ _ _ _ (@MHas.never _ _ _ _ _ _ _ _ _ _ y12) T.cl_Council (hr.mono (by decide)) (pv 0) (@z0 _ _ _ _ _ (pv 11) z6 rfl) rfl rfl rfl) (@z0 _ _ _ _ _ (pv 12) z6 rfl) rfl) (by decide) rfl rfl))) zo) (@za _ _ _ (@zl _ _ _ _ (@zp _ _ _ _ _ _ _ _ _ _ yg (hr.mono (by decide)) rfl (@z0 _ _ _ _ _ (@z20 _ _ _ _ _ _ _ _ _ _ _ _ _ _ (@MHas.never _ _ _ _ _ _ _ _ _ _ yz) T.cl_Council (hr.mono (by decide)) (pv 0) (@z0 _ _ _ _ _ (pv 11) z6 rfl) rfl rfl rfl) (@z0 _ _ _ _ _ (pv 12) z6 rfl) rfl) (by decide) rfl rfl))))))) zo) (@z8 _ _ _ _ _ (@z4o _ _ _ _ _ _ _ _ _ hu2 (pv 1) zj (@zf _ _ _ _ _ _ _ _ z14 (@zx _ _ _ _ _ _ hu2 (pv 1) zj (fun _ _=>rfl)) (@zh _ _ _ _ _ _ _ ix_list (@z1c _ _ _ _ (@z0 _ _ _ _ _ z4 (@z0 _ _ _ _ _ z4 (@z0 _ _ _ _ _ z4 (@z0 _ _ _ _ _ (@zf _ _ _ _ _ _ _ _ z14 z4 (@zf _ _ _ _ _ _ _ _ z10 (@zf _ _ _ _ _ _ _ _ z19 (pv 5) z4) z4)) z6 rfl) rfl) rfl) rfl)) (@zf _ _ _ _ _ _ _ _ z10 (pv 5) z4) (fun _ _=>rfl))) rfl) (@za _ _ _ (@zl _ _ _ _ z22)))))))),?_⟩
  walk_at "rd"
  have kn:=hD.kn
  have frm:∀ H',Same H H' → ∀ b o,H b = some o → b ∉ ks → b ∉ d :: S.lists → H' b = some o:=fun H' s b o e _ _=>s b o e
  refine ⟨_,z8c hD.st.st,cdiv (by decide) (by decide),by decide,ite2 (fun c1=>?_) (fun c1=>⟨by decide,ite2 (fun c2=>?_) (fun c2=>⟨by decide,ite2 (fun c3=>?_) (fun c3=>?_)⟩)⟩)⟩
  ·refine ⟨_,_,S.ps,u,rfl,hD.st.su,hok,fun pe hd lk sh tm H1 mhd mlk t1 t2 ge s1=>?_⟩
   have D1:=hD.mono s1
   refine ⟨_,z2p D1.st.st,_,_,_,_,rfl,rfl,SqT.of ge,zb (j:=1) rfl,_,_,_,_,rfl,rfl,SqT.of ge,zb (j:=2) rfl,_,_,_,_,rfl,rfl,SqT.of ge,zb (j:=3) rfl,_,_,_,_,rfl,rfl,SqT.of ge,zb (j:=4) rfl,zd (by decide),fun pa hpa=>?_⟩
   have s2:=s1.trans (Same.upd (o:=.tup [V.int S.now,V.str hd,V.str lk,V.bl sh,V.int tm]) hpa)
   have D2:=D1.mono (Same.upd (o:=.tup [V.int S.now,V.str hd,V.str lk,V.bl sh,V.int tm]) hpa)
   have ga:upd H1 pa (.tup [V.int S.now,V.str hd,V.str lk,V.bl sh,V.int tm]) pa = some (.tup [V.int S.now,V.str hd,V.str lk,V.bl sh,V.int tm]):=z7
   generalize upd H1 pa _ = H2 at s2 D2 ga ⊢
   have hsm:z68 ss:=fun s hs=>by have:=hD.sb.nS s hs; omega
   have hdl:=hok.hl hd mhd
   have lkl:=hok.ll lk mlk
   have eS:=hD.rl.say hd lk sh
   refine ⟨_,z2p D2.st.st,?_⟩
   refine ⟨c,pa,l,ks,ls,ss,S.now,hd,lk,sh,S.now,tm,rfl,ga,D2.ca,hsm,by omega,by omega,fun hlt r H3 gr s3=>?_,fun hlt m hm r pb ls' H3 lo hc3 gr gb hr0 hb0 bk=>?_⟩
   ·have D3:=D2.mono s3
    refine ⟨d,pa,S,u,S.now,hd,lk,sh,tm,rfl,D3.st,s3 _ _ ga,by omega,D3.say hok hi,fun H4 s4=>⟨_,rfl,?_⟩⟩
    rw [kn,← eS] at hlt
    rw [if_pos (by simp; omega)]
    refine ⟨zd (by decide),fun pr hpr=>⟨_,_,rfl,?_,fun H6 s6=>?_⟩⟩
    ·exact z6a (.inr ⟨Same.upd hpr _ _ (s4 _ _ gr),z7⟩) (fun v hv=>by rw [List.mem_singleton.mp hv]; exact .inr (.inl ⟨_,rfl⟩)) (by decide)
    ·have sE:=(s4.trans (Same.upd (o:=.tup [V.str "refused"]) hpr)).trans s6
     exact q ls ss S H6 (D3.mono sE).up rfl (fun p hp=>.inl hp) (frm _ (s2.trans (s3.trans sE)))
   ·have st3:=D2.st.butK D2.ca bk
    have tk:∀ b xs,H2 b = some (.tup xs) → H3 b = some (.tup xs):=fun b xs e=>bk _ _ e fun hb=>by obtain ⟨dx,fs,z⟩:=D2.ca.mem hb; rw [e] at z; cases z
    have ga3:=tk _ _ ga
    have sP:=D2.say hok hi
    refine ⟨d,pa,S,u,S.now,hd,lk,sh,tm,rfl,st3,ga3,by omega,sP,fun H4 s4=>⟨_,rfl,?_⟩⟩
    rw [kn] at hlt hc3 gb
    rw [← eS] at hlt gb
    rw [if_neg (by simp; omega)]
    refine ⟨d,pa,S,u,S.now,hd,lk,sh,tm,rfl,st3.mono s4,s4 _ _ ga3,by omega,sP,fun r7 H5 hr7 gr7 s5=>?_⟩
    have s35:=s4.trans s5
    have st5:=st3.mono s35
    have n1:=hok.n1
    have hn5:=hok.n5
    have nN:=hD.sb.nN
    have nC:=hD.sb.nC
    have nL:=hD.sb.nL
    have tsl:S.ts.length = u.n:=by rw [hD.rl.ts,List.length_map]; exact hD.rl.ln
    have sll:(sayL S hd lk sh).length ≤ 5:=by have:=zcq S hd lk sh; have:=sP.2.1; omega
    refine ⟨d,pa,S,u,S.now,hd,lk,sh,tm,rfl,st5,s35 _ _ ga3,by omega,sP,tsl,fun e=>?_,by omega,by omega,fun m' S' H6 pg pb2 hT' st6 e1 e2 e3 e4 e5 e6 e7 g6 l6 b6=>?_⟩
    ·rw [e] at hlt
     simp at hlt
     omega
    have em:m' = m:=hD.rl.top hT' hm
    subst em
    obtain ⟨ho,hol,hols⟩:=D2.own
    have ownS:∀ x ∈ own d S,x ∈ d :: S.lists:=fun x hx=>by
     simp only [own,Sv.lists,List.mem_cons,List.not_mem_nil,or_false] at hx ⊢
     rcases hx with h | h | h | h | h <;> simp [h]
    have nown:∀ b,H2 b = none → b ∉ own d S:=fun b e hb=>by
     rcases ho b (ownS b hb) with ⟨xs,z⟩ | ⟨kv,z⟩
     ·rw [e] at z; cases z
     ·rw [e] at z; cases z
    have town:∀ b xs,H2 b = some (.tup xs) → b ∉ own d S:=fun b xs e hb=>by
     rcases ho b (ownS b hb) with ⟨xs,z⟩ | ⟨kv,z⟩
     ·rw [e] at z; cases z
     ·rw [e] at z; cases z
    have gr6:=b6 _ _ (s35 _ _ gr) (nown r hr0)
    have gb6:=b6 _ _ (s35 _ _ gb) (nown pb hb0)
    have st3o:∀ x ∈ own d S,∃ o,H3 x = some o:=fun x hx=>by
     simp only [own,List.mem_cons,List.not_mem_nil,or_false] at hx
     rcases hx with rfl | rfl | rfl | rfl | rfl
     ·exact ⟨_,st3.st⟩
     ·exact ⟨_,st3.gu⟩
     ·exact ⟨_,st3.gt⟩
     ·exact ⟨_,st3.gc⟩
     ·exact ⟨_,st3.gl⟩
    have n7:r7 ∉ own d S:=fun hb=>by
     obtain ⟨o,z⟩:=st3o r7 hb
     rw [s4 _ _ z] at hr7; cases hr7
    have gr76:=b6 _ _ gr7 n7
    have q6:=zgw st6.st
    refine ⟨_,q6,_,_,_,_,rfl,rfl,SqL.of st6.gl,by rw [e7]; exact atI_last _ _,_,_,_,_,rfl,rfl,SqT.of g6,zb (j:=5) rfl,zd (by decide),fun pd hpd=>⟨_,_,rfl,?_,fun H8 s8=>?_⟩⟩
    ·have sd:=Same.upd (o:=.tup [V.int (1 + m'),V.ref r7]) hpd
     refine .inr ⟨r,pd,_,_,rfl,rfl,.inr ⟨sd _ _ gr6,z7⟩,rfl,(show 2 ≤ 1000 by decide),fun j x y hx hy=>?_⟩
     match j,hx,hy with
     | 0,hx,hy=>cases hx; cases hy; exact .inl ⟨rfl,.inl ⟨_,rfl⟩⟩
     | 1,hx,hy =>
      cases hx; cases hy
      exact z6a (.inl ⟨sd _ _ gb6,sd _ _ gr76⟩) (z7x _) (by rw [z1v]; omega)
     | j + 2,hx,hy=>cases hx
    ·have s68:=(Same.upd (o:=.tup [V.int (1 + m'),V.ref r7]) hpd).trans s8
     have nls:∀ x ∈ ls',x ∉ d :: S.lists:=fun x hx hx2=>by
      rcases lo x hx with z | z
      ·exact hols x z hx2
      ·rcases ho x hx2 with ⟨xs,y⟩ | ⟨kv,y⟩
       ·rw [z] at y; cases y
       ·rw [z] at y; cases y
     have hos3:∀ x ∈ own d S,(∃ xs,H5 x = some (.lst xs)) ∨ ∃ kv,H5 x = some (.dK kv):=fun x hx=>by
      simp only [own,List.mem_cons,List.not_mem_nil,or_false] at hx
      rcases hx with rfl | rfl | rfl | rfl | rfl
      ·exact .inr ⟨_,st5.st⟩
      ·exact .inl ⟨_,st5.gu⟩
      ·exact .inl ⟨_,st5.gt⟩
      ·exact .inl ⟨_,st5.gc⟩
      ·exact .inl ⟨_,st5.gl⟩
     have hc5:=hc3.mono s35
     have hc6:=hc5.butO b6 hos3 (fun h=>hol (ownS _ h)) (fun x hx h=>nls x hx (ownS _ h))
     refine q ls' _ S' H8 ⟨hc6.mono s68,st6.mono s68,hD.rl.give t1 hm e1 e3 e4 e5,kn,⟨?_,zdc hD.sb.nS,?_,?_,?_⟩,fun p hp=>?_,hD.nh.give (x:=⟨1 + m',hd,lk,sh,S.now + tm⟩) mhd e5⟩ e2 (fun p hp=>?_) fun b o e nk nd=>?_
     ·have:=congrArg List.length e5
      rw [List.length_map] at this
      unfold z57 at this
      rw [List.length_append,List.length_map] at this
      dsimp only at this
      have h1:=List.length_filter_le (z1t S.now (sayL S hd lk sh) hd lk) (S.N.map (·.2))
      rw [List.length_map] at h1
      omega
     ·omega
     ·rw [e7,List.length_append]
      show _ + 1 ≤ _
      omega
     ·intro x hx
      have hx2:x.2 ∈ S'.N.map (·.2):=List.mem_map_of_mem hx
      rw [e5] at hx2
      unfold z57 at hx2
      rcases List.mem_append.mp hx2 with z | z
      ·obtain ⟨y,hy,ey⟩:=List.mem_map.mp (List.mem_filter.mp z).1
       rw [← ey]
       exact hD.sb.nl y hy
      ·obtain ⟨k',hk',ek⟩:=List.mem_map.mp z
       rw [← ek]
       show lk.length ≤ 1000
       omega
     ·rcases l6 p hp with z | z
      ·exact ⟨(hD.ap p z).1,fun h=>nls p h (List.mem_cons_of_mem _ z)⟩
      ·refine ⟨fun e=>?_,fun h=>?_⟩
       ·rw [e,hc5.li] at z; cases z
       ·obtain ⟨xs,y⟩:=hc5.lsome h
        rw [z] at y; cases y
     ·rcases l6 p hp with z | z
      ·exact .inl z
      ·right
       have z3:=zv s35 z
       cases eH:H p with
       | none=>rfl
       | some o =>
        exfalso
        by_cases nk:p ∈ ks
        ·obtain ⟨dx,fs,y⟩:=hc3.mem nk
         rw [z3] at y; cases y
        ·rw [bk _ _ (s2 _ _ eH) nk] at z3; cases z3
     ·exact s68 _ _ (b6 _ _ (s35 _ _ (bk _ _ (s2 _ _ e) nk)) fun h=>nd (ownS _ h))
  ·have n1:=hok.n1
   have n5:=hok.n5
   have tsl:S.ts.length = u.n:=by rw [hD.rl.ts,List.length_map]; exact hD.rl.ln
   refine ⟨_,za9 hD.st.st,_,rfl,S.ts,SqL.of hD.st.gt,(fun e=>by rw [e] at tsl; simp at tsl; omega),fun m hm _=>?_⟩
   have hm0:0 ≤ m:=by
    rw [hD.rl.ts] at hm
    obtain ⟨s,hs,rfl⟩:=List.mem_map.mp hm
    exact (hD.rl.pw s hs).2.2
   obtain ⟨dx,hob⟩:=hD.ca.ob
   refine ⟨by omega,_,_,hob,z2j _ _ (by decide +kernel) (by decide +kernel),_,z2p hD.st.st,?_⟩
   generalize cell / 8 % (m + 2) = num
   have hsm:z68 ss:=fun s hs=>by have:=hD.sb.nS s hs; omega
   refine ⟨c,l,ks,ls,ss,num,S.now,rfl,hD.ca,hsm,fun r ls' H1 lo hc1 hr0 gr bk=>?_⟩
   rw [kn] at hc1 gr
   have st1:=hD.st.butK hD.ca bk
   have h64:(S.N.filter fun q=>isDr num S.now S.us q.2).length < 64:=by
    have:=(hD.rl.dr_perm num).length_eq
    rw [List.length_map] at this
    have h1:=List.length_filter_le (drAt ss num S.now) (upl ss u.n)
    have h2:=z5s ss u.n
    omega
   refine ⟨d,S,u,num,rfl,st1,hD.say hok hi,hD.rl.kb,h64,fun r2 pn ks2 H2 hp hs gr2 st2 hpn hr2 b2=>?_⟩
   rw [hD.rl.dropped num hp hs] at gr2
   have nrd:r ∉ [d]:=fun h=>by rw [List.mem_singleton.mp h,hD.st.st] at hr0; cases hr0
   have gr3:=b2 _ _ gr nrd
   refine ⟨_,_,rfl,z6a (.inl ⟨gr3,gr2⟩) (z7x _) ?_,fun H3 s3=>?_⟩
   ·rw [z1v]
    have h1:=List.length_filter_le (drAt ss num S.now) (upl ss u.n)
    have h2:=z5s ss u.n
    omega
   have hl1:∀ x ∈ ls',x ∉ [d]:=fun x hx h=>by
    obtain ⟨xs,z⟩:=hc1.lsome hx
    rw [List.mem_singleton.mp h,st1.st] at z; cases z
   have hc2:=hc1.butO b2 (fun x hx=>.inr (by rw [List.mem_singleton.mp hx]; exact ⟨_,st1.st⟩)) (fun h=>by have:=hc1.li; rw [List.mem_singleton.mp h,st1.st] at this; cases this) hl1
   obtain ⟨ho,hol,hols⟩:=hD.own
   have nls:∀ x ∈ ls',x ∉ d :: S.lists:=fun x hx hx2=>by
    rcases lo x hx with z | z
    ·exact hols x z hx2
    ·rcases ho x hx2 with ⟨xs,y⟩ | ⟨kv,y⟩
     ·rw [z] at y; cases y
     ·rw [z] at y; cases y
   have dom1:H pn = none:=by
    cases eH:H pn with
    | none=>rfl
    | some o =>
     exfalso
     by_cases nk:pn ∈ ks
     ·obtain ⟨dx,fs,y⟩:=hc1.mem nk
      rw [hpn] at y; cases y
     ·rw [bk _ _ eH nk] at hpn; cases hpn
   have lmem:∀ p ∈ ({ S with pn:=pn,N:=S.N.filter fun q=>!isDr num S.now S.us q.2 }:Sv).lists,p ∈ S.lists ∨ p = pn:=fun p hp=>by
    have hp2:p ∈ [S.pu,S.pt,pn,S.pr,S.pc,S.pl]:=hp
    simp only [List.mem_cons,List.not_mem_nil,or_false] at hp2
    rcases hp2 with h | h | h | h | h | h
    ·exact .inl (by simp [Sv.lists,h])
    ·exact .inl (by simp [Sv.lists,h])
    ·exact .inr h
    ·exact .inl (by simp [Sv.lists,h])
    ·exact .inl (by simp [Sv.lists,h])
    ·exact .inl (by simp [Sv.lists,h])
   refine q ls' _ { S with pn:=pn,N:=S.N.filter fun q=>!isDr num S.now S.us q.2 } H3 ⟨hc2.mono s3,st2.mono s3,hD.rl.drop num pn,kn,⟨?_,fun s hs=>?_,?_,?_,fun x hx=>hD.sb.nl x (List.mem_filter.mp hx).1⟩,fun p hp=>?_,fun q hq=>hD.nh q (List.mem_filter.mp hq).1⟩ rfl (fun p hp=>?_) fun b o e nk nd=>?_
   ·have:=hD.sb.nN
    have h1:(S.N.filter fun q=>!isDr num S.now S.us q.2).length ≤ S.N.length:=List.length_filter_le _ _
    show (S.N.filter fun q=>!isDr num S.now S.us q.2).length ≤ _
    omega
   ·have:=zdd hD.sb.nS s hs
    omega
   ·have:=hD.sb.nC
    show S.C.length ≤ _
    omega
   ·have:=hD.sb.nL
    show S.lg.length ≤ _
    omega
   ·rcases lmem p hp with z | z
    ·exact ⟨(hD.ap p z).1,fun h=>nls p h (List.mem_cons_of_mem _ z)⟩
    ·rw [z]
     refine ⟨fun e=>?_,fun h=>?_⟩
     ·rw [e,hc1.li] at hpn; cases hpn
     ·obtain ⟨xs,y⟩:=hc1.lsome h
      rw [hpn] at y; cases y
   ·rcases lmem p hp with z | z
    ·exact .inl z
    ·rw [z]; exact .inr dom1
   ·exact s3 _ _ (b2 _ _ (bk _ _ e nk) fun h=>nd (by rw [List.mem_singleton.mp h]; exact List.mem_cons_self ..))
  ·have n1:=hok.n1
   have usl:S.us.length = u.n:=by rw [hD.rl.us,List.length_map]; exact hD.rl.ln
   have h0:0 ≤ (cell / 8 + (k:Int) / 2) % (u.n:Int):=Int.emod_nonneg _ (by omega)
   have h1:(cell / 8 + (k:Int) / 2) % (u.n:Int) < (u.n:Int):=Int.emod_lt_of_pos _ (by omega)
   refine ⟨cdiv (by decide) (by decide),_,_,_,_,rfl,rfl,SqT.of hD.st.su.tu,zb (j:=0) rfl,_,rfl,by omega,_,z9a hD.st.st,?_⟩
   generalize (cell / 8 + (k:Int) / 2) % (u.n:Int) = ji at h0 h1 ⊢
   obtain ⟨j,rfl⟩:=Int.eq_ofNat_of_zero_le h0
   rw [show (1:Int) + (j:Int) - 1 = (j:Int) by omega]
   have hj:j < S.us.length:=by omega
   have hjs:j < ss.length:=by rw [hD.rl.ln]; omega
   have hsj:ss[j]? = some ss[j]:=List.getElem?_eq_getElem hjs
   have gb:(S.us.map V.bl)[j]? = some (.bl ss[j].u):=by rw [hD.rl.us,List.map_map,List.getElem?_map,hsj]; rfl
   refine ⟨_,_,_,_,rfl,rfl,SqL.of hD.st.gu,zb gb,by decide,rfl,by decide,_,z9a hD.st.st,S.pu,_,_,j,rfl,rfl,hD.st.gu,zdw (by rw [List.length_map]; exact hj),by decide,?_⟩
   rw [← List.map_set]
   obtain ⟨ho,hol,hols⟩:=hD.own
   have pu_l:l ≠ S.pu:=fun e=>(hD.ap S.pu (by simp [Sv.lists])).1 e.symm
   have pu_ls:S.pu ∉ ls:=(hD.ap S.pu (by simp [Sv.lists])).2
   obtain ⟨dx,hob⟩:=hD.ca.ob
   have fin:∀ (b:Bool) (H4:Hp) (kk:Addr),ks[j]? = some kk → CAt y0 y6 H4 c l ks ls (ss.set j ⟨b,ss[j].t,ss[j].N⟩) → But kk (upd H S.pu (.lst ((S.us.set j b).map V.bl))) H4 → ∀ H5,Same H4 H5 → Q (.bl true) H5:=fun b H4 kk hk ca4 b4 H5 s5=>by
    have ca3:CAt y0 y6 (upd H S.pu (.lst ((S.us.set j b).map V.bl))) c l ks ls ss:=hD.ca.upd hD.st.gu pu_l pu_ls
    have st4:=(hD.st.setU j b).butK ca3 (ButK.but b4 (List.mem_of_getElem? hk))
    refine q ls _ { S with us:=S.us.set j b } H5 ⟨ca4.mono s5,st4.mono s5,hD.rl.stand hsj b,kn,⟨?_,fun s hs=>?_,?_,?_,hD.sb.nl⟩,hD.ap,hD.nh⟩ rfl (fun p hp=>.inl hp) fun b' o e nk nd=>?_
    ·have:=hD.sb.nN
     show S.N.length ≤ _
     omega
    ·rcases List.mem_or_eq_of_mem_set hs with z | z
     ·have:=hD.sb.nS s z
      omega
     ·rw [z]
      have:=hD.sb.nS ss[j] (List.getElem_mem hjs)
      show ss[j].N.length ≤ _
      omega
    ·have:=hD.sb.nC
     show S.C.length ≤ _
     omega
    ·have:=hD.sb.nL
     show S.lg.length ≤ _
     omega
    ·refine s5 _ _ (b4 _ _ ?_ fun z=>nk (z ▸ List.mem_of_getElem? hk))
     rw [z9 (fun z=>nd (by rw [z]; simp [Sv.lists]))]
     exact e
   have ca3:∀ b:Bool,CAt y0 y6 (upd H S.pu (.lst ((S.us.set j b).map V.bl))) c l ks ls ss:=fun b=>hD.ca.upd hD.st.gu pu_l pu_ls
   have inr:¬ ¬ (1 ≤ (1 + (j:Int)) ∧ (1 + (j:Int)) ≤ (ks.length:Int)):=fun h=>h ⟨by omega,by omega⟩
   refine ite2 (fun c5=>?_) (fun c5=>?_)
   ·have e5:cell % 8 = 5:=of_decide_eq_true c5
    have e6:decide (cell % 8 = 6) = false:=by rw [e5]; decide
    rw [e6]
    obtain ⟨dx3,hob3⟩:=(ca3 false).ob
    refine ⟨_,_,hob3,z2j _ _ (by decide +kernel) (by decide +kernel),c,l,ks,ls,ss,_,rfl,ca3 false,fun h=>absurd h inr,fun j' kk s H4 ej hk hs ca4 b4=>?_⟩
    obtain rfl:j' = j:=by omega
    rw [hsj] at hs
    cases hs
    refine ⟨_,_,rfl,.inl ⟨?_,.inr (.inr ⟨_,rfl⟩)⟩,fin false H4 kk hk ca4 b4⟩
    rw [e5]
    cases ss[j'].u <;> simp
   ·have e6:cell % 8 = 6:=by
     have a1:¬ cell % 8 < 4:=by simpa using c1
     have a2:¬ cell % 8 = 4:=by simpa using c2
     have a3:cell % 8 < 7:=of_decide_eq_true c3
     have a5:¬ cell % 8 = 5:=by simpa using c5
     omega
    have e6':decide (cell % 8 = 6) = true:=decide_eq_true e6
    rw [e6']
    obtain ⟨dx3,hob3⟩:=(ca3 true).ob
    refine ⟨_,_,hob3,z2j _ _ (by decide +kernel) (by decide +kernel),c,l,ks,ls,ss,_,rfl,ca3 true,fun h=>absurd h inr,fun j' kk s H4 ej hk hs ca4 b4=>?_⟩
    obtain rfl:j' = j:=by omega
    rw [hsj] at hs
    cases hs
    refine ⟨_,_,rfl,.inl ⟨?_,.inr (.inr ⟨_,rfl⟩)⟩,fin true H4 kk hk ca4 b4⟩
    rw [e6]
    cases ss[j'].u <;> simp
  ·refine ⟨_,z2p hD.st.st,cdiv (by decide) (by decide),by decide,zd (by decide),fun p hp=>⟨by decide,?_⟩⟩
   obtain ⟨t,et,ht⟩:=zjl (1 + cell / 8 / 4 % 1000) (by omega) (cell / 8 % 4) (by omega) (by omega)
   have s1:=Same.upd (o:=.lst [V.int 1,V.int 2,V.int 5,V.int (1 + cell / 8 / 4 % 1000)]) hp
   have g1:upd H p (.lst [V.int 1,V.int 2,V.int 5,V.int (1 + cell / 8 / 4 % 1000)]) p = some (.lst [V.int 1,V.int 2,V.int 5,V.int (1 + cell / 8 / 4 % 1000)]):=z7
   generalize upd H p _ = H1 at s1 g1 ⊢
   have D1:=hD.mono s1
   refine ⟨_,_,_,_,rfl,rfl,SqL.of g1,et,_,rfl,_,rfl,_,zf0 D1.st.st (S.now + t),?_⟩
   have b2:ButK [d] H1 (upd H1 d (.dK (stw { S with now:=S.now + t }))):=fun b o e nb=>by rw [z9 (fun z=>nb (by rw [z]; exact List.mem_singleton_self _))]; exact e
   have hc2:=D1.ca.butO b2 (fun x hx=>.inr (by rw [List.mem_singleton.mp hx]; exact ⟨_,D1.st.st⟩)) (fun h=>by have:=D1.ca.li; rw [List.mem_singleton.mp h,D1.st.st] at this; cases this) (fun x hx h=>by obtain ⟨xs,z⟩:=D1.ca.lsome hx; rw [List.mem_singleton.mp h,D1.st.st] at z; cases z)
   refine q ls ss { S with now:=S.now + t } _ ⟨hc2,D1.st.setN _,hD.rl.later (by omega),kn,hD.sb.up.now,hD.ap,hD.nh⟩ rfl (fun p hp=>.inl hp) fun b o e nk nd=>b2 _ _ (s1 _ _ e) fun h=>nd (by rw [List.mem_singleton.mp h]; exact List.mem_cons_self ..)
theorem zde (F:Def K mg "_law_new" z61 ["_law_setup_here"]) (T:Txt K mg y0 yd yc y6 yb ya y8 y7 y9):Has P w K mg base 1 "_law_new" ["_law_setup_here"] (ziq):=by
 refine F.ok zd7 (fun vs H Q E h=>?_) (fun f cdv A outer s H vs Q E hr h=>?_)
 ·obtain ⟨a,u,rfl,_⟩:=h
  rfl
 ·obtain ⟨a,u,rfl,hS,hok,q⟩:=h
  have hu:=hr.units0
  have hu2:=z3l hr
  refine ⟨_,(@za _ _ _ (@zl _ _ _ _ (@zj9 _ _ _ _ _ (@z2f _ _ _ _ _ _ _ _ _ zj z4 (@z2f _ _ _ _ _ _ _ _ _ zj (pv 0) (@z2f _ _ _ _ _ _ _ _ _ zj (@zf _ _ _ _ _ _ _ _ zfn (@z1c _ _ _ _ (@z0 _ _ _ _ _ z22 z6 rfl)) (@zh _ _ _ _ _ _ _ ix_tup (pv 0) z4 (fun _ _=>rfl))) (@z2f _ _ _ _ _ _ _ _ _ zj (@zf _ _ _ _ _ _ _ _ zfn (@z1c _ _ _ _ (@z0 _ _ _ _ _ z4 z6 rfl)) (@zh _ _ _ _ _ _ _ ix_tup (pv 0) z4 (fun _ _=>rfl))) (@z2f _ _ _ _ _ _ _ _ _ zj (@z1c _ _ _ _ z6) (@z2f _ _ _ _ _ _ _ _ _ zj (@z1c _ _ _ _ z6) (@z2f _ _ _ _ _ _ _ _ _ zj (@z1c _ _ _ _ z6) (@z2f _ _ _ _ _ _ _ _ _ zj zc0 (@z2f _ _ _ _ _ _ _ _ _ zj (@z1c _ _ _ _ z6) (@z2f _ _ _ _ _ _ _ _ _ zj (@z1c _ _ _ _ z6) zj8)))))))))) rfl rfl (by simp) (by decide)))),?_⟩
  walk_at "rd"
  have n5:=hok.n5
  intro p hp
  have sa:=Same.upd (o:=.dK []) hp
  have ga:upd H p (.dK []) p = some (.dK []):=z7
  generalize upd H p (.dK []) = Ha at sa ga ⊢
  refine ⟨zd (by decide),fun p1 hp1=>?_⟩
  have sb:=Same.upd (o:=.lst [V.bl true]) hp1
  have gb:upd Ha p1 (.lst [V.bl true]) p1 = some (.lst [V.bl true]):=z7
  generalize upd Ha p1 (.lst [V.bl true]) = Hb at sb gb ⊢
  have sHb:=sa.trans sb
  refine ⟨_,_,_,_,rfl,rfl,SqT.of (sHb _ _ hS.tu),zb (j:=0) rfl,p1,u.n,_,rfl,rfl,gb,by omega,by omega,zd (by show 1 * (u.n:Int).toNat ≤ 1000000; omega),fun pu hpu=>?_⟩
  rw [Int.toNat_natCast,zke]
  have sc:=Same.upd (o:=.lst ((List.replicate u.n true).map V.bl)) hpu
  have gc:upd Hb pu (.lst ((List.replicate u.n true).map V.bl)) pu = some (.lst ((List.replicate u.n true).map V.bl)):=z7
  generalize upd Hb pu (.lst ((List.replicate u.n true).map V.bl)) = Hc at sc gc ⊢
  have sHc:=sHb.trans sc
  refine ⟨zd (by decide),fun p2 hp2=>?_⟩
  have sd:=Same.upd (o:=.lst [V.int 0]) hp2
  have gd:upd Hc p2 (.lst [V.int 0]) p2 = some (.lst [V.int 0]):=z7
  generalize upd Hc p2 (.lst [V.int 0]) = Hd at sd gd ⊢
  have sHd:=sHc.trans sd
  refine ⟨_,_,_,_,rfl,rfl,SqT.of (sHd _ _ hS.tu),zb (j:=0) rfl,p2,u.n,_,rfl,rfl,gd,by omega,by omega,zd (by show 1 * (u.n:Int).toNat ≤ 1000000; omega),fun pt hpt=>?_⟩
  rw [Int.toNat_natCast,zjj]
  have se:=Same.upd (o:=.lst ((List.replicate u.n (0:Int)).map V.int)) hpt
  have ge:upd Hd pt (.lst ((List.replicate u.n (0:Int)).map V.int)) pt = some (.lst ((List.replicate u.n (0:Int)).map V.int)):=z7
  generalize upd Hd pt (.lst ((List.replicate u.n (0:Int)).map V.int)) = He at se ge ⊢
  have sHe:=sHd.trans se
  refine ⟨Nat.zero_le _,fun p3 hp3=>?_⟩
  have sf:=Same.upd (o:=.lst []) hp3
  have gf:upd He p3 (.lst []) p3 = some (.lst []):=z7
  generalize upd He p3 (.lst []) = Hf at sf gf ⊢
  have sHf:=sHe.trans sf
  refine ⟨Nat.zero_le _,fun p4 hp4=>?_⟩
  have sg:=Same.upd (o:=.lst []) hp4
  have gg:upd Hf p4 (.lst []) p4 = some (.lst []):=z7
  generalize upd Hf p4 (.lst []) = Hg at sg gg ⊢
  have sHg:=sHf.trans sg
  refine ⟨Nat.zero_le _,fun p5 hp5=>?_⟩
  have sh:=Same.upd (o:=.lst []) hp5
  have gh:upd Hg p5 (.lst []) p5 = some (.lst []):=z7
  generalize upd Hg p5 (.lst []) = Hh at sh gh ⊢
  have sHh:=sHg.trans sh
  intro p6 hp6
  have si:=Same.upd (o:=.dK []) hp6
  generalize upd Hh p6 (.dK []) = Hi at si ⊢
  have sHi:=sHh.trans si
  refine ⟨Nat.zero_le _,fun p7 hp7=>?_⟩
  have sj:=Same.upd (o:=.lst []) hp7
  generalize upd Hi p7 (.lst []) = Hj at sj ⊢
  have sHj:=sHi.trans sj
  refine ⟨Nat.zero_le _,fun p8 hp8=>?_⟩
  have sk:=Same.upd (o:=.lst []) hp8
  have gk:upd Hj p8 (.lst []) p8 = some (.lst []):=z7
  generalize upd Hj p8 (.lst []) = Hk at sk gk ⊢
  have sHk:=sHj.trans sk
  have ijk:=si.trans (sj.trans sk)
  have hk':=sh.trans ijk
  have gk':=sg.trans hk'
  have fk:=sf.trans gk'
  have ek:=se.trans fk
  have ck:=sd.trans ek
  have Gp:=(sb.trans (sc.trans ck)) _ _ ga
  have Gu:=ck _ _ gc
  have Gt:=fk _ _ ge
  have G3:=gk' _ _ gf
  have G4:=hk' _ _ gg
  have G5:=ijk _ _ gh
  refine ⟨Gp,[(.inr "now",.int 0),(.inr "setup",.ref a),(.inr "ups",.ref pu),(.inr "tops",.ref pt),(.inr "notes",.ref p3),(.inr "row",.ref p4),(.inr "carry",.ref p5),(.inr "sleep",.ref p6),(.inr "took",.ref p7),(.inr "log",.ref p8)],rfl,(show 10 ≤ 15 by decide),?_⟩
  have em:z5p [] [((.inr "now" : Key),V.int 0),(.inr "setup",.ref a),(.inr "ups",.ref pu),(.inr "tops",.ref pt),(.inr "notes",.ref p3),(.inr "row",.ref p4),(.inr "carry",.ref p5),(.inr "sleep",.ref p6),(.inr "took",.ref p7),(.inr "log",.ref p8)] = stw ⟨0,a,pu,pt,p3,p4,p5,p6,p7,p8,List.replicate u.n true,List.replicate u.n 0,[],[],[]⟩:=by kernel_rfl
  rw [em]
  have up:∀ b xs,Hk b = some (.lst xs) → upd Hk p (.dK (stw ⟨0,a,pu,pt,p3,p4,p5,p6,p7,p8,List.replicate u.n true,List.replicate u.n 0,[],[],[]⟩)) b = some (.lst xs):=fun b xs e=>by
   rw [z9 (fun z=>by rw [z,Gp] at e; cases e)]; exact e
  have upT:∀ b xs,Hk b = some (.tup xs) → upd Hk p (.dK (stw ⟨0,a,pu,pt,p3,p4,p5,p6,p7,p8,List.replicate u.n true,List.replicate u.n 0,[],[],[]⟩)) b = some (.tup xs):=fun b xs e=>by
   rw [z9 (fun z=>by rw [z,Gp] at e; cases e)]; exact e
  have fr:∀ x ∈ [pu,pt,p3,p4,p5,p8],H x = none:=fun x hx=>by
   simp only [List.mem_cons,List.not_mem_nil,or_false] at hx
   rcases hx with rfl | rfl | rfl | rfl | rfl | rfl
   ·exact zv sHb hpu
   ·exact zv sHd hpt
   ·exact zv sHe hp3
   ·exact zv sHf hp4
   ·exact zv sHg hp5
   ·exact zv sHj hp8
  have Sk:SuAt Hk a u:=hS.mono sHk
  refine q p ⟨0,a,pu,pt,p3,p4,p5,p6,p7,p8,List.replicate u.n true,List.replicate u.n 0,[],[],[]⟩ _ ⟨z7,⟨upT _ _ Sk.tu,up _ _ Sk.gh,up _ _ Sk.gl,up _ _ Sk.gc,up _ _ Sk.gt⟩,up _ _ Gu,up _ _ Gt,up _ _ G3,(fun z hz=>by cases hz),up _ _ G4,up _ _ G5,(fun z hz=>by cases hz),up _ _ gk,?_,?_⟩ rfl rfl rfl rfl rfl rfl rfl hp fr ?_
  ·show [pu,pt,p3,p4,p5,p8].Nodup
   have a1:pu ≠ pt:=zc (sd _ _ gc) hpt
   have a2:pu ≠ p3:=zc (se _ _ (sd _ _ gc)) hp3
   have a3:pu ≠ p4:=zc (sf _ _ (se _ _ (sd _ _ gc))) hp4
   have a4:pu ≠ p5:=zc (sg _ _ (sf _ _ (se _ _ (sd _ _ gc)))) hp5
   have jj:=(sh.trans si).trans sj
   have a5:pu ≠ p8:=zc (jj _ _ (sg _ _ (sf _ _ (se _ _ (sd _ _ gc))))) hp8
   have b2:pt ≠ p3:=zc ge hp3
   have b3:pt ≠ p4:=zc (sf _ _ ge) hp4
   have b4:pt ≠ p5:=zc (sg _ _ (sf _ _ ge)) hp5
   have b5:pt ≠ p8:=zc (jj _ _ (sg _ _ (sf _ _ ge))) hp8
   have c3:p3 ≠ p4:=zc gf hp4
   have c4:p3 ≠ p5:=zc (sg _ _ gf) hp5
   have c5:p3 ≠ p8:=zc (jj _ _ (sg _ _ gf)) hp8
   have d4:p4 ≠ p5:=zc gg hp5
   have d5:p4 ≠ p8:=zc (jj _ _ gg) hp8
   have e5:p5 ≠ p8:=zc ((si.trans sj) _ _ gh) hp8
   simp [a1,a2,a3,a4,a5,b2,b3,b4,b5,c3,c4,c5,d4,d5,e5]
  ·intro x hx hx2
   have:=fr x hx
   simp only [Su.lists,List.mem_cons,List.not_mem_nil,or_false] at hx2
   rcases hx2 with rfl | rfl | rfl | rfl
   ·rw [hS.gh] at this; cases this
   ·rw [hS.gl] at this; cases this
   ·rw [hS.gc] at this; cases this
   ·rw [hS.gt] at this; cases this
  ·intro b o e
   rw [z9 (zc e hp)]
   exact sHk _ _ e
theorem zbe (F:Def K mg "_law_asked" z4z ["_law_rest","_law_k","_law_setup_here"]) (T:Txt K mg y0 yd yc y6 yb ya y8 y7 y9):Has P w K mg base 1 "_law_asked" ["_law_rest","_law_k","_law_setup_here"] (za8):=by
 refine F.ok sc__law_asked (fun vs H Q E h=>?_) (fun f cdv A outer s H vs Q E hr h=>?_)
 ·obtain ⟨c,k,a,u,rfl,_⟩:=h
  rfl
 ·obtain ⟨c,k,a,u,rfl,hS,hok,q⟩:=h
  have hu:=hr.units0
  refine ⟨_,(@z8 _ _ _ _ _ (@zi _ _ 3 _ _ _ _ sc__law_asked.nd rfl (Or.inl rfl) (@zh _ _ _ _ _ _ _ ix_list (@zh _ _ _ _ _ _ _ ix_tup (pv 2) z4 (fun _ _=>rfl)) (@zf _ _ _ _ _ _ _ _ z10 (@zf _ _ _ _ _ _ _ _ z14 (pv 0) (pv 1)) (@zg _ _ _ _ _ _ _ _ _ zq rfl T.b_len (by decide +kernel) (@z0 _ _ _ _ _ (@zh _ _ _ _ _ _ _ ix_tup (pv 2) z4 (fun _ _=>rfl)) z6 rfl) (by decide) (by decide) rfl rfl)) (fun _ _=>rfl)) rfl (Or.inr rfl)) (@z8 _ _ _ _ _ (@zi _ _ 0 _ _ _ _ sc__law_asked.nd rfl (Or.inl rfl) (@zf _ _ _ _ _ _ _ _ z19 (pv 0) z4) rfl (Or.inr rfl)) (@z8 _ _ _ _ _ (@zi _ _ 4 _ _ _ _ sc__law_asked.nd rfl (Or.inl rfl) (@zh _ _ _ _ _ _ _ ix_list (@zh _ _ _ _ _ _ _ ix_tup (pv 2) z4 (fun _ _=>rfl)) (@zf _ _ _ _ _ _ _ _ z10 (@zf _ _ _ _ _ _ _ _ z14 (pv 0) (@zf _ _ _ _ _ _ _ _ z19 (pv 1) z4)) (@zg _ _ _ _ _ _ _ _ _ zq rfl T.b_len (by decide +kernel) (@z0 _ _ _ _ _ (@zh _ _ _ _ _ _ _ ix_tup (pv 2) z4 (fun _ _=>rfl)) z6 rfl) (by decide) (by decide) rfl rfl)) (fun _ _=>rfl)) rfl (Or.inr rfl)) (@z8 _ _ _ _ _ (@zi _ _ 0 _ _ _ _ sc__law_asked.nd rfl (Or.inl rfl) (@zf _ _ _ _ _ _ _ _ z19 (pv 0) z4) rfl (Or.inr rfl)) (@z8 _ _ _ _ _ (@zi _ _ 5 _ _ _ _ sc__law_asked.nd rfl (Or.inl rfl) (@z2a _ _ _ _ _ _ _ (@z1e _ _ _ _ _ _ _ _ zak (pv 4) (@zh _ _ _ _ _ _ _ ix_tup (pv 2) z4 (fun _ _=>rfl)) (by with_unfolding_all rfl)) (@z24 _ _ _ _ _ (@z1e _ _ _ _ _ _ _ _ z1a (@zf _ _ _ _ _ _ _ _ z10 (@zf _ _ _ _ _ _ _ _ z14 (pv 0) (pv 1)) z4) z4 (zm _)))) rfl (Or.inr rfl)) (@z8 _ _ _ _ _ (@zi _ _ 0 _ _ _ _ sc__law_asked.nd rfl (Or.inl rfl) (@zf _ _ _ _ _ _ _ _ z19 (pv 0) z4) rfl (Or.inr rfl)) (@za _ _ _ (@zl _ _ _ _ (@z1l _ _ _ _ _ (@z0 _ _ _ _ _ zj (@z0 _ _ _ _ _ (pv 3) (@z0 _ _ _ _ _ (pv 4) (@z0 _ _ _ _ _ (pv 5) (@z0 _ _ _ _ _ (@zh _ _ _ _ _ _ _ ix_list (@z1c _ _ _ _ (@z0 _ _ _ _ _ z4 (@z0 _ _ _ _ _ z4 (@z0 _ _ _ _ _ z4 (@z0 _ _ _ _ _ z4 (@z0 _ _ _ _ _ z4 (@z0 _ _ _ _ _ z4 (@z0 _ _ _ _ _ z4 (@z0 _ _ _ _ _ (@zf _ _ _ _ _ _ _ _ z14 z4 (@zf _ _ _ _ _ _ _ _ z10 (@zf _ _ _ _ _ _ _ _ z19 (pv 0) z4) z4)) z6 rfl) rfl) rfl) rfl) rfl) rfl) rfl) rfl)) (@zf _ _ _ _ _ _ _ _ z10 (@zf _ _ _ _ _ _ _ _ z14 (pv 0) (pv 1)) z4) (fun _ _=>rfl)) z6 rfl) rfl) rfl) rfl) rfl)))))))))),?_⟩
  walk_at "rd"
  refine ⟨_,_,_,_,rfl,rfl,SqT.of hS.tu,zb (j:=1) rfl,?_⟩
  refine ⟨_,_,_,_,rfl,rfl,SqT.of hS.tu,zb (j:=1) rfl,?_⟩
  obtain ⟨hd,mhd,ahd⟩:=zcn hok.h1 (c + k)
  obtain ⟨lk,mlk,alk⟩:=zcn hok.l1 (c / 8 + k / 3)
  have h1:=hok.h1
  have l1:=hok.l1
  refine ⟨_,rfl,_,.inl (SqL.of hS.gh),by rw [List.length_map]; omega,?_⟩
  rw [List.length_map]
  refine ⟨_,_,_,_,rfl,rfl,SqL.of hS.gh,ahd,cdiv (by decide) (by decide),?_⟩
  refine ⟨_,_,_,_,rfl,rfl,SqT.of hS.tu,zb (j:=2) rfl,cdiv (by decide) (by decide),?_⟩
  refine ⟨_,_,_,_,rfl,rfl,SqT.of hS.tu,zb (j:=2) rfl,_,rfl,_,.inl (SqL.of hS.gl),by rw [List.length_map]; omega,?_⟩
  rw [List.length_map]
  refine ⟨_,_,_,_,rfl,rfl,SqL.of hS.gl,alk,cdiv (by decide) (by decide),?_⟩
  refine ⟨_,_,_,_,rfl,rfl,SqT.of hS.tu,zb (j:=3) rfl,?_⟩
  refine ⟨_,_,rfl,.inl (SqL.of hS.gc),rfl,z2l _,_,rfl,?_⟩
  have fin:∀ (sh:Bool),CDiv (c / 8 / 10) 2 ∧ CDiv (c / 8 / 10 / 2) 8 ∧ (0:Int) < 1000 ∧ 8 ≤ sizeLine ∧ ∀ (p:Addr),H p = none → (0:Int) < 8 ∧ rIxL K (V.ref p) (V.int ((c / 8 / 10 / 2 + k) % 8)) (upd H p (.lst [V.int 5,V.int 2,V.int 30,V.int 1,V.int 9,V.int 1000,V.int 3,V.int (1 + c / 8 / 10 / 2 / 8 % 1000)])) fun x_6 H1=>5 ≤ sizeLine ∧ ∀ (p:Addr),H1 p = none → Q (V.ref p) (upd H1 p (.tup [V.str (Str.ofString "ask"),V.str hd,V.str lk,V.bl sh,x_6])):=fun sh=>by
   refine ⟨cdiv (by decide) (by decide),cdiv (by decide) (by decide),by decide,zd (by decide),fun p hp=>⟨by decide,?_⟩⟩
   generalize c / 8 / 10 / 2 = d
   obtain ⟨tm,etm,t1,t2⟩:∃ tm:Int,atI [V.int 5,V.int 2,V.int 30,V.int 1,V.int 9,V.int 1000,V.int 3,V.int (1 + d / 8 % 1000)] ((d + k) % 8) = some (V.int tm) ∧ 1 ≤ tm ∧ tm ≤ 1000:=by
    rcases (show (d + k) % 8 = 0 ∨ (d + k) % 8 = 1 ∨ (d + k) % 8 = 2 ∨ (d + k) % 8 = 3 ∨ (d + k) % 8 = 4 ∨ (d + k) % 8 = 5 ∨ (d + k) % 8 = 6 ∨ (d + k) % 8 = 7 by omega) with e | e | e | e | e | e | e | e
    ·exact ⟨5,by rw [e]; exact zb (j:=0) rfl,by decide,by decide⟩
    ·exact ⟨2,by rw [e]; exact zb (j:=1) rfl,by decide,by decide⟩
    ·exact ⟨30,by rw [e]; exact zb (j:=2) rfl,by decide,by decide⟩
    ·exact ⟨1,by rw [e]; exact zb (j:=3) rfl,by decide,by decide⟩
    ·exact ⟨9,by rw [e]; exact zb (j:=4) rfl,by decide,by decide⟩
    ·exact ⟨1000,by rw [e]; exact zb (j:=5) rfl,by decide,by decide⟩
    ·exact ⟨3,by rw [e]; exact zb (j:=6) rfl,by decide,by decide⟩
    ·exact ⟨_,by rw [e]; exact zb (j:=7) rfl,by omega,by omega⟩
   refine ⟨_,_,_,_,rfl,rfl,SqL.of z7,etm,zd (by decide),fun r hr0=>?_⟩
   exact q r hd lk sh tm _ mhd mlk t1 t2 z7 ((Same.upd hp).trans (Same.upd hr0))
  rw [if_neg Bool.false_ne_true]
  cases inV (V.str lk) (u.shs.map V.str) with
  | true =>
   rw [if_pos rfl]
   exact ⟨by decide,fin _⟩
  | false =>
   rw [if_neg Bool.false_ne_true]
   exact fin false
def AP (K:PySem.W.Frag) (a d:Addr) (xs:List V) (H:Hp) (S:Sv):Prop:=(∀ H',SqL K H' a xs) ∨ ((∀ H',H' a = H a → SqL K H' a xs) ∧ (∃ o,H a = some o ∧ (∀ C dx fs,o ≠ .ins C dx fs) ∧ ∀ ps,o ≠ .tbl ps) ∧ a ∉ d :: S.lists)
theorem AP.sq {K:PySem.W.Frag} {a d:Addr} {xs:List V} {H:Hp} {S:Sv} (h:AP K a d xs H S):SqL K H a xs:=by
 rcases h with h | ⟨h,-,-⟩
 ·exact h H
 ·exact h H rfl
theorem AP.mono {K:PySem.W.Frag} {a d:Addr} {xs:List V} {H H':Hp} {S:Sv} (h:AP K a d xs H S) (s:Same H H'):AP K a d xs H' S:=by
 rcases h with h | ⟨h,⟨o,e,no,nt⟩,n⟩
 ·exact .inl h
 ·have e':=s _ _ e
  exact .inr ⟨fun H2 z=>h H2 (by rw [z,e',e]),⟨o,e',no,nt⟩,n⟩
theorem AP.start {K:PySem.W.Frag} {a d:Addr} {xs:List V} {H H':Hp} {S:Sv} (h:SqL K H a xs) (s:Same H H') (hd:H d = none) (hl:∀ p ∈ S.lists,H p = none):AP K a d xs H' S:=by
 rcases h with (z | ⟨o,z⟩) | z
 ·have z':=s _ _ z
  refine .inr ⟨fun H2 e=>.inl (.inl (by rw [e]; exact z')),⟨_,z',(fun _ _ _ y=>by cases y),fun _ y=>by cases y⟩,fun hm=>?_⟩
  rcases List.mem_cons.mp hm with y | y
  ·rw [← y,z] at hd; cases hd
  ·rw [hl a y] at z; cases z
 ·have z':=s _ _ z
  refine .inr ⟨fun H2 e=>.inl (.inr ⟨o,by rw [e]; exact z'⟩),⟨_,z',(fun _ _ _ y=>by cases y),fun _ y=>by cases y⟩,fun hm=>?_⟩
  rcases List.mem_cons.mp hm with y | y
  ·rw [← y,z] at hd; cases hd
  ·rw [hl a y] at z; cases z
 ·exact .inl fun H'=>.inr z
theorem AP.step {K:PySem.W.Frag} {a d:Addr} {xs:List V} {H H':Hp} {S S':Sv} {CC CK c l:Addr} {ks ls:List Addr} {ss:List KN} (h:AP K a d xs H S) (hc:CAt CC CK H c l ks ls ss) (hl:∀ p ∈ S'.lists,p ∈ S.lists ∨ H p = none) (hf:∀ b o,H b = some o → b ∉ ks → b ∉ d :: S.lists → H' b = some o):AP K a d xs H' S':=by
 rcases h with h | ⟨h,⟨o,e,no,nt⟩,n⟩
 ·exact .inl h
 ·have nk:a ∉ ks:=fun hk=>by obtain ⟨dx,fs,z⟩:=hc.mem hk; rw [e] at z; cases z; exact no _ _ _ rfl
  have e':=hf _ _ e nk n
  refine .inr ⟨fun H2 z=>h H2 (by rw [z,e',e]),⟨o,e',no,nt⟩,fun hm=>?_⟩
  rcases List.mem_cons.mp hm with y | y
  ·exact n (by rw [y]; exact List.mem_cons_self ..)
  ·rcases hl a y with z | z
   ·exact n (List.mem_cons_of_mem _ z)
   ·rw [e] at z; cases z
theorem AP.keep {K:PySem.W.Frag} {a d:Addr} {xs:List V} {H H':Hp} {S:Sv} (h:AP K a d xs H S) (k:∀ b o,H b = some o → (∀ ps,o ≠ .tbl ps) → H' b = some o):AP K a d xs H' S:=by
 rcases h with h | ⟨h,⟨o,e,no,nt⟩,n⟩
 ·exact .inl h
 ·have e':=k _ _ e nt
  exact .inr ⟨fun H2 z=>h H2 (by rw [z,e',e]),⟨o,e',no,nt⟩,n⟩
theorem Day.keep {CC CK:Addr} {H H':Hp} {c l:Addr} {ks ls:List Addr} {ss:List KN} {d:Addr} {S:Sv} {u:Su} {i:Nat} (h:Day CC CK H c l ks ls ss d S u i) (k:∀ b o,H b = some o → (∀ ps,o ≠ .tbl ps) → H' b = some o):Day CC CK H' c l ks ls ss d S u i:=by
 obtain ⟨⟨⟨dx,h1⟩,h2,h3,h4,h5,h6,h7⟩,st,rl,kn,sb,ap,nh⟩:=h
 have L:∀ b xs,H b = some (.lst xs) → H' b = some (.lst xs):=fun b xs e=>k b _ e fun _ z=>by cases z
 have T:∀ b xs,H b = some (.tup xs) → H' b = some (.tup xs):=fun b xs e=>k b _ e fun _ z=>by cases z
 have I:∀ b C dx fs,H b = some (.ins C dx fs) → H' b = some (.ins C dx fs):=fun b C dx fs e=>k b _ e fun _ z=>by cases z
 refine ⟨⟨⟨dx,I _ _ _ _ h1⟩,L _ _ h2,fun i k' e=>?_,h4,h5,h6,h7⟩,⟨k _ _ st.st (fun _ z=>by cases z),⟨T _ _ st.su.tu,L _ _ st.su.gh,L _ _ st.su.gl,L _ _ st.su.gc,L _ _ st.su.gt⟩,L _ _ st.gu,L _ _ st.gt,L _ _ st.gn,fun q hq=>T _ _ (st.kn q hq),L _ _ st.gr,L _ _ st.gc,fun q hq=>T _ _ (st.kc q hq),L _ _ st.gl,st.nd,st.sd⟩,rl,kn,sb,ap,nh⟩
 obtain ⟨s,l',e1,e2,⟨dx2,z⟩,N,eN,⟨dx',l2,g1,g2⟩,hn,hl⟩:=h3 i k' e
 exact ⟨s,l',e1,e2,⟨dx2,I _ _ _ _ z⟩,N,eN,⟨dx',l2,I _ _ _ _ g1,L _ _ g2⟩,⟨fun q hq=>T _ _ (hn.tu q hq),hn.sm⟩,hl⟩
theorem zjm {CC CK:Addr} {H H':Hp} {c l:Addr} {ks ls:List Addr} {ss:List KN} {d:Addr} {S:Sv} {u:Su} {i:Nat} {Pt:Addr} {pos:Pos} {qual:Str} (t:TbOk H Pt pos qual) (hD:Day CC CK H c l ks ls ss d S u i) (f:∀ b o,H b = some o → b ∉ ks → b ∉ d :: S.lists → H' b = some o):TbOk H' Pt pos qual:=by
 have go:∀ b o,H b = some o → (∀ C dx fs,o ≠ .ins C dx fs) → (∀ xs,o ≠ .lst xs) → (∀ kv,o ≠ .dK kv) → H' b = some o:=fun b o e n1 n2 n3=>f b o e (fun hb=>by obtain ⟨dx,fs,z⟩:=hD.ca.mem hb; rw [e] at z; cases z; exact n1 _ _ _ rfl) fun hb=>by
  rcases hD.own.1 b hb with ⟨xs,z⟩ | ⟨kv,z⟩
  ·rw [e] at z; cases z; exact n2 _ rfl
  ·rw [e] at z; cases z; exact n3 _ rfl
 rcases t with z | ⟨c',z,z2⟩
 ·exact .inl (go _ _ z (fun _ _ _ y=>by cases y) (fun _ y=>by cases y) fun _ y=>by cases y)
 ·exact .inr ⟨c',go _ _ z (fun _ _ _ y=>by cases y) (fun _ y=>by cases y) (fun _ y=>by cases y),go _ _ z2 (fun _ _ _ y=>by cases y) (fun _ y=>by cases y) fun _ y=>by cases y⟩
theorem zh7 {S:Sv} {n:Nat} (h1:S.us = List.replicate n true) (h2:S.ts = List.replicate n 0) (h3:S.N = []):Rel S (z3r n) n:=by
 have hs:∀ s ∈ z3r n,s = ⟨true,0,[]⟩:=fun s hs=>List.eq_of_mem_replicate hs
 refine ⟨by rw [h1]; unfold z3r; rw [List.map_replicate],by rw [h2]; unfold z3r; rw [List.map_replicate],by unfold z3r; rw [List.length_replicate],fun j s e=>?_,fun s ms=>?_,fun q hq=>by rw [h3] at hq; cases hq⟩
 ·rw [hs s (List.mem_of_getElem? e),h3]
  rfl
 ·rw [hs s ms]
  exact ⟨List.Pairwise.nil,(fun x hx=>by cases hx),Int.le_refl _⟩
theorem zh8:∀ (l:List Str) (p:Str),PyProof.Rows.risingS p l = true → (p :: l).Pairwise (fun a b=>a.cps.toList ≤ b.cps.toList)
 | [],p,_=>List.pairwise_singleton _ _
 | x :: l,p,h=>by
  unfold PyProof.Rows.risingS at h
  rw [Bool.and_eq_true,PyProof.Rows.ltCps_eq] at h
  obtain ⟨h1,h2⟩:=h
  have hle:p.cps.toList ≤ x.cps.toList:=by simpa using h1
  have ih:=zh8 l x h2
  refine List.pairwise_cons.mpr ⟨fun y m=>?_,ih⟩
  rcases List.mem_cons.mp m with rfl | m
  ·exact hle
  ·exact List.le_trans hle ((List.pairwise_cons.mp ih).1 y m)
theorem zh9:∀ (l:List Str),PyProof.Rows.sortedS l = true → l.Pairwise (fun a b=>a.cps.toList ≤ b.cps.toList)
 | [],_=>List.Pairwise.nil
 | x :: l,h=>zh8 l x h
def z8f (K:PySem.W.Frag):Sp:=fun vs H Q _=>∃ (d a:Addr) (S:Sv) (u:Su) (z:Int) (hd lk:Str) (sh:Bool) (tm:Int),vs = [.ref d,.ref a] ∧ StAt H d S u ∧ H a = some (.tup [.int z,.str hd,.str lk,.bl sh,.int tm]) ∧ lk.length ≤ 1000 ∧ SayP S u ∧ HsIn S u ∧
 ∀ (r:Str) (H':Hp),IsNm (fun x=>(z3s S hd lk sh (upL S.us)).count x) r → Same H H' → Q (.str r) H'
theorem zbf (F:Def K mg "_law_named" z51 ["_law_state","_law_asking"]) (T:Txt K mg y0 yd yc y6 yb ya y8 y7 y9) (yn:Has P w K mg base 3 "_law_naming" ["_law_state","_law_asking","_law_keeper"] (z8e K)) (ym:Has P w K mg base 1 "_law_ups" ["_law_state"] (z9c K)):Has P w K mg base 4 "_law_named" ["_law_state","_law_asking"] (z8f K):=by
 refine F.ok sc__law_named (fun vs H Q E h=>?_) (fun f cdv A outer s H vs Q E hr h=>?_)
 ·obtain ⟨d,a,S,u,z,hd,lk,sh,tm,rfl,_⟩:=h
  rfl
 ·obtain ⟨d,a,S,u,z,hd,lk,sh,tm,rfl,hS,ha,hlk,⟨hok,hun,hll,hn⟩,hin,q⟩:=h
  have hu:=hr.units0
  have hu2:=z3l hr
  have n5:=hok.n5
  have h8:=hok.h8
  have lu:=z7f S.us
  refine ⟨_,(@z8 _ _ _ _ _ (@zi _ _ 2 _ _ _ _ sc__law_named.nd rfl (Or.inl rfl) (@z1c _ _ _ _ z6) rfl (Or.inr rfl)) (@z8 _ _ _ _ _ (@z25 _ _ _ _ _ _ _ _ PassesOwn.never rfl (@z18 _ _ _ _ (@zp _ _ _ _ _ _ _ _ _ _ ym (hr.mono (by decide)) rfl (@z0 _ _ _ _ _ (pv 0) z6 rfl) (by decide) rfl rfl)) (@z15 _ _ 3 _ sc__law_named.nd rfl (Or.inl rfl) (Or.inr rfl)) (@za _ _ _ (@zi _ _ 2 _ _ _ _ sc__law_named.nd rfl (Or.inl rfl) (@zf _ _ _ _ _ _ _ _ zfm (pv 2) (@zp _ _ _ _ _ _ _ _ _ _ yn (hr.mono (by decide)) rfl (@z0 _ _ _ _ _ (pv 0) (@z0 _ _ _ _ _ (pv 1) (@z0 _ _ _ _ _ (pv 3) z6 rfl) rfl) rfl) (by decide) rfl rfl)) rfl (Or.inr rfl))) (by intro _; rfl)) (@z8 _ _ _ _ _ (@zi _ _ 4 _ _ _ _ sc__law_named.nd rfl (Or.inl rfl) zj rfl (Or.inr rfl)) (@z8 _ _ _ _ _ (@z25 _ _ _ _ _ _ _ _ PassesOwn.never rfl (@z18 _ _ _ _ (@zcc _ _ _ _ _ _ _ _ rfl T.b_sorted (@z0 _ _ _ _ _ (pv 2) z6 rfl) rfl rfl)) (@z15 _ _ 5 _ sc__law_named.nd rfl (Or.inl rfl) (Or.inr rfl)) (@za _ _ _ (@zy _ _ _ _ _ _ _ _ (PW.pt (@z75 _ _ _ _ _ _ _ (@zn _ _ _ _ _ _ _ _ z1a (pv 4) zj (zm _)) (@z5l _ _ _ _ (@zn _ _ _ _ _ _ _ _ zbi (@z2c _ _ _ _ _ _ _ _ _ _ _ _ PySem.F.plainAttrs_list PySem.F.slot_list_count PySem.F.type_list_count zav (pv 2) (@z0 _ _ _ _ _ (pv 5) z6 rfl) rfl rfl rfl rfl rfl) (@z2c _ _ _ _ _ _ _ _ _ _ _ _ PySem.F.plainAttrs_list PySem.F.slot_list_count PySem.F.type_list_count zav (pv 2) (@z0 _ _ _ _ _ (pv 4) z6 rfl) rfl rfl rfl rfl rfl) (zm _))))) (@za _ _ _ (@zi _ _ 4 _ _ _ _ sc__law_named.nd rfl (Or.inl rfl) (pv 5) rfl (Or.inr rfl))) zo)) (by intro _; rfl)) (@za _ _ _ (@zl _ _ _ _ (pv 4))))))),?_⟩
  walk_at "rd"
  refine ⟨Nat.zero_le _,fun p hp=>?_⟩
  have s1:=Same.upd (o:=.lst []) hp
  have g1:upd H p (.lst []) p = some (.lst []):=z7
  generalize upd H p (.lst []) = H1 at s1 g1 ⊢
  refine ⟨d,S,u,rfl,hS.mono s1,hok,hun,fun r H2 hr0 gr s2=>⟨r,rfl,⟨_,SqL.of gr⟩,?_⟩⟩
  have s12:=s1.trans s2
  refine z1i (xs:=z13 (upL S.us)) (fun i σ H'=>∃ (pz:Addr) (v3 v4 v5:Option V),σ = [some (V.ref d),some (V.ref a),some (V.ref pz),v3,v4,v5] ∧ H' pz = some (.lst ((z3s S hd lk sh ((upL S.us).take i)).map V.str)) ∧ Same H2 H') ⟨p,_,_,_,rfl,s2 _ _ g1,Same.refl _⟩ ?_ ?_ ?_
  ·rintro i σ H' - ⟨pz,v3,v4,v5,-,-,s3⟩
   exact SqL.of (s3 _ _ gr)
  ·rintro Pv hP i x σ H' hx ⟨pz,v3,v4,v5,rfl,gz,s3⟩
   obtain ⟨k,hk,rfl⟩:=z56 hx
   have hi:i < (upL S.us).length:=(List.getElem?_eq_some_iff.mp hk).1
   walk_at "rd"
   have s13:=s12.trans s3
   refine ⟨d,a,S,u,z,hd,lk,sh,tm,k,rfl,hS.mono s13,s13 _ _ ha,hlk,hll,hn,fun r2 H3 hr2 gr2 s4=>?_⟩
   have stp:z3s S hd lk sh ((upL S.us).take (i + 1)) = z3s S hd lk sh ((upL S.us).take i) ++ nmOf k S.now hd lk sh (S.N.map (·.2)):=by
    unfold z3s
    rw [List.take_succ,hk,List.flatMap_append]
    simp
   have hb:=HsIn.len hin h8 hd lk sh ((upL S.us).take (i + 1))
   rw [stp,List.length_take,List.length_append] at hb
   refine ⟨_,_,_,_,rfl,rfl,s4 _ _ gz,gr2,by rw [List.length_map,List.length_map]; exact zd (by omega),fun pq hpq=>?_⟩
   rw [← List.map_append,← stp]
   exact hP _ _ _ ⟨pq,_,_,_,rfl,z7,s3.trans (s4.trans (Same.upd hpq))⟩
  ·rintro σ H' ⟨pz,v3,v4,v5,rfl,gz,s3⟩
   rw [z1v,List.take_length] at gz
   walk_at "rd"
   have hb:=HsIn.len hin h8 hd lk sh (upL S.us)
   generalize z3s S hd lk sh (upL S.us) = ns at gz hb q
   refine ⟨ns,SqL.of gz,by omega,fun l ks hl hp0 hs0=>⟨⟨_,SqL.of z7⟩,?_⟩⟩
   have hso:=zh9 ks hs0
   have hso:ks.reverse.Pairwise (fun a b:Str=>b.cps.toList ≤ a.cps.toList):=List.pairwise_reverse.mpr hso
   have hmem:∀ x,x ∈ ks.reverse ↔ x ∈ ns:=fun x=>by rw [List.mem_reverse]; exact hp0.mem_iff
   generalize ks.reverse = R at hso hmem ⊢
   have s5:=Same.upd (o:=.lst (R.map V.str)) hl
   have gR:upd H' l (.lst (R.map V.str)) l = some (.lst (R.map V.str)):=z7
   have gz:=s5 _ _ gz
   generalize upd H' l (.lst (R.map V.str)) = H4 at s5 gR gz ⊢
   have s04:=s12.trans (s3.trans s5)
   refine z1i (xs:=R.map V.str) (fun i σ H5=>∃ (b:Str) (v5:Option V),σ = [some (V.ref d),some (V.ref a),some (V.ref pz),v3,some (V.str b),v5] ∧ H5 = H4 ∧ ((i = 0 ∧ b = "") ∨ (b ∈ R.take i ∧ ∀ x ∈ R.take i,z12 (-(ns.count x:Int)) x (-(ns.count b:Int)) b = false))) ⟨_,_,rfl,rfl,.inl ⟨rfl,rfl⟩⟩ ?_ ?_ ?_
   ·rintro i σ H5 - ⟨b,v5,-,rfl,-⟩
    exact SqL.of gR
   ·rintro Pv hP i x σ H5 hx ⟨b,v5,rfl,rfl,hb5⟩
    rw [List.getElem?_map] at hx
    obtain ⟨y,hy,rfl⟩:=Option.map_eq_some_iff.mp hx
    walk_at "rd"
    have hi:i < R.length:=(List.getElem?_eq_some_iff.mp hy).1
    have eR:R[i] = y:=(List.getElem?_eq_some_iff.mp hy).2
    have stp:R.take (i + 1) = R.take i ++ [y]:=by rw [List.take_succ,hy]; rfl
    have low:∀ x ∈ R.take i,y.cps.toList ≤ x.cps.toList:=fun x hx=>by
     obtain ⟨k,hk,e⟩:=List.getElem_of_mem hx
     rw [List.length_take] at hk
     rw [List.getElem_take] at e
     rw [← e,← eR]
     exact List.pairwise_iff_getElem.mp hso k i (by omega) hi (by omega)
    have upd1:(b = "" ∨ ns.count b ≤ ns.count y) → (y ∈ R.take (i + 1) ∧ ∀ x ∈ R.take (i + 1),z12 (-(ns.count x:Int)) x (-(ns.count y:Int)) y = false):=fun hor=>by
     rw [stp]
     refine ⟨by simp,fun x hx=>?_⟩
     rcases List.mem_append.mp hx with hx | hx
     ·rcases hb5 with ⟨rfl,-⟩ | ⟨mb,ab⟩
      ·cases hx
      ·refine zau _ _ _ _ _ _ ?_ (ab x hx)
       have ly:=low b mb
       have hc:ns.count b ≤ ns.count y:=by
        rcases hor with e | h
        ·have:y = b:=by
          have:y.cps.toList = []:=List.le_nil.mp (by rw [e] at ly; exact ly)
          rw [e,show (("" : Str)) = ⟨#[]⟩ by decide +kernel]
          cases y
          simpa using this
         rw [this]
         exact Nat.le_refl _
        ·exact h
       unfold z12
       simp only [Bool.or_eq_false_iff,Bool.and_eq_false_iff,decide_eq_false_iff_not]
       exact ⟨by omega,.inr (List.not_lt.mpr ly)⟩
     ·rw [List.mem_singleton.mp hx]
      exact zdb _ _
    have sq:SqL K H5 pz (ns.map V.str):=SqL.of gz
    by_cases ce:b = ""
    ·rw [if_pos (decide_eq_true ce)]
     exact hP _ _ _ ⟨y,_,rfl,rfl,.inr (upd1 (.inl ce))⟩
    ·rw [if_neg (by simpa using ce)]
     refine ⟨.inl ⟨_,sq⟩,ns,sq,.inl ⟨_,sq⟩,ns,sq,?_⟩
     by_cases cc:(ns.count b:Int) ≤ (ns.count y:Int)
     ·rw [if_pos (decide_eq_true cc)]
      exact hP _ _ _ ⟨y,_,rfl,rfl,.inr (upd1 (.inr (by omega)))⟩
     ·rw [if_neg (by simpa using cc)]
      refine hP _ _ _ ⟨b,_,rfl,rfl,.inr ?_⟩
      rcases hb5 with ⟨-,rfl⟩ | ⟨mb,ab⟩
      ·exact absurd rfl ce
      ·rw [stp]
       refine ⟨List.mem_append_left _ mb,fun x hx=>?_⟩
       rcases List.mem_append.mp hx with hx | hx
       ·exact ab x hx
       ·rw [List.mem_singleton.mp hx]
        unfold z12
        simp only [Bool.or_eq_false_iff,Bool.and_eq_false_iff,decide_eq_false_iff_not]
        exact ⟨by omega,.inl (by omega)⟩
   ·rintro σ H5 ⟨b,v5,rfl,rfl,hb5⟩
    walk_at "rd"
    rw [List.length_map,List.take_length] at hb5
    refine q b _ ?_ s04
    rcases hb5 with ⟨h0,rfl⟩ | ⟨m,a⟩
    ·refine .inl ⟨rfl,fun z=>List.count_eq_zero.mpr fun hz=>?_⟩
     have:=(hmem z).mpr hz
     rw [List.length_eq_zero_iff.mp h0] at this
     cases this
    ·exact .inr ⟨List.count_pos_iff.mpr ((hmem b).mp m),fun z hz=>a z ((hmem z).mpr (List.count_pos_iff.mp hz))⟩
structure Cnt (E:List (Key × V)) (f:Str → Nat):Prop where
 ks:∃ zs:List Str,E.map (·.1) = zs.map Sum.inr
 vl:∀ z,valV E (Sum.inr z:Key) = if 0 < f z then some (.int (f z:Int)) else none
theorem Cnt.nil:Cnt [] fun _=>0:=⟨⟨[],rfl⟩,fun z=>rfl⟩
theorem Cnt.put {E:List (Key × V)} {f:Str → Nat} (h:Cnt E f) (z:Str):Cnt (putK E (Sum.inr z:Key) (.int ((f z:Int) + 1))) (fun x=>if x = z then f x + 1 else f x):=by
 obtain ⟨⟨zs,e⟩,v⟩:=h
 refine ⟨?_,fun x=>?_⟩
 ·unfold putK
  by_cases a:(E.any fun kv=>decide (kv.1 = (Sum.inr z:Key))) = true
  ·rw [if_pos a]
   refine ⟨zs,?_⟩
   rw [← e,List.map_map]
   refine List.map_congr_left fun q _=>?_
   show (if q.1 = (Sum.inr z:Key) then (q.1,(V.int ((f z:Int) + 1))) else q).1 = q.1
   split <;> rfl
  ·rw [if_neg a]
   exact ⟨zs ++ [z],by rw [List.map_append,e,List.map_append]; rfl⟩
 ·rw [zhm]
  by_cases c:x = z
  ·subst c
   simp
  ·have:¬ ((Sum.inr x:Key) = Sum.inr z):=fun h=>c (Sum.inr.inj h)
   rw [if_neg this,v x]
   simp [c]
theorem Cnt.put_len (E:List (Key × V)) (k:Key) (v:V):(putK E k v).length ≤ E.length + 1:=by
 unfold putK
 split
 ·rw [List.length_map]; omega
 ·rw [List.length_append]; exact Nat.le_refl _
theorem Cnt.mem {E:List (Key × V)} {f:Str → Nat} (h:Cnt E f) {zs:List Str} (e:E.map (·.1) = zs.map Sum.inr) (z:Str):z ∈ zs ↔ 0 < f z:=by
 have hv:=h.vl z
 constructor
 ·intro m
  by_cases c:0 < f z
  ·exact c
  ·rw [if_neg c] at hv
   have:=zho hv
   rw [e] at this
   exact absurd (List.mem_map_of_mem m) this
 ·intro c
  rw [if_pos c] at hv
  have:=zja hv
  rw [e] at this
  obtain ⟨y,hy,ey⟩:=List.mem_map.mp this
  exact (Sum.inr.inj ey) ▸ hy
theorem zjn (L:NL) (hd lk:Str) (sh:Bool) (tick:Int) (z:Str):z ∈ z3c L hd lk sh tick ↔ z ∈ ((z28 tick (L.map (·.2))).filter (z1q hd lk sh)).map (·.h):=by
 unfold z3c wayf othf
 rw [← z53]
 simp only [List.mem_map,List.mem_filter,z1q,Bool.and_eq_true,decide_eq_true_eq]
 constructor
 ·rintro ⟨q,⟨⟨h1,h2⟩,h3⟩,h4⟩
  exact ⟨q.2,⟨⟨q,h1,rfl⟩,h2,h3⟩,h4⟩
 ·rintro ⟨x,⟨⟨q,h1,rfl⟩,h2,h3⟩,h4⟩
  exact ⟨q,⟨⟨h1,h2⟩,h3⟩,h4⟩
theorem zha (L:NL) (hd lk:Str) (sh:Bool) (tick:Int):(z3c L hd lk sh tick).length ≤ L.length:=by
 unfold z3c wayf othf z16
 rw [List.length_map]
 exact Nat.le_trans (List.length_filter_le _ _) (Nat.le_trans (List.length_filter_le _ _) (List.length_filter_le _ _))
abbrev tbM (H:Hp) (Pt:Addr):Prop:=TbOk H Pt { line:=140,col:=37,endLine:=140,endCol:=74 } (Str.ofString "Council.named" ++ ".<locals>." ++ "<lambda>")
def zad (CC CK:Addr) (Pt:Addr):Sp:=fun vs H Q _=>∃ (c l:Addr) (ks ls:List Addr) (ss:List KN) (hd lk:Str) (sh:Bool) (tick:Int),vs = [.ref c,.str hd,.str lk,.bl sh,.int tick] ∧ CAt CC CK H c l ks ls ss ∧ z68 ss ∧ hd.length ≤ 1000 ∧ lk.length ≤ 1000 ∧ tbM H Pt ∧
 ∀ (r:Str) (H':Hp),IsNm (cntC ss hd lk sh tick (upl ss ks.length)) r → But1 Pt H H' → tbM H' Pt → Q (.str r) H'
theorem z8g (F:MDefC K y0 "named" "Council.named" z1n ["self","holder","lock","shared","tick"] y9) (T:Txt K mg y0 yd yc y6 yb ya y8 y7 y9) (yh:MHas P w K mg base CX0 4 y6 "names_in_way" ["self","holder","lock","shared","tick"] (z88 y6)) (ye:MHas P w K mg base CX0 1 y0 "up_keepers" ["self"] (z94 y0 y6)) (BA:base.BuiltinsAt mg y7):MHas P w K mg base CX0 5 y0 "named" ["self","holder","lock","shared","tick"] (zad y0 y6 y7):=by
 refine F.ok sc_Council_named (fun vs H Q E h=>?_) (fun f A outer s H vs Q E hr h=>?_)
 ·obtain ⟨c,l,ks,ls,ss,hd,lk,sh,tick,rfl,_⟩:=h
  rfl
 ·obtain ⟨c,l,ks,ls,ss,hd,lk,sh,tick,rfl,hc,hsm,hh,hlk,ht,q⟩:=h
  have hu:=hr.units0
  have hu2:=z3l hr
  refine ⟨_,(@z8 _ _ _ _ _ (@zi _ _ 5 _ _ _ _ sc_Council_named.nd rfl (Or.inr rfl) zc0 rfl (Or.inl rfl)) (@z8 _ _ _ _ _ (@z25 _ _ _ _ _ _ _ _ PassesOwn.never rfl (@z18 _ _ _ _ (@z4n _ _ _ _ _ _ _ _ _ _ _ ye T.cl_Council (hr.mono (by decide)) (pv 0) rfl)) (@z8h _ _ _ _ _ _ rfl (@z1r _ _ _ _ _ (@z15 _ _ 6 _ sc_Council_named.nd rfl (Or.inl rfl) (Or.inr rfl)) (@z1r _ _ _ _ _ (@z15 _ _ 7 _ sc_Council_named.nd rfl (Or.inl rfl) (Or.inr rfl)) z4m rfl) rfl) rfl rfl) (@za _ _ _ (@z25 _ _ _ _ _ _ _ _ PassesOwn.never rfl (@z18 _ _ _ _ (@z20 _ _ _ _ _ _ _ _ _ _ _ _ _ _ yh T.cl_Keeper (hr.mono (by decide)) (pv 7) (@z0 _ _ _ _ _ (pv 1) (@z0 _ _ _ _ _ (pv 2) (@z0 _ _ _ _ _ (pv 3) (@z0 _ _ _ _ _ (pv 4) z6 rfl) rfl) rfl) rfl) rfl rfl rfl)) (@z15 _ _ 8 _ sc_Council_named.nd rfl (Or.inl rfl) (Or.inr rfl)) (@za _ _ _ (@z4o _ _ _ _ _ _ _ _ _ hu2 (pv 5) (pv 8) (@zf _ _ _ _ _ _ _ _ z14 (@zhn _ _ _ _ _ _ _ _ _ hu2 (pv 5) (pv 8) z4 ⟨rfl,rfl,rfl,rfl⟩) z4) rfl)) (by intro _; rfl))) (by intro _; rfl)) (@za _ _ _ (@zl _ _ _ _ (@zgf _ _ _ _ _ _ _ 5 _ _ _ _ _ _ _ _ _ _ _ _ _ _ _ _ (hr.mono (by decide)) rfl rfl T.b_min (@z0 _ _ _ _ _ (@z6l _ _ _ _ _ _ _ _ _ (zer rfl) rfl T.b_list (by decide +kernel) (@z0 _ _ _ _ _ (pv 5) z6 rfl) (by decide) (by decide) rfl rfl) z6 rfl) rfl T.hd_Council_named BA rfl ⟨⟨fun _ _ _ _ _ _=>rfl,rfl,rfl,rfl,by decide +kernel,rfl,by decide +kernel⟩,rfl,by decide +kernel,by decide +kernel⟩ rfl rfl (Or.inr (Or.inl rfl)) (zu rfl) rfl rfl))))),?_⟩
  walk_at "rd"
  intro p hp
  have s1:=Same.upd (o:=.dK []) hp
  have g1:upd H p (.dK []) p = some (.dK []):=z7
  generalize upd H p (.dK []) = H1 at s1 g1 ⊢
  have hc1:=hc.mono s1
  obtain ⟨dx,hob⟩:=hc1.ob
  refine ⟨_,_,hob,z2j _ _ (by decide +kernel) (by decide +kernel),c,l,ks,ls,ss,rfl,hc1,fun r L H2 hL hr0 gr s2=>⟨r,rfl,⟨_,SqL.of gr⟩,?_⟩⟩
  have hsz:=hc.sz
  have hl0:=hL.len
  have g2:=s2 _ _ g1
  have nrp:r ≠ p:=fun e=>by rw [e,g1] at hr0; cases hr0
  have fr:∀ {H':Hp} {b:Addr} {o:HO},But1 p H2 H' → H b = some o → H' b = some o:=fun {H' b o} b1 e=>b1 _ _ (s2 _ _ (s1 _ _ e)) (zc e hp)
  refine z1i (xs:=ptup L) (fun i σ H'=>∃ (E:List (Key × V)) (v6 v7 v8:Option V),σ = [some (V.ref c),some (V.str hd),some (V.str lk),some (V.bl sh),some (V.int tick),some (V.ref p),v6,v7,v8] ∧ H' p = some (.dK E) ∧ E.length ≤ 63 * i ∧ Cnt E (cntC ss hd lk sh tick ((upl ss ks.length).take i)) ∧ But1 p H2 H') ⟨[],_,_,_,rfl,g2,Nat.le_refl _,Cnt.nil,fun b o e _=>e⟩ ?_ ?_ ?_
  ·rintro i σ H' - ⟨E,v6,v7,v8,-,-,-,-,b3⟩
   exact SqL.of (b3 _ _ gr nrp)
  ·rintro Pv hP i x σ H' hx ⟨E,v6,v7,v8,rfl,gE,hE,hCn,b3⟩
   obtain ⟨y,hy,rfl⟩:=z67 hx
   walk_at "rd"
   have my:=List.mem_of_getElem? hy
   have sH:Same H H':=fun b o e=>fr b3 e
   have hty:=b3 _ _ (hL.tu y my) (fun e=>by have:=hL.tu y my; rw [e,g2] at this; cases this)
   obtain ⟨s,l1,hu,hl1,-,Ls,eL,hk⟩:=(hc.mono sH).kp y.2.1 y.2.2 (hL.at_ y my)
   obtain ⟨⟨dk,lk',a1,a2⟩,hn,-⟩:=id hk
   have l62:Ls.length ≤ 62:=by
    have:=hsm s (List.mem_of_getElem? hu)
    rw [← eL,List.length_map] at this
    exact this
   have gi:(upl ss ks.length)[i]? = some y.2.1:=by rw [← hL.mp,List.getElem?_map,hy]; rfl
   refine ⟨_,SqT.of hty,rfl,_,_,rfl,_,_,rfl,rfl,_,rfl,_,_,a1,z3q s.u s.t lk' (by decide +kernel) (by decide +kernel) (by decide +kernel),y.2.2,s.u,s.t,Ls,hd,lk,sh,tick,rfl,hk,by omega,hlk,fun rn zs H3 hrn grn pmz srt s3=>⟨rn,rfl,⟨_,SqL.of grn⟩,?_⟩⟩
   have lzs:zs.length ≤ 62:=by
    have:=pmz.length_eq
    have:=zat (z3c Ls hd lk sh tick)
    have:=zha Ls hd lk sh tick
    omega
   have ndz:zs.Nodup:=pmz.nodup_iff.mpr (zc3 _)
   have mz:∀ x,x ∈ zs ↔ x ∈ z9j ss hd lk sh tick y.2.1:=fun x=>by
    rw [pmz.mem_iff,zen,zjn,eL]
    unfold z9j
    rw [hu]
   have stp:∀ x,cntC ss hd lk sh tick ((upl ss ks.length).take (i + 1)) x = cntC ss hd lk sh tick ((upl ss ks.length).take i) x + if x ∈ zs then 1 else 0:=fun x=>by
    unfold cntC
    rw [List.take_succ,gi,List.filter_append,List.length_append]
    by_cases m:x ∈ zs
    ·rw [if_pos m]
     simp [(mz x).mp m]
    ·rw [if_neg m]
     simp [show ¬ (x ∈ z9j ss hd lk sh tick y.2.1) from fun h=>m ((mz x).mpr h)]
   generalize cntC ss hd lk sh tick ((upl ss ks.length).take i) = f0 at hCn stp
   have hil:i < L.length:=(List.getElem?_eq_some_iff.mp hy).1
   have nrn:rn ≠ p:=fun e=>by rw [e,gE] at hrn; cases hrn
   refine z1i (xs:=zs.map V.str) (fun j σ H4=>∃ (E4:List (Key × V)) (v8:Option V),σ = [some (V.ref c),some (V.str hd),some (V.str lk),some (V.bl sh),some (V.int tick),some (V.ref p),some (V.int (((y.2.1:Nat):Int) + 1)),some (V.ref y.2.2),v8] ∧ H4 p = some (.dK E4) ∧ E4.length ≤ 63 * i + j ∧ Cnt E4 (fun x=>f0 x + if x ∈ zs.take j then 1 else 0) ∧ But1 p H2 H4 ∧ H4 rn = some (.lst (zs.map V.str))) ⟨E,_,rfl,s3 _ _ gE,hE,by simpa using hCn,fun b o e n=>s3 _ _ (b3 _ _ e n),grn⟩ ?_ ?_ ?_
   ·rintro j σ H4 - ⟨E4,v8,-,-,-,-,-,g4⟩
    exact SqL.of g4
   ·rintro Pw hW j x σ H4 hx ⟨E4,v8,rfl,g4,l4,c4,b4,gn4⟩
    rw [List.getElem?_map] at hx
    obtain ⟨z,hz,rfl⟩:=Option.map_eq_some_iff.mp hx
    have hj:j < zs.length:=(List.getElem?_eq_some_iff.mp hz).1
    have nz:z ∉ zs.take j:=fun hm=>by
     obtain ⟨k,hk,e⟩:=List.getElem_of_mem hm
     rw [List.length_take] at hk
     have e2:zs[k]? = some z:=by rw [List.getElem_take] at e; rw [List.getElem?_eq_getElem (by omega),e]
     have:=(List.getElem?_inj (by omega) ndz).mp (e2.trans hz.symm)
     omega
    walk_at "rd"
    have hv:=c4.vl z
    rw [if_neg nz] at hv
    refine ⟨.inl ⟨_,.inl g4⟩,_,DGet.k (k:=Sum.inr z) g4,?_⟩
    rw [hv]
    have eg:(if 0 < f0 z + 0 then some (V.int ((f0 z + 0:Nat):Int)) else none).getD (V.int 0) = V.int (f0 z:Int):=by
     by_cases c0:0 < f0 z
     ·rw [if_pos (by omega)]; rfl
     ·rw [if_neg (by omega),show f0 z = 0 by omega]; rfl
    refine ⟨_,eg,_,DPut.k (k:=Sum.inr z) g4 (Nat.lt_of_lt_of_le (by omega:_ < 1000000) (zd (Nat.le_refl _))),hW _ _ _ ⟨_,_,rfl,z7,?_,?_,fun b o e n=>by rw [z9 n]; exact b4 _ _ e n,by rw [z9 nrn]; exact gn4⟩⟩
    ·have:=Cnt.put_len E4 (Sum.inr z:Key) (.int ((f0 z:Int) + 1))
     omega
    ·have cp:=c4.put z
     rw [if_neg nz] at cp
     have ef:(fun x=>if x = z then (f0 x + if x ∈ zs.take j then 1 else 0) + 1 else f0 x + if x ∈ zs.take j then 1 else 0) = fun x=>f0 x + if x ∈ zs.take (j + 1) then 1 else 0:=by
      funext x
      have et:zs.take (j + 1) = zs.take j ++ [z]:=by rw [List.take_succ,hz]; rfl
      by_cases ex:x = z
      ·subst ex
       rw [if_pos rfl,if_neg nz,et,if_pos (by simp)]
      ·rw [if_neg ex,et]
       simp [ex]
     rw [ef] at cp
     exact cp
   ·rintro σ H4 ⟨E4,v8,rfl,g4,l4,c4,b4,gn4⟩
    rw [List.length_map,List.take_length] at c4
    rw [List.length_map] at l4
    refine hP _ _ _ ⟨E4,_,_,_,rfl,g4,by omega,?_,b4⟩
    rw [show cntC ss hd lk sh tick ((upl ss ks.length).take (i + 1)) = _ from funext stp]
    exact c4
  ·rintro σ H' ⟨E,v6,v7,v8,rfl,gE,hE,hCn,b3⟩
   walk_at "rd"
   rw [z42,← hL.take,List.take_length,hL.mp] at hCn
   obtain ⟨zs,ez⟩:=hCn.ks
   refine ⟨E,gE,zs,ez,fun lz hlz=>?_⟩
   have s4:=Same.upd (o:=.lst (zs.map V.str)) hlz
   have gl:upd H' lz (.lst (zs.map V.str)) lz = some (.lst (zs.map V.str)):=z7
   generalize upd H' lz (.lst (zs.map V.str)) = H4 at s4 gl ⊢
   have sH:Same H H4:=fun b o e=>s4 _ _ (fr b3 e)
   have hm:=hCn.mem ez
   refine ⟨p,zs,SqL.of gl,rfl,E,s4 _ _ gE,fun z=>(cntC ss hd lk sh tick (upl ss ks.length) z:Int),fun z hz=>?_,TbOk.mono ht sH,fun H5 b5 t5=>⟨fun e=>?_,fun z hz ha=>?_⟩⟩
   ·rw [hCn.vl,if_pos ((hm z).mp hz)]
   ·refine q _ _ (.inl ⟨rfl,fun z=>?_⟩) (fun b o e n=>b5 _ _ (sH _ _ e) n) t5
    have:=(not_congr (hm z)).mp (by rw [e]; exact List.not_mem_nil)
    omega
   ·exact q _ _ (.inr ⟨(hm z).mp hz,fun x hx=>ha x ((hm x).mpr hx)⟩) (fun b o e n=>b5 _ _ (sH _ _ e) n) t5
theorem z9k {K:PySem.W.Frag} {CC CK:Addr} {H:Hp} {c l:Addr} {ks ls:List Addr} {ss:List KN} {d:Addr} {S:Sv} {u:Su} {i:Nat} {Pt pa:Addr} {hd lk:Str} {sh:Bool} {z tm:Int} {QQ:V → V → Hp → Prop} {E1 E2 E3:XK} (D:Day CC CK H c l ks ls ss d S u i) (hok:u.ok) (hi:i ≤ 60) (T:tbM H Pt) (ga:H pa = some (.tup [.int z,.str hd,.str lk,.bl sh,.int tm])) (hh:hd.length ≤ 1000) (hl:lk.length ≤ 1000)
  (q:∀ (r:Str) (H9:Hp),(∀ b o,H b = some o → (∀ ps,o ≠ .tbl ps) → H9 b = some o) → tbM H9 Pt → QQ (.str r) (.bl true) H9) :
  zad CC CK Pt [.ref c,.str hd,.str lk,.bl sh,.int S.now] H (fun x H1=>z8f K [.ref d,.ref pa] H1 (fun y H2=>z2o 3 [x,y] H2 (fun z H3=>QQ x z H3) E3) E2) E1:=by
 refine ⟨c,l,ks,ls,ss,hd,lk,sh,S.now,rfl,D.ca,fun s hs=>by have:=D.sb.nS s hs; omega,hh,hl,T,fun r H1 hr b1 T1=>?_⟩
 have k1:∀ b o,H b = some o → (∀ ps,o ≠ .tbl ps) → H1 b = some o:=fun b o e n=>b1 b o e fun z=>by
  obtain ⟨ps,t⟩:=T.some
  rw [z,t] at e
  cases e
  exact n _ rfl
 have D1:=D.keep k1
 refine ⟨d,pa,S,u,z,hd,lk,sh,tm,rfl,D1.st,k1 _ _ ga (fun _ y=>by cases y),hl,D1.say hok hi,D1.nh,fun r2 H2 hr2 s2=>?_⟩
 rw [show (fun x=>(z3s S hd lk sh (upL S.us)).count x) = cntC ss hd lk sh S.now (upl ss u.n) from funext fun x=>D.rl.named hd lk sh x,← D.kn] at hr2
 obtain rfl:=hr.one hr2
 exact ⟨_,_,rfl,.inl ⟨rfl,.inr (.inl ⟨_,rfl⟩)⟩,fun H3 s3=>q r H3 (fun b o e n=>s3 _ _ (s2 _ _ (k1 b o e n))) (T1.mono (s2.trans s3))⟩
def spLaw (ts:List Addr) (K:PySem.W.Frag):Sp:=fun vs H Q _=>∃ (a:Addr) (ns:List Int),vs = [.ref a] ∧ SqL K H a (ns.map V.int) ∧ ns.length ≤ 63 ∧ (∀ t ∈ ts,H t = some (.tbl #[])) ∧ ∀ H',Q (.bl true) H'
theorem zkg (F:Def K mg "law" z7d ["_law_script"]) (T:Txt K mg y0 yd yc y6 yb ya y8 y7 y9) (yt:KHas P w K mg base 3 y0 ["self","many"] (zdr y0 y6)) (yr:MHas P w K mg base CX0 5 y0 "named" ["self","holder","lock","shared","tick"] (zad y0 y6 y7)) (yg:Has P w K mg base 4 "_law_same" ["_law_found","_law_due"] (z2o 3)) (y18:Has P w K mg base 3 "_law_setup" ["_law_script"] (zdu K)) (yo:Has P w K mg base 1 "_law_asked" ["_law_rest","_law_k","_law_setup_here"] (za8)) (y1e:Has P w K mg base 1 "_law_new" ["_law_setup_here"] (ziq)) (yq:Has P w K mg base 9 "_law_council_deed" ["_law_council","_law_state","_law_cell","_law_k"] (zh6 y0 y6)) (yx:Has P w K mg base 4 "_law_named" ["_law_state","_law_asking"] (z8f K)) (mt_Council_named:y7 ∈ ts):Has P w K mg base 10 "law" ["_law_script"] (spLaw ts K):=by
 refine F.ok sc_law (fun vs H Q E h=>?_) (fun f cdv A outer s H vs Q E hr h=>?_)
 ·obtain ⟨a,ns,rfl,_⟩:=h
  rfl
 ·obtain ⟨a,ns,rfl,ha,hns,hts,q⟩:=h
  have hu:=hr.units0
  have hu2:=z3l hr
  refine ⟨_,(@z8 _ _ _ _ _ (@zi _ _ 1 _ _ _ _ sc_law.nd rfl (Or.inl rfl) (@zp _ _ _ _ _ _ _ _ _ _ y18 (hr.mono (by decide)) rfl (@z0 _ _ _ _ _ (pv 0) z6 rfl) (by decide) rfl rfl) rfl (Or.inr rfl)) (@z8 _ _ _ _ _ (@zi _ _ 2 _ _ _ _ sc_law.nd rfl (Or.inl rfl) (@zjb _ _ _ _ _ _ _ _ _ _ _ yt (hr.mono (by decide)) rfl T.g_Council (@z0 _ _ _ _ _ (@zh _ _ _ _ _ _ _ ix_tup (pv 1) z4 (fun _ _=>rfl)) z6 rfl) (by decide) rfl rfl) rfl (Or.inr rfl)) (@z8 _ _ _ _ _ (@zi _ _ 3 _ _ _ _ sc_law.nd rfl (Or.inl rfl) (@zp _ _ _ _ _ _ _ _ _ _ y1e (hr.mono (by decide)) rfl (@z0 _ _ _ _ _ (pv 1) z6 rfl) (by decide) rfl rfl) rfl (Or.inr rfl)) (@z8 _ _ _ _ _ (@z25 _ _ _ _ _ _ _ _ PassesOwn.never rfl (@zfa _ _ _ _ _ _ _ rfl T.b_range (@z0 _ _ _ _ _ z4 (@z0 _ _ _ _ _ (@zg _ _ _ _ _ _ _ _ _ zq rfl T.b_len (by decide +kernel) (@z0 _ _ _ _ _ (pv 0) z6 rfl) (by decide) (by decide) rfl rfl) z6 rfl) rfl) rfl rfl) (@z15 _ _ 4 _ sc_law.nd rfl (Or.inl rfl) (Or.inr rfl)) (@z8 _ _ _ _ _ (@zy _ _ _ _ _ _ _ _ (@z3i _ _ _ _ (@z1k _ _ _ (@zp _ _ _ _ _ _ _ _ _ _ yq (hr.mono (by decide)) rfl (@z0 _ _ _ _ _ (pv 2) (@z0 _ _ _ _ _ (pv 3) (@z0 _ _ _ _ _ (@zh _ _ _ _ _ _ _ ix_list (pv 0) (pv 4) (fun _ _=>rfl)) (@z0 _ _ _ _ _ (pv 4) z6 rfl) rfl) rfl) rfl) (by decide) rfl rfl) (by intro _; rfl))) (@za _ _ _ (@zl _ _ _ _ z22)) zo) (@z8 _ _ _ _ _ (@zi _ _ 5 _ _ _ _ sc_law.nd rfl (Or.inl rfl) (@zp _ _ _ _ _ _ _ _ _ _ yo (hr.mono (by decide)) rfl (@z0 _ _ _ _ _ (@zf _ _ _ _ _ _ _ _ z19 (@zh _ _ _ _ _ _ _ ix_list (pv 0) (pv 4) (fun _ _=>rfl)) z4) (@z0 _ _ _ _ _ (@zf _ _ _ _ _ _ _ _ z14 (pv 4) z4) (@z0 _ _ _ _ _ (pv 1) z6 rfl) rfl) rfl) (by decide) rfl rfl) rfl (Or.inr rfl)) (@z8 _ _ _ _ _ (@zi _ _ 6 _ _ _ _ sc_law.nd rfl (Or.inl rfl) (@z1l _ _ _ _ _ (@z0 _ _ _ _ _ (@zx _ _ _ _ _ _ hu2 (pv 3) zj (fun _ _=>rfl)) (@z0 _ _ _ _ _ (@zh _ _ _ _ _ _ _ ix_tup (pv 5) z4 (fun _ _=>rfl)) (@z0 _ _ _ _ _ (@zh _ _ _ _ _ _ _ ix_tup (pv 5) z4 (fun _ _=>rfl)) (@z0 _ _ _ _ _ (@zh _ _ _ _ _ _ _ ix_tup (pv 5) z4 (fun _ _=>rfl)) (@z0 _ _ _ _ _ (@zh _ _ _ _ _ _ _ ix_tup (pv 5) z4 (fun _ _=>rfl)) z6 rfl) rfl) rfl) rfl) rfl)) rfl (Or.inr rfl)) (@z8 _ _ _ _ _ (@zi _ _ 7 _ _ _ _ sc_law.nd rfl (Or.inl rfl) (@z20 _ _ _ _ _ _ _ _ _ _ _ _ _ _ yr T.cl_Council (hr.mono (by decide)) (pv 2) (@z0 _ _ _ _ _ (@zh _ _ _ _ _ _ _ ix_tup (pv 5) z4 (fun _ _=>rfl)) (@z0 _ _ _ _ _ (@zh _ _ _ _ _ _ _ ix_tup (pv 5) z4 (fun _ _=>rfl)) (@z0 _ _ _ _ _ (@zh _ _ _ _ _ _ _ ix_tup (pv 5) z4 (fun _ _=>rfl)) (@z0 _ _ _ _ _ (@zx _ _ _ _ _ _ hu2 (pv 3) zj (fun _ _=>rfl)) z6 rfl) rfl) rfl) rfl) rfl rfl rfl) rfl (Or.inr rfl)) (@za _ _ _ (@zy _ _ _ _ _ _ _ _ (@z3i _ _ _ _ (@z1k _ _ _ (@zp _ _ _ _ _ _ _ _ _ _ yg (hr.mono (by decide)) rfl (@z0 _ _ _ _ _ (pv 7) (@z0 _ _ _ _ _ (@zp _ _ _ _ _ _ _ _ _ _ yx (hr.mono (by decide)) rfl (@z0 _ _ _ _ _ (pv 3) (@z0 _ _ _ _ _ (pv 6) z6 rfl) rfl) (by decide) rfl rfl) z6 rfl) rfl) (by decide) rfl rfl) (by intro _; rfl))) (@za _ _ _ (@zl _ _ _ _ z22)) zo)))))) (by intro _; rfl)) (@z8 _ _ _ _ _ (@z25 _ _ _ _ _ _ _ _ PassesOwn.never rfl (@z18 _ _ _ _ (@zh _ _ _ _ _ _ _ ix_tup (pv 1) z4 (fun _ _=>rfl))) (@z15 _ _ 8 _ sc_law.nd rfl (Or.inl rfl) (Or.inr rfl)) (@z8 _ _ _ _ _ (@zi _ _ 6 _ _ _ _ sc_law.nd rfl (Or.inl rfl) (@z1l _ _ _ _ _ (@z0 _ _ _ _ _ (@zx _ _ _ _ _ _ hu2 (pv 3) zj (fun _ _=>rfl)) (@z0 _ _ _ _ _ (@zh _ _ _ _ _ _ _ ix_list (@zh _ _ _ _ _ _ _ ix_tup (pv 1) z4 (fun _ _=>rfl)) z4 (fun _ _=>rfl)) (@z0 _ _ _ _ _ (pv 8) (@z0 _ _ _ _ _ z22 (@z0 _ _ _ _ _ z4 z6 rfl) rfl) rfl) rfl) rfl)) rfl (Or.inr rfl)) (@z8 _ _ _ _ _ (@zi _ _ 7 _ _ _ _ sc_law.nd rfl (Or.inl rfl) (@z20 _ _ _ _ _ _ _ _ _ _ _ _ _ _ yr T.cl_Council (hr.mono (by decide)) (pv 2) (@z0 _ _ _ _ _ (@zh _ _ _ _ _ _ _ ix_list (@zh _ _ _ _ _ _ _ ix_tup (pv 1) z4 (fun _ _=>rfl)) z4 (fun _ _=>rfl)) (@z0 _ _ _ _ _ (pv 8) (@z0 _ _ _ _ _ z22 (@z0 _ _ _ _ _ (@zx _ _ _ _ _ _ hu2 (pv 3) zj (fun _ _=>rfl)) z6 rfl) rfl) rfl) rfl) rfl rfl rfl) rfl (Or.inr rfl)) (@za _ _ _ (@zy _ _ _ _ _ _ _ _ (@z3i _ _ _ _ (@z1k _ _ _ (@zp _ _ _ _ _ _ _ _ _ _ yg (hr.mono (by decide)) rfl (@z0 _ _ _ _ _ (pv 7) (@z0 _ _ _ _ _ (@zp _ _ _ _ _ _ _ _ _ _ yx (hr.mono (by decide)) rfl (@z0 _ _ _ _ _ (pv 3) (@z0 _ _ _ _ _ (pv 6) z6 rfl) rfl) (by decide) rfl rfl) z6 rfl) rfl) (by decide) rfl rfl) (by intro _; rfl))) (@za _ _ _ (@zl _ _ _ _ z22)) zo)))) (by intro _; rfl)) (@za _ _ _ (@zl _ _ _ _ z22))))))),?_⟩
  walk_at "rd"
  refine ⟨a,ns,rfl,ha,hns,fun ps u H1 hS hok s1=>?_⟩
  have n5:=hok.n5
  have n1:=hok.n1
  have l1:=hok.l1
  have l10:=hok.l10
  refine ⟨_,_,_,_,rfl,rfl,SqT.of hS.tu,zb (j:=0) rfl,fun c dx hc0 hdx ndx=>?_⟩
  refine ⟨c,dx,u.n,rfl,by omega,z7,fun l ks ls H3 hkl hca hb hk0 hl0 hll0=>⟨rfl,?_⟩⟩
  have s13:Same H1 H3:=fun b o e=>hb b o (by rw [z9 (zc e hc0),z9 (zc e hdx)]; exact e) (zc e hc0)
  refine ⟨ps,u,rfl,hS.mono s13,hok,fun d S H4 st eps enow eus ets eN eC eL hd0 hl4 s4=>?_⟩
  have s14:=s13.trans s4
  have A4:AP K a d (ns.map V.int) H4 S:=AP.start (s1.seq ha) s14 (zv s13 hd0) (fun p hp=>zv s13 (hl4 p hp))
  have D4:Day y0 y6 H4 c l ks ls (z3r u.n) d S u 0:=by
   refine ⟨hca.mono s4,st,zh7 eus ets eN,hkl,⟨by rw [eN]; exact Nat.le_refl _,fun s hs=>?_,by rw [eC]; exact Nat.le_refl _,by rw [eL]; exact Nat.le_refl _,fun z hz=>by rw [eN] at hz; cases hz⟩,fun p hp=>⟨fun e=>?_,fun h=>?_⟩,fun z hz=>by rw [eN] at hz; cases hz⟩
   ·rw [List.eq_of_mem_replicate hs]
    exact Nat.le_refl _
   ·have:=hl4 p hp
    rw [e,hca.li] at this; cases this
   ·obtain ⟨xs,z⟩:=hca.lsome h
    rw [hl4 p hp] at z; cases z
  have T4:tbM H4 y7:=TbOk.mono (.inl (hts _ mt_Council_named)) (s1.trans s14)
  refine ⟨_,.inl A4.sq,_,_,⟨rfl,rfl⟩,⟨by decide,by decide,by rw [List.length_map]; omega,by rw [List.length_map]; omega⟩,?_⟩
  rw [List.length_map]
  refine z59 (fun i σ H'=>∃ (ls':List Addr) (ss':List KN) (S':Sv) (v4 v5 v6 v7 v8:Option V),σ = [some (V.ref a),some (V.ref ps),some (V.ref c),some (V.ref d),v4,v5,v6,v7,v8] ∧ Day y0 y6 H' c l ks ls' ss' d S' u i ∧ S'.ps = ps ∧ AP K a d (ns.map V.int) H' S' ∧ tbM H' y7) ⟨ls,_,S,none,none,none,none,none,rfl,D4,eps,A4,T4⟩ ?_ ?_
  ·rintro Pv hP i σ H' hi ⟨ls',ss',S',v4,v5,v6,v7,v8,rfl,hD,eps',hA,hT⟩
   have hi63:5 + i < ns.length:=by omega
   have gc:(ns.map V.int)[5 + i]? = some (.int ns[5 + i]):=by rw [List.getElem?_map,List.getElem?_eq_getElem hi63]; rfl
   generalize ns[5 + i] = cell at gc
   have e5:(5:Int) + (i:Int) = ((5 + i:Nat):Int):=by omega
   walk_at "rd"
   simp only [e5]
   refine ⟨_,_,_,_,rfl,rfl,hA.sq,zb gc,?_⟩
   refine ⟨c,l,ks,ls',ss',d,S',u,i,cell,5 + i,rfl,hD,hok,by omega,fun ls5 ss5 S5 H5 D5 ep5 l5 f5=>⟨true,rfl,?_⟩⟩
   rw [if_neg (by decide)]
   have A5:=hA.step hD.ca l5 f5
   have T5:=zjm hT hD f5
   have ep5':S5.ps = ps:=by rw [ep5,eps']
   have su5:=D5.st.su
   rw [ep5'] at su5
   have n5':i + 1 ≤ 60:=by omega
   have sP:=D5.say hok n5'
   refine ⟨_,_,_,_,rfl,rfl,A5.sq,zb gc,?_⟩
   refine ⟨_,rfl,cdiv (by decide) (by decide),_,_,_,u,rfl,su5,hok,fun r6 hd lk sh tm H6 mhd mlk tm1 tm2 g6 s6=>?_⟩
   have D6:=D5.mono s6
   have lkl:=hok.ll lk mlk
   have hdl:=hok.hl hd mhd
   have i6:∀ H',Same H6 H' → SqT K H' r6 [.str "ask",.str hd,.str lk,.bl sh,.int tm]:=fun H' s=>SqT.of (s _ _ g6)
   have i6':=i6 _ (Same.refl _)
   refine ⟨_,z2p D6.st.st,_,_,_,_,rfl,rfl,i6',zb (j:=1) rfl,_,_,_,_,rfl,rfl,i6',zb (j:=2) rfl,_,_,_,_,rfl,rfl,i6',zb (j:=3) rfl,_,_,_,_,rfl,rfl,i6',zb (j:=4) rfl,zd (by decide),fun pa hpa=>?_⟩
   have s7:=Same.upd (o:=.tup [V.int S5.now,V.str hd,V.str lk,V.bl sh,V.int tm]) hpa
   have g7:upd H6 pa (.tup [V.int S5.now,V.str hd,V.str lk,V.bl sh,V.int tm]) pa = some (.tup [V.int S5.now,V.str hd,V.str lk,V.bl sh,V.int tm]):=z7
   generalize upd H6 pa (.tup [V.int S5.now,V.str hd,V.str lk,V.bl sh,V.int tm]) = H7 at s7 g7 ⊢
   have D7:=D6.mono s7
   have A7:=A5.mono (s6.trans s7)
   have T7:=T5.mono (s6.trans s7)
   have i7:=i6 _ s7
   obtain ⟨dx7,hob⟩:=D7.ca.ob
   refine ⟨_,_,hob,z2j _ _ (by decide +kernel) (by decide +kernel),_,_,_,_,rfl,rfl,i7,zb (j:=1) rfl,_,_,_,_,rfl,rfl,i7,zb (j:=2) rfl,_,_,_,_,rfl,rfl,i7,zb (j:=3) rfl,_,z2p D7.st.st,?_⟩
   refine z9k (QQ:=fun x z H3=>∃ c_1,z = V.bl c_1 ∧ if (!c_1) = true then Q (V.bl false) H3 else _) D7 hok n5' T7 g7 (by omega) (by omega) fun r H9 k9 T9=>⟨true,rfl,?_⟩
   rw [if_neg (by decide)]
   exact hP _ _ _ ⟨ls5,ss5,S5,_,_,_,_,_,rfl,D7.keep k9,ep5',A7.keep k9,T9⟩
  rintro σ H' ⟨ls',ss',S',v4,v5,v6,v7,v8,rfl,hD,eps',hA,hT⟩
  walk_at "rd"
  have hi60:(ns.length - 5:Int).toNat ≤ 60:=by omega
  generalize (ns.length - 5:Int).toNat = i at hD hi60
  have su:=hD.st.su
  rw [eps'] at su
  have h1:=hok.h1
  refine ⟨_,_,_,_,rfl,rfl,SqT.of su.tu,zb (j:=2) rfl,_,rfl,⟨_,SqL.of su.gl⟩,?_⟩
  refine z1i (xs:=u.lks.map V.str) (fun j σ H7=>∃ v6 v7 v8:Option V,σ = [some (V.ref a),some (V.ref ps),some (V.ref c),some (V.ref d),v4,v5,v6,v7,v8] ∧ Day y0 y6 H7 c l ks ls' ss' d S' u i ∧ tbM H7 y7) ⟨_,_,_,rfl,hD,hT⟩ ?_ ?_ ?_
  ·rintro j σ H7 - ⟨v6,v7,v8,-,D7,-⟩
   exact SqL.of D7.st.su.gl
  ·rintro Pv hP j x σ H7 hx ⟨v6,v7,v8,rfl,D7,T7⟩
   rw [List.getElem?_map] at hx
   obtain ⟨lk,hlk,rfl⟩:=Option.map_eq_some_iff.mp hx
   walk_at "rd"
   have su7:=D7.st.su
   rw [eps'] at su7
   have gh0:(u.hs.map V.str)[0]? = some (.str u.hs[0]):=by rw [List.getElem?_map,List.getElem?_eq_getElem (by omega)]; rfl
   have hdl:=hok.hl _ (List.getElem_mem (show 0 < u.hs.length by omega))
   generalize u.hs[0] = hd at gh0 hdl
   have lkl:=hok.ll lk (List.mem_of_getElem? hlk)
   refine ⟨_,z2p D7.st.st,_,_,_,_,rfl,rfl,SqT.of su7.tu,zb (j:=1) rfl,_,_,_,_,rfl,rfl,SqL.of su7.gh,zb (j:=0) gh0,zd (by decide),fun pa hpa=>?_⟩
   have s8:=Same.upd (o:=.tup [V.int S'.now,V.str hd,V.str lk,V.bl false,V.int 1]) hpa
   have g8:upd H7 pa (.tup [V.int S'.now,V.str hd,V.str lk,V.bl false,V.int 1]) pa = some (.tup [V.int S'.now,V.str hd,V.str lk,V.bl false,V.int 1]):=z7
   generalize upd H7 pa (.tup [V.int S'.now,V.str hd,V.str lk,V.bl false,V.int 1]) = H8 at s8 g8 ⊢
   have D8:=D7.mono s8
   have T8:=T7.mono s8
   have su8:=su7.mono s8
   obtain ⟨dx8,hob⟩:=D8.ca.ob
   refine ⟨_,_,hob,z2j _ _ (by decide +kernel) (by decide +kernel),_,_,_,_,rfl,rfl,SqT.of su8.tu,zb (j:=1) rfl,_,_,_,_,rfl,rfl,SqL.of su8.gh,zb (j:=0) gh0,_,z2p D8.st.st,?_⟩
   refine z9k (QQ:=fun x z H3=>∃ c_1,z = V.bl c_1 ∧ if (!c_1) = true then Q (V.bl false) H3 else _) D8 hok hi60 T8 g8 (by omega) (by omega) fun r H9 k9 T9=>⟨true,rfl,?_⟩
   rw [if_neg (by decide)]
   exact hP _ _ _ ⟨_,_,_,rfl,D8.keep k9,T9⟩
  ·rintro σ H7 ⟨v6,v7,v8,rfl,D7,T7⟩
   walk_at "rd"
   exact q _
end
theorem all_mk {l:PySem.W.OpenLaw} {w:World} {K:PySem.W.Frag} {h:Heap} {mg:Str → Option Value} {fa:Addr} (X:K.In h) (G:h.Ns mainGlobals mg) (hfa:mg "law" = some (.ref fa))
  {y0:Addr}
  {yd:Addr}
  {yc:Addr}
  {y6:Addr}
  {yb:Addr}
  {ya:Addr}
  {y8:Addr}
  {y7:Addr}
  {y9:Addr}
  {ts:List Addr}
  (y_b_all:PySem.W.nsIn K mainGlobals "all" = some none)
  (y_b_bool:PySem.W.nsIn K mainGlobals "bool" = some none)
  (y_b_enumerate:PySem.W.nsIn K mainGlobals "enumerate" = some none)
  (y_b_int:PySem.W.nsIn K mainGlobals "int" = some none)
  (y_b_isinstance:PySem.W.nsIn K mainGlobals "isinstance" = some none)
  (y_b_len:PySem.W.nsIn K mainGlobals "len" = some none)
  (y_b_list:PySem.W.nsIn K mainGlobals "list" = some none)
  (y_b_max:PySem.W.nsIn K mainGlobals "max" = some none)
  (y_b_min:PySem.W.nsIn K mainGlobals "min" = some none)
  (y_b_range:PySem.W.nsIn K mainGlobals "range" = some none)
  (y_b_set:PySem.W.nsIn K mainGlobals "set" = some none)
  (y_b_sorted:PySem.W.nsIn K mainGlobals "sorted" = some none)
  (y_b_str:PySem.W.nsIn K mainGlobals "str" = some none)
  (y_b_tuple:PySem.W.nsIn K mainGlobals "tuple" = some none)
  (y_g_Council:PySem.W.nsIn K mainGlobals "Council" = some (some (.ref y0)))
  (y_g_Down:PySem.W.nsIn K mainGlobals "Down" = some (some (.ref yd)))
  (y_g_InTheWay:PySem.W.nsIn K mainGlobals "InTheWay" = some (some (.ref yc)))
  (y_g_Keeper:PySem.W.nsIn K mainGlobals "Keeper" = some (some (.ref y6)))
  (y_g_NotFree:PySem.W.nsIn K mainGlobals "NotFree" = some (some (.ref yb)))
  (y_g_OldNumber:PySem.W.nsIn K mainGlobals "OldNumber" = some (some (.ref ya)))
  (y_g_UnknownKeeper:PySem.W.nsIn K mainGlobals "UnknownKeeper" = some (some (.ref y8)))
  (y_pg_Council:PySem.W.plainGet K y0 Str.empty = true)
  (y_hd_Council:PySem.W.hasDictIn K y0 = true)
  (y_po_Council:PySem.W.plainOver K y0 = true)
  (y_sa_Council:PySem.W.findIn K (.ref y0) "__setattr__" = some (some (.builtin "object.__setattr__")))
  (y_n_Council_keepers:PySem.W.findIn K (.ref y0) "keepers" = some none)
  (y_n_Council_most:PySem.W.findIn K (.ref y0) "most" = some none)
  (y_pg_Keeper:PySem.W.plainGet K y6 Str.empty = true)
  (y_hd_Keeper:PySem.W.hasDictIn K y6 = true)
  (y_po_Keeper:PySem.W.plainOver K y6 = true)
  (y_sa_Keeper:PySem.W.findIn K (.ref y6) "__setattr__" = some (some (.builtin "object.__setattr__")))
  (y_n_Keeper_up:PySem.W.findIn K (.ref y6) "up" = some none)
  (y_n_Keeper_top:PySem.W.findIn K (.ref y6) "top" = some none)
  (y_n_Keeper_kept:PySem.W.findIn K (.ref y6) "kept" = some none)
  (y_x_Down:PySem.W.excIn K yd [.type "ValueError",.type "Exception",.type "BaseException",.type "object"] "ValueError.__new__" = true)
  (y_x_InTheWay:PySem.W.excIn K yc [.type "ValueError",.type "Exception",.type "BaseException",.type "object"] "ValueError.__new__" = true)
  (y_x_NotFree:PySem.W.excIn K yb [.type "ValueError",.type "Exception",.type "BaseException",.type "object"] "ValueError.__new__" = true)
  (y_x_OldNumber:PySem.W.excIn K ya [.type "ValueError",.type "Exception",.type "BaseException",.type "object"] "ValueError.__new__" = true)
  (y_x_UnknownKeeper:PySem.W.excIn K y8 [.type "ValueError",.type "Exception",.type "BaseException",.type "object"] "ValueError.__new__" = true)
  (y_sb_Down_NotFree:PySem.W.subIn K (.ref yd) (.ref yb) = some false)
  (y_sb_InTheWay_NotFree:PySem.W.subIn K (.ref yc) (.ref yb) = some false)
  (y_sb_NotFree_NotFree:PySem.W.subIn K (.ref yb) (.ref yb) = some true)
  (y_sb_OldNumber_NotFree:PySem.W.subIn K (.ref ya) (.ref yb) = some false)
  (y_sb_UnknownKeeper_NotFree:PySem.W.subIn K (.ref y8) (.ref yb) = some false)
  {f0:Addr} {d0:FuncData}
  (a0:W.nsIn K mainGlobals "within" = some (some (.ref f0)))
  (F0:Fun K "within" "within" z85 f0 d0)
  {f1:Addr} {d1:FuncData}
  (a1:W.nsIn K mainGlobals "on_line" = some (some (.ref f1)))
  (F1:Fun K "on_line" "on_line" z6x f1 d1)
  {f2:Addr} {d2:FuncData}
  (a2:W.nsIn K mainGlobals "in_way" = some (some (.ref f2)))
  (F2:Fun K "in_way" "in_way" z86 f2 d2)
  {f3:Addr} {d3:FuncData}
  (a3:W.findIn K (.ref y6) "__init__" = some (some (.ref f3))) (i3:W.isFn K (.ref f3) = true)
  (F3:Fun K "__init__" "Keeper.__init__" z37 f3 d3)
  {f4:Addr} {d4:FuncData}
  (a4:W.findIn K (.ref y6) "fall" = some (some (.ref f4))) (i4:W.isFn K (.ref f4) = true)
  (F4:Fun K "fall" "Keeper.fall" z4b f4 d4)
  {f5:Addr} {d5:FuncData}
  (a5:W.findIn K (.ref y6) "rise" = some (some (.ref f5))) (i5:W.isFn K (.ref f5) = true)
  (F5:Fun K "rise" "Keeper.rise" z4c f5 d5)
  {f6:Addr} {d6:FuncData}
  (a6:W.findIn K (.ref y6) "live" = some (some (.ref f6))) (i6:W.isFn K (.ref f6) = true)
  (F6:Fun K "live" "Keeper.live" z4d f6 d6)
  {f7:Addr} {d7:FuncData}
  (a7:W.findIn K (.ref y6) "names_in_way" = some (some (.ref f7))) (i7:W.isFn K (.ref f7) = true)
  (F7:Fun K "names_in_way" "Keeper.names_in_way" z2m f7 d7)
  {f8:Addr} {d8:FuncData}
  (a8:W.findIn K (.ref y6) "says_free" = some (some (.ref f8))) (i8:W.isFn K (.ref f8) = true)
  (F8:Fun K "says_free" "Keeper.says_free" z31 f8 d8)
  {f9:Addr} {d9:FuncData}
  (a9:W.findIn K (.ref y6) "take" = some (some (.ref f9))) (i9:W.isFn K (.ref f9) = true)
  (F9:Fun K "take" "Keeper.take" z4e f9 d9)
  {f10:Addr} {d10:FuncData}
  (a10:W.findIn K (.ref y6) "drop" = some (some (.ref f10))) (i10:W.isFn K (.ref f10) = true)
  (F10:Fun K "drop" "Keeper.drop" z4f f10 d10)
  {f11:Addr} {d11:FuncData}
  (a11:W.findIn K (.ref y0) "__init__" = some (some (.ref f11))) (i11:W.isFn K (.ref f11) = true)
  (F11:Fun K "__init__" "Council.__init__" z32 f11 d11)
  {f12:Addr} {d12:FuncData}
  (a12:W.findIn K (.ref y0) "keeper_at" = some (some (.ref f12))) (i12:W.isFn K (.ref f12) = true)
  (F12:Fun K "keeper_at" "Council.keeper_at" z2y f12 d12)
  {f13:Addr} {d13:FuncData}
  (a13:W.findIn K (.ref y0) "up_keepers" = some (some (.ref f13))) (i13:W.isFn K (.ref f13) = true)
  (F13:Fun K "up_keepers" "Council.up_keepers" z2t f13 d13)
  {f14:Addr} {d14:FuncData}
  (a14:W.findIn K (.ref y0) "fall" = some (some (.ref f14))) (i14:W.isFn K (.ref f14) = true)
  (F14:Fun K "fall" "Council.fall" z3x f14 d14)
  {f15:Addr} {d15:FuncData}
  (a15:W.findIn K (.ref y0) "rise" = some (some (.ref f15))) (i15:W.isFn K (.ref f15) = true)
  (F15:Fun K "rise" "Council.rise" z3y f15 d15)
  {f16:Addr} {d16:FuncData}
  (a16:W.findIn K (.ref y0) "notes" = some (some (.ref f16))) (i16:W.isFn K (.ref f16) = true)
  (F16:Fun K "notes" "Council.notes" z3p f16 d16)
  {f17:Addr} {d17:FuncData}
  (a17:W.findIn K (.ref y0) "sayers" = some (some (.ref f17))) (i17:W.isFn K (.ref f17) = true)
  (F17:Fun K "sayers" "Council.sayers" z3d f17 d17)
  {f18:Addr} {d18:FuncData}
  (a18:W.findIn K (.ref y0) "give" = some (some (.ref f18))) (i18:W.isFn K (.ref f18) = true)
  (F18:Fun K "give" "Council.give" z3z f18 d18)
  {f19:Addr} {d19:FuncData}
  (a19:W.findIn K (.ref y0) "drop" = some (some (.ref f19))) (i19:W.isFn K (.ref f19) = true)
  (F19:Fun K "drop" "Council.drop" z40 f19 d19)
  {f20:Addr} {od20 an20:Option Addr} {sl20:Array (Option Value)} {oc20 kV20 dc20 pm20 cd20 ct20:Value}
  (a20:W.findIn K (.ref y0) "named" = some (some (.ref f20))) (i20:W.isFn K (.ref f20) = true)
  (l20:K.lookup f20 = some ⟨oc20,od20,.func (PySem.W.fnOf "named" "Council.named" (z2w z1n) (z1g z1n) (ze z1n) .none kV20 dc20 pm20 an20 cd20 ct20),sl20⟩) (c20:PySem.W.codeIn K cd20 "Council.named" = true) (k20:PySem.W.keepIn K (.ref f20) = true)
  {f21:Addr} {d21:FuncData}
  (a21:W.nsIn K mainGlobals "_law_at" = some (some (.ref f21)))
  (F21:Fun K "_law_at" "_law_at" z6y f21 d21)
  {f22:Addr} {d22:FuncData}
  (a22:W.nsIn K mainGlobals "_law_same" = some (some (.ref f22)))
  (F22:Fun K "_law_same" "_law_same" z2h f22 d22)
  {f23:Addr} {d23:FuncData}
  (a23:W.nsIn K mainGlobals "_law_name" = some (some (.ref f23)))
  (F23:Fun K "_law_name" "_law_name" z5c f23 d23)
  {f24:Addr} {d24:FuncData}
  (a24:W.nsIn K mainGlobals "_law_names" = some (some (.ref f24)))
  (F24:Fun K "_law_names" "_law_names" z4w f24 d24)
  {f25:Addr} {d25:FuncData}
  (a25:W.nsIn K mainGlobals "_law_locks" = some (some (.ref f25)))
  (F25:Fun K "_law_locks" "_law_locks" z4x f25 d25)
  {f26:Addr} {d26:FuncData}
  (a26:W.nsIn K mainGlobals "_law_some" = some (some (.ref f26)))
  (F26:Fun K "_law_some" "_law_some" z5d f26 d26)
  {f27:Addr} {d27:FuncData}
  (a27:W.nsIn K mainGlobals "_law_setup" = some (some (.ref f27)))
  (F27:Fun K "_law_setup" "_law_setup" z4y f27 d27)
  {f28:Addr} {d28:FuncData}
  (a28:W.nsIn K mainGlobals "_law_asked" = some (some (.ref f28)))
  (F28:Fun K "_law_asked" "_law_asked" z4z f28 d28)
  {f29:Addr} {d29:FuncData}
  (a29:W.nsIn K mainGlobals "_law_line" = some (some (.ref f29)))
  (F29:Fun K "_law_line" "_law_line" z5e f29 d29)
  {f30:Addr} {d30:FuncData}
  (a30:W.nsIn K mainGlobals "_law_way" = some (some (.ref f30)))
  (F30:Fun K "_law_way" "_law_way" z60 f30 d30)
  {f31:Addr} {d31:FuncData}
  (a31:W.nsIn K mainGlobals "_law_new" = some (some (.ref f31)))
  (F31:Fun K "_law_new" "_law_new" z61 f31 d31)
  {f32:Addr} {d32:FuncData}
  (a32:W.nsIn K mainGlobals "_law_naming" = some (some (.ref f32)))
  (F32:Fun K "_law_naming" "_law_naming" z4g f32 d32)
  {f33:Addr} {d33:FuncData}
  (a33:W.nsIn K mainGlobals "_law_ups" = some (some (.ref f33)))
  (F33:Fun K "_law_ups" "_law_ups" z62 f33 d33)
  {f34:Addr} {d34:FuncData}
  (a34:W.nsIn K mainGlobals "_law_sayers" = some (some (.ref f34)))
  (F34:Fun K "_law_sayers" "_law_sayers" z4h f34 d34)
  {f35:Addr} {d35:FuncData}
  (a35:W.nsIn K mainGlobals "_law_free" = some (some (.ref f35)))
  (F35:Fun K "_law_free" "_law_free" z5f f35 d35)
  {f36:Addr} {d36:FuncData}
  (a36:W.nsIn K mainGlobals "_law_give" = some (some (.ref f36)))
  (F36:Fun K "_law_give" "_law_give" z5g f36 d36)
  {f37:Addr} {d37:FuncData}
  (a37:W.nsIn K mainGlobals "_law_dropped" = some (some (.ref f37)))
  (F37:Fun K "_law_dropped" "_law_dropped" z41 f37 d37)
  {f38:Addr} {d38:FuncData}
  (a38:W.nsIn K mainGlobals "_law_given" = some (some (.ref f38)))
  (F38:Fun K "_law_given" "_law_given" z50 f38 d38)
  {f39:Addr} {d39:FuncData}
  (a39:W.nsIn K mainGlobals "_law_council_deed" = some (some (.ref f39)))
  (F39:Fun K "_law_council_deed" "_law_council_deed" z2z f39 d39)
  {f40:Addr} {d40:FuncData}
  (a40:W.nsIn K mainGlobals "_law_named" = some (some (.ref f40)))
  (F40:Fun K "_law_named" "_law_named" z51 f40 d40)
  {f41:Addr} {d41:FuncData}
  (a41:W.nsIn K mainGlobals "law" = some (some (.ref f41)))
  (F41:Fun K "law" "law" z7d f41 d41)
  (mk_Council:PySem.W.makesIn K y0 = true) (kc_Council:PySem.W.keepIn K (.ref y0) = true)
  (mk_Keeper:PySem.W.makesIn K y6 = true) (kc_Keeper:PySem.W.keepIn K (.ref y6) = true)
  {vs_Council_named:Array Value} {od_Council_named:Option Addr} {sl_Council_named:Array (Option Value)} (y_cu_Council_named:cd20 = Value.ref y9) (y_cg_Council_named:K.lookup y9 = some ⟨.type "code",od_Council_named,.fields vs_Council_named,sl_Council_named⟩) (y_cw_Council_named:vs_Council_named[11]? = some (.ref y7)) (y_cz_Council_named:z84 vs_Council_named = true) (y_cn_Council_named:(y9 != y7) = true) (y_ck_Council_named:K.lookup y7 = none)
  (y_ts:ts = [y7])
  : (∀ t ∈ ts,(∃ c,PySem.W.codeHdIn K c t = true) ∧ K.lookup t = none) ∧ ∃ fd:FuncData,(∀ (s:Shared) (v:Value),BindsTo s fd ⟨[v],[]⟩ [("_law_script",v)]) ∧ ∀ base:Heap,K.In base → base.Ns mainGlobals mg → (∀ t ∈ ts,base.BuiltinsAt mg t) → FnOk l.prog w K mg base CX0 10 fa fd ["_law_script"] (spLaw ts K):=by
 have e:=hfa.symm.trans (PySem.W.mg_of X G a41)
 cases e
 subst y_cu_Council_named
 have T:Txt K mg y0 yd yc y6 yb ya y8 y7 y9:=⟨trivial,PySem.W.mg_none_of X G y_b_all,PySem.W.mg_none_of X G y_b_bool,PySem.W.mg_none_of X G y_b_enumerate,PySem.W.mg_none_of X G y_b_int,PySem.W.mg_none_of X G y_b_isinstance,PySem.W.mg_none_of X G y_b_len,PySem.W.mg_none_of X G y_b_list,PySem.W.mg_none_of X G y_b_max,PySem.W.mg_none_of X G y_b_min,PySem.W.mg_none_of X G y_b_range,PySem.W.mg_none_of X G y_b_set,PySem.W.mg_none_of X G y_b_sorted,PySem.W.mg_none_of X G y_b_str,PySem.W.mg_none_of X G y_b_tuple,PySem.W.mg_of X G y_g_Council,PySem.W.mg_of X G y_g_Down,PySem.W.mg_of X G y_g_InTheWay,PySem.W.mg_of X G y_g_Keeper,PySem.W.mg_of X G y_g_NotFree,PySem.W.mg_of X G y_g_OldNumber,PySem.W.mg_of X G y_g_UnknownKeeper,y_pg_Council,y_hd_Council,y_po_Council,y_sa_Council,y_n_Council_keepers,y_n_Council_most,y_pg_Keeper,y_hd_Keeper,y_po_Keeper,y_sa_Keeper,y_n_Keeper_up,y_n_Keeper_top,y_n_Keeper_kept,y_x_Down,y_x_InTheWay,y_x_NotFree,y_x_OldNumber,y_x_UnknownKeeper,y_sb_Down_NotFree,y_sb_InTheWay_NotFree,y_sb_NotFree_NotFree,y_sb_OldNumber_NotFree,y_sb_UnknownKeeper_NotFree,(zge y_cg_Council_named y_cw_Council_named y_cz_Council_named y_cn_Council_named)⟩
 obtain ⟨_,_,kV,dc,pm,an,cd,ct,_,rfl,_,_⟩:=id F41.ex
 have F20:=fun_mk (st:=z1n) l20 c20 k20
 have D20:MDefC K y0 "named" "Council.named" z1n ["self","holder","lock","shared","tick"] y9:=⟨_,_,_,_,_,_,_,_,_,l20,c20,⟨a20,i20,F20.kp⟩,F20.binds fun _ _ _ _ _ _ us hl=>match us,hl with | [_,_,_,_,_],_=>rfl⟩
 have D22:Def K mg "_law_same" z2h ["_law_found","_law_due"]:=⟨_,_,F22,W.mg_of X G a22,F22.binds fun _ _ _ _ _ _ us hl=>match us,hl with | [_,_],_=>rfl⟩
 refine ⟨fun t ht=>?_,W.fnOf "law" "law" (z2w z7d) (z1g z7d) (ze z7d) .none kV dc pm an cd ct,fun s v=>.of_eq rfl,fun base _ _ BA=>?_⟩
 ·rw [y_ts] at ht
  simp only [List.mem_cons,List.not_mem_nil,or_false] at ht
  rcases ht with rfl
  ·exact ⟨⟨_,T.hd_Council_named⟩,y_ck_Council_named⟩
 have mt_Council_named:y7 ∈ ts:=by rw [y_ts]; simp
 have y1g:=zgi (P:=l.prog) (w:=w) (base:=base) ⟨_,_,F0,W.mg_of X G a0,F0.binds fun _ _ _ _ _ _ us hl=>match us,hl with | [_,_],_=>rfl⟩ T
 have y1h:=zeu (P:=l.prog) (w:=w) (base:=base) ⟨_,_,F1,W.mg_of X G a1,F1.binds fun _ _ _ _ _ _ us hl=>match us,hl with | [_,_],_=>rfl⟩ T y1g
 have y1i:=zgj (P:=l.prog) (w:=w) (base:=base) ⟨_,_,F2,W.mg_of X G a2,F2.binds fun _ _ _ _ _ _ us hl=>match us,hl with | [_,_,_,_],_=>rfl⟩ T y1h
 have yu:=z72 (P:=l.prog) (w:=w) (base:=base) ⟨_,_,F3,⟨mk_Keeper,a3,i3,kc_Keeper⟩,F3.binds fun _ _ _ _ _ _ us hl=>match us,hl with | [_],_=>rfl⟩ T
 have y16:=za5 (P:=l.prog) (w:=w) (base:=base) ⟨_,_,F4,⟨a4,i4,F4.kp⟩,F4.binds fun _ _ _ _ _ _ us hl=>match us,hl with | [_],_=>rfl⟩ T
 have y14:=za6 (P:=l.prog) (w:=w) (base:=base) ⟨_,_,F5,⟨a5,i5,F5.kp⟩,F5.binds fun _ _ _ _ _ _ us hl=>match us,hl with | [_],_=>rfl⟩ T
 have yi:=za3 (P:=l.prog) (w:=w) (base:=base) ⟨_,_,F6,⟨a6,i6,F6.kp⟩,F6.binds fun _ _ _ _ _ _ us hl=>match us,hl with | [_,_],_=>rfl⟩ T
 have yh:=z5i (P:=l.prog) (w:=w) (base:=base) ⟨_,_,F7,⟨a7,i7,F7.kp⟩,F7.binds fun _ _ _ _ _ _ us hl=>match us,hl with | [_,_,_,_,_],_=>rfl⟩ T y1i yi
 have yk:=z6g (P:=l.prog) (w:=w) (base:=base) ⟨_,_,F8,⟨a8,i8,F8.kp⟩,F8.binds fun _ _ _ _ _ _ us hl=>match us,hl with | [_,_,_,_,_],_=>rfl⟩ T yh
 have y15:=za4 (P:=l.prog) (w:=w) (base:=base) ⟨_,_,F9,⟨a9,i9,F9.kp⟩,F9.binds fun _ _ _ _ _ _ us hl=>match us,hl with | [_,_,_,_,_,_,_],_=>rfl⟩ T yk
 have y13:=zac (P:=l.prog) (w:=w) (base:=base) ⟨_,_,F10,⟨a10,i10,F10.kp⟩,F10.binds fun _ _ _ _ _ _ us hl=>match us,hl with | [_,_,_],_=>rfl⟩ T yi
 have yt:=z6h (P:=l.prog) (w:=w) (base:=base) ⟨_,_,F11,⟨mk_Council,a11,i11,kc_Council⟩,F11.binds fun _ _ _ _ _ _ us hl=>match us,hl with | [_,_],_=>rfl⟩ T yu
 have yf:=z66 (P:=l.prog) (w:=w) (base:=base) ⟨_,_,F12,⟨a12,i12,F12.kp⟩,F12.binds fun _ _ _ _ _ _ us hl=>match us,hl with | [_,_],_=>rfl⟩ T
 have ye:=z5t (P:=l.prog) (w:=w) (base:=base) ⟨_,_,F13,⟨a13,i13,F13.kp⟩,F13.binds fun _ _ _ _ _ _ us hl=>match us,hl with | [_],_=>rfl⟩ T
 have y12:=z95 (P:=l.prog) (w:=w) (base:=base) ⟨_,_,F14,⟨a14,i14,F14.kp⟩,F14.binds fun _ _ _ _ _ _ us hl=>match us,hl with | [_,_],_=>rfl⟩ T y16 yf
 have yz:=z96 (P:=l.prog) (w:=w) (base:=base) ⟨_,_,F15,⟨a15,i15,F15.kp⟩,F15.binds fun _ _ _ _ _ _ us hl=>match us,hl with | [_,_],_=>rfl⟩ T y14 yf
 have y1j:=z89 (P:=l.prog) (w:=w) (base:=base) ⟨_,_,F16,⟨a16,i16,F16.kp⟩,F16.binds fun _ _ _ _ _ _ us hl=>match us,hl with | [_,_,_],_=>rfl⟩ T yi yf
 have yv:=z7j (P:=l.prog) (w:=w) (base:=base) ⟨_,_,F17,⟨a17,i17,F17.kp⟩,F17.binds fun _ _ _ _ _ _ us hl=>match us,hl with | [_,_,_,_,_],_=>rfl⟩ T yk ye
 have yy:=z98 (P:=l.prog) (w:=w) (base:=base) ⟨_,_,F18,⟨a18,i18,F18.kp⟩,F18.binds fun _ _ _ _ _ _ us hl=>match us,hl with | [_,_,_,_,_,_],_=>rfl⟩ T y15 yf ye yv
 have y11:=z9h (P:=l.prog) (w:=w) (base:=base) ⟨_,_,F19,⟨a19,i19,F19.kp⟩,F19.binds fun _ _ _ _ _ _ us hl=>match us,hl with | [_,_,_],_=>rfl⟩ T y13 ye
 have yr:=z8g (P:=l.prog) (w:=w) (base:=base) D20 T yh ye (BA _ mt_Council_named)
 have yl:=zex (P:=l.prog) (w:=w) (base:=base) ⟨_,_,F21,W.mg_of X G a21,F21.binds fun _ _ _ _ _ _ us hl=>match us,hl with | [_,_],_=>rfl⟩ T
 have y1l:=zi2 (P:=l.prog) (w:=w) (base:=base) D22 T (zg1 D22)
 have y1m:=z8a (P:=l.prog) (w:=w) (base:=base) D22 T y1l
 have y1n:=zi3 (P:=l.prog) (w:=w) (base:=base) D22 T y1m
 have y1k:=zi4 (P:=l.prog) (w:=w) (base:=base) D22 T y1n
 have yg:Has l.prog w K mg base 4 "_law_same" ["_law_found","_law_due"] (z2o 3):=y1k
 have yp:=zck (P:=l.prog) (w:=w) (base:=base) ⟨_,_,F23,W.mg_of X G a23,F23.binds fun _ _ _ _ _ _ us hl=>match us,hl with | [_,_],_=>rfl⟩ T
 have yw:=zba (P:=l.prog) (w:=w) (base:=base) ⟨_,_,F24,W.mg_of X G a24,F24.binds fun _ _ _ _ _ _ us hl=>match us,hl with | [_,_],_=>rfl⟩ T yp
 have y19:=zbb (P:=l.prog) (w:=w) (base:=base) ⟨_,_,F25,W.mg_of X G a25,F25.binds fun _ _ _ _ _ _ us hl=>match us,hl with | [_,_,_],_=>rfl⟩ T yp
 have y1a:=zcm (P:=l.prog) (w:=w) (base:=base) ⟨_,_,F26,W.mg_of X G a26,F26.binds fun _ _ _ _ _ _ us hl=>match us,hl with | [_,_],_=>rfl⟩ T
 have y18:=zbc (P:=l.prog) (w:=w) (base:=base) ⟨_,_,F27,W.mg_of X G a27,F27.binds fun _ _ _ _ _ _ us hl=>match us,hl with | [_],_=>rfl⟩ T yl yw y19 y1a
 have yo:=zbe (P:=l.prog) (w:=w) (base:=base) ⟨_,_,F28,W.mg_of X G a28,F28.binds fun _ _ _ _ _ _ us hl=>match us,hl with | [_,_,_],_=>rfl⟩ T
 have y1b:=zcl (P:=l.prog) (w:=w) (base:=base) ⟨_,_,F29,W.mg_of X G a29,F29.binds fun _ _ _ _ _ _ us hl=>match us,hl with | [_,_],_=>rfl⟩ T
 have y1f:=zd9 (P:=l.prog) (w:=w) (base:=base) ⟨_,_,F30,W.mg_of X G a30,F30.binds fun _ _ _ _ _ _ us hl=>match us,hl with | [_,_,_,_],_=>rfl⟩ T y1b
 have y1e:=zde (P:=l.prog) (w:=w) (base:=base) ⟨_,_,F31,W.mg_of X G a31,F31.binds fun _ _ _ _ _ _ us hl=>match us,hl with | [_],_=>rfl⟩ T
 have yn:=zaa (P:=l.prog) (w:=w) (base:=base) ⟨_,_,F32,W.mg_of X G a32,F32.binds fun _ _ _ _ _ _ us hl=>match us,hl with | [_,_,_],_=>rfl⟩ T y1f
 have ym:=zda (P:=l.prog) (w:=w) (base:=base) ⟨_,_,F33,W.mg_of X G a33,F33.binds fun _ _ _ _ _ _ us hl=>match us,hl with | [_],_=>rfl⟩ T
 have yj:=zab (P:=l.prog) (w:=w) (base:=base) ⟨_,_,F34,W.mg_of X G a34,F34.binds fun _ _ _ _ _ _ us hl=>match us,hl with | [_,_],_=>rfl⟩ T yn ym
 have y1c:=zcr (P:=l.prog) (w:=w) (base:=base) ⟨_,_,F35,W.mg_of X G a35,F35.binds fun _ _ _ _ _ _ us hl=>match us,hl with | [_,_],_=>rfl⟩ T yj
 have y1d:=zct (P:=l.prog) (w:=w) (base:=base) ⟨_,_,F36,W.mg_of X G a36,F36.binds fun _ _ _ _ _ _ us hl=>match us,hl with | [_,_],_=>rfl⟩ T ym yj
 have y10:=z9g (P:=l.prog) (w:=w) (base:=base) ⟨_,_,F37,W.mg_of X G a37,F37.binds fun _ _ _ _ _ _ us hl=>match us,hl with | [_,_],_=>rfl⟩ T
 have y17:=zbd (P:=l.prog) (w:=w) (base:=base) ⟨_,_,F38,W.mg_of X G a38,F38.binds fun _ _ _ _ _ _ us hl=>match us,hl with | [_,_,_],_=>rfl⟩ T yy
 have yq:=z6b (P:=l.prog) (w:=w) (base:=base) ⟨_,_,F39,W.mg_of X G a39,F39.binds fun _ _ _ _ _ _ us hl=>match us,hl with | [_,_,_,_],_=>rfl⟩ T y12 yz y11 yg yo yj y1c y1d y10 y17
 have yx:=zbf (P:=l.prog) (w:=w) (base:=base) ⟨_,_,F40,W.mg_of X G a40,F40.binds fun _ _ _ _ _ _ us hl=>match us,hl with | [_,_],_=>rfl⟩ T yn ym
 have y1o:=zkg (P:=l.prog) (w:=w) (base:=base) ⟨_,_,F41,W.mg_of X G a41,F41.binds fun _ _ _ _ _ _ us hl=>match us,hl with | [_],_=>rfl⟩ T yt yr yg y18 yo y1e yq yx mt_Council_named
 exact Has.at y1o (PySem.W.mg_of X G a41) F41
end Fg
open PySem PySem.W PyProof.Rows
set_option maxRecDepth 100000 in
set_option maxHeartbeats 0 in
theorem PySem.Challenge.cw_fencegate_k15_council_named_holds : PySem.Challenge.rw_fencegate_k15_council_named.Holds := by
 w_on; o_law
 refine holds_open (r := PySem.Challenge.rw_fencegate_k15_council_named.row) (q := Fg.vw) (loose := []) (XP := XL Fg.vw []) (YP := (kmHook Fg.kk Fg.ka Fg.ka_eq [302]).says) (N := 12 + (1 + (3304 + 200)))
  Fg.left_ok (kmHook Fg.kk Fg.ka Fg.ka_eq [302]).of (kmHook Fg.kk Fg.ka Fg.ka_eq [302]).keeps (fun s e => xl_of s (Bool.and_eq_true_iff.mp e).1) XL.keeps
  (by rfl) (by rfl) (by rfl) (fun s e => recFacts_of (Bool.and_eq_true_iff.mp e).2) (by rfl) (by assumption) (by decide +kernel)
  ⟨rfl, rfl, rfl, rfl, rfl, by decide +kernel⟩ ?hw ?hc
 (case hw => w_witness2)
 k_fill
 refine L2.walk_ofT (l := PySem.Challenge.rw_fencegate_k15_council_named) (n := 63) (k := 10) (x := "_law_script") (sp := fun ts K => Fg.spLaw ts K) rfl (by decide) rfl ⟨rfl, by decide, by decide⟩ (fun w h Y => ⟨PySem.W.km_in_of Y, PySem.W.km_tabs_of Y⟩) ?F (fun K H a ns hl hO hS => ⟨a, ns, rfl, hS, hl, hO.tab, fun _ => rfl⟩)
 case F =>
  intro w mg fa h KX G hmg
  refine' Fg.all_mk KX G hmg ?y_b_all ?y_b_bool ?y_b_enumerate ?y_b_int ?y_b_isinstance ?y_b_len ?y_b_list ?y_b_max ?y_b_min ?y_b_range ?y_b_set ?y_b_sorted ?y_b_str ?y_b_tuple ?y_g_Council ?y_g_Down ?y_g_InTheWay ?y_g_Keeper ?y_g_NotFree ?y_g_OldNumber ?y_g_UnknownKeeper ?y_pg_Council ?y_hd_Council ?y_po_Council ?y_sa_Council ?y_n_Council_keepers ?y_n_Council_most ?y_pg_Keeper ?y_hd_Keeper ?y_po_Keeper ?y_sa_Keeper ?y_n_Keeper_up ?y_n_Keeper_top ?y_n_Keeper_kept ?y_x_Down ?y_x_InTheWay ?y_x_NotFree ?y_x_OldNumber ?y_x_UnknownKeeper ?y_sb_Down_NotFree ?y_sb_InTheWay_NotFree ?y_sb_NotFree_NotFree ?y_sb_OldNumber_NotFree ?y_sb_UnknownKeeper_NotFree ?a0 ?F0 ?a1 ?F1 ?a2 ?F2 ?a3 ?i3 ?F3 ?a4 ?i4 ?F4 ?a5 ?i5 ?F5 ?a6 ?i6 ?F6 ?a7 ?i7 ?F7 ?a8 ?i8 ?F8 ?a9 ?i9 ?F9 ?a10 ?i10 ?F10 ?a11 ?i11 ?F11 ?a12 ?i12 ?F12 ?a13 ?i13 ?F13 ?a14 ?i14 ?F14 ?a15 ?i15 ?F15 ?a16 ?i16 ?F16 ?a17 ?i17 ?F17 ?a18 ?i18 ?F18 ?a19 ?i19 ?F19 ?a20 ?i20 ?l20 ?c20 ?k20 ?a21 ?F21 ?a22 ?F22 ?a23 ?F23 ?a24 ?F24 ?a25 ?F25 ?a26 ?F26 ?a27 ?F27 ?a28 ?F28 ?a29 ?F29 ?a30 ?F30 ?a31 ?F31 ?a32 ?F32 ?a33 ?F33 ?a34 ?F34 ?a35 ?F35 ?a36 ?F36 ?a37 ?F37 ?a38 ?F38 ?a39 ?F39 ?a40 ?F40 ?a41 ?F41 ?mk_Council ?kc_Council ?mk_Keeper ?kc_Keeper ?y_cu_Council_named ?y_cg_Council_named ?y_cw_Council_named ?y_cz_Council_named ?y_cn_Council_named ?y_ck_Council_named ?y_ts
  (case y_b_all => k_is)
  (case y_b_bool => k_is)
  (case y_b_enumerate => k_is)
  (case y_b_int => k_is)
  (case y_b_isinstance => k_is)
  (case y_b_len => k_is)
  (case y_b_list => k_is)
  (case y_b_max => k_is)
  (case y_b_min => k_is)
  (case y_b_range => k_is)
  (case y_b_set => k_is)
  (case y_b_sorted => k_is)
  (case y_b_str => k_is)
  (case y_b_tuple => k_is)
  (case y_g_Council => k_is)
  (case y_g_Down => k_is)
  (case y_g_InTheWay => k_is)
  (case y_g_Keeper => k_is)
  (case y_g_NotFree => k_is)
  (case y_g_OldNumber => k_is)
  (case y_g_UnknownKeeper => k_is)
  (case y_pg_Council => k_is)
  (case y_hd_Council => k_is)
  (case y_po_Council => k_is)
  (case y_sa_Council => k_is)
  (case y_n_Council_keepers => k_is)
  (case y_n_Council_most => k_is)
  (case y_pg_Keeper => k_is)
  (case y_hd_Keeper => k_is)
  (case y_po_Keeper => k_is)
  (case y_sa_Keeper => k_is)
  (case y_n_Keeper_up => k_is)
  (case y_n_Keeper_top => k_is)
  (case y_n_Keeper_kept => k_is)
  (case y_x_Down => k_exc)
  (case y_x_InTheWay => k_exc)
  (case y_x_NotFree => k_exc)
  (case y_x_OldNumber => k_exc)
  (case y_x_UnknownKeeper => k_exc)
  (case y_sb_Down_NotFree => k_is)
  (case y_sb_InTheWay_NotFree => k_is)
  (case y_sb_NotFree_NotFree => k_is)
  (case y_sb_OldNumber_NotFree => k_is)
  (case y_sb_UnknownKeeper_NotFree => k_is)
  (case a0 => k_is)
  (case F0 => (apply L2.fun_mk; k_is; k_is; k_is))
  (case a1 => k_is)
  (case F1 => (apply L2.fun_mk; k_is; k_is; k_is))
  (case a2 => k_is)
  (case F2 => (apply L2.fun_mk; k_is; k_is; k_is))
  (case a3 => k_is)
  (case i3 => k_is)
  (case F3 => (apply L2.fun_mk; k_is; k_is; k_is))
  (case a4 => k_is)
  (case i4 => k_is)
  (case F4 => (apply L2.fun_mk; k_is; k_is; k_is))
  (case a5 => k_is)
  (case i5 => k_is)
  (case F5 => (apply L2.fun_mk; k_is; k_is; k_is))
  (case a6 => k_is)
  (case i6 => k_is)
  (case F6 => (apply L2.fun_mk; k_is; k_is; k_is))
  (case a7 => k_is)
  (case i7 => k_is)
  (case F7 => (apply L2.fun_mk; k_is; k_is; k_is))
  (case a8 => k_is)
  (case i8 => k_is)
  (case F8 => (apply L2.fun_mk; k_is; k_is; k_is))
  (case a9 => k_is)
  (case i9 => k_is)
  (case F9 => (apply L2.fun_mk; k_is; k_is; k_is))
  (case a10 => k_is)
  (case i10 => k_is)
  (case F10 => (apply L2.fun_mk; k_is; k_is; k_is))
  (case a11 => k_is)
  (case i11 => k_is)
  (case F11 => (apply L2.fun_mk; k_is; k_is; k_is))
  (case a12 => k_is)
  (case i12 => k_is)
  (case F12 => (apply L2.fun_mk; k_is; k_is; k_is))
  (case a13 => k_is)
  (case i13 => k_is)
  (case F13 => (apply L2.fun_mk; k_is; k_is; k_is))
  (case a14 => k_is)
  (case i14 => k_is)
  (case F14 => (apply L2.fun_mk; k_is; k_is; k_is))
  (case a15 => k_is)
  (case i15 => k_is)
  (case F15 => (apply L2.fun_mk; k_is; k_is; k_is))
  (case a16 => k_is)
  (case i16 => k_is)
  (case F16 => (apply L2.fun_mk; k_is; k_is; k_is))
  (case a17 => k_is)
  (case i17 => k_is)
  (case F17 => (apply L2.fun_mk; k_is; k_is; k_is))
  (case a18 => k_is)
  (case i18 => k_is)
  (case F18 => (apply L2.fun_mk; k_is; k_is; k_is))
  (case a19 => k_is)
  (case i19 => k_is)
  (case F19 => (apply L2.fun_mk; k_is; k_is; k_is))
  (case a20 => k_is)
  (case i20 => k_is)
  (case l20 => k_is)
  (case c20 => k_is)
  (case k20 => k_is)
  (case a21 => k_is)
  (case F21 => (apply L2.fun_mk; k_is; k_is; k_is))
  (case a22 => k_is)
  (case F22 => (apply L2.fun_mk; k_is; k_is; k_is))
  (case a23 => k_is)
  (case F23 => (apply L2.fun_mk; k_is; k_is; k_is))
  (case a24 => k_is)
  (case F24 => (apply L2.fun_mk; k_is; k_is; k_is))
  (case a25 => k_is)
  (case F25 => (apply L2.fun_mk; k_is; k_is; k_is))
  (case a26 => k_is)
  (case F26 => (apply L2.fun_mk; k_is; k_is; k_is))
  (case a27 => k_is)
  (case F27 => (apply L2.fun_mk; k_is; k_is; k_is))
  (case a28 => k_is)
  (case F28 => (apply L2.fun_mk; k_is; k_is; k_is))
  (case a29 => k_is)
  (case F29 => (apply L2.fun_mk; k_is; k_is; k_is))
  (case a30 => k_is)
  (case F30 => (apply L2.fun_mk; k_is; k_is; k_is))
  (case a31 => k_is)
  (case F31 => (apply L2.fun_mk; k_is; k_is; k_is))
  (case a32 => k_is)
  (case F32 => (apply L2.fun_mk; k_is; k_is; k_is))
  (case a33 => k_is)
  (case F33 => (apply L2.fun_mk; k_is; k_is; k_is))
  (case a34 => k_is)
  (case F34 => (apply L2.fun_mk; k_is; k_is; k_is))
  (case a35 => k_is)
  (case F35 => (apply L2.fun_mk; k_is; k_is; k_is))
  (case a36 => k_is)
  (case F36 => (apply L2.fun_mk; k_is; k_is; k_is))
  (case a37 => k_is)
  (case F37 => (apply L2.fun_mk; k_is; k_is; k_is))
  (case a38 => k_is)
  (case F38 => (apply L2.fun_mk; k_is; k_is; k_is))
  (case a39 => k_is)
  (case F39 => (apply L2.fun_mk; k_is; k_is; k_is))
  (case a40 => k_is)
  (case F40 => (apply L2.fun_mk; k_is; k_is; k_is))
  (case a41 => k_is)
  (case F41 => (apply L2.fun_mk; k_is; k_is; k_is))
  (case mk_Council => k_is)
  (case kc_Council => k_is)
  (case mk_Keeper => k_is)
  (case kc_Keeper => k_is)
  (case y_cu_Council_named => exact rfl)
  (case y_cg_Council_named => k_is)
  (case y_cw_Council_named => exact rfl)
  (case y_cz_Council_named => kernel_rfl)
  (case y_cn_Council_named => kernel_rfl)
  (case y_ck_Council_named => kernel_rfl)
  (case y_ts => exact rfl)
