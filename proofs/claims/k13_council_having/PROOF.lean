import PyProof.Rows.All
import Wide.All
import OpenK.KLine
import OpenK.KOwn
import OpenK.KRaise
import OpenK.KDescr
import OpenK.KCall
import OpenK.KCls
import OpenK.KMake
import OpenK.KMore
import OpenK.Peek
import KE.KFromBytes
import KE.KIsAll
import KE.KItem
import KE.KxBytes
import Wide.FinOn
import PyProof.EqAt
import PyProof.EqKinds
import PyProof.NeKinds
import PyProof.TupleCall
import PyProof.ExcBaseAll.ValueError
import PyProof.NsDelKeeps
import Lean
import KE.KDictOf
import KE.KDictList
import KE.KDictSum
import KE.KPairComp
import KE.KMinKey
import KE.KNestM
import KE.KSortKey
import KE.KSortAsk
import KE.KSortTup
import KE.KLam
import PyProof.Rows.SortRev
import PySem.Challenge.RW_fencegate_k13_council_having
set_option bootstrap.genMatcherCode false
set_option compiler.extract_closed false
set_option Elab.async false
set_option linter.all false
set_option maxRecDepth 100000
set_option maxHeartbeats 4000000
abbrev x0:=@List.length_map
abbrev x6:=@List.getElem?_eq_getElem
abbrev x8:=@PySem.wpAny_bind
abbrev x9:=@List.mem_of_getElem?
abbrev xa:=@Bool.false_ne_true
abbrev xc:=@List.getElem?_map
abbrev xf:=@PySem.Heap.get?_push_of_some
abbrev xg:=@List.getElem?_eq_some_iff
abbrev xh:=@PySem.wpAny_pure
abbrev xi:=@List.mem_filter
abbrev xj:=@List.length_filter_le
abbrev xk:=@Nat.le_refl
abbrev xl:=@PySem.Heap.lt_size
abbrev xm:=@List.mem_singleton
abbrev xn:=@List.getD_eq_getElem?_getD
abbrev xo:=@List.mem_cons
abbrev xp:=@Nat.le_trans
abbrev xq:=@Option.some.inj
abbrev xr:=@List.size_toArray
abbrev xt:=@Nat.lt_of_lt_of_le
abbrev xu:=@PySem.Heap.get?_push_size
abbrev xw:=@List.mem_map
abbrev xx:=@decide_eq_true
abbrev xy:=@Nat.ne_of_lt
abbrev xz:=@List.mem_append
abbrev x00:=@List.length_append
abbrev x01:=@List.mem_append_right
abbrev x02:=@List.take_length
abbrev x03:=@Nat.zero_le
abbrev x04:=@List.length_take
abbrev x05:=@of_decide_eq_true
abbrev x06:=@List.getElem?_mapIdx
abbrev x07:=@Bool.and_eq_true
abbrev x08:=@Option.map_eq_some_iff
abbrev x09:=@List.mem_cons_of_mem
abbrev x0a:=@PySem.F.plainAttrs_list
abbrev x0b:=@List.map_append
abbrev x0c:=@List.mem_cons_self
abbrev x0d:=@PySem.F.slot_list_append
abbrev x0e:=@PySem.F.type_list_append
abbrev x0f:=@PySem.wpAny_mono
abbrev x0g:=@Array.length_toList
abbrev x0h:=@List.map_cons
abbrev x0i:=@Bool.false_eq_true
abbrev x0j:=@List.filter_filter
abbrev x0k:=@List.filter_sublist
abbrev x0l:=@List.append_nil
abbrev x0m:=@PySem.PassesOwn.never
abbrev x0n:=@List.ext_getElem?
abbrev x0o:=@List.length_cons
abbrev x0p:=@List.not_mem_nil
abbrev x0q:=@PySem.W.mg_none_of
abbrev x0r:=@Nat.lt_irrefl
abbrev x0s:=@List.mem_range
abbrev x0t:=@List.mem_append_left
abbrev x0u:=@congrArg
abbrev x0v:=@Int.eq_ofNat_of_zero_le
abbrev x0w:=@Array.getElem?_eq_getElem
abbrev x0x:=@List.getElem?_set_self
abbrev x0y:=@List.getElem?_set_ne
abbrev x0z:=@PySem.wpAny_newObj_type
abbrev x10:=@decide_eq_true_eq
abbrev x11:=@Int.toNat_natCast
abbrev x12:=@List.getElem_of_mem
abbrev x13:=@List.mem_map_of_mem
abbrev x14:=@PySem.Heap.size_push
abbrev x15:=@PySem.mem_of_lookup
abbrev x16:=@List.replicate_succ
abbrev x17:=@PySem.Heap.SameBut.update
abbrev x18:=@Bool.eq_iff_iff
abbrev x19:=@List.filter_map
abbrev x1a:=@Nat.lt_succ_self
abbrev x1b:=@List.getElem_mem
abbrev x1c:=@List.filter_congr
abbrev x1d:=@List.getElem?_of_mem
abbrev x1e:=@PySem.Heap.get?_update_other
abbrev x1f:=@List.filter_append
abbrev x1g:=@decide_eq_false
abbrev x1h:=@PySem.wpAny_holding
abbrev x1i:=@List.lookup_cons
abbrev x1j:=@PySem.wpAny_call_entry
abbrev x1k:=@True.intro
abbrev x1l:=@PySem.Heap.get?_update_self
abbrev x1m:=@List.getElem?_eq_none
abbrev x1n:=@Nat.lt_succ_of_lt
abbrev x1o:=@List.mem_filterMap
abbrev x1p:=@PySem.Obj.data_mapFields
abbrev x1q:=@PySem.W.kia_one
abbrev x1r:=@PySem.W.kia_tup
abbrev x1s:=@List.filter_eq_nil_iff
section
namespace PySem.W
open PySem
noncomputable def kIns:List Obj->Nat->BT->BT
 |[],_,t=>t
 |o::r,i,t=>kIns r (i+1) (t.ins i o)
noncomputable def headSeen{α:Type}(p q:Program)(loose:List Str)(X:Shared->Bool)(obs:Shared->α)(w:World)(m0:Nat)(ann:Option Value)(n2:Nat)(t:Thread)(s:Shared):=
 ((topRun treeTable p w m0 ann n2 s t).bind fun s₁=>match staticsOk (importedModules p.main.body) (boot_heap w.params) s₁.heap&&namesBound p s₁.heap&&gensDone s₁&&laidKept (boot_heap w.params) s₁.heap with
  |true=>some s₁
  |false=>none).map fun s=>(openSeen q loose (importedModules p.main.body) X true s,obs s)
theorem left_of{α:Type}{p q:Program}{loose:List Str}{X:Shared->Bool}{obs:Shared->α}{val:World->α}{m0 np nb n1 n2:Nat}{ann:Option Value}{env:Env}{body:List Stmt}{code:Code}{pA pB pM fr:Pos}
  {sA:World->OsState->Shared} {sB:World->OsState->SharedT}
  (hb:∀w:World,(fencedOpening treeTable p w (np+(nb+(n1+n2)))).map (fun s=>(s.heap,s.gens,s.drawn,s.toks))=some (boot_heap w.params,#[],boot_drawn,boot_toks))
  (pre:∀w os,topGo treeTable p w m0 ann np ⟨boot_heap w.params,#[],boot_drawn,boot_toks,os⟩ (topStub p)=some (sA w os,⟨denote treeTable (.body (body++[]) env),code,pA,[topFrame fr]⟩))
  (blk:∀w os,segRun treeTable p w m0 ann 1 nb (sA w os) (blockOf (body++[]) env code pA [topFrame fr])=some (.next,(sB w os).abs,code,pB))
  (mid:∀w os,(segRunT treeTable p w m0 ann 1 n1 (sB w os) (piecesOf body env code pB [topFrame fr])).map (fun r=>(r.1,r.2.2.1,r.2.2.2,headSeen p q loose X obs w m0 ann n2 (restOf [] env code pM [topFrame fr]) r.2.1.abs))=some (.next,code,pM,some (openGood q loose,val w)))
  (sz:∀ w:World,(((boot_heap w.params).isNs mainGlobals&&(#[]:Array GenState).size==0),(boot_heap w.params).objs.size,(boot_heap w.params).nsMap mainGlobals "__annotations__")=(true,m0,ann)):
  LeftO p q loose X obs val (np+(nb+(n1+n2))):=fun w=>by
 obtain⟨⟨h,g,d,k,os⟩,hs,hv⟩:=x08.mp (hb w)
 simp only[Prod.mk.injEq]at hv
 obtain⟨rfl,rfl,rfl,rfl⟩:=hv
 have R:=mid w os
 obtain⟨z1,z2,z3⟩:_/\_/\_:=by simpa only[Prod.mk.injEq]using sz w
 cases e:segRunT treeTable p w m0 ann 1 n1 (sB w os) (piecesOf body env code pB [topFrame fr]) with
 |none=>rw[e]at R;cases R
 |some r=>
  obtain⟨f,s',c,pp⟩:=r
  rw[e]at R
  have R2:=xq R
  simp only[Prod.mk.injEq]at R2
  obtain⟨rfl,rfl,rfl,R3⟩:=R2
  unfold headSeen at R3
  have M:=segRun_of e
  cases t:topRun treeTable p w m0 ann n2 s'.abs (restOf [] env c pp [topFrame fr]) with
  |none=>rw[t]at R3;cases R3
  |some r=>
   rw[t]at R3
   have G:=go_top (pre w os) (piece_block (blk w os) (piece_app M t))
   unfold openEnds
   rw[hs]
   show(topFrom treeTable p w _ _).map _=_
   unfold topFrom
   dsimp only
   rw[z1,z2,z3,G]
   exact R3
theorem zer{σ τ α β A B C:Type}{o:Option σ}{k1:σ->A}{k2:σ->B}{k3:σ->C}{h:σ->Option τ}{g1:τ->α}{g2:τ->β}{a:A}{b:B}{c:C}{v1:α}{v2:β}
  (x:o.map (fun r=>(k1 r,k2 r,k3 r,(h r).map g1))=some (a,b,c,some v1)) (y:o.map (fun r=>(k1 r,k2 r,k3 r,(h r).map g2))=some (a,b,c,some v2)):
  o.map (fun r=>(k1 r,k2 r,k3 r,(h r).map fun s=>(g1 s,g2 s)))=some (a,b,c,some (v1,v2)):=by
 cases o with
 |none=>cases x
 |some r=>
  simp only[Option.map_some,Option.some.injEq,Prod.mk.injEq]at x y⊢
  obtain⟨x1,x2,x3,x4⟩:=x
  obtain⟨-,-,-,y4⟩:=y
  refine⟨x1,x2,x3,?_⟩
  cases e:h r with
  |none=>rw[e]at x4;cases x4
  |some t=>
   rw[e]at x4 y4
   simp only[Option.map_some,Option.some.injEq]at x4 y4⊢
   rw[x4,y4]
theorem zkp{σ τ α β A B C:Type}{o:Option σ}{k1:σ->A}{k2:σ->B}{k3:σ->C}{h:σ->Option τ}{g:τ->α}{F:τ->β}(φ:α->β)(e:∀s,F s=φ (g s)){a:A}{b:B}{c:C}{v:α}
  (x:o.map (fun r=>(k1 r,k2 r,k3 r,(h r).map g))=some (a,b,c,some v)):o.map (fun r=>(k1 r,k2 r,k3 r,(h r).map F))=some (a,b,c,some (φ v)):=by
 cases o with
 |none=>cases x
 |some r=>
  simp only[Option.map_some,Option.some.injEq,Prod.mk.injEq]at x⊢
  obtain⟨x1,x2,x3,x4⟩:=x
  refine⟨x1,x2,x3,?_⟩
  cases e2:h r with
  |none=>rw[e2]at x4;cases x4
  |some t=>
   rw[e2]at x4
   simp only[Option.map_some,Option.some.injEq]at x4⊢
   rw[e,x4]
end PySem.W
namespace Fg
open PySem PySem.W PyProof.Rows PySem.Calls
noncomputable def ktop(i:Nat):Stmt:=PySem.Challenge.pw_fencegate_k13_council_having.main.body.getD i (.Pass ⟨0,0,0,0⟩)
noncomputable def zmb(s:Stmt):Arguments:=match s with
 | .FunctionDef _ a _ _ _ _ _ _ _ _=>a
 |_=>{ posonlyargs:=[],args:=[],vararg:=none,kwonlyargs:=[],kw_defaults:=[],kwarg:=none,defaults:=[] }
noncomputable def zmc(s:Stmt):List Stmt:=match s with
 | .FunctionDef _ _ b _ _ _ _ _ _ _=>b
 |_=>[]
noncomputable def zll(s:Stmt):Scope:=match s with
 | .FunctionDef _ _ _ _ _ _ sc _ _ _=>sc
 |_=>{ kind:=.function,names:=[],isGenerator:=false,isCoroutine:=false }
noncomputable def kcls(s:Stmt)(j:Nat):Stmt:=match s with
 | .ClassDef _ _ _ body _ _ _ _ _ _ _=>body.getD j (.Pass ⟨0,0,0,0⟩)
 |_=>.Pass ⟨0,0,0,0⟩
noncomputable def kS(x:String)(n:Nat):Value:=.str (Str.ofString x) n
noncomputable def kE(P:Params)(x:String)(n:Nat)(v:Value):DictEntry:=⟨PyData.keyHash P (Str.ofString x),kS x n,v⟩
noncomputable def kC(vs:Array Value):Obj:={ cls:=.type "code",data:=.fields vs }
noncomputable def kF(n q:String)(s:Stmt)(m:Value)(c:Addr):Obj:={ cls:=.type "function",data:=.func { name:=Str.ofString n,qualname:=Str.ofString q,params:=zmb s,body:=.stmts (zmc s),scope:=zll s,globals:=3,closure:=[],defaults:=.none,kwdefaults:=.none,pyModule:=m,code:=.ref c } }
noncomputable def kk:Params->PySem.W.Frag:=fun P=>(nat_lit 2,{ cls:=.none,data:=Data.dict #[] })::
 (nat_lit 3,{ cls:=.type "dict",data:=Data.dict #[kE P "__name__" 165 (kS "law_fencegate_k13_council_having" 575),kE P "__doc__" 166 (.none),kE P "__package__" 167 (.none),kE P "__loader__" 168 (.builtin "__main__.__loader__#opaque"),kE P "__spec__" 169 (.none),kE P "__annotations__" 170 (.ref 6),kE P "__builtins__" 171 (.ref 4),kE P "__file__" 173 (kS "/claim/cut.py" 172),kE P "__cached__" 174 (.none),kE P "_wall" 193 (.ref 21),kE P "GateError" 220 (.ref 38),kE P "UnknownKeeper" 243 (.ref 58),kE P "Down" 266 (.ref 77),kE P "OldNumber" 289 (.ref 96),kE P "InTheWay" 312 (.ref 115),kE P "NotFree" 335 (.ref 134),kE P "within" 346 (.ref 143),kE P "on_line" 354 (.ref 150),kE P "in_way" 364 (.ref 157),kE P "Keeper" 445 (.ref 215),kE P "Council" 574 (.ref 308),kE P "_law_at" 584 (.ref 319),kE P "_law_same" 590 (.ref 324),kE P "_law_name" 605 (.ref 331),kE P "_law_names" 611 (.ref 336),kE P "_law_locks" 625 (.ref 343),kE P "_law_some" 636 (.ref 350),kE P "_law_setup" 648 (.ref 357),kE P "_law_asked" 660 (.ref 364),kE P "_law_line" 671 (.ref 371),kE P "_law_way" 681 (.ref 378),kE P "_law_new" 688 (.ref 385),kE P "_law_naming" 699 (.ref 392),kE P "_law_ups" 705 (.ref 397),kE P "_law_sayers" 711 (.ref 402),kE P "_law_free" 719 (.ref 409),kE P "_law_give" 725 (.ref 414),kE P "_law_dropped" 736 (.ref 421),kE P "_law_having" 742 (.ref 426),kE P "_law_given" 752 (.ref 433),kE P "_law_council_deed" 771 (.ref 440),kE P "law" 787 (.ref 447)] 42 })::
 (nat_lit 37,{ cls:=.type "dict",data:=Data.dict #[kE P "__module__" 203 (kS "fencegate.errors" 194),kE P "__firstlineno__" 207 (.int 5 206),kE P "word" 214 (.ref 35),kE P "__static_attributes__" 215 (.ref 36),kE P "__weakref__" 217 (.ref 39),kE P "__doc__" 218 (.none)] 3 })::
 (nat_lit 38,{ cls:=.type "type",data:=Data.cls { name:=Str.ofString "GateError",bases:=[.type "ValueError"],mro:=[.ref 38,.type "ValueError",.type "Exception",.type "BaseException",.type "object"],ns:=37,qualname:=Str.ofString "GateError",subclasses:=[.ref 58,.ref 77,.ref 96,.ref 115,.ref 134] },slots:=#[some (.ref 22),none,some (kS "GateError" 196),some (kS "GateError" 204),some (.builtin "ValueError.__new__"),some (.bool true)] })::
 (nat_lit 39,{ cls:=.type "getset_descriptor",data:=Data.fields #[kS "__weakref__" 216,.ref 38,.builtin "ExceptionGroup.__weakref__",.none] })::
 (nat_lit 57,{ cls:=.type "dict",data:=Data.dict #[kE P "__module__" 228 (kS "fencegate.errors" 194),kE P "__firstlineno__" 232 (.int 9 231),kE P "word" 239 (.ref 55),kE P "__static_attributes__" 240 (.ref 56),kE P "__doc__" 241 (.none)] 2 })::
 (nat_lit 58,{ cls:=.type "type",data:=Data.cls { name:=Str.ofString "UnknownKeeper",bases:=[.ref 38],mro:=[.ref 58,.ref 38,.type "ValueError",.type "Exception",.type "BaseException",.type "object"],ns:=57,qualname:=Str.ofString "UnknownKeeper" },slots:=#[some (.ref 42),none,some (kS "UnknownKeeper" 221),some (kS "UnknownKeeper" 229),some (.builtin "ValueError.__new__"),some (.bool true)] })::
 (nat_lit 76,{ cls:=.type "dict",data:=Data.dict #[kE P "__module__" 251 (kS "fencegate.errors" 194),kE P "__firstlineno__" 255 (.int 13 254),kE P "word" 262 (.ref 74),kE P "__static_attributes__" 263 (.ref 75),kE P "__doc__" 264 (.none)] 2 })::
 (nat_lit 77,{ cls:=.type "type",data:=Data.cls { name:=Str.ofString "Down",bases:=[.ref 38],mro:=[.ref 77,.ref 38,.type "ValueError",.type "Exception",.type "BaseException",.type "object"],ns:=76,qualname:=Str.ofString "Down" },slots:=#[some (.ref 61),none,some (kS "Down" 244),some (kS "Down" 252),some (.builtin "ValueError.__new__"),some (.bool true)] })::
 (nat_lit 95,{ cls:=.type "dict",data:=Data.dict #[kE P "__module__" 274 (kS "fencegate.errors" 194),kE P "__firstlineno__" 278 (.int 17 277),kE P "word" 285 (.ref 93),kE P "__static_attributes__" 286 (.ref 94),kE P "__doc__" 287 (.none)] 2 })::
 (nat_lit 96,{ cls:=.type "type",data:=Data.cls { name:=Str.ofString "OldNumber",bases:=[.ref 38],mro:=[.ref 96,.ref 38,.type "ValueError",.type "Exception",.type "BaseException",.type "object"],ns:=95,qualname:=Str.ofString "OldNumber" },slots:=#[some (.ref 80),none,some (kS "OldNumber" 267),some (kS "OldNumber" 275),some (.builtin "ValueError.__new__"),some (.bool true)] })::
 (nat_lit 114,{ cls:=.type "dict",data:=Data.dict #[kE P "__module__" 297 (kS "fencegate.errors" 194),kE P "__firstlineno__" 301 (.int 21 300),kE P "word" 308 (.ref 112),kE P "__static_attributes__" 309 (.ref 113),kE P "__doc__" 310 (.none)] 2 })::
 (nat_lit 115,{ cls:=.type "type",data:=Data.cls { name:=Str.ofString "InTheWay",bases:=[.ref 38],mro:=[.ref 115,.ref 38,.type "ValueError",.type "Exception",.type "BaseException",.type "object"],ns:=114,qualname:=Str.ofString "InTheWay" },slots:=#[some (.ref 99),none,some (kS "InTheWay" 290),some (kS "InTheWay" 298),some (.builtin "ValueError.__new__"),some (.bool true)] })::
 (nat_lit 133,{ cls:=.type "dict",data:=Data.dict #[kE P "__module__" 320 (kS "fencegate.errors" 194),kE P "__firstlineno__" 324 (.int 25 323),kE P "word" 331 (.ref 131),kE P "__static_attributes__" 332 (.ref 132),kE P "__doc__" 333 (.none)] 2 })::
 (nat_lit 134,{ cls:=.type "type",data:=Data.cls { name:=Str.ofString "NotFree",bases:=[.ref 38],mro:=[.ref 134,.ref 38,.type "ValueError",.type "Exception",.type "BaseException",.type "object"],ns:=133,qualname:=Str.ofString "NotFree" },slots:=#[some (.ref 118),none,some (kS "NotFree" 313),some (kS "NotFree" 321),some (.builtin "ValueError.__new__"),some (.bool true)] })::
 (nat_lit 142,kC #[kS "within" 338,kS "within" 339,kS "/claim/cut.py" 340,.int 30 0,.int 2 0,.int 0 0,.int 0 0,.int 3 0,.ref 137,.bool true,.int 181 0,.ref 138,.none,.ref 139,.ref 140,.ref 141,.int 344 0,.int 30 0,kS "/claim/cut.py" 345])::
 (nat_lit 143,kF "within" "within" (ktop 9) (kS "fencegate.paths" 336) 142)::
 (nat_lit 149,kC #[kS "on_line" 347,kS "on_line" 348,kS "/claim/cut.py" 349,.int 33 0,.int 2 0,.int 0 0,.int 0 0,.int 3 0,.ref 144,.bool true,.int 181 0,.ref 145,.none,.ref 146,.ref 147,.ref 148,.int 352 0,.int 33 0,kS "/claim/cut.py" 353])::
 (nat_lit 150,kF "on_line" "on_line" (ktop 10) (kS "fencegate.paths" 336) 149)::
 (nat_lit 156,kC #[kS "in_way" 355,kS "in_way" 356,kS "/claim/cut.py" 357,.int 35 0,.int 4 0,.int 0 0,.int 0 0,.int 3 0,.ref 151,.bool true,.int 181 0,.ref 152,.none,.ref 153,.ref 154,.ref 155,.int 362 0,.int 35 0,kS "/claim/cut.py" 363])::
 (nat_lit 157,kF "in_way" "in_way" (ktop 11) (kS "fencegate.paths" 336) 156)::
 (nat_lit 170,kC #[kS "__init__" 379,kS "Keeper.__init__" 380,kS "/claim/cut.py" 381,.int 40 0,.int 1 0,.int 0 0,.int 0 0,.int 3 0,.ref 165,.bool true,.int 181 0,.ref 166,.none,.ref 167,.ref 168,.ref 169,.int 383 0,.int 40 0,kS "/claim/cut.py" 384])::
 (nat_lit 171,kF "__init__" "Keeper.__init__" (kcls (ktop 13) 0) (kS "fencegate.keeper" 365) 170)::
 (nat_lit 177,kC #[kS "fall" 386,kS "Keeper.fall" 387,kS "/claim/cut.py" 388,.int 45 0,.int 1 0,.int 0 0,.int 0 0,.int 3 0,.ref 172,.bool true,.int 181 0,.ref 173,.none,.ref 174,.ref 175,.ref 176,.int 390 0,.int 45 0,kS "/claim/cut.py" 391])::
 (nat_lit 178,kF "fall" "Keeper.fall" (kcls (ktop 13) 1) (kS "fencegate.keeper" 365) 177)::
 (nat_lit 184,kC #[kS "rise" 393,kS "Keeper.rise" 394,kS "/claim/cut.py" 395,.int 48 0,.int 1 0,.int 0 0,.int 0 0,.int 3 0,.ref 179,.bool true,.int 181 0,.ref 180,.none,.ref 181,.ref 182,.ref 183,.int 397 0,.int 48 0,kS "/claim/cut.py" 398])::
 (nat_lit 185,kF "rise" "Keeper.rise" (kcls (ktop 13) 2) (kS "fencegate.keeper" 365) 184)::
 (nat_lit 189,kC #[kS "live" 400,kS "Keeper.live" 401,kS "/claim/cut.py" 402,.int 51 0,.int 2 0,.int 0 0,.int 0 0,.int 3 0,.ref 186,.bool true,.int 181 0,.ref 187,.none,.none,.none,.ref 188,.int 403 0,.int 51 0,kS "/claim/cut.py" 404])::
 (nat_lit 190,kF "live" "Keeper.live" (kcls (ktop 13) 3) (kS "fencegate.keeper" 365) 189)::
 (nat_lit 194,kC #[kS "names_in_way" 406,kS "Keeper.names_in_way" 407,kS "/claim/cut.py" 408,.int 54 0,.int 5 0,.int 0 0,.int 0 0,.int 3 0,.ref 191,.bool true,.int 181 0,.ref 192,.none,.none,.none,.ref 193,.int 409 0,.int 54 0,kS "/claim/cut.py" 410])::
 (nat_lit 195,kF "names_in_way" "Keeper.names_in_way" (kcls (ktop 13) 4) (kS "fencegate.keeper" 365) 194)::
 (nat_lit 201,kC #[kS "says_free" 412,kS "Keeper.says_free" 413,kS "/claim/cut.py" 414,.int 58 0,.int 5 0,.int 0 0,.int 0 0,.int 3 0,.ref 196,.bool true,.int 181 0,.ref 197,.none,.ref 198,.ref 199,.ref 200,.int 420 0,.int 58 0,kS "/claim/cut.py" 421])::
 (nat_lit 202,kF "says_free" "Keeper.says_free" (kcls (ktop 13) 5) (kS "fencegate.keeper" 365) 201)::
 (nat_lit 206,kC #[kS "take" 423,kS "Keeper.take" 424,kS "/claim/cut.py" 425,.int 61 0,.int 7 0,.int 0 0,.int 0 0,.int 3 0,.ref 203,.bool true,.int 181 0,.ref 204,.none,.none,.none,.ref 205,.int 426 0,.int 61 0,kS "/claim/cut.py" 427])::
 (nat_lit 207,kF "take" "Keeper.take" (kcls (ktop 13) 6) (kS "fencegate.keeper" 365) 206)::
 (nat_lit 211,kC #[kS "drop" 429,kS "Keeper.drop" 430,kS "/claim/cut.py" 431,.int 72 0,.int 3 0,.int 0 0,.int 0 0,.int 3 0,.ref 208,.bool true,.int 181 0,.ref 209,.none,.none,.none,.ref 210,.int 432 0,.int 72 0,kS "/claim/cut.py" 433])::
 (nat_lit 212,kF "drop" "Keeper.drop" (kcls (ktop 13) 7) (kS "fencegate.keeper" 365) 211)::
 (nat_lit 214,{ cls:=.type "dict",data:=Data.dict #[kE P "__module__" 374 (kS "fencegate.keeper" 365),kE P "__firstlineno__" 378 (.int 38 377),kE P "__init__" 385 (.ref 171),kE P "fall" 392 (.ref 178),kE P "rise" 399 (.ref 185),kE P "live" 405 (.ref 190),kE P "names_in_way" 411 (.ref 195),kE P "says_free" 422 (.ref 202),kE P "take" 428 (.ref 207),kE P "drop" 434 (.ref 212),kE P "__static_attributes__" 438 (.ref 213),kE P "__dict__" 440 (.ref 216),kE P "__weakref__" 442 (.ref 217),kE P "__doc__" 443 (.none)] 4 })::
 (nat_lit 215,{ cls:=.type "type",data:=Data.cls { name:=Str.ofString "Keeper",bases:=[.type "object"],mro:=[.ref 215,.type "object"],ns:=214,qualname:=Str.ofString "Keeper" },slots:=#[none,none,some (kS "Keeper" 367),some (kS "Keeper" 375),some (.builtin "object.__new__"),some (.bool true)] })::
 (nat_lit 216,{ cls:=.type "getset_descriptor",data:=Data.fields #[kS "__dict__" 439,.ref 215,.builtin "function.__dict__",.builtin "function.__dict__#set"] })::
 (nat_lit 217,{ cls:=.type "getset_descriptor",data:=Data.fields #[kS "__weakref__" 441,.ref 215,.builtin "ExceptionGroup.__weakref__",.none] })::
 (nat_lit 230,kC #[kS "__init__" 460,kS "Council.__init__" 461,kS "/claim/cut.py" 462,.int 80 0,.int 2 0,.int 0 0,.int 0 0,.int 3 0,.ref 227,.bool true,.int 181 0,.ref 228,.none,.none,.none,.ref 229,.int 463 0,.int 80 0,kS "/claim/cut.py" 464])::
 (nat_lit 231,kF "__init__" "Council.__init__" (kcls (ktop 15) 0) (kS "fencegate.council" 446) 230)::
 (nat_lit 237,kC #[kS "keeper_at" 466,kS "Council.keeper_at" 467,kS "/claim/cut.py" 468,.int 84 0,.int 2 0,.int 0 0,.int 0 0,.int 3 0,.ref 232,.bool true,.int 181 0,.ref 233,.none,.ref 234,.ref 235,.ref 236,.int 471 0,.int 84 0,kS "/claim/cut.py" 472])::
 (nat_lit 238,kF "keeper_at" "Council.keeper_at" (kcls (ktop 15) 1) (kS "fencegate.council" 446) 237)::
 (nat_lit 242,kC #[kS "up_keepers" 474,kS "Council.up_keepers" 475,kS "/claim/cut.py" 476,.int 89 0,.int 1 0,.int 0 0,.int 0 0,.int 3 0,.ref 239,.bool true,.int 181 0,.ref 240,.none,.none,.none,.ref 241,.int 477 0,.int 89 0,kS "/claim/cut.py" 478])::
 (nat_lit 243,kF "up_keepers" "Council.up_keepers" (kcls (ktop 15) 2) (kS "fencegate.council" 446) 242)::
 (nat_lit 249,kC #[kS "fall" 480,kS "Council.fall" 481,kS "/claim/cut.py" 482,.int 92 0,.int 2 0,.int 0 0,.int 0 0,.int 3 0,.ref 244,.bool true,.int 181 0,.ref 245,.none,.ref 246,.ref 247,.ref 248,.int 487 0,.int 92 0,kS "/claim/cut.py" 488])::
 (nat_lit 250,kF "fall" "Council.fall" (kcls (ktop 15) 3) (kS "fencegate.council" 446) 249)::
 (nat_lit 256,kC #[kS "rise" 490,kS "Council.rise" 491,kS "/claim/cut.py" 492,.int 98 0,.int 2 0,.int 0 0,.int 0 0,.int 3 0,.ref 251,.bool true,.int 181 0,.ref 252,.none,.ref 253,.ref 254,.ref 255,.int 497 0,.int 98 0,kS "/claim/cut.py" 498])::
 (nat_lit 257,kF "rise" "Council.rise" (kcls (ktop 15) 4) (kS "fencegate.council" 446) 256)::
 (nat_lit 268,kC #[kS "notes" 506,kS "Council.notes" 507,kS "/claim/cut.py" 508,.int 107 0,.int 3 0,.int 0 0,.int 0 0,.int 3 0,.ref 263,.bool true,.int 181 0,.ref 264,.none,.ref 265,.ref 266,.ref 267,.int 512 0,.int 107 0,kS "/claim/cut.py" 513])::
 (nat_lit 269,kF "notes" "Council.notes" (kcls (ktop 15) 6) (kS "fencegate.council" 446) 268)::
 (nat_lit 273,kC #[kS "sayers" 515,kS "Council.sayers" 516,kS "/claim/cut.py" 517,.int 110 0,.int 5 0,.int 0 0,.int 0 0,.int 3 0,.ref 270,.bool true,.int 181 0,.ref 271,.none,.none,.none,.ref 272,.int 518 0,.int 110 0,kS "/claim/cut.py" 519])::
 (nat_lit 274,kF "sayers" "Council.sayers" (kcls (ktop 15) 7) (kS "fencegate.council" 446) 273)::
 (nat_lit 278,kC #[kS "give" 521,kS "Council.give" 522,kS "/claim/cut.py" 523,.int 113 0,.int 6 0,.int 0 0,.int 0 0,.int 3 0,.ref 275,.bool true,.int 181 0,.ref 276,.none,.none,.none,.ref 277,.int 524 0,.int 113 0,kS "/claim/cut.py" 525])::
 (nat_lit 279,kF "give" "Council.give" (kcls (ktop 15) 8) (kS "fencegate.council" 446) 278)::
 (nat_lit 285,kC #[kS "drop" 527,kS "Council.drop" 528,kS "/claim/cut.py" 529,.int 122 0,.int 3 0,.int 0 0,.int 0 0,.int 3 0,.ref 280,.bool true,.int 181 0,.ref 281,.none,.ref 282,.ref 283,.ref 284,.int 536 0,.int 122 0,kS "/claim/cut.py" 537])::
 (nat_lit 286,kF "drop" "Council.drop" (kcls (ktop 15) 9) (kS "fencegate.council" 446) 285)::
 (nat_lit 290,kC #[kS "having" 539,kS "Council.having" 540,kS "/claim/cut.py" 541,.int 129 0,.int 3 0,.int 0 0,.int 0 0,.int 3 0,.ref 287,.bool true,.int 181 0,.ref 288,.none,.none,.none,.ref 289,.int 542 0,.int 129 0,kS "/claim/cut.py" 543])::
 (nat_lit 291,kF "having" "Council.having" (kcls (ktop 15) 10) (kS "fencegate.council" 446) 290)::
 (nat_lit 307,{ cls:=.type "dict",data:=Data.dict #[kE P "__module__" 455 (kS "fencegate.council" 446),kE P "__firstlineno__" 459 (.int 78 458),kE P "__init__" 465 (.ref 231),kE P "keeper_at" 473 (.ref 238),kE P "up_keepers" 479 (.ref 243),kE P "fall" 489 (.ref 250),kE P "rise" 499 (.ref 257),kE P "ups" 505 (.ref 262),kE P "notes" 514 (.ref 269),kE P "sayers" 520 (.ref 274),kE P "give" 526 (.ref 279),kE P "drop" 538 (.ref 286),kE P "having" 544 (.ref 291),kE P "free_by" 553 (.ref 298),kE P "named" 564 (.ref 305),kE P "__static_attributes__" 567 (.ref 306),kE P "__dict__" 569 (.ref 309),kE P "__weakref__" 571 (.ref 310),kE P "__doc__" 572 (.none)] 4 })::
 (nat_lit 308,{ cls:=.type "type",data:=Data.cls { name:=Str.ofString "Council",bases:=[.type "object"],mro:=[.ref 308,.type "object"],ns:=307,qualname:=Str.ofString "Council" },slots:=#[none,none,some (kS "Council" 448),some (kS "Council" 456),some (.builtin "object.__new__"),some (.bool true)] })::
 (nat_lit 309,{ cls:=.type "getset_descriptor",data:=Data.fields #[kS "__dict__" 568,.ref 308,.builtin "function.__dict__",.builtin "function.__dict__#set"] })::
 (nat_lit 310,{ cls:=.type "getset_descriptor",data:=Data.fields #[kS "__weakref__" 570,.ref 308,.builtin "ExceptionGroup.__weakref__",.none] })::
 (nat_lit 318,kC #[kS "_law_at" 577,kS "_law_at" 578,kS "/claim/cut.py" 579,.int 144 0,.int 2 0,.int 0 0,.int 0 0,.int 3 0,.ref 313,.bool true,.int 181 0,.ref 314,.none,.ref 315,.ref 316,.ref 317,.int 582 0,.int 144 0,kS "/claim/cut.py" 583])::
 (nat_lit 319,kF "_law_at" "_law_at" (ktop 17) (kS "law_fencegate_k13_council_having" 575) 318)::
 (nat_lit 323,kC #[kS "_law_same" 585,kS "_law_same" 586,kS "/claim/cut.py" 587,.int 148 0,.int 2 0,.int 0 0,.int 0 0,.int 3 0,.ref 320,.bool true,.int 181 0,.ref 321,.none,.none,.none,.ref 322,.int 588 0,.int 148 0,kS "/claim/cut.py" 589])::
 (nat_lit 324,kF "_law_same" "_law_same" (ktop 18) (kS "law_fencegate_k13_council_having" 575) 323)::
 (nat_lit 330,kC #[kS "_law_name" 591,kS "_law_name" 592,kS "/claim/cut.py" 593,.int 158 0,.int 2 0,.int 0 0,.int 0 0,.int 3 0,.ref 325,.bool true,.int 181 0,.ref 326,.none,.ref 327,.ref 328,.ref 329,.int 603 0,.int 158 0,kS "/claim/cut.py" 604])::
 (nat_lit 331,kF "_law_name" "_law_name" (ktop 19) (kS "law_fencegate_k13_council_having" 575) 330)::
 (nat_lit 335,kC #[kS "_law_names" 606,kS "_law_names" 607,kS "/claim/cut.py" 608,.int 176 0,.int 2 0,.int 0 0,.int 0 0,.int 3 0,.ref 332,.bool true,.int 181 0,.ref 333,.none,.none,.none,.ref 334,.int 609 0,.int 176 0,kS "/claim/cut.py" 610])::
 (nat_lit 336,kF "_law_names" "_law_names" (ktop 20) (kS "law_fencegate_k13_council_having" 575) 335)::
 (nat_lit 342,kC #[kS "_law_locks" 612,kS "_law_locks" 613,kS "/claim/cut.py" 614,.int 178 0,.int 3 0,.int 0 0,.int 0 0,.int 3 0,.ref 337,.bool true,.int 181 0,.ref 338,.none,.ref 339,.ref 340,.ref 341,.int 623 0,.int 178 0,kS "/claim/cut.py" 624])::
 (nat_lit 343,kF "_law_locks" "_law_locks" (ktop 21) (kS "law_fencegate_k13_council_having" 575) 342)::
 (nat_lit 349,kC #[kS "_law_some" 626,kS "_law_some" 627,kS "/claim/cut.py" 628,.int 197 0,.int 2 0,.int 0 0,.int 0 0,.int 3 0,.ref 344,.bool true,.int 181 0,.ref 345,.none,.ref 346,.ref 347,.ref 348,.int 634 0,.int 197 0,kS "/claim/cut.py" 635])::
 (nat_lit 350,kF "_law_some" "_law_some" (ktop 22) (kS "law_fencegate_k13_council_having" 575) 349)::
 (nat_lit 356,kC #[kS "_law_setup" 637,kS "_law_setup" 638,kS "/claim/cut.py" 639,.int 205 0,.int 1 0,.int 0 0,.int 0 0,.int 3 0,.ref 351,.bool true,.int 181 0,.ref 352,.none,.ref 353,.ref 354,.ref 355,.int 646 0,.int 205 0,kS "/claim/cut.py" 647])::
 (nat_lit 357,kF "_law_setup" "_law_setup" (ktop 23) (kS "law_fencegate_k13_council_having" 575) 356)::
 (nat_lit 363,kC #[kS "_law_asked" 649,kS "_law_asked" 650,kS "/claim/cut.py" 651,.int 212 0,.int 3 0,.int 0 0,.int 0 0,.int 3 0,.ref 358,.bool true,.int 181 0,.ref 359,.none,.ref 360,.ref 361,.ref 362,.int 658 0,.int 212 0,kS "/claim/cut.py" 659])::
 (nat_lit 364,kF "_law_asked" "_law_asked" (ktop 24) (kS "law_fencegate_k13_council_having" 575) 363)::
 (nat_lit 370,kC #[kS "_law_line" 661,kS "_law_line" 662,kS "/claim/cut.py" 663,.int 220 0,.int 2 0,.int 0 0,.int 0 0,.int 3 0,.ref 365,.bool true,.int 181 0,.ref 366,.none,.ref 367,.ref 368,.ref 369,.int 669 0,.int 220 0,kS "/claim/cut.py" 670])::
 (nat_lit 371,kF "_law_line" "_law_line" (ktop 25) (kS "law_fencegate_k13_council_having" 575) 370)::
 (nat_lit 377,kC #[kS "_law_way" 672,kS "_law_way" 673,kS "/claim/cut.py" 674,.int 225 0,.int 4 0,.int 0 0,.int 0 0,.int 3 0,.ref 372,.bool true,.int 181 0,.ref 373,.none,.ref 374,.ref 375,.ref 376,.int 679 0,.int 225 0,kS "/claim/cut.py" 680])::
 (nat_lit 378,kF "_law_way" "_law_way" (ktop 26) (kS "law_fencegate_k13_council_having" 575) 377)::
 (nat_lit 384,kC #[kS "_law_new" 682,kS "_law_new" 683,kS "/claim/cut.py" 684,.int 227 0,.int 1 0,.int 0 0,.int 0 0,.int 3 0,.ref 379,.bool true,.int 181 0,.ref 380,.none,.ref 381,.ref 382,.ref 383,.int 686 0,.int 227 0,kS "/claim/cut.py" 687])::
 (nat_lit 385,kF "_law_new" "_law_new" (ktop 27) (kS "law_fencegate_k13_council_having" 575) 384)::
 (nat_lit 391,kC #[kS "_law_naming" 689,kS "_law_naming" 690,kS "/claim/cut.py" 691,.int 229 0,.int 3 0,.int 0 0,.int 0 0,.int 3 0,.ref 386,.bool true,.int 181 0,.ref 387,.none,.ref 388,.ref 389,.ref 390,.int 697 0,.int 229 0,kS "/claim/cut.py" 698])::
 (nat_lit 392,kF "_law_naming" "_law_naming" (ktop 28) (kS "law_fencegate_k13_council_having" 575) 391)::
 (nat_lit 396,kC #[kS "_law_ups" 700,kS "_law_ups" 701,kS "/claim/cut.py" 702,.int 236 0,.int 1 0,.int 0 0,.int 0 0,.int 3 0,.ref 393,.bool true,.int 181 0,.ref 394,.none,.none,.none,.ref 395,.int 703 0,.int 236 0,kS "/claim/cut.py" 704])::
 (nat_lit 397,kF "_law_ups" "_law_ups" (ktop 29) (kS "law_fencegate_k13_council_having" 575) 396)::
 (nat_lit 401,kC #[kS "_law_sayers" 706,kS "_law_sayers" 707,kS "/claim/cut.py" 708,.int 238 0,.int 2 0,.int 0 0,.int 0 0,.int 3 0,.ref 398,.bool true,.int 181 0,.ref 399,.none,.none,.none,.ref 400,.int 709 0,.int 238 0,kS "/claim/cut.py" 710])::
 (nat_lit 402,kF "_law_sayers" "_law_sayers" (ktop 30) (kS "law_fencegate_k13_council_having" 575) 401)::
 (nat_lit 408,kC #[kS "_law_free" 712,kS "_law_free" 713,kS "/claim/cut.py" 714,.int 240 0,.int 2 0,.int 0 0,.int 0 0,.int 3 0,.ref 403,.bool true,.int 181 0,.ref 404,.none,.ref 405,.ref 406,.ref 407,.int 717 0,.int 240 0,kS "/claim/cut.py" 718])::
 (nat_lit 409,kF "_law_free" "_law_free" (ktop 31) (kS "law_fencegate_k13_council_having" 575) 408)::
 (nat_lit 413,kC #[kS "_law_give" 720,kS "_law_give" 721,kS "/claim/cut.py" 722,.int 242 0,.int 2 0,.int 0 0,.int 0 0,.int 3 0,.ref 410,.bool true,.int 181 0,.ref 411,.none,.none,.none,.ref 412,.int 723 0,.int 242 0,kS "/claim/cut.py" 724])::
 (nat_lit 414,kF "_law_give" "_law_give" (ktop 32) (kS "law_fencegate_k13_council_having" 575) 413)::
 (nat_lit 420,kC #[kS "_law_dropped" 726,kS "_law_dropped" 727,kS "/claim/cut.py" 728,.int 259 0,.int 2 0,.int 0 0,.int 0 0,.int 3 0,.ref 415,.bool true,.int 181 0,.ref 416,.none,.ref 417,.ref 418,.ref 419,.int 734 0,.int 259 0,kS "/claim/cut.py" 735])::
 (nat_lit 421,kF "_law_dropped" "_law_dropped" (ktop 33) (kS "law_fencegate_k13_council_having" 575) 420)::
 (nat_lit 425,kC #[kS "_law_having" 737,kS "_law_having" 738,kS "/claim/cut.py" 739,.int 269 0,.int 2 0,.int 0 0,.int 0 0,.int 3 0,.ref 422,.bool true,.int 181 0,.ref 423,.none,.none,.none,.ref 424,.int 740 0,.int 269 0,kS "/claim/cut.py" 741])::
 (nat_lit 426,kF "_law_having" "_law_having" (ktop 34) (kS "law_fencegate_k13_council_having" 575) 425)::
 (nat_lit 432,kC #[kS "_law_given" 743,kS "_law_given" 744,kS "/claim/cut.py" 745,.int 281 0,.int 3 0,.int 0 0,.int 0 0,.int 3 0,.ref 427,.bool true,.int 181 0,.ref 428,.none,.ref 429,.ref 430,.ref 431,.int 750 0,.int 281 0,kS "/claim/cut.py" 751])::
 (nat_lit 433,kF "_law_given" "_law_given" (ktop 35) (kS "law_fencegate_k13_council_having" 575) 432)::
 (nat_lit 439,kC #[kS "_law_council_deed" 753,kS "_law_council_deed" 754,kS "/claim/cut.py" 755,.int 287 0,.int 4 0,.int 0 0,.int 0 0,.int 3 0,.ref 434,.bool true,.int 181 0,.ref 435,.none,.ref 436,.ref 437,.ref 438,.int 769 0,.int 287 0,kS "/claim/cut.py" 770])::
 (nat_lit 440,kF "_law_council_deed" "_law_council_deed" (ktop 36) (kS "law_fencegate_k13_council_having" 575) 439)::
 (nat_lit 446,kC #[kS "law" 772,kS "law" 773,kS "/claim/cut.py" 774,.int 311 0,.int 1 0,.int 0 0,.int 0 0,.int 3 0,.ref 441,.bool true,.int 181 0,.ref 442,.none,.ref 443,.ref 444,.ref 445,.int 785 0,.int 311 0,kS "/claim/cut.py" 786])::
 (nat_lit 447,kF "law" "law" (ktop 37) (kS "law_fencegate_k13_council_having" 575) 446)::[]
noncomputable def ka:List Addr:=2::3::37::38::39::57::58::76::77::95::96::114::115::133::134::142::143::149::150::156::157::170::171::177::178::184::185::189::190::194::195::201::202::206::207::211::212::214::215::216::217::230::231::237::238::242::243::249::250::256::257::268::269::273::274::278::279::285::286::290::291::307::308::309::310::318::319::323::324::330::331::335::336::342::343::349::350::356::357::363::364::370::371::377::378::384::385::391::392::396::397::401::402::408::409::413::414::420::421::425::426::432::433::439::440::446::447::[]
noncomputable def vw:Program:={ PySem.Challenge.pw_fencegate_k13_council_having with main:={ PySem.Challenge.pw_fencegate_k13_council_having.main with body:=ktop 0::ktop 2::ktop 3::ktop 4::ktop 5::ktop 6::ktop 7::ktop 9::ktop 10::ktop 11::ktop 13::ktop 15::ktop 17::ktop 18::ktop 19::ktop 20::ktop 21::ktop 22::ktop 23::ktop 24::ktop 25::ktop 26::ktop 27::ktop 28::ktop 29::ktop 30::ktop 31::ktop 32::ktop 33::ktop 34::ktop 35::ktop 36::ktop 37::[] } }
theorem ka_eq(P:Params):ka=(kk P).map (·.1):=by kernel_rfl
noncomputable def kT(vs:Array Value):Obj:={ cls:=.type "tuple",data:=.seq vs }
noncomputable def hA(P:Params):List Obj:=PySem.W.boot_o_0 P::
 PySem.W.boot_o_1 P::
 PySem.W.boot_o_2 P::
 PySem.W.boot_o_3 P::
 PySem.W.boot_o_4 P::
 PySem.W.boot_o_5 P::
 PySem.W.boot_o_6 P::
 PySem.W.boot_o_7 P::
 PySem.W.boot_o_8 P::
 PySem.W.boot_o_9 P::
 PySem.W.boot_o_10 P::
 kT #[]::
 { cls:=.none,data:=Data.fields #[] }::
 kC #[kS "<module>" 182,kS "<module>" 183,kS "/claim/cut.py" 184,.int 1 0,.int 0 0,.int 0 0,.int 0 0,.int 0 0,.ref 11,.bool false,.int 181 0,.ref 12,.none,.none,.none,.none,.int 185 0,.int 1 0,kS "/claim/cut.py" 186]::
 { cls:=.type "frame",slots:=#[some (.ref 13),some (.ref 3),some (.ref 3),none,some (kS "__main__" 164),none,some (.ref 0)] }::[]
noncomputable def hB(P:Params):List Obj:=PySem.W.boot_o_0 P::
 PySem.W.boot_o_1 P::
 PySem.W.boot_o_2 P::
 PySem.W.boot_o_3 P::
 PySem.W.boot_o_4 P::
 PySem.W.boot_o_5 P::
 PySem.W.boot_o_6 P::
 PySem.W.boot_o_7 P::
 PySem.W.boot_o_8 P::
 PySem.W.boot_o_9 P::
 PySem.W.boot_o_10 P::
 kT #[]::
 { cls:=.none,data:=Data.fields #[] }::
 kC #[kS "<module>" 182,kS "<module>" 183,kS "/claim/cut.py" 184,.int 1 0,.int 0 0,.int 0 0,.int 0 0,.int 0 0,.ref 11,.bool false,.int 181 0,.ref 12,.none,.none,.none,.none,.int 185 0,.int 1 0,kS "/claim/cut.py" 186]::
 { cls:=.type "frame",slots:=#[some (.ref 13),some (.ref 3),some (.ref 3),none,some (kS "__main__" 164),none,some (.ref 0)] }::[]
noncomputable def kB(w:World)(os:OsState):PySem.W.SharedT:=⟨PySem.W.kIns (hB w.params) 0 .nil,15,{},#[],{},187,os⟩
noncomputable def kenv:Env:={ scope:=PySem.Challenge.pw_fencegate_k13_council_having.main.scope,locals:=mainNs,globals:=mainNs,cells:=[],code:=Value.ref 13,frame:=some 14 }
noncomputable def kA(w:World)(os:OsState):Shared:=⟨Heap.mk (Array.mk (hA w.params)) {},#[],{},187,os⟩
theorem zlm(w:World)(os:OsState):PySem.W.topGo treeTable PySem.Challenge.rw_fencegate_k13_council_having.row.prog w 11 (some (Value.ref 6)) 12 ⟨PySem.W.boot_heap w.params,#[],PySem.W.boot_drawn,PySem.W.boot_toks,os⟩ (PySem.W.topStub PySem.Challenge.rw_fencegate_k13_council_having.row.prog)=some (kA w os,⟨denote treeTable (.body (PySem.Challenge.pw_fencegate_k13_council_having.main.body++[]) kenv),(Code.body (PySem.W.behindTheImports PySem.Challenge.pw_fencegate_k13_council_having) kenv),⟨0,0,0,0⟩,[PySem.W.topFrame ⟨0,0,0,0⟩]⟩):=by kernel_rfl
theorem zln(w:World)(os:OsState):PySem.W.segRun treeTable PySem.Challenge.rw_fencegate_k13_council_having.row.prog w 11 (some (Value.ref 6)) 1 1 (kA w os) (PySem.W.blockOf (PySem.Challenge.pw_fencegate_k13_council_having.main.body++[]) kenv (Code.body (PySem.W.behindTheImports PySem.Challenge.pw_fencegate_k13_council_having) kenv) ⟨0,0,0,0⟩ [PySem.W.topFrame ⟨0,0,0,0⟩])=some (.next,(kB w os).abs,(Code.body (PySem.W.behindTheImports PySem.Challenge.pw_fencegate_k13_council_having) kenv),⟨0,0,0,0⟩):=by kernel_rfl
set_option maxHeartbeats 0 in
theorem zmd(w:World)(os:OsState):(PySem.W.Fast.tw10110043849684766642 PySem.W.Fast.tw14364793385576792824 PySem.Challenge.rw_fencegate_k13_council_having.row.prog w 11 (some (Value.ref 6)) 1 3288 (kB w os) (PySem.W.piecesOf PySem.Challenge.pw_fencegate_k13_council_having.main.body kenv (Code.body (PySem.W.behindTheImports PySem.Challenge.pw_fencegate_k13_council_having) kenv) ⟨0,0,0,0⟩ [PySem.W.topFrame ⟨0,0,0,0⟩])).map (fun r=>(r.1,r.2.2.1,r.2.2.2,((PySem.W.Fast.tw14082659384304107361 PySem.W.Fast.tw14364793385576792824 PySem.Challenge.rw_fencegate_k13_council_having.row.prog w 11 (some (Value.ref 6)) 200 r.2.1.abs (PySem.W.restOf [] kenv (Code.body (PySem.W.behindTheImports PySem.Challenge.pw_fencegate_k13_council_having) kenv) ⟨311,0,336,15⟩ [PySem.W.topFrame ⟨0,0,0,0⟩])).bind fun s₁=>match PySem.W.staticsOk (importedModules PySem.Challenge.rw_fencegate_k13_council_having.row.prog.main.body) (PySem.W.boot_heap w.params) s₁.heap&&PySem.W.namesBound PySem.Challenge.rw_fencegate_k13_council_having.row.prog s₁.heap&&PySem.W.gensDone s₁&&PySem.W.laidKept (PySem.W.boot_heap w.params) s₁.heap with
  |true=>some s₁
  |false=>none).map (fun s=>(seen ((recsOf vw).map (·.name)) (ownsOf vw) [] { s with gens:=#[] },s.heap.bltView,s.heap.keysOk (looseW vw []) ((recsOf vw).map (·.name)) ((litsOf vw).map (·.1)) ((clssOf vw (looseW vw [])).map (·.name))&&s.heap.accountedOkI (importedModules PySem.Challenge.rw_fencegate_k13_council_having.row.prog.main.body)&&s.heap.isNs mainGlobals&&s.heap.isNs builtinsNs&&tablesOk vw s.heap&&(PySem.W.xlAt vw [] s&&PySem.W.recOk (PySem.W.RowW.records (PySem.W.OpenRow.toRowW PySem.Challenge.rw_fencegate_k13_council_having.row)) s)&&(if true then s.gens.size==0 else !leftWithCleanup s.gens),tabsOk vw s))))=some (.next,(Code.body (PySem.W.behindTheImports PySem.Challenge.pw_fencegate_k13_council_having) kenv),⟨311,0,336,15⟩,some (expectedOf vw,bltViewBooted,true,true)):=by kernel_rfl
set_option maxHeartbeats 0 in
theorem zme(w:World)(os:OsState):(PySem.W.Fast.tw10110043849684766642 PySem.W.Fast.tw14364793385576792824 PySem.Challenge.rw_fencegate_k13_council_having.row.prog w 11 (some (Value.ref 6)) 1 3288 (kB w os) (PySem.W.piecesOf PySem.Challenge.pw_fencegate_k13_council_having.main.body kenv (Code.body (PySem.W.behindTheImports PySem.Challenge.pw_fencegate_k13_council_having) kenv) ⟨0,0,0,0⟩ [PySem.W.topFrame ⟨0,0,0,0⟩])).map (fun r=>(r.1,r.2.2.1,r.2.2.2,((PySem.W.Fast.tw14082659384304107361 PySem.W.Fast.tw14364793385576792824 PySem.Challenge.rw_fencegate_k13_council_having.row.prog w 11 (some (Value.ref 6)) 200 r.2.1.abs (PySem.W.restOf [] kenv (Code.body (PySem.W.behindTheImports PySem.Challenge.pw_fencegate_k13_council_having) kenv) ⟨311,0,336,15⟩ [PySem.W.topFrame ⟨0,0,0,0⟩])).bind fun s₁=>match PySem.W.staticsOk (importedModules PySem.Challenge.rw_fencegate_k13_council_having.row.prog.main.body) (PySem.W.boot_heap w.params) s₁.heap&&PySem.W.namesBound PySem.Challenge.rw_fencegate_k13_council_having.row.prog s₁.heap&&PySem.W.gensDone s₁&&PySem.W.laidKept (PySem.W.boot_heap w.params) s₁.heap with
  |true=>some s₁
  |false=>none).map (fun s=>plainSeenE vw (looseW vw []) s)))=some (.next,(Code.body (PySem.W.behindTheImports PySem.Challenge.pw_fencegate_k13_council_having) kenv),⟨311,0,336,15⟩,some (plainGoodE vw (looseW vw []))):=by kernel_rfl
set_option maxHeartbeats 0 in
theorem zmf(w:World)(os:OsState):(PySem.W.Fast.tw10110043849684766642 PySem.W.Fast.tw14364793385576792824 PySem.Challenge.rw_fencegate_k13_council_having.row.prog w 11 (some (Value.ref 6)) 1 3288 (kB w os) (PySem.W.piecesOf PySem.Challenge.pw_fencegate_k13_council_having.main.body kenv (Code.body (PySem.W.behindTheImports PySem.Challenge.pw_fencegate_k13_council_having) kenv) ⟨0,0,0,0⟩ [PySem.W.topFrame ⟨0,0,0,0⟩])).map (fun r=>(r.1,r.2.2.1,r.2.2.2,((PySem.W.Fast.tw14082659384304107361 PySem.W.Fast.tw14364793385576792824 PySem.Challenge.rw_fencegate_k13_council_having.row.prog w 11 (some (Value.ref 6)) 200 r.2.1.abs (PySem.W.restOf [] kenv (Code.body (PySem.W.behindTheImports PySem.Challenge.pw_fencegate_k13_council_having) kenv) ⟨311,0,336,15⟩ [PySem.W.topFrame ⟨0,0,0,0⟩])).bind fun s₁=>match PySem.W.staticsOk (importedModules PySem.Challenge.rw_fencegate_k13_council_having.row.prog.main.body) (PySem.W.boot_heap w.params) s₁.heap&&PySem.W.namesBound PySem.Challenge.rw_fencegate_k13_council_having.row.prog s₁.heap&&PySem.W.gensDone s₁&&PySem.W.laidKept (PySem.W.boot_heap w.params) s₁.heap with
  |true=>some s₁
  |false=>none).map (fun s=>(pinSeenD vw (drecsOf vw) s,plainSeenD vw [] s,wideSeen vw s,clsSeenW vw [] s,(PySem.W.kHook kk ka ka_eq).obs s))))=some (.next,(Code.body (PySem.W.behindTheImports PySem.Challenge.pw_fencegate_k13_council_having) kenv),⟨311,0,336,15⟩,some (pinGoodD (drecsOf vw),plainGoodD vw [],wideGood vw,clsGoodW vw [],(PySem.W.kHook kk ka ka_eq).val w)):=by kernel_rfl
theorem zkq(w:World):(((PySem.W.boot_heap w.params).isNs mainGlobals&&(#[]:Array GenState).size==0),(PySem.W.boot_heap w.params).objs.size,(PySem.W.boot_heap w.params).nsMap mainGlobals "__annotations__")=(true,11,(some (Value.ref 6))):=by kernel_rfl
theorem left_ok:PySem.W.LeftO PySem.Challenge.rw_fencegate_k13_council_having.row.prog vw [] (fun s=>PySem.W.xlAt vw [] s&&PySem.W.recOk (PySem.W.RowW.records (PySem.W.OpenRow.toRowW PySem.Challenge.rw_fencegate_k13_council_having.row)) s) (PySem.W.kHook kk ka ka_eq).obs (PySem.W.kHook kk ka ka_eq).val (12+(1+(3288+200))):=
 PySem.W.left_of (PySem.W.boot_open (p:=PySem.Challenge.rw_fencegate_k13_council_having.row.prog) (N:=12+(1+(3288+200))) (by kernel_rfl) (by decide) (fun s=>by kernel_rfl)) zlm zln
  (fun w os=>by
   unfold PySem.W.headSeen
   have x:=zer (zer (zmd w os) (zme w os)) (zmf w os)
   rw[<-PySem.W.Fast.te10110043849684766642,<-PySem.W.Fast.te14082659384304107361,<-PySem.W.Fast.te14364793385576792824]at x
   exact zkp (fun v=>((v.1.1.1,v.1.1.2.1,v.1.1.2.2.1,v.1.1.2.2.2,v.2.1,v.1.2,v.2.2.1,v.2.2.2.1,v.2.2.2.2.1),v.2.2.2.2.2)) (fun s=>rfl) x) zkq
end Fg
end
section
namespace L2
open PySem PySem.Spec PyProof.Rows
noncomputable abbrev Key:=Sum Int Str
noncomputable def z57:Key->Value->Bool
 | .inl k,v=>Value.isInt k v
 | .inr x,v=>Value.isStrOf x v
noncomputable def keyH(w:World):Key->Int
 | .inl k=>hashInt k
 | .inr x=>hashStr w x
theorem z1t:∀{k:Key}{v:Value},z57 k v=true->(∃i t,k=Sum.inl i/\v=Value.int i t)\/(∃x t,k=Sum.inr x/\v=Value.str x t)
 | .inl i,v,h=>by
  obtain⟨t,e⟩:=Value.isInt_shape (k:=i) (v:=v) h
  exact .inl ⟨i,t,rfl,e⟩
 | .inr x,v,h=>by
  obtain⟨t,e⟩:=Value.isStrOf_shape (x:=x) (v:=v) h
  exact .inr ⟨x,t,rfl,e⟩
theorem zay(i:Int)(t:Tok):z57 (.inl i) (.int i t)=true:=by simp[z57,Value.isInt]
theorem zaz(x:Str)(t:Tok):z57 (.inr x) (.str x t)=true:=by simp[z57,Value.isStrOf]
theorem z98(a b:Int):decide ((Sum.inl a:Key)=Sum.inl b)=(a==b):=by
 by_cases e:a=b
 .subst e;simp
 .have h:¬(Sum.inl a:Key)=Sum.inl b:=fun q=>e (Sum.inl.inj q)
  rw[x1g h]
  exact(beq_eq_false_iff_ne.mpr e).symm
theorem zha(a b:Str):decide ((Sum.inr a:Key)=Sum.inr b)=decide (a=b):=by
 by_cases e:a=b
 .subst e;simp
 .have h:¬(Sum.inr a:Key)=Sum.inr b:=fun q=>e (Sum.inr.inj q)
  rw[x1g h,x1g e]
theorem zc8(a:Int)(b:Str):decide ((Sum.inl a:Key)=Sum.inr b)=false:=x1g (fun q=>nomatch q)
theorem zc9(a:Str)(b:Int):decide ((Sum.inr a:Key)=Sum.inl b)=false:=x1g (fun q=>nomatch q)
noncomputable def z21(prog:Program)(w:World):PySem.KeyKind prog w Key where
 is:=z57
 hash:=keyH w
 inj:=fun v a b ha hb=>by
  rcases z1t ha with⟨i,t,rfl,rfl⟩|⟨x,t,rfl,rfl⟩
  .rcases z1t hb with⟨j,u,rfl,e⟩|⟨y,u,rfl,e⟩
   .injection e with e1 _;rw[e1]
   .exact nomatch e
  .rcases z1t hb with⟨j,u,rfl,e⟩|⟨y,u,rfl,e⟩
   .exact nomatch e
   .injection e with e1 _;rw[e1]
 byValue:=fun k v h=>by
  rcases z1t h with⟨i,t,rfl,rfl⟩|⟨x,t,rfl,rfl⟩<;>rfl
 pyHash:=fun hv h=>by
  rcases z1t hv with⟨i,t,rfl,rfl⟩|⟨x,t,rfl,rfl⟩
  .exact wpAny_pyHash_int h
  .exact wpAny_pyHash_str h
 eqBool:=fun hu hv h=>by
  rcases z1t hu with⟨i,t,rfl,rfl⟩|⟨x,t,rfl,rfl⟩
  .rcases z1t hv with⟨j,u,rfl,rfl⟩|⟨y,u,rfl,rfl⟩
   .rw[z98]at h;exact wpAny_eqBool_int h
   .rw[zc8]at h;exact SeqAt.EqAt.int_str i t y u _ _ _ _ h
  .rcases z1t hv with⟨j,u,rfl,rfl⟩|⟨y,u,rfl,rfl⟩
   .rw[zc9]at h;exact SeqAt.EqAt.str_int x t j u _ _ _ _ h
   .rw[zha]at h;exact wpAny_eqBool_str h
 «strs»:=fun k x t v h=>by
  rcases z1t h with⟨i,u,rfl,e⟩|⟨y,u,rfl,e⟩
  .exact nomatch e
  .injection e with e1 _
   subst e1
   cases v<;>rfl
theorem ze4(prog:Program)(w:World)(i:Int)(t:Tok):(z21 prog w).is (.inl i) (.int i t)=true:=zay i t
theorem ze5(prog:Program)(w:World)(x:Str)(t:Tok):(z21 prog w).is (.inr x) (.str x t)=true:=zaz x t
end L2
namespace L2
open PySem PySem.Spec PyProof.Rows
inductive V where
 |non|bl (b:Bool)|int (i:Int)|str (x:Str)|byt (b:Array UInt8)|flt (b:UInt64)|ref (a:Addr)|ty (n:String)
 deriving DecidableEq
noncomputable def RelV:V->Value->Prop
 | .non,u=>u=Value.none
 | .bl b,u=>u=Value.bool b
 | .int i,u=>∃t,u=Value.int i t
 | .str x,u=>∃t,u=Value.str x t
 | .byt b,u=>∃t,u=Value.bytes b t
 | .flt b,u=>∃t,u=Value.float b t
 | .ref a,u=>u=Value.ref a
 | .ty n,u=>u=Value.type n
noncomputable abbrev Vals:List V->List Value->Prop:=Paired RelV
theorem Vals.length{xs:List V}{us:List Value}(r:Vals xs us):xs.length=us.length:=Paired.length r
theorem Vals.get:∀{xs:List V}{us:List Value}{i:Nat}{x:V},Vals xs us->xs[i]? =some x->∃u,us[i]? =some u/\RelV x u
 |_,_,_,_,.nil,e=>by simp at e
 |_,_,0,_,.cons r _,e=>by simp at e;subst e;exact⟨_,rfl,r⟩
 |_,_,i+1,x,.cons _ t,e=>by
  obtain⟨u,h1,h2⟩:=Vals.get (i:=i) (x:=x) t (by simpa using e)
  exact⟨u,by simpa using h1,h2⟩
theorem Vals.set{x:V}{u:Value}(r:RelV x u):∀{xs:List V}{us:List Value}(i:Nat),Vals xs us->Vals (xs.set i x) (us.set i u)
 |_,_,_,.nil=>.nil
 |_,_,0,.cons _ t=>.cons r t
 |_,_,i+1,.cons q t=>.cons q (Vals.set r i t)
theorem Vals.append:∀{xs ys:List V}{us ws:List Value},Vals xs us->Vals ys ws->Vals (xs++ys) (us++ws)
 |_,_,_,_,.nil,s=>s
 |_,_,_,_,.cons r t,s=>.cons r (Vals.append t s)
theorem Vals.take:∀{xs:List V}{us:List Value}(n:Nat),Vals xs us->Vals (xs.take n) (us.take n)
 |_,_,0,_=>.nil
 |_,_,_+1,.nil=>.nil
 |_,_,n+1,.cons r t=>.cons r (Vals.take n t)
theorem Vals.drop:∀{xs:List V}{us:List Value}(n:Nat),Vals xs us->Vals (xs.drop n) (us.drop n)
 |_,_,0,r=>r
 |_,_,_+1,.nil=>.nil
 |_,_,n+1,.cons _ t=>Vals.drop n t
theorem Vals.none_of:∀{xs:List V}{us:List Value}{i:Nat},Vals xs us->xs[i]? =none->us[i]? =none:=fun{xs us i} r e=>by
 have h1:=r.length
 have h2:xs.length<=i:=List.getElem?_eq_none_iff.mp e
 exact List.getElem?_eq_none_iff.mpr (by omega)
noncomputable def RelO:Option V->Option Value->Prop
 |some v,some u=>RelV v u
 |none,none=>True
 |_,_=>False
noncomputable def KV{κ:Type}:List (κ×V)->List (κ×Value)->Prop:=Paired fun(p:κ×V) (q:κ×Value)=>p.1=q.1/\RelV p.2 q.2
noncomputable def kV:Key->V
 | .inl i=>.int i
 | .inr x=>.str x
inductive HO where
 |lst (xs:List V)
 |tup (xs:List V)
 |dK (kvs:List (Key×V))|dT (kvs:List (List Key×V))
 |set (S:Int->Bool) (n:Nat)
 |ins (C dx:Addr) (fs:List (Str×V))
 |own (x:Addr)
 |xd (fs:List (Str×V))
 |met (f x:Addr)
 |rng (lo hi:Int)
 |frz (o:Obj) (u:HO)
 |tbl (ps:Array Value)
 |ext (φ:Heap->Prop)
noncomputable abbrev Hp:=Addr->Option HO
noncomputable def upd(H:Hp)(a:Addr)(o:HO):Hp:=fun b=>if b=a then some o else H b
theorem z8{H:Hp}{a:Addr}{o:HO}:upd H a o a=some o:=by unfold upd;rw[if_pos rfl]
theorem zb{H:Hp}{a b:Addr}{o:HO}(h:b≠a):upd H a o b=H b:=by unfold upd;rw[if_neg h]
theorem zmg{H:Hp}{a b:Addr}{o u:HO}(h:H a=some o)(h':H b=some u)(d:o≠u):a≠b:=by
 intro e;subst e;rw[h]at h';exact d (xq h')
theorem ze{H:Hp}{a b:Addr}{o:HO}(h:H a=some o)(h':H b=none):a≠b:=by
 intro e;subst e;rw[h]at h';cases h'
section
variable (P:Program)(w:World)
noncomputable def ObjOk(H:Hp)(h:Heap)(a:Addr):HO->Prop
 | .lst xs=>xs.length<=sizeLine/\∃(its:List Value) (n:Nat),Vals xs its/\h.get? a=some { cls:=.type "list",data:=.seq its.toArray n }
 | .tup xs=>xs.length<=sizeLine/\∃its:List Value,Vals xs its/\IsTup h a its.toArray
 | .dK kvs=>kvs.length<=sizeLine/\(a==sysModules)=false/\∃vs,KV kvs vs/\h.DictOf (z21 P w) a vs
 | .dT kvs=>kvs.length<=sizeLine/\(a==sysModules)=false/\∃xs:List (List Key×Addr×Value),
   Paired (fun(p:List Key×V) (q:List Key×Addr×Value)=>p.1=q.1/\H q.2.1=some (.tup (p.1.map kV))/\RelV p.2 q.2.2) kvs xs/\
   ∃o es ep,h.get? a=some o/\o.ExactDict/\o.data=.dict es ep/\es.toList=xs.map (entryOfKey (tupleKind (z21 P w)))/\(xs.map (·.1)).Nodup
 | .set S n=>h.SetOf (intKind P w) a S n
 | .ins C dx fs=>H dx=some (.own a)/\fs.length<=1000/\dx≠a/\h.get? a=some (PySem.W.instObj C dx)/\
   ∃mA,h.Ns1 dx mA/\(∀f,RelO (fs.lookup f) (mA f))/\PySem.Within mA (fs.map (·.1))
 | .own _=>∃o,h.get? a=some o
 | .xd fs=>∃mA,h.Ns1 a mA/\∀f,RelO (fs.lookup f) (mA f)
 | .rng lo hi=>∃ t u v,h.get? a=some { cls:=.type "range",data:=.fields #[.int lo t,.int hi u,.int 1 v] }
 | .frz o u=>h.get? a=some o/\ObjOk H h a u
 | .tbl ps=>h.get? a=some { cls:=.none,data:=.fields ps }
 | .met f x=>h.get? a=some (PySem.W.methodObj (.ref f) (.ref x))
 | .ext φ=>φ h/\(∃o,h.get? a=some o)/\∀h1 h2:Heap,φ h1->(∀o,h1.get? a=some o->h2.get? a=some o)->φ h2
noncomputable def HOk(H:Hp)(h:Heap):Prop:=∀a o,H a=some o->ObjOk P w H h a o
end
section
variable {P:Program}{w:World}{H H':Hp}{h h':Heap}{a:Addr}{o:HO}
theorem ObjOk.lt(x:ObjOk P w H h a o):a<h.objs.size:=by
 cases o with
 |lst xs=>obtain⟨_,_,_,_,e⟩:=x;exact xl e
 |tup xs=>obtain⟨_,_,_,p⟩:=x;exact p.lt
 |dK kvs=>obtain⟨_,_,_,_,o,_,_,e,_⟩:=x;exact xl e
 |dT kvs=>obtain⟨_,_,_,_,o,_,_,e,_⟩:=x;exact xl e
 |set S n=>obtain⟨o,_,_,_,e,_⟩:=x;exact xl e
 |ins C dx fs=>obtain⟨_,_,_,e,_⟩:=x;exact xl e
 |own y=>obtain⟨_,e⟩:=x;exact xl e
 |xd fs=>obtain⟨_,⟨_,_,_,e,_⟩,_⟩:=x;exact xl e
 |rng lo hi=>obtain⟨_,_,_,e⟩:=x;exact xl e
 |frz ob u=>obtain⟨e,_⟩:=x;exact xl e
 |tbl ps=>exact xl (show h.get? a=some _ from x)
 |met f y=>exact xl (show h.get? a=some _ from x)
 |ext φ=>obtain⟨_,⟨_,e⟩,_⟩:=x;exact xl e
theorem Paired.mapP{α β:Type}{F G:α->β->Prop}:∀{l₁:List α}{l₂:List β},Paired F l₁ l₂->(∀a b,F a b->G a b)->Paired G l₁ l₂
 |_,_,.nil,_=>.nil
 |_,_,.cons r t,f=>.cons (f _ _ r) (Paired.mapP t f)
theorem ObjOk.stay(x:ObjOk P w H h a o)(k:∀b u,(b=a\/H b=some (.own a))->h.get? b=some u->h'.get? b=some u)
  (ho:∀b,H b=some (.own a)->H' b=some (.own a)) (ht:∀b xs,H b=some (.tup xs)->H' b=some (.tup xs)):ObjOk P w H' h' a o:=by
 induction o with
 |lst xs=>obtain⟨z,its,n,r,e⟩:=x;exact⟨z,its,n,r,k _ _ (.inl rfl) e⟩
 |tup xs=>obtain⟨z,its,r,ob,e,c⟩:=x;exact⟨z,its,r,ob,k _ _ (.inl rfl) e,c⟩
 |dK kvs=>obtain⟨z,y,vs,r,ob,es,ep,e,c⟩:=x;exact⟨z,y,vs,r,ob,es,ep,k _ _ (.inl rfl) e,c⟩
 |dT kvs=>
  obtain⟨z,y,xs,r,ob,es,ep,e,c⟩:=x
  exact⟨z,y,xs,Paired.mapP r fun p q z=>⟨z.1,ht _ _ z.2.1,z.2.2⟩,ob,es,ep,k _ _ (.inl rfl) e,c⟩
 |set S n=>obtain⟨ob,es,ep,t,e,c⟩:=x;exact⟨ob,es,ep,t,k _ _ (.inl rfl) e,c⟩
 |ins C dx fs=>
  obtain⟨d,z,ne,e,mA,⟨od,es,ep,e2,c⟩,r⟩:=x
  exact⟨ho _ d,z,ne,k _ _ (.inl rfl) e,mA,⟨od,es,ep,k _ _ (.inr d) e2,c⟩,r⟩
 |own y=>obtain⟨ob,e⟩:=x;exact⟨ob,k _ _ (.inl rfl) e⟩
 |xd fs=>obtain⟨mA,⟨od,es,ep,e,c⟩,r⟩:=x;exact⟨mA,⟨od,es,ep,k _ _ (.inl rfl) e,c⟩,r⟩
 |rng lo hi=>obtain⟨t,u,v,e⟩:=x;exact⟨t,u,v,k _ _ (.inl rfl) e⟩
 |frz ob u ih=>obtain⟨e,q⟩:=x;exact⟨k _ _ (.inl rfl) e,ih q⟩
 |tbl ps=>
  have e:h.get? a=some { cls:=.none,data:=.fields ps }:=x
  show h'.get? a=some { cls:=.none,data:=.fields ps }
  exact k a _ (.inl rfl) e
 |met f y=>
  have e:h.get? a=some (PySem.W.methodObj (.ref f) (.ref y)):=x
  show h'.get? a=some (PySem.W.methodObj (.ref f) (.ref y))
  exact k a _ (.inl rfl) e
 |ext φ=>obtain⟨p,⟨o,e⟩,st⟩:=x;exact⟨st _ _ p fun o q=>k _ _ (.inl rfl) q,⟨o,k _ _ (.inl rfl) e⟩,st⟩
theorem HOk.lt(x:HOk P w H h)(e:H a=some o):a<h.objs.size:=(x a o e).lt
theorem HOk.fresh(x:HOk P w H h)(e:h.objs.size<=a):H a=none:=by
 cases q:H a with
 |none=>rfl
 |some u=>exact absurd (xt (x.lt q) e) (x0r _)
theorem HOk.kept(x:HOk P w H h)(k:∀b u,h.get? b=some u->h'.get? b=some u):HOk P w H h':=fun a o e=>
 (x a o e).stay (fun b u _ q=>k b u q) (fun _ q=>q) fun _ _ q=>q
theorem HOk.laid(x:HOk P w H h)(k:∀b u,h.get? b=some u->h'.get? b=some u)(hp:h.objs.size<=a)(new:ObjOk P w (upd H a o) h' a o):HOk P w (upd H a o) h':=fun b u e=>by
 have hn:=x.fresh hp
 by_cases hb:b=a
 .subst hb;rw[z8]at e;cases e;exact new
 .rw[zb hb]at e
  exact(x b u e).stay (fun c v _ q=>k c v q) (fun c q=>by rw[zb (ze q hn)];exact q) fun c xs q=>by rw[zb (ze q hn)];exact q
end
noncomputable def Rd(H:Hp)(a:Addr)(u:HO):Prop:=H a=some u\/∃o,H a=some (.frz o u)
theorem Rd.of{H:Hp}{a:Addr}{u:HO}(h:H a=some u):Rd H a u:=.inl h
theorem Rd.ok{P:Program}{w:World}{H:Hp}{h:Heap}{a:Addr}{u:HO}(r:Rd H a u)(x:HOk P w H h):ObjOk P w H h a u:=by
 rcases r with r|⟨o,r⟩
 .exact x a u r
 .obtain⟨_,q⟩:=x a _ r
  exact q
noncomputable def Mut:Option HO->Prop
 |some (.lst _)=>True
 |some (.dK _)=>True
 |some (.dT _)=>True
 |some (.set _ _)=>True
 |some (.ins _ _ _)=>True
 |some (.ext _)=>True
 |_=>False
section
variable {P:Program}{w:World}{H:Hp}{h h':Heap}{x e:Addr}{o':HO}
theorem HOk.write(ok:HOk P w H h)(mu:Mut (H x))(he:e=x\/H e=some (.own x))(k:∀b u,b≠e->h.get? b=some u->h'.get? b=some u)(heo:∃u,h'.get? e=some u)
  (new:ObjOk P w (upd H x o') h' x o'):HOk P w (upd H x o') h':=fun b u q=>by
 have nown:∀c y,H c=some (.own y)->c≠x:=fun c y r z=>by subst z;rw[r]at mu;exact mu
 have ntup:∀c xs,H c=some (.tup xs)->c≠x:=fun c xs r z=>by subst z;rw[r]at mu;exact mu
 by_cases hb:b=x
 .subst hb;rw[z8]at q;cases q;exact new
 .rw[zb hb]at q
  by_cases hbe:b=e
  .have q':H b=some (.own x):=by
    rcases he with z|z
    .exact absurd (hbe.trans z) hb
    .rw[hbe];exact z
   rw[q]at q';cases q'
   obtain⟨v,hv⟩:=heo
   exact⟨v,by rw[hbe];exact hv⟩
  .refine(ok b u q).stay (fun c v hc r=>k c v ?_ r) (fun c r=>by rw[zb (nown c b r)];exact r) fun c xs r=>by rw[zb (ntup c xs r)];exact r
   rcases hc with rfl|hc
   .exact hbe
   .rintro rfl
    rcases he with z|z
    .exact nown c b hc z
    .rw[hc]at z;cases z;exact hb rfl
end
structure Un(fs ex:List Addr)(H H':Hp)(h h':Heap):Prop where
 keep:∀b o,h.get? b=some o->H b=none->b∉fs->b∉ex->h'.get? b=some o
 slot:∀b o,h.get? b=some o->H b=none->b∈fs->b∉ex->∃sl,h'.get? b=some { o with slots:=sl }
 free:∀b o,h.get? b=some o->H b=none->b∉ex->H' b=none
 there:∀b o,h.get? b=some o->b∉ex->∃o',h'.get? b=some o'
 tups:∀b xs,H b=some (.tup xs)->H' b=some (.tup xs)
 frzs:∀b o u,H b=some (.frz o u)->H' b=some (.frz o u)
 tbls:∀b ps,H b=some (.tbl ps)->∃more,H' b=some (.tbl (ps++more))
section
variable {fs fs' ex ex':List Addr}{H H1 H2:Hp}{h h1 h2 h':Heap}{a x e:Addr}{o:HO}
theorem Un.any(u:Un fs ex H H1 h h1){b:Addr}{ob:Obj}(q:h.get? b=some ob)(n:H b=none)(hx:b∉ex):∃sl,h1.get? b=some { ob with slots:=sl }:=by
 by_cases hb:b∈fs
 .exact u.slot b ob q n hb hx
 .exact⟨ob.slots,u.keep b ob q n hb hx⟩
theorem Un.trans(a:Un fs ex H H1 h h1)(b:Un fs ex H1 H2 h1 h2):Un fs ex H H2 h h2 where
 keep:=fun c ob q n hc hx=>b.keep c ob (a.keep c ob q n hc hx) (a.free c ob q n hx) hc hx
 slot:=fun c ob q n hc hx=>by
  obtain⟨sl,e1⟩:=a.slot c ob q n hc hx
  obtain⟨sl',e2⟩:=b.slot c _ e1 (a.free c ob q n hx) hc hx
  exact⟨sl',e2⟩
 free:=fun c ob q n hx=>by
  obtain⟨o',e1⟩:=a.there c ob q hx
  exact b.free c o' e1 (a.free c ob q n hx) hx
 there:=fun c ob q hx=>by
  obtain⟨o',e1⟩:=a.there c ob q hx
  exact b.there c o' e1 hx
 tups:=fun c xs q=>b.tups c xs (a.tups c xs q)
 frzs:=fun c ob xs q=>b.frzs c ob xs (a.frzs c ob xs q)
 tbls:=fun c ps q=>by
  obtain⟨m1,e1⟩:=a.tbls c ps q
  obtain⟨m2,e2⟩:=b.tbls c _ e1
  exact⟨m1++m2,by rw[e2,Array.append_assoc]⟩
theorem Un.kept(k:∀b u,h.get? b=some u->h'.get? b=some u):Un fs ex H H h h':=
 ⟨fun b ob q _ _ _=>k b ob q,fun b ob q _ _ _=>⟨ob.slots,k b ob q⟩,fun _ _ _ n _=>n,fun b ob q _=>⟨ob,k b ob q⟩,fun _ _ q=>q,fun _ _ _ q=>q,fun _ ps q=>⟨#[],by rw[q];simp⟩⟩
theorem Un.refl:Un fs ex H H h h:=Un.kept fun _ _ q=>q
theorem Un.laid(k:∀b u,h.get? b=some u->h'.get? b=some u)(hp:h.objs.size<=a)(hn:H a=none):Un fs ex H (upd H a o) h h' where
 keep:=fun b u q _ _ _=>k b u q
 slot:=fun b u q _ _ _=>⟨u.slots,k b u q⟩
 free:=fun b u q n _=>by rw[zb (xy (xt (xl q) hp))];exact n
 there:=fun b u q _=>⟨u,k b u q⟩
 tups:=fun b xs q=>by rw[zb (ze q hn)];exact q
 frzs:=fun b u xs q=>by rw[zb (ze q hn)];exact q
 tbls:=fun b ps q=>⟨#[],by rw[zb (ze q hn),q];simp⟩
theorem Un.write(mu:Mut (H x))(he:e=x\/H e=some (.own x))(k:∀b u,b≠e->h.get? b=some u->h'.get? b=some u)(heo:∃u,h'.get? e=some u):Un fs ex H (upd H x o) h h':=by
 have hx:∀b,H b=none->b≠x:=fun b n z=>by subst z;rw[n]at mu;exact mu
 have hb:∀b,H b=none->b≠e:=fun b n z=>by
  subst z
  rcases he with r|r
  .exact hx b n r
  .rw[n]at r;cases r
 have hm:∀b u,H b=some u->¬ Mut (some u)->b≠x:=fun b u q nm z=>by subst z;rw[q]at mu;exact nm mu
 refine⟨fun b u q n _ _=>k b u (hb b n) q,fun b u q n _ _=>⟨u.slots,k b u (hb b n) q⟩,fun b u q n _=>by rw[zb (hx b n)];exact n,fun b u q _=>?_,
  fun b xs q=>by rw[zb (hm b _ q fun z=>z)];exact q,fun b u xs q=>by rw[zb (hm b _ q fun z=>z)];exact q,fun b ps q=>⟨#[],by rw[zb (hm b _ q fun z=>z),q];simp⟩⟩
 by_cases hbe:b=e
 .subst hbe;exact heo
 .exact⟨u,k b u hbe q⟩
theorem Un.mono(u:Un fs ex H H1 h h1)(hs:∀b∈fs,b∈fs')(hx:∀b∈ex,b∈ex'):Un fs' ex' H H1 h h1:=
 ⟨fun b ob q n hb he=>u.keep b ob q n (fun z=>hb (hs b z)) fun z=>he (hx b z),fun _ _ q n _ he=>u.any q n fun z=>he (hx _ z),fun b ob q n he=>u.free b ob q n fun z=>he (hx b z),fun b ob q he=>u.there b ob q fun z=>he (hx b z),u.tups,u.frzs,u.tbls⟩
end
noncomputable def trk(h:Heap)(H:Hp):List Addr:=(List.range h.objs.size).filter fun a=>(H a).isSome
noncomputable def hidT(h:Heap)(H:Hp):Heap:=PySem.W.hideAll h (trk h H)
theorem zhb(h:Heap)(H:Hp):(hidT h H).objs.size=h.objs.size:=PySem.W.hideAll_size _ _
theorem zjb{h:Heap}{H:Hp}{b:Addr}{o:Obj}(e:h.get? b=some o)(n:H b=none):(hidT h H).get? b=some o:=
 PySem.W.hideAll_get _ e fun hm=>by
  have q:(H b).isSome=true:=(xi.mp hm).2
  rw[n]at q;simp at q
theorem zkr{h:Heap}{H:Hp}{b:Addr}{o:Obj}(e:(hidT h H).get? b=some o):h.get? b=some o/\H b=none:=by
 have e':h.get? b=some o:=PySem.W.of_hideAll (trk h H) e
 refine⟨e',?_⟩
 cases q:H b with
 |none=>rfl
 |some x=>
  have hm:b∈trk h H:=xi.mpr ⟨x0s.mpr (xl e'),by simp[q]⟩
  have z:(hidT h H).get? b=none:=PySem.W.hideAll_none (trk h H) hm
  rw[z]at e;cases e
noncomputable def z4p(g h:Heap)(L:Addr):List (Addr×Obj):=(List.range h.objs.size).filterMap fun a=>if a=L\/(g.get? a).isSome=true then none else(h.get? a).map fun o=>(a,o)
theorem z8d{g h:Heap}{L a:Addr}{o:Obj}(h1:a≠L)(h2:g.get? a=none)(h3:h.get? a=some o):(a,o)∈z4p g h L:=
 x1o.mpr ⟨a,x0s.mpr (xl h3),by simp[h1,h2,h3]⟩
theorem za6{g h:Heap}{L:Addr}{p:Addr×Obj}(hp:p∈z4p g h L):p.1≠L/\g.get? p.1=none/\h.get? p.1=some p.2:=by
 obtain⟨b,_,e⟩:=x1o.mp hp
 split at e
 .cases e
 .rename_i hn
  cases q:h.get? b with
  |none=>rw[q]at e;simp at e
  |some u=>
   rw[q]at e
   simp only[Option.map_some,Option.some.injEq]at e
   subst e
   refine⟨fun z=>hn (.inl z),?_,q⟩
   show g.get? b=none
   cases r:g.get? b with
   |none=>rfl
   |some v=>exact(hn (.inr (by simp[r]))).elim
noncomputable def rest(g h:Heap)(L d:Addr):List (Addr×Obj):=(z4p g h L).filter fun p=>decide (p.1≠d)
theorem zjc{g h:Heap}{L:Addr}:News g L h (z4p g h L):=fun p hp=>let⟨a,b,c⟩:=za6 hp;⟨c,a,b⟩
end L2
namespace L2
open PySem PySem.Spec PyProof.Rows
structure Mod(K:PySem.W.Frag)(mg:Str->Option Value)(base:Heap):Prop where
 kin:K.In base
 glob:base.Ns mainGlobals mg
 blt:∃ mb,base.Ns builtinsNs mb/\∀ x:Str,x≠ "__name__"->mb x=bootBuiltins x
 nolimit:base.NoLimit
structure Cx where
 prog:Program
 w:World
 K:PySem.W.Frag
 mg:Str->Option Value
 base:Heap
 A:Around
 N:List Str
 s₀:Shared
 H₀:Hp
 env:Env
 outer:List Env
 stack:List Env
 ex:List Addr
 fn:Str->Bool
 calm:Bool
 pn:List (Addr×Obj)
 xe:Value->Shared->Prop
noncomputable def frs(l:List Env):List Addr:=l.filterMap (·.frame)
noncomputable abbrev Cx.fs(X:Cx):List Addr:=frs X.outer
noncomputable def Vis(sc:Scope)(x:Str):Prop:=sc.names.lookup x=some .local\/sc.names.lookup x=some .cell\/sc.names.lookup x=some .free
noncomputable def Loc(sc:Scope)(x:Str):Prop:=sc.names.lookup x=some .local\/sc.names.lookup x=some .cell
noncomputable def Look(env:Env)(h:Heap)(m:Str->Option Value)(x:Str)(u:Value):Prop:=
 (env.kindOf x=some .local/\m x=some u)\/((env.kindOf x=some .cell\/env.kindOf x=some .free)/\∃c,env.cells.lookup x=some c/\h.IsCell c (some u))
structure Cx.Ok(X:Cx):Prop where
 mod:Mod X.K X.mg X.base
 kind:X.env.scope.kind=.function
 glob:X.env.globals=mainGlobals
 blt:X.env.builtins=builtinsNs
 above:X.s₀.heap.objs.size<=X.env.locals
 inj:∀x y c,X.env.cells.lookup x=some c->X.env.cells.lookup y=some c->x=y
 has:∀x,(X.env.kindOf x=some .cell\/X.env.kindOf x=some .free)->∃c,X.env.cells.lookup x=some c
 cab:∀x c,X.fn x=true->X.env.cells.lookup x=some c->X.s₀.heap.objs.size<=c
 hd:X.calm=true->X.A.handled=none
 frames:X.A.frames=some X.stack
 stk:X.stack=X.outer\/(X.stack=X.env::X.outer/\X.env.frame=some X.env.locals)
 exf:∀b∈X.ex,b≠X.env.locals/\∀x c,X.env.cells.lookup x=some c->c≠b
 bs:∀b o,X.base.get? b=some o->X.s₀.heap.get? b=some o/\X.H₀ b=none
 bsz:X.base.objs.size<=X.s₀.heap.objs.size
 noex:∀b o,X.base.get? b=some o->b∉X.ex
 exfs:∀b∈X.ex,b∉X.fs
 funs:X.s₀.heap.FunFrames X.base X.outer
 frf:∀b∈X.fs,X.H₀ b=none
structure Inv(X:Cx)(pins:List (Addr×Obj))(σ:List (Option V))(H:Hp)(s:Shared):Prop where
 ok:X.Ok
 os:s.os=X.s₀.os
 bare:AllBare s.gens
 base:Un X.fs X.ex X.H₀ H X.s₀.heap s.heap
 loc:∃m,s.heap.Ns X.env.locals m/\∀(i:Nat)(x:Str)(v:V),X.N[i]? =some x->σ[i]? =some (some v)->Vis X.env.scope x->∃u,RelV v u/\Look X.env s.heap m x u
 cell:∀x c,X.env.cells.lookup x=some c->∃v,s.heap.IsCell c v
 free:H X.env.locals=none
 freeC:∀x c,X.env.cells.lookup x=some c->H c=none
 pin:∀p∈X.pn++pins,s.heap.get? p.1=some p.2/\H p.1=none/\p.1≠X.env.locals/\p.1∉X.fs/\∀v,p.2.data≠.cell v
 hok:HOk X.prog X.w H s.heap
 len:σ.length=X.N.length
section
variable {X:Cx}{pins:List (Addr×Obj)}{σ:List (Option V)}{H H':Hp}{s:Shared}{h':Heap}
theorem Cx.Ok.nofr(ok:X.Ok){b:Addr}{o:Obj}(e:X.base.get? b=some o):b∉X.fs:=fun hb=>by
 have:=(ok.funs.mem hb).1
 rw[e]at this;cases this
theorem Inv.bs(I:Inv X pins σ H s):∀b o,X.base.get? b=some o->s.heap.get? b=some o/\H b=none:=fun b o e=>
 ⟨I.base.keep b o (I.ok.bs b o e).1 (I.ok.bs b o e).2 (I.ok.nofr e) (I.ok.noex b o e),I.base.free b o (I.ok.bs b o e).1 (I.ok.bs b o e).2 (I.ok.noex b o e)⟩
theorem Inv.bk(I:Inv X pins σ H s):∀b o,X.base.get? b=some o->s.heap.get? b=some o:=fun b o e=>(I.bs b o e).1
theorem Inv.mod(I:Inv X pins σ H s):Mod X.K X.mg X.base:=I.ok.mod
theorem Inv.kIn(I:Inv X pins σ H s):X.K.In s.heap:=I.ok.mod.kin.keeps I.bk
theorem Inv.nolimit(I:Inv X pins σ H s):s.heap.NoLimit:=I.ok.mod.nolimit.keeps I.bk
theorem Inv.fr(I:Inv X pins σ H s):∃m,Fr X.base X.env.locals s.heap m:=
 let⟨m,hn,_⟩:=I.loc
 ⟨m,hn,I.bk,xp I.ok.bsz I.ok.above⟩
theorem Inv.lt(I:Inv X pins σ H s):X.env.locals<s.heap.objs.size:=let⟨_,hn,_⟩:=I.loc;hn.lt
theorem Inv.sz(I:Inv X pins σ H s):X.s₀.heap.objs.size<=s.heap.objs.size:=xp I.ok.above (Nat.le_of_lt I.lt)
theorem Inv.nofs(I:Inv X pins σ H s){a:Addr}(h:s.heap.objs.size<=a):a∉X.fs:=fun hb=>by
 obtain⟨_,o,ho,_⟩:=I.ok.funs.mem hb
 exact absurd (xt (xl ho) (xp I.sz h)) (x0r _)
theorem Inv.cne(I:Inv X pins σ H s):∀x c,X.env.cells.lookup x=some c->c≠X.env.locals:=fun x c e z=>by
 obtain⟨v,o,ho,hd⟩:=I.cell x c e
 obtain⟨m,⟨o',es,ep,ho',hd',_⟩,_⟩:=I.loc
 rw[z,ho']at ho;cases ho;rw[hd']at hd;cases hd
theorem Inv.funs(I:Inv X pins σ H s):s.heap.FunFrames X.base X.outer:=by
 have all:∀(l:List Env),(∀b∈frs l,b∈X.fs)->X.s₀.heap.FunFrames X.base l->s.heap.FunFrames X.base l:=by
  intro l
  induction l with
  |nil=>intro _ _;trivial
  |cons env r ih=>
   intro hs hl
   obtain⟨hk,⟨L,o,hf,hn,ho,hd⟩,hr⟩:=hl
   have hL:L∈X.fs:=hs L (by unfold frs;rw[List.filterMap_cons,hf];exact x0c)
   obtain⟨sl,e⟩:=I.base.slot L o ho (I.ok.frf L hL) hL fun z=>I.ok.exfs L z hL
   exact⟨hk,⟨L,_,hf,hn,e,hd⟩,ih (fun b hb=>hs b (by unfold frs;rw[List.filterMap_cons,hf];exact x09 _ hb)) hr⟩
 exact all X.outer (fun _ hb=>hb) I.ok.funs
theorem Inv.stack(I:Inv X pins σ H s):s.heap.FunFrames X.base X.stack:=by
 rcases I.ok.stk with e|⟨e,hf⟩
 .rw[e];exact I.funs
 .rw[e]
  obtain⟨m,hn,_⟩:=I.loc
  refine .cons (by rw[I.ok.kind];decide) hf hn ?_ I.funs
  exact Heap.get?_none_of_le (xp I.ok.bsz I.ok.above)
theorem Inv.stkSub(I:Inv X pins σ H s):∀b∈frs X.stack,b∈X.env.locals::X.fs:=fun b hb=>by
 rcases I.ok.stk with e|⟨e,hf⟩
 .rw[e]at hb;exact x09 _ hb
 .rw[e]at hb
  unfold frs at hb
  rw[List.filterMap_cons,hf]at hb
  exact hb
theorem Inv.stkFree(I:Inv X pins σ H s):∀b∈frs X.stack,H b=none:=fun b hb=>by
 rcases xo.mp (I.stkSub b hb) with e|hb
 .rw[e];exact I.free
 .obtain⟨_,o,ho,_⟩:=I.ok.funs.mem hb
  exact I.base.free b o ho (I.ok.frf b hb) fun z=>I.ok.exfs b z hb
theorem Inv.step{g':Array GenState}{t':Nat}{d':Drawn}{ch:List Addr}(I:Inv X pins σ H s)
  (hch:∀b∈ch,(b∈X.ex\/X.s₀.heap.objs.size<=b)/\b≠X.env.locals/\(∀x c,X.env.cells.lookup x=some c->c≠b)/\∀p∈X.pn++pins,p.1≠b)
  (keep:∀b o,b≠X.env.locals->b∉X.fs->b∉ch->s.heap.get? b=some o->H b=none->h'.get? b=some o)
  (slot:∀b o,b≠X.env.locals->b∈X.fs->b∉ch->s.heap.get? b=some o->H b=none->∃sl,h'.get? b=some { o with slots:=sl }) (free:∀b o,b∉ch->s.heap.get? b=some o->H b=none->H' b=none)
  (there:∀b o,b∉ch->s.heap.get? b=some o->∃o',h'.get? b=some o')
  (tups:∀b xs,H b=some (.tup xs)->H' b=some (.tup xs)) (frzs:∀b o u,H b=some (.frz o u)->H' b=some (.frz o u)) (tbls:∀b ps,H b=some (.tbl ps)->∃more,H' b=some (.tbl (ps++more)))
  (ns:∀m,s.heap.Ns X.env.locals m->h'.Ns X.env.locals m) (hok:HOk X.prog X.w H' h') (hg:AllBare g'):
  Inv X pins σ H' { s with heap:=h',gens:=g',drawn:=d',toks:=t' }:=by
 have neL:∀b o,X.s₀.heap.get? b=some o->b≠X.env.locals:=fun b o e=>xy (xt (xl e) I.ok.above)
 have neC:∀b o,X.s₀.heap.get? b=some o->b∉X.ex->b∉ch:=fun b o e hx hb=>by
  rcases(hch b hb).1 with z|z
  .exact hx z
  .exact absurd (xt (xl e) z) (x0r _)
 have cellK:∀x c,X.env.cells.lookup x=some c->∀v,s.heap.IsCell c v->h'.IsCell c v:=fun x c e v ⟨o,ho,hd⟩=>by
  have nch:c∉ch:=fun z=>(hch c z).2.2.1 x c e rfl
  by_cases hc:c∈X.fs
  .obtain⟨sl,q⟩:=slot c o (I.cne x c e) hc nch ho (I.freeC x c e)
   exact⟨_,q,hd⟩
  .exact⟨o,keep c o (I.cne x c e) hc nch ho (I.freeC x c e),hd⟩
 refine⟨I.ok,I.os,hg,⟨fun b o e n hb hx=>?_,fun b o e n hb hx=>?_,fun b o e n hx=>?_,fun b o e hx=>?_,fun b xs e=>tups b xs (I.base.tups b xs e),fun b o xs e=>frzs b o xs (I.base.frzs b o xs e),fun b ps e=>?_⟩,?_,fun x c e=>?_,?_,fun x c e=>?_,fun p hp=>?_,hok,I.len⟩
 .exact keep b o (neL b o e) hb (neC b o e hx) (I.base.keep b o e n hb hx) (I.base.free b o e n hx)
 .obtain⟨sl,e1⟩:=I.base.slot b o e n hb hx
  obtain⟨sl',e2⟩:=slot b _ (neL b o e) hb (neC b o e hx) e1 (I.base.free b o e n hx)
  exact⟨sl',e2⟩
 .obtain⟨o',e1⟩:=I.base.there b o e hx
  exact free b o' (neC b o e hx) e1 (I.base.free b o e n hx)
 .obtain⟨o',e1⟩:=I.base.there b o e hx
  exact there b o' (neC b o e hx) e1
 .obtain⟨m1,e1⟩:=I.base.tbls b ps e
  obtain⟨m2,e2⟩:=tbls b _ e1
  exact⟨m1++m2,by rw[e2,Array.append_assoc]⟩
 .obtain⟨m,hn,hl⟩:=I.loc
  refine⟨m,ns m hn,fun i x v e1 e2 e3=>?_⟩
  obtain⟨u,r,l⟩:=hl i x v e1 e2 e3
  refine⟨u,r,?_⟩
  rcases l with l|⟨k,c,e,z⟩
  .exact .inl l
  .exact .inr ⟨k,c,e,cellK x c e _ z⟩
 .obtain⟨v,z⟩:=I.cell x c e
  exact⟨v,cellK x c e v z⟩
 .obtain⟨m,⟨o,_,_,ho,_⟩,_⟩:=I.loc
  exact free _ o (fun z=>(hch _ z).2.1 rfl) ho I.free
 .obtain⟨v,o,ho,hd⟩:=I.cell x c e
  exact free c o (fun z=>(hch c z).2.2.1 x c e rfl) ho (I.freeC x c e)
 .obtain⟨e,n,ne,nf,d⟩:=I.pin p hp
  have nch:p.1∉ch:=fun z=>(hch p.1 z).2.2.2 p hp rfl
  exact⟨keep p.1 p.2 ne nf nch e n,free p.1 p.2 nch e n,ne,nf,d⟩
theorem Inv.un{t':Nat}(I:Inv X pins σ H s)(u:Un X.fs [] H H' s.heap h')(hok:HOk X.prog X.w H' h'):Inv X pins σ H' { s with heap:=h',toks:=t' }:=by
 obtain⟨m,⟨o,es,ep,ho,r⟩,_⟩:=id I.loc
 obtain⟨sl,hL⟩:=u.any ho I.free (by simp)
 exact I.step (g':=s.gens) (d':=s.drawn) (ch:=[]) (fun _ z=>nomatch z) (fun b o _ hb _ e n=>u.keep b o e n hb (by simp)) (fun b o _ hb _ e n=>u.slot b o e n hb (by simp)) (fun b o _ e n=>u.free b o e n (by simp)) (fun b o _ e=>u.there b o e (by simp)) u.tups u.frzs u.tbls (fun m' hm=>by
  obtain⟨o',es',ep',ho',r'⟩:=hm
  rw[ho]at ho';cases ho'
  exact⟨_,es',ep',hL,r'⟩) hok I.bare
theorem Inv.call{g':Array GenState}{t':Nat}{d':Drawn}{ch:List Addr}(I:Inv X pins σ H s)(u:Un (frs X.stack) ch H H' s.heap h')(hok:HOk X.prog X.w H' h')(hg:AllBare g')
  (hch:∀b∈ch,(b∈X.ex\/X.s₀.heap.objs.size<=b)/\b≠X.env.locals/\(∀x c,X.env.cells.lookup x=some c->c≠b)/\∀p∈X.pn++pins,p.1≠b):
  Inv X pins σ H' { s with heap:=h',gens:=g',drawn:=d',toks:=t' }:=by
 obtain⟨m,⟨o,es,ep,ho,r⟩,_⟩:=id I.loc
 obtain⟨sl,hL⟩:=u.any ho I.free fun z=>(hch _ z).2.1 rfl
 exact I.step (ch:=ch) hch (fun b o hL hb hc e n=>u.keep b o e n (fun z=>(xo.mp (I.stkSub b z)).elim hL hb) hc) (fun b o _ _ hc e n=>u.any e n hc) (fun b o hc e n=>u.free b o e n hc) (fun b o hc e=>u.there b o e hc) u.tups u.frzs u.tbls (fun m' hm=>by
  obtain⟨o',es',ep',ho',r'⟩:=hm
  rw[ho]at ho';cases ho'
  exact⟨_,es',ep',hL,r'⟩) hok hg
theorem Inv.turned{t':Nat}{it:Addr}(I:Inv X pins σ H s)(k:∀b o,b≠it->s.heap.get? b=some o->h'.get? b=some o)(hn:H it=none)(hL:it≠X.env.locals)
  (h1:it∈X.ex\/X.s₀.heap.objs.size<=it) (h2:∀x c,X.env.cells.lookup x=some c->c≠it) (h3:∀p∈X.pn++pins,p.1≠it):Inv X pins σ H { s with heap:=h',toks:=t' }:=by
 have nit:∀b u,H b=some u->b≠it:=fun b u e z=>by rw[z,hn]at e;cases e
 refine I.step (g':=s.gens) (d':=s.drawn) (ch:=[it]) (fun b hb=>?_) (fun b o _ _ hc e _=>k b o (fun z=>hc (by simp[z])) e) (fun b o _ _ hc e _=>⟨o.slots,k b o (fun z=>hc (by simp[z])) e⟩) (fun _ _ _ _ n=>n)
  (fun b o hc e=>⟨o,k b o (fun z=>hc (by simp[z])) e⟩) (fun _ _ e=>e) (fun _ _ _ e=>e) (fun b ps e=>⟨#[],by rw[e];simp⟩) (fun m hm=>?_) (fun b u e=>?_) I.bare
 .have e:b=it:=by simpa using hb
  subst e
  exact⟨h1,hL,h2,h3⟩
 .obtain⟨o,es,ep,ho,r⟩:=hm
  exact⟨o,es,ep,k _ o (Ne.symm hL) ho,r⟩
 .refine(I.hok b u e).stay (fun c v hc q=>k c v ?_ q) (fun _ q=>q) fun _ _ q=>q
  rcases hc with z|z
  .rw[z];exact nit b u e
  .exact nit c _ z
theorem Inv.tok(I:Inv X pins σ H s)(t:Nat):Inv X pins σ H { s with toks:=t }:=I.un (h':=s.heap) (t':=t) Un.refl I.hok
theorem Inv.kept{t':Nat}(I:Inv X pins σ H s)(k:∀b u,s.heap.get? b=some u->h'.get? b=some u):Inv X pins σ H { s with heap:=h',toks:=t' }:=I.un (Un.kept k) (I.hok.kept k)
theorem Inv.laid{a:Addr}{o:HO}{t':Nat}(I:Inv X pins σ H s)(k:∀b u,s.heap.get? b=some u->h'.get? b=some u)(hp:s.heap.objs.size<=a)(new:ObjOk X.prog X.w (upd H a o) h' a o):
  Inv X pins σ (upd H a o) { s with heap:=h',toks:=t' }:=I.un (Un.laid k hp (I.hok.fresh hp)) (I.hok.laid k hp new)
theorem Inv.write{x e:Addr}{o:HO}{t':Nat}(I:Inv X pins σ H s)(mu:Mut (H x))(he:e=x\/H e=some (.own x))(k:∀b u,b≠e->s.heap.get? b=some u->h'.get? b=some u)(heo:∃u,h'.get? e=some u)
  (new:ObjOk X.prog X.w (upd H x o) h' x o):Inv X pins σ (upd H x o) { s with heap:=h',toks:=t' }:=I.un (Un.write mu he k heo) (I.hok.write mu he k heo new)
theorem Inv.weak{σ':List (Option V)}(I:Inv X pins σ H s)(hl:σ'.length=σ.length)(w:∀(i:Nat) v,σ'[i]? =some (some v)->σ[i]? =some (some v)):Inv X pins σ' H s:=
 ⟨I.ok,I.os,I.bare,I.base,let⟨m,hn,hl'⟩:=I.loc;⟨m,hn,fun i x v e1 e2 e3=>hl' i x v e1 (w i v e2) e3⟩,I.cell,I.free,I.freeC,I.pin,I.hok,hl.trans I.len⟩
theorem Inv.pins_of{pins':List (Addr×Obj)}(I:Inv X pins σ H s)(h:∀p∈pins',s.heap.get? p.1=some p.2/\H p.1=none/\p.1≠X.env.locals/\p.1∉X.fs/\∀v,p.2.data≠.cell v):Inv X pins' σ H s:=
 ⟨I.ok,I.os,I.bare,I.base,I.loc,I.cell,I.free,I.freeC,fun p hp=>(xz.mp hp).elim (fun z=>I.pin p (x0t _ z)) (h p),I.hok,I.len⟩
theorem zca{N:List Str}(hN:N.Nodup){i j:Nat}{x:Str}(a:N[i]? =some x)(b:N[j]? =some x):i=j:=by
 obtain⟨h1,e1⟩:=xg.mp a
 obtain⟨h2,e2⟩:=xg.mp b
 exact(List.getElem_inj hN).mp (e1.trans e2.symm)
theorem zb0{M:Model}{A:Around}{E:Value->Shared->Prop}{i:Nat}{x:Str}{v:V}{u:Value}{Q:Unit->Shared->Prop}(I:Inv X pins σ H s)(hN:X.N.Nodup)(hi:X.N[i]? =some x)(hx:Loc X.env.scope x)(r:RelV v u)
  (h:∀s',Inv X pins (σ.set i (some v)) H s'->(∃a,Heap.SameBut a s.heap s'.heap/\(a=X.env.locals\/X.env.cells.lookup x=some a))->Q () s') (hf:X.fn x=true\/X.env.scope.names.lookup x=some .local:=by first|exact .inl rfl|exact .inr rfl|assumption):wpAny M A (storeName X.env x u) Q E s:=by
 obtain⟨m,hn,hl⟩:=id I.loc
 have hcls:(X.env.scope.kind== .class||(X.env.scope.kind== .module&&X.env.locals !=X.env.globals))=false:=by rw[I.ok.kind];rfl
 have hiσ:i<σ.length:=by rw[I.len];exact(xg.mp hi).1
 have cne:=I.cne
 have tracked:∀{a:Addr}{h':Heap},(∃o,s.heap.get? a=some o/\H a=none)->Heap.SameBut a s.heap h'->HOk X.prog X.w H h':=fun{a h'} ha hs b ob e=>by
  obtain⟨_,_,hfree⟩:=ha
  refine(I.hok b ob e).stay (fun c w' hc q=>(hs.2 c ?_).trans q) (fun _ q=>q) fun _ _ q=>q
  rintro rfl
  rcases hc with rfl|hc
  .rw[hfree]at e;cases e
  .rw[hfree]at hc;cases hc
 rcases hx with hk|hk
 .refine wpAny_storeName_local hk hn (fun h' hn' hs=>?_) hcls
  obtain⟨oL,_,_,hoL,_⟩:=id hn
  refine h _ ⟨I.ok,I.os,I.bare,⟨fun b o e n hb hx=>?_,fun b o e n hb hx=>?_,I.base.free,fun b o e hx=>?_,I.base.tups,I.base.frzs,I.base.tbls⟩,⟨_,hn',fun j y v' e1 e2 e3=>?_⟩,fun y c e=>?_,I.free,I.freeC,fun p hp=>?_,tracked ⟨oL,hoL,I.free⟩ hs,by simpa using I.len⟩ ⟨_,hs,.inl rfl⟩
  .exact(hs.2 b (xy (xt (xl e) I.ok.above))).trans (I.base.keep b o e n hb hx)
  .obtain⟨sl,e1⟩:=I.base.slot b o e n hb hx
   exact⟨sl,(hs.2 b (xy (xt (xl e) I.ok.above))).trans e1⟩
  .obtain⟨o',e1⟩:=I.base.there b o e hx
   exact⟨o',(hs.2 b (xy (xt (xl e) I.ok.above))).trans e1⟩
  .by_cases hj:j=i
   .subst hj
    rw[hi]at e1;cases e1
    rw[x0x hiσ]at e2
    cases e2
    exact⟨u,r,.inl ⟨hk,by simp⟩⟩
   .rw[x0y (Ne.symm hj)]at e2
    obtain⟨u',r',q⟩:=hl j y v' e1 e2 e3
    refine⟨u',r',?_⟩
    rcases q with⟨k,e⟩|⟨k,c,e,z⟩
    .refine .inl ⟨k,?_⟩
     have:y≠x:=fun e=>hj (zca hN e1 (e▸hi))
     simp[this,e]
    .exact .inr ⟨k,c,e,z.sameBut hs (cne y c e)⟩
  .obtain⟨w',z⟩:=I.cell y c e
   exact⟨w',z.sameBut hs (cne y c e)⟩
  .obtain⟨e,n,ne,nf,d⟩:=I.pin p hp
   exact⟨(hs.2 p.1 ne).trans e,n,ne,nf,d⟩
 .have hfn:X.fn x=true:=by
   rcases hf with z|z
   .exact z
   .rw[z]at hk;cases hk
  obtain⟨c,hc⟩:=I.ok.has x (.inl hk)
  obtain⟨w',z⟩:=I.cell x c hc
  refine wpAny_storeName_cell I.ok.kind hk hc z (fun h' hc' hs=>?_)
  obtain⟨oc,hoc,hocd⟩:=id z
  refine h { s with heap:=h' } ⟨I.ok,I.os,I.bare,⟨fun b o e n hb hx=>?_,fun b o e n hb hx=>?_,I.base.free,fun b o e hx=>?_,I.base.tups,I.base.frzs,I.base.tbls⟩,⟨m,hn.sameBut hs (Ne.symm (cne x c hc)),fun j y v' e1 e2 e3=>?_⟩,fun y c' e=>?_,I.free,I.freeC,fun p hp=>?_,tracked ⟨oc,hoc,I.freeC x c hc⟩ hs,by simpa using I.len⟩ ⟨c,hs,.inr hc⟩
  .exact(hs.2 b (xy (xt (xl e) (I.ok.cab x c hfn hc)))).trans (I.base.keep b o e n hb hx)
  .obtain⟨sl,e1⟩:=I.base.slot b o e n hb hx
   exact⟨sl,(hs.2 b (xy (xt (xl e) (I.ok.cab x c hfn hc)))).trans e1⟩
  .obtain⟨o',e1⟩:=I.base.there b o e hx
   exact⟨o',(hs.2 b (xy (xt (xl e) (I.ok.cab x c hfn hc)))).trans e1⟩
  .by_cases hj:j=i
   .subst hj
    rw[hi]at e1;cases e1
    rw[x0x hiσ]at e2
    cases e2
    exact⟨u,r,.inr ⟨.inl hk,c,hc,hc'⟩⟩
   .rw[x0y (Ne.symm hj)]at e2
    obtain⟨u',r',q⟩:=hl j y v' e1 e2 e3
    refine⟨u',r',?_⟩
    rcases q with q|⟨k,c',e,z'⟩
    .exact .inl q
    .refine .inr ⟨k,c',e,z'.sameBut hs ?_⟩
     rintro rfl
     exact hj (zca hN e1 (I.ok.inj _ _ _ e hc▸hi))
  .by_cases hcc:c'=c
   .subst hcc;exact⟨_,hc'⟩
   .obtain⟨w2,z2⟩:=I.cell y c' e
    exact⟨w2,z2.sameBut hs hcc⟩
  .obtain⟨e,n,ne,nf,d⟩:=I.pin p hp
   refine⟨(hs.2 p.1 ?_).trans e,n,ne,nf,d⟩
   intro q
   rw[q,hoc]at e
   have q':oc=p.2:=xq e
   exact d w' (by rw[<-q'];exact hocd)
theorem z8m{M:Model}{A:Around}{E:Value->Shared->Prop}{i:Nat}{x:Str}{v:V}{u:Value}{Q:Unit->Shared->Prop}(I:Inv X pins σ H s)(hN:X.N.Nodup)(hi:X.N[i]? =some x)(hx:Loc X.env.scope x)(r:RelV v u)
  (h:∀s',Inv X pins (σ.set i (some v)) H s'->Q () s') (hf:X.fn x=true\/X.env.scope.names.lookup x=some .local:=by first|exact .inl rfl|exact .inr rfl|assumption):wpAny M A (storeName X.env x u) Q E s:=
 zb0 I hN hi hx r (fun s' I' _=>h s' I') hf
theorem Inv.call'{s':Shared}{ch:List Addr}(I:Inv X pins σ H s)(ho:s'.os=s.os)(u:Un (frs X.stack) ch H H' s.heap s'.heap)(hok:HOk X.prog X.w H' s'.heap)(hg:AllBare s'.gens)
  (hch:∀b∈ch,(b∈X.ex\/X.s₀.heap.objs.size<=b)/\b≠X.env.locals/\(∀x c,X.env.cells.lookup x=some c->c≠b)/\∀p∈X.pn++pins,p.1≠b):Inv X pins σ H' s':=by
 obtain⟨h',g',d',t',o'⟩:=s'
 have e:o'=s.os:=ho
 subst e
 exact I.call (g':=g') (t':=t') (d':=d') u hok hg hch
end
noncomputable abbrev XK:=Value->Option Addr->Hp->Prop
noncomputable abbrev St:=List (Option V)
noncomputable abbrev VK:=V->Hp->Prop
noncomputable abbrev TE:=St->Hp->VK->Prop
noncomputable abbrev TT:=St->Hp->(Bool->Hp->Prop)->Prop
noncomputable abbrev TA:=St->Hp->(List V->Hp->Prop)->Prop
structure Ends where
 nx:St->Hp->Prop
 rt:VK
 bk:St->Hp->Prop:=fun _ _=>False
 ct:St->Hp->Prop:=fun _ _=>False
noncomputable abbrev TS:=Ends->St->Hp->Prop
noncomputable def EP(X:Cx)(pins:List (Addr×Obj))(σ:St)(Q:VK)(u:Value)(s':Shared):Prop:=∃v H',Inv X pins σ H' s'/\RelV v u/\Q v H'
noncomputable def TP(X:Cx)(pins:List (Addr×Obj))(σ:St)(Q:Bool->Hp->Prop)(b:Bool)(s':Shared):Prop:=∃H',Inv X pins σ H' s'/\Q b H'
noncomputable def AP(X:Cx)(pins:List (Addr×Obj))(σ:St)(Q:List V->Hp->Prop)(us:List Value)(s':Shared):Prop:=∃vs H',Inv X pins σ H' s'/\Vals vs us/\Q vs H'
noncomputable def SP(X:Cx)(pins:List (Addr×Obj))(D:Ends)(f:Flow)(s':Shared):Prop:=
 match f with
 | .next=>∃σ' H',Inv X pins σ' H' s'/\D.nx σ' H'
 | .brk=>∃σ' H',Inv X pins σ' H' s'/\D.bk σ' H'
 | .cont=>∃σ' H',Inv X pins σ' H' s'/\D.ct σ' H'
 | .ret u=>∃v σ' H',Inv X pins σ' H' s'/\RelV v u/\D.rt v H'
noncomputable def PE(X:Cx)(e:Expr)(t:TE):Prop:=
 ∀(pins:List (Addr×Obj))(s:Shared)(σ:St)(H:Hp)(Q:VK),Inv X pins σ H s->t σ H Q->wpAny (model X.prog X.w) X.A (eval e X.env) (EP X pins σ Q) X.xe s
noncomputable def PT(X:Cx)(e:Expr)(t:TT):Prop:=
 ∀(pins:List (Addr×Obj))(s:Shared)(σ:St)(H:Hp)(Q:Bool->Hp->Prop),Inv X pins σ H s->t σ H Q->wpAny (model X.prog X.w) X.A (isTrue e X.env (eval e X.env)) (TP X pins σ Q) X.xe s
noncomputable def PW(X:Cx)(e:Expr)(t:TT):Prop:=
 ∀(whole:Sem Value)(pins:List (Addr×Obj))(s:Shared)(σ:St)(H:Hp)(Q:Bool->Hp->Prop),Inv X pins σ H s->t σ H Q->wpAny (model X.prog X.w) X.A (isTrue e X.env whole) (TP X pins σ Q) X.xe s
theorem PW.pt{X:Cx}{e:Expr}{t:TT}(h:PW X e t):PT X e t:=h _
noncomputable def PA(X:Cx)(es:List Expr)(t:TA):Prop:=
 ∀(pos:Pos)(pins:List (Addr×Obj))(s:Shared)(σ:St)(H:Hp)(Q:List V->Hp->Prop),Inv X pins σ H s->t σ H Q->wpAny (model X.prog X.w) X.A (spliced (backTo pos (starEach es X.env))) (AP X pins σ Q) X.xe s
noncomputable def PS(X:Cx)(st:Stmt)(t:TS):Prop:=
 ∀(pins:List (Addr×Obj))(s:Shared)(σ:St)(H:Hp)(D:Ends),Inv X pins σ H s->t D σ H->wpAny (model X.prog X.w) X.A (exec st X.env) (SP X pins D) X.xe s
noncomputable def PSs(X:Cx)(st:List Stmt)(t:TS):Prop:=
 ∀(pins:List (Addr×Obj))(s:Shared)(σ:St)(H:Hp)(D:Ends),Inv X pins σ H s->t D σ H->wpAny (model X.prog X.w) X.A (execs st X.env) (SP X pins D) X.xe s
theorem thn{α:Type}{t:Sem α}{Q Q':α->Shared->Prop}{M:Model}{A:Around}{E:Value->Shared->Prop}{s:Shared}(h:wpAny M A t Q E s)(hQ:∀a s,Q a s->Q' a s):wpAny M A t Q' E s:=x0f h hQ fun _ _ x=>x
end L2
namespace L2
open PySem PySem.Spec PyProof.Rows
section
variable {X:Cx}
noncomputable def tVar(i:Nat):TE:=fun σ H Q=>∃v,σ[i]? =some (some v)/\Q v H
noncomputable def tC(v:V):TE:=fun _ H Q=>Q v H
theorem zlo{i:Nat}{x:Str}{pos:Pos}(hN:X.N[i]? =some x)(hv:Vis X.env.scope x)(hd:(x==("__debug__":Str))=false:=by decide)(hcd:(x==("__classdict__":Str))=false:=by decide):PE X (.Name x pos) (tVar i):=by
 intro pins s σ H Q I h
 obtain⟨v,e,h⟩:=h
 obtain⟨m,hn,hl⟩:=I.loc
 obtain⟨u,r,l⟩:=hl i x v hN e hv
 have fin:EP X pins σ Q u s:=⟨v,H,I,r,h⟩
 rcases l with⟨hk,hm⟩|⟨hk,c,hc,hcell⟩
 .exact wpAny_Name (wpAny_loadName_local I.ok.kind hk hn hm fin) hd
 .rcases hk with hk|hk
  .exact wpAny_Name (wpAny_loadName_cell I.ok.kind hk hc hcell fin) hd
  .exact wpAny_Name (wpAny_loadName_free I.ok.kind hk hc hcell fin hcd) hd
theorem z7{i j pos}:PE X (.Constant (.int i) j pos) (tC (.int i)):=fun _ _ _ H _ I h=>wpAny_Constant_int ⟨.int i,H,I.tok _,⟨_,rfl⟩,h⟩
theorem z2b{b j pos}:PE X (.Constant (.bool b) j pos) (tC (.bl b)):=fun _ _ _ H _ I h=>Constant_bool ⟨.bl b,H,I,rfl,h⟩
theorem zlp{j pos}:PE X (.Constant .none j pos) (tC .non):=fun _ _ _ H _ I h=>Constant_none ⟨.non,H,I,rfl,h⟩
theorem zl{x j pos}:PE X (.Constant (.str x) j pos) (tC (.str x)):=fun _ _ _ H _ I h=>Calls.Constant_str ⟨.str x,H,I.tok _,⟨_,rfl⟩,h⟩
noncomputable def Gl(X:Cx)(x:Str):Prop:=X.env.kindOf x=some .globalImplicit
theorem z5r{E:Value->Shared->Prop}{pins:List (Addr×Obj)}{s:Shared}{σ:St}{H:Hp}{x:Str}{u:Value}{pos:Pos}{Q:Value->Shared->Prop}(I:Inv X pins σ H s)(hg:Gl X x)(hm:X.mg x=some u)(h:Q u s)
  (hd:(x==("__debug__":Str))=false:=by decide):wpAny (model X.prog X.w) X.A (eval (.Name x pos) X.env) Q E s:=
 Calls.Name_function_global I.ok.kind hg (Calls.loadGlobal_global (by rw[I.ok.glob];exact I.mod.glob.keeps I.bk) hm h) hd
theorem z5s{E:Value->Shared->Prop}{pins:List (Addr×Obj)}{s:Shared}{σ:St}{H:Hp}{x:Str}{u:Value}{pos:Pos}{Q:Value->Shared->Prop}(I:Inv X pins σ H s)(hg:Gl X x)(hm:X.mg x=none)(hv:bootBuiltins x=some u)(h:Q u s)
  (hn:x≠ "__name__":=by decide) (hd:(x==("__debug__":Str))=false:=by decide):wpAny (model X.prog X.w) X.A (eval (.Name x pos) X.env) Q E s:=by
 obtain⟨mb,h1,h2⟩:=I.mod.blt
 exact Calls.Name_function_global I.ok.kind hg (Calls.loadGlobal_builtin (by rw[I.ok.glob];exact I.mod.glob.keeps I.bk) hm (by rw[I.ok.blt];exact h1.keeps I.bk) ((h2 x hn).trans hv) h) hd
theorem z10{x:Str}{v:V}{u:Value}{pos:Pos}(hg:Gl X x)(hm:X.mg x=none)(hv:bootBuiltins x=some u)(r:RelV v u)(hn:x≠ "__name__":=by decide)(hd:(x==("__debug__":Str))=false:=by decide):PE X (.Name x pos) (tC v):=
 fun _ _ _ H _ I h=>z5s I hg hm hv ⟨v,H,I,r,h⟩ hn hd
variable {a b:Expr}{ta tb:TE}{pos:Pos}
noncomputable def tB(t:TE):TT:=fun σ H Q=>t σ H fun x H1=>∃c,x=.bl c/\Q c H1
theorem z1i{e:Expr}{t:TE}(h:PE X e t)(he:∀whole,isTrue e X.env whole=(do let v<-whole;standAt e.pos;holding [v] (truthy v)):=by intro _;rfl):PT X e (tB t):=by
 intro pins s σ H Q I hw
 refine isTrue_plain (thn (h pins s σ H _ I hw) fun v s1 ⟨x,H1,I1,r1,q1⟩=>?_) (he _)
 obtain⟨d,rfl,q⟩:=q1
 cases r1
 exact wpAny_truthy_bool ⟨H1,I1,q⟩
variable {tA tB':TT}{rest:List Expr}
noncomputable def tAnd(t u:TT):TT:=fun σ H Q=>t σ H fun c H1=>if c=true then u σ H1 Q else Q false H1
noncomputable def tOr(t u:TT):TT:=fun σ H Q=>t σ H fun c H1=>if c=true then Q true H1 else u σ H1 Q
noncomputable def tNot(t:TT):TT:=fun σ H Q=>t σ H fun c H1=>Q (!c) H1
theorem z3v(ha:PT X a tA):PW X (.BoolOp .And [a] pos) tA:=by
 intro wh pins s σ H Q I h
 refine isTrue_and (thn (ha pins s σ H Q I h) fun c s1 e=>?_)
 cases c with
 |true=>exact isTrue_and_nil e
 |false=>exact e
theorem z71(ha:PT X a tA):PW X (.BoolOp .Or [a] pos) tA:=by
 intro wh pins s σ H Q I h
 refine isTrue_or (thn (ha pins s σ H Q I h) fun c s1 e=>?_)
 cases c with
 |false=>exact isTrue_or_nil e
 |true=>exact e
theorem z2w(ha:PT X a tA)(hb:PW X (.BoolOp .And (b::rest) pos) tB'):PW X (.BoolOp .And (a::b::rest) pos) (tAnd tA tB'):=by
 intro wh pins s σ H Q I h
 refine isTrue_and (thn (ha pins s σ H _ I h) fun c s1 ⟨H1,I1,q1⟩=>?_)
 cases c with
 |true=>exact hb wh pins s1 σ H1 Q I1 q1
 |false=>exact⟨H1,I1,q1⟩
theorem z99(ha:PT X a tA)(hb:PW X (.BoolOp .Or (b::rest) pos) tB'):PW X (.BoolOp .Or (a::b::rest) pos) (tOr tA tB'):=by
 intro wh pins s σ H Q I h
 refine isTrue_or (thn (ha pins s σ H _ I h) fun c s1 ⟨H1,I1,q1⟩=>?_)
 cases c with
 |true=>exact⟨H1,I1,q1⟩
 |false=>exact hb wh pins s1 σ H1 Q I1 q1
theorem z3l(ha:PT X a tA):PT X (.UnaryOp .Not a pos) (tNot tA):=by
 intro pins s σ H Q I h
 exact isTrue_not (ha pins s σ H (fun c H1=>Q (!c) H1) I h)
noncomputable def zfl(ta tb:TE):TE:=fun σ H Q=>ta σ H fun x H1=>∃c,x=.bl c/\if c=true then tb σ H1 Q else Q (.bl false) H1
noncomputable def tOrV(ta tb:TE):TE:=fun σ H Q=>ta σ H fun x H1=>∃c,x=.bl c/\if c=true then Q (.bl true) H1 else tb σ H1 Q
noncomputable def zfm(ta:TE):TE:=fun σ H Q=>ta σ H fun x H1=>∃c,x=.bl c/\Q (.bl (!c)) H1
theorem z2a{op}{t:TE}(h:PE X a t):PE X (.BoolOp op [a] pos) t:=fun pins s σ H Q I hw=>BoolOp_one (h pins s σ H Q I hw)
theorem z2e(ha:PE X a ta)(hb:PE X (.BoolOp .And (b::rest) pos) tb):PE X (.BoolOp .And (a::b::rest) pos) (zfl ta tb):=by
 intro pins s σ H Q I h
 refine BoolOp_and (thn (ha pins s σ H _ I h) fun v s1 ⟨x,H1,I1,r1,q1⟩=>?_)
 obtain⟨c,rfl,q1⟩:=q1
 cases r1
 refine wpAny_truthy_bool ?_
 cases c with
 |true=>exact hb pins s1 σ H1 Q I1 q1
 |false=>exact⟨.bl false,H1,I1,rfl,q1⟩
theorem zmh(ha:PE X a ta)(hb:PE X (.BoolOp .Or (b::rest) pos) tb):PE X (.BoolOp .Or (a::b::rest) pos) (tOrV ta tb):=by
 intro pins s σ H Q I h
 refine BoolOp_or (thn (ha pins s σ H _ I h) fun v s1 ⟨x,H1,I1,r1,q1⟩=>?_)
 obtain⟨c,rfl,q1⟩:=q1
 cases r1
 refine wpAny_truthy_bool ?_
 cases c with
 |false=>exact hb pins s1 σ H1 Q I1 q1
 |true=>exact⟨.bl true,H1,I1,rfl,q1⟩
theorem zcb(ha:PE X a ta):PE X (.UnaryOp .Not a pos) (zfm ta):=by
 intro pins s σ H Q I h
 refine UnaryOp_ (thn (ha pins s σ H _ I h) fun v s1 ⟨x,H1,I1,r1,q1⟩=>?_)
 obtain⟨c,rfl,q1⟩:=q1
 cases r1
 exact not_of (wpAny_truthy_bool ⟨.bl (!c),H1,I1,rfl,q1⟩)
end
end L2
namespace L2
open PySem PySem.Spec PyProof.Rows
noncomputable def SqL(K:PySem.W.Frag)(H:Hp)(a:Addr)(xs:List V):Prop:=
 Rd H a (.lst xs)\/
  ∃(o:Obj) (its:Array Value) (n:Nat),K.lookup a=some o/\o.cls=.type "list"/\o.dict=none/\o.data=.seq its n/\its.size<=sizeLine/\Vals xs its.toList
noncomputable def SqT(K:PySem.W.Frag)(H:Hp)(a:Addr)(xs:List V):Prop:=
 Rd H a (.tup xs)\/
  ∃(o:Obj) (its:Array Value) (n:Nat),K.lookup a=some o/\o.cls=.type "tuple"/\o.data=.seq its n/\its.size<=sizeLine/\Vals xs its.toList
noncomputable def absV:Value->Option V
 | .none=>some .non
 | .bool b=>some (.bl b)
 | .int i _=>some (.int i)
 | .str x _=>some (.str x)
 | .bytes b _=>some (.byt b)
 | .float b _=>some (.flt b)
 | .ref a=>some (.ref a)
 | .type n=>some (.ty n)
 |_=>none
theorem RelV.abs{x:V}{u:Value}(r:RelV x u):absV u=some x:=by
 cases x with
 |non=>cases r;rfl
 |bl _=>cases r;rfl
 |int _=>obtain⟨t,rfl⟩:=r;rfl
 |str _=>obtain⟨t,rfl⟩:=r;rfl
 |byt _=>obtain⟨t,rfl⟩:=r;rfl
 |flt _=>obtain⟨t,rfl⟩:=r;rfl
 |ref _=>cases r;rfl
 |ty _=>cases r;rfl
theorem RelV.inj{x y:V}{u:Value}(r:RelV x u)(q:RelV y u):x=y:=xq (r.abs.symm.trans q.abs)
theorem Vals.inj:∀{xs ys:List V}{us:List Value},Vals xs us->Vals ys us->xs=ys
 |_,_,_,.nil,.nil=>rfl
 |_,_,_,.cons r t,.cons r' t'=>by rw[r.inj r',Vals.inj t t']
section
variable {X:Cx}{pins:List (Addr×Obj)}{σ:St}{H:Hp}{s:Shared}{a:Addr}{xs ys:List V}
theorem SqL.of{K:PySem.W.Frag}(h:H a=some (.lst xs)):SqL K H a xs:=.inl (.inl h)
theorem SqT.of{K:PySem.W.Frag}(h:H a=some (.tup xs)):SqT K H a xs:=.inl (.inl h)
theorem Inv.list(I:Inv X pins σ H s)(h:SqL X.K H a xs):∃its:List Value,Vals xs its/\PlainL s.heap a its.toArray/\xs.length<=sizeLine:=by
 rcases h with h|⟨o,its,n,hk,hc,hd,hs,hz,r⟩
 .obtain⟨z,its,n,r,e⟩:=h.ok I.hok
  exact⟨its,r,⟨_,n,e,rfl,rfl,rfl⟩,z⟩
 .refine⟨its.toList,r,⟨o,n,I.kIn a o hk,hc,hd,by simpa using hs⟩,?_⟩
  have e:=r.length
  simp only[x0g]at e
  omega
theorem Inv.tuple(I:Inv X pins σ H s)(h:SqT X.K H a xs):∃its:List Value,Vals xs its/\IsTup s.heap a its.toArray/\xs.length<=sizeLine:=by
 rcases h with h|⟨o,its,n,hk,hc,hs,hz,r⟩
 .obtain⟨z,its,r,p⟩:=h.ok I.hok
  exact⟨its,r,p,z⟩
 .refine⟨its.toList,r,⟨o,I.kIn a o hk,hc,n,by simpa using hs⟩,?_⟩
  have e:=r.length
  simp only[x0g]at e
  omega
theorem Inv.list_inj(I:Inv X pins σ H s)(h:SqL X.K H a xs)(h':SqL X.K H a ys):xs=ys:=by
 obtain⟨its,r,⟨o,n,e,_,_,d⟩,_⟩:=I.list h
 obtain⟨its',r',⟨o',n',e',_,_,d'⟩,_⟩:=I.list h'
 rw[e]at e';cases e'
 rw[d]at d'
 injection d' with d1 _
 have:its=its':=by simpa using x0u Array.toList d1
 subst this
 exact r.inj r'
end
noncomputable abbrev Cx.wish(X:Cx)(E:Value->Shared->Prop):Cx:={ X with xe:=E }
noncomputable abbrev Cx.nox(X:Cx):Cx:=X.wish fun _ _=>False
theorem Cx.Ok.wish{X:Cx}(ok:X.Ok)(E:Value->Shared->Prop):(X.wish E).Ok:=
 ⟨ok.mod,ok.kind,ok.glob,ok.blt,ok.above,ok.inj,ok.has,ok.cab,ok.hd,ok.frames,ok.stk,ok.exf,ok.bs,ok.bsz,ok.noex,ok.exfs,ok.funs,ok.frf⟩
theorem Cx.Ok.unwish{X:Cx}{E:Value->Shared->Prop}(ok:(X.wish E).Ok):X.Ok:=
 ⟨ok.mod,ok.kind,ok.glob,ok.blt,ok.above,ok.inj,ok.has,ok.cab,ok.hd,ok.frames,ok.stk,ok.exf,ok.bs,ok.bsz,ok.noex,ok.exfs,ok.funs,ok.frf⟩
section
variable {X:Cx}{pins:List (Addr×Obj)}{σ:St}{H:Hp}{s:Shared}{E:Value->Shared->Prop}
theorem Inv.wish(I:Inv X pins σ H s)(E:Value->Shared->Prop):Inv (X.wish E) pins σ H s:=⟨I.ok.wish E,I.os,I.bare,I.base,I.loc,I.cell,I.free,I.freeC,I.pin,I.hok,I.len⟩
theorem Inv.unwish(I:Inv (X.wish E) pins σ H s):Inv X pins σ H s:=⟨I.ok.unwish,I.os,I.bare,I.base,I.loc,I.cell,I.free,I.freeC,I.pin,I.hok,I.len⟩
theorem SP.unwish{D:Ends}{f:Flow}{s':Shared}(h:SP (X.wish E) pins D f s'):SP X pins D f s':=by
 cases f with
 |next=>obtain⟨σ',H',I,q⟩:=h;exact⟨σ',H',I.unwish,q⟩
 |brk=>obtain⟨σ',H',I,q⟩:=h;exact⟨σ',H',I.unwish,q⟩
 |cont=>obtain⟨σ',H',I,q⟩:=h;exact⟨σ',H',I.unwish,q⟩
 |ret u=>obtain⟨v,σ',H',I,r,q⟩:=h;exact⟨v,σ',H',I.unwish,r,q⟩
theorem PE.nox{e:Expr}{t:TE}(h:PE X.nox e t):PE X e t:=fun pins s σ H Q I hw=>
 x0f (h pins s σ H Q (I.wish _) hw) (fun _ _ ⟨v,H',I',r,q⟩=>⟨v,H',I'.unwish,r,q⟩) fun _ _ z=>False.elim z
theorem PT.nox{e:Expr}{t:TT}(h:PT X.nox e t):PT X e t:=fun pins s σ H Q I hw=>
 x0f (h pins s σ H Q (I.wish _) hw) (fun _ _ ⟨H',I',q⟩=>⟨H',I'.unwish,q⟩) fun _ _ z=>False.elim z
theorem PSs.nox{st:List Stmt}{t:TS}(h:PSs X.nox st t):PSs X st t:=fun pins s σ H D I hw=>
 x0f (h pins s σ H D (I.wish _) hw) (fun _ _ q=>q.unwish) fun _ _ z=>False.elim z
end
section
variable {X:Cx}{st:Stmt}{rest:List Stmt}{t u:TS}{e:Expr}{te:TE}{pos:Pos}
noncomputable def zfn:TS:=fun D σ H=>D.nx σ H
noncomputable def tSeq(t u:TS):TS:=fun D σ H=>t { D with nx:=u D } σ H
theorem zp:PSs X [] zfn:=fun _ _ σ H _ I h=>wpAny_execs_nil ⟨σ,H,I,h⟩
theorem za(h1:PS X st t)(h2:PSs X rest u):PSs X (st::rest) (tSeq t u):=by
 intro pins s σ H D I h
 refine wpAny_execs_cons (thn (h1 pins s σ H { D with nx:=u D } I h) fun f s1 q=>?_)
 cases f with
 |next=>
  obtain⟨σ',H',I',q⟩:=q
  exact h2 pins s1 σ' H' D I' q
 |ret v=>exact q
 |brk=>exact q
 |cont=>exact q
theorem zd(h1:PS X st t):PSs X [st] t:=by
 intro pins s σ H D I h
 refine wpAny_execs_cons (thn (h1 pins s σ H D I h) fun f s1 q=>?_)
 cases f with
 |next=>exact wpAny_execs_nil q
 |ret v=>exact q
 |brk=>exact q
 |cont=>exact q
theorem Inv.quiet{pins:List (Addr×Obj)}{σ:St}{H:Hp}{s:Shared}(I:Inv X pins σ H s):interactive X.env=false:=by simp[interactive,I.ok.kind]
noncomputable def zfo(te:TE):TS:=fun D σ H=>te σ H fun _ H1=>D.nx σ H1
theorem z1h(he:PE X e te)(hs:swapsWith e none pos.line X.env=pure false:=by rfl):PS X (.Expr e pos) (zfo te):=by
 intro pins s σ H D I h
 exact wpAny_Expr_any (thn (he pins s σ H _ I h) fun v s1 ⟨x,H1,I1,r1,q1⟩=>⟨σ,H1,I1,q1⟩) I.quiet hs
noncomputable def tRet(te:TE):TS:=fun D σ H=>te σ H D.rt
theorem zn(he:PE X e te):PS X (.Return (some e) pos) (tRet te):=by
 intro pins s σ H D I h
 exact wpAny_Return_some (thn (he pins s σ H _ I h) fun v s1 ⟨x,H1,I1,r1,q1⟩=>⟨x,σ,H1,I1,r1,q1⟩)
noncomputable def tIfS(c:TT)(t u:TS):TS:=fun D σ H=>c σ H fun b H1=>if b=true then t D σ H1 else u D σ H1
theorem z11{c:Expr}{a b:List Stmt}{tc:TT}(hc:PT X c tc)(ha:PSs X a t)(hb:PSs X b u):PS X (.If c a b pos) (tIfS tc t u):=by
 intro pins s σ H D I h
 refine wpAny_If (thn (hc pins s σ H _ I h) fun d s1 ⟨H1,I1,q1⟩=>?_)
 cases d with
 |true=>exact ha pins s1 σ H1 D I1 q1
 |false=>exact hb pins s1 σ H1 D I1 q1
end
noncomputable abbrev TG:=V->St->Hp->(St->Hp->Prop)->Prop
noncomputable abbrev TGs:=List V->St->Hp->(St->Hp->Prop)->Prop
noncomputable def PG(X:Cx)(target:Expr)(t:TG):Prop:=
 ∀(pins:List (Addr×Obj))(s:Shared)(σ:St)(H:Hp)(v:V)(u:Value)(Q:St->Hp->Prop),Inv X pins σ H s->RelV v u->t v σ H Q->
  wpAny (model X.prog X.w) X.A (assign target X.env u) (fun _ s'=>∃σ' H',Inv X pins σ' H' s'/\Q σ' H') X.xe s
noncomputable def PGs(X:Cx)(ts:List Expr)(t:TGs):Prop:=
 ∀(pins:List (Addr×Obj))(s:Shared)(σ:St)(H:Hp)(vs:List V)(us:List Value)(Q:St->Hp->Prop),Inv X pins σ H s->Vals vs us->t vs σ H Q->
  wpAny (model X.prog X.w) X.A (assignInOrder ((assignEach ts X.env).map (·.2)) us) (fun _ s'=>∃σ' H',Inv X pins σ' H' s'/\Q σ' H') X.xe s
noncomputable abbrev TSet:=V->V->V->Hp->(Hp->Prop)->Prop
noncomputable def PSet(X:Cx)(t:TSet):Prop:=
 ∀(pins:List (Addr×Obj))(s:Shared)(σ:St)(H:Hp)(o i v:V)(ov iv u:Value)(Q:Hp->Prop),Inv X pins σ H s->RelV o ov->RelV i iv->RelV v u->t o i v H Q->
  wpAny (model X.prog X.w) X.A (setItem ov iv u) (fun _ s'=>∃H',Inv X pins σ H' s'/\Q H') X.xe s
section
variable {X:Cx}{pos:Pos}
noncomputable def z9a(i:Nat):TG:=fun v σ H Q=>Q (σ.set i (some v)) H
theorem z15{i:Nat}{x:Str}(hN:X.N.Nodup)(hi:X.N[i]? =some x)(hx:Loc X.env.scope x)(hf:X.fn x=true\/X.env.scope.names.lookup x=some .local:=by first|exact .inl rfl|exact .inr rfl|assumption):PG X (.Name x pos) (z9a i):=by
 intro pins s σ H v u Q I r h
 exact wpAny_assign_Name (z8m I hN hi hx r (fun s' I'=>⟨_,H,I',h⟩) hf)
noncomputable def gNil:TGs:=fun vs σ H Q=>vs=[]/\Q σ H
noncomputable def zfp(t:TG)(u:TGs):TGs:=fun vs σ H Q=>∃v r,vs=v::r/\t v σ H fun σ' H'=>u r σ' H' Q
theorem z4q:PGs X [] gNil:=by
 intro pins s σ H vs us Q I r h
 obtain⟨e,h⟩:=h
 subst e
 cases r
 exact assignInOrder_nil ⟨σ,H,I,h⟩
theorem z22{e:Expr}{es:List Expr}{t:TG}{u:TGs}(h1:PG X e t)(h2:PGs X es u)
  (hs:(assignEach (e::es) X.env).map (·.2)=assign e X.env::(assignEach es X.env).map (·.2):=by rfl):PGs X (e::es) (zfp t u):=by
 intro pins s σ H vs us Q I r h
 obtain⟨v,vr,e1,h⟩:=h
 subst e1
 cases r with
 |cons r rr=>
  rw[hs]
  refine assignInOrder_cons (thn (h1 pins s σ H _ _ _ I r h) fun _ s1 ⟨σ1,H1,I1,q1⟩=>?_)
  exact h2 pins s1 σ1 H1 _ _ Q I1 rr q1
noncomputable def gTup(K:PySem.W.Frag)(n:Nat)(t:TGs):TG:=fun v σ H Q=>∃a xs,v=.ref a/\SqT K H a xs/\xs.length=n/\t xs σ H Q
theorem z9b{es:List Expr}{k:Nat}{t:TGs}{n:Nat}(hc:X.calm=true)(h:PGs X es t)
  (hn:(assignEach es X.env).length=n:=by rfl) (hst:(assignEach es X.env).findIdx? (·.1)=none:=by rfl):PG X (.Tuple es k pos) (gTup X.K n t):=by
 intro pins s σ H v u Q I r hw
 obtain⟨a,xs,e1,hq,hl,hw⟩:=hw
 subst e1
 cases r
 obtain⟨its,rv,ht,hz⟩:=I.tuple hq
 refine assign_Tuple_tuple (I.ok.hd hc) ht (by simp[hn,<-hl,rv.length]) hst fun h' hx=>?_
 have I1:Inv X pins σ H { s with heap:=h' }:=I.kept (t':=s.toks) fun b o e=>hx b o (xy (xl e)) e
 exact h pins _ σ H xs _ Q I1 (by simpa using rv) hw
noncomputable def gSub(to ti:TE)(t:TSet):TG:=fun v σ H Q=>to σ H fun o H1=>ti σ H1 fun i H2=>t o i v H2 fun H3=>Q σ H3
theorem zhc{o i:Expr}{to ti:TE}{t:TSet}(ho:PE X o to)(hi:PE X i ti)(hs:PSet X t)
  (ha:∀v,assign (.Subscript o i pos) X.env v=(do
   let ov<-holding [v] (eval o X.env)
   let iv<-holding [v,ov] (eval i X.env)
   standAt pos
   holding [v,ov,iv] (setItem ov iv v)
   release [v,ov,iv] []):=by intro _;rfl):PG X (.Subscript o i pos) (gSub to ti t):=by
 intro pins s σ H v u Q I r h
 rw[ha]
 refine x8 (x1h (thn (ho pins s σ H _ I h) fun ov s1 ⟨x,H1,I1,r1,q1⟩=>?_))
 refine x8 (x1h (thn (hi pins s1 σ H1 _ I1 q1) fun iv s2 ⟨y,H2,I2,r2,q2⟩=>?_))
 refine x8 (wpAny_standAt (x8 (x1h (thn (hs pins s2 σ H2 x y v ov iv u _ I2 r1 r2 r q2) fun _ s3 ⟨H3,I3,q3⟩=>?_))))
 exact wpAny_release ⟨σ,H3,I3,q3⟩
noncomputable def tAsg(te:TE)(g:TG):TS:=fun D σ H=>te σ H fun x H1=>g x σ H1 D.nx
theorem zcc{tg e:Expr}{te:TE}{g:TG}(he:PE X e te)(hg:PG X tg g)(hs:swapsWithSole [tg] e pos.line X.env=pure false:=by rfl)(hw:swappedStores [tg] e X.env=pure none:=by rfl)
  (h1:(assignEach [tg] X.env).map (·.2)=[assign tg X.env]:=by rfl):PS X (.Assign [tg] e pos) (tAsg te g):=by
 intro pins s σ H D I h
 refine wpAny_Assign_stores (thn (he pins s σ H _ I h) fun v s1 ⟨x,H1,I1,r1,q1⟩=>?_) hs hw
 rw[h1]
 exact thn (hg pins s1 σ H1 x v _ I1 r1 q1) fun _ s2 q=>q
theorem zk{i:Nat}{x:Str}{e:Expr}{te:TE}{pos':Pos}(hN:X.N.Nodup)(hi:X.N[i]? =some x)(hx:Loc X.env.scope x)(he:PE X e te)(hs:swapsWith e (some (.Name x pos')) pos.line X.env=pure false:=by rfl)(hf:X.fn x=true\/X.env.scope.names.lookup x=some .local:=by first|exact .inl rfl|exact .inr rfl|assumption):
  PS X (.Assign [.Name x pos'] e pos) (tAsg te (z9a i)):=by
 intro pins s σ H D I h
 refine wpAny_Assign_Name (thn (he pins s σ H _ I h) fun v s1 ⟨y,H1,I1,r1,q1⟩=>?_) hs
 exact z8m I1 hN hi hx r1 (fun s2 I2=>⟨_,H1,I2,q1⟩) hf
end
section
variable {X:Cx}{pos:Pos}
end
structure It where
 go:Nat->Hp->Prop
 yld:Nat->Hp->V->Hp->Prop
 stop:Nat->Hp->Prop
noncomputable def FpOk(X:Cx)(pins:List (Addr×Obj))(H:Hp)(b:Addr):Prop:=
 H b=none/\b≠X.env.locals/\b∉X.fs/\(b∈X.ex\/X.s₀.heap.objs.size<=b)/\(∀x c,X.env.cells.lookup x=some c->c≠b)/\∀p∈X.pn++pins,p.1≠b
theorem Inv.fpOk{X:Cx}{pins:List (Addr×Obj)}{σ:St}{H H':Hp}{s:Shared}{b:Addr}(I:Inv X pins σ H s)(hb:s.heap.objs.size<=b)(hn:H' b=none):FpOk X pins H' b:=by
 refine⟨hn,Nat.ne_of_gt (xt I.lt hb),I.nofs hb,.inr (xp I.sz hb),fun x c e z=>?_,fun p hp z=>?_⟩
 .obtain⟨v,q⟩:=I.cell x c e
  exact absurd (xt q.lt (by rw[z];exact hb)) (x0r _)
 .exact absurd (xt (xl (I.pin p hp).1) (by rw[z];exact hb)) (x0r _)
structure Turn(P:Program)(w:World)(K:PySem.W.Frag)(tg:Expr)(J:It)(fp:List Addr)(it:Addr)(tn:Nat->Heap->Prop):Prop where
 mem:it∈fp
 obj:∀i h,tn i h->∀b∈fp,∃o,h.get? b=some o/\∀v,o.data≠.cell v
 keep:∀i h h',tn i h->(∀b∈fp,∀o,h.get? b=some o->h'.get? b=some o)->tn i h'
 item:∀(X:Cx),X.prog=P->X.w=w->X.K=K->X.calm=true->∀(i:Nat)(pins:List (Addr×Obj))(s:Shared)(σ:St)(H:Hp)(E:Value->Shared->Prop),Inv X pins σ H s->(∀b∈fp,FpOk X pins H b)->tn i s.heap->J.go i H->
  wpAny (model P w) X.A (pyNext (.ref it)) (fun r s1=>∃u,r=some u/\
   wpAny (model P w) X.A (letOwnedTupleGo tg (.ref it) u) (fun _ s2=>∃x H',Inv X pins σ H' s2/\RelV x u/\J.yld i H x H'/\tn (i+1) s2.heap/\∀b∈fp,H' b=none) E s1) E s
 done:∀(X:Cx),X.prog=P->X.w=w->X.K=K->X.calm=true->∀(i:Nat)(pins:List (Addr×Obj))(s:Shared)(σ:St)(H:Hp)(E:Value->Shared->Prop),Inv X pins σ H s->(∀b∈fp,FpOk X pins H b)->tn i s.heap->J.stop i H->
  wpAny (model P w) X.A (pyNext (.ref it)) (fun r s1=>r=none/\Inv X pins σ H s1) E s
 self:∀(A:Around)(i:Nat)(s:Shared)(Q:Value->Shared->Prop)(E:Value->Shared->Prop),tn i s.heap->Q (.ref it) s->wpAny (model P w) A (pyIter (.ref it)) Q E s
noncomputable abbrev TI:=St->Hp->(It->Hp->Prop)->Prop
noncomputable def PIE(X:Cx)(pins:List (Addr×Obj))(σ:St)(tg:Expr)(R:It->Hp->Prop)(itv:Value)(s2:Shared):Prop:=
 ∃(it:Addr)(fp:List Addr)(tn:Nat->Heap->Prop)(J:It)(H':Hp),itv=.ref it/\Inv X pins σ H' s2/\Turn X.prog X.w X.K tg J fp it tn/\tn 0 s2.heap/\(∀b∈fp,FpOk X pins H' b)/\R J H'
noncomputable def PI(X:Cx)(tg iter:Expr)(wi:TI):Prop:=
 ∀(pins:List (Addr×Obj))(s:Shared)(σ:St)(H:Hp)(R:It->Hp->Prop),Inv X pins σ H s->wi σ H R->
  wpAny (model X.prog X.w) X.A (eval iter X.env) (fun v s1=>wpAny (model X.prog X.w) X.A (pyIter v) (PIE X pins σ tg R) X.xe s1) X.xe s
theorem zkf{M:Model}{A:Around}{E:Value->Shared->Prop}{s:Shared}{tg:Expr}{it:Addr}{u:Value}{o:Obj}{n:String}{vs:Array Value}{Q:Unit->Shared->Prop}(ho:s.heap.get? it=some o)(hc:o.cls=.type n)(hd:o.data=.fields vs)
    (hn:["enumerate","zip","dict_itemiterator","dict_reverseitemiterator","odict_iterator","itertools.zip_longest","itertools.pairwise"].contains n=false) (hQ:Q () s):wpAny M A (letOwnedTupleGo tg (.ref it) u) Q E s:=by
  unfold letOwnedTupleGo
  cases tg<;>first
    |exact xh hQ
    |(cases u<;>first
        |exact xh hQ
        | (refine x8 (wpAny_load ho ?_)
           rw[hc,hd]
           show wpAny M A (if(["enumerate","zip","dict_itemiterator","dict_reverseitemiterator","odict_iterator","itertools.zip_longest","itertools.pairwise"].contains n&&vs[0]? ==some (rawInt _))=true then _ else _) Q E s
           rw[if_neg (by intro h;rw[hn,Bool.false_and]at h;cases h)]
           exact xh hQ))
noncomputable def Itl(K:PySem.W.Frag)(a:Addr):It:=
 ⟨fun i H=>∃xs x,SqL K H a xs/\xs[i]? =some x,fun i H x H'=>H'=H/\∀xs,SqL K H a xs->xs[i]? =some x,fun i H=>∃xs,SqL K H a xs/\xs.length<=i⟩
noncomputable def Itr(lo:Int)(n:Nat):It:=⟨fun i _=>i<n,fun i H x H'=>H'=H/\x=.int (lo+i),fun i _=>n<=i⟩
theorem zhd{P:Program}{w:World}{K:PySem.W.Frag}{tg:Expr}(a it:Addr):Turn P w K tg (Itl K a) [it] it (fun i h=>h.IsListIter it a i) where
 mem:=by simp
 obj:=fun i h st b hb=>by
  have e:b=it:=by simpa using hb
  subst e
  obtain⟨o,e,c,d⟩:=st
  exact⟨o,e,fun v z=>by rw[d]at z;cases z⟩
 keep:=fun i h h' st k=>st.at fun o e=>k it (by simp) o e
 item:=by
  intro X hP hw hK hc i pins s σ H E I hf st hg
  subst hP hw hK
  obtain⟨xs,x,hq,hx⟩:=hg
  obtain⟨its,rv,p,hz⟩:=I.list hq
  obtain⟨u,hu,ru⟩:=rv.get hx
  obtain⟨f0,f1,f2,f3,f4,f5⟩:=hf it (by simp)
  refine wpAny_pyNext_list_item st p.isList (x:=u) (by simpa using hu) fun h' st' sb=>?_
  have I1:Inv X pins σ H { s with heap:=h' }:=I.turned (t':=s.toks) (fun b o hb e=>(sb.2 b hb).trans e) f0 f1 f3 f4 f5
  obtain⟨o,e,c,d⟩:=id st'
  exact⟨u,rfl,zkf (s:={ s with heap:=h' }) e c d (by decide) ⟨x,H,I1,ru,⟨rfl,fun ys hy=>by rw[I.list_inj hy hq];exact hx⟩,st',fun b hb=>(hf b hb).1⟩⟩
 done:=by
  intro X hP hw hK hc i pins s σ H E I hf st hg
  subst hP hw hK
  obtain⟨xs,hq,hx⟩:=hg
  obtain⟨its,rv,p,hz⟩:=I.list hq
  obtain⟨f0,f1,f2,f3,f4,f5⟩:=hf it (by simp)
  have hl:=rv.length
  exact wpAny_pyNext_list_end (I.ok.hd hc) st p.isList (by simp;omega) fun h' eb=>⟨rfl,I.turned (t':=s.toks) (fun b o hb e=>eb b o hb e) f0 f1 f3 f4 f5⟩
 self:=fun _ _ _ _ _ st h=>wpAny_pyIter_listiter st h
theorem zfq{P:Program}{w:World}{K:PySem.W.Frag}{tg:Expr}(it:Addr)(lo:Int)(n:Nat):Turn P w K tg (Itr lo n) [it] it (fun i h=>IsRangeIter h it (lo+(i:Nat)*1) ((n:Int)-(i:Nat)) 1) where
 mem:=by simp
 obj:=fun i h st b hb=>by
  have e:b=it:=by simpa using hb
  subst e
  exact⟨_,st,fun v z=>by
   have z':Data.fields _=Data.cell v:=z
   cases z'⟩
 keep:=fun i h h' st k=>k it (by simp) _ st
 item:=by
  intro X hP hw hK hc i pins s σ H E I hf st hg
  subst hP hw hK
  obtain⟨f0,f1,f2,f3,f4,f5⟩:=hf it (by simp)
  have W:=Walks.range (prog:=X.prog) (w:=X.w) (I.ok.hd hc) it lo 1 n
  refine W.item i s _ _ hg st fun v h' tk hv st' kk=>?_
  obtain⟨t,rfl⟩:=hv
  have I1:Inv X pins σ H { s with heap:=h',toks:=tk }:=I.turned (fun b o hb e=>kk b o (by simpa using hb) e) f0 f1 f3 f4 f5
  refine⟨_,rfl,zkf (s:={ s with heap:=h',toks:=tk }) (n:="range_iterator") st' rfl rfl (by decide) ⟨.int (lo+i),H,I1,⟨t,?_⟩,⟨rfl,rfl⟩,st',fun b hb=>(hf b hb).1⟩⟩
  rw[Int.mul_one]
 done:=by
  intro X hP hw hK hc i pins s σ H E I hf st hg
  subst hP hw hK
  obtain⟨f0,f1,f2,f3,f4,f5⟩:=hf it (by simp)
  exact wpAny_pyNext_range_end (I.ok.hd hc) st (by have:n<=i:=hg;omega) fun h' eb=>⟨rfl,I.turned (t':=s.toks) (fun b o hb e=>eb b o hb e) f0 f1 f3 f4 f5⟩
 self:=fun _ _ _ _ _ st h=>wpAny_pyIter_rangeiter st h
end L2
namespace L2
open PySem PySem.Spec PyProof.Rows
section
variable {X:Cx}{tg:Expr}
noncomputable def zfr(K:PySem.W.Frag)(tl:TE):TI:=fun σ H R=>tl σ H fun x H1=>∃a,x=.ref a/\(∃xs,SqL K H1 a xs)/\R (Itl K a) H1
theorem z12{l:Expr}{tl:TE}(hl:PE X l tl):PI X tg l (zfr X.K tl):=by
 intro pins s σ H R I h
 refine thn (hl pins s σ H _ I h) fun v s1 ⟨x,H1,I1,r1,q1⟩=>?_
 obtain⟨a,e,⟨xs,hq⟩,q⟩:=q1
 subst e
 cases r1
 obtain⟨its,rv,p,hz⟩:=I1.list hq
 refine wpAny_pyIter_list p.isList ?_
 refine⟨s1.heap.objs.size,[s1.heap.objs.size],_,_,H1,rfl,I1.kept (t':=s1.toks) fun b o e=>xf _ e,zhd a _,⟨_,xu _ rfl,rfl,rfl⟩,fun b hb=>?_,q⟩
 have e:b=s1.heap.objs.size:=by simpa using hb
 subst e
 exact I1.fpOk (xk _) (I1.hok.fresh (xk _))
theorem zcd{pins:List (Addr×Obj)}{σ:St}{H:Hp}{s:Shared}{R:It->Hp->Prop}{E:Value->Shared->Prop}{lo hi:Int}{t u v:Tok}{tk:Nat}(I:Inv X pins σ H s)(h1:-(2 ^ 62)<=lo)(h2:lo<2 ^ 62)(h3:-(2 ^ 62)<=hi)(h4:hi<2 ^ 62)
  (q:R (Itr lo (hi-lo).toNat) H):wpAny (model X.prog X.w) X.A (pyIter (.ref s.heap.objs.size)) (PIE X pins σ tg R) E { s with heap:=s.heap.push { cls:=.type "range",data:=.fields #[.int lo t,.int hi u,.int 1 v] },toks:=tk }:=by
 refine wpAny_pyIter_range (IsRange.new ..) (small_one h1 h2 h3 h4) ?_
 have I1:Inv X pins σ H { s with heap:=s.heap.push { cls:=.type "range",data:=.fields #[.int lo t,.int hi u,.int 1 v] },toks:=tk }:=I.kept fun b o e=>xf _ e
 refine⟨(s.heap.push { cls:=.type "range",data:=.fields #[.int lo t,.int hi u,.int 1 v] }).objs.size,[(s.heap.push { cls:=.type "range",data:=.fields #[.int lo t,.int hi u,.int 1 v] }).objs.size],_,_,H,rfl,
  I1.kept (t':=tk) fun b o e=>xf _ e,zfq _ lo (hi-lo).toNat,?_,fun b hb=>?_,q⟩
 .have e1:lo+((0:Nat):Int)*1=lo:=by simp
  have e2:(((hi-lo).toNat:Nat):Int)-((0:Nat):Int)=Builtin.Range.rangeSize lo hi 1:=by rw[rangeSize_one];split<;>omega
  show IsRangeIter _ _ (lo+((0:Nat):Int)*1) ((((hi-lo).toNat:Nat):Int)-((0:Nat):Int)) 1
  rw[e1,e2]
  exact xu _ rfl
 .have e:b=(s.heap.push { cls:=.type "range",data:=.fields #[.int lo t,.int hi u,.int 1 v] }).objs.size:=by simpa using hb
  subst e
  exact I1.fpOk (xk _) (I1.hok.fresh (xk _))
noncomputable def zfs(ta:TA):TI:=fun σ H R=>ta σ H fun vs H1=>∃j:Int,vs=[.int j]/\ -(2 ^ 62)<=j/\j<2 ^ 62/\R (Itr 0 j.toNat) H1
noncomputable def zkg(ta:TA):TI:=fun σ H R=>ta σ H fun vs H1=>∃i j:Int,vs=[.int i,.int j]/\(-(2 ^ 62)<=i/\i<2 ^ 62/\ -(2 ^ 62)<=j/\j<2 ^ 62)/\R (Itr i (j-i).toNat) H1
theorem z2r{a:Expr}{ta:TA}{p pos:Pos}(hg:Gl X "range")(hm:X.mg "range"=none)(ha:PA X [a] ta)(hs:starEach [a] X.env=[(false,eval a X.env)]:=by rfl):PI X tg (.Call (.Name "range" p) [a] [] pos) (zfs ta):=by
 intro pins s σ H R I h
 refine Call_ (z5s I hg hm boot_range (PyProof.Rows.callWith_type1 (thn (ha pos pins s σ H _ I h) fun us s1 ⟨vs,H1,I1,r1,q1⟩=>?_) hs rfl))
 obtain⟨j,e,q1,q2,q⟩:=q1
 subst e
 cases r1 with
 |cons r rr=>
  cases rr
  obtain⟨t,rfl⟩:=r
  exact call_range_1 (zcd I1 (by omega) (by omega) q1 q2 (by simpa using q))
theorem zhe{a b:Expr}{ta:TA}{p pos:Pos}(hg:Gl X "range")(hm:X.mg "range"=none)(ha:PA X [a,b] ta)(hs:starEach [a,b] X.env=[(false,eval a X.env),(false,eval b X.env)]:=by rfl)(hs2:starEach [b] X.env=[(false,eval b X.env)]:=by rfl):
  PI X tg (.Call (.Name "range" p) [a,b] [] pos) (zkg ta):=by
 intro pins s σ H R I h
 refine Call_ (z5s I hg hm boot_range (PyProof.Rows.callWith_type1 (thn (ha pos pins s σ H _ I h) fun us s1 ⟨vs,H1,I1,r1,q1⟩=>?_) (by rw[hs,hs2]) (by rw[hs2];rfl)))
 obtain⟨i,j,e,⟨q1,q2,q3,q4⟩,q⟩:=q1
 subst e
 cases r1 with
 |cons r rr=>
  cases rr with
  |cons r' rr=>
   cases rr
   obtain⟨t,rfl⟩:=r
   obtain⟨t',rfl⟩:=r'
   exact call_range_2 (zcd I1 q1 q2 q3 q4 q)
noncomputable def tFor(wi:TI)(g:TG)(tb:TS):TS:=fun D σ H=>wi σ H fun J H1=>∃W:Nat->Nat->St->Hp->Prop,(∃m,W 0 m σ H1)/\∀i m σ H,W i m σ H->
 (J.stop i H/\D.nx σ H)\/(J.go i H/\∃N:St->Hp->Prop,(∀σ' H',N σ' H'->∃m',m'<m/\W (i+1) m' σ' H')/\∀x H',J.yld i H x H'->g x σ H' fun σ2 H2=>tb { D with nx:=N,ct:=N,bk:=D.nx } σ2 H2)
noncomputable def z4t(fp:List Addr)(h:Heap):List (Addr×Obj):=fp.filterMap fun b=>(h.get? b).map fun o=>(b,o)
theorem z38{fp:List Addr}{h:Heap}{b:Addr}{o:Obj}(hb:b∈fp)(e:h.get? b=some o):(b,o)∈z4t fp h:=x1o.mpr ⟨b,hb,by rw[e];rfl⟩
theorem zhf{fp:List Addr}{h:Heap}{p:Addr×Obj}(hp:p∈z4t fp h):p.1∈fp/\h.get? p.1=some p.2:=by
 obtain⟨b,hb,e⟩:=x1o.mp hp
 cases q:h.get? b with
 |none=>rw[q]at e;cases e
 |some o=>
  rw[q]at e
  have e':(b,o)=p:=xq e
  subst e'
  exact⟨hb,q⟩
theorem Inv.pinned{pins:List (Addr×Obj)}{σ:St}{H:Hp}{s:Shared}{fp:List Addr}(I:Inv X pins σ H s)(hf:∀b∈fp,FpOk X pins H b)(ho:∀b∈fp,∃o,s.heap.get? b=some o/\∀v,o.data≠.cell v):Inv X (pins++z4t fp s.heap) σ H s:=
 I.pins_of fun p hp=>(xz.mp hp).elim (fun z=>I.pin p (x01 _ z)) fun z=>by
  obtain⟨hb,e⟩:=zhf z
  obtain⟨f0,f1,f2,_⟩:=hf p.1 hb
  obtain⟨o,e',d⟩:=ho p.1 hb
  rw[e]at e';cases e'
  exact⟨e,f0,f1,f2,d⟩
theorem Inv.unpinned{pins pl:List (Addr×Obj)}{σ:St}{H:Hp}{s:Shared}(I:Inv X (pins++pl) σ H s):Inv X pins σ H s:=I.pins_of fun p hp=>I.pin p (x01 _ (x0t _ hp))
theorem z1u{iter:Expr}{body:List Stmt}{wi:TI}{g:TG}{tb:TS}{pos:Pos}(hp:PassesOwn (model X.prog X.w) X.A X.env X.xe)(hc:X.calm=true)(hi:PI X tg iter wi)(hg:PG X tg g)(hb:PSs X body tb)
  (hs:∀x,foldedSetIterable iter X.env x=pure x:=by intro _;rfl):PS X (.For tg iter body [] pos) (tFor wi g tb):=by
 intro pins s σ H D I h
 refine wpAny_For (thn (hi pins s σ H _ I h) fun v s1 h1=>thn h1 fun itv s2 h2=>?_) hs
 obtain⟨it,fp,tn,J,H2,e,I2,T,st2,f2,W,⟨m0,w0⟩,turn⟩:=h2
 subst e
 have stat:∀{H':Hp},(∀b∈fp,H' b=none)->∀b∈fp,FpOk X pins H' b:=fun hn b hb=>⟨hn b hb,(f2 b hb).2⟩
 refine codeAny_forLoop_any (fun n s'=>∃i σ' H',Inv X pins σ' H' s'/\tn i s'.heap/\(∀b∈fp,H' b=none)/\W i n σ' H') ?_ m0 ⟨0,σ,H2,I2,st2,fun b hb=>(f2 b hb).1,w0⟩
 rintro n s3 ⟨i,σ3,H3,I3,st3,fr3,w3⟩
 rcases turn i n σ3 H3 w3 with⟨stop,qn⟩|⟨go,N,hN,step⟩
 .refine wpAny_passesOwn hp (thn (T.done X rfl rfl rfl hc i pins s3 σ3 H3 X.xe I3 (stat fr3) st3 stop) fun r s4 ⟨hr,I4⟩=>?_)
  subst hr
  exact wpAny_execs_nil ⟨σ3,H3,I4,qn⟩
 .refine wpAny_passesOwn hp (thn (T.item X rfl rfl rfl hc i pins s3 σ3 H3 X.xe I3 (stat fr3) st3 go) fun r s4 ⟨u,hr,h4⟩=>?_)
  subst hr
  refine wpAny_passesOwn hp (thn h4 fun _ s5 ⟨x,H5,I5,r5,y5,st5,fr5⟩=>?_)
  have I5':=I5.pinned (stat fr5) (T.obj _ _ st5)
  refine wpAny_passesOwn hp (thn (hg _ s5 σ3 H5 x u _ I5' r5 (step x H5 y5)) fun _ s6 ⟨σ6,H6,I6,q6⟩=>?_)
  refine wpAny_passesOwn hp (thn (hb _ s6 σ6 H6 _ I6 q6) fun f s7 q7=>?_)
  have again:∀{σ7:St}{H7:Hp},Inv X (pins++z4t fp s5.heap) σ7 H7 s7->N σ7 H7->∃m,m<n/\∃i σ' H',Inv X pins σ' H' s7/\tn i s7.heap/\(∀b∈fp,H' b=none)/\W i m σ' H':=fun{σ7 H7} I7 n7=>by
   obtain⟨m',hm,w7⟩:=hN σ7 H7 n7
   refine⟨m',hm,i+1,σ7,H7,I7.unpinned,T.keep _ _ _ st5 fun b hb o e=>(I7.pin (b,o) (x01 _ (x01 _ (z38 hb e)))).1,fun b hb=>?_,w7⟩
   obtain⟨o,e,d⟩:=T.obj _ _ st5 b hb
   exact(I7.pin (b,o) (x01 _ (x01 _ (z38 hb e)))).2.1
  cases f with
  |next=>obtain⟨σ7,H7,I7,n7⟩:=q7;exact again I7 n7
  |cont=>obtain⟨σ7,H7,I7,n7⟩:=q7;exact again I7 n7
  |brk=>obtain⟨σ7,H7,I7,q7⟩:=q7;exact⟨σ7,H7,I7.unpinned,q7⟩
  |ret v=>obtain⟨x7,σ7,H7,I7,r7,q7⟩:=q7;exact⟨x7,σ7,H7,I7.unpinned,r7,q7⟩
end
theorem zjd{K:PySem.W.Frag}{a:Addr}{xs:List V}{g:TG}{tb:TS}{D:Ends}{σ:St}{H:Hp}(Pv:Nat->St->Hp->Prop)(h0:Pv 0 σ H)(hl:∀i σ H,i<=xs.length->Pv i σ H->SqL K H a xs)
  (hs:∀i x σ H,xs[i]? =some x->Pv i σ H->g x σ H fun σ2 H2=>tb { D with nx:=Pv (i+1),ct:=Pv (i+1),bk:=D.nx } σ2 H2) (hd:∀σ H,Pv xs.length σ H->D.nx σ H):
  ∃W:Nat->Nat->St->Hp->Prop,(∃m,W 0 m σ H)/\∀i m σ H,W i m σ H->
   ((Itl K a).stop i H/\D.nx σ H)\/((Itl K a).go i H/\∃N:St->Hp->Prop,(∀σ' H',N σ' H'->∃m',m'<m/\W (i+1) m' σ' H')/\∀x H',(Itl K a).yld i H x H'->g x σ H' fun σ2 H2=>tb { D with nx:=N,ct:=N,bk:=D.nx } σ2 H2):=by
 refine⟨fun i m σ H=>m=xs.length-i/\i<=xs.length/\Pv i σ H,⟨xs.length,by simp,x03 _,h0⟩,?_⟩
 rintro i m σ H ⟨rfl,hi,p⟩
 have q:=hl i σ H hi p
 by_cases hlt:i<xs.length
 .refine .inr ⟨⟨xs,xs[i],q,by simp[hlt]⟩,Pv (i+1),fun σ' H' p'=>⟨xs.length-(i+1),by omega,rfl,hlt,p'⟩,fun x H' y=>?_⟩
  obtain⟨e,y⟩:=y
  subst e
  exact hs i x σ _ (y xs q) p
 .have e:i=xs.length:=by omega
  subst e
  exact .inl ⟨⟨xs,q,xk _⟩,hd σ H p⟩
theorem zhg{lo:Int}{n:Nat}{g:TG}{tb:TS}{D:Ends}{σ:St}{H:Hp}(Pv:Nat->St->Hp->Prop)(h0:Pv 0 σ H)
  (hs:∀i σ H,i<n->Pv i σ H->g (.int (lo+i)) σ H fun σ2 H2=>tb { D with nx:=Pv (i+1),ct:=Pv (i+1),bk:=D.nx } σ2 H2) (hd:∀σ H,Pv n σ H->D.nx σ H):
  ∃W:Nat->Nat->St->Hp->Prop,(∃m,W 0 m σ H)/\∀i m σ H,W i m σ H->
   ((Itr lo n).stop i H/\D.nx σ H)\/((Itr lo n).go i H/\∃N:St->Hp->Prop,(∀σ' H',N σ' H'->∃m',m'<m/\W (i+1) m' σ' H')/\∀x H',(Itr lo n).yld i H x H'->g x σ H' fun σ2 H2=>tb { D with nx:=N,ct:=N,bk:=D.nx } σ2 H2):=by
 refine⟨fun i m σ H=>m=n-i/\i<=n/\Pv i σ H,⟨n,by simp,x03 _,h0⟩,?_⟩
 rintro i m σ H ⟨rfl,hi,p⟩
 by_cases hlt:i<n
 .refine .inr ⟨hlt,Pv (i+1),fun σ' H' p'=>⟨n-(i+1),by omega,rfl,hlt,p'⟩,fun x H' y=>?_⟩
  obtain⟨e,y⟩:=y
  subst e y
  exact hs i σ _ hlt p
 .have e:i=n:=by omega
  subst e
  exact .inl ⟨xk _,hd σ H p⟩
end L2
namespace L2
open PySem PySem.Spec PyProof.Rows
noncomputable abbrev R2:=V->V->Hp->VK->Prop
noncomputable def OpR(X:Cx)(f:Value->Value->Sem Value)(r:R2):Prop:=
 ∀(pins:List (Addr×Obj))(s:Shared)(σ:St)(H:Hp)(x y:V)(v u:Value)(Q:VK),Inv X pins σ H s->RelV x v->RelV y u->r x y H Q->
  wpAny (model X.prog X.w) X.A (f v u) (EP X pins σ Q) X.xe s
noncomputable def UnR(X:Cx)(f:Value->Sem Value)(r:V->Hp->VK->Prop):Prop:=
 ∀(pins:List (Addr×Obj))(s:Shared)(σ:St)(H:Hp)(x:V)(v:Value)(Q:VK),Inv X pins σ H s->RelV x v->r x H Q->
  wpAny (model X.prog X.w) X.A (f v) (EP X pins σ Q) X.xe s
noncomputable def CallR(X:Cx)(f:Value)(r:List V->Hp->VK->Prop):Prop:=
 ∀(pins:List (Addr×Obj))(s:Shared)(σ:St)(H:Hp)(xs:List V)(us:List Value)(Q:VK),Inv X pins σ H s->Vals xs us->r xs H Q->
  wpAny (model X.prog X.w) X.A (call f us) (EP X pins σ Q) X.xe s
noncomputable def tOp(r:R2)(ta tb:TE):TE:=fun σ H Q=>ta σ H fun x H1=>tb σ H1 fun y H2=>r x y H2 Q
noncomputable def tUn(r:V->Hp->VK->Prop)(ta:TE):TE:=fun σ H Q=>ta σ H fun x H1=>r x H1 Q
noncomputable def rI(C:Int->Int->Prop)(g:Int->Int->V):R2:=fun x y H Q=>∃i j,x=.int i/\y=.int j/\C i j/\Q (g i j) H
noncomputable def rI0(g:Int->Int->V):R2:=fun x y H Q=>∃i j,x=.int i/\y=.int j/\Q (g i j) H
noncomputable def rU(g:Int->V):V->Hp->VK->Prop:=fun x H Q=>∃i,x=.int i/\Q (g i) H
section
variable {X:Cx}{a b c:Expr}{ta tb tc:TE}{pos:Pos}
theorem binT(ha:PE X a ta)(hb:PE X b tb){pins:List (Addr×Obj)}{s:Shared}{σ:St}{H:Hp}{R:V->V->Hp->Prop}(I:Inv X pins σ H s)
  (h:ta σ H fun x H1=>tb σ H1 fun y H2=>R x y H2) {Q:Value->Shared->Prop} {f:Value->Value->Sem Value}
  (hf:∀v u s2 x y H2,Inv X pins σ H2 s2->RelV x v->RelV y u->R x y H2->wpAny (model X.prog X.w) X.A (f v u) Q X.xe s2):
  wpAny (model X.prog X.w) X.A (eval a X.env) (fun v s₁=>wpAny (model X.prog X.w) X.A (eval b X.env) (fun u s₂=>wpAny (model X.prog X.w) X.A (f v u) Q X.xe s₂) X.xe s₁) X.xe s:=by
 refine thn (ha pins s σ H _ I h) fun v s1 ⟨x,H1,I1,r1,q1⟩=>?_
 refine thn (hb pins s1 σ H1 _ I1 q1) fun u s2 ⟨y,H2,I2,r2,q2⟩=>?_
 exact hf v u s2 x y H2 I2 r1 r2 q2
theorem zg{op:Operator}{r:R2}(ho:OpR X (binaryOp op) r)(ha:PE X a ta)(hb:PE X b tb):PE X (.BinOp a op b pos) (tOp r ta tb):=by
 intro pins s σ H Q I h
 exact wpAny_BinOp (binT ha hb I h fun v u s2 x y H2 I2 rx ry q=>ho pins s2 σ H2 x y v u Q I2 rx ry q)
theorem zkh{op:UnaryOp}{r:V->Hp->VK->Prop}(ho:UnR X (unaryOp op) r)(ha:PE X a ta):PE X (.UnaryOp op a pos) (tUn r ta):=by
 intro pins s σ H Q I h
 exact UnaryOp_ (thn (ha pins s σ H _ I h) fun v s1 ⟨x,H1,I1,r1,q1⟩=>ho pins s1 σ H1 x v Q I1 r1 q1)
theorem opI{f:Value->Value->Sem Value}{C:Int->Int->Prop}{g:Int->Int->Int}
  (rule:∀(i j:Int)(t u:Tok)(s:Shared)(Q:Value->Shared->Prop)(E:Value->Shared->Prop),C i j->Q (.int (g i j) s.toks) { s with toks:=s.toks+1 }->wpAny (model X.prog X.w) X.A (f (.int i t) (.int j u)) Q E s):
  OpR X f (rI C fun i j=>.int (g i j)):=by
 intro pins s σ H x y v u Q I rx ry h
 obtain⟨i,j,rfl,rfl,hc,q⟩:=h
 obtain⟨t,rfl⟩:=rx
 obtain⟨t',rfl⟩:=ry
 exact rule i j t t' s _ _ hc ⟨.int (g i j),H,I.tok _,⟨_,rfl⟩,q⟩
theorem opI0{f:Value->Value->Sem Value}{g:Int->Int->Int}
  (rule:∀(i j:Int)(t u:Tok)(s:Shared)(Q:Value->Shared->Prop)(E:Value->Shared->Prop),Q (.int (g i j) s.toks) { s with toks:=s.toks+1 }->wpAny (model X.prog X.w) X.A (f (.int i t) (.int j u)) Q E s):
  OpR X f (rI0 fun i j=>.int (g i j)):=by
 intro pins s σ H x y v u Q I rx ry h
 obtain⟨i,j,rfl,rfl,q⟩:=h
 obtain⟨t,rfl⟩:=rx
 obtain⟨t',rfl⟩:=ry
 exact rule i j t t' s _ _ ⟨.int (g i j),H,I.tok _,⟨_,rfl⟩,q⟩
theorem opB0{f:Value->Value->Sem Value}{g:Int->Int->Bool}
  (rule:∀(i j:Int)(t u:Tok)(s:Shared)(Q:Value->Shared->Prop)(E:Value->Shared->Prop),Q (.bool (g i j)) s->wpAny (model X.prog X.w) X.A (f (.int i t) (.int j u)) Q E s):
  OpR X f (rI0 fun i j=>.bl (g i j)):=by
 intro pins s σ H x y v u Q I rx ry h
 obtain⟨i,j,rfl,rfl,q⟩:=h
 obtain⟨t,rfl⟩:=rx
 obtain⟨t',rfl⟩:=ry
 exact rule i j t t' s _ _ ⟨.bl (g i j),H,I,rfl,q⟩
noncomputable def CDiv(i j:Int):Prop:=0<j/\j<1073741824
noncomputable def CMul(i j:Int):Prop:=(-(2 ^ 64)<i/\i<2 ^ 64)\/(-(2 ^ 64)<j/\j<2 ^ 64)
theorem CMul.ok{i j:Int}(h:CMul i j):IntMulOk i j:=by
 rcases h with⟨h1,h2⟩|⟨h1,h2⟩
 .exact .of_left (intBits_le_64 h1 h2)
 .exact .of_right (intBits_le_64 h1 h2)
theorem z18:OpR X (binaryOp .Add) (rI0 fun i j=>.int (i+j)):=opI0 fun _ _ _ _ _ _ _ q=>add_int q
theorem z2n:OpR X (binaryOp .Sub) (rI0 fun i j=>.int (i-j)):=opI0 fun _ _ _ _ _ _ _ q=>sub_int q
theorem z5t:OpR X (binaryOp .Mult) (rI CMul fun i j=>.int (i*j)):=opI fun _ _ _ _ _ _ _ hc q=>mul_int q hc.ok
theorem z1a:OpR X (binaryOp .FloorDiv) (rI CDiv fun i j=>.int (i/j)):=opI fun i j _ _ _ _ _ hc q=>by
 have h1:(0:Int)<j:=hc.1
 have h2:j<1073741824:=hc.2
 exact floordiv_int (by omega) (by rw[Int.fdiv_eq_ediv_of_nonneg i (by omega)];exact q) (.inl (PyProof.noPylong_small (by omega)))
theorem z14:OpR X (binaryOp .Mod) (rI (fun _ j=>0<j) fun i j=>.int (i%j)):=opI fun i j _ _ _ _ _ hc q=>by
 have h1:(0:Int)<j:=hc
 exact mod_int' (by omega) (by rw[Int.fmod_eq_emod_of_nonneg i (by omega)];exact q)
theorem unI{f:Value->Sem Value}{g:Int->Int}
  (rule:∀(i:Int)(t:Tok)(s:Shared)(Q:Value->Shared->Prop)(E:Value->Shared->Prop),Q (.int (g i) s.toks) { s with toks:=s.toks+1 }->wpAny (model X.prog X.w) X.A (f (.int i t)) Q E s):
  UnR X f (rU fun i=>.int (g i)):=by
 intro pins s σ H x v Q I rx h
 obtain⟨i,rfl,q⟩:=h
 obtain⟨t,rfl⟩:=rx
 exact rule i t s _ _ ⟨.int (g i),H,I.tok _,⟨_,rfl⟩,q⟩
theorem zhh:UnR X (unaryOp .USub) (rU fun i=>.int (-i)):=unI fun _ _ _ _ _ q=>neg_int q
end
noncomputable def scal:V->V->Bool
 | .non,.non=>true| .non,.int _=>true| .int _,.non=>true| .non,.bl _=>true| .bl _,.non=>true| .non,.str _=>true| .str _,.non=>true
 | .int _,.int _=>true| .bl _,.bl _=>true| .str _,.str _=>true| .byt _,.byt _=>true
 | .int _,.str _=>true| .str _,.int _=>true| .bl _,.str _=>true| .str _,.bl _=>true
 |_,_=>false
noncomputable def rEq:R2:=fun x y H Q=>scal x y=true/\Q (.bl (decide (x=y))) H
noncomputable def rNe:R2:=fun x y H Q=>scal x y=true/\Q (.bl (!decide (x=y))) H
theorem zes{i j:Int}:decide (V.int i=V.int j)=(i==j):=by
 rw[x18]
 simp
theorem zhi{i j:Bool}:decide (V.bl i=V.bl j)=(i==j):=by
 rw[x18]
 simp
theorem zet{i j:Str}:decide (V.str i=V.str j)=(i==j):=by
 rw[x18]
 simp
theorem zeu{i j:Array UInt8}:decide (V.byt i=V.byt j)=(i.toList==j.toList):=by
 rw[x18]
 cases i
 cases j
 simp
section
variable {X:Cx}{a b c:Expr}{ta tb tc:TE}{pos:Pos}
theorem z16{pins:List (Addr×Obj)}{σ:St}{H:Hp}{s:Shared}{Q:VK}{k k':Bool}(I:Inv X pins σ H s)(q:Q (.bl k) H)(e:k=k'):EP X pins σ Q (.bool k') s:=by
 subst e
 exact⟨.bl k,H,I,rfl,q⟩
theorem z1f:OpR X (compareOp .Eq) rEq:=by
 intro pins s σ H x y v u Q I rx ry h
 obtain⟨hs,q⟩:=h
 cases x with
 |non=>
  cases rx
  cases y with
  |non=>cases ry;exact PySem.EqNone.eq_none_none (z16 I q (by simp))
  |bl j=>cases ry;exact PySem.EqNone.eq_none_bool (z16 I q (by simp))
  |int j=>obtain⟨t',rfl⟩:=ry;exact PySem.EqNone.eq_none_int (z16 I q (by simp))
  |str j=>obtain⟨t',rfl⟩:=ry;exact PySem.EqNone.eq_none_str (z16 I q (by simp))
  |_=>exact absurd (show false=true from hs) xa
 |bl i=>
  cases rx
  cases y with
  |non=>cases ry;exact PySem.EqNone.eq_bool_none (z16 I q (by simp))
  |bl j=>cases ry;exact eq_bool (z16 I q zhi)
  |str j=>obtain⟨t',rfl⟩:=ry;exact PySem.EqMixed.eq_bool_str (z16 I q (by simp))
  |_=>exact absurd (show false=true from hs) xa
 |int i=>
  obtain⟨t,rfl⟩:=rx
  cases y with
  |non=>cases ry;exact PySem.EqNone.eq_int_none (z16 I q (by simp))
  |int j=>obtain⟨t',rfl⟩:=ry;exact eq_int (z16 I q zes)
  |str j=>obtain⟨t',rfl⟩:=ry;exact PySem.EqMixed.eq_int_str (z16 I q (by simp))
  |_=>exact absurd (show false=true from hs) xa
 |str i=>
  obtain⟨t,rfl⟩:=rx
  cases y with
  |non=>cases ry;exact PySem.EqNone.eq_str_none (z16 I q (by simp))
  |bl j=>cases ry;exact PySem.EqMixed.eq_str_bool (z16 I q (by simp))
  |int j=>obtain⟨t',rfl⟩:=ry;exact PySem.EqMixed.eq_str_int (z16 I q (by simp))
  |str j=>obtain⟨t',rfl⟩:=ry;exact eq_str (z16 I q zet)
  |_=>exact absurd (show false=true from hs) xa
 |byt i=>
  obtain⟨t,rfl⟩:=rx
  cases y with
  |byt j=>obtain⟨t',rfl⟩:=ry;exact PySem.W.eq_bytes (z16 I q zeu)
  |_=>exact absurd (show false=true from hs) xa
 |_=>cases y<;>exact absurd (show false=true from hs) xa
theorem z2j:OpR X (compareOp .NotEq) rNe:=by
 intro pins s σ H x y v u Q I rx ry h
 obtain⟨hs,q⟩:=h
 cases x with
 |non=>
  cases rx
  cases y with
  |non=>cases ry;exact PySem.EqNone.ne_none_none (z16 I q (by simp))
  |bl j=>cases ry;exact PySem.EqNone.ne_none_bool (z16 I q (by simp))
  |int j=>obtain⟨t',rfl⟩:=ry;exact PySem.EqNone.ne_none_int (z16 I q (by simp))
  |str j=>obtain⟨t',rfl⟩:=ry;exact PySem.EqNone.ne_none_str (z16 I q (by simp))
  |_=>exact absurd (show false=true from hs) xa
 |bl i=>
  cases rx
  cases y with
  |non=>cases ry;exact PySem.EqNone.ne_bool_none (z16 I q (by simp))
  |bl j=>cases ry;exact ne_bool (z16 I q (x0u not zhi))
  |str j=>obtain⟨t',rfl⟩:=ry;exact PySem.EqMixed.ne_bool_str (z16 I q (by simp))
  |_=>exact absurd (show false=true from hs) xa
 |int i=>
  obtain⟨t,rfl⟩:=rx
  cases y with
  |non=>cases ry;exact PySem.EqNone.ne_int_none (z16 I q (by simp))
  |int j=>obtain⟨t',rfl⟩:=ry;exact ne_int (z16 I q (x0u not zes))
  |str j=>obtain⟨t',rfl⟩:=ry;exact PySem.EqMixed.ne_int_str (z16 I q (by simp))
  |_=>exact absurd (show false=true from hs) xa
 |str i=>
  obtain⟨t,rfl⟩:=rx
  cases y with
  |non=>cases ry;exact PySem.EqNone.ne_str_none (z16 I q (by simp))
  |bl j=>cases ry;exact PySem.EqMixed.ne_str_bool (z16 I q (by simp))
  |int j=>obtain⟨t',rfl⟩:=ry;exact PySem.EqMixed.ne_str_int (z16 I q (by simp))
  |str j=>obtain⟨t',rfl⟩:=ry;exact ne_str (z16 I q (x0u not zet))
  |_=>exact absurd (show false=true from hs) xa
 |byt i=>
  obtain⟨t,rfl⟩:=rx
  cases y with
  |byt j=>obtain⟨t',rfl⟩:=ry;exact PySem.W.ne_bytes (z16 I q (x0u not zeu))
  |_=>exact absurd (show false=true from hs) xa
 |_=>cases y<;>exact absurd (show false=true from hs) xa
theorem z7y:OpR X (compareOp .Lt) (rI0 fun i j=>.bl (decide (i<j))):=opB0 fun _ _ _ _ _ _ _ q=>lt_int q
theorem zft:OpR X (compareOp .LtE) (rI0 fun i j=>.bl (decide (i<=j))):=opB0 fun _ _ _ _ _ _ _ q=>le_int q
theorem z7z:OpR X (compareOp .Gt) (rI0 fun i j=>.bl (decide (j<i))):=opB0 fun _ _ _ _ _ _ _ q=>gt_int q
theorem zc3:OpR X (compareOp .GtE) (rI0 fun i j=>.bl (decide (j<=i))):=opB0 fun _ _ _ _ _ _ _ q=>ge_int q
theorem OpR.or{f:Value->Value->Sem Value}{r r':R2}(h:OpR X f r)(h':OpR X f r'):OpR X f (fun x y H Q=>r x y H Q\/r' x y H Q):=by
 intro pins s σ H x y v u Q I rx ry q
 rcases q with q|q
 .exact h pins s σ H x y v u Q I rx ry q
 .exact h' pins s σ H x y v u Q I rx ry q
theorem zm(b:Expr){op:CmpOp}(h:op≠.In:=by decide)(h2:op≠.NotIn:=by decide):behindInMarks op b=false:=by
 have e1:(op==CmpOp.In)=false:=by cases op<;>first|rfl|exact absurd rfl h
 have e2:(op==CmpOp.NotIn)=false:=by cases op<;>first|rfl|exact absurd rfl h2
 cases b<;>simp[behindInMarks,e1,e2]
theorem z1n{op:CmpOp}{r:R2}(ho:OpR X (compareOp op) r)(ha:PE X a ta)(hb:PE X b tb)(hm:behindInMarks op b=false):PE X (.Compare a [op] [b] pos) (tOp r ta tb):=by
 intro pins s σ H Q I h
 exact wpAny_Compare1 (binT ha hb I h fun v u s2 x y H2 I2 rx ry q=>ho pins s2 σ H2 x y v u Q I2 rx ry q) hm
noncomputable def zc4(t:TE):TT:=fun σ H Q=>t σ H fun x H'=>∃k,x=.bl k/\Q k H'
theorem zo{op:CmpOp}{r:R2}(ho:OpR X (compareOp op) r)(ha:PE X a ta)(hb:PE X b tb)(hm:behindInMarks op b=false):PT X (.Compare a [op] [b] pos) (zc4 (tOp r ta tb)):=by
 intro pins s σ H Q I h
 refine wpAny_isTrue_Compare1 (thn (ha pins s σ H _ I h) fun v s1 ⟨x,H1,I1,r1,q1⟩=>thn (hb pins s1 σ H1 _ I1 q1) fun u s2 ⟨y,H2,I2,r2,q2⟩=>
  thn (ho pins s2 σ H2 x y v u _ I2 r1 r2 q2) fun c s3 ⟨z,H3,I3,r3,k,e,q3⟩=>?_) hm
 subst e
 cases r3
 exact wpAny_truthy_bool ⟨H3,I3,q3⟩
noncomputable def zce(r r':R2)(ta tb tc:TE):TE:=fun σ H Q=>ta σ H fun x H1=>tb σ H1 fun y H2=>r x y H2 fun z H3=>∃k,z=.bl k/\
 (if k=true then tc σ H3 fun w' H4=>r' y w' H4 Q else Q (.bl false) H3)
theorem zje{op op':CmpOp}{r r':R2}(ho:OpR X (compareOp op) r)(ho':OpR X (compareOp op') r')(ha:PE X a ta)(hb:PE X b tb)(hc:PE X c tc)
  (hm:lastMarks [op,op'] [b,c]=false:=by with_unfolding_all rfl):PT X (.Compare a [op,op'] [b,c] pos) (zc4 (zce r r' ta tb tc)):=by
 intro pins s σ H Q I h
 refine isTrue_chain (thn (ha pins s σ H _ I h) fun v s1 ⟨x,H1,I1,r1,q1⟩=>test_link (thn (hb pins s1 σ H1 _ I1 q1) fun u s2 ⟨y,H2,I2,r2,q2⟩=>
  thn (ho pins s2 σ H2 x y v u _ I2 r1 r2 q2) fun d s3 ⟨z,H3,I3,r3,k,e,q3⟩=>?_)) hm
 subst e
 cases r3
 refine wpAny_truthy_bool ?_
 cases k with
 |false=>
  obtain⟨k',e',q'⟩:=q3
  cases e'
  exact ite_ff ⟨H3,I3,q'⟩
 |true=>
  refine ite_tt (test_last (thn (hc pins s3 σ H3 _ I3 q3) fun w' s4 ⟨z',H4,I4,r4,q4⟩=>thn (ho' pins s4 σ H4 y z' u w' _ I4 r2 r4 q4) fun d' s5 ⟨z2,H5,I5,r5,k2,e2,q5⟩=>?_))
  subst e2
  cases r5
  exact wpAny_truthy_bool ⟨H5,I5,q5⟩
theorem z72:(sizeLine:Nat)<2 ^ 63:=by rw[sizeLine_eq];decide
theorem z3m:OpR X (binaryOp .Add) (fun x y H Q=>∃i j,x=.str i/\y=.str j/\i.length+j.length<=sizeLine/\Q (.str (i++j)) H):=by
 intro pins s σ H x y v u Q I rx ry h
 obtain⟨i,j,rfl,rfl,hz,q⟩:=h
 obtain⟨t,rfl⟩:=rx
 obtain⟨t',rfl⟩:=ry
 exact add_str (fun t' tk=>⟨.str (i++j),H,I.tok _,⟨_,rfl⟩,q⟩) hz
theorem z58{x:V}{us:List Value}(r:Vals [x] us):∃u,us=[u]/\RelV x u:=by
 cases r with
 |cons r1 r2=>cases r2;exact⟨_,rfl,r1⟩
theorem zfu{x y:V}{us:List Value}(r:Vals [x,y] us):∃u w',us=[u,w']/\RelV x u/\RelV y w':=by
 cases r with
 |cons r1 r2=>
  cases r2 with
  |cons r3 r4=>cases r4;exact⟨_,_,rfl,r1,r3⟩
theorem zb1(hc:X.calm=true):CallR X (.builtin "min") (fun xs H Q=>∃ i j,xs=[.int i,.int j]/\Q (.int (if j<i then j else i)) H):=by
 intro pins s σ H xs us Q I r h
 obtain⟨i,j,rfl,q⟩:=h
 obtain⟨u,w',rfl,⟨t,rfl⟩,⟨t',rfl⟩⟩:=zfu r
 refine min_two_ints (I.ok.hd hc) fun h' tk k=>⟨_,H,I.kept k,?_,q⟩
 by_cases hj:j<i
 .rw[if_pos hj,if_pos hj];exact⟨_,rfl⟩
 .rw[if_neg hj,if_neg hj];exact⟨_,rfl⟩
end
end L2
namespace L2
open PySem PySem.Spec PyProof.Rows
structure ObjM(h:Heap)(x dx C:Addr)(mA:Str->Option Value):Prop where
 obj:h.get? x=some (PySem.W.instObj C dx)
 ns:h.Ns1 dx mA
 ne:dx≠x
theorem zhj{h:Heap}{dx:Addr}{mA:Str->Option Value}(n:h.Ns1 dx mA):∃od,h.get? dx=some od/\∀name,PySem.W.lookIn name od=some (mA name):=by
 obtain⟨o,es,ep,ho,hd,hk,_,hm⟩:=n
 refine⟨o,ho,fun name=>?_⟩
 have e:=hm name
 unfold nsFind findBy at e
 rw[<-Array.find?_toList]at e
 unfold PySem.W.lookIn
 rw[hd]
 dsimp only
 split
 .rename_i y q
  rw[q]at e
  exact x0u some e
 .rename_i q
  rw[q]at e
  have a:es.toList.any (·.refKey)=false:=by
   rw[List.any_eq_false]
   intro y hy
   obtain⟨z,t,hkey⟩:=hk y (Array.mem_toList_iff.mp hy)
   simp[DictEntry.refKey,hkey]
  have a':¬ es.toList.any (·.refKey)=true:=by rw[a];exact xa
  rw[if_neg a']
  exact x0u some e
theorem ObjM.look{h:Heap}{x dx C:Addr}{mA:Str->Option Value}(I:ObjM h x dx C mA):∃od,PySem.W.InstAt h x (PySem.W.instObj C dx) C (some od)/\∀name,PySem.W.lookIn name od=some (mA name):=
 let⟨od,ho,hl⟩:=zhj I.ns
 ⟨od,⟨I.obj,rfl,rfl,ho⟩,hl⟩
section
variable {prog:Program}{w:World}{A:Around}{E:Value->Shared->Prop}{s:Shared}{K:PySem.W.Frag}{x dx C f:Addr}{mA:Str->Option Value}{name:Str}{v:Value}
theorem zks{expr:Bool}{Q:Value->Shared->Prop}(X:K.In s.heap)(I:ObjM s.heap x dx C mA)(hg:PySem.W.plainGet K C name=true)(hh:PySem.W.hasDictIn K C=true)
  (ha:PySem.W.findIn K (.ref C) name=some none) (hv:mA name=some v) (hv':PySem.W.handedIn v=true) (h:Q v { s with toks:=s.toks+1 }):
  wpAny (model prog w) A (getAttr (.ref x) name expr) Q E s:=by
 obtain⟨od,J,hl⟩:=I.look
 exact PySem.W.get_value X J (PySem.W.plainGet_of hg).1 (PySem.W.findObj_own hh ha rfl (by rw[hl,hv])) hv' h
theorem zjf{pl:Sem Bool}{Q:Value×List Value->Shared->Prop}(X:K.In s.heap)(I:ObjM s.heap x dx C mA)(hg:PySem.W.plainGet K C name=true)
  (hf:PySem.W.findIn K (.ref C) name=some (some (.ref f))) (ht:PySem.W.isFn K (.ref f)=true) (hv:mA name=none) (h:Q (.ref f,[.ref x]) s):
  wpAny (model prog w) A (getMethod (.ref x) name pl) Q E s:=by
 obtain⟨od,J,hl⟩:=I.look
 exact PySem.W.method_fn X J (PySem.W.plainGet_of hg).1 (PySem.W.plainGet_of hg).2 hf (beq_iff_eq.mp ht) (by show(PySem.W.lookIn name od).map (·.isSome)=some false;rw[hl,hv];rfl) h
theorem zkt{ns:List Str}{Q:Unit->Shared->Prop}(X:K.In s.heap)(I:ObjM s.heap x dx C mA)
  (hs:PySem.W.findIn K (.ref C) "__setattr__"=some (some (.builtin "object.__setattr__"))) (hp:PySem.W.plainOver K C=true) (ht:PySem.W.takerIn K C name=some none) (hh:PySem.W.hasDictIn K C=true)
  (hw:PySem.Within mA ns) (hsz:ns.length<=sizeLine)
  (h:∀h',ObjM h' x dx C (fun y=>if y=name then some v else mA y)->Heap.SameBut dx s.heap h'->Q () { s with heap:=h',toks:=s.toks+2 }):
  wpAny (model prog w) A (setAttr (.ref x) name v) Q E s:=by
 obtain⟨od,J,hl⟩:=I.look
 refine PySem.W.set_plain X J hs (PySem.W.osa_open (s:={ s with toks:=s.toks+1 }) (r:=none) X J hp ht fun b=>?_)
 obtain⟨cd,hc,hd'⟩:=PySem.W.any_some hh
 have hx:s.heap.get? x=some ⟨.ref C,some dx,.plain,#[]⟩:=I.obj
 refine x8 (xh (x8 (x8 (wpAny_loadPart hx (x8 (PySem.W.Looks.here (s:={ s with toks:=s.toks+1 }) (PySem.W.looks_clsIn X hc) ?_))))))
 rw[hd']
 refine xh (a:=some dx) (x8 (xh (x8 ?_)))
 refine wpAny_nsSet1 (s:={ s with toks:=s.toks+1 }) I.ns fun h' hn2 hs2=>?_
 obtain⟨oD,esD,epD,hoD,hdD,hcD⟩:=hn2.count (PySem.Within.cons name v hw)
 refine x8 (wpAny_lookBehind hoD (by rw[hdD];exact pastItsLine_dict (xp hcD (by rw[x0o];omega))) ?_)
 exact xh (h _ ⟨(hs2.2 _ (Ne.symm I.ne)).trans I.obj,hn2,I.ne⟩ hs2)
theorem zjg{R:Result->Shared->Prop}{vs:List Value}{kw:List (Str×Value)}(X:K.In s.heap)(hm:PySem.W.makesIn K C=true)
  (hi:PySem.W.findIn K (.ref C) "__init__"=some (some (.ref f))) (hf:PySem.W.typeIn K (.ref f)=some (.type "function"))
  (h:codeAny (model prog w) (A.under (.builtin "type.__call__" ⟨.ref C::vs,kw⟩)) (.call (.ref f) ⟨.ref (s.heap.objs.size+1)::vs,kw⟩) (PySem.W.InitBack (s.heap.objs.size+1) R)
   { s with heap:=(s.heap.push PySem.W.emptyDict).push (PySem.W.instObj C s.heap.objs.size) }):
  codeAny (model prog w) A (.call (.ref C) ⟨vs,kw⟩) R s:=by
 obtain⟨hh,g,d,t,os⟩:=s
 exact PySem.W.make_core (PySem.W.makes_of X hm) (PySem.W.looks_findIn X hi) (fun self=>PySem.W.bind_fn X self hf) (.inl rfl) h
end
noncomputable def putF(f:Str)(v:V):List (Str×V)->List (Str×V)
 |[]=>[(f,v)]
 |(g,x)::r=>if g=f then(g,v)::r else(g,x)::putF f v r
theorem z8e(f g:Str)(v:V):∀fs:List (Str×V),(putF f v fs).lookup g=if g=f then some v else fs.lookup g
 |[]=>by
  show List.lookup g [(f,v)]=_
  by_cases h:g=f
  .have hb:(g==f)=true:=beq_iff_eq.mpr h
   simp only[List.lookup,hb,if_pos h]
  .have hb:(g==f)=false:=beq_eq_false_iff_ne.mpr h
   simp only[List.lookup,hb,if_neg h]
 |(k,x)::r=>by
  have ih:=z8e f g v r
  rw[show putF f v ((k,x)::r)=(if k=f then(k,v)::r else(k,x)::putF f v r) from rfl]
  by_cases hk:k=f
  .rw[if_pos hk]
   by_cases h:g=k
   .have hb:(g==k)=true:=beq_iff_eq.mpr h
    simp only[List.lookup,hb,if_pos (h.trans hk)]
   .have hb:(g==k)=false:=beq_eq_false_iff_ne.mpr h
    simp only[List.lookup,hb,if_neg (fun e:g=f=>h (e.trans hk.symm))]
  .rw[if_neg hk]
   by_cases h:g=k
   .have hb:(g==k)=true:=beq_iff_eq.mpr h
    simp only[List.lookup,hb,if_neg (fun e:g=f=>hk (h.symm.trans e))]
   .have hb:(g==k)=false:=beq_eq_false_iff_ne.mpr h
    simp only[List.lookup,hb]
    exact ih
theorem z73(f:Str)(v:V):∀fs:List (Str×V),f∈(putF f v fs).map (·.1)/\∀g,g∈fs.map (·.1)->g∈(putF f v fs).map (·.1)
 |[]=>⟨by simp[putF],fun g h=>by simp at h⟩
 |(k,x)::r=>by
  obtain⟨i1,i2⟩:=z73 f v r
  rw[show putF f v ((k,x)::r)=(if k=f then(k,v)::r else(k,x)::putF f v r) from rfl]
  by_cases hk:k=f
  .rw[if_pos hk]
   subst hk
   exact⟨by simp,fun g h=>by simpa using h⟩
  .rw[if_neg hk]
   refine⟨?_,fun g h=>?_⟩
   .rw[x0h]
    exact x09 _ i1
   .rw[x0h]at h⊢
    rcases xo.mp h with e|e
    .exact xo.mpr (.inl e)
    .exact x09 _ (i2 g e)
theorem z8f(f:Str)(v:V):∀fs:List (Str×V),(putF f v fs).length<=fs.length+1
 |[]=>by simp[putF]
 |(k,x)::r=>by
  have ih:=z8f f v r
  rw[show putF f v ((k,x)::r)=(if k=f then(k,v)::r else(k,x)::putF f v r) from rfl]
  by_cases hk:k=f
  .rw[if_pos hk,x0o,x0o];omega
  .rw[if_neg hk,x0o,x0o];omega
theorem RelO.some_of{v:V}{o:Option Value}(r:RelO (some v) o):∃u,o=some u/\RelV v u:=by
 cases o with
 |none=>exact(show False from r).elim
 |some u=>exact⟨u,rfl,r⟩
theorem RelO.none_of{o:Option Value}(r:RelO none o):o=none:=by
 cases o with
 |none=>rfl
 |some u=>exact(show False from r).elim
theorem zhk{v:V}{u:Value}(r:RelV v u):PySem.W.handedIn u=true:=by
 cases v with
 |non=>cases(show u=Value.none from r);rfl
 |bl b=>cases(show u=Value.bool b from r);rfl
 |int i=>obtain⟨t,e⟩:=(show∃t,u=Value.int i t from r);cases e;rfl
 |str x=>obtain⟨t,e⟩:=(show∃t,u=Value.str x t from r);cases e;rfl
 |byt b=>obtain⟨t,e⟩:=(show∃t,u=Value.bytes b t from r);cases e;rfl
 |flt b=>obtain⟨t,e⟩:=(show∃t,u=Value.float b t from r);cases e;rfl
 |ref a=>cases(show u=Value.ref a from r);rfl
 |ty n=>cases(show u=Value.type n from r);rfl
section
variable {P:Program}{w:World}{H H':Hp}{h h':Heap}{a C dx:Addr}{fs fs':List (Str×V)}
theorem z5u(hok:HOk P w H h)(e:H a=some (.ins C dx fs)):∃mA,ObjM h a dx C mA/\(∀f,RelO (fs.lookup f) (mA f))/\PySem.Within mA (fs.map (·.1))/\fs.length<=1000/\H dx=some (.own a):=by
 obtain⟨d,z,ne,ob,mA,n,r,q⟩:=(show ObjOk P w H h a (.ins C dx fs) from hok a _ e)
 exact⟨mA,⟨ob,n,ne⟩,r,q,z,d⟩
end
structure Cls(K:PySem.W.Frag)(C:Addr):Prop where
 pg:PySem.W.plainGet K C Str.empty=true
 hd:PySem.W.hasDictIn K C=true
 po:PySem.W.plainOver K C=true
 sa:PySem.W.findIn K (.ref C) "__setattr__"=some (some (.builtin "object.__setattr__"))
theorem Cls.get{K:PySem.W.Frag}{C:Addr}(c:Cls K C)(f:Str):PySem.W.plainGet K C f=true:=c.pg
noncomputable def NoAttr(K:PySem.W.Frag)(C:Addr)(f:Str):Prop:=PySem.W.findIn K (.ref C) f=some none
theorem NoAttr.taker{K:PySem.W.Frag}{C:Addr}{f:Str}(n:NoAttr K C f):PySem.W.takerIn K C f=some none:=by
 unfold PySem.W.takerIn
 rw[show PySem.W.findIn K (.ref C) f=some none from n]
 rfl
structure Con(K:PySem.W.Frag)(C:Addr)(f:Str)(v:V)(u:Value):Prop where
 at_:PySem.W.findIn K (.ref C) f=some (some u)
 rel:RelV v u
 get:PySem.W.specialIn K u "__get__"=some none
 cp:PySem.W.copiedNames.contains f=false
structure Meth(K:PySem.W.Frag)(C:Addr)(m:Str)(f:Addr):Prop where
 at_:PySem.W.findIn K (.ref C) m=some (some (.ref f))
 fn:PySem.W.isFn K (.ref f)=true
 kp:PySem.W.keepIn K (.ref f)=true
section
variable {X:Cx}{pins:List (Addr×Obj)}{σ:St}{H:Hp}{s:Shared}{a C dx:Addr}{fs:List (Str×V)}{f:Str}{v:V}{A:Around}{E:Value->Shared->Prop}
theorem zfv{b:Bool}{Q:Value->Shared->Prop}(I:Inv X pins σ H s)(e:H a=some (.ins C dx fs))(c:Cls X.K C)(n:NoAttr X.K C f)(l:fs.lookup f=some v)
  (h:∀u s',Inv X pins σ H s'->RelV v u->Q u s'):wpAny (model X.prog X.w) A (getAttr (.ref a) f b) Q E s:=by
 obtain⟨mA,O,r,_,_,_⟩:=z5u I.hok e
 obtain⟨u,hu,ru⟩:=RelO.some_of (v:=v) (o:=mA f) (by rw[<-l];exact r f)
 exact zks I.kIn O (c.get f) c.hd n hu (zhk ru) (h u _ (I.tok _) ru)
theorem z61{m:Str}{g:Addr}{pl:Sem Bool}{Q:Value×List Value->Shared->Prop}(I:Inv X pins σ H s)(e:H a=some (.ins C dx fs))(c:Cls X.K C)(k:Meth X.K C m g)(l:fs.lookup m=none)
  (h:Q (.ref g,[.ref a]) s):wpAny (model X.prog X.w) A (getMethod (.ref a) m pl) Q E s:=by
 obtain⟨mA,O,r,_,_,_⟩:=z5u I.hok e
 have hn:mA m=none:=RelO.none_of (by rw[<-l];exact r m)
 exact zjf I.kIn O (c.get m) k.at_ k.fn hn h
theorem zfw{y:V}{u:Value}{Q:Unit->Shared->Prop}(I:Inv X pins σ H s)(e:H a=some (.ins C dx fs))(c:Cls X.K C)(n:NoAttr X.K C f)(hl:fs.length<1000)(ry:RelV y u)
  (h:∀s',Inv X pins σ (upd H a (.ins C dx (putF f y fs))) s'->Q () s'):wpAny (model X.prog X.w) A (setAttr (.ref a) f u) Q E s:=by
 obtain⟨mA,O,r,wi,_,ho⟩:=z5u I.hok e
 have hz:(fs.map (·.1)).length<=sizeLine:=by rw[x0,sizeLine_eq];omega
 refine zkt I.kIn O c.sa c.po n.taker c.hd wi hz fun h' O' sb=>h _ ?_
 have hd:∃o,h'.get? dx=some o:=let⟨o,_,_,e',_⟩:=O'.ns;⟨o,e'⟩
 refine I.write (x:=a) (e:=dx) (by rw[e];exact x1k) (.inr ho) (fun b q hb z=>(sb.2 b hb).trans z) hd ?_
 refine⟨by rw[zb O.ne];exact ho,?_,O.ne,O'.obj,_,O'.ns,fun g=>?_,fun g hg=>?_⟩
 .have:=z8f f y fs;omega
 .show RelO ((putF f y fs).lookup g) (if g=f then some u else mA g)
  rw[z8e]
  by_cases q:g=f
  .rw[if_pos q,if_pos q];exact ry
  .rw[if_neg q,if_neg q];exact r g
 .by_cases q:g=f
  .rw[q];exact(z73 f y fs).1
  .refine(z73 f y fs).2 g (wi g fun z=>hg ?_)
   show(if g=f then some u else mA g)=none
   rw[if_neg q];exact z
theorem Inv.made(I:Inv X pins σ H s):Inv X pins σ (upd (upd H s.heap.objs.size (.own (s.heap.objs.size+1))) (s.heap.objs.size+1) (.ins C s.heap.objs.size []))
  { s with heap:=(s.heap.push PySem.W.emptyDict).push (PySem.W.instObj C s.heap.objs.size) }:=by
 have e1:(s.heap.push PySem.W.emptyDict).get? s.heap.objs.size=some PySem.W.emptyDict:=xu s.heap rfl
 have e2:((s.heap.push PySem.W.emptyDict).push (PySem.W.instObj C s.heap.objs.size)).get? (s.heap.objs.size+1)=some (PySem.W.instObj C s.heap.objs.size):=by
  have:=xu (s.heap.push PySem.W.emptyDict) (o:=PySem.W.instObj C s.heap.objs.size) rfl
  rwa[x14]at this
 have e3:(s.heap.push PySem.W.emptyDict).Ns s.heap.objs.size (fun _=>none):=⟨PySem.W.emptyDict,#[],_,e1,rfl,(fun e he=>absurd he (by simp)),fun _=>rfl⟩
 have I1:=I.laid (a:=s.heap.objs.size) (o:=.own (s.heap.objs.size+1)) (h':=s.heap.push PySem.W.emptyDict) (t':=s.toks) (fun b u q=>xf _ q) (xk _) ⟨_,e1⟩
 refine I1.laid (a:=s.heap.objs.size+1) (o:=.ins C s.heap.objs.size []) (t':=s.toks) (fun b u q=>xf _ q) (Nat.le_of_eq (x14 _ _)) ?_
 have ne:s.heap.objs.size≠s.heap.objs.size+1:=xy (x1a _)
 refine⟨by rw[zb ne,z8],x03 _,ne,e2,fun _=>none,(Heap.Ns1.of_empty e3).at fun o q=>xf _ q,fun _=>x1k,fun y hy=>absurd rfl hy⟩
theorem zku{prog:Program}{w:World}{env:Env}{e:Expr}{f:Str}{pos:Pos}{s:Shared}{Q:Value->Shared->Prop}(hb:attributeBase e f env (eval e env)=eval e env)
  (h:wpAny (model prog w) A (eval e env) (fun o s₁=>wpAny (model prog w) A (getAttr o f true) Q E s₁) E s):wpAny (model prog w) A (eval (.Attribute e f pos) env) Q E s:=
 Attribute_any_ h (by rw[arm_eval_Attribute,hb])
end
noncomputable def tFld(K:PySem.W.Frag)(ta:TE)(f:Str):TE:=fun σ H Q=>ta σ H fun x H1=>∃a C dx fs v,x=.ref a/\H1 a=some (.ins C dx fs)/\Cls K C/\NoAttr K C f/\fs.lookup f=some v/\Q v H1
noncomputable def sFld(K:PySem.W.Frag)(ta tv:TE)(f:Str):TS:=fun D σ H=>tv σ H fun y H1=>ta σ H1 fun x H2=>∃a C dx fs,x=.ref a/\H2 a=some (.ins C dx fs)/\Cls K C/\NoAttr K C f/\fs.length<1000/\
 D.nx σ (upd H2 a (.ins C dx (putF f y fs)))
section
variable {X:Cx}{o e value:Expr}{f:Str}{pos pos' tpos:Pos}{ta tv:TE}
theorem z2f(he:PE X e ta)(hb:attributeBase e f X.env (eval e X.env)=eval e X.env):PE X (.Attribute e f pos) (tFld X.K ta f):=by
 intro pins s σ H Q I h
 refine zku hb (thn (he pins s σ H _ I h) fun u s1 ⟨x,H1,I1,rx,a,C,dx,fs,v,ex,ea,c,n,l,q⟩=>?_)
 subst ex
 obtain rfl:u=Value.ref a:=rx
 exact zfv I1 ea c n l fun u' s2 I2 ru=>⟨v,H1,I2,ru,q⟩
theorem z3d(ha:PE X o ta)(hv:PE X value tv)(hs:swapsWith value (some (.Attribute o f pos')) pos.line X.env=pure false):PS X (.Assign [.Attribute o f pos'] value pos) (sFld X.K ta tv f):=by
 intro pins s σ H D I h
 refine plainObj_wpAny_Assign_Attribute (thn (hv pins s σ H _ I h) fun u s1 ⟨y,H1,I1,ry,q⟩=>thn (ha pins s1 σ H1 _ I1 q) fun ov s2 ⟨x,H2,I2,rx,a,C,dx,fs,ex,ea,c,n,l,q2⟩=>?_) hs
 subst ex
 obtain rfl:ov=Value.ref a:=rx
 exact zfw I2 ea c n l ry fun s3 I3=>⟨σ,_,I3,q2⟩
end
section
variable {X:Cx}{pins:List (Addr×Obj)}{σ:St}{H:Hp}{s:Shared}{A:Around}{E:Value->Shared->Prop}{Q:Value->Shared->Prop}{c:Value}{b:Bool}
inductive TyOf (K:PySem.W.Frag)(H:Hp):V->Value->Prop where
 |non:TyOf K H .non (.type "NoneType")
 |bl (x:Bool):TyOf K H (.bl x) (.type "bool")
 |int (i:Int):TyOf K H (.int i) (.type "int")
 |str (x:Str):TyOf K H (.str x) (.type "str")
 |flt (x:UInt64):TyOf K H (.flt x) (.type "float")
 |lst {a:Addr} {xs:List V} (e:H a=some (.lst xs)):TyOf K H (.ref a) (.type "list")
 |frz {a:Addr} {o:Obj} {xs:List V} (e:H a=some (.frz o (.lst xs))):TyOf K H (.ref a) (.type "list")
 |tup {a:Addr} {xs:List V} (e:H a=some (.tup xs)):TyOf K H (.ref a) (.type "tuple")
 |dK {a:Addr} {kvs:List (Key×V)} (e:H a=some (.dK kvs)):TyOf K H (.ref a) (.type "dict")
 |dT {a:Addr} {kvs:List (List Key×V)} (e:H a=some (.dT kvs)):TyOf K H (.ref a) (.type "dict")
 | ins {a C dx:Addr} {fs:List (Str×V)} (e:H a=some (.ins C dx fs)) (cl:Cls K C) (ha:PySem.W.findIn K (.ref C) "__class__"=some (some (.builtin "object.__class__")))
   (hn:PySem.W.specialIn K (.builtin "object.__class__") "__get__"=some (some (.builtin "getset_descriptor.__get__"))) (htk:PySem.W.takesIn K (.builtin "object.__class__")=some true)
   (hm:PySem.W.mroIn K C (.type "object")=some true):TyOf K H (.ref a) (.ref C)
theorem zhl{x:V}{u t:Value}(I:Inv X pins σ H s)(rx:RelV x u)(ty:TyOf X.K H x t)(e:PySem.W.kitOne X.K t c=some b)(h:∀tk,Q (.bool b) { s with toks:=tk }):
  wpAny (model X.prog X.w) A (call (.builtin "isinstance") [u,c]) Q E s:=by
 cases ty with
 |non=>cases(show u=Value.none from rx);exact x1q PySem.W.kitx_none I.kIn x1k e (fun z=>nomatch z) h
 |bl y=>cases(show u=Value.bool y from rx);exact x1q PySem.W.kitx_bool I.kIn x1k e (fun z=>nomatch z) h
 |int i=>obtain⟨t,q⟩:=(show∃t,u=Value.int i t from rx);cases q;exact x1q PySem.W.kitx_int I.kIn x1k e (fun z=>nomatch z) h
 |str y=>obtain⟨t,q⟩:=(show∃t,u=Value.str y t from rx);cases q;exact x1q PySem.W.kitx_str I.kIn x1k e (fun z=>nomatch z) h
 |flt y=>obtain⟨t,q⟩:=(show∃t,u=Value.float y t from rx);cases q;exact x1q PySem.W.kitx_float I.kIn x1k e (fun z=>nomatch z) h
 |@lst a xs ea=>
  cases(show u=Value.ref a from rx)
  obtain⟨_,_,n,_,h1⟩:=(show ObjOk X.prog X.w H s.heap a (.lst xs) from I.hok a _ ea)
  exact x1q PySem.W.kitx_list I.kIn ⟨_,h1,rfl⟩ e (fun z=>nomatch z) h
 |@frz a ob xs ea=>
  cases(show u=Value.ref a from rx)
  obtain⟨_,_,_,n,_,h1⟩:=(show ObjOk X.prog X.w H s.heap a (.frz ob (.lst xs)) from I.hok a _ ea)
  exact x1q PySem.W.kitx_list I.kIn ⟨_,h1,rfl⟩ e (fun z=>nomatch z) h
 |@tup a xs ea=>
  cases(show u=Value.ref a from rx)
  obtain⟨_,_,_,p⟩:=(show ObjOk X.prog X.w H s.heap a (.tup xs) from I.hok a _ ea)
  obtain⟨o,h1,h2,_⟩:=p
  exact x1q PySem.W.kitx_tuple I.kIn ⟨o,h1,h2⟩ e (fun z=>nomatch z) h
 |@dK a kvs ea=>
  cases(show u=Value.ref a from rx)
  obtain⟨_,_,vs,_,p⟩:=(show ObjOk X.prog X.w H s.heap a (.dK kvs) from I.hok a _ ea)
  obtain⟨o,es,ep,h1,h2,_⟩:=p
  exact x1q PySem.W.kitx_dict I.kIn ⟨o,h1,h2.1⟩ e (fun z=>nomatch z) h
 |@dT a kvs ea=>
  cases(show u=Value.ref a from rx)
  obtain⟨_,_,xs,_,o,es,ep,h1,h2,_⟩:=(show ObjOk X.prog X.w H s.heap a (.dT kvs) from I.hok a _ ea)
  exact x1q PySem.W.kitx_dict I.kIn ⟨o,h1,h2.1⟩ e (fun z=>nomatch z) h
 |@ins a C dx fs ea cl ha hn htk hm=>
  cases(show u=Value.ref a from rx)
  obtain⟨mA,O,_⟩:=z5u I.hok ea
  obtain⟨od,J,_⟩:=O.look
  exact x1q (PySem.W.kitx_own (cl.get _) cl.hd ha hn htk hm) I.kIn J e (fun z=>nomatch z) h
end
end L2
namespace L2
open PySem PySem.Spec PyProof.Rows
structure Room(k:Nat)(A:Around):Prop where
 hd:A.handled=none
 dp:A.depth+3*k+5<recursionLimit
 un:A.units+16*k+200<cLine
theorem Room.mono{j k:Nat}{A:Around}(r:Room k A)(h:j<=k):Room j A:=⟨r.hd,by have:=r.dp;omega,by have:=r.un;omega⟩
theorem Room.deeper{k:Nat}{A:Around}(r:Room (k+1) A)(env:Env):Room k (A.deeper env):=
 ⟨r.hd,by have:=r.dp;show A.depth+1+3*k+5<_;omega,by have:=r.un;show A.units+3+16*k+200<_;omega⟩
theorem Room.in1{k:Nat}{A:Around}(r:Room (k+1) A):Room k A.in1:=
 ⟨r.hd,by have:=r.dp;show A.depth+3*k+5<_;omega,by have:=r.un;show A.units+1+16*k+200<_;omega⟩
theorem zfx{A:Around}{C:Addr}{us:List Value}{kw:List (Str×Value)}:(A.under (.builtin "type.__call__" ⟨.ref C::us,kw⟩)).depth=A.depth+1:=by
 first|rfl|simp[Around.under,Code.weight,Code.isCreation,Code.isGuard,Code.isCaller,Code.frames,Code.isFrame,guardIds]
theorem zfy{A:Around}{C:Addr}{us:List Value}{kw:List (Str×Value)}:(A.under (.builtin "type.__call__" ⟨.ref C::us,kw⟩)).units=A.units+1:=by
 first|rfl|simp[Around.under,Code.cUnits,Code.frames,Code.isFrame]
theorem Room.make{k:Nat}{A:Around}(r:Room (k+1) A)(C:Addr)(us:List Value)(kw:List (Str×Value)):Room k (A.under (.builtin "type.__call__" ⟨.ref C::us,kw⟩)):=
 ⟨r.hd,by have:=r.dp;rw[zfx];omega,by have:=r.un;rw[zfy];omega⟩
theorem Room.depth{k:Nat}{A:Around}(r:Room k A):A.depth<recursionLimit:=by have:=r.dp;omega
theorem Room.units{k:Nat}{A:Around}(r:Room k A):A.units+64<cLine:=by have:=r.un;omega
theorem Room.units0{k:Nat}{A:Around}(r:Room k A):A.units<cLine:=by have:=r.un;omega
noncomputable def tNil:TA:=fun _ H Q=>Q [] H
noncomputable def zc5(ta:TE)(tr:TA):TA:=fun σ H Q=>ta σ H fun x H1=>tr σ H1 fun xs H2=>Q (x::xs) H2
section
variable {X:Cx}{e:Expr}{es:List Expr}{te:TE}{t:TA}{pos:Pos}
theorem z9:PA X [] tNil:=fun _ _ _ _ H Q I h=>Calls.spliced_nil ⟨[],H,I,.nil,h⟩
theorem z6(ha:PE X e te)(hr:PA X es t)(hs:starEach (e::es) X.env=(false,eval e X.env)::starEach es X.env:=by rfl):PA X (e::es) (zc5 te t):=by
 intro pos pins s σ H Q I h
 rw[hs]
 show wpAny _ _ (spliced ((false,eval e X.env)::backTo pos (starEach es X.env))) _ _ s
 refine Calls.spliced_cons (thn (ha pins s σ H _ I h) fun u s1 ⟨x,H1,I1,r1,q1⟩=>?_)
 exact thn (hr pos pins s1 σ H1 _ I1 q1) fun us s2 ⟨xs,H2,I2,r2,q2⟩=>⟨x::xs,H2,I2,.cons r1 r2,q2⟩
noncomputable def tTup(t:TA):TE:=fun σ H Q=>t σ H fun xs H1=>xs.length<=sizeLine/\∀p,H1 p=none->Q (.ref p) (upd H1 p (.tup xs))
noncomputable def tLst(t:TA):TE:=fun σ H Q=>t σ H fun xs H1=>xs.length<=sizeLine/\∀p,H1 p=none->Q (.ref p) (upd H1 p (.lst xs))
theorem z1p{x1}(h:PA X es t):PE X (.Tuple es x1 pos) (tTup t):=by
 intro pins s σ H Q I hq
 refine wpAny_Tuple_spliced (thn (h pos pins s σ H _ I hq) fun us s1 ⟨xs,H1,I1,r,z,q⟩=>⟨by rw[<-r.length];exact z,?_⟩)
 have hf:H1 s1.heap.objs.size=none:=I1.hok.fresh (xk _)
 refine⟨.ref s1.heap.objs.size,upd H1 s1.heap.objs.size (.tup xs),I1.laid (t':=s1.toks) (fun b u e=>xf _ e) (xk _) ?_,rfl,q _ hf⟩
 exact⟨z,us,r,⟨_,xu _ rfl,rfl,_,rfl⟩⟩
theorem z1c(h:PA X es t):PE X (.List es pos) (tLst t):=by
 intro pins s σ H Q I hq
 refine wpAny_List_spliced (thn (h pos pins s σ H _ I hq) fun us s1 ⟨xs,H1,I1,r,z,q⟩=>⟨by rw[<-r.length];exact z,?_⟩)
 have hf:H1 s1.heap.objs.size=none:=I1.hok.fresh (xk _)
 refine⟨.ref s1.heap.objs.size,upd H1 s1.heap.objs.size (.lst xs),I1.laid (t':=s1.toks) (fun b u e=>xf _ e) (xk _) ?_,rfl,q _ hf⟩
 exact⟨z,us,0,r,xu _ rfl⟩
end
noncomputable abbrev Sp:=List V->Hp->VK->XK->Prop
noncomputable abbrev CXT:=List Env->Hp->Shared->XK->Value->Shared->Prop
structure Env0(P:Program)(w:World)(K:PySem.W.Frag)(mg:Str->Option Value)(base:Heap)(A:Around)(outer:List Env)(s:Shared)(H:Hp):Prop where
 frames:A.frames=some outer
 mod:Mod K mg base
 bs:∀b o,base.get? b=some o->s.heap.get? b=some o/\H b=none
 bsz:base.objs.size<=s.heap.objs.size
 funs:s.heap.FunFrames base outer
 frf:∀b∈frs outer,H b=none
 hok:HOk P w H s.heap
 bare:AllBare s.gens
noncomputable def CE(outer:List Env)(P:Program)(w:World)(H:Hp)(s:Shared)(Q:VK)(u:Value)(s':Shared):Prop:=
 ∃v H',s'.os=s.os/\AllBare s'.gens/\Un (frs outer) [] H H' s.heap s'.heap/\HOk P w H' s'.heap/\RelV v u/\Q v H'
noncomputable def CR(CX:CXT)(outer:List Env)(P:Program)(w:World)(H:Hp)(s:Shared)(Q:VK)(E:XK)(r:Result)(s':Shared):Prop:=
 match r with
 | .ok (.ret u)=>CE outer P w H s Q u s'
 | .ok _=>False
 | .error e=>CX outer H s E e s'
structure FnOk(P:Program)(w:World)(K:PySem.W.Frag)(mg:Str->Option Value)(base:Heap)(CX:CXT)(k:Nat)(f:Addr)(fd:FuncData)(ps:List Str)(sp:Sp):Prop where
 len:∀vs H Q E,sp vs H Q E->vs.length=ps.length
 run:∀(A:Around)(outer:List Env)(s:Shared)(H:Hp)(args:Args)(us:List Value)(vs:List V)(Q:VK)(E:XK),Room k A->Env0 P w K mg base A outer s H->BindsTo s fd args (ps.zip us)->Vals vs us->sp vs H Q E->
  codeAny (model P w) A (.call (.ref f) args) (CR CX outer P w H s Q E) s
theorem FnOk.mono{P:Program}{w:World}{K:PySem.W.Frag}{mg:Str->Option Value}{base:Heap}{CX:CXT}{j k:Nat}{f:Addr}{fd:FuncData}{ps:List Str}{sp:Sp}(F:FnOk P w K mg base CX j f fd ps sp)(h:j<=k):
  FnOk P w K mg base CX k f fd ps sp:=⟨F.len,fun A outer s H args us vs Q E hr=>F.run A outer s H args us vs Q E (hr.mono h)⟩
theorem FnOk.imp{P:Program}{w:World}{K:PySem.W.Frag}{mg:Str->Option Value}{base:Heap}{CX:CXT}{k:Nat}{f:Addr}{fd:FuncData}{ps:List Str}{sp sp':Sp}(F:FnOk P w K mg base CX k f fd ps sp)
  (h:∀vs H Q E,sp' vs H Q E->sp vs H Q E):FnOk P w K mg base CX k f fd ps sp':=
 ⟨fun vs H Q E q=>F.len vs H Q E (h _ _ _ _ q),fun A outer s H args us vs Q E hr he hb hv hs=>F.run A outer s H args us vs Q E hr he hb hv (h _ _ _ _ hs)⟩
theorem Env0.make{P:Program}{w:World}{K:PySem.W.Frag}{mg:Str->Option Value}{base:Heap}{A:Around}{outer:List Env}{s:Shared}{H:Hp}(e:Env0 P w K mg base A outer s H)(C:Addr)(us:List Value)(kw:List (Str×Value)):
  Env0 P w K mg base (A.under (.builtin "type.__call__" ⟨.ref C::us,kw⟩)) outer s H:=⟨by first|exact e.frames|(simpa[Around.under,Code.envs,Code.isFrame,pushEnvs]using e.frames),e.mod,e.bs,e.bsz,e.funs,e.frf,e.hok,e.bare⟩
theorem Env0.in1{P:Program}{w:World}{K:PySem.W.Frag}{mg:Str->Option Value}{base:Heap}{A:Around}{outer:List Env}{s:Shared}{H:Hp}(e:Env0 P w K mg base A outer s H):
  Env0 P w K mg base A.in1 outer s H:=⟨e.frames,e.mod,e.bs,e.bsz,e.funs,e.frf,e.hok,e.bare⟩
section
variable {X:Cx}{pins:List (Addr×Obj)}{σ:St}{H:Hp}{s s':Shared}
theorem Inv.env0(I:Inv X pins σ H s):Env0 X.prog X.w X.K X.mg X.base X.A X.stack s H:=
 ⟨I.ok.frames,I.ok.mod,I.bs,xp I.ok.bsz I.sz,I.stack,I.stkFree,I.hok,I.bare⟩
theorem Inv.after{Q:VK}{u:Value}(I:Inv X pins σ H s)(h:CE X.stack X.prog X.w H s Q u s'):EP X pins σ Q u s':=by
 obtain⟨v,H',os,bare,un,hok,r,q⟩:=h
 obtain⟨hh,g,d,t,os'⟩:=s'
 obtain rfl:os'=s.os:=os
 exact⟨v,H',I.call (h':=hh) (g':=g) (d':=d) (t':=t) (ch:=[]) un hok bare (fun b z=>absurd z (by simp)),r,q⟩
end
noncomputable def zc6(sp:Sp)(dvs:List V)(E:XK)(t:TA):TE:=fun σ H Q=>t σ H fun vs H1=>sp (vs++dvs) H1 Q E
noncomputable def z62(C:Addr)(m:Str)(sp:Sp)(dvs:List V)(E:XK)(ta:TE)(t:TA):TE:=fun σ H Q=>ta σ H fun x H1=>∃a dx fs,x=.ref a/\H1 a=some (.ins C dx fs)/\fs.lookup m=none/\
 t σ H1 fun vs H2=>sp (x::(vs++dvs)) H2 Q E
noncomputable def z80(C:Addr)(sp:Sp)(dvs:List V)(E:XK)(t:TA):TE:=fun σ H Q=>t σ H fun vs H1=>∀x dx,H1 x=none->H1 dx=none->dx≠x->
 sp (.ref x::(vs++dvs)) (upd (upd H1 dx (.own x)) x (.ins C dx [])) (fun v H2=>v=.non/\Q (.ref x) H2) E
noncomputable def Binds(K:PySem.W.Frag)(fd:FuncData)(ps:List Str)(ds:List Value):Prop:=
 ∀(s:Shared)(us:List Value),K.In s.heap->(us++ds).length=ps.length->BindsTo s fd ⟨us,[]⟩ (ps.zip (us++ds))
theorem Binds.all{K:PySem.W.Frag}{fd:FuncData}{ps:List Str}(h:∀us:List Value,us.length=ps.length->bindArgs fd ⟨us,[]⟩=pure (ps.zip us)):Binds K fd ps []:=fun s us _ hl=>by
 rw[x0l]at hl⊢
 exact .of_eq (h us hl)
noncomputable def z3e(CX:CXT)(X:Cx)(E:XK):Prop:=∀(pins:List (Addr×Obj))(σ:St)(H:Hp)(s:Shared)(e:Value)(s':Shared),Inv X pins σ H s->CX X.stack H s E e s'->X.xe e s'
section
variable {X:Cx}{CX:CXT}{k:Nat}{f C:Addr}{fd:FuncData}{ps:List Str}{sp:Sp}{dvs:List V}{ds:List Value}{E:XK}{x m:Str}{p pos apos:Pos}{e o:Expr}{es:List Expr}{ta:TE}{t:TA}
theorem zcf{pins:List (Addr×Obj)}{σ:St}{H:Hp}{s:Shared}{Q:VK}{us:List Value}{vs:List V}(F:FnOk X.prog X.w X.K X.mg X.base CX k f fd ps sp)(hr:Room k X.A)(hb:Binds X.K fd ps ds)(hd:Vals dvs ds)(hx:z3e CX X E)
  (I:Inv X pins σ H s) (r:Vals vs us) (h:sp (vs++dvs) H Q E):wpAny (model X.prog X.w) X.A (call (.ref f) us) (EP X pins σ Q) X.xe s:=by
 have r2:Vals (vs++dvs) (us++ds):=r.append hd
 have hl:(us++ds).length=ps.length:=by rw[<-r2.length];exact F.len _ _ _ _ h
 refine wpAny_call (codeAny_mono (F.run X.A X.stack s H ⟨us,[]⟩ (us++ds) (vs++dvs) Q E hr I.env0 (hb s us I.kIn hl) r2 h) fun r s' hq=>?_)
 cases r with
 |error e=>exact hx pins σ H s e s' I hq
 |ok fl=>
  cases fl with
  |ret u=>exact I.after hq
  |next=>exact False.elim hq
  |brk=>exact False.elim hq
  |cont=>exact False.elim hq
theorem zkv(F:FnOk X.prog X.w X.K X.mg X.base CX k f fd ps sp)(hr:Room k X.A)(hg:Gl X x)(hm:X.mg x=some (.ref f))(hk:PySem.W.keepIn X.K (.ref f)=true)(hb:Binds X.K fd ps ds)(hd:Vals dvs ds)(hx:z3e CX X E)
  (ha:PA X (e::es) t) (hdb:(x==("__debug__":Str))=false:=by decide) (he:starEach (e::es) X.env=(false,eval e X.env)::starEach es X.env:=by rfl) (hpl:(backTo pos (starEach es X.env)).any (·.1)=false:=by rfl):
  PE X (.Call (.Name x p) (e::es) [] pos) (zc6 sp dvs E t):=by
 intro pins s σ H Q I h
 refine wpAny_Call_Name_kw (z5r I hg hm ?_ hdb)
 refine PySem.W.callWith_K (h₀:=X.base) I.ok.mod.kin hk (thn (ha pos pins s σ H _ I h) fun us s1 ⟨vs,H1,I1,r,q⟩=>⟨I1.kIn,?_⟩) he hpl
 exact zcf F hr hb hd hx I1 r q
theorem zev{pl:Sem Bool}(he:PE X o ta)(c:Cls X.K C)(hm:Meth X.K C m f)(F:FnOk X.prog X.w X.K X.mg X.base CX k f fd ps sp)(hr:Room k X.A)(hb:Binds X.K fd ps ds)(hd:Vals dvs ds)(hx:z3e CX X E)(ha:PA X (e::es) t)
  (hst:starEach (e::es) X.env=(false,eval e X.env)::starEach es X.env:=by rfl) (hpl:(backTo pos (starEach es X.env)).any (·.1)=false:=by rfl)
  (ht:eval (.Call (.Attribute o m apos) (e::es) [] pos) X.env=(do
   let ov<-eval o X.env
   standAt apos.atName
   let (f,first)<-holding [ov] (getMethod ov m pl)
   callWith pos f first (backTo pos (starEach (e::es) X.env)) (backToKw pos (keywordEach [] X.env))):=by rfl):
  PE X (.Call (.Attribute o m apos) (e::es) [] pos) (z62 C m sp dvs E ta t):=by
 intro pins s σ H Q I h
 refine PySem.W.methodCall_KW (pl:=pl) (thn (he pins s σ H _ I h) fun u s1 ⟨x,H1,I1,rx,a,dx,fs,ex,ea,l,q⟩=>?_) ht
 subst ex
 obtain rfl:u=Value.ref a:=rx
 refine z61 I1 ea c hm l ?_
 refine PySem.W.callWith_K (first:=[.ref a]) (h₀:=X.base) I.ok.mod.kin hm.kp (thn (ha pos pins s1 σ H1 _ I1 q) fun us s2 ⟨vs,H2,I2,r,q2⟩=>⟨I2.kIn,?_⟩) hst hpl
 exact zcf (us:=.ref a::us) (vs:=.ref a::vs) F hr hb hd hx I2 (.cons rfl r) q2
theorem zjh{pl:Sem Bool}(he:PE X o ta)(c:Cls X.K C)(hm:Meth X.K C m f)(F:FnOk X.prog X.w X.K X.mg X.base CX k f fd ps sp)(hr:Room k X.A)(hb:Binds X.K fd ps ds)(hd:Vals dvs ds)(hx:z3e CX X E)
  (ht:eval (.Call (.Attribute o m apos) [] [] pos) X.env=(do
   let ov<-eval o X.env
   standAt apos.atName
   let (f,first)<-holding [ov] (getMethod ov m pl)
   callWith pos f first (backTo pos (starEach [] X.env)) (backToKw pos (keywordEach [] X.env))):=by rfl):
  PE X (.Call (.Attribute o m apos) [] [] pos) (z62 C m sp dvs E ta tNil):=by
 intro pins s σ H Q I h
 refine PySem.W.methodCall_KW (pl:=pl) (thn (he pins s σ H _ I h) fun u s1 ⟨x,H1,I1,rx,a,dx,fs,ex,ea,l,q⟩=>?_) ht
 subst ex
 obtain rfl:u=Value.ref a:=rx
 refine z61 I1 ea c hm l ?_
 exact PySem.W.callWith_K0 (first:=[.ref a]) I1.kIn hm.kp (zcf (us:=[.ref a]) (vs:=[.ref a]) F hr hb hd hx I1 (.cons rfl .nil) q)
structure Mk(K:PySem.W.Frag)(C f:Addr):Prop where
 makes:PySem.W.makesIn K C=true
 init:PySem.W.findIn K (.ref C) "__init__"=some (some (.ref f))
 fn:PySem.W.isFn K (.ref f)=true
 kp:PySem.W.keepIn K (.ref C)=true
theorem zcg{pins:List (Addr×Obj)}{σ:St}{H:Hp}{s:Shared}{Q:VK}{us:List Value}{vs:List V}(M:Mk X.K C f)(F:FnOk X.prog X.w X.K X.mg X.base CX k f fd ps sp)(hr:Room (k+1) X.A)(hb:Binds X.K fd ps ds)(hd:Vals dvs ds)
  (hx:z3e CX X E) (I:Inv X pins σ H s) (r:Vals vs us)
  (h:∀x dx,H x=none->H dx=none->dx≠x->sp (.ref x::(vs++dvs)) (upd (upd H dx (.own x)) x (.ins C dx [])) (fun v H2=>v=.non/\Q (.ref x) H2) E):
  wpAny (model X.prog X.w) X.A (call (.ref C) us) (EP X pins σ Q) X.xe s:=by
 have hq:=h (s.heap.objs.size+1) s.heap.objs.size (I.hok.fresh (Nat.le_succ _)) (I.hok.fresh (xk _)) (xy (x1a _))
 have I2:=Inv.made (C:=C) I
 have r2:Vals (V.ref (s.heap.objs.size+1)::(vs++dvs)) (Value.ref (s.heap.objs.size+1)::(us++ds)):=.cons rfl (r.append hd)
 have hl:(Value.ref (s.heap.objs.size+1)::us++ds).length=ps.length:=by
  have e:=r2.length
  rw[F.len _ _ _ _ hq]at e
  exact e.symm
 refine wpAny_call (zjg (f:=f) I.kIn M.makes M.init (beq_iff_eq.mp M.fn) (codeAny_mono (F.run _ X.stack _ _ ⟨Value.ref (s.heap.objs.size+1)::us,[]⟩ (Value.ref (s.heap.objs.size+1)::(us++ds)) _ _ E (hr.make C us [])
  (I2.env0.make C us []) (hb _ (Value.ref (s.heap.objs.size+1)::us) I2.kIn hl) r2 hq) fun r s' hq'=>?_))
 cases r with
 |error e=>exact hx pins σ _ _ e s' I2 hq'
 |ok fl=>
  cases fl with
  |ret u=>
   obtain⟨v,H',I3,rv,ev,q3⟩:=I2.after hq'
   subst ev
   exact⟨rv,⟨V.ref (s.heap.objs.size+1),H',I3,rfl,q3⟩⟩
  |next=>exact False.elim hq'
  |brk=>exact False.elim hq'
  |cont=>exact False.elim hq'
theorem zkw(M:Mk X.K C f)(F:FnOk X.prog X.w X.K X.mg X.base CX k f fd ps sp)(hr:Room (k+1) X.A)(hg:Gl X x)(hm:X.mg x=some (.ref C))(hb:Binds X.K fd ps ds)(hd:Vals dvs ds)(hx:z3e CX X E)
  (ha:PA X (e::es) t) (hdb:(x==("__debug__":Str))=false:=by decide) (he:starEach (e::es) X.env=(false,eval e X.env)::starEach es X.env:=by rfl) (hpl:(backTo pos (starEach es X.env)).any (·.1)=false:=by rfl):
  PE X (.Call (.Name x p) (e::es) [] pos) (z80 C sp dvs E t):=by
 intro pins s σ H Q I h
 refine wpAny_Call_Name_kw (z5r I hg hm ?_ hdb)
 refine PySem.W.callWith_K (h₀:=X.base) I.ok.mod.kin M.kp (thn (ha pos pins s σ H _ I h) fun us s1 ⟨vs,H1,I1,r,q⟩=>⟨I1.kIn,?_⟩) he hpl
 exact zcg M F hr hb hd hx I1 r q
theorem zji(M:Mk X.K C f)(F:FnOk X.prog X.w X.K X.mg X.base CX k f fd ps sp)(hr:Room (k+1) X.A)(hg:Gl X x)(hm:X.mg x=some (.ref C))(hb:Binds X.K fd ps ds)(hd:Vals dvs ds)(hx:z3e CX X E)
  (hdb:(x==("__debug__":Str))=false:=by decide):PE X (.Call (.Name x p) [] [] pos) (z80 C sp dvs E tNil):=by
 intro pins s σ H Q I h
 refine wpAny_Call_Name_kw (z5r I hg hm ?_ hdb)
 exact PySem.W.callWith_K0 I.kIn M.kp (zcg (us:=[]) M F hr hb hd hx I .nil h)
end
noncomputable def PK(X:Cx)(kws:List Keyword)(t:TA):Prop:=
 ∀(pos:Pos)(pins:List (Addr×Obj))(s:Shared)(σ:St)(H:Hp)(Q:List V->Hp->Prop),Inv X pins σ H s->t σ H Q->wpAny (model X.prog X.w) X.A (evalAll ((backToKw pos (keywordEach kws X.env)).map (·.2))) (AP X pins σ Q) X.xe s
section
variable {X:Cx}{CX:CXT}{k:Nat}{f C:Addr}{fd:FuncData}{ps ks:List Str}{sp:Sp}{E:XK}{x m:Str}{p pos apos kpos:Pos}{e o:Expr}{es:List Expr}{kws:List Keyword}{te ta:TE}{t tk:TA}{nm:Option Str}
theorem zlq:PK X [] tNil:=fun _ _ _ _ H Q I h=>wpAny_evalAll_nil ⟨[],H,I,.nil,h⟩
theorem zkx(ha:PE X e te)(hr:PK X kws t):PK X (⟨nm,e,kpos⟩::kws) (zc5 te t):=by
 intro pos pins s σ H Q I h
 show wpAny _ _ (evalAll ((do let v<-eval e X.env;standAt pos;pure v)::(backToKw pos (keywordEach kws X.env)).map (·.2))) _ _ s
 refine wpAny_evalAll_cons (x8 (thn (ha pins s σ H _ I h) fun u s1 ⟨x,H1,I1,r1,q1⟩=>x8 (wpAny_standAt (xh ?_))))
 exact thn (hr pos pins s1 σ H1 _ I1 q1) fun us s2 ⟨xs,H2,I2,r2,q2⟩=>⟨x::xs,H2,I2,.cons r1 r2,q2⟩
structure KBinds(K:PySem.W.Frag)(fd:FuncData)(ps ks:List Str)(g:List Value->List Value->List Value)(gV:List V->List V->List V):Prop where
 to:∀(s:Shared)(us ws:List Value),K.In s.heap->(g us ws).length=ps.length->BindsTo s fd ⟨us,ks.zip ws⟩ (ps.zip (g us ws))
 rel:∀{vs:List V}{us:List Value}{zs:List V}{ws:List Value},Vals vs us->Vals zs ws->Vals (gV vs zs) (g us ws)
variable {g:List Value->List Value->List Value}{gV:List V->List V->List V}
end
structure FnScope(N P:List Str)(sc:Scope):Prop where
 kind:sc.kind=.function
 co:sc.isCoroutine=false
 gen:sc.isGenerator=false
 nd:N.Nodup
 pre:N.take P.length=P
 par:∀x∈P,sc.names.lookup x=some .local\/sc.names.lookup x=some .cell
 nofree:∀y∈sc.names,y.2≠.free
theorem zb2{kindOf:Str->Option NameKind}{x:Str}:∀{binds:List (Str×Value)}{m:Str->Option Value},(∀v,(x,v)∉binds)->bindL kindOf binds m x=m x
 |[],_,_=>rfl
 |(n,v)::r,m,h=>by
  unfold bindL
  rw[zb2 fun w hw=>h w (x09 _ hw)]
  split
  .have:x≠n:=by rintro rfl;exact h v x0c
   simp[this]
  .rfl
theorem zb3{kindOf:Str->Option NameKind}{x:Str}:∀{binds:List (Str×Value)}{m:Str->Option Value},(∀v,(x,v)∉binds)->bindC kindOf binds m x=m x
 |[],_,_=>rfl
 |(n,v)::r,m,h=>by
  unfold bindC
  rw[zb3 fun w hw=>h w (x09 _ hw)]
  split
  .rfl
  .have:x≠n:=by rintro rfl;exact h v x0c
   simp[this]
theorem zb4{kindOf:Str->Option NameKind}{x:Str}{v:Value}:∀{P:List Str}{vs:List Value}{i:Nat}{m:Str->Option Value},P.Nodup->P[i]? =some x->vs[i]? =some v->kindOf x=some .local->
  bindL kindOf (P.zip vs) m x=some v
 |[],_,_,_,_,h,_,_=>by simp at h
 |_::_,[],_,_,_,_,h,_=>by simp at h
 |p::P,w::vs,0,m,nd,h1,h2,hk=>by
  simp at h1 h2;subst h1;subst h2
  show bindL kindOf ((p,w)::P.zip vs) m p=_
  unfold bindL
  rw[zb2 fun v hv=>(List.nodup_cons.mp nd).1 (List.of_mem_zip hv).1,if_pos hk]
  simp
 |p::P,w::vs,i+1,m,nd,h1,h2,hk=>by
  show bindL kindOf ((p,w)::P.zip vs) m x=_
  unfold bindL
  exact zb4 (i:=i) (List.nodup_cons.mp nd).2 (by simpa using h1) (by simpa using h2) hk
theorem zb5{kindOf:Str->Option NameKind}{x:Str}{v:Value}:∀{P:List Str}{vs:List Value}{i:Nat}{m:Str->Option Value},P.Nodup->P[i]? =some x->vs[i]? =some v->kindOf x≠some .local->
  bindC kindOf (P.zip vs) m x=some v
 |[],_,_,_,_,h,_,_=>by simp at h
 |_::_,[],_,_,_,_,h,_=>by simp at h
 |p::P,w::vs,0,m,nd,h1,h2,hk=>by
  simp at h1 h2;subst h1;subst h2
  show bindC kindOf ((p,w)::P.zip vs) m p=_
  unfold bindC
  rw[zb3 fun v hv=>(List.nodup_cons.mp nd).1 (List.of_mem_zip hv).1,if_neg hk]
  simp
 |p::P,w::vs,i+1,m,nd,h1,h2,hk=>by
  show bindC kindOf ((p,w)::P.zip vs) m x=_
  unfold bindC
  exact zb5 (i:=i) (List.nodup_cons.mp nd).2 (by simpa using h1) (by simpa using h2) hk
noncomputable def start(N:List Str)(vs:List V):St:=vs.map some++List.replicate (N.length-vs.length) none
noncomputable def cxOf(CX:CXT)(P:Program)(w:World)(K:PySem.W.Frag)(mg:Str->Option Value)(base:Heap)(N:List Str)(qual:Str)(scope:Scope)(f:Addr)(cd:Value)(A:Around)(outer:List Env)(s:Shared)(H:Hp)(E:XK):Cx where
 prog:=P
 w:=w
 K:=K
 mg:=mg
 base:=base
 A:=A.deeper (envOfC qual scope s.heap.objs.size f cd)
 N:=N
 s₀:=s
 H₀:=H
 env:=envOfC qual scope s.heap.objs.size f cd
 outer:=outer
 stack:=envOfC qual scope s.heap.objs.size f cd::outer
 ex:=[]
 calm:=true
 fn:=fun _=>true
 pn:=[]
 xe:=fun e s'=>wpAny (model P w) (A.deeper (envOfC qual scope s.heap.objs.size f cd)) (leaving (envOfC qual scope s.heap.objs.size f cd) e) (fun _ s''=>CX outer H s E e s'') (fun e' s''=>CX outer H s E e' s'') s'
theorem zch{sc:Scope}{n:Nat}{x:Str}(h:sc.names.lookup x=some .cell):∃c,(cellsFrom n sc.names []).lookup x=some c:=by
 have q:=PySem.W.cellsFrom_some sc.names n [] (.inl h)
 exact Option.isSome_iff_exists.mp q
theorem zhm{CX:CXT}{P:Program}{w:World}{K:PySem.W.Frag}{mg:Str->Option Value}{base:Heap}{N ps:List Str}{qual:Str}{scope:Scope}{f:Addr}{cd:Value}{A:Around}{outer:List Env}{s s1:Shared}{H:Hp}{E:XK}{us:List Value}{vs:List V}
  (S:FnScope N ps scope) (hd:A.handled=none) (e0:Env0 P w K mg base A outer s H) (hl:vs.length=ps.length) (r:Vals vs us)
  (x:InCallC s s.heap.objs.size (bindL (envOfC qual scope s.heap.objs.size f cd).kindOf (ps.zip us) fun _=>none) (cellsFrom (s.heap.objs.size+1) scope.names []) (bindC (envOfC qual scope s.heap.objs.size f cd).kindOf (ps.zip us) fun _=>none) s1):
  Inv (cxOf CX P w K mg base N qual scope f cd A outer s H E) [] (start N vs) H s1:=by
 have hpl:ps.length<=N.length:=by have:=x0u List.length S.pre;rw[x04]at this;omega
 obtain⟨h1,tk,rfl,hk⟩:=x.done
 have noA:∀b:Addr,b∉(cxOf CX P w K mg base N qual scope f cd A outer s H E).ex:=fun b z=>absurd (show b∈([]:List Addr) from z) (by simp)
 refine⟨⟨e0.mod,S.kind,rfl,rfl,xk _,fun y z c h1 h2=>?_,fun y hy=>?_,fun y c _ h=>?_,fun _=>hd,Around.frames_deeper e0.frames,.inr ⟨rfl,rfl⟩,fun b z=>absurd z (noA b),e0.bs,e0.bsz,fun b _ _=>noA b,fun b z=>absurd z (noA b),e0.funs,e0.frf⟩,
  rfl,e0.bare,Un.kept hk,⟨_,x.toInCall.ns,fun i y v h1 h2 h3=>?_⟩,fun y c h=>⟨_,x.cell y c h⟩,e0.hok.fresh (xk _),fun y c h=>?_,fun p hp=>absurd (show p∈([]:List (Addr×Obj)) from hp) (by simp),e0.hok.kept hk,?_⟩
 .exact name_of_addr x.apart (x15 h1) (x15 h2)
 .have hy:scope.names.lookup y=some .cell\/scope.names.lookup y=some .free:=hy
  rcases hy with hy|hy
  .exact zch hy
  .exact absurd rfl (S.nofree _ (x15 hy))
 .exact Nat.le_of_lt (x.above y c (x15 h))
 .have hi:i<vs.length:=by
   unfold start at h2
   by_cases hi:i<vs.length
   .exact hi
   .rw[List.getElem?_append_right (by simpa using hi)]at h2
    rw[List.getElem?_replicate]at h2
    split at h2<;>cases h2
  have ha:vs[i]? =some v:=by
   unfold start at h2
   rw[List.getElem?_append_left (by simpa using hi),xc]at h2
   cases e:vs[i]? with
   |none=>rw[e]at h2;cases h2
   |some a=>rw[e]at h2;cases h2;rfl
  obtain⟨u,hu,rv⟩:=r.get ha
  have hp:ps[i]? =some y:=by
   rw[<-S.pre,List.getElem?_take_of_lt (by omega)];exact h1
  have ndP:ps.Nodup:=by rw[<-S.pre];exact S.nd.sublist (List.take_sublist _ _)
  refine⟨u,rv,?_⟩
  rcases S.par y (x9 hp) with k|k
  .exact .inl ⟨k,zb4 ndP hp hu k⟩
  .obtain⟨c,e⟩:=zch (n:=s.heap.objs.size+1) k
   refine .inr ⟨.inl k,c,e,?_⟩
   have q:=x.cell y c e
   rw[zb5 ndP hp hu (by show scope.names.lookup y≠_;rw[k];decide)]at q
   exact q
 .exact e0.hok.fresh (Nat.le_of_lt (x.above y c (x15 h)))
 .unfold start
  show _=N.length
  rw[x00,x0,List.length_replicate]
  omega
theorem zfz{CX:CXT}{P:Program}{w:World}{K:PySem.W.Frag}{mg:Str->Option Value}{base:Heap}{k:Nat}{f:Addr}{name qual:Str}{params:Arguments}{body:List Stmt}{scope:Scope}{dV kV doc pm cdv ct oc:Value}{an od:Option Addr}
  {osl:Array (Option Value)} {N ps:List Str} {sp:Sp} (lk:K.lookup f=some ⟨oc,od,.func (PySem.W.fnOf name qual params body scope dV kV doc pm an cdv ct),osl⟩) (hcd:PySem.W.codeIn K cdv qual=true) (S:FnScope N ps scope)
  (len:∀vs H Q E,sp vs H Q E->vs.length=ps.length)
  (hbody:∀(A:Around)(outer:List Env)(s:Shared)(H:Hp)(vs:List V)(Q:VK)(E:XK),Room k (A.deeper (envOfC qual scope s.heap.objs.size f cdv))->sp vs H Q E->
   ∃t,PSs (cxOf CX P w K mg base N qual scope f cdv A outer s H E) body t/\t { nx:=fun _ H'=>Q .non H',rt:=Q } (start N vs) H):
  FnOk P w K mg base CX (k+1) f (PySem.W.fnOf name qual params body scope dV kV doc pm an cdv ct) ps sp:=by
 refine⟨len,fun A outer s H args us vs Q E hr e0 hb r hsp=>?_⟩
 have hl:=len _ _ _ _ hsp
 have KX:K.In s.heap:=e0.mod.kin.keeps fun b o e=>(e0.bs b o e).1
 have lim:s.heap.NoLimit:=e0.mod.nolimit.keeps fun b o e=>(e0.bs b o e).1
 have hkind:∀y∈ps.zip us,scope.names.lookup y.1=some .local\/(scope.names.lookup y.1=some .cell/\((cellsFrom (s.heap.objs.size+1) scope.names []).lookup y.1).isSome=true):=fun⟨n,v⟩ hy=>by
  rcases S.par n (List.of_mem_zip hy).1 with q|q
  .exact .inl q
  .exact .inr ⟨q,PySem.W.cellsFrom_some _ _ _ (.inl q)⟩
 refine codeAny_call_function hr.depth (KX _ _ lk) rfl S.co S.gen rfl (PySem.W.codeRec_of KX hcd) (hb _ _ _ _ ?_)
 refine wpAny_newFunctionEnv_cells S.kind hkind fun env he s1 x=>?_
 subst he
 refine⟨lim.keeps x.toInCall.keep,codeAny_func ?_⟩
 obtain⟨t,ht,hq⟩:=hbody A outer s H vs Q E (hr.deeper _) hsp
 have I:Inv (cxOf CX P w K mg base N qual scope f cdv A outer s H E) [] (start N vs) H s1:=zhm S hr.hd e0 hl r x
 refine x0f (ht [] s1 (start N vs) H _ I hq) (fun fl s' hs=>?_) fun e s' hs=>hs
 have fin:∀{σ':St}{H':Hp}{v:V}{u:Value},Inv (cxOf CX P w K mg base N qual scope f cdv A outer s H E) [] σ' H' s'->RelV v u->Q v H'->CE outer P w H s Q u s':=
  fun{σ' H' v u} J rv q=>⟨v,H',J.os,J.bare,J.base,J.hok,rv,q⟩
 cases fl with
 |ret u=>
  obtain⟨v,σ',H',J,rv,q⟩:=hs
  exact fin J rv q
 |next=>
  obtain⟨σ',H',J,q⟩:=hs
  exact fin (v:=V.non) (u:=Value.none) J rfl q
 |brk=>
  obtain⟨_,_,_,q⟩:=hs
  exact False.elim q
 |cont=>
  obtain⟨_,_,_,q⟩:=hs
  exact False.elim q
end L2
namespace L2
open PySem PySem.Spec PyProof.Rows
section
variable {X:Cx}{x:Str}{p pos:Pos}{e:Expr}{es:List Expr}{t:TA}{id T:String}{r:List V->Hp->VK->Prop}
noncomputable def tCB(r:List V->Hp->VK->Prop)(t:TA):TE:=fun σ H Q=>t σ H fun vs H1=>r vs H1 Q
theorem zj(hc:CallR X (.builtin id) r)(hg:Gl X x)(hm:X.mg x=none)(hv:bootBuiltins x=some (.builtin id))(ha:PA X (e::es) t)(hn:x≠ "__name__":=by decide)(hdb:(x==("__debug__":Str))=false:=by decide)
  (he:starEach (e::es) X.env=(false,eval e X.env)::starEach es X.env:=by rfl) (hpl:(backTo pos (starEach es X.env)).any (·.1)=false:=by rfl):PE X (.Call (.Name x p) (e::es) [] pos) (tCB r t):=by
 intro pins s σ H Q I h
 refine wpAny_Call_Name_kw (z5s I hg hm hv ?_ hn hdb)
 exact PyProof.Rows.callWith_builtin1 (thn (ha pos pins s σ H _ I h) fun us s1 ⟨vs,H1,I1,r1,q1⟩=>hc pins s1 σ H1 vs us Q I1 r1 q1) he hpl
theorem z74(hc:CallR X (.type T) r)(hg:Gl X x)(hm:X.mg x=none)(hv:bootBuiltins x=some (.type T))(ha:PA X (e::es) t)(hn:x≠ "__name__":=by decide)(hdb:(x==("__debug__":Str))=false:=by decide)
  (he:starEach (e::es) X.env=(false,eval e X.env)::starEach es X.env:=by rfl) (hpl:(backTo pos (starEach es X.env)).any (·.1)=false:=by rfl):PE X (.Call (.Name x p) (e::es) [] pos) (tCB r t):=by
 intro pins s σ H Q I h
 refine wpAny_Call_Name_kw (z5s I hg hm hv ?_ hn hdb)
 exact PyProof.Rows.callWith_type1 (thn (ha pos pins s σ H _ I h) fun us s1 ⟨vs,H1,I1,r1,q1⟩=>hc pins s1 σ H1 vs us Q I1 r1 q1) he hpl
end
end L2
namespace HT
open PySem PyProof.Rows
section
open PySem.SeqAt
open PySem.AutoSeq1 (wpAny_loadPart')
open PySem.MeetsSeq PySem.MeetsSeq2 PySem.MeetsSeq3
end
section
variable {prog:Program}{w:World}{A:Around}{E:Value->Shared->Prop}{s:Shared}
noncomputable def sIx(n d:Nat):Option Int->Nat
 |none=>d
 |some v=>if v<0 then(v+(n:Int)).toNat else min v.toNat n
end
end HT
namespace L2
open PySem PySem.Spec PyProof.Rows
noncomputable abbrev TO:=St->Hp->(Option Int->Hp->Prop)->Prop
noncomputable def PO(X:Cx)(e:Option Expr)(t:TO):Prop:=
 ∀(pins:List (Addr×Obj))(s:Shared)(σ:St)(H:Hp)(Q:Option Int->Hp->Prop),Inv X pins σ H s->t σ H Q->
  wpAny (model X.prog X.w) X.A (evalPart e X.env) (fun u s'=>∃o H',Inv X pins σ H' s'/\IsPart u o/\Q o H') X.xe s
noncomputable def za7:TO:=fun _ H Q=>Q none H
noncomputable def zg0(t:TE):TO:=fun σ H Q=>t σ H fun x H1=>∃i,x=.int i/\Q (some i) H1
section
variable {X:Cx}{e:Expr}{te:TE}{lo hi:Option Expr}{tl th:TO}{pos p2:Pos}
theorem z81:PO X none za7:=by
 intro pins s σ H Q I h
 rw[evalPart_none]
 exact xh ⟨none,H,I,.none,h⟩
theorem z82(h:PE X e te):PO X (some e) (zg0 te):=by
 intro pins s σ H Q I hw
 rw[evalPart_some]
 refine thn (h pins s σ H _ I hw) fun u s1 ⟨x,H1,I1,r1,q1⟩=>?_
 obtain⟨i,rfl,q⟩:=q1
 obtain⟨t,rfl⟩:=r1
 exact⟨some i,H1,I1,.int i t,q⟩
noncomputable def SlR(X:Cx)(r:V->Option Int->Option Int->Hp->VK->Prop):Prop:=
 ∀(pins:List (Addr×Obj))(s:Shared)(σ:St)(H:Hp)(x:V)(v vl vu:Value)(lo hi:Option Int)(sl:Addr)(Q:VK),Inv X pins σ H s->RelV x v->s.heap.IsSliceOf sl vl vu .none->IsPart vl lo->IsPart vu hi->r x lo hi H Q->
  ∃ T id,typeLookup (.type T) "__getitem__"=pure (some (.builtin id))/\s.TypeIs v T/\wpAny (model X.prog X.w) X.A (getItem v (.ref sl)) (EP X pins σ Q) X.xe s
theorem SlR.or{r r':V->Option Int->Option Int->Hp->VK->Prop}(h:SlR X r)(h':SlR X r'):SlR X (fun x lo hi H Q=>r x lo hi H Q\/r' x lo hi H Q):=by
 intro pins s σ H x v vl vu lo hi sl Q I rx hs pl pu q
 rcases q with q|q
 .exact h pins s σ H x v vl vu lo hi sl Q I rx hs pl pu q
 .exact h' pins s σ H x v vl vu lo hi sl Q I rx hs pl pu q
noncomputable def tSl(r:V->Option Int->Option Int->Hp->VK->Prop)(te:TE)(tl th:TO):TE:=fun σ H Q=>te σ H fun x H1=>tl σ H1 fun l H2=>th σ H2 fun u H3=>r x l u H3 Q
theorem z63{r:V->Option Int->Option Int->Hp->VK->Prop}(hr:SlR X r)(he:PE X e te)(hl:PO X lo tl)(hu:PO X hi th):PE X (.Subscript e (.Slice lo hi none p2) pos) (tSl r te tl th):=by
 intro pins s σ H Q I h
 refine Subscript_ (thn (he pins s σ H _ I h) fun v s1 ⟨x,H1,I1,r1,q1⟩=>?_)
 refine wpAny_Slice (thn (hl pins s1 σ H1 _ I1 q1) fun vl s2 ⟨l,H2,I2,pl,q2⟩=>thn (hu pins s2 σ H2 _ I2 q2) fun vu s3 ⟨u,H3,I3,pu,q3⟩=>?_)
 rw[evalPart_none]
 refine xh ?_
 have I4:Inv X pins σ H3 { s3 with heap:=s3.heap.push { cls:=.type "slice",data:=.fields #[vl,vu,.none] } }:=I3.kept (t':=s3.toks) fun b ob q=>xf _ q
 obtain⟨T,id,hT,ht,hg⟩:=hr pins { s3 with heap:=s3.heap.push { cls:=.type "slice",data:=.fields #[vl,vu,.none] } } σ H3 x v vl vu l u s3.heap.objs.size Q I4 r1 (Heap.IsSliceOf.new ..) pl pu q3
 show wpAny (model X.prog X.w) X.A (subscriptTail e (.Slice lo hi none p2) v (.ref s3.heap.objs.size)) (EP X pins σ Q) X.xe { s3 with heap:=s3.heap.push { cls:=.type "slice",data:=.fields #[vl,vu,.none] } }
 exact tail_any (ops:=[.ref s3.heap.objs.size,v]) ht hT hg (by with_unfolding_all rfl)
noncomputable def cutV(xs:List V)(lo hi:Option Int):List V:=(xs.drop (HT.sIx xs.length 0 lo)).take (HT.sIx xs.length xs.length hi-HT.sIx xs.length 0 lo)
theorem ze6(xs:List V)(lo hi:Option Int):(cutV xs lo hi).length<=xs.length:=by
 unfold cutV
 rw[x04,List.length_drop]
 omega
end
end L2
namespace L2
open PySem PySem.Spec PyProof.Rows
noncomputable def ixN(n:Nat)(i:Int):Option Nat:=if 0<=i then(if i<n then some i.toNat else none) else if-(n:Int)<=i then some (i+n).toNat else none
noncomputable def atI{α:Type}(xs:List α)(i:Int):Option α:=(ixN xs.length i).bind fun j=>xs[j]?
theorem zew{n:Nat}{i:Int}{j:Nat}(h:ixN n i=some j):seqIndex? i n=some j/\j<n/\ -(n:Int)<=i/\i<n:=by
 unfold ixN at h
 by_cases h0:0<=i
 .rw[if_pos h0]at h
  by_cases h1:i<n
  .rw[if_pos h1]at h
   have e:i.toNat=j:=xq h
   exact⟨by rw[seqIndex_of h0 h1,e],by omega,by omega,h1⟩
  .rw[if_neg h1]at h;cases h
 .rw[if_neg h0]at h
  by_cases h1:-(n:Int)<=i
  .rw[if_pos h1]at h
   have e:(i+n).toNat=j:=xq h
   exact⟨by rw[seqIndex_neg (by omega) h1,e],by omega,h1,by omega⟩
  .rw[if_neg h1]at h;cases h
theorem za8{α:Type}{xs:List α}{i:Int}{v:α}(h:atI xs i=some v):∃j,seqIndex? i xs.length=some j/\xs[j]? =some v/\j<xs.length/\ -(xs.length:Int)<=i/\i<xs.length:=by
 unfold atI at h
 cases e:ixN xs.length i with
 |none=>rw[e]at h;cases h
 |some j=>
  rw[e]at h
  obtain⟨h1,h2,h3,h4⟩:=zew e
  exact⟨j,h1,h,h2,h3,h4⟩
theorem zc{α:Type}{xs:List α}{j:Nat}{v:α}(h:xs[j]? =some v):atI xs (j:Int)=some v:=by
 have hj:j<xs.length:=(xg.mp h).1
 have e:ixN xs.length (j:Int)=some j:=by
  unfold ixN
  rw[if_pos (by omega),if_pos (by omega)];simp
 unfold atI;rw[e];exact h
theorem atI_last{α:Type}(xs:List α)(v:α):atI (xs++[v]) (-1)=some v:=by
 have hl:(xs++[v]).length=xs.length+1:=by simp
 have e:ixN (xs++[v]).length (-1)=some xs.length:=by
  unfold ixN
  rw[hl,if_neg (by decide),if_pos (by omega)]
  congr 1
  omega
 unfold atI
 rw[e]
 show(xs++[v])[xs.length]? =some v
 simp
noncomputable def zky(b:Expr):Prop:=∀o i,subscripted b false o i=operate [o,i] (getItem o i)
noncomputable def IxR(X:Cx)(r:R2):Prop:=
 ∀(value slice:Expr)(pins:List (Addr×Obj))(s:Shared)(σ:St)(H:Hp)(x y:V)(v u:Value)(Q:VK),Inv X pins σ H s->RelV x v->RelV y u->r x y H Q->
  subscripted slice false v u=operate [v,u] (getItem v u)->wpAny (model X.prog X.w) X.A (subscriptTail value slice v u) (EP X pins σ Q) X.xe s
noncomputable def MtR(X:Cx)(id:String)(r:V->List V->Hp->VK->Prop):Prop:=
 ∀(pins:List (Addr×Obj))(s:Shared)(σ:St)(H:Hp)(x:V)(xs:List V)(v:Value)(us:List Value)(Q:VK),Inv X pins σ H s->RelV x v->Vals xs us->r x xs H Q->
  wpAny (model X.prog X.w) X.A (call (.builtin id) (v::us)) (EP X pins σ Q) X.xe s
section
variable {X:Cx}{a b:Expr}{ta tb:TE}{pos:Pos}
theorem IxR.or{r r':R2}(h:IxR X r)(h':IxR X r'):IxR X (fun x y H Q=>r x y H Q\/r' x y H Q):=by
 intro value slice pins s σ H x y v u Q I rx ry q hs
 rcases q with q|q
 .exact h value slice pins s σ H x y v u Q I rx ry q hs
 .exact h' value slice pins s σ H x y v u Q I rx ry q hs
theorem MtR.or{id:String}{r r':V->List V->Hp->VK->Prop}(h:MtR X id r)(h':MtR X id r'):MtR X id (fun x xs H Q=>r x xs H Q\/r' x xs H Q):=by
 intro pins s σ H x xs v us Q I rx rs q
 rcases q with q|q
 .exact h pins s σ H x xs v us Q I rx rs q
 .exact h' pins s σ H x xs v us Q I rx rs q
theorem zi{r:R2}(hr:IxR X r)(ha:PE X a ta)(hb:PE X b tb)(hs:zky b):PE X (.Subscript a b pos) (tOp r ta tb):=by
 intro pins s σ H Q I h
 exact Subscript_ (binT ha hb I h fun v u s2 x y H2 I2 rx ry q=>hr a b pins s2 σ H2 x y v u Q I2 rx ry q (hs _ _))
noncomputable def rIxL(K:PySem.W.Frag):R2:=fun x y H Q=>∃p xs i v,x=.ref p/\y=.int i/\SqL K H p xs/\atI xs i=some v/\Q v H
noncomputable def rIxT(K:PySem.W.Frag):R2:=fun x y H Q=>∃p xs i v,x=.ref p/\y=.int i/\SqT K H p xs/\atI xs i=some v/\Q v H
noncomputable def rIxS:R2:=fun x y H Q=>∃z i c,x=.str z/\y=.int i/\z.length<=sizeLine/\atI z.cps.toList i=some c/\Q (.str ⟨#[c]⟩) H
theorem ix_list:IxR X (rIxL X.K):=by
 intro value slice pins s σ H x y v u Q I rx ry h hs
 obtain⟨p,xs,i,z,rfl,rfl,hq,he,q⟩:=h
 cases rx
 obtain⟨t,rfl⟩:=ry
 obtain⟨its,r,pl,hz⟩:=I.list hq
 obtain⟨j,h1,h2,h3,h4,h5⟩:=za8 he
 obtain⟨w,ew,rw'⟩:=r.get h2
 have hl:=r.length
 have hn:=z72
 have fin:EP X pins σ Q w s:=⟨z,H,I,rw',q⟩
 by_cases h0:0<=i
 .have hj:i.toNat=j:=by
   rw[seqIndex_of h0 h5]at h1
   exact xq h1
  exact item_listR pl.isList h0 (by omega) (by rw[hj];simpa using ew) fin hs
 .have hj:(i+(its.toArray.size:Int)).toNat=j:=by
   rw[seqIndex_neg (by omega) h4]at h1
   rw[xr,<-hl]
   exact xq h1
  exact subscriptTail_builtinR (x:=w) pl.isList.typeIs slot_list_getitem.lookup
   (wpAny_getItem_list_neg (Q:=fun r s'=>r=w/\EP X pins σ Q r s') pl.isList (by omega) (by rw[xr]<;>omega) (by omega) (by rw[hj];simpa using ew) ⟨rfl,fin⟩) hs
theorem ix_tup:IxR X (rIxT X.K):=by
 intro value slice pins s σ H x y v u Q I rx ry h hs
 obtain⟨p,xs,i,z,rfl,rfl,hq,he,q⟩:=h
 cases rx
 obtain⟨t,rfl⟩:=ry
 obtain⟨its,r,pl,hz⟩:=I.tuple hq
 obtain⟨j,h1,h2,h3,h4,h5⟩:=za8 he
 obtain⟨w,ew,rw'⟩:=r.get h2
 have hl:=r.length
 have hn:=z72
 have fin:EP X pins σ Q w s:=⟨z,H,I,rw',q⟩
 exact subscriptTail_builtinR (x:=w) pl.typeIs slot_tuple_getitem.lookup
  (getItem_tuple (j:=j) (Q:=fun r s'=>r=w/\EP X pins σ Q r s') pl (by omega) (by omega) (by rw[xr,<-hl];exact h1) (by simpa using ew) ⟨rfl,fin⟩) hs
theorem z5v:IxR X rIxS:=by
 intro value slice pins s σ H x y v u Q I rx ry h hs
 obtain⟨z,i,c,rfl,rfl,hz,he,q⟩:=h
 obtain⟨t,rfl⟩:=rx
 obtain⟨t',rfl⟩:=ry
 obtain⟨j,h1,h2,h3,h4,h5⟩:=za8 he
 have hl:z.cps.toList.length=z.length:=by simp[Str.length]
 rw[hl]at h1 h4 h5
 have hn:=z72
 exact tail_any (typeIs_str s z t) slot_str_getitem.lookup (getItem_str (c:=c) (by
  have e1:decide (i< -(2 ^ 63:Int))=false:=x1g (by omega)
  have e2:decide (i>=2 ^ 63)=false:=x1g (by omega)
  rw[e1,e2,Bool.or_false]) (by rw[h1];simpa using h2) ⟨.str ⟨#[c]⟩,H,I.tok _,⟨_,rfl⟩,q⟩) hs
noncomputable def rIx(K:PySem.W.Frag):R2:=fun x y H Q=>rIxL K x y H Q\/rIxT K x y H Q\/rIxS x y H Q
theorem zlr:IxR X (rIx X.K):=ix_list.or (ix_tup.or z5v)
theorem zg1(its:List Value)(n j:Nat)(u:Value):Obj.mapSeq (·.setIfInBounds j u) { cls:=.type "list",data:=.seq its.toArray n }={ cls:=.type "list",data:=.seq (its.set j u).toArray n }:=by
 simp[Obj.mapSeq]
theorem Inv.lst{pins:List (Addr×Obj)}{σ:St}{H:Hp}{s:Shared}{p:Addr}{xs:List V}(I:Inv X pins σ H s)(h:H p=some (.lst xs)):
  ∃(its:List Value) (n:Nat),Vals xs its/\s.heap.get? p=some { cls:=.type "list",data:=.seq its.toArray n }/\xs.length<=sizeLine:=by
 obtain⟨z,its,n,r,e⟩:=I.hok p _ h
 exact⟨its,n,r,e,z⟩
theorem Inv.lstUpd{pins:List (Addr×Obj)}{σ:St}{H:Hp}{s:Shared}{p:Addr}{xs ys:List V}{its its':List Value}{n n':Nat}{f:Obj->Obj}(I:Inv X pins σ H s)(h:H p=some (.lst xs))
  (ho:s.heap.get? p=some { cls:=.type "list",data:=.seq its.toArray n }) (hf:f { cls:=.type "list",data:=.seq its.toArray n }={ cls:=.type "list",data:=.seq its'.toArray n' }) (r:Vals ys its') (hz:ys.length<=sizeLine) (t:Nat):
  Inv X pins σ (upd H p (.lst ys)) { s with heap:=s.heap.update p f,toks:=t }:=by
 have e:(s.heap.update p f).get? p=some { cls:=.type "list",data:=.seq its'.toArray n' }:=by
  rw[x1l f ho (by rw[hf]<;>rfl),hf]
 refine I.write (x:=p) (e:=p) (by rw[h];trivial) (.inl rfl) (fun b u hb q=>(x1e _ _ (Ne.symm hb)).trans q) ⟨_,e⟩ ?_
 exact⟨hz,its',n',r,e⟩
noncomputable def zmi:V->V->V->Hp->(Hp->Prop)->Prop:=fun o i v H Q=>∃p xs k j,o=.ref p/\i=.int k/\H p=some (.lst xs)/\ixN xs.length k=some j/\Q (upd H p (.lst (xs.set j v)))
theorem zci:PSet X zmi:=by
 intro pins s σ H o i v ov iv u Q I ro ri rv h
 obtain⟨p,xs,k,j,rfl,rfl,hp,hj,q⟩:=h
 cases ro
 obtain⟨t,rfl⟩:=ri
 obtain⟨its,n,r,ho,hz⟩:=I.lst hp
 obtain⟨h1,h2,h3,h4⟩:=zew hj
 have hl:=r.length
 have hn:=z72
 have I':Inv X pins σ (upd H p (.lst (xs.set j v))) { s with heap:=s.heap.update p (Obj.mapSeq (·.setIfInBounds j u)) }:=
  I.lstUpd hp ho (zg1 its n j u) (r.set rv j) (by rw[List.length_set];exact hz) s.toks
 by_cases h0:0<=k
 .have hk:k.toNat=j:=by
   rw[seqIndex_of h0 h4]at h1
   exact xq h1
  exact PySem.W.ki_setAt ho h0 (by omega) (by rw[xr,<-hl];exact h4) (by rw[hk];exact⟨_,I',q⟩)
 .have hk:(k+(its.toArray.size:Int)).toNat=j:=by
   rw[seqIndex_neg (by omega) h3]at h1
   rw[xr,<-hl]
   exact xq h1
  exact PySem.W.ki_setBack ho (by omega) (by rw[xr,<-hl];exact h3) (by omega) (by rw[hk];exact⟨_,I',q⟩)
theorem zcj(lo hi:Option Int)(n:Nat):(sliceBounds lo hi none n).1=((HT.sIx n 0 lo:Nat):Int)/\(sliceBounds lo hi none n).2.1=((HT.sIx n n hi:Nat):Int)/\(sliceBounds lo hi none n).2.2=1:=by
 refine⟨?_,?_,rfl⟩
 .cases lo with
  |none=>simp[sliceBounds,HT.sIx]
  |some i=>
   simp only[sliceBounds,HT.sIx,Option.getD_none,show(1:Int)>0 by decide,if_true]
   by_cases h:i<0
   .simp only[h,if_true]<;>omega
   .simp only[h,if_false]<;>omega
 .cases hi with
  |none=>simp[sliceBounds,HT.sIx]
  |some i=>
   simp only[sliceBounds,HT.sIx,Option.getD_none,show(1:Int)>0 by decide,if_true]
   by_cases h:i<0
   .simp only[h,if_true]<;>omega
   .simp only[h,if_false]<;>omega
theorem zbo(its:List Value)(lo hi:Option Int):slicePick its.toArray lo hi none=((its.drop (HT.sIx its.length 0 lo)).take (HT.sIx its.length its.length hi-HT.sIx its.length 0 lo)).toArray:=by
 obtain⟨h1,h2,h3⟩:=zcj lo hi its.toArray.size
 unfold slicePick
 rw[h1,h2,h3]
 simp only[sliceRange_one,pick_run,xr]<;>rfl
noncomputable def rSlL(K:PySem.W.Frag):V->Option Int->Option Int->Hp->VK->Prop:=fun x lo hi H Q=>∃a xs,x=.ref a/\SqL K H a xs/\∀p,H p=none->Q (.ref p) (upd H p (.lst (cutV xs lo hi)))
theorem za9:SlR X (rSlL X.K):=by
 intro pins s σ H x v vl vu lo hi sl Q I rx hs pl pu h
 obtain⟨a,xs,rfl,hx,q⟩:=h
 cases rx
 obtain⟨its,r,ht,hz⟩:=I.list hx
 have hlen:=r.length
 refine⟨"list",_,slot_list_getitem.lookup,ht.isList.typeIs,?_⟩
 refine wpAny_getItem_list_slice ht.isList hs pl pu .none (by simp) ?_ (by rw[xr]<;>omega)
 rw[zbo,<-hlen]
 refine⟨.ref s.heap.objs.size,_,I.laid (t':=s.toks) (o:=.lst (cutV xs lo hi)) (fun b ob q=>xf _ q) (xk _) ?_,rfl,q _ (I.hok.fresh (xk _))⟩
 exact⟨xp (ze6 xs lo hi) hz,_,0,(r.drop (HT.sIx xs.length 0 lo)).take (HT.sIx xs.length xs.length hi-HT.sIx xs.length 0 lo),xu _ rfl⟩
noncomputable def z2k:V->Bool
 | .non=>true
 | .bl _=>true
 | .int _=>true
 | .str _=>true
 |_=>false
noncomputable def eqV:V->V->Bool
 | .non,.non=>true
 | .bl a,.bl b=>a==b
 | .bl a,.int b=>(if a then 1 else 0)==b
 | .int a,.bl b=>a==(if b then 1 else 0)
 | .int a,.int b=>a==b
 | .str a,.str b=>a==b
 |_,_=>false
theorem zhn{A:Around}{s:Shared}{y x:V}{u v:Value}(ry:RelV y u)(rx:RelV x v)(fy:z2k y=true)(fx:z2k x=true):SeqAt.EqAt A s u v (eqV y x):=by
 cases y with
 |non=>
  cases ry
  cases x with
  |non=>cases rx;exact SeqAt.EqAt.same _
  |bl b=>cases rx;exact SeqAt.EqAt.none_bool b
  |int b=>obtain⟨t,rfl⟩:=rx;exact SeqAt.EqAt.none_int b t
  |str b=>obtain⟨t,rfl⟩:=rx;exact SeqAt.EqAt.none_str b t
  |_=>exact absurd (show false=true from fx) xa
 |bl a=>
  cases ry
  cases x with
  |non=>cases rx;exact SeqAt.EqAt.bool_none a
  |bl b=>cases rx;exact SeqAt.EqAt.bool_bool a b
  |int b=>obtain⟨t,rfl⟩:=rx;exact SeqAt.EqAt.bool_int a b t
  |str b=>obtain⟨t,rfl⟩:=rx;exact SeqAt.EqAt.bool_str a b t
  |_=>exact absurd (show false=true from fx) xa
 |int a=>
  obtain⟨t',rfl⟩:=ry
  cases x with
  |non=>cases rx;exact SeqAt.EqAt.int_none a t'
  |bl b=>cases rx;exact SeqAt.EqAt.int_bool a t' b
  |int b=>obtain⟨t,rfl⟩:=rx;exact SeqAt.EqAt.int_int a t' b t
  |str b=>obtain⟨t,rfl⟩:=rx;exact SeqAt.EqAt.int_str a t' b t
  |_=>exact absurd (show false=true from fx) xa
 |str a=>
  obtain⟨t',rfl⟩:=ry
  cases x with
  |non=>cases rx;exact SeqAt.EqAt.str_none a t'
  |bl b=>cases rx;exact SeqAt.EqAt.str_bool a t' b
  |int b=>obtain⟨t,rfl⟩:=rx;exact SeqAt.EqAt.str_int a t' b t
  |str b=>obtain⟨t,rfl⟩:=rx;exact SeqAt.EqAt.str_str a t' b t
  |_=>exact absurd (show false=true from fx) xa
 |_=>exact absurd (show false=true from fy) xa
noncomputable def eqU(x:V)(u:Value):Bool:=match u with
 | .none=>eqV .non x
 | .bool b=>eqV (.bl b) x
 | .int i _=>eqV (.int i) x
 | .str z _=>eqV (.str z) x
 |_=>false
theorem zho{x y:V}{u:Value}(r:RelV y u)(f:z2k y=true):eqU x u=eqV y x:=by
 cases y with
 |non=>cases r;rfl
 |bl b=>cases r;rfl
 |int i=>obtain⟨t,rfl⟩:=r;rfl
 |str z=>obtain⟨t,rfl⟩:=r;rfl
 |_=>exact absurd (show false=true from f) xa
theorem z5w{x:V}:∀{xs:List V}{us:List Value},Vals xs us->xs.all z2k=true->us.any (eqU x)=xs.any fun y=>eqV y x
 |_,_,.nil,_=>rfl
 |y::xs,u::us,.cons r t,f=>by
  rw[List.all_cons,x07]at f
  rw[List.any_cons,List.any_cons,zho r f.1,z5w t f.2]
theorem z4u{A:Around}{s:Shared}{x:V}{v:Value}(rx:RelV x v)(fx:z2k x=true):∀{xs:List V}{us:List Value},Vals xs us->xs.all z2k=true->∀u∈us,SeqAt.EqAt A s u v (eqU x u)
 |_,_,.nil,_=>fun u hu=>by cases hu
 |y::xs,u::us,.cons r t,f=>fun u' hu=>by
  rw[List.all_cons,x07]at f
  rcases xo.mp hu with rfl|hu
  .rw[zho r f.1];exact zhn r rx f.1 fx
  .exact z4u rx fx t f.2 u' hu
noncomputable def inV(x:V)(xs:List V):Bool:=xs.any fun y=>eqV y x
noncomputable def rIn(K:PySem.W.Frag)(neg:Bool):R2:=fun x y H Q=>∃p xs,y=.ref p/\(SqL K H p xs\/SqT K H p xs)/\z2k x=true/\xs.all z2k=true/\Q (.bl (if neg then !inV x xs else inV x xs)) H
theorem zb6:OpR X (compareOp .In) (rIn X.K false):=by
 intro pins s σ H x y v u Q I rx ry h
 obtain⟨p,xs,rfl,hq,fx,fs,q⟩:=h
 cases ry
 rcases hq with hq|hq
 .obtain⟨its,r,pl,hz⟩:=I.list hq
  refine SeqAt.in_listAt (eqU x) pl.isList (fun w hw=>z4u rx fx r fs w (by simpa using hw)) ⟨.bl _,H,I,rfl,?_⟩
  rw[show its.toArray.any (eqU x)=its.any (eqU x) by simp,z5w r fs]
  exact q
 .obtain⟨its,r,pl,hz⟩:=I.tuple hq
  refine SeqAt.in_tupleAt (eqU x) pl (fun w hw=>z4u rx fx r fs w (by simpa using hw)) ⟨.bl _,H,I,rfl,?_⟩
  rw[show its.toArray.any (eqU x)=its.any (eqU x) by simp,z5w r fs]
  exact q
theorem z75:OpR X (compareOp .NotIn) (rIn X.K true):=by
 intro pins s σ H x y v u Q I rx ry h
 obtain⟨p,xs,rfl,hq,fx,fs,q⟩:=h
 cases ry
 rcases hq with hq|hq
 .obtain⟨its,r,pl,hz⟩:=I.list hq
  refine SeqAt.notIn_listAt (eqU x) pl.isList (fun w hw=>z4u rx fx r fs w (by simpa using hw)) ⟨.bl _,H,I,rfl,?_⟩
  rw[show its.toArray.any (eqU x)=its.any (eqU x) by simp,z5w r fs]
  exact q
 .obtain⟨its,r,pl,hz⟩:=I.tuple hq
  refine SeqAt.notIn_tupleAt (eqU x) pl (fun w hw=>z4u rx fx r fs w (by simpa using hw)) ⟨.bl _,H,I,rfl,?_⟩
  rw[show its.toArray.any (eqU x)=its.any (eqU x) by simp,z5w r fs]
  exact q
theorem zq:CallR X (.builtin "len") (fun xs H Q=>∃ p ys,xs=[.ref p]/\(SqL X.K H p ys\/SqT X.K H p ys)/\Q (.int ys.length) H):=by
 intro pins s σ H xs us Q I r h
 obtain⟨p,ys,rfl,hq,q⟩:=h
 obtain⟨u,rfl,rx⟩:=z58 r
 cases rx
 have hn:=z72
 rcases hq with hq|hq
 .obtain⟨its,r',pl,hz⟩:=I.list hq
  have hlen:=r'.length
  exact Calls.call_len_list pl.isList (by simp only[xr]<;>omega) ⟨.int ys.length,H,I.tok _,⟨s.toks+1,by rw[xr,hlen]⟩,q⟩
 .obtain⟨its,r',pl,hz⟩:=I.tuple hq
  have hlen:=r'.length
  exact len_tuple pl (by simp only[xr]<;>omega) ⟨.int ys.length,H,I.tok _,⟨s.toks+1,by rw[xr,hlen]⟩,q⟩
theorem CallR.or{f:Value}{r r':List V->Hp->VK->Prop}(h:CallR X f r)(h':CallR X f r'):CallR X f (fun xs H Q=>r xs H Q\/r' xs H Q):=by
 intro pins s σ H xs us Q I rs q
 rcases q with q|q
 .exact h pins s σ H xs us Q I rs q
 .exact h' pins s σ H xs us Q I rs q
theorem zbp:CallR X (.type "tuple") (fun xs H Q=>∃ p ys,xs=[.ref p]/\((SqL X.K H p ys/\∀ l,H l=none->Q (.ref l) (upd H l (.tup ys)))\/(SqT X.K H p ys/\Q (.ref p) H))):=by
 intro pins s σ H xs us Q I r h
 obtain⟨p,ys,rfl,h⟩:=h
 obtain⟨u,rfl,rx⟩:=z58 r
 cases rx
 rcases h with⟨hq,q⟩|⟨hq,q⟩
 .obtain⟨its,r',pl,hz⟩:=I.list hq
  have hlen:=r'.length
  refine call_tuple_list pl.isList (fun h' kp=>?_) (by simp only[xr]<;>omega)
  have I1:Inv X pins σ H { s with heap:=h' }:=I.kept (t':=s.toks) kp
  have I2:Inv X pins σ (upd H h'.objs.size (.tup ys)) { s with heap:=h'.push { cls:=.type "tuple",data:=.seq its.toArray } }:=
   I1.laid (t':=s.toks) (fun b o e=>xf _ e) (xk _) (show ObjOk X.prog X.w _ _ _ (.tup ys) from⟨hz,its,r',IsTup.new _ _⟩)
  exact⟨.ref h'.objs.size,_,I2,rfl,q _ (I1.hok.fresh (xk _))⟩
 .obtain⟨its,r',pl,hz⟩:=I.tuple hq
  exact call_tuple_same pl ⟨.ref p,H,I,rfl,q⟩
noncomputable def tyV(K:PySem.W.Frag)(T:String)(x:V)(H:Hp):Prop:=match x with
 | .str _=>T="str"
 | .int _=>T="int"
 | .ref p=>(T="list"/\∃ xs,SqL K H p xs)\/(T="tuple"/\∃ o,K.lookup p=some o/\o.cls=.type "tuple"/\o.dict=none)\/
   (T="dict"/\((∃ kvs,H p=some (.dK kvs))\/∃ kvs,H p=some (.dT kvs)))\/(T="set"/\∃ S n,H p=some (.set S n))
 |_=>False
theorem zhp{pins:List (Addr×Obj)}{σ:St}{H:Hp}{s:Shared}{T:String}{x:V}{v:Value}(I:Inv X pins σ H s)(r:RelV x v)(ty:tyV X.K T x H):
  s.TypeIs v T/\∀a,v=.ref a->∃ob,s.heap.get? a=some ob/\ob.dict=none:=by
 cases x with
 |str z=>
  obtain⟨t,rfl⟩:=r
  cases(show T="str" from ty)
  exact⟨typeIs_str s z t,fun _ e=>nomatch e⟩
 |int i=>
  obtain⟨t,rfl⟩:=r
  cases(show T="int" from ty)
  exact⟨typeIs_int s i t,fun _ e=>nomatch e⟩
 |ref p=>
  cases r
  rcases ty with⟨rfl,xs,hq⟩|⟨rfl,o,hk,hc,hd⟩|⟨rfl,hk⟩|⟨rfl,S,n,hk⟩
  .obtain⟨its,_,pl,_⟩:=I.list hq
   refine⟨pl.isList.typeIs,fun a e=>?_⟩
   cases e
   obtain⟨o,n,e,c,hd,_⟩:=pl
   exact⟨o,e,hd⟩
  .refine⟨⟨o,I.kIn p o hk,hc⟩,fun a e=>?_⟩
   cases e
   exact⟨o,I.kIn _ o hk,hd⟩
  .have z:∃o,s.heap.get? p=some o/\o.ExactDict:=by
    rcases hk with⟨kvs,hk⟩|⟨kvs,hk⟩
    .obtain⟨_,_,_,_,o,_,_,e,ex,_⟩:=I.hok p _ hk
     exact⟨o,e,ex⟩
    .obtain⟨_,_,_,_,o,_,_,e,ex,_⟩:=I.hok p _ hk
     exact⟨o,e,ex⟩
   obtain⟨o,e,ex⟩:=z
   refine⟨⟨o,e,ex.1⟩,fun a e2=>?_⟩
   cases e2
   exact⟨o,e,ex.2.1⟩
  .obtain⟨o,_,_,_,e,ex,_⟩:=I.hok p _ hk
   refine⟨⟨o,e,ex.1⟩,fun a e2=>?_⟩
   cases e2
   exact⟨o,e,ex.2.1⟩
 |_=>exact False.elim ty
noncomputable def tBM0(K:PySem.W.Frag)(T:String)(r:V->List V->Hp->VK->Prop)(to:TE):TE:=fun σ H Q=>to σ H fun x H1=>tyV K T x H1/\r x [] H1 Q
noncomputable def tBM(K:PySem.W.Frag)(T:String)(r:V->List V->Hp->VK->Prop)(to:TE)(t:TA):TE:=fun σ H Q=>to σ H fun x H1=>tyV K T x H1/\t σ H1 fun xs H2=>r x xs H2 Q
variable {o e:Expr}{es:List Expr}{to:TE}{t:TA}{name:Str}{apos cpos:Pos}{T id:String}{r:V->List V->Hp->VK->Prop}
theorem zhq(pa:PlainAttrs T)(slot:Slot T name id)(hty:typeOf (.builtin id)=pure (.type "method_descriptor"))(hm:MtR X id r)(ho:PE X o to)
  (hbase:attributeBase o name X.env (eval o X.env)=eval o X.env:=by rfl) (hline:(apos.endLine==cpos.line)=true:=by rfl):PE X (.Call (.Attribute o name apos) [] [] cpos) (tBM0 X.K T r to):=by
 intro pins s σ H Q I h
 refine wpAny_Call_method0_late hbase hline (thn (ho pins s σ H _ I h) fun v s1 ⟨x,H1,I1,r1,ty,q1⟩=>?_)
 obtain⟨h1,h2⟩:=zhp I1 r1 ty
 exact⟨T,id,pa,slot,hty,h1,h2,Calls.callWith_builtin rfl (PySem.evalArgs_none (hm pins s1 σ H1 x [] v [] Q I1 r1 .nil q1))⟩
theorem z2c(pa:PlainAttrs T)(slot:Slot T name id)(hty:typeOf (.builtin id)=pure (.type "method_descriptor"))(hm:MtR X id r)(ho:PE X o to)(ha:PA X (e::es) t)
  (hbase:attributeBase o name X.env (eval o X.env)=eval o X.env:=by rfl)
  (hfew:((backTo cpos (starEach (e::es) X.env)).all (fun x=>!x.1)&&(backToKw cpos (keywordEach [] X.env)).all (fun x=>x.1.isSome)
   &&decide ((e::es).length+([]:List Keyword).length+(if([]:List Keyword).isEmpty then 0 else 1)<30))=true:=by rfl)
  (hline:(apos.endLine==cpos.line)=true:=by rfl) (hs:starEach (e::es) X.env=(false,eval e X.env)::starEach es X.env:=by rfl) (hplain:(backTo cpos (starEach es X.env)).any (·.1)=false:=by rfl):
  PE X (.Call (.Attribute o name apos) (e::es) [] cpos) (tBM X.K T r to t):=by
 intro pins s σ H Q I h
 refine wpAny_Call_method_late hbase hfew hline rfl (thn (ho pins s σ H _ I h) fun v s1 ⟨x,H1,I1,r1,ty,q1⟩=>?_)
 obtain⟨h1,h2⟩:=zhp I1 r1 ty
 refine⟨T,id,pa,slot,hty,h1,h2,?_⟩
 have hA:=ha cpos pins s1 σ H1 _ I1 q1
 rw[hs]at hA⊢
 refine Calls.callWith_builtin (by show(false||(backTo cpos (starEach es X.env)).any (·.1))=false;rw[hplain]<;>rfl) (Calls.evalArgs_plain ?_)
 exact thn hA fun us s2 ⟨vs,H2,I2,r2,q2⟩=>hm pins s2 σ H2 x vs v us Q I2 r1 r2 q2
end
end L2
namespace L2
open PySem PySem.Spec PyProof.Rows
noncomputable def MtM(X:Cx)(id:String)(r:V->List V->Hp->VK->Prop):Prop:=
 ∀(pins:List (Addr×Obj))(s:Shared)(σ:St)(H:Hp)(x:V)(xs:List V)(v:Value)(us:List Value)(Q:VK),Inv X pins σ H s->RelV x v->Vals xs us->r x xs H Q->
  wpAny (model X.prog X.w) X.A (call (.builtin id) (v::us)) (EP X pins σ Q) X.xe s
theorem Vals.one:∀{x:V}{us:List Value},Vals [x] us->∃u,us=[u]/\RelV x u
 |_,_,.cons r .nil=>⟨_,rfl,r⟩
theorem Vals.two:∀{x y:V}{us:List Value},Vals [x,y] us->∃u v,us=[u,v]/\RelV x u/\RelV y v
 |_,_,_,.cons r (.cons q .nil)=>⟨_,_,rfl,r,q⟩
theorem Vals.zero:∀{us:List Value},Vals [] us->us=[]
 |_,.nil=>rfl
theorem Vals.eraseIdx:∀{xs:List V}{us:List Value}(i:Nat),Vals xs us->Vals (xs.eraseIdx i) (us.eraseIdx i)
 |_,_,_,.nil=>.nil
 |_,_,0,.cons _ t=>t
 |_,_,i+1,.cons r t=>.cons r (Vals.eraseIdx i t)
theorem Vals.rep{xs:List V}{us:List Value}(h:Vals xs us):∀k:Nat,Vals (List.replicate k xs).flatten (List.replicate k us).flatten
 |0=>.nil
 |k+1=>by
  rw[x16,x16,List.flatten_cons,List.flatten_cons]
  exact Vals.append h (Vals.rep h k)
theorem zb7(its:List Value):∀(k:Nat)(acc:List Value),
  List.foldl (fun x1 x2=>x1++x2) acc.toArray (List.replicate k its.toArray)=(acc++(List.replicate k its).flatten).toArray
 |0,acc=>by simp
 |k+1,acc=>by
  have e:acc.toArray++its.toArray=(acc++its).toArray:=by simp
  have e2:(acc++its)++(List.replicate k its).flatten=acc++(List.replicate (k+1) its).flatten:=by
   rw[x16,List.flatten_cons,List.append_assoc]
  rw[<-e2,<-zb7 its k (acc++its),<-e,x16,List.foldl_cons]
section
variable {X:Cx}{pins:List (Addr×Obj)}{σ:St}{H:Hp}{s:Shared}{l b:Addr}{xs ys zs:List V}
theorem Inv.lset{its its':List Value}{n:Nat}{f:Array Value->Array Value}{t':Nat}(I:Inv X pins σ H s)(hH:H l=some (.lst xs))
  (e:s.heap.get? l=some { cls:=.type "list",data:=.seq its.toArray n }) (hf:f its.toArray=its'.toArray) (hv:Vals ys its') (hz:ys.length<=sizeLine):
  Inv X pins σ (upd H l (.lst ys)) { s with heap:=s.heap.update l (Obj.mapSeq f),toks:=t' }:=by
 have q:=PySem.IsL.update e f
 rw[hf]at q
 refine I.write (x:=l) (e:=l) (by rw[hH];exact trivial) (.inl rfl) (fun b' u hb hu=>(x1e s.heap (Obj.mapSeq f) (Ne.symm hb)).trans hu) ⟨_,q⟩ ?_
 exact⟨hz,its',_,hv,q⟩
theorem Inv.lnew{its:List Value}{t':Nat}(I:Inv X pins σ H s)(hv:Vals ys its)(hz:ys.length<=sizeLine):
  Inv X pins σ (upd H s.heap.objs.size (.lst ys)) { s with heap:=s.heap.push { cls:=.type "list",data:=.seq its.toArray },toks:=t' }:=
 I.laid (fun _ _ q=>xf _ q) (xk _) ⟨hz,its,0,hv,xu _ rfl⟩
theorem Inv.fresh(I:Inv X pins σ H s):H s.heap.objs.size=none:=I.hok.fresh (xk _)
theorem Inv.lstM(I:Inv X pins σ H s)(hH:H l=some (.lst xs)):xs.length<=sizeLine/\∃(its:List Value) (n:Nat),Vals xs its/\xs.length=its.length/\s.heap.get? l=some { cls:=.type "list",data:=.seq its.toArray n }:=by
 obtain⟨z,its,n,r,e⟩:=I.hok l _ hH
 exact⟨z,its,n,r,r.length,e⟩
theorem zjj{n:Nat}(h:n<=sizeLine):Builtin.List.listTooLong n=false:=by
 unfold Builtin.List.listTooLong
 exact x1g (by omega)
end
section
variable {X:Cx}
noncomputable def z83:V->List V->Hp->VK->Prop:=fun x vs H Q=>∃l xs y,x=.ref l/\vs=[y]/\H l=some (.lst xs)/\xs.length<sizeLine/\Q .non (upd H l (.lst (xs++[y])))
theorem z1r:MtM X "list.append" z83:=by
 intro pins s σ H x vs v us Q I rx rv h
 obtain⟨l,xs,y,rfl,rfl,hH,hz,q⟩:=h
 cases rx
 obtain⟨u,rfl,ru⟩:=rv.one
 obtain⟨z,its,n,r,hl,e⟩:=I.lstM hH
 refine call_meets F.slot_list_append ⟨_,e,rfl⟩ F.entry_list_append (F.args_list_append_2 _ _) (PySem.list_append l its.toArray n u (by rw[xr];omega)) ⟨e,?_⟩
 refine⟨.non,_,I.lset (its':=its++[u]) hH e (by simp) (r.append (.cons ru .nil)) ?_,rfl,q⟩
 rw[x00,List.length_singleton]
 omega
noncomputable def zls:V->List V->Hp->VK->Prop:=fun x vs H Q=>∃l xs,x=.ref l/\vs=[]/\H l=some (.lst xs)/\Q .non (upd H l (.lst []))
theorem zck:MtM X "list.clear" zls:=by
 intro pins s σ H x vs v us Q I rx rv h
 obtain⟨l,xs,rfl,rfl,hH,q⟩:=h
 cases rx
 have hus:=rv.zero
 subst hus
 obtain⟨z,its,n,r,hl,e⟩:=I.lstM hH
 refine call_meets F.slot_list_clear ⟨_,e,rfl⟩ F.entry_list_clear (F.args_list_clear_1 _) (AutoSeq1.list_clear_list_0 l its.toArray n (by rw[xr];omega)) ⟨e,?_⟩
 exact⟨.non,_,I.lset (its':=[]) (ys:=[]) hH e rfl .nil (x03 _),rfl,q⟩
noncomputable def rCat:R2:=fun x y H Q=>∃l b xs zs,x=.ref l/\y=.ref b/\H l=some (.lst xs)/\H b=some (.lst zs)/\xs.length+zs.length<=sizeLine/\∀p,H p=none->Q (.ref p) (upd H p (.lst (xs++zs)))
theorem zhr:OpR X (binaryOp .Add) rCat:=by
 intro pins s σ H x y v u Q I rx ry h
 obtain⟨l,b,xs,zs,rfl,rfl,hH,hB,hz,q⟩:=h
 cases rx
 cases ry
 obtain⟨z,its,n,r,hl,e⟩:=I.lstM hH
 obtain⟨z2,its2,n2,r2,hl2,e2⟩:=I.lstM hB
 refine PySem.P.add_list e e2 ?_ (by rw[xr,xr];omega)
 have ea:its.toArray++its2.toArray=(its++its2).toArray:=by simp
 rw[ea]
 exact⟨.ref _,_,I.lnew (t':=s.toks) (r.append r2) (by rw[x00];omega),rfl,q _ I.fresh⟩
noncomputable def rRep:R2:=fun x y H Q=>∃l k xs,x=.ref l/\y=.int k/\H l=some (.lst xs)/\ -(2 ^ 63)<=k/\k<2 ^ 63/\xs.length*k.toNat<=sizeLine/\
 ∀p,H p=none->Q (.ref p) (upd H p (.lst (List.replicate k.toNat xs).flatten))
theorem zkz{α:Type}(xs:List α)(k:Nat):(List.replicate k xs).flatten.length=k*xs.length:=by
 induction k with
 |zero=>simp
 |succ k ih=>rw[x16,List.flatten_cons,x00,ih,Nat.succ_mul,Nat.add_comm]
theorem zhs:OpR X (binaryOp .Mult) rRep:=by
 intro pins s σ H x y v u Q I rx ry h
 obtain⟨l,k,xs,rfl,rfl,hH,h1,h2,hz,q⟩:=h
 cases rx
 obtain⟨t,rfl⟩:=ry
 obtain⟨z,its,n,r,hl,e⟩:=I.lstM hH
 have hlen:its.toArray.size*k.toNat<=sizeLine:=by rw[xr,<-hl];exact hz
 have hcap:¬ its.toArray.size*k.toNat>(2 ^ 63-1)/8:=by
  have:(sizeLine:Nat)<=(2 ^ 63-1)/8:=by decide
  omega
 have hfit:¬(!Builtin.List.listFitsIndex k)=true:=by
  rw[fitsIndex_both h1 h2]
  exact xa
 have hlong:¬ Builtin.List.listTooLong (its.toArray.size*k.toNat)=true:=by
  rw[zjj hlen]
  exact xa
 have hnew:List.foldl (fun x1 x2=>x1++x2) #[] (List.replicate (if its.toArray.isEmpty=true then 0 else k.toNat) its.toArray)=(List.replicate k.toNat its).flatten.toArray:=by
  have f0:∀m:Nat,List.foldl (fun x1 x2=>x1++x2) #[] (List.replicate m its.toArray)=(List.replicate m its).flatten.toArray:=fun m=>by
   have:=zb7 its m []
   rw[List.nil_append]at this
   exact this
  rw[f0]
  cases its with
  |nil=>simp
  |cons a r'=>rw[if_neg (by simp)]
 refine wpAny_binaryOp_repeat_ref (T:="list") (U:="int") (by decide) ⟨_,e,rfl⟩ (fun s'=>typeIs_int s' k t) noFill_list_mul F.fills_int_mul F.slot_int_rmul repeat_list F.slot_int_index.lookup
  (call_meets F.slot_int_rmul (typeIs_int s k t) F.entry_int_rmul (F.args_int_rmul_2 _ _) (int___rmul___int_list k t l its.toArray n)
   ⟨e,rfl,⟨_,e,rfl⟩,call_meets F.slot_list_mul ⟨_,e,rfl⟩ F.entry_list_mul (F.args_list_mul_2 _ _) (AutoListH.list___mul___list_int_3 l its.toArray n k t hfit hcap hlong) ⟨e,?_⟩⟩)
 rw[hnew]
 exact⟨.ref _,_,I.lnew (t':=s.toks) (r.rep k.toNat) (by rw[zkz,Nat.mul_comm];exact hz),rfl,q _ I.fresh⟩
end
section
variable {prog:Program}{w:World}{A:Around}{E:Value->Shared->Prop}{s:Shared}
end
section
variable {X:Cx}
end
end L2
namespace Att
open PySem PySem.W PySem.Calls PyProof.Rows
theorem z9c{P:Params}{h:Heap}:∀(ns:List Int)(vs:List Value),WellAll P h vs (ns.map WData.int)->IntsAre vs ns:=by
 intro ns
 induction ns with
 |nil=>
  intro vs w
  rw[List.map_nil]at w
  cases w
  exact .nil
 |cons n ns ih=>
  intro vs w
  rw[x0h]at w
  cases w with
  |cons a b=>
   cases a
   exact .cons _ _ (ih _ b)
theorem zht{l:OpenLaw}{n:Nat}(hn:l.most=some n){P:Params}{h:Heap}{args:List WData}{vals:List Value}
  (hpre:l.row.toRowW.claim.pre args=true) (hwl:WellAll P h vals args):
  ∃ a vs ns,vals=[Value.ref a]/\args=[WData.list (ns.map WData.int)]/\h.get? a=some { cls:=.type "list",data:=.seq vs.toArray }/\IntsAre vs ns/\ns.length<=n:=by
 have hsh:WShape.hasAll [] args [.list .int]=true:=(pre_splitW hpre).1
 have hc:l.pre.holds [] { args:=args }=true:=(pre_splitW hpre).2
 obtain⟨d,r,rfl,h1,h2⟩:=hasAllW_cons hsh
 obtain rfl:=hasAllW_nil h2
 obtain⟨xs,rfl,h3⟩:=hasW_list h1
 obtain⟨ns,rfl⟩:=items_int h3
 have hlen:ns.length<=n:=by
  unfold OpenLaw.pre at hc
  have h4:(WTm.not (.lt (.lit (.int (n:Int))) (.len (.arg 0)))).holds [] { args:=[.list (ns.map .int)] }=true:=by
   have h4:=(holds_andW hc).1
   rw[hn]at h4
   exact h4
  have h5:=condW_of h4 (w_not (w_lt w_lit (w_len_list (w_arg rfl))))
  rw[x0]at h5
  refine Nat.le_of_not_lt fun q=>?_
  have q':(n:Int)<((ns.length:Nat):Int):=by omega
  first
   |(rw[xx q']at h5;exact absurd h5 (by decide))
   |(simp at h5;omega)
 cases hwl with
 |cons w1 w2=>
  cases w2
  cases w1 with
  |list ho hall=>exact⟨_,_,ns,rfl,rfl,ho,z9c ns _ hall,hlen⟩
theorem zhu(l:OpenLaw)(args:List WData):l.row.toRowW.claim.post args (.bool true) args=true:=
 postW_of (r:=l.row.toRowW) (X:=(true==true))
  (show WShape.has [] (.bool true) .bool=true by first|rfl|decide|simp[WShape.has,WShape.arms,WShape.armsAll])
  (show(WTm.eq .res (.lit (.bool true))).value [] { args:=args,res:=some (.bool true),after:=args }=some (.bool (true==true)) from w_eq_bool (w_res rfl) w_lit) rfl
theorem attach_call{l:OpenLaw}{n:Nat}{q:Program}{loose:List Str}{XP:(Str->Option Value)->Heap->Prop}{YP:World->Heap->Prop}{d:DefRec}
  (hn:l.most=some n) (hdf:d.params.defaults=[])
  (call:∀(w:World)(s₀ s₁:Shared)(mg mb:Str->Option Value)(fa:Addr)(o:Obj)(pm cd doc:Value)(a:Addr)(vs:List Value)(ns:List Int),
   Ground q loose [] XP w s₀ mg mb s₁.heap->YP w s₁.heap->
   s₁.heap.get? fa=some o->o.data=.func (docDef d.name d.params d.body d.scope pm cd doc)->s₁.heap.CodeRec cd d.name->mg d.name=some (.ref fa)->
   s₁.heap.get? a=some { cls:=.type "list",data:=.seq vs.toArray }->IntsAre vs ns->ns.length<=n->s₁.gens= #[]->
   codeAny (model l.prog w) callerA (.call (.ref fa) ⟨[.ref a],[]⟩) (fun r s'=>r=.ok (.ret (.bool true))/\OldK s₁.heap s'.heap/\s'.os=s₁.os/\AllBare s'.gens) s₁):
  WalkO q loose XP YP l.row.toRowW d [] (fun f vs=>PySem.call f vs):=by
 intro w s₀ s₁ mg mb G Y fa o pm cd doc dV kV ho hd hcd hD hmg hg args vals as hpre hlay hrd hwl hlo
 obtain rfl:dV=.none:=Dflts.none hD hdf
 obtain rfl:kV=.none:=Dflts.noKw hD
 obtain⟨a,vs,ns,rfl,rfl,hobj,hints,hlen⟩:=zht hn hpre hwl
 refine enter_call (codeAny_mono (call w s₀ s₁ mg mb fa o pm cd doc a vs ns G Y ho (fd_plain hd) hcd hmg hobj hints hlen hg) fun r s' hq=>?_)
 obtain⟨rfl,h2,h3,h4⟩:=hq
 exact⟨.inl ⟨.bool true,.bool true,[],rfl,fun _=>rfl,.bool true,zhu l _,fun _=>⟨List.Pairwise.nil,fun _ hm=>(nomatch hm)⟩⟩,h2,h3,h4⟩
section
variable {prog:Program}{w:World}{A:Around}{E:Value->Shared->Prop}{s:Shared}{K:Frag}
noncomputable def zmo(h:Heap)(L d:Addr):List (Addr×Obj):=(List.range h.objs.size).filterMap fun a=>if a=L\/a=d then none else(h.get? a).map fun o=>(a,o)
end
end Att
namespace L2
open PySem PySem.Spec PyProof.Rows
theorem zb8:∀{vs:List Value}{ns:List Int},IntsAre vs ns->Vals (ns.map V.int) vs
 |_,_,.nil=>.nil
 |_,_,.cons n t h=>.cons ⟨t,rfl⟩ (zb8 h)
noncomputable def Only(H:Hp):Prop:=∀b,H b=none\/∃o xs,H b=some (.frz o (.lst xs))
theorem zjk{P:Program}{w:World}{K:PySem.W.Frag}{mg mb:Str->Option Value}{CX:CXT}{k:Nat}{fa a:Addr}{fd:FuncData}{x:Str}{sp:Sp}{s₁:Shared}{vs:List Value}{ns:List Int}
  (KX:K.In s₁.heap) (hns:s₁.heap.Ns mainGlobals mg) (hb:s₁.heap.Ns builtinsNs mb) (hbb:∀ x:Str,x≠ "__name__"->mb x=bootBuiltins x) (hlim:s₁.heap.NoLimit) (hg:s₁.gens= #[])
  (ha:s₁.heap.get? a=some { cls:=.type "list",data:=.seq vs.toArray }) (hi:IntsAre vs ns) (hl:ns.length<=sizeLine) (hr:Room k callerA)
  (F:∀base:Heap,K.In base->base.Ns mainGlobals mg->FnOk P w K mg base CX k fa fd [x] sp) (hbind:∀(s:Shared)(u:Value),BindsTo s fd ⟨[u],[]⟩ [(x,u)])
  (hsp:∀H:Hp,Only H->SqL K H a (ns.map V.int)->sp [.ref a] H (fun v _=>v=.bl true) fun _ _ _=>False)
  (hCX:∀H e s',CX [] H s₁ (fun _ _ _=>False) e s'->False):
  codeAny (model P w) callerA (.call (.ref fa) ⟨[.ref a],[]⟩) (fun r s'=>r=.ok (.ret (.bool true))/\OldK s₁.heap s'.heap/\s'.os=s₁.os/\AllBare s'.gens) s₁:=by
 have rv:=zb8 hi
 have lenV:=hi.length
 have core:∀H:Hp,Only H->SqL K H a (ns.map V.int)->HOk P w H s₁.heap->(∀b,H b≠none->b=a)->(H a≠none->K.lookup a=none)->
   codeAny (model P w) callerA (.call (.ref fa) ⟨[.ref a],[]⟩) (fun r s'=>r=.ok (.ret (.bool true))/\OldK s₁.heap s'.heap/\s'.os=s₁.os/\AllBare s'.gens) s₁:=by
  intro H hO hS hok hA hK
  have base_of:∀{b:Addr}{o:Obj},s₁.heap.get? b=some o->H b=none->(hidT s₁.heap H).get? b=some o:=fun e n=>zjb e n
  have noA:∀{b:Addr}{o:Obj}{es:Array DictEntry}{ep:Nat},s₁.heap.get? b=some o->o.data=.dict es ep->H b=none:=fun{b o es ep} e d=>by
   cases q:H b with
   |none=>rfl
   |some u=>
    have e':b=a:=hA b (by rw[q];simp)
    subst e'
    rw[ha]at e;cases e
    have d':Data.seq vs.toArray _=Data.dict es ep:=d
    cases d'
  have nsK:∀{b:Addr}{m:Str->Option Value},s₁.heap.Ns b m->(hidT s₁.heap H).Ns b m:=fun{b m} ⟨o,es,ep,e,d,r⟩=>⟨o,es,ep,base_of e (noA e d),d,r⟩
  have hKb:K.In (hidT s₁.heap H):=fun b o e=>base_of (KX b o e) (by
   cases q:H b with
   |none=>rfl
   |some u=>
    have e':b=a:=hA b (by rw[q];simp)
    subst e'
    rw[hK (by rw[q];simp)]at e;cases e)
  have hM:Mod K mg (hidT s₁.heap H):=⟨hKb,nsK hns,⟨mb,nsK hb,hbb⟩,let⟨mc,h1,h2⟩:=hlim;⟨mc,nsK h1,h2⟩⟩
  have e0:Env0 P w K mg (hidT s₁.heap H) callerA [] s₁ H:=⟨rfl,hM,fun b o e=>zkr e,Nat.le_of_eq (zhb _ _),trivial,fun b hb=>absurd (show b∈([]:List Addr) from hb) (by simp),hok,.of_eq hg⟩
  refine codeAny_mono ((F _ hKb (nsK hns)).run callerA [] s₁ H ⟨[.ref a],[]⟩ [.ref a] [.ref a] _ _ hr e0 (hbind s₁ (.ref a)) (.cons rfl .nil) (hsp H hO hS)) fun r s' h=>?_
  cases r with
  |error e=>exact(hCX H e s' h).elim
  |ok fl=>
   cases fl with
   |next=>exact False.elim h
   |brk=>exact False.elim h
   |cont=>exact False.elim h
   |ret u=>
    obtain⟨v,H',os,bare,un,hok',r',q⟩:=h
    have q':v=.bl true:=q
    subst q'
    obtain rfl:u=Value.bool true:=r'
    refine⟨rfl,OldK.of_keep fun b o e=>?_,os,bare⟩
    cases q:H b with
    |none=>exact un.keep b o e q (by intro z;exact absurd (show b∈([]:List Addr) from z) (by simp)) (by simp)
    |some u=>
     rcases hO b with z|⟨ob,xs,z⟩
     .rw[q]at z;cases z
     .have z2:=un.frzs b ob _ z
      obtain⟨e1,_⟩:=hok b _ z
      obtain⟨e2,_⟩:=hok' b _ z2
      rw[e]at e1;cases e1
      exact e2
 cases hk:K.lookup a with
 |some o=>
  have e:=KX a o hk
  rw[ha]at e
  cases e
  refine core (fun _=>none) (fun _=>.inl rfl) (.inr ⟨_,vs.toArray,_,hk,rfl,rfl,rfl,by rw[xr,lenV];exact hl,by simpa using rv⟩) (fun b u z=>by have z':(none:Option HO)=some u:=z;cases z') (fun b z=>absurd rfl z) fun z=>absurd rfl z
 |none=>
  refine core (fun b=>if b=a then some (.frz { cls:=.type "list",data:=.seq vs.toArray } (.lst (ns.map V.int))) else none) (fun b=>?_) (.inl (.inr ⟨{ cls:=.type "list",data:=.seq vs.toArray },if_pos rfl⟩)) (fun b u z=>?_) (fun b z=>?_) fun _=>hk
  .by_cases hb:b=a
   .exact .inr ⟨_,_,if_pos hb⟩
   .exact .inl (if_neg hb)
  .by_cases hb:b=a
   .have z':=(if_pos hb).symm.trans z
    cases z'
    subst hb
    exact⟨ha,by rw[x0];exact hl,vs,_,rv,ha⟩
   .have z':=(if_neg hb).symm.trans z
    cases z'
  .by_cases hb:b=a
   .exact hb
   .exact absurd (if_neg hb) z
end L2
namespace L2
open PySem PySem.Spec PyProof.Rows
theorem zl0{l:PySem.W.OpenLaw}{n k:Nat}{q:Program}{loose:List Str}{XP:(Str->Option Value)->Heap->Prop}{YP:World->Heap->Prop}{d:DefRec}{K:Params->PySem.W.Frag}{CX:World->CXT}{sp:World->Sp}{x:Str}
  (hn:l.most=some n) (hn2:n<=sizeLine) (hdf:d.params.defaults=[]) (hr:Room k callerA)
  (hY:∀(w:World)(h:Heap),YP w h->(K w.params).In h)
  (F:∀(w:World)(mg:Str->Option Value)(fa:Addr)(h:Heap),(K w.params).In h->h.Ns mainGlobals mg->mg d.name=some (.ref fa)->
   ∃fd:FuncData,(∀(s:Shared)(u:Value),BindsTo s fd ⟨[u],[]⟩ [(x,u)])/\
    ∀base:Heap,(K w.params).In base->base.Ns mainGlobals mg->FnOk l.prog w (K w.params) mg base (CX w) k fa fd [x] (sp w))
  (hsp:∀(w:World)(H:Hp)(a:Addr)(ns:List Int),ns.length<=n->Only H->SqL (K w.params) H a (ns.map V.int)->sp w [.ref a] H (fun v _=>v=.bl true) fun _ _ _=>False)
  (hCX:∀(w:World)(H:Hp)(s:Shared)(e:Value)(s':Shared),CX w [] H s (fun _ _ _=>False) e s'->False):
  PySem.W.WalkO q loose XP YP l.row.toRowW d [] (fun f vs=>PySem.call f vs):=by
 refine Att.attach_call hn hdf fun w s₀ s₁ mg mb fa o pm cd doc a vs ns G Y ho hd hcd hmg hobj hints hlen hg=>?_
 have KX:=hY w _ Y
 obtain⟨fd,hb,hF⟩:=F w mg fa _ KX G.T.g hmg
 exact zjk KX G.T.g G.T.b G.T.builtins G.T.nolimit hg hobj hints (xp hlen hn2) hr hF hb (fun H hO hS=>hsp w H a ns hlen hO hS) fun H e s'=>hCX w H s₁ e s'
theorem walk_ofK{l:PySem.W.OpenLaw}{n k:Nat}{q:Program}{loose:List Str}{XP:(Str->Option Value)->Heap->Prop}{YP:World->Heap->Prop}{d:DefRec}{K:Params->PySem.W.Frag}{CX:CXT}{sp:PySem.W.Frag->Sp}{x:Str}
  (hn:l.most=some n) (hn2:n<=sizeLine) (hdf:d.params.defaults=[]) (hr:Room k callerA)
  (hY:∀(w:World)(h:Heap),YP w h->(K w.params).In h)
  (F:∀(w:World)(mg:Str->Option Value)(fa:Addr)(h:Heap),(K w.params).In h->h.Ns mainGlobals mg->mg d.name=some (.ref fa)->
   ∃fd:FuncData,(∀(s:Shared)(u:Value),BindsTo s fd ⟨[u],[]⟩ [(x,u)])/\
    ∀base:Heap,(K w.params).In base->base.Ns mainGlobals mg->FnOk l.prog w (K w.params) mg base CX k fa fd [x] (sp (K w.params)))
  (hsp:∀(K:PySem.W.Frag)(H:Hp)(a:Addr)(ns:List Int),ns.length<=n->Only H->SqL K H a (ns.map V.int)->sp K [.ref a] H (fun v _=>v=.bl true) fun _ _ _=>False)
  (hCX:∀(H:Hp)(s:Shared)(e:Value)(s':Shared),CX [] H s (fun _ _ _=>False) e s'->False):
  PySem.W.WalkO q loose XP YP l.row.toRowW d [] (fun f vs=>PySem.call f vs):=
 zl0 (K:=K) (CX:=fun _=>CX) (sp:=fun w=>sp (K w.params)) hn hn2 hdf hr hY F (fun w H a ns h1 h2 h3=>hsp (K w.params) H a ns h1 h2 h3) fun _ H s e s'=>hCX H s e s'
end L2
namespace L2
open PySem PySem.Spec PyProof.Rows
noncomputable def z1o(s:Stmt)(j:Nat):Stmt:=match s with
 | .ClassDef _ _ _ body _ _ _ _ _ _ _=>body.getD j (.Pass ⟨0,0,0,0⟩)
 |_=>.Pass ⟨0,0,0,0⟩
noncomputable def z3w(s:Stmt):Arguments:=match s with
 | .FunctionDef _ a _ _ _ _ _ _ _ _=>a
 |_=>{ posonlyargs:=[],args:=[],vararg:=none,kwonlyargs:=[],kw_defaults:=[],kwarg:=none,defaults:=[] }
noncomputable def z23(s:Stmt):List Stmt:=match s with
 | .FunctionDef _ _ b _ _ _ _ _ _ _=>b
 |_=>[]
noncomputable def zh(s:Stmt):Scope:=match s with
 | .FunctionDef _ _ _ _ _ _ sc _ _ _=>sc
 |_=>{ kind:=.function,names:=[],isGenerator:=false,isCoroutine:=false }
noncomputable abbrev CX0:CXT:=fun _ _ _ _ _ _=>False
noncomputable abbrev E0:XK:=fun _ _ _=>False
theorem z9d{X:Cx}:z3e CX0 X E0:=fun _ _ _ _ _ _ _ h=>h.elim
structure Fun(K:PySem.W.Frag)(x qual:Str)(st:Stmt)(f:Addr)(fd:FuncData):Prop where
 ex:∃(oc:Value)(od:Option Addr)(kV doc pm:Value)(an:Option Addr)(cdv ct:Value)(osl:Array (Option Value)),
  fd=PySem.W.fnOf x qual (z3w st) (z23 st) (zh st) .none kV doc pm an cdv ct/\K.lookup f=some ⟨oc,od,.func fd,osl⟩/\PySem.W.codeIn K cdv qual=true
 kp:PySem.W.keepIn K (.ref f)=true
section
variable {P:Program}{w:World}{K:PySem.W.Frag}{mg:Str->Option Value}{base:Heap}
theorem Fun.ok{x qual:Str}{st:Stmt}{f:Addr}{fd:FuncData}{N ps:List Str}{k:Nat}{sp:Sp}(F:Fun K x qual st f fd)(S:FnScope N ps (zh st))(len:∀vs H Q E,sp vs H Q E->vs.length=ps.length)
  (hbody:∀(cdv:Value)(A:Around)(outer:List Env)(s:Shared)(H:Hp)(vs:List V)(Q:VK)(E:XK),Room k (A.deeper (envOfC qual (zh st) s.heap.objs.size f cdv))->sp vs H Q E->
   ∃t,PSs (cxOf CX0 P w K mg base N qual (zh st) f cdv A outer s H E).nox (z23 st) t/\t { nx:=fun _ H'=>Q .non H',rt:=Q } (start N vs) H):FnOk P w K mg base CX0 (k+1) f fd ps sp:=by
 obtain⟨oc,od,kV,doc,pm,an,cdv,ct,osl,rfl,lk,hcd⟩:=F.ex
 refine zfz lk hcd S len fun A outer s H vs Q E hr hsp=>?_
 obtain⟨t,h,q⟩:=hbody cdv A outer s H vs Q E hr hsp
 exact⟨t,h.nox,q⟩
theorem Fun.binds{x qual:Str}{st:Stmt}{f:Addr}{fd:FuncData}{ps:List Str}(F:Fun K x qual st f fd)
  (h:∀(kV doc pm:Value)(an:Option Addr)(cdv ct:Value)(us:List Value),us.length=ps.length->bindArgs (PySem.W.fnOf x qual (z3w st) (z23 st) (zh st) .none kV doc pm an cdv ct) ⟨us,[]⟩=pure (ps.zip us)):Binds K fd ps []:=by
 obtain⟨oc,od,kV,doc,pm,an,cdv,ct,osl,rfl,lk,hcd⟩:=F.ex
 exact .all (h kV doc pm an cdv ct)
theorem fun_mk{x qual:Str}{st:Stmt}{f:Addr}{oc:Value}{od an:Option Addr}{osl:Array (Option Value)}{kV doc pm cdv ct:Value}(l:K.lookup f=some ⟨oc,od,.func (PySem.W.fnOf x qual (z3w st) (z23 st) (zh st) .none kV doc pm an cdv ct),osl⟩)
  (c:PySem.W.codeIn K cdv qual=true) (k:PySem.W.keepIn K (.ref f)=true):Fun K x qual st f (PySem.W.fnOf x qual (z3w st) (z23 st) (zh st) .none kV doc pm an cdv ct):=⟨⟨oc,od,kV,doc,pm,an,cdv,ct,osl,rfl,l,c⟩,k⟩
end
theorem z3n{A:Around}{k:Nat}(hr:Room k A):A.units+1<cLine:=Nat.lt_of_le_of_lt (Nat.add_le_add_left (by decide:1<=64) _) hr.units
theorem z1k{n:Nat}(h:n<=1000):n<sizeLine:=Nat.lt_of_le_of_lt h (by decide)
section
variable {X:Cx}
theorem pv(i:Nat){x:Str}{pos:Pos}(hN:X.N[i]? =some x:=by rfl)(hv:Vis X.env.scope x:=by first|exact Or.inl rfl|exact Or.inr (Or.inl rfl)|exact Or.inr (Or.inr rfl))(hd:(x==("__debug__":Str))=false:=by decide)
  (hcd:(x==("__classdict__":Str))=false:=by decide):PE X (.Name x pos) (tVar i):=zlo hN hv hd hcd
end
theorem ite2{c A B:Prop}[Decidable c](h1:c->A)(h2:¬ c->B):if c then A else B:=by
 by_cases h:c
 .rw[if_pos h]
  exact h1 h
 .rw[if_neg h]
  exact h2 h
noncomputable def Same(H H':Hp):Prop:=∀b o,H b=some o->H' b=some o
theorem Same.refl(H:Hp):Same H H:=fun _ _ h=>h
theorem Same.trans{H H1 H2:Hp}(a:Same H H1)(b:Same H1 H2):Same H H2:=fun c o h=>b c o (a c o h)
theorem Same.free{H H':Hp}(e:Same H H'){l:Addr}(h:H' l=Option.none):H l=Option.none:=by
 cases q:H l with
 |none=>rfl
 |some o=>
  rw[e l o q]at h
  cases h
theorem Same.seq{K:PySem.W.Frag}{H H':Hp}{a:Addr}{xs:List V}(e:Same H H')(h:SqL K H a xs):SqL K H' a xs:=by
 rcases h with(h|⟨o,h⟩)|h
 .exact .inl (.inl (e _ _ h))
 .exact .inl (.inr ⟨o,e _ _ h⟩)
 .exact .inr h
end L2
end
section
namespace L2
open PySem PySem.Spec PyProof.Rows
section
variable {X:Cx}{tg:Expr}
end
noncomputable def z25(env:Env):List (Str×NameKind)->List (Str×Addr)->List (Str×Addr)
 |[],cs=>cs
 |(n,k)::r,cs=>z25 env r (if k== .free then(n,(env.cells.lookup n).getD 0)::cs else cs)
theorem z64{sc:Scope}{env:Env}(h:∀y∈sc.names,y.2=.free->∃c,env.cells.lookup y.1=some c):closureFor sc env=pure (z25 env sc.names []):=by
 have go:∀(names:List (Str×NameKind))(cs:List (Str×Addr)),(∀y∈names,y.2=.free->∃c,env.cells.lookup y.1=some c)->
   (forIn names cs fun(x:Str×NameKind) (r:List (Str×Addr))=>(if(x.2== .free)=true then(do let a<-cellOf env x.1;pure (ForInStep.yield ((x.1,a)::r))) else pure (ForInStep.yield r):Sem (ForInStep (List (Str×Addr)))))=(pure (z25 env names cs):Sem (List (Str×Addr))):=by
  intro names
  induction names with
  |nil=>intro cs _;rfl
  |cons y r ih=>
   intro cs hy
   obtain⟨n,k⟩:=y
   rw[List.forIn_cons]
   have hr:∀z∈r,z.2=.free->∃c,env.cells.lookup z.1=some c:=fun z hz=>hy z (x09 _ hz)
   by_cases hk:k=.free
   .subst hk
    obtain⟨c,hc⟩:=hy (n,.free) x0c rfl
    have hc':env.cells.lookup n=some c:=hc
    simp only[beq_self_eq_true,if_true,z25,hc',Option.getD_some,cellOf]
    exact ih ((n,c)::cs) hr
   .have hb:(k==NameKind.free)=false:=by simpa using hk
    simp only[hb,x0i,if_false,z25]
    exact ih cs hr
 unfold closureFor
 show(forIn sc.names [] (fun(x:Str×NameKind) (r:List (Str×Addr))=>(if(x.2== .free)=true then(do let a<-cellOf env x.1;pure (ForInStep.yield ((x.1,a)::r))) else pure (ForInStep.yield r):Sem (ForInStep (List (Str×Addr)))))>>=fun cs=>pure cs)=_
 rw[go sc.names [] h]
 rfl
theorem z65{env:Env}:∀{names:List (Str×NameKind)}{cs:List (Str×Addr)}{x:Str}{c:Addr},(∀y∈names,y.2=.free->∃c,env.cells.lookup y.1=some c)->(∀y d,cs.lookup y=some d->env.cells.lookup y=some d)->
  (z25 env names cs).lookup x=some c->env.cells.lookup x=some c
 |[],cs,x,c,_,hcs,h=>hcs x c h
 |(n,k)::r,cs,x,c,hy,hcs,h=>by
  refine z65 (names:=r) (fun z hz=>hy z (x09 _ hz)) ?_ h
  intro y d e
  by_cases hk:(k==NameKind.free)=true
  .rw[if_pos hk,x1i]at e
   obtain⟨c',hc'⟩:=hy (n,k) x0c (by simpa using hk)
   have hc':env.cells.lookup n=some c':=hc'
   cases hyn:y==n with
   |true=>
    rw[hyn]at e
    have:y=n:=by simpa using hyn
    subst this
    simp only[hc',Option.getD_some]at e
    rw[hc'];exact e
   |false=>
    rw[hyn]at e
    exact hcs y d e
  .rw[if_neg hk]at e
   exact hcs y d e
theorem z8g{env:Env}:∀{names:List (Str×NameKind)}{cs:List (Str×Addr)}{x:Str},(∃c,cs.lookup x=some c)->∃c,(z25 env names cs).lookup x=some c
 |[],cs,x,h=>h
 |(n,k)::r,cs,x,h=>by
  refine z8g (names:=r) ?_
  split
  .rw[x1i]
   cases hxn:x==n with
   |true=>exact⟨_,rfl⟩
   |false=>exact h
  .exact h
theorem z3o{env:Env}:∀{names:List (Str×NameKind)}{cs:List (Str×Addr)}{x:Str},(x,NameKind.free)∈names->∃c,(z25 env names cs).lookup x=some c
 |[],_,_,h=>by simp at h
 |(n,k)::r,cs,x,h=>by
  rcases xo.mp h with e|h
  .cases e
   refine z8g (names:=r) ?_
   rw[if_pos (by rfl),x1i]
   rw[show(n==n)=true by simp]
   exact⟨_,rfl⟩
  .exact z3o (names:=r) h
theorem z47{env:Env}{sc:Scope}{x:Str}{k:NameKind}(h:(relabel sc env).names.lookup x=some k)(hk:k=.cell\/k=.free)(hc:∀y∈sc.names,y.2≠.cell):(x,NameKind.free)∈sc.names:=by
 have hm:=x15 h
 unfold relabel at hm
 obtain⟨⟨n,k'⟩,hn,e⟩:=xw.mp hm
 by_cases hf:(k'==NameKind.free&&env.scope.kind== .function&&env.kindOf n==some .cell)=true
 .have e':(n,NameKind.cell)=(x,k):=by
   have:=e
   simp only[hf,if_true]at this
   exact this
  injection e' with e1 e2
  subst e1
  have hk':k'=.free:=by
   rw[x07,x07]at hf
   simpa using hf.1.1
  rw[hk']at hn
  exact hn
 .have e':(n,k')=(x,k):=by
   have:=e
   simp only[hf,if_false]at this
   exact this
  injection e' with e1 e2
  subst e1 e2
  rcases hk with z|z
  .exact absurd z (hc _ hn)
  .rw[z]at hn;exact hn
noncomputable abbrev zy(X:Cx)(sc:Scope)(N:List Str)(s:Shared)(H:Hp)(C:Addr)(fp:List Addr):Cx:=
 { X with N:=N,s₀:=s,H₀:=H,env:=compEnvC sc (z25 X.env sc.names []) C X.env,outer:=X.stack,stack:=X.stack,ex:=fp,fn:=fun _=>false,pn:=[],xe:=fun _ _=>False }
noncomputable def CapOk(X:Cx)(sc:Scope):List Str->List Nat->Prop
 |[],[]=>True
 |y::r,j::js=>(X.N[j]? =some y/\(X.env.kindOf y=some .cell\/X.env.kindOf y=some .free)/\sc.names.lookup y=some .free)/\CapOk X sc r js
 |_,_=>False
theorem CapOk.len{X:Cx}{sc:Scope}:∀{cap:List Str}{js:List Nat},CapOk X sc cap js->cap.length=js.length
 |[],[],_=>rfl
 |_::_,_::_,h=>x0u (·+1) (CapOk.len h.2)
 |[],_::_,h=>h.elim
 |_::_,[],h=>h.elim
theorem CapOk.get{X:Cx}{sc:Scope}:∀{cap:List Str}{js:List Nat}{i:Nat}{y:Str},CapOk X sc cap js->cap[i]? =some y->∃j,js[i]? =some j/\X.N[j]? =some y/\(X.env.kindOf y=some .cell\/X.env.kindOf y=some .free)/\sc.names.lookup y=some .free
 |[],[],_,_,_,e=>by simp at e
 |y::_,j::_,0,_,h,e=>by
  simp at e;subst e
  exact⟨j,rfl,h.1⟩
 |_::r,_::js,i+1,y,h,e=>by
  obtain⟨j,e1,e2⟩:=CapOk.get (i:=i) h.2 (by simpa using e)
  exact⟨j,by simpa using e1,e2⟩
 |[],_::_,_,_,h,_=>h.elim
 |_::_,[],_,_,h,_=>h.elim
noncomputable def capt(σ:St)(js:List Nat):St:=js.map fun j=>(σ[j]?).join
structure CompScope(X:Cx)(sc:Scope)(x:Str)(cap:List Str)(js:List Nat):Prop where
 kind:sc.kind=.function
 nocell:∀y∈sc.names,y.2≠.cell
 names:∀y∈sc.names,y.2=.local->sc.names.lookup y.1=some .local
 own:sc.names.lookup x=some .local
 free:∀y∈sc.names,y.2=.free->X.env.kindOf y.1=some .cell\/X.env.kindOf y.1=some .free
 nd:(x::cap).Nodup
 caps:CapOk X sc cap js
section
variable {X:Cx}{sc:Scope}{x:Str}{cap:List Str}{js:List Nat}{pins:List (Addr×Obj)}{σ:St}{H:Hp}{s:Shared}
theorem CompScope.cells(S:CompScope X sc x cap js)(I:Inv X pins σ H s):∀y∈sc.names,y.2=.free->∃c,X.env.cells.lookup y.1=some c:=fun y hy hf=>I.ok.has y.1 (S.free y hy hf)
theorem CompScope.sub(S:CompScope X sc x cap js)(I:Inv X pins σ H s){y:Str}{c:Addr}(h:(z25 X.env sc.names []).lookup y=some c):X.env.cells.lookup y=some c:=
 z65 (S.cells I) (fun _ _ e=>by simp at e) h
theorem zg2{s4:Shared}{h4:Heap}{t4:Nat}{fp:List Addr}{C:Addr}{v:Option V}{m:Str->Option Value}(S:CompScope X sc x cap js)(I:Inv X pins σ H s)(hfp:∀b∈fp,FpOk X pins H b)(hlt:∀b∈fp,b<s.heap.objs.size)
  (hC:s.heap.objs.size<=C) (hn:h4.Ns C m) (k:∀b o,s.heap.get? b=some o->h4.get? b=some o):
  Inv (zy X sc (x::cap) s H C fp) [] (none::capt σ js) H { s with heap:=h4,toks:=t4 }:=by
 have nf:∀b∈frs X.stack,b<s.heap.objs.size:=fun b hb=>by
  obtain⟨_,o,ho,_⟩:=I.stack.mem hb
  exact xl ho
 refine⟨⟨I.ok.mod,S.kind,I.ok.glob,I.ok.blt,hC,fun y z c h1 h2=>I.ok.inj y z c (S.sub I h1) (S.sub I h2),fun y hy=>?_,fun y c h=>absurd h xa,I.ok.hd,I.ok.frames,.inl rfl,fun b hb=>⟨xy (xt (hlt b hb) hC),fun y c e=>(hfp b hb).2.2.2.2.1 y c (S.sub I e)⟩,I.bs,
   xp I.ok.bsz I.sz,fun b o e hb=>?_,fun b hb z=>?_,I.stack,I.stkFree⟩,rfl,I.bare,Un.kept k,⟨m,hn,fun i y v' h1 h2 h3=>?_⟩,fun y c e=>?_,I.hok.fresh hC,fun y c e=>I.freeC y c (S.sub I e),fun p hp=>absurd (show p∈([]:List (Addr×Obj)) from hp) (by simp),I.hok.kept k,?_⟩
 .exact z3o (by
   rcases hy with z|z
   .exact z47 z (.inl rfl) S.nocell
   .exact z47 z (.inr rfl) S.nocell)
 .rcases(hfp b hb).2.2.2.1 with z|z
  .exact I.ok.noex b o e z
  .exact absurd (xt (xl e) (xp I.ok.bsz z)) (x0r _)
 .rcases xo.mp (I.stkSub b z) with q|q
  .exact(hfp b hb).2.1 q
  .exact(hfp b hb).2.2.1 q
 .cases i with
  |zero=>exact absurd (show(none:Option V)=some v' from xq h2) (by simp)
  |succ i=>
   have e1:cap[i]? =some y:=by simpa using h1
   obtain⟨j,q1,q2,q3,q4⟩:=S.caps.get e1
   have e2:(capt σ js)[i]? =some (some v'):=by simpa using h2
   have e3:σ[j]? =some (some v'):=by
    unfold capt at e2
    rw[xc,q1,Option.map_some]at e2
    have e4:(σ[j]?).join=some v':=xq e2
    cases q:σ[j]? with
    |none=>rw[q]at e4;cases e4
    |some w=>rw[q]at e4;exact x0u some e4
   have vis:Vis X.env.scope y:=by
    rcases q3 with q3|q3
    .exact .inr (.inl q3)
    .exact .inr (.inr q3)
   obtain⟨mX,hnX,hl⟩:=I.loc
   obtain⟨u,ru,lk⟩:=hl j y v' q2 e3 vis
   refine⟨u,ru,.inr ?_⟩
   rcases lk with⟨hk,_⟩|⟨hk,c,hc,hcell⟩
   .rcases q3 with q3|q3
    .rw[q3]at hk;cases hk
    .rw[q3]at hk;cases hk
   .obtain⟨c',hc'⟩:=z3o (env:=X.env) (cs:=[]) (x15 q4)
    have:=S.sub I hc'
    rw[hc]at this
    cases this
    obtain⟨o,ho,hd⟩:=hcell
    refine⟨?_,c,hc',⟨o,k c o ho,hd⟩⟩
    rcases h3 with z|z|z
    .exfalso
     have hz:=x15 z
     obtain⟨⟨n,k'⟩,hn',en⟩:=xw.mp hz
     by_cases hf:(k'==NameKind.free&&X.env.scope.kind== .function&&X.env.kindOf n==some .cell)=true
     .simp only[hf,if_true]at en
      cases en
     .simp only[hf,if_false]at en
      cases en
      have:=S.names _ hn' rfl
      rw[q4]at this
      cases this
    .exact .inl z
    .exact .inr z
 .obtain⟨v',o,ho,hd⟩:=I.cell y c (S.sub I e)
  exact⟨v',o,k c o ho,hd⟩
 .show(none::capt σ js).length=(x::cap).length
  unfold capt
  rw[x0o,x0o,x0,S.caps.len]
theorem z8n{sB:Shared}{hB:Heap}{fp:List Addr}{C D:Addr}{HB:Hp}{σB:St}{pinsB:List (Addr×Obj)}{acc:List V}{its:List Value}{n:Nat}
  (I:Inv X pins σ H s) (hfp:∀b∈fp,FpOk X pins H b) (IB:Inv (zy X sc (x::cap) s H C fp) pinsB σB HB sB) (hC:s.heap.objs.size<=C) (hD:s.heap.objs.size<=D) (hDC:D≠C) (hHD:HB D=none)
  (hd:sB.heap.get? D=some { cls:=.type "list",data:=.seq its.toArray n }) (rv:Vals acc its) (hz:acc.length<=sizeLine) (sb:∀ b o,b≠C->sB.heap.get? b=some o->hB.get? b=some o):
  Inv X pins σ (upd HB D (.lst acc)) { sB with heap:=hB }:=by
 have u:=IB.base
 have hdB:=sb D _ hDC hd
 have ltD:∀b o,s.heap.get? b=some o->b≠D:=fun b o e=>xy (xt (xl e) hD)
 have ltC:∀b o,s.heap.get? b=some o->b≠C:=fun b o e=>xy (xt (xl e) hC)
 refine I.call' (ch:=fp) IB.os ⟨fun b o e n hb hx=>sb b o (ltC b o e) (u.keep b o e n hb hx),fun b o e n hb hx=>?_,fun b o e n hx=>by rw[zb (ltD b o e)];exact u.free b o e n hx,fun b o e hx=>?_,
  fun b xs e=>by rw[zb (ze (u.tups b xs e) hHD)];exact u.tups b xs e,fun b o xs e=>by rw[zb (ze (u.frzs b o xs e) hHD)];exact u.frzs b o xs e,fun b ps e=>?_⟩ ?_ IB.bare fun b hb=>?_
 .obtain⟨sl,q⟩:=u.slot b o e n hb hx
  exact⟨sl,sb b _ (ltC b o e) q⟩
 .obtain⟨o',q⟩:=u.there b o e hx
  exact⟨o',sb b _ (ltC b o e) q⟩
 .obtain⟨m1,q⟩:=u.tbls b ps e
  exact⟨m1,by rw[zb (ze q hHD)];exact q⟩
 .intro a o e
  by_cases ha:a=D
  .subst ha
   rw[z8]at e
   cases e
   exact⟨hz,its,n,rv,hdB⟩
  .rw[zb ha]at e
   refine(IB.hok a o e).stay (fun b w' hb q=>sb b w' (fun z=>?_) q) (fun b q=>by rw[zb (ze q hHD)];exact q) fun b xs q=>by rw[zb (ze q hHD)];exact q
   have fC:HB C=none:=IB.free
   rcases hb with hb|hb
   .rw[z]at hb;rw[<-hb,fC]at e;cases e
   .rw[z,fC]at hb;cases hb
 .obtain⟨f0,f1,f2,f3,f4,f5⟩:=hfp b hb
  exact⟨f3,f1,f4,f5⟩
end
end L2
end
section
namespace L2
open PySem PySem.Spec PyProof.Rows
noncomputable def PIf(X:Cx)(ifs:List Expr)(t:TT):Prop:=
 ∀(pins:List (Addr×Obj))(s:Shared)(σ:St)(H:Hp)(Q:Bool->Hp->Prop),Inv X pins σ H s->t σ H Q->
  wpAny (model X.prog X.w) X.A (forIn ifs true fun c r=>if r=true then do let ok<-isTrue c X.env (eval c X.env);pure (ForInStep.yield ok) else pure (ForInStep.yield r)) (TP X pins σ Q) X.xe s
noncomputable def tYes:TT:=fun _ H Q=>Q true H
theorem z39{X:Cx}:PIf X [] tYes:=fun _ _ _ H _ I h=>xh ⟨H,I,h⟩
theorem z28{X:Cx}{c:Expr}{tc:TT}(h:PT X c tc):PIf X [c] tc:=by
 intro pins s σ H Q I hw
 simp only[List.forIn_cons,List.forIn_nil,if_true]
 refine x8 (x8 (thn (h pins s σ H Q I hw) fun b s1 q=>?_))
 exact xh (xh q)
noncomputable def z49(J:It)(tc:TT)(te:TE)(js:List Nat)(σ:St)(H1:Hp)(Q:VK):Prop:=
 ∃W:Nat->Nat->List V->Hp->Prop,(∃m,W 0 m [] H1)/\∀i m acc H,W i m acc H->
  (J.stop i H/\∀p,H p=none->Q (.ref p) (upd H p (.lst acc)))\/
  (J.go i H/\acc.length<sizeLine/\∀x H',J.yld i H x H'->tc (some x::capt σ js) H' fun b H2=>
   if b=true then te (some x::capt σ js) H2 fun v H3=>∃m',m'<m/\W (i+1) m' (acc++[v]) H3 else∃m',m'<m/\W (i+1) m' acc H2)
noncomputable def zg3(wi:TI)(tc:TT)(te:TE)(js:List Nat):TE:=fun σ H Q=>wi σ H fun J H1=>z49 J tc te js σ H1 Q
theorem z8h{prog:Program}{w:World}{A:Around}{R:Result->Shared->Prop}{s:Shared}{elt target iter:Expr}{ifs:List Expr}{scope:Scope}{pos:Pos}{it acc:Value}{env:Env}(I:Nat->Shared->Prop)
  (turn:∀n s,I n s->wpAny (model prog w) A (pyNext it) (fun r s₁=>match r with
   |none=>R (.ok .next) s₁
   | some v=>wpAny (model prog w) A (letOwnedTupleGo target it v) (fun _ s₀=>wpAny (model prog w) A (assign target env v) (fun _ s₂=>
     wpAny (model prog w) A (forIn ifs true fun c r=>if r=true then do let ok<-isTrue c env (eval c env);pure (ForInStep.yield ok) else pure (ForInStep.yield r)) (fun ok s₃=>
      if ok=true then wpAny (model prog w) A (eval elt env) (fun x s₄=>
       wpAny (model prog w) A (call (.builtin "list.append") [acc,x]) (fun _ s₅=>∃ m,m<n/\I m s₅) (fun _ _=>False) s₄) (fun _ _=>False) s₃
      else∃m,m<n/\I m s₃) (fun _ _=>False) s₂) (fun _ _=>False) s₀) (fun _ _=>False) s₁) (fun _ _=>False) s)
  (n:Nat) (h:I n s):
  codeAny (model prog w) A (.compLoop (.ListComp elt [⟨target,iter,ifs,0⟩] scope pos) 0 it acc env) R s:=by
 refine codeAny_loop rfl I (fun n s hI=>?_) n h
 show wpAny _ A ((compTurn (.ListComp elt [⟨target,iter,ifs,0⟩] scope pos) 0 it acc env).onRaise (fun x=>do noteFrame x env;theTreesLotGoes x)) _ _ s
 refine wpAny_noted (x0f (E:=fun _ _=>False) ?_ (fun _ _ q=>q) fun _ _ z=>z.elim)
 rw[compTurn_list]
 refine x8 (wpAny_standAt (x8 (x0f (turn n s hI) (fun r s₁ h₁=>?_) fun _ _ h'=>h')))
 cases r with
 |none=>exact xh h₁
 |some v=>
  refine x8 (x0f h₁ (fun _ s₀ h₀=>?_) fun _ _ h'=>h')
  refine x8 (x0f h₀ (fun _ s₂ h₂=>x8 (x0f h₂ (fun ok s₃ h₃=>?_) fun _ _ h'=>h')) fun _ _ h'=>h')
  cases ok with
  |false=>exact xh ⟨rfl,h₃⟩
  |true=>
   exact x8 (x8 (x0f h₃ (fun x s₄ h₄=>x8 (x0f h₄ (fun _ s₅ h₅=>xh (xh ⟨rfl,h₅⟩)) fun _ _ h'=>h')) fun _ _ h'=>h'))
section
variable {X:Cx}{sc:Scope}{x:Str}{cap:List Str}{js:List Nat}{pins:List (Addr×Obj)}{σ:St}{H:Hp}{s:Shared}{elt iter:Expr}{ifs:List Expr}{px pos:Pos}{tc:TT}{te:TE}
theorem z9e{J:It}{it:Addr}{fp:List Addr}{tn:Nat->Heap->Prop}{Q:VK}{E:Value->Shared->Prop}{RR:Value->Addr->Result->Shared->Prop}(S:CompScope X sc x cap js)(hcalm:X.calm=true)
  (hc:∀s H C fp,PIf (zy X sc (x::cap) s H C fp) ifs tc) (he:∀s H C fp,PE (zy X sc (x::cap) s H C fp) elt te)
  (I:Inv X pins σ H s) (T:Turn X.prog X.w X.K (.Name x px) J fp it tn) (st:tn 0 s.heap) (hfp:∀b∈fp,FpOk X pins H b) (go:z49 J tc te js σ H Q)
  (hRR:∀ D C HB sB σB acc its n,s.heap.objs.size<=D->s.heap.objs.size<=C->D≠C->Inv (zy X sc (x::cap) s H C fp) [] σB HB sB->HB D=none->sB.heap.get? D=some { cls:=.type "list",data:=.seq (its:List Value).toArray n }->Vals acc its->acc.length<=sizeLine->
   (∀p,HB p=none->Q (.ref p) (upd HB p (.lst acc)))->RR (.ref D) C (.ok .next) sB):
  wpAny (model X.prog X.w) X.A (newList []) (fun acc s₃=>wpAny (model X.prog X.w) X.A (newFunctionEnv sc X.env.globals (z25 X.env sc.names []) [] X.env.qual none .none (some X.env)) (fun cenv s₄=>
   codeAny (model X.prog X.w) X.A (.compStart (.ListComp elt [⟨.Name x px,iter,ifs,0⟩] sc pos) 0 (.ref it) acc { cenv with scope:=relabel sc X.env }) (RR acc cenv.locals) s₄) E s₃) E s:=by
 refine x0z (wpAny_newFunctionEnv S.nocell (by intro y hy;simp at hy) (fun h₁ hns₁ hsb₁=>?_) S.kind)
 dsimp only at hns₁ hsb₁⊢
 generalize hH2:s.heap.push { cls:=.type "list",dict:=none,data:=.seq ([]:List Value).toArray }=H2 at hns₁ hsb₁⊢
 have hCs:H2.objs.size=s.heap.objs.size+1:=by rw[<-hH2,x14]
 have hDC:s.heap.objs.size≠H2.objs.size:=by rw[hCs];exact xy (x1a _)
 have hCle:s.heap.objs.size<=H2.objs.size:=by rw[hCs];exact Nat.le_succ _
 have below:∀b,b<s.heap.objs.size->b≠H2.objs.size:=fun b hb=>by rw[hCs];exact xy (x1n hb)
 have old:∀b o,s.heap.get? b=some o->h₁.get? b=some o:=fun b o e=>hsb₁.extBut b o (below b (xl e)) (xf _ (hH2▸xf _ e))
 have hacc:h₁.get? s.heap.objs.size=some { cls:=.type "list",data:=.seq ([]:List Value).toArray 0 }:=hsb₁.extBut _ _ hDC (xf _ (hH2▸xu _ rfl))
 have hlt:∀b∈fp,b<s.heap.objs.size:=fun b hb=>by
  obtain⟨o,e,_⟩:=T.obj _ _ st b hb
  exact xl e
 have hlocal:(relabel sc X.env).names.lookup x=some .local:=lookup_relabel_local S.own
 obtain⟨W,⟨m0,w0⟩,turn⟩:=go
 have nD:∀b∈fp,b≠s.heap.objs.size:=fun b hb=>xy (hlt b hb)
 have nfs:s.heap.objs.size∉frs X.stack:=fun z=>by
  obtain⟨_,o,ho,_⟩:=I.stack.mem z
  exact absurd (xl ho) (x0r _)
 have ncl:∀y c,(z25 X.env sc.names []).lookup y=some c->c≠s.heap.objs.size:=fun y c e=>by
  obtain⟨v,o,ho,_⟩:=I.cell y c (S.sub I e)
  exact xy (xl ho)
 have loop:∀s₃:Shared,s₃={ s with heap:=h₁,toks:=s.toks+([]:List (Str×Value)).length }->
   codeAny (model X.prog X.w) X.A (.compLoop (.ListComp elt [⟨.Name x px,iter,ifs,0⟩] sc pos) 0 (.ref it) (.ref s.heap.objs.size) (compEnvC sc (z25 X.env sc.names []) H2.objs.size X.env))
    (RR (.ref s.heap.objs.size) H2.objs.size) s₃:=by
  rintro s₃ rfl
  have I0:Inv (zy X sc (x::cap) s H H2.objs.size fp) [] (none::capt σ js) H { s with heap:=h₁,toks:=s.toks+([]:List (Str×Value)).length }:=zg2 (v:=none) S I hfp hlt hCle hns₁ old (s4:=s)
  refine z8h (fun n s'=>∃i H' acc its k,Inv (zy X sc (x::cap) s H H2.objs.size fp) [] (none::capt σ js) H' s'/\tn i s'.heap/\(∀b∈fp,H' b=none)/\H' s.heap.objs.size=none/\
    s'.heap.get? s.heap.objs.size=some { cls:=.type "list",data:=.seq (its:List Value).toArray k }/\Vals acc its/\acc.length<=sizeLine/\W i n acc H') ?_ m0
   ⟨0,H,[],[],0,I0,T.keep _ _ _ st fun b _ o e=>old b o e,fun b hb=>(hfp b hb).1,I.hok.fresh (xk _),hacc,.nil,x03 _,w0⟩
  rintro n s3 ⟨i,H3,acc,its,kk,I3,st3,fr3,fD3,d3,r3,z3,w3⟩
  have fpY:∀{H':Hp}{pl:List (Addr×Obj)},(∀b∈fp,H' b=none)->(∀p∈pl,p.1=s.heap.objs.size)->∀b∈fp,FpOk (zy X sc (x::cap) s H H2.objs.size fp) pl H' b:=fun{H' pl} hn hp b hb=>
   ⟨hn b hb,below b (hlt b hb),fun z=>by
    rcases xo.mp (I.stkSub b z) with q|q
    .exact(hfp b hb).2.1 q
    .exact(hfp b hb).2.2.1 q,.inl hb,fun y c e=>(hfp b hb).2.2.2.2.1 y c (S.sub I e),fun p hp'=>by
    rw[hp p hp']
    exact Ne.symm (nD b hb)⟩
  have pin3:Inv (zy X sc (x::cap) s H H2.objs.size fp) [(s.heap.objs.size,{ cls:=.type "list",data:=.seq its.toArray kk })] (none::capt σ js) H3 s3:=I3.pins_of fun p hp=>by
   have e:p=(s.heap.objs.size,{ cls:=.type "list",data:=.seq its.toArray kk }):=by simpa using hp
   subst e
   exact⟨d3,fD3,hDC,nfs,fun v z=>by cases z⟩
  have onlyD:∀ p∈[(s.heap.objs.size,({ cls:=.type "list",data:=.seq its.toArray kk }:Obj))],p.1=s.heap.objs.size:=fun p hp=>by
   have e:p=(s.heap.objs.size,{ cls:=.type "list",data:=.seq its.toArray kk }):=by simpa using hp
   rw[e]
  rcases turn i n acc H3 w3 with⟨stop,qn⟩|⟨gon,hlen,step⟩
  .refine x0f (T.done (zy X sc (x::cap) s H H2.objs.size fp) rfl rfl rfl hcalm i _ s3 _ H3 (fun _ _=>False) pin3 (fpY fr3 onlyD) st3 stop) (fun r s4 hr=>?_) fun _ _ z=>z.elim
   obtain⟨hr,I4⟩:=hr
   subst hr
   have d4:=(I4.pin _ (x01 _ x0c)).1
   exact hRR _ _ H3 s4 _ acc its kk (xk _) hCle hDC (I4.pins_of fun p hp=>by simp at hp) fD3 d4 r3 z3 qn
  .refine x0f (T.item (zy X sc (x::cap) s H H2.objs.size fp) rfl rfl rfl hcalm i _ s3 _ H3 (fun _ _=>False) pin3 (fpY fr3 onlyD) st3 gon) (fun r s4 hr=>?_) fun _ _ z=>z.elim
   obtain⟨u,hr,h4⟩:=hr
   subst hr
   dsimp only
   refine x0f h4 (fun _ s5 h5=>?_) fun _ _ z=>z.elim
   obtain⟨xv,H5,I5,r5,y5,st5,fr5⟩:=h5
   have I5':=I5.pinned (fpY fr5 onlyD) (T.obj _ _ st5)
   refine wpAny_assign_Name (z8m (X:=zy X sc (x::cap) s H H2.objs.size fp) I5' S.nd (i:=0) rfl (.inl hlocal) r5 (fun s6 I6=>?_) (.inr hlocal))
   have I6':Inv (zy X sc (x::cap) s H H2.objs.size fp) ([(s.heap.objs.size,{ cls:=.type "list",data:=.seq its.toArray kk })]++z4t fp s5.heap) (some xv::capt σ js) H5 s6:=I6
   refine x0f (hc s H H2.objs.size fp _ s6 _ H5 _ I6' (step xv H5 y5)) (fun b s7 q7=>?_) fun _ _ z=>z.elim
   obtain⟨H7,I7,q7⟩:=q7
   have weak:∀{pl:List (Addr×Obj)}{HH:Hp}{ss:Shared},Inv (zy X sc (x::cap) s H H2.objs.size fp) pl (some xv::capt σ js) HH ss->Inv (zy X sc (x::cap) s H H2.objs.size fp) pl (none::capt σ js) HH ss:=fun J=>J.weak rfl fun k v e=>by
    cases k with
    |zero=>exact absurd (xq e) (by simp)
    |succ k=>simpa using e
   have back:∀{HH:Hp} {ss:Shared},Inv (zy X sc (x::cap) s H H2.objs.size fp) ([(s.heap.objs.size,{ cls:=.type "list",data:=.seq its.toArray kk })]++z4t fp s5.heap) (some xv::capt σ js) HH ss->
     tn (i+1) ss.heap/\(∀ b∈fp,HH b=none)/\HH s.heap.objs.size=none/\ss.heap.get? s.heap.objs.size=some { cls:=.type "list",data:=.seq its.toArray kk }:=fun{HH ss} K=>by
    refine⟨T.keep _ _ _ st5 fun b hb o e=>(K.pin (b,o) (x01 _ (x01 _ (z38 hb e)))).1,fun b hb=>?_,?_,?_⟩
    .obtain⟨o,e,d⟩:=T.obj _ _ st5 b hb
     exact(K.pin (b,o) (x01 _ (x01 _ (z38 hb e)))).2.1
    .exact(K.pin _ (x01 _ (x0t _ x0c))).2.1
    .exact(K.pin _ (x01 _ (x0t _ x0c))).1
   cases b with
   |false=>
    rw[if_neg xa]at q7⊢
    obtain⟨m',hm,w7⟩:=q7
    obtain⟨b1,b2,b3,b4⟩:=back I7
    exact⟨m',hm,i+1,H7,acc,its,kk,(weak I7).pins_of fun p hp=>by simp at hp,b1,b2,b3,b4,r3,z3,w7⟩
   |true=>
    rw[if_pos rfl]at q7⊢
    refine x0f (he s H H2.objs.size fp _ s7 _ H7 _ I7 q7) (fun u8 s8 q8=>?_) fun _ _ z=>z.elim
    obtain⟨v8,H8,I8,r8,m',hm,w8⟩:=q8
    obtain⟨b1,b2,b3,b4⟩:=back I8
    have hl3:=r3.length
    refine call_meets F.slot_list_append ⟨_,b4,rfl⟩ F.entry_list_append (F.args_list_append_2 _ _) (PySem.list_append s.heap.objs.size its.toArray kk u8 (by rw[xr];omega)) ⟨b4,?_⟩
    have q:=PySem.IsL.update b4 (·.push u8)
    obtain⟨n',q'⟩:∃ n',(s8.heap.update s.heap.objs.size (Obj.mapSeq (·.push u8))).get? s.heap.objs.size=some { cls:=.type "list",data:=.seq (its++[u8]).toArray n' }:=by
     rw[show(its++[u8]).toArray=its.toArray.push u8 by simp]
     exact⟨_,q⟩
    refine⟨m',hm,i+1,H8,acc++[v8],its++[u8],_,?_,T.keep _ _ _ b1 fun b hb o e=>(x1e s8.heap _ (Ne.symm (nD b hb))).trans e,b2,b3,q',r3.append (.cons r8 .nil),by rw[x00,List.length_singleton];omega,w8⟩
    exact Inv.turned (X:=zy X sc (x::cap) s H H2.objs.size fp) (it:=s.heap.objs.size) ((weak I8).pins_of (pins':=[]) fun p hp=>by simp at hp) (fun b o hb e=>(x1e s8.heap _ (Ne.symm hb)).trans e) b3 hDC (.inr (xk _)) ncl (fun p hp=>absurd (show p∈([]:List (Addr×Obj)) from hp) (by simp))
 exact codeAny_compStart_list (loop _ rfl) (T.self _ 0 _ _ _ (T.keep _ _ _ st fun b _ o e=>old b o e) (loop _ rfl))
theorem z1z{wi:TI}(hcalm:X.calm=true)(S:CompScope X sc x cap js)(hi:PI X (.Name x px) iter wi)(hc:∀s H C fp,PIf (zy X sc (x::cap) s H C fp) ifs tc)(he:∀s H C fp,PE (zy X sc (x::cap) s H C fp) elt te)
  (hs:∀x,foldedSetIterable iter X.env x=pure x:=by intro _;rfl):PE X (.ListComp elt [⟨.Name x px,iter,ifs,0⟩] sc pos) (zg3 wi tc te js):=by
 intro pins s σ H Q I h
 rw[eval_ListComp]
 refine wpAny_comprehension_free (use:=none) rfl hs (z64 (S.cells I)) S.kind S.names (thn (hi pins s σ H _ I h) fun v s1 h1=>thn h1 fun itv s2 h2=>?_)
 obtain⟨it,fp,tn,J,H2,e,I2,T,st2,f2,go⟩:=h2
 subst e
 refine z9e S hcalm hc he I2 T st2 f2 go fun D C HB sB σB acc its n hD hC hDC IB hHD hd rv hz q=>?_
 obtain⟨m,hn,_⟩:=IB.loc
 exact⟨m,hn,fun h' sb=>⟨.ref D,upd HB D (.lst acc),z8n (sc:=sc) (x:=x) (cap:=cap) I2 f2 IB hC hD hDC hHD hd rv hz fun b o hb e=>sb.extBut b o hb e,rfl,q D hHD⟩⟩
theorem z66{wi:TI}{i:Nat}{y:Str}{py spos:Pos}(hcalm:X.calm=true)(S:CompScope X sc x cap js)(hN:X.N.Nodup)(hi':X.N[i]? =some y)(hx:Loc X.env.scope y)(hi:PI X (.Name x px) iter wi)(hc:∀s H C fp,PIf (zy X sc (x::cap) s H C fp) ifs tc)(he:∀s H C fp,PE (zy X sc (x::cap) s H C fp) elt te)
  (hsw:swapsWith (.ListComp elt [⟨.Name x px,iter,ifs,0⟩] sc pos) (some (.Name y py)) spos.line X.env=pure true:=by rfl) (hs:∀x,foldedSetIterable iter X.env x=pure x:=by intro _;rfl)
  (hf:X.fn y=true\/X.env.scope.names.lookup y=some .local:=by first|exact .inl rfl|exact .inr rfl|assumption):PS X (.Assign [.Name y py] (.ListComp elt [⟨.Name x px,iter,ifs,0⟩] sc pos) spos) (tAsg (zg3 wi tc te js) (z9a i)):=by
 intro pins s σ H D I h
 rw[exec_Assign_Name_used _ _ _ _ hsw]
 refine x8 (wpAny_standAt (x8 ?_))
 show wpAny _ X.A (do let _<-comprehension (.ListComp elt [⟨.Name x px,iter,ifs,0⟩] sc pos) sc X.env _ (newList []) false (eval iter X.env) (some (assign (.Name y py) X.env))) _ _ s
 refine x8 (x0f (wpAny_comprehension_free (use:=some (assign (.Name y py) X.env)) (Q:=fun _ s'=>SP X pins D .next s') rfl hs (z64 (S.cells I)) S.kind S.names (thn (hi pins s σ H _ I h) fun v s1 h1=>thn h1 fun itv s2 h2=>?_)) (fun _ s' hq=>xh (xh hq)) fun _ _ e=>e)
 obtain⟨it,fp,tn,J,H2,e,I2,T,st2,f2,go⟩:=h2
 subst e
 refine z9e S hcalm hc he I2 T st2 f2 go fun D' C HB sB σB acc its n hD hC hDC IB hHD hd rv hz q=>?_
 obtain⟨m,hn,_⟩:=IB.loc
 have IE:Inv X pins σ (upd HB D' (.lst acc)) sB:=z8n (hB:=sB.heap) (sc:=sc) (x:=x) (cap:=cap) I2 f2 IB hC hD hDC hHD hd rv hz fun b o hb e=>e
 refine wpAny_assign_Name (zb0 IE hN hi' hx (v:=.ref D') rfl (fun s3 I3 hsb=>?_) hf)
 obtain⟨a,sba,ha⟩:=hsb
 have aC:C≠a:=by
  rcases ha with z|z
  .rw[z];exact Nat.ne_of_gt (xt I2.lt hC)
  .obtain⟨v,o,ho,_⟩:=I2.cell y a z
   exact Nat.ne_of_gt (xt (xl ho) hC)
 refine⟨m,hn.sameBut sba aC,fun h' sb=>?_⟩
 refine⟨σ.set i (some (.ref D')),upd HB D' (.lst acc),I3.turned (it:=C) (t':=s3.toks) (fun b o hb e=>sb.extBut b o hb e) (by rw[zb (Ne.symm hDC)];exact IB.free) (Nat.ne_of_gt (xt I2.lt hC)) (.inr (xp I2.sz hC)) (fun y' c e=>?_) (fun p hp=>?_),q D' hHD⟩
 .obtain⟨v,o,ho,_⟩:=I2.cell y' c e
  exact xy (xt (xl ho) hC)
 .exact xy (xt (xl (I2.pin p hp).1) hC)
end
end L2
end
section
namespace L2
open PySem PySem.Spec PyProof.Rows
noncomputable def eqVs:List V->List V->Bool
 |[],[]=>true
 |x::xs,y::ys=>eqV x y&&eqVs xs ys
 |_,_=>false
theorem z8o:∀{xs ys:List V},xs.length≠ys.length->eqVs xs ys=false
 |[],[],h=>absurd rfl h
 |[],_::_,_=>rfl
 |_::_,[],_=>rfl
 |x::xs,y::ys,h=>by
  show(eqV x y&&eqVs xs ys)=false
  rw[z8o (xs:=xs) (ys:=ys) (fun e=>h (by simp[e])),Bool.and_false]
theorem z67:∀{xs ys:List V},xs.length=ys.length->(List.range xs.length).all (fun j=>eqV (xs.getD j .non) (ys.getD j .non))=eqVs xs ys
 |[],[],_=>rfl
 |[],_::_,h=>by simp at h
 |_::_,[],h=>by simp at h
 |x::xs,y::ys,h=>by
  have ih:=z67 (xs:=xs) (ys:=ys) (by simpa using h)
  show(List.range (xs.length+1)).all _=(eqV x y&&eqVs xs ys)
  rw[List.range_succ_eq_map,List.all_cons,List.all_map,<-ih]
  rfl
theorem z68:∀(as bs:List Str),eqVs (as.map V.str) (bs.map V.str)=decide (as=bs)
 |[],[]=>rfl
 |[],_::_=>rfl
 |_::_,[]=>rfl
 |a::as,b::bs=>by
  show(eqV (.str a) (.str b)&&eqVs (as.map V.str) (bs.map V.str))=_
  rw[z68 as bs]
  show((a==b)&&decide (as=bs))=_
  rw[x18]
  simp
theorem zb9{A:Around}{s:Shared}{xs ys:List V}{us ws:List Value}(rx:Vals xs us)(ry:Vals ys ws)(fx:xs.all z2k=true)(fy:ys.all z2k=true)(j:Nat)(h1:j<us.toArray.size)(h2:j<ws.toArray.size):
  SeqAt.EqAt A s us.toArray[j] ws.toArray[j] (eqV (xs.getD j .non) (ys.getD j .non)):=by
 have l1:=rx.length
 have l2:=ry.length
 rw[xr]at h1 h2
 have e1:xs[j]? =some (xs.getD j .non):=by rw[xn,x6 (by omega)];rfl
 have e2:ys[j]? =some (ys.getD j .non):=by rw[xn,x6 (by omega)];rfl
 obtain⟨u,q1,r1⟩:=rx.get e1
 obtain⟨w,q2,r2⟩:=ry.get e2
 have t1:us.toArray[j]=u:=by
  rw[List.getElem_toArray]
  rw[x6 h1]at q1
  exact xq q1
 have t2:ws.toArray[j]=w:=by
  rw[List.getElem_toArray]
  rw[x6 h2]at q2
  exact xq q2
 rw[t1,t2]
 exact zhn r1 r2 (List.all_eq_true.mp fx _ (x9 e1)) (List.all_eq_true.mp fy _ (x9 e2))
noncomputable def rEqL(K:PySem.W.Frag)(neg:Bool):R2:=fun x y H Q=>∃p q xs ys,x=.ref p/\y=.ref q/\SqL K H p xs/\SqL K H q ys/\xs.all z2k=true/\ys.all z2k=true/\Q (.bl (if neg then !eqVs xs ys else eqVs xs ys)) H
noncomputable def rEqT(K:PySem.W.Frag)(neg:Bool):R2:=fun x y H Q=>∃p q xs ys,x=.ref p/\y=.ref q/\SqT K H p xs/\SqT K H q ys/\xs.all z2k=true/\ys.all z2k=true/\Q (.bl (if neg then !eqVs xs ys else eqVs xs ys)) H
section
variable {X:Cx}
theorem zhv(hu:X.A.units<cLine):OpR X (compareOp .Eq) (rEqL X.K false):=by
 intro pins s σ H x y v u Q I rx ry h
 obtain⟨p,q,xs,ys,rfl,rfl,hp,hq,fx,fy,hQ⟩:=h
 cases rx
 cases ry
 obtain⟨us,r1,p1,_⟩:=I.list hp
 obtain⟨ws,r2,p2,_⟩:=I.list hq
 have l1:=r1.length
 have l2:=r2.length
 by_cases hl:xs.length=ys.length
 .refine SeqAt.eq_listAt (e:=fun j=>eqV (xs.getD j .non) (ys.getD j .non)) p1.isList p2.isList (by rw[xr,xr];omega) hu (fun j h1 h2=>zb9 r1 r2 fx fy j h1 h2) (z16 I hQ ?_)
  rw[xr,<-l1,z67 hl]
  rfl
 .refine SeqAt.eq_list_lengthsAt p1.isList p2.isList (by simp only[xr,bne_iff_ne];omega) hu (z16 I hQ ?_)
  rw[z8o hl]
  rfl
theorem zl1{xs ys:List V}:((List.range (min xs.length ys.length)).all (fun j=>eqV (xs.getD j .non) (ys.getD j .non))&&xs.length==ys.length)=eqVs xs ys:=by
 by_cases hl:xs.length=ys.length
 .rw[<-hl,Nat.min_self,z67 hl]
  simp
 .rw[z8o hl]
  simp[hl]
theorem zlt(hu:X.A.units<cLine):OpR X (compareOp .NotEq) (rEqT X.K true):=by
 intro pins s σ H x y v u Q I rx ry h
 obtain⟨p,q,xs,ys,rfl,rfl,hp,hq,fx,fy,hQ⟩:=h
 cases rx
 cases ry
 obtain⟨us,r1,p1,_⟩:=I.tuple hp
 obtain⟨ws,r2,p2,_⟩:=I.tuple hq
 have l1:=r1.length
 have l2:=r2.length
 refine SeqAt.RcNeAt.tuples (e:=fun j=>eqV (xs.getD j .non) (ys.getD j .non)) p1 p2 hu (fun j h1 h2=>zb9 r1 r2 fx fy j h1 h2) _ _ _ _ (z16 I hQ ?_)
 rw[xr,xr,<-l1,<-l2,zl1]
 rfl
theorem zlu:SlR X (fun x lo hi H Q=>∃z,x=.str z/\z.length<=sizeLine/\Q (.str (Txt.slice z lo hi)) H):=by
 intro pins s σ H x v vl vu lo hi sl Q I rx hs pl pu h
 obtain⟨z,rfl,hz,q⟩:=h
 obtain⟨t,rfl⟩:=rx
 refine⟨"str",_,F.slot_str_getitem.lookup,typeIs_str _ _ _,?_⟩
 have fin:∀t' k,EP X pins σ Q (.str (Txt.slice z lo hi) t') { s with toks:=k }:=fun t' k=>⟨.str _,H,I.tok _,⟨_,rfl⟩,q⟩
 obtain⟨o,h1,h2,h3⟩:=hs
 cases pl with
 |none=>
  cases pu with
  |none=>exact wpAny_getItem_str_slice (l:=none) (u:=none) (st:=none) ⟨o,h1,h2,h3⟩ rfl (post_val_or_str ⟨xp (Txt.slice_le z none none) hz,fin⟩)
  |int j u=>exact wpAny_getItem_str_slice (l:=none) (u:=some (j,u)) (st:=none) ⟨o,h1,h2,h3⟩ rfl (post_val_or_str ⟨xp (Txt.slice_le z none (some j)) hz,fin⟩)
 |int i u'=>
  cases pu with
  |none=>exact wpAny_getItem_str_slice (l:=some (i,u')) (u:=none) (st:=none) ⟨o,h1,h2,h3⟩ rfl (post_val_or_str ⟨xp (Txt.slice_le z (some i) none) hz,fin⟩)
  |int j u=>exact wpAny_getItem_str_slice (l:=some (i,u')) (u:=some (j,u)) (st:=none) ⟨o,h1,h2,h3⟩ rfl (post_val_or_str ⟨xp (Txt.slice_le z (some i) (some j)) hz,fin⟩)
theorem zba:∀(l:List (Str×Tok)),Vals ((l.map (·.1)).map V.str) (strValues l)
 |[]=>.nil
 |(x,t)::r=>.cons ⟨t,rfl⟩ (zba r)
noncomputable def zhw:V->List V->Hp->VK->Prop:=fun x vs H Q=>∃z y,x=.str z/\vs=[.str y]/\y.length=1/\z.length+2<=sizeLine/\∀p,H p=none->Q (.ref p) (upd H p (.lst ((Txt.split z y).map V.str)))
theorem z69:MtR X "str.split" zhw:=by
 intro pins s σ H x vs v us Q I rx rv h
 obtain⟨z,y,rfl,rfl,hy,hz,q⟩:=h
 obtain⟨t,rfl⟩:=rx
 obtain⟨u,rfl,t',rfl⟩:=rv.one
 have hn:(Builtin.Str.partsBetween z (Builtin.Str.occurrences z y 0 z.length (z.length+1)) y.length).length<=sizeLine:=by
  have e1:=StrLaws.occ_length_le z y 0 z.length (z.length+1)
  rw[length_partsBetween];omega
 have hy0:(y.length==0)=false:=by rw[hy];rfl
 have fin:∀(l:List (Str×Tok)) (tk:Nat),l.map (·.1)=Txt.split z y->(Txt.split z y).length<=sizeLine->EP X pins σ Q (.ref s.heap.objs.size) { s with toks:=tk,heap:=s.heap.push { cls:=.type "list",data:=.seq (strValues l).toArray } }:=fun l tk e hl=>by
  refine⟨.ref s.heap.objs.size,_,I.lnew (t':=tk) (ys:=(Txt.split z y).map V.str) ?_ (by rw[x0];exact hl),rfl,q _ I.fresh⟩
  rw[<-e]
  exact zba l
 cases h1:(decide (z.length<y.length)||decide (Builtin.Str.strKind z<Builtin.Str.strKind y))
 .cases hf:(Builtin.Str.occurrences z y 0 z.length (z.length+1)).isEmpty
  .have e:Txt.split z y=Builtin.Str.partsBetween z (Builtin.Str.occurrences z y 0 z.length (z.length+1)) y.length:=(if_neg (ne_true_of_eq_false h1)).trans (if_neg (ne_true_of_eq_false hf))
   refine call_meets F.slot_str_split (typeIs_str _ _ _) F.entry_str_split (F.args_str_split_2 _ _) (meets_str_split_sep z y t t' h1 hy0 hf (by omega) hn) ?_
   show wants _ _ _ { s with toks:=_,heap:=s.heap.push { cls:=.type "list",data:=.seq (strsFrom s.toks (Builtin.Str.partsBetween z (Builtin.Str.occurrences z y 0 z.length (z.length+1)) y.length)).toArray } }
   rw[strsFrom_eq]
   exact fin (numbered s.toks _) _ ((numbered_texts _ _).trans e.symm) (by rw[e];exact hn)
  .have e:Txt.split z y=[z]:=(if_neg (ne_true_of_eq_false h1)).trans (if_pos hf)
   exact call_meets F.slot_str_split (typeIs_str _ _ _) F.entry_str_split (F.args_str_split_2 _ _) (meets_str_split_not_found z y t t' h1 hy0 hf) (fin [(z,t)] s.toks e.symm (by rw[e];show 1<=sizeLine;decide))
 .have e:Txt.split z y=[z]:=if_pos h1
  exact call_meets F.slot_str_split (typeIs_str _ _ _) F.entry_str_split (F.args_str_split_2 _ _) (meets_str_split_cannot_occur z y t t' h1) (fin [(z,t)] s.toks e.symm (by rw[e];show 1<=sizeLine;decide))
theorem zbb:∀bs:List Bool,(List.range bs.length).all (fun j=>bs.getD j true)=bs.all id
 |[]=>rfl
 |b::bs=>by
  show(List.range (bs.length+1)).all _=_
  rw[List.range_succ_eq_map,List.all_cons,List.all_map,List.all_cons]
  show(b&&(List.range bs.length).all fun j=>bs.getD j true)=_
  rw[zbb bs]
  rfl
theorem z5f(hc:X.calm=true):CallR X (.builtin "all") (fun xs H Q=>∃ p bs,xs=[.ref p]/\SqL X.K H p ((bs:List Bool).map V.bl)/\Q (.bl (bs.all id)) H):=by
  intro pins s σ H xs us Q I r h
  obtain⟨p,bs,rfl,hp,q⟩:=h
  obtain⟨u,rfl,ru⟩:=z58 r
  cases ru
  obtain⟨its,r1,p1,_⟩:=I.list hp
  have hl:=r1.length
  rw[x0]at hl
  refine call_all_walk (wpAny_pyIter_list p1.isList ?_)
  obtain⟨ol,n,hol,hcl,hdl,hsl⟩:=id p1
  have hne:p≠s.heap.objs.size:=xy (xl hol)
  refine⟨s.heap.objs.size,[s.heap.objs.size,p],[s.heap.objs.size],its.toArray.size,_,_,fun j=>bs.getD j true,rfl,Walks.list (by exact I.ok.hd hc) s.heap.objs.size p hne its.toArray,
    ⟨⟨_,xu _ rfl,rfl,rfl⟩,⟨ol,xf _ hol,hcl,n,hsl⟩⟩,?_,fun h' tk k=>?_⟩
  · intro j v s' Q' E' hv hq
    have hv:its.toArray[j]? =some v:=hv
    have e0:its[j]? =some v:=by simpa using hv
    have hj:j<its.length:=(xg.mp e0).1
    have e1:(bs.map V.bl)[j]? =some (V.bl (bs.getD j true)):=by
      rw[xc,xn,x6 (by omega)]
      rfl
    obtain⟨w,q1,rw'⟩:=r1.get e1
    rw[e0]at q1
    cases q1
    cases rw'
    exact wpAny_truthy_bool hq
  . have e:(List.range its.toArray.size).all (fun j=>bs.getD j true)=bs.all id:=by
      rw[xr,<-hl]
      exact zbb bs
    rw[e]
    have I2:Inv X pins σ H { s with heap:=h',toks:=tk }:=by
     refine I.kept (t':=tk) (h':=h') fun b o e=>k b o ?_ (xf _ e)
     intro z
     have:b=s.heap.objs.size:=by simpa using z
     exact absurd (xl e) (by rw[this];exact x0r _)
    exact⟨.bl _,H,I2,rfl,q⟩
theorem z13:CallR X (.builtin "isinstance") (fun xs H Q=>∃ x c t b,xs=[x,.ty c]/\TyOf X.K H x t/\PySem.W.kitOne X.K t (.type c)=some b/\Q (.bl b) H):=by
 intro pins s σ H xs us Q I r h
 obtain⟨x,c,t,b,rfl,ty,e,q⟩:=h
 obtain⟨u,w',rfl,r1,r2⟩:=zfu r
 cases r2
 exact zhl I r1 ty e fun tk=>⟨.bl b,H,I.tok _,rfl,q⟩
end
theorem z3g(K:PySem.W.Frag):PySem.W.kitOne K (.type "bool") (.type "bool")=some true:=by with_unfolding_all rfl
theorem z3p(K:PySem.W.Frag):PySem.W.kitOne K (.type "int") (.type "bool")=some false:=by with_unfolding_all rfl
end L2
end
section
namespace L2
open PySem PySem.Spec PyProof.Rows
noncomputable def Def(K:PySem.W.Frag)(mg:Str->Option Value)(x:Str)(st:Stmt)(ps:List Str):Prop:=∃f fd,Fun K x x st f fd/\mg x=some (.ref f)/\Binds K fd ps []
noncomputable def Has(P:Program)(w:World)(K:PySem.W.Frag)(mg:Str->Option Value)(base:Heap)(k:Nat)(x:Str)(ps:List Str)(sp:Sp):Prop:=
 ∃f fd,FnOk P w K mg base CX0 k f fd ps sp/\mg x=some (.ref f)/\PySem.W.keepIn K (.ref f)=true/\Binds K fd ps []/\∃oc od osl,K.lookup f=some ⟨oc,od,.func fd,osl⟩
theorem Def.ok{P:Program}{w:World}{K:PySem.W.Frag}{mg:Str->Option Value}{base:Heap}{x:Str}{st:Stmt}{N ps:List Str}{k:Nat}{sp:Sp}(D:Def K mg x st ps)(S:FnScope N ps (zh st))(len:∀vs H Q E,sp vs H Q E->vs.length=ps.length)
  (hbody:∀(f:Addr)(cdv:Value)(A:Around)(outer:List Env)(s:Shared)(H:Hp)(vs:List V)(Q:VK)(E:XK),Room k (A.deeper (envOfC x (zh st) s.heap.objs.size f cdv))->sp vs H Q E->
   ∃t,PSs (cxOf CX0 P w K mg base N x (zh st) f cdv A outer s H E).nox (z23 st) t/\t { nx:=fun _ H'=>Q .non H',rt:=Q } (start N vs) H):Has P w K mg base (k+1) x ps sp:=by
 obtain⟨f,fd,F,hm,hb⟩:=D
 exact⟨f,fd,F.ok S len (fun cdv A outer s H vs Q E hr h=>hbody f cdv A outer s H vs Q E hr h),hm,F.kp,hb,by
  obtain⟨oc,od,kV,doc,pm,an,cdv,ct,osl,rfl,lk,hcd⟩:=F.ex
  exact⟨oc,od,osl,lk⟩⟩
section
variable {X:Cx}{k:Nat}{x:Str}{ps:List Str}{sp:Sp}{e:Expr}{es:List Expr}{t:TA}{p pos:Pos}
theorem zw(G:Has X.prog X.w X.K X.mg X.base k x ps sp)(hr:Room k X.A)(hg:Gl X x)(ha:PA X (e::es) t)(hdb:(x==("__debug__":Str))=false:=by decide)(he:starEach (e::es) X.env=(false,eval e X.env)::starEach es X.env:=by rfl)(hpl:(backTo pos (starEach es X.env)).any (·.1)=false:=by rfl):
  PE X (.Call (.Name x p) (e::es) [] pos) (zc6 sp [] E0 t):=by
 obtain⟨f,fd,F,hm,hk,hb,_⟩:=G
 exact zkv F hr hg hm hk hb .nil z9d ha hdb he hpl
end
noncomputable def z59(H:Hp)(Q:VK)(v:V):Prop:=∀H',Same H H'->Q v H'
end L2
namespace L2
open PySem PySem.Spec PyProof.Rows
theorem Has.at{P:Program}{w:World}{K:PySem.W.Frag}{mg:Str->Option Value}{base:Heap}{k:Nat}{x:Str}{ps:List Str}{sp:Sp}{st:Stmt}{f:Addr}{fd:FuncData}(G:Has P w K mg base k x ps sp)(hm:mg x=some (.ref f))(F:Fun K x x st f fd):FnOk P w K mg base CX0 k f fd ps sp:=by
 obtain⟨f',fd',FO,hm',hk,hb,oc',od',osl',lk'⟩:=G
 have e:=hm'.symm.trans hm
 cases e
 obtain⟨oc,od,kV,doc,pm,an,cdv,ct,osl,rfl,lk,hcd⟩:=F.ex
 rw[lk]at lk'
 have e2:=xq lk'
 injection e2 with _ _ e3 _
 injection e3 with e4
 rw[e4]
 exact FO
end L2
namespace L2
open PySem PySem.Spec PyProof.Rows
theorem zg4{n:Nat}(h:n<=1000000):n+2<=sizeLine:=by rw[sizeLine_eq];omega
theorem zf{n:Nat}(h:n<=1000000):n<=sizeLine:=by rw[sizeLine_eq];omega
theorem z84{z y:Str}{H:Hp}{Q:VK}(hy:y.length=1)(hz:z.length<=1000000)(h:∀p,H p=none->Q (.ref p) (upd H p (.lst ((Txt.split z y).map V.str)))):zhw (.str z) [.str y] H Q:=
 ⟨z,y,rfl,rfl,hy,zg4 hz,h⟩
theorem z2o(l:List Str):(l.map V.str).all z2k=true:=by
 rw[List.all_eq_true]
 intro x hx
 obtain⟨a,_,rfl⟩:=xw.mp hx
 rfl
theorem z9f(xs:List V)(n:Nat):cutV xs none (some (n:Int))=xs.take n:=by
 have e:HT.sIx xs.length xs.length (some (n:Int))=min n xs.length:=by
  unfold HT.sIx
  simp
  try omega
 have e0:HT.sIx xs.length 0 none=0:=rfl
 unfold cutV
 rw[e,e0]
 simp
theorem Same.upd{H:Hp}{p:Addr}{o:HO}(h:H p=none):Same H (upd H p o):=fun b u e=>by
 rw[zb (ze e h)]
 exact e
end L2
namespace L2
open PySem PySem.Spec PyProof.Rows
noncomputable def zg5(J:It)(g:TG)(tb:TS)(D:Ends)(σ:St)(H:Hp):Prop:=∃W:Nat->Nat->St->Hp->Prop,(∃m,W 0 m σ H)/\∀i m σ H,W i m σ H->
 (J.stop i H/\D.nx σ H)\/(J.go i H/\∃N:St->Hp->Prop,(∀σ' H',N σ' H'->∃m',m'<m/\W (i+1) m' σ' H')/\∀x H',J.yld i H x H'->g x σ H' fun σ2 H2=>tb { D with nx:=N,ct:=N,bk:=D.nx } σ2 H2)
theorem zcl(wi:TI)(g:TG)(tb:TS)(D:Ends)(σ:St)(H:Hp):tFor wi g tb D σ H=wi σ H fun J H1=>zg5 J g tb D σ H1:=rfl
theorem zbc(ta:TA)(σ:St)(H:Hp)(R:It->Hp->Prop):zfs ta σ H R=ta σ H fun vs H1=>∃j:Int,vs=[.int j]/\(-(2 ^ 62)<=j/\j<2 ^ 62)/\R (Itr 0 j.toNat) H1:=by
 unfold zfs
 simp only[and_assoc]
theorem zbd(ta:TA)(σ:St)(H:Hp)(R:It->Hp->Prop):zkg ta σ H R=ta σ H fun vs H1=>∃i j:Int,vs=[.int i,.int j]/\(-(2 ^ 62)<=i/\i<2 ^ 62/\ -(2 ^ 62)<=j/\j<2 ^ 62)/\R (Itr i (j-i).toNat) H1:=rfl
theorem z5g{lo:Int}{n:Nat}{g:TG}{tb:TS}{D:Ends}{σ:St}{H:Hp}(sp:Nat->St->Hp->Prop)(h0:sp 0 σ H)
  (hs:∀(Pv:Nat->St->Hp->Prop),(∀i σ H,sp i σ H->Pv i σ H)->∀i σ H,i<n->sp i σ H->g (.int (lo+i)) σ H fun σ2 H2=>tb { D with nx:=Pv (i+1),ct:=Pv (i+1),bk:=D.nx } σ2 H2) (hd:∀σ H,sp n σ H->D.nx σ H):zg5 (Itr lo n) g tb D σ H:=
 zhg sp h0 (hs sp fun _ _ _ h=>h) hd
theorem z1b{K:PySem.W.Frag}{a:Addr}{xs:List V}{g:TG}{tb:TS}{D:Ends}{σ:St}{H:Hp}(sp:Nat->St->Hp->Prop)(h0:sp 0 σ H)(hl:∀i σ H,i<=xs.length->sp i σ H->SqL K H a xs)
  (hs:∀(Pv:Nat->St->Hp->Prop),(∀i σ H,sp i σ H->Pv i σ H)->∀i x σ H,xs[i]? =some x->sp i σ H->g x σ H fun σ2 H2=>tb { D with nx:=Pv (i+1),ct:=Pv (i+1),bk:=D.nx } σ2 H2) (hd:∀σ H,sp xs.length σ H->D.nx σ H):zg5 (Itl K a) g tb D σ H:=
 zjd sp h0 hl (hs sp fun _ _ _ h=>h) hd
theorem zbe(wi:TI)(tc:TT)(te:TE)(js:List Nat)(σ:St)(H:Hp)(Q:VK):zg3 wi tc te js σ H Q=wi σ H fun J H1=>z49 J tc te js σ H1 Q:=rfl
noncomputable def Nx(n:Nat)(Pv:Nat->List V->Hp->Prop)(i:Nat)(acc:List V)(H:Hp):Prop:=∃m',m'<n-i/\m'=n-(i+1)/\i+1<=n/\Pv (i+1) acc H
theorem nx{n:Nat}{Pv:Nat->List V->Hp->Prop}{i:Nat}{acc:List V}{H:Hp}(hi:i<n)(h:Pv (i+1) acc H):Nx n Pv i acc H:=⟨n-(i+1),by omega,rfl,hi,h⟩
theorem z9g{J:It}{tc:TT}{te:TE}{js:List Nat}{σ:St}{H1:Hp}{Q:VK}(n:Nat)(hn:n<=sizeLine)(Pv:Nat->List V->Hp->Prop)(h0:Pv 0 [] H1)(hlen:∀i acc H,Pv i acc H->acc.length<=i)
  (hgo:∀i acc H,i<n->Pv i acc H->J.go i H) (hstop:∀acc H,Pv n acc H->J.stop n H)
  (hs:∀i acc H x H',i<n->Pv i acc H->J.yld i H x H'->tc (some x::capt σ js) H' fun b H2=>if b=true then te (some x::capt σ js) H2 fun v H3=>Nx n Pv i (acc++[v]) H3 else Nx n Pv i acc H2)
  (hd:∀acc H,Pv n acc H->∀p,H p=none->Q (.ref p) (upd H p (.lst acc))):z49 J tc te js σ H1 Q:=by
 refine⟨fun i m acc H=>m=n-i/\i<=n/\Pv i acc H,⟨n,by simp,x03 _,h0⟩,?_⟩
 rintro i m acc H ⟨rfl,hi,p⟩
 by_cases hlt:i<n
 .exact .inr ⟨hgo i acc H hlt p,by have:=hlen i acc H p;omega,fun x H' y=>hs i acc H x H' hlt p y⟩
 .have e:i=n:=by omega
  subst e
  exact .inl ⟨hstop acc H p,hd acc H p⟩
theorem zbq{lo:Int}{n:Nat}{tc:TT}{te:TE}{js:List Nat}{σ:St}{H1:Hp}{Q:VK}(hn:n<=sizeLine)(Pv:Nat->List V->Hp->Prop)(h0:Pv 0 [] H1)(hlen:∀i acc H,Pv i acc H->acc.length<=i)
  (hs:∀i acc H,i<n->Pv i acc H->tc (some (.int (lo+i))::capt σ js) H fun b H2=>if b=true then te (some (.int (lo+i))::capt σ js) H2 fun v H3=>Nx n Pv i (acc++[v]) H3 else Nx n Pv i acc H2)
  (hd:∀acc H,Pv n acc H->∀p,H p=none->Q (.ref p) (upd H p (.lst acc))):z49 (Itr lo n) tc te js σ H1 Q:=by
 refine z9g n hn Pv h0 hlen (fun i acc H hi p=>hi) (fun acc H p=>xk _) (fun i acc H x H' hi p y=>?_) hd
 obtain⟨e,y⟩:=y
 subst e y
 exact hs i acc H' hi p
theorem zcm{K:PySem.W.Frag}{a:Addr}{xs:List V}{tc:TT}{te:TE}{js:List Nat}{σ:St}{H1:Hp}{Q:VK}(hn:xs.length<=sizeLine)(Pv:Nat->List V->Hp->Prop)(h0:Pv 0 [] H1)(hlen:∀i acc H,Pv i acc H->acc.length<=i)(hl:∀i acc H,Pv i acc H->SqL K H a xs)
  (hs:∀i acc H x,xs[i]? =some x->i<xs.length->Pv i acc H->tc (some x::capt σ js) H fun b H2=>if b=true then te (some x::capt σ js) H2 fun v H3=>Nx xs.length Pv i (acc++[v]) H3 else Nx xs.length Pv i acc H2)
  (hd:∀acc H,Pv xs.length acc H->∀p,H p=none->Q (.ref p) (upd H p (.lst acc))):z49 (Itl K a) tc te js σ H1 Q:=by
 refine z9g xs.length hn Pv h0 hlen (fun i acc H hi p=>⟨xs,xs[i],hl i acc H p,by simp[hi]⟩) (fun acc H p=>⟨xs,hl _ acc H p,xk _⟩) (fun i acc H x H' hi p y=>?_) hd
 obtain⟨e,y⟩:=y
 subst e
 exact hs i acc H' x (y xs (hl i acc H' p)) hi p
theorem z34{lo:Int}{n:Nat}{tc:TT}{te:TE}{js:List Nat}{σ:St}{H1:Hp}{Q:VK}(hn:n<=sizeLine)(sp:Nat->List V->Hp->Prop)(h0:sp 0 [] H1)(hlen:∀i acc H,sp i acc H->acc.length<=i)
  (hs:∀(Nt:List V->Hp->Prop) i acc H,(∀acc H,sp (i+1) acc H->Nt acc H)->i<n->sp i acc H->tc (some (.int (lo+i))::capt σ js) H fun b H2=>if b=true then te (some (.int (lo+i))::capt σ js) H2 fun v H3=>Nt (acc++[v]) H3 else Nt acc H2)
  (hd:∀acc H,sp n acc H->∀p,H p=none->Q (.ref p) (upd H p (.lst acc))):z49 (Itr lo n) tc te js σ H1 Q:=
 zbq hn sp h0 hlen (fun i acc H hi p=>hs (Nx n sp i) i acc H (fun _ _ h=>nx hi h) hi p) hd
theorem z1d{K:PySem.W.Frag}{a:Addr}{xs:List V}{tc:TT}{te:TE}{js:List Nat}{σ:St}{H1:Hp}{Q:VK}(hn:xs.length<=sizeLine)(sp:Nat->List V->Hp->Prop)(h0:sp 0 [] H1)(hlen:∀i acc H,sp i acc H->acc.length<=i)(hl:∀i acc H,sp i acc H->SqL K H a xs)
  (hs:∀(Nt:List V->Hp->Prop) i acc H x,(∀acc H,sp (i+1) acc H->Nt acc H)->xs[i]? =some x->i<xs.length->sp i acc H->tc (some x::capt σ js) H fun b H2=>if b=true then te (some x::capt σ js) H2 fun v H3=>Nt (acc++[v]) H3 else Nt acc H2)
  (hd:∀acc H,sp xs.length acc H->∀p,H p=none->Q (.ref p) (upd H p (.lst acc))):z49 (Itl K a) tc te js σ H1 Q:=
 zcm hn sp h0 hlen hl (fun i acc H x hx hi p=>hs (Nx xs.length sp i) i acc H x (fun _ _ h=>nx hi h) hx hi p) hd
end L2
namespace L2
open PySem PySem.Spec PyProof.Rows
noncomputable def tCut(t u:TS):TS:=fun D σ H=>∃Mid:St->Hp->Prop,t { D with nx:=Mid } σ H/\∀σ H,Mid σ H->u D σ H
theorem z3x{X:Cx}{st:Stmt}{rest:List Stmt}{t u:TS}(h1:PS X st t)(h2:PSs X rest u):PSs X (st::rest) (tCut t u):=by
 intro pins s σ H D I ⟨Mid,h,hm⟩
 refine wpAny_execs_cons (thn (h1 pins s σ H { D with nx:=Mid } I h) fun f s1 q=>?_)
 cases f with
 |next=>
  obtain⟨σ',H',I',q⟩:=q
  exact h2 pins s1 σ' H' D I' (hm σ' H' q)
 |ret v=>exact q
 |brk=>exact q
 |cont=>exact q
theorem z6a{t u:TS}{D:Ends}{σ:St}{H:Hp}(sp:St->Hp->Prop)(h1:∀Mid:St->Hp->Prop,(∀σ H,sp σ H->Mid σ H)->t { D with nx:=Mid } σ H)(h2:∀σ H,sp σ H->u D σ H):tCut t u D σ H:=⟨sp,h1 sp fun _ _ h=>h,h2⟩
theorem cdiv{i j:Int}(h1:0<j)(h2:j<1073741824):CDiv i j:=⟨h1,h2⟩
end L2
namespace L2
open PySem PySem.Spec PyProof.Rows
noncomputable def zlv(dn cn:List (Str×NameKind)):Bool:=cn.all fun y=>(y.2 != .free)||(dn.lookup y.1==some .cell)||(dn.lookup y.1==some .free)
theorem zv{X:Cx}{sc:Scope}(h:zlv X.env.scope.names sc.names=true):∀y∈sc.names,y.2=.free->X.env.kindOf y.1=some .cell\/X.env.kindOf y.1=some .free:=by
 intro y hy hf
 have:=List.all_eq_true.mp h y hy
 rw[hf]at this
 simp at this
 exact this
end L2
end
section
namespace L2
open PySem PySem.Spec PyProof.Rows
theorem ObjOk.here{P:Program}{w:World}{H:Hp}{h:Heap}{a:Addr}{o:HO}(x:ObjOk P w H h a o):∃ob,h.get? a=some ob:=by
 cases o with
 |lst xs=>obtain⟨_,_,_,_,e⟩:=x;exact⟨_,e⟩
 |tup xs=>obtain⟨_,_,_,ob,e,_⟩:=x;exact⟨_,e⟩
 |dK kvs=>obtain⟨_,_,_,_,ob,_,_,e,_⟩:=x;exact⟨_,e⟩
 |dT kvs=>obtain⟨_,_,_,_,ob,_,_,e,_⟩:=x;exact⟨_,e⟩
 |set S n=>obtain⟨ob,_,_,_,e,_⟩:=x;exact⟨_,e⟩
 |ins C dx fs=>obtain⟨_,_,_,e,_⟩:=x;exact⟨_,e⟩
 |own y=>obtain⟨ob,e⟩:=x;exact⟨_,e⟩
 |xd fs=>obtain⟨_,⟨ob,_,_,e,_⟩,_⟩:=x;exact⟨_,e⟩
 |rng lo hi=>obtain⟨_,_,_,e⟩:=x;exact⟨_,e⟩
 |frz ob u=>obtain⟨e,_⟩:=x;exact⟨_,e⟩
 |tbl ps=>exact⟨_,(show h.get? a=some _ from x)⟩
 |met f y=>exact⟨_,(show h.get? a=some _ from x)⟩
 |ext φ=>obtain⟨_,⟨ob,e⟩,_⟩:=x;exact⟨_,e⟩
theorem zaa{P:Program}{w:World}{H:Hp}{B h h':Heap}(k:B.StaysIn h)(k':B.StaysIn h')(tr:∀b u,H b=some u->∃o,B.get? b=some o)(ok:HOk P w H h):HOk P w H h':=fun a o e=>
 (ok a o e).stay (fun b u hb q=>by
  have hbt:∃v,H b=some v:=by
   rcases hb with z|z
   .exact⟨o,by rw[z];exact e⟩
   .exact⟨_,z⟩
  obtain⟨v,hv⟩:=hbt
  obtain⟨ob,hob⟩:=tr b v hv
  have:=k b ob hob
  rw[q]at this
  cases this
  exact k' b u hob) (fun _ q=>q) fun _ _ q=>q
theorem zhx{fs:List Addr}{H H':Hp}{g B h h':Heap}(k:B.StaysIn h)(k':B.StaysIn h')(hfr:∀b∈fs,∃o,h.get? b=some o/\∀vs,o.data≠.fields vs)(up:h.UpToSlots h')
  (old:∀b o,g.get? b=some o->b∉fs->∃o',B.get? b=some o') (u:Un fs [] H H' g h):Un fs [] H H' g h' where
 keep:=fun b o q n hb hx=>by
  obtain⟨ob,hob⟩:=old b o q hb
  have e1:=u.keep b o q n hb hx
  have e2:=k b ob hob
  rw[e1]at e2
  cases e2
  exact k' b o hob
 slot:=fun b o q n hb hx=>by
  obtain⟨sl,e1⟩:=u.slot b o q n hb hx
  obtain⟨o2,e2,d2⟩:=hfr b hb
  rw[e1]at e2
  cases e2
  obtain⟨sl',e3⟩:=up b _ e1 d2
  exact⟨sl',e3⟩
 free:=u.free
 there:=fun b o q hx=>by
  by_cases hb:b∈fs
  .obtain⟨o2,e2,d2⟩:=hfr b hb
   obtain⟨sl',e3⟩:=up b _ e2 d2
   exact⟨_,e3⟩
  .obtain⟨ob,hob⟩:=old b o q hb
   exact⟨ob,k' b ob hob⟩
 tups:=u.tups
 frzs:=u.frzs
 tbls:=u.tbls
noncomputable def CX1(P:Program)(w:World):CXT:=fun outer H s E e s'=>∃(x C t:Addr)(B:Heap)(H':Hp),e=.ref x/\s'.os=s.os/\AllBare s'.gens/\Un (frs outer) [] H H' s.heap s'.heap/\HOk P w H' s'.heap/\
 Heap.FlyingW B outer x (.ref C) (.ref t) s'.heap/\(∀b u,H' b=some u->∃o,B.get? b=some o)/\(∀b o,s.heap.get? b=some o->b∉frs outer->∃o',B.get? b=some o')/\E (.ref C) none H'
noncomputable def zhy(X:Cx)(E:XK):Prop:=∀(pins:List (Addr×Obj))(σ:St)(H:Hp)(s:Shared)(x C:Addr)(args:List Value)(h':Heap),Inv X pins σ H s->Heap.MadeExcOf s.heap h' x (.ref C) args->E (.ref C) none H->X.xe (.ref x) { s with heap:=h' }
section
variable {P:Program}{w:World}{K:PySem.W.Frag}{mg:Str->Option Value}{base:Heap}{N:List Str}{qual:Str}{sc:Scope}{f:Addr}{cd:Value}{A:Around}{outer:List Env}{s:Shared}{H:Hp}{E:XK}
theorem z4a:zhy (cxOf (CX1 P w) P w K mg base N qual sc f cd A outer s H E) E:=by
 intro pins σ H2 s2 x C args h' I hx hE
 have hfrm:=I.ok.frames
 have hin:∀env∈(cxOf (CX1 P w) P w K mg base N qual sc f cd A outer s H E).stack,∀a,env.frame=some a->a∈frs (cxOf (CX1 P w) P w K mg base N qual sc f cd A outer s H E).stack:=fun env he a ha=>x1o.mpr ⟨env,he,ha⟩
 have hL:(cxOf (CX1 P w) P w K mg base N qual sc f cd A outer s H E).env.locals=s.heap.objs.size:=rfl
 have nfr:∀b o,s.heap.get? b=some o->b∉frs outer->b∉frs (cxOf (CX1 P w) P w K mg base N qual sc f cd A outer s H E).stack:=fun b o q hb z=>by
  rcases xo.mp (I.stkSub b z) with e|e
  .rw[hL]at e
   exact absurd (xl q) (by rw[e];exact x0r _)
  .exact hb e
 have sub:∀b∈frs outer,b∈frs (cxOf (CX1 P w) P w K mg base N qual sc f cd A outer s H E).stack:=fun b hb=>by
  obtain⟨env,he,hf⟩:=x1o.mp hb
  exact x1o.mpr ⟨env,x09 _ he,hf⟩
 have stB:(PySem.W.hideAll s2.heap (frs (cxOf (CX1 P w) P w K mg base N qual sc f cd A outer s H E).stack)).StaysIn s2.heap:=fun b o q=>PySem.W.of_hideAll _ q
 have tr:∀b u,H2 b=some u->∃o,(PySem.W.hideAll s2.heap (frs (cxOf (CX1 P w) P w K mg base N qual sc f cd A outer s H E).stack)).get? b=some o:=fun b u q=>by
  obtain⟨ob,hob⟩:=(I.hok b u q).here
  exact⟨ob,PySem.W.hideAll_get _ hob fun z=>by rw[I.stkFree b z]at q;cases q⟩
 have old:∀b o,s.heap.get? b=some o->b∉frs outer->∃o',(PySem.W.hideAll s2.heap (frs (cxOf (CX1 P w) P w K mg base N qual sc f cd A outer s H E).stack)).get? b=some o':=fun b o q hb=>by
  obtain⟨o',e⟩:=I.base.there b o q (by simp[cxOf])
  exact⟨o',PySem.W.hideAll_get _ e (nfr b o q hb)⟩
 refine wpAny_leaves_madeW (h:=s2.heap) hfrm rfl stB (PySem.W.funFrames_hide I.stack hin) hx fun h2 t fl tp nt up=>?_
 have up2:s2.heap.UpToSlots h2:=fun b o q d=>up b o (hx.keeps b o q) d
 exact⟨x,C,t,_,H2,rfl,I.os,I.bare,zhx stB fl.1 (fun b hb=>(I.stack.mem (sub b hb)).2) up2 old I.base,zaa stB fl.1 tr I.hok,fl,tr,old,hE⟩
theorem z76:z3e (CX1 P w) (cxOf (CX1 P w) P w K mg base N qual sc f cd A outer s H E) E:=by
 intro pins σ H1 s1 e s' I hq
 obtain⟨x,C,t,B,H',rfl,os,bare,un,hok,fl,tr,old,hE⟩:=hq
 have J:Inv (cxOf (CX1 P w) P w K mg base N qual sc f cd A outer s H E) pins σ H' s':=I.call' (ch:=[]) os un hok bare (fun b z=>absurd z (by simp))
 have hL:(cxOf (CX1 P w) P w K mg base N qual sc f cd A outer s H E).env.locals=s.heap.objs.size:=rfl
 have nfr:∀b o,s.heap.get? b=some o->b∉frs outer->b∉frs (cxOf (CX1 P w) P w K mg base N qual sc f cd A outer s H E).stack:=fun b o q hb z=>by
  rcases xo.mp (I.stkSub b z) with e|e
  .rw[hL]at e
   exact absurd (xl q) (by rw[e];exact x0r _)
  .exact hb e
 have old2:∀b o,s.heap.get? b=some o->b∉frs outer->∃o',B.get? b=some o':=fun b o q hb=>by
  obtain⟨o',e⟩:=I.base.there b o q (by simp[cxOf])
  exact old b o' e (nfr b o q hb)
 have sub:∀b∈frs outer,b∈frs (cxOf (CX1 P w) P w K mg base N qual sc f cd A outer s H E).stack:=fun b hb=>by
  obtain⟨env,he,hf⟩:=x1o.mp hb
  exact x1o.mpr ⟨env,x09 _ he,hf⟩
 refine wpAny_leaves_onW I.ok.frames rfl fl fun h2 fl2 up=>?_
 exact⟨x,C,t,B,H',rfl,J.os,J.bare,zhx fl.1 fl2.1 (fun b hb=>(J.stack.mem (sub b hb)).2) up old2 J.base,zaa fl.1 fl2.1 tr J.hok,fl2,tr,old2,hE⟩
end
theorem zex{K:PySem.W.Frag}{h:Heap}{C:Addr}{bmB:List Value}{nid:String}(X:K.In h)(q:PySem.W.excIn K C bmB nid=true):
  ∃ bm N nm qn bs hd sn sub ab col dd k0 k1 k2 k3 k5 mN,h.get? C=some (excClassObj nm qn C N bs bm hd sn sub ab col dd k0 k1 k2 k3 k5 nid)/\h.Ns N mN/\mN "__init__"=none/\OwnTail h bmB bm:=by
 unfold PySem.W.excIn at q
 split at q
 case h_2=>cases q
 case h_1 dd cd sl look=>
  split at q
  case h_2=>cases q
  case h_1 C2 bm a0 a1 a2 a3 nm2 a5 hmro hslots=>
   rw[x07,x07,x07,x07,x07]at q
   obtain⟨⟨⟨⟨⟨q1,q2⟩,q3⟩,q4⟩,q5⟩,q6⟩:=q
   have e1:C2=C:=by simpa using q1
   have e2:nm2=nid:=by simpa using q2
   subst e1 e2
   obtain⟨c1,c2,c3,c4,c5,c6,c7,c8,c9,c10,c11⟩:=cd
   have e3:c11=false:=by simpa using q3
   have e4:c3=.ref C2::bm:=hmro
   have e6:sl= #[a0,a1,a2,a3,some (.builtin nm2),a5]:=Array.toList_inj.mp hslots
   rw[e3,e4,e6]at look
   exact⟨bm,_,_,_,_,_,_,_,_,_,_,_,_,_,_,_,_,X _ _ look,.of_isNs (PySem.W.isNs_of_in X q5),PySem.W.nsMap_none_of_in X q5 (by simpa using q6),PySem.W.tail_of_in X q4⟩
section
variable {X:Cx}{E:XK}{x:Str}{C:Addr}{np cpos pos:Pos}{e:Expr}{es:List Expr}{t:TA}{bmB:List Value}{B nid iid:String}
noncomputable def zcn(E:XK)(C:Addr)(t:TA):TS:=fun _ σ H=>t σ H fun xs H1=>xs.length<=sizeLine/\E (.ref C) none H1
theorem z4v(th:zhy X E)(hc:X.calm=true)(FB:ExcBaseFacts B nid iid bmB)(ex:PySem.W.excIn X.K C bmB nid=true)(hg:Gl X x)(hm:X.mg x=some (.ref C))(ha:PA X (e::es) t)
  (he:starEach (e::es) X.env=(false,eval e X.env)::starEach es X.env:=by rfl) (hpl:(backTo cpos (starEach es X.env)).any (·.1)=false:=by rfl) (hdb:(x==("__debug__":Str))=false:=by decide):
  PS X (.Raise (some (.Call (.Name x np) (e::es) [] cpos)) none pos) (zcn E C t):=by
 intro pins s σ H D I h
 obtain⟨bm,N,nm,qn,bs,hd,sn,sub,ab,col,dd,k0,k1,k2,k3,k5,mN,hC,hN,hni,T⟩:=zex I.mod.kin ex
 refine wpAny_Raise_call_subT (C:=C) (bm:=bm) (nm:=nm) (q:=qn) (N:=N) (bs:=bs) (hdct:=hd) (sn:=sn) (sub:=sub) (ab:=ab) (col:=col) (dd:=dd) (k0:=k0) (k1:=k1) (k2:=k2) (k3:=k3) (k5:=k5) FB (mN:=mN) (T.hasType FB.hasBase) (I.ok.hd hc) ?_ hni (z5r I hg hm ⟨rfl,?_⟩ hdb)
 .rw[he]
  show(false||(backTo cpos (starEach es X.env)).any (·.1))=false
  rw[hpl]
  rfl
 have hA:=ha cpos pins s σ H _ I h
 rw[he]at hA⊢
 refine Calls.evalArgs_plain (thn hA fun us s2 hq=>?_)
 obtain⟨vs,H2,I2,r2,hz,hE⟩:=hq
 exact⟨rfl,by rw[<-r2.length];exact hz,I2.bk _ _ hC,hN.keeps I2.bk,T.keeps I2.bk,fun h' ev hm'=>th pins σ H2 s2 ev C us h' I2 hm' hE⟩
end
noncomputable def MDef(K:PySem.W.Frag)(C:Addr)(m qual:Str)(st:Stmt)(ps:List Str):Prop:=∃f fd,Fun K m qual st f fd/\Meth K C m f/\Binds K fd ps []
noncomputable def MHas(P:Program)(w:World)(K:PySem.W.Frag)(mg:Str->Option Value)(base:Heap)(CX:CXT)(k:Nat)(C:Addr)(m:Str)(ps:List Str)(sp:Sp):Prop:=
 ∃f fd,FnOk P w K mg base CX k f fd ps sp/\Meth K C m f/\Binds K fd ps []
section
variable {P:Program}{w:World}{K:PySem.W.Frag}{mg:Str->Option Value}{base:Heap}
theorem Fun.okx{x qual:Str}{st:Stmt}{f:Addr}{fd:FuncData}{N ps:List Str}{k:Nat}{sp:Sp}(F:Fun K x qual st f fd)(S:FnScope N ps (zh st))(len:∀vs H Q E,sp vs H Q E->vs.length=ps.length)
  (hbody:∀(cdv:Value)(A:Around)(outer:List Env)(s:Shared)(H:Hp)(vs:List V)(Q:VK)(E:XK),Room k (A.deeper (envOfC qual (zh st) s.heap.objs.size f cdv))->sp vs H Q E->
   ∃t,PSs (cxOf (CX1 P w) P w K mg base N qual (zh st) f cdv A outer s H E) (z23 st) t/\t { nx:=fun _ H'=>Q .non H',rt:=Q } (start N vs) H):FnOk P w K mg base (CX1 P w) (k+1) f fd ps sp:=by
 obtain⟨oc,od,kV,doc,pm,an,cdv,ct,osl,rfl,lk,hcd⟩:=F.ex
 exact zfz lk hcd S len fun A outer s H vs Q E hr hsp=>hbody cdv A outer s H vs Q E hr hsp
theorem MDef.ok{C:Addr}{m qual:Str}{st:Stmt}{N ps:List Str}{k:Nat}{sp:Sp}(D:MDef K C m qual st ps)(S:FnScope N ps (zh st))(len:∀vs H Q E,sp vs H Q E->vs.length=ps.length)
  (hbody:∀(f:Addr)(cdv:Value)(A:Around)(outer:List Env)(s:Shared)(H:Hp)(vs:List V)(Q:VK)(E:XK),Room k (A.deeper (envOfC qual (zh st) s.heap.objs.size f cdv))->sp vs H Q E->
   ∃t,PSs (cxOf CX0 P w K mg base N qual (zh st) f cdv A outer s H E).nox (z23 st) t/\t { nx:=fun _ H'=>Q .non H',rt:=Q } (start N vs) H):MHas P w K mg base CX0 (k+1) C m ps sp:=by
 obtain⟨f,fd,F,hm,hb⟩:=D
 exact⟨f,fd,F.ok S len (fun cdv A outer s H vs Q E hr h=>hbody f cdv A outer s H vs Q E hr h),hm,hb⟩
theorem MDef.okx{C:Addr}{m qual:Str}{st:Stmt}{N ps:List Str}{k:Nat}{sp:Sp}(D:MDef K C m qual st ps)(S:FnScope N ps (zh st))(len:∀vs H Q E,sp vs H Q E->vs.length=ps.length)
  (hbody:∀(f:Addr)(cdv:Value)(A:Around)(outer:List Env)(s:Shared)(H:Hp)(vs:List V)(Q:VK)(E:XK),Room k (A.deeper (envOfC qual (zh st) s.heap.objs.size f cdv))->sp vs H Q E->
   ∃t,PSs (cxOf (CX1 P w) P w K mg base N qual (zh st) f cdv A outer s H E) (z23 st) t/\t { nx:=fun _ H'=>Q .non H',rt:=Q } (start N vs) H):MHas P w K mg base (CX1 P w) (k+1) C m ps sp:=by
 obtain⟨f,fd,F,hm,hb⟩:=D
 exact⟨f,fd,F.okx S len (fun cdv A outer s H vs Q E hr h=>hbody f cdv A outer s H vs Q E hr h),hm,hb⟩
end
section
variable {X:Cx}{k:Nat}{C:Addr}{m:Str}{ps:List Str}{sp:Sp}{o e:Expr}{es:List Expr}{ta:TE}{t:TA}{apos pos:Pos}
theorem z27{pl:Sem Bool}(G:MHas X.prog X.w X.K X.mg X.base CX0 k C m ps sp)(c:Cls X.K C)(hr:Room k X.A)(he:PE X o ta)(ha:PA X (e::es) t)
  (hst:starEach (e::es) X.env=(false,eval e X.env)::starEach es X.env:=by rfl) (hpl:(backTo pos (starEach es X.env)).any (·.1)=false:=by rfl)
  (ht:eval (.Call (.Attribute o m apos) (e::es) [] pos) X.env=(do
   let ov<-eval o X.env
   standAt apos.atName
   let (f,first)<-holding [ov] (getMethod ov m pl)
   callWith pos f first (backTo pos (starEach (e::es) X.env)) (backToKw pos (keywordEach [] X.env))):=by rfl):
  PE X (.Call (.Attribute o m apos) (e::es) [] pos) (z62 C m sp [] E0 ta t):=by
 obtain⟨f,fd,F,hm,hb⟩:=G
 exact zev he c hm F hr hb .nil z9d ha hst hpl ht
theorem z4r{pl:Sem Bool}(G:MHas X.prog X.w X.K X.mg X.base CX0 k C m ps sp)(c:Cls X.K C)(hr:Room k X.A)(he:PE X o ta)
  (ht:eval (.Call (.Attribute o m apos) [] [] pos) X.env=(do
   let ov<-eval o X.env
   standAt apos.atName
   let (f,first)<-holding [ov] (getMethod ov m pl)
   callWith pos f first (backTo pos (starEach [] X.env)) (backToKw pos (keywordEach [] X.env))):=by rfl):
  PE X (.Call (.Attribute o m apos) [] [] pos) (z62 C m sp [] E0 ta tNil):=by
 obtain⟨f,fd,F,hm,hb⟩:=G
 exact zjh he c hm F hr hb .nil z9d ht
end
noncomputable def Mine(X:Cx)(pins:List (Addr×Obj))(b:Addr):Prop:=(∃o,X.s₀.heap.get? b=some o)\/b=X.env.locals\/(∃y,X.env.cells.lookup y=some b)\/∃p∈X.pn++pins,p.1=b
structure Fly(X:Cx)(pins:List (Addr×Obj))(σ:St)(H:Hp)(s:Shared)(x C t:Addr)(B:Heap):Prop where
 inv:Inv X pins σ H s
 fly:Heap.FlyingW B X.stack x (.ref C) (.ref t) s.heap
 tr:∀b u,H b=some u->∃o,B.get? b=some o
 mine:∀b,Mine X pins b->b∈frs X.stack\/∃o,B.get? b=some o
noncomputable def XP(X:Cx)(pins:List (Addr×Obj))(σ:St)(Ex:XK)(ev:Value)(s':Shared):Prop:=∃x C t B H',ev=.ref x/\Fly X pins σ H' s' x C t B/\Ex (.ref C) none H'
theorem Inv.mine{X:Cx}{pins:List (Addr×Obj)}{σ:St}{H:Hp}{s:Shared}(I:Inv X pins σ H s)(hx:X.ex=[]){b:Addr}(h:Mine X pins b):∃o,s.heap.get? b=some o:=by
 rcases h with⟨o,h⟩|h|⟨y,h⟩|⟨p,hp,h⟩
 .exact I.base.there b o h (by rw[hx];simp)
 .obtain⟨m,⟨o,_,_,e,_⟩,_⟩:=I.loc
  exact⟨o,by rw[h];exact e⟩
 .obtain⟨v,o,e,_⟩:=I.cell y b h
  exact⟨o,e⟩
 .exact⟨_,by rw[<-h];exact(I.pin p hp).1⟩
theorem zlw{X:Cx}{pins:List (Addr×Obj)}{σ:St}{H:Hp}{s s':Shared}{E:XK}{ev:Value}(hx:X.ex=[])(I:Inv X pins σ H s)(q:CX1 X.prog X.w X.stack H s E ev s'):XP X pins σ E ev s':=by
 obtain⟨x,C,t,B,H',rfl,os,bare,un,hok,fl,tr,old,hE⟩:=q
 refine⟨x,C,t,B,H',rfl,⟨I.call' (ch:=[]) os un hok bare (fun b z=>absurd z (by simp)),fl,tr,fun b hb=>?_⟩,hE⟩
 obtain⟨o,e⟩:=I.mine hx hb
 by_cases hf:b∈frs X.stack
 .exact .inl hf
 .exact .inr (old b o e hf)
theorem Fly.on{X:Cx}{pins:List (Addr×Obj)}{σ:St}{H:Hp}{s:Shared}{x C t:Addr}{B:Heap}{h':Heap}(F:Fly X pins σ H s x C t B)(fl:Heap.FlyingW B X.stack x (.ref C) (.ref t) h')(up:s.heap.UpToSlots h'):Fly X pins σ H { s with heap:=h' } x C t B:=by
 have I:=F.inv
 refine⟨?_,fl,F.tr,F.mine⟩
 have slotF:∀b o,b∈frs X.stack->s.heap.get? b=some o->∃sl,h'.get? b=some { o with slots:=sl }:=fun b o hb q=>by
  obtain⟨_,o2,e2,d2⟩:=I.stack.mem hb
  rw[q]at e2
  cases e2
  exact up b _ q d2
 have at':∀b o,Mine X pins b->b∉frs X.stack->s.heap.get? b=some o->h'.get? b=some o:=fun b o hm hb q=>by
  rcases F.mine b hm with z|⟨ob,z⟩
  .exact absurd z hb
  .have:=F.fly.1 b ob z
   rw[q]at this
   cases this
   exact fl.1 b o z
 have any':∀b o,Mine X pins b->s.heap.get? b=some o->∃sl,h'.get? b=some { o with slots:=sl }:=fun b o hm q=>by
  by_cases hb:b∈frs X.stack
  .exact slotF b o hb q
  .exact⟨o.slots,at' b o hm hb q⟩
 have cellK:∀y c,X.env.cells.lookup y=some c->∀v,s.heap.IsCell c v->h'.IsCell c v:=fun y c e v ⟨o,ho,hd⟩=>by
  obtain⟨sl,q⟩:=any' c o (.inr (.inr (.inl ⟨y,e⟩))) ho
  exact⟨_,q,hd⟩
 refine⟨I.ok,I.os,I.bare,⟨fun b o e n hb hx=>?_,fun b o e n hb hx=>?_,I.base.free,fun b o e hx=>?_,I.base.tups,I.base.frzs,I.base.tbls⟩,?_,fun y c e=>?_,I.free,I.freeC,fun p hp=>?_,zaa F.fly.1 fl.1 F.tr I.hok,I.len⟩
 .have q:=I.base.keep b o e n hb hx
  by_cases hf:b∈frs X.stack
  .rcases xo.mp (I.stkSub b hf) with z|z
   .exact absurd (xt (xl e) I.ok.above) (by rw[z];exact x0r _)
   .exact absurd z hb
  .exact at' b o (.inl ⟨o,e⟩) hf q
 .obtain⟨sl,q⟩:=I.base.slot b o e n hb hx
  obtain⟨sl',q'⟩:=any' b _ (.inl ⟨o,e⟩) q
  exact⟨sl',q'⟩
 .obtain⟨o',q⟩:=I.base.there b o e hx
  obtain⟨sl',q'⟩:=any' b _ (.inl ⟨o,e⟩) q
  exact⟨_,q'⟩
 .obtain⟨m,⟨o,es,ep,ho,r⟩,hl⟩:=I.loc
  obtain⟨sl,q⟩:=any' _ o (.inr (.inl rfl)) ho
  refine⟨m,⟨_,es,ep,q,r⟩,fun i y v e1 e2 e3=>?_⟩
  obtain⟨u,ru,l⟩:=hl i y v e1 e2 e3
  refine⟨u,ru,?_⟩
  rcases l with l|⟨k,c,e,z⟩
  .exact .inl l
  .exact .inr ⟨k,c,e,cellK y c e _ z⟩
 .obtain⟨v,z⟩:=I.cell y c e
  exact⟨v,cellK y c e v z⟩
 .obtain⟨e,n,ne,nf,d⟩:=I.pin p hp
  refine⟨?_,n,ne,nf,d⟩
  by_cases hf:p.1∈frs X.stack
  .rcases xo.mp (I.stkSub p.1 hf) with z|z
   .exact absurd z ne
   .exact absurd z nf
  .exact at' p.1 p.2 (.inr (.inr (.inr ⟨p,hp,rfl⟩))) hf e
end L2
end
section
namespace L2
open PySem PySem.Spec PyProof.Rows
noncomputable abbrev TEX:=St->Hp->VK->XK->Prop
noncomputable def PEX(X:Cx)(e:Expr)(t:TEX):Prop:=
 ∀(pins:List (Addr×Obj))(s:Shared)(σ:St)(H:Hp)(Q:VK)(Ex:XK),Inv X pins σ H s->t σ H Q Ex->wpAny (model X.prog X.w) X.A (eval e X.env) (EP X pins σ Q) (XP X pins σ Ex) s
noncomputable abbrev TSX:=Ends->XK->St->Hp->Prop
noncomputable def PSX(X:Cx)(st:Stmt)(t:TSX):Prop:=
 ∀(pins:List (Addr×Obj))(s:Shared)(σ:St)(H:Hp)(D:Ends)(Ex:XK),Inv X pins σ H s->t D Ex σ H->wpAny (model X.prog X.w) X.A (exec st X.env) (SP X pins D) (XP X pins σ Ex) s
section
variable {X:Cx}{k:Nat}{C:Addr}{m:Str}{ps:List Str}{sp:Sp}{o e:Expr}{es:List Expr}{ta:TE}{t:TA}{tx:TEX}{apos pos:Pos}
theorem zlx{pins:List (Addr×Obj)}{σ:St}{H:Hp}{s:Shared}{Q:VK}{Ex:XK}{us:List Value}{vs:List V}{f:Addr}{fd:FuncData}(hx:X.ex=[])(F:FnOk X.prog X.w X.K X.mg X.base (CX1 X.prog X.w) k f fd ps sp)(hr:Room k X.A)(hb:Binds X.K fd ps [])
  (I:Inv X pins σ H s) (r:Vals vs us) (h:sp vs H Q Ex):wpAny (model X.prog X.w) X.A (call (.ref f) us) (EP X pins σ Q) (XP X pins σ Ex) s:=by
 have hl:(us++[]).length=ps.length:=by rw[x0l,<-r.length];exact F.len _ _ _ _ h
 have hB:=hb s us I.kIn hl
 rw[x0l]at hB
 refine wpAny_call (codeAny_mono (F.run X.A X.stack s H ⟨us,[]⟩ us vs Q Ex hr I.env0 hB r h) fun res s' hq=>?_)
 cases res with
 |error e=>exact zlw hx I hq
 |ok fl=>
  cases fl with
  |ret u=>exact I.after hq
  |next=>exact hq.elim
  |brk=>exact hq.elim
  |cont=>exact hq.elim
noncomputable def zco(C:Addr)(m:Str)(sp:Sp)(ta:TE)(t:TA):TEX:=fun σ H Q Ex=>ta σ H fun x H1=>∃a dx fs,x=.ref a/\H1 a=some (.ins C dx fs)/\fs.lookup m=none/\t σ H1 fun vs H2=>sp (x::vs) H2 Q Ex
theorem zly{pl:Sem Bool}(G:MHas X.prog X.w X.K X.mg X.base (CX1 X.prog X.w) k C m ps sp)(c:Cls X.K C)(hr:Room k X.A)(he:PE X.nox o ta)(ha:PA X.nox (e::es) t)(hx:X.ex=[]:=by rfl)
  (hst:starEach (e::es) X.env=(false,eval e X.env)::starEach es X.env:=by rfl) (hpl:(backTo pos (starEach es X.env)).any (·.1)=false:=by rfl)
  (ht:eval (.Call (.Attribute o m apos) (e::es) [] pos) X.env=(do
   let ov<-eval o X.env
   standAt apos.atName
   let (f,first)<-holding [ov] (getMethod ov m pl)
   callWith pos f first (backTo pos (starEach (e::es) X.env)) (backToKw pos (keywordEach [] X.env))):=by rfl):
  PEX X (.Call (.Attribute o m apos) (e::es) [] pos) (zco C m sp ta t):=by
 obtain⟨f,fd,F,hm,hb⟩:=G
 intro pins s σ H Q Ex I h
 refine PySem.W.methodCall_KW (pl:=pl) (x0f (he pins s σ H _ (I.wish _) h) (fun u s1 hq=>?_) fun _ _ z=>z.elim) ht
 obtain⟨x,H1,I1,rx,a,dx,fs,ex,ea,l,q⟩:=hq
 have I1:=I1.unwish
 subst ex
 obtain rfl:u=Value.ref a:=rx
 refine z61 I1 ea c hm l ?_
 refine PySem.W.callWith_K (first:=[.ref a]) (h₀:=X.base) I.ok.mod.kin hm.kp (x0f (ha pos pins s1 σ H1 _ (I1.wish _) q) (fun us s2 hq2=>?_) fun _ _ z=>z.elim) hst hpl
 obtain⟨vs,H2,I2,r,q2⟩:=hq2
 have I2:=I2.unwish
 exact⟨I2.kIn,zlx (us:=.ref a::us) (vs:=.ref a::vs) hx F hr hb I2 (.cons rfl r) q2⟩
theorem zl2(h:PEX X e tx):PSX X (.Return (some e) pos) (fun D Ex σ H=>tx σ H D.rt Ex):=by
 intro pins s σ H D Ex I hw
 refine wpAny_Return_some (x0f (h pins s σ H _ Ex I hw) (fun v s1 hq=>?_) fun _ _ z=>z)
 obtain⟨x,H1,I1,r1,q1⟩:=hq
 exact⟨x,σ,H1,I1,r1,q1⟩
end
noncomputable abbrev z77(X:Cx)(ev:Value):Cx:={ X with A:=X.A.mark (some ev),calm:=false,xe:=fun _ _=>False }
theorem Inv.mark{X:Cx}{pins:List (Addr×Obj)}{σ:St}{H:Hp}{s:Shared}(I:Inv X pins σ H s)(ev:Value):Inv (z77 X ev) pins σ H s:=
 ⟨⟨I.ok.mod,I.ok.kind,I.ok.glob,I.ok.blt,I.ok.above,I.ok.inj,I.ok.has,I.ok.cab,fun z=>absurd z xa,I.ok.frames,I.ok.stk,I.ok.exf,I.ok.bs,I.ok.bsz,I.ok.noex,I.ok.exfs,I.ok.funs,I.ok.frf⟩,I.os,I.bare,I.base,I.loc,I.cell,I.free,I.freeC,I.pin,I.hok,I.len⟩
theorem Inv.unmark{X:Cx}{ev:Value}{pins:List (Addr×Obj)}{σ:St}{H:Hp}{s:Shared}(ok:X.Ok)(I:Inv (z77 X ev) pins σ H s):Inv X pins σ H s:=
 ⟨ok,I.os,I.bare,I.base,I.loc,I.cell,I.free,I.freeC,I.pin,I.hok,I.len⟩
theorem SP.unmark{X:Cx}{ev:Value}{pins:List (Addr×Obj)}{D:Ends}{f:Flow}{s':Shared}(ok:X.Ok)(h:SP (z77 X ev) pins D f s'):SP X pins D f s':=by
 cases f with
 |next=>obtain⟨σ',H',I,q⟩:=h;exact⟨σ',H',I.unmark ok,q⟩
 |brk=>obtain⟨σ',H',I,q⟩:=h;exact⟨σ',H',I.unmark ok,q⟩
 |cont=>obtain⟨σ',H',I,q⟩:=h;exact⟨σ',H',I.unmark ok,q⟩
 |ret u=>obtain⟨v,σ',H',I,r,q⟩:=h;exact⟨v,σ',H',I.unmark ok,r,q⟩
theorem zhz{K:PySem.W.Frag}{prog:Program}{w:World}{A:Around}{E:Value->Shared->Prop}{s:Shared}{x C D:Addr}{oe:Obj}{b:Bool}{bmB:List Value}{nid:String}{Q:Bool->Shared->Prop}(kx:K.In s.heap)(he:s.heap.get? x=some oe)(hc:oe.cls=.ref C)
  (exD:PySem.W.excIn K D bmB nid=true) (hb:bmB.contains (.type "BaseException")=true) (sb:PySem.W.subIn K (.ref C) (.ref D)=some b) (hq:Q b s):wpAny (model prog w) A (excMatches (.ref x) (.ref D)) Q E s:=by
 obtain⟨bm,N,nm,qn,bs,hd,sn,sub,ab,col,dd,k0,k1,k2,k3,k5,mN,hD,hN,hni,T⟩:=zex kx exD
 have lk:=PySem.W.looks_subIn (M:=model prog w) kx sb
 obtain⟨hp,g,d,tk,os⟩:=s
 have inB:(Value.ref D::bm).contains (.type "BaseException")=true:=by rw[List.contains_cons,T.hasType hb,Bool.or_true]
 have nt:=tc_notTuple
 have fin:wpAny (model prog w) A (isSubtype (.ref C) (.ref D)) (fun r s'=>Q r s') E ⟨hp,g,d,tk,os⟩:=lk A _ _ _ (fun _ _ z=>z) hq
 unfold excMatches
 repeat (first
  |(with_reducible refine wpAny_loadPart_at he ?_;rw[hc])
  |with_reducible refine wpAny_loadPart_at hD ?_
  |(with_reducible refine wpAny_isSubtype_exc hD ?_;rw[inB])
  |wp_step)
 refine lk _ _ _ _ (fun _ _ z=>z) ?_
 cases b<;>(wp_walk;exact hq)
noncomputable abbrev TH:=Value->Ends->St->Hp->Prop
noncomputable def PH(X:Cx)(hs:List ExceptHandler)(th:TH):Prop:=
 ∀(pins:List (Addr×Obj))(s:Shared)(σ:St)(H:Hp)(D:Ends)(x C t:Addr)(B:Heap),Fly X pins σ H s x C t B->th (.ref C) D σ H->wpAny (model X.prog X.w) X.A (handleBy (.ref x) X.env hs) (SP X pins D) X.xe s
noncomputable def zcp:TH:=fun _ _ _ _=>False
theorem zlz{X:Cx}:PH X [] zcp:=fun _ _ _ _ _ _ _ _ _ _ h=>h.elim
noncomputable def zg6(K:PySem.W.Frag)(D:Addr)(tb:TS)(th:TH):TH:=fun cls En σ H=>∃b,PySem.W.subIn K cls (.ref D)=some b/\if b=true then tb En σ H else th cls En σ H
theorem zl3{X:Cx}{cn:Str}{D:Addr}{b0:Stmt}{suite:List Stmt}{rest:List ExceptHandler}{np hpos:Pos}{tb:TS}{th:TH}{bmB:List Value}{nid:String}(hg:Gl X cn)(hm:X.mg cn=some (.ref D))(ex:PySem.W.excIn X.K D bmB nid=true)(hb:bmB.contains (.type "BaseException")=true)
  (hs:∀ ev,PSs (z77 X ev) (b0::suite) tb) (hr:PH X rest th) (hdb:(cn==("__debug__":Str))=false:=by decide):PH X (.ExceptHandler (some (.Name cn np)) none (b0::suite) hpos::rest) (zg6 X.K D tb th):=by
 intro pins s σ H En x C t B F h
 obtain⟨b,sb,h⟩:=h
 have I:=F.inv
 obtain⟨oe,hoe,hcl⟩:=F.fly.there
 refine wpAny_handleBy_cons (codeAny_handlers_test (z5r (X:=z77 X (.ref x)) (I.mark _) hg hm ?_ hdb)) (by intro q;cases q)
 refine zhz I.kIn hoe hcl ex hb sb ?_
 cases b with
 |false=>exact hr pins s σ H En x C t B F h
 |true=>
  refine codeAny_handlers_suite (lands_againW F.fly fun h2 fl2 up2=>?_)
  have F2:=F.on fl2 up2
  refine x0f (hs (.ref x) pins _ σ H En (F2.inv.mark _) h) (fun f s3 q=>?_) fun _ _ z=>z.elim
  exact q.unmark I.ok
noncomputable def tTry(t:TSX)(th:TH):TS:=fun D σ H=>t D (fun cls _ H'=>th cls D σ H') σ H
theorem zm0{X:Cx}{st:Stmt}{h0:ExceptHandler}{hs:List ExceptHandler}{pos:Pos}{t:TSX}{th:TH}(hb:PSX X st t)(hh:PH X (h0::hs) th)(s1:X.stack=X.env::X.outer:=by rfl)(s2:X.env.frame=some X.env.locals:=by rfl):
  PS X (.Try [st] (h0::hs) [] [] pos) (tTry t th):=by
 intro pins s σ H D I h
 refine wpAny_Try_except (wpAny_execs_cons (x0f (hb pins s σ H D _ I h) (fun f s3 q=>?_) fun ev s3 q=>?_))
 .cases f with
  |next=>exact wpAny_execs_nil (wpAny_execs_nil q)
  |ret v=>exact q
  |brk=>exact q
  |cont=>exact q
 .obtain⟨x,C,t',B,H',rfl,F,hx⟩:=q
  have fl:=F.fly
  rw[s1]at fl
  refine wpAny_looks_onW (by rw[<-s1];exact I.ok.frames) s2 fl fun h4 held up4=>?_
  refine wpAny_landsW held fun h5 fl5 up5=>?_
  rw[<-s1]at fl5
  exact hh pins _ σ H' D x C t' B (F.on fl5 (up4.trans up5)) hx
end L2
end
section
namespace L2
open PySem PySem.Spec PyProof.Rows
section
variable {X:Cx}
theorem z9h:OpR X (binaryOp .Mult) (fun x y H Q=>∃z n,x=.str z/\y=.int n/\MulOk z n/\Q (.str (Txt.mul z n)) H):=by
 intro pins s σ H x y v u Q I rx ry h
 obtain⟨z,n,rfl,rfl,hok,q⟩:=h
 obtain⟨t,rfl⟩:=rx
 obtain⟨t',rfl⟩:=ry
 exact SB.mul hok fun t2 k=>⟨.str _,H,I.tok _,⟨_,rfl⟩,q⟩
theorem zjl:MtR X "str.count" (fun x vs H Q=>∃ z y,x=.str z/\vs=[.str y]/\Q (.int (Txt.count z y)) H):=by
 intro pins s σ H x vs v us Q I rx rv h
 obtain⟨z,y,rfl,rfl,q⟩:=h
 obtain⟨t,rfl⟩:=rx
 obtain⟨u,rfl,t',rfl⟩:=rv.one
 exact SC.count ⟨.int _,H,I.tok _,⟨_,rfl⟩,q⟩
theorem zcq(hu:X.A.units<cLine):OpR X (compareOp .Eq) (fun x y H Q=>∃p q xs,x=.ref p/\y=.ref q/\SqL X.K H p xs/\SqL X.K H q []/\Q (.bl xs.isEmpty) H):=by
 intro pins s σ H x y v u Q I rx ry h
 obtain⟨p,q,xs,rfl,rfl,hp,hq,hQ⟩:=h
 cases rx
 cases ry
 obtain⟨us,r1,p1,_⟩:=I.list hp
 obtain⟨ws,r2,p2,_⟩:=I.list hq
 have l1:=r1.length
 cases r2
 cases xs with
 |nil=>
  cases r1
  exact SeqAt.eq_listAt (e:=fun _=>true) p1.isList p2.isList rfl hu (fun j h1 h2=>absurd h1 (Nat.not_lt_zero _)) (z16 I hQ rfl)
 |cons a xs=>exact SeqAt.eq_list_lengthsAt p1.isList p2.isList (by simp only[xr,bne_iff_ne];rw[<-l1];simp) hu (z16 I hQ rfl)
theorem zg7{A:Around}{E:Value->Shared->Prop}{Q:Value->Shared->Prop}{pins:List (Addr×Obj)}{σ:St}{H:Hp}{s:Shared}{x:V}{u t:Value}{tp:Addr}{its:List Value}{b:Bool}(I:Inv X pins σ H s)(rx:RelV x u)(ty:TyOf X.K H x t)(ht:IsTup s.heap tp its.toArray)
  (e:PySem.W.kitAny X.K t its=some b) (h:∀ tk,Q (.bool b) { s with toks:=tk }):wpAny (model X.prog X.w) A (call (.builtin "isinstance") [u,.ref tp]) Q E s:=by
 obtain⟨⟨c0,dd,dt,sl⟩,e0,hc0,n0,hd0⟩:=ht
 simp only at hc0 hd0
 subst hc0 hd0
 cases ty with
 |non=>cases(show u=Value.none from rx);exact x1r PySem.W.kitx_none I.kIn x1k e0 e (fun z=>nomatch z) h
 |bl y=>cases(show u=Value.bool y from rx);exact x1r PySem.W.kitx_bool I.kIn x1k e0 e (fun z=>nomatch z) h
 |int i=>obtain⟨t,q⟩:=(show∃t,u=Value.int i t from rx);cases q;exact x1r PySem.W.kitx_int I.kIn x1k e0 e (fun z=>nomatch z) h
 |str y=>obtain⟨t,q⟩:=(show∃t,u=Value.str y t from rx);cases q;exact x1r PySem.W.kitx_str I.kIn x1k e0 e (fun z=>nomatch z) h
 |flt y=>obtain⟨t,q⟩:=(show∃t,u=Value.float y t from rx);cases q;exact x1r PySem.W.kitx_float I.kIn x1k e0 e (fun z=>nomatch z) h
 |@lst a xs ea=>
  cases(show u=Value.ref a from rx)
  obtain⟨_,_,n,_,h1⟩:=(show ObjOk X.prog X.w H s.heap a (.lst xs) from I.hok a _ ea)
  exact x1r PySem.W.kitx_list I.kIn ⟨_,h1,rfl⟩ e0 e (fun z=>nomatch z) h
 |@tup a xs ea=>
  cases(show u=Value.ref a from rx)
  obtain⟨_,_,_,p⟩:=(show ObjOk X.prog X.w H s.heap a (.tup xs) from I.hok a _ ea)
  obtain⟨o,h1,h2,_⟩:=p
  exact x1r PySem.W.kitx_tuple I.kIn ⟨o,h1,h2⟩ e0 e (fun z=>nomatch z) h
 |@frz a ob xs ea=>
  cases(show u=Value.ref a from rx)
  obtain⟨_,_,_,n,_,h1⟩:=(show ObjOk X.prog X.w H s.heap a (.frz ob (.lst xs)) from I.hok a _ ea)
  exact x1r PySem.W.kitx_list I.kIn ⟨_,h1,rfl⟩ e0 e (fun z=>nomatch z) h
 |@dK a kvs ea=>
  cases(show u=Value.ref a from rx)
  obtain⟨_,_,vs,_,p⟩:=(show ObjOk X.prog X.w H s.heap a (.dK kvs) from I.hok a _ ea)
  obtain⟨o,es,ep,h1,h2,_⟩:=p
  exact x1r PySem.W.kitx_dict I.kIn ⟨o,h1,h2.1⟩ e0 e (fun z=>nomatch z) h
 |@dT a kvs ea=>
  cases(show u=Value.ref a from rx)
  obtain⟨_,_,xs,_,o,es,ep,h1,h2,_⟩:=(show ObjOk X.prog X.w H s.heap a (.dT kvs) from I.hok a _ ea)
  exact x1r PySem.W.kitx_dict I.kIn ⟨o,h1,h2.1⟩ e0 e (fun z=>nomatch z) h
 |@ins a C dx fs ea cl ha hn htk hm=>
  cases(show u=Value.ref a from rx)
  obtain⟨mA,O,_⟩:=z5u I.hok ea
  obtain⟨od,J,_⟩:=O.look
  exact x1r (PySem.W.kitx_own (cl.get _) cl.hd ha hn htk hm) I.kIn J e0 e (fun z=>nomatch z) h
theorem z78:CallR X (.builtin "isinstance") (fun xs H Q=>∃ x p c d t b,xs=[x,.ref p]/\SqT X.K H p [.ty c,.ty d]/\TyOf X.K H x t/\PySem.W.kitAny X.K t [.type c,.type d]=some b/\Q (.bl b) H):=by
 intro pins s σ H xs us Q I r h
 obtain⟨x,p,c,d,t,b,rfl,hp,ty,e,q⟩:=h
 obtain⟨u,w',rfl,r1,r2⟩:=zfu r
 cases r2
 obtain⟨its,rv,pl,_⟩:=I.tuple hp
 obtain⟨u1,u2,rfl,q1,q2⟩:=rv.two
 cases q1
 cases q2
 exact zg7 I r1 ty pl e fun tk=>⟨.bl b,H,I.tok _,rfl,q⟩
noncomputable def KHas(P:Program)(w:World)(K:PySem.W.Frag)(mg:Str->Option Value)(base:Heap)(k:Nat)(C:Addr)(ps:List Str)(sp:Sp):Prop:=
 ∃f fd,FnOk P w K mg base CX0 k f fd ps sp/\Mk K C f/\Binds K fd ps []
theorem zl4{k:Nat}{C:Addr}{x:Str}{ps:List Str}{sp:Sp}{p pos:Pos}(G:KHas X.prog X.w X.K X.mg X.base k C ps sp)(hr:Room (k+1) X.A)(hg:Gl X x)(hm:X.mg x=some (.ref C))(hdb:(x==("__debug__":Str))=false:=by decide):PE X (.Call (.Name x p) [] [] pos) (z80 C sp [] E0 tNil):=by
 obtain⟨f,fd,F,M,hb⟩:=G
 exact zji M F hr hg hm hb .nil z9d hdb
end
noncomputable def KDef(K:PySem.W.Frag)(C:Addr)(qual:Str)(st:Stmt)(ps:List Str):Prop:=∃ f fd,Fun K "__init__" qual st f fd/\Mk K C f/\Binds K fd ps []
theorem KDef.ok{P:Program}{w:World}{K:PySem.W.Frag}{mg:Str->Option Value}{base:Heap}{C:Addr}{qual:Str}{st:Stmt}{N ps:List Str}{k:Nat}{sp:Sp}(D:KDef K C qual st ps)(S:FnScope N ps (zh st))(len:∀vs H Q E,sp vs H Q E->vs.length=ps.length)
  (hbody:∀(f:Addr)(cdv:Value)(A:Around)(outer:List Env)(s:Shared)(H:Hp)(vs:List V)(Q:VK)(E:XK),Room k (A.deeper (envOfC qual (zh st) s.heap.objs.size f cdv))->sp vs H Q E->
   ∃t,PSs (cxOf CX0 P w K mg base N qual (zh st) f cdv A outer s H E).nox (z23 st) t/\t { nx:=fun _ H'=>Q .non H',rt:=Q } (start N vs) H):KHas P w K mg base (k+1) C ps sp:=by
 obtain⟨f,fd,F,hm,hb⟩:=D
 exact⟨f,fd,F.ok S len (fun cdv A outer s H vs Q E hr h=>hbody f cdv A outer s H vs Q E hr h),hm,hb⟩
noncomputable def zey:Sp:=fun _ _ _ _=>False
theorem zi0{P:Program}{w:World}{K:PySem.W.Frag}{mg:Str->Option Value}{base:Heap}{x:Str}{st:Stmt}{ps:List Str}{k:Nat}(D:Def K mg x st ps):Has P w K mg base k x ps zey:=by
 obtain⟨f,fd,F,hm,hb⟩:=D
 refine⟨f,fd,⟨fun _ _ _ _ h=>h.elim,fun _ _ _ _ _ _ _ _ _ _ _ _ _ h=>h.elim⟩,hm,F.kp,hb,?_⟩
 obtain⟨oc,od,kV,doc,pm,an,cdv,ct,osl,rfl,lk,hcd⟩:=F.ex
 exact⟨oc,od,osl,lk⟩
theorem z6u(K:PySem.W.Frag):PySem.W.kitOne K (.type "list") (.type "list")=some true:=by with_unfolding_all rfl
theorem z1j(K:PySem.W.Frag):PySem.W.kitOne K (.type "int") (.type "int")=some true/\PySem.W.kitOne K (.type "bool") (.type "int")=some true/\PySem.W.kitOne K (.type "str") (.type "int")=some false/\PySem.W.kitOne K (.type "str") (.type "str")=some true/\PySem.W.kitOne K (.type "int") (.type "str")=some false/\
  PySem.W.kitOne K (.type "str") (.type "bool")=some false/\PySem.W.kitOne K (.type "tuple") (.type "tuple")=some true/\PySem.W.kitOne K (.type "tuple") (.type "list")=some false/\PySem.W.kitOne K (.type "list") (.type "tuple")=some false:=by
 refine⟨?_,?_,?_,?_,?_,?_,?_,?_,?_⟩<;>with_unfolding_all rfl
theorem z3k(K:PySem.W.Frag):PySem.W.kitAny K (.type "int") [.type "list",.type "tuple"]=some false/\PySem.W.kitAny K (.type "bool") [.type "list",.type "tuple"]=some false/\PySem.W.kitAny K (.type "str") [.type "list",.type "tuple"]=some false/\
  PySem.W.kitAny K (.type "list") [.type "list",.type "tuple"]=some true/\PySem.W.kitAny K (.type "tuple") [.type "list",.type "tuple"]=some true:=by
 refine⟨?_,?_,?_,?_,?_⟩<;>with_unfolding_all rfl
theorem Has.or{P:Program}{w:World}{K:PySem.W.Frag}{mg:Str->Option Value}{base:Heap}{k k' n:Nat}{x:Str}{ps:List Str}{sp sp':Sp}(G:Has P w K mg base k x ps sp)(G':Has P w K mg base k' x ps sp')(h1:k<=n)(h2:k'<=n):Has P w K mg base n x ps (fun vs H Q E=>sp vs H Q E\/sp' vs H Q E):=by
 obtain⟨f,fd,F,hm,hk,hb,oc,od,osl,lk⟩:=G
 obtain⟨f',fd',F',hm',hk',hb',oc',od',osl',lk'⟩:=G'
 have e:=hm.symm.trans hm'
 cases e
 rw[lk]at lk'
 have e2:=xq lk'
 injection e2 with _ _ e3 _
 injection e3 with e4
 subst e4
 refine⟨f,fd,⟨fun vs H Q E h=>h.elim (F.len vs H Q E) (F'.len vs H Q E),fun A outer s H args us vs Q E hr he hB hv hs=>?_⟩,hm,hk,hb,oc,od,osl,lk⟩
 rcases hs with hs|hs
 .exact(F.mono h1).run A outer s H args us vs Q E hr he hB hv hs
 .exact(F'.mono h2).run A outer s H args us vs Q E hr he hB hv hs
section
variable {X:Cx}{K:PySem.W.Frag}
theorem z1e(h:X.K=K:=by rfl):IxR X (rIxT K):=h▸ix_tup
theorem zbf(h:X.K=K:=by rfl):IxR X (rIxL K):=h▸ix_list
theorem z3y(h:X.K=K:=by rfl):IxR X (rIx K):=h▸zlr
theorem zjm(hu:X.A.units<cLine)(h:X.K=K:=by rfl):OpR X (compareOp .NotEq) (rEqT K true):=h▸zlt hu
theorem zab(h:X.K=K:=by rfl):CallR X (.builtin "len") (fun xs H Q=>∃ p ys,xs=[.ref p]/\(SqL K H p ys\/SqT K H p ys)/\Q (.int ys.length) H):=h▸zq
theorem z8p{e:Expr}{ta:TE}{f:Str}{pos:Pos}(he:PE X e ta)(hb:attributeBase e f X.env (eval e X.env)=eval e X.env)(h:X.K=K:=by rfl):PE X (.Attribute e f pos) (tFld K ta f):=h▸z2f he hb
end
end L2
end
section
namespace L2
open PySem PySem.Spec PyProof.Rows
section
variable {X:Cx}
theorem z79(hc:X.calm=true):CallR X (.builtin "max") (fun xs H Q=>∃ p ns,xs=[.ref p]/\SqL X.K H p ((ns:List Int).map V.int)/\ns≠[]/\∀ m∈ns,(∀ x∈ns,x<=m)->Q (.int m) H):=by
  intro pins s σ H xs us Q I r h
  obtain⟨p,ns,rfl,hp,hne0,q⟩:=h
  obtain⟨u,rfl,ru⟩:=z58 r
  cases ru
  obtain⟨its,r1,p1,_⟩:=I.list hp
  have hl:=r1.length
  rw[x0]at hl
  refine call_max_walk (wpAny_pyIter_list p1.isList ?_)
  obtain⟨ol,n,hol,hcl,hdl,hsl⟩:=id p1
  have hne:p≠s.heap.objs.size:=xy (xl hol)
  have hlt:p<s.heap.objs.size:=xl hol
  have hpos:0<ns.length:=by cases ns with|nil=>exact absurd rfl hne0|cons a b=>simp
  refine⟨s.heap.objs.size,[s.heap.objs.size,p],[s.heap.objs.size],its.toArray.size,_,_,fun i j=>decide (ns.getD i 0>ns.getD j 0),rfl,Walks.list (by exact I.ok.hd hc) s.heap.objs.size p hne its.toArray,
    ⟨⟨_,xu _ rfl,rfl,rfl⟩,⟨ol,xf _ hol,hcl,n,hsl⟩⟩,fun b hb=>?_,by rw[xr];omega,CmpOf.ints_gt (fun i=>ns.getD i 0) ?_,fun v h' tk hP k=>?_⟩
  · show b<(s.heap.push _).objs.size
    rw[x14]
    rcases xo.mp hb with rfl|hb
    . exact x1a _
    · rcases xo.mp hb with rfl|hb
      . exact x1n hlt
      . cases hb
  · intro j v hv
    have hv:its.toArray[j]? =some v:=hv
    have e0:its[j]? =some v:=by simpa using hv
    have hj:j<its.length:=(xg.mp e0).1
    have e1:(ns.map V.int)[j]? =some (V.int (ns.getD j 0)):=by
      rw[xc,xn,x6 (by omega)]
      rfl
    obtain⟨w,q1,rw'⟩:=r1.get e1
    rw[e0]at q1
    cases q1
    exact rw'
  · have hP:its.toArray[argBest (fun i j=>decide (ns.getD i 0>ns.getD j 0)) (its.toArray.size-1)]? =some v:=hP
    obtain⟨b1,b2⟩:=argBest_gt (fun i=>ns.getD i 0) (its.toArray.size-1)
    rw[xr,<-hl]at b1 b2 hP
    generalize argBest (fun i j=>decide (ns.getD i 0>ns.getD j 0)) (ns.length-1)=a at b1 b2 hP
    have e0:its[a]? =some v:=by simpa using hP
    have ha:a<ns.length:=by omega
    have e1:(ns.map V.int)[a]? =some (V.int (ns.getD a 0)):=by
      rw[xc,xn,x6 ha]
      rfl
    obtain⟨w,q1,rw'⟩:=r1.get e1
    rw[e0]at q1
    cases q1
    have I2:Inv X pins σ H { s with heap:=h',toks:=tk }:=by
     refine I.kept (t':=tk) (h':=h') fun b o e=>k b o ?_ (xf _ e)
     intro z
     have:b=s.heap.objs.size:=by simpa using z
     exact absurd (xl e) (by rw[this];exact x0r _)
    refine⟨.int _,H,I2,rw',q _ ?_ ?_⟩
    · rw[xn,x6 ha]
      exact x1b ha
    · intro x hx
      obtain⟨j,hj,rfl⟩:=x12 hx
      have:=b2 j (by omega)
      have e:ns.getD j 0=ns[j]:=by rw[xn,x6 hj];rfl
      rw[e]at this
      exact this
end
end L2
end
section
namespace PySem
open Sem (wp)
open AutoSeq1 (wpAny_loadPart')
theorem ze7(a:Value)(t:Tok):checkTypeCall "enumerate" ⟨[a],[(Str.ofString "start",.int 1 t)]⟩=pure ():=by kernel_rfl
theorem zi1(a:Value)(t:Tok):checkBuiltinCall "enumerate.__new__" ⟨[.type "enumerate",a],[(Str.ofString "start",.int 1 t)]⟩=pure ():=by kernel_rfl
theorem zg8(obj a:Value)(t:Tok):argsOk "object.__init__" ⟨[obj,a],[(Str.ofString "start",.int 1 t)]⟩:=by unfold argsOk;kernel_rfl
theorem zg9(l:Addr)(o:Obj)(items:Array Value)(t:Tok):
  Meets (Builtin.«enumerate.__new__» ⟨[.type "enumerate",.ref l],[(Str.ofString "start",.int 1 t)]⟩) (fun _ R s=>s.heap.get? l=some o/\s.heap.IsList l items/\
   R (.ok (.ret (.ref (s.heap.push { cls:=.type "list_iterator",data:=.fields #[.ref l,.int 0 0] }).objs.size)))
    { s with heap:=(s.heap.push { cls:=.type "list_iterator",data:=.fields #[.ref l,.int 0 0] }).push { cls:=.type "enumerate",data:=.fields #[.none,.bool false,.ref s.heap.objs.size,rawInt 1,.none,.none] } }):=
 .of_wp fun prog w A R s h=>by
  obtain⟨h0,g0,d0,t0,o0⟩:=s
  obtain⟨ho,hL,h⟩:=h
  have hsub:=sub_enumerate
  wp_walk using wpAny_loadPart' ho
  refine wpAny_stack_any fun stk=>?_
  refine xh ?_
  split
  .rename_i c _ _ _ _ _
   generalize(c==Value.type "enumerate")=b
   cases b<;>(wp_walk using wpAny_loadPart' ho,wpAny_pyIter_list hL;exact⟨_,rfl,h⟩)
  .wp_walk using wpAny_loadPart' ho,wpAny_pyIter_list hL
   exact⟨_,rfl,h⟩
end PySem
end
section
namespace PySem
open Sem (wp)
theorem zga{prog:Program}{w:World}{A:Around}{E:Value->Shared->Prop}{s:Shared}{l:Addr}{items:Array Value}{t:Tok}{Q:Value->Shared->Prop}(hL:s.heap.IsList l items)
  (h:∀h',IsEnum h' (s.heap.objs.size+1) s.heap.objs.size 1 .none->h'.IsListIter s.heap.objs.size l 0->h'.objs.size=s.heap.objs.size+2->
   (∀b o,s.heap.get? b=some o->h'.get? b=some o)->Q (.ref (s.heap.objs.size+1)) { s with heap:=h' }):
  wpAny (model prog w) A (call (.type "enumerate") [.ref l] [(Str.ofString "start",.int 1 t)]) Q E s:=by
 have ft:=F.called_enumerate
 obtain⟨c,tl,hmro⟩:=ft.mro
 have f1:=ft.made
 have f2:=ft.sub
 have f3:=ft.notType
 have f4:=ft.canCreate
 have f5:=ze7 (.ref l) t
 obtain⟨o,ho,_⟩:=id hL
 refine wpAny_call (codeAny_of_tree ?_)
 show wpAny _ _ (callAny (.type "enumerate") _) _ _ _
 refine xh ⟨Code.quiet_builtin _ (by decide+kernel),?_⟩
 refine codeAny_builtin F.entry_type_call ?_
 rw[Around.under_plain (weight_type_call_type "enumerate" _ _) (units_type_call_type "enumerate" _ _)]
 repeat (any_goals (first|assumption|wp_step))
 have hz:(s.heap.push { cls:=.type "list_iterator",data:=.fields #[.ref l,.int 0 0] }).objs.size=s.heap.objs.size+1:=x14 ..
 have he:IsEnum ((s.heap.push { cls:=.type "list_iterator",data:=.fields #[.ref l,.int 0 0] }).push { cls:=.type "enumerate",data:=.fields #[.none,.bool false,.ref s.heap.objs.size,rawInt 1,.none,.none] }) (s.heap.objs.size+1) s.heap.objs.size 1 .none:=by
  rw[<-hz]
  exact xu _ rfl
 have hi:((s.heap.push { cls:=.type "list_iterator",data:=.fields #[.ref l,.int 0 0] }).push { cls:=.type "enumerate",data:=.fields #[.none,.bool false,.ref s.heap.objs.size,rawInt 1,.none,.none] }).IsListIter s.heap.objs.size l 0:=
  ⟨_,xf _ (xu _ rfl),rfl,rfl⟩
 have hsz:((s.heap.push { cls:=.type "list_iterator",data:=.fields #[.ref l,.int 0 0] }).push { cls:=.type "enumerate",data:=.fields #[.none,.bool false,.ref s.heap.objs.size,rawInt 1,.none,.none] }).objs.size=s.heap.objs.size+2:=by
  rw[x14,hz]
 have hq:=h _ he hi hsz fun b o x=>xf _ (xf _ x)
 have hN:wants (fun v s1=>v=Value.ref (s.heap.objs.size+1)/\s1={ s with heap:=(s.heap.push { cls:=.type "list_iterator",data:=.fields #[.ref l,.int 0 0] }).push { cls:=.type "enumerate",data:=.fields #[.none,.bool false,.ref s.heap.objs.size,rawInt 1,.none,.none] } }) E (.ok (.ret (.ref (s.heap.push { cls:=.type "list_iterator",data:=.fields #[.ref l,.int 0 0] }).objs.size)))
   { s with heap:=(s.heap.push { cls:=.type "list_iterator",data:=.fields #[.ref l,.int 0 0] }).push { cls:=.type "enumerate",data:=.fields #[.none,.bool false,.ref s.heap.objs.size,rawInt 1,.none,.none] } }:=by
  rw[hz]
  exact⟨rfl,rfl⟩
 have hM:=zg9 l o items t prog w A.in1 _ s ⟨ho,hL,hN⟩
 generalize(s.heap.push { cls:=.type "list_iterator",data:=.fields #[.ref l,.int 0 0] }).push { cls:=.type "enumerate",data:=.fields #[.none,.bool false,.ref s.heap.objs.size,rawInt 1,.none,.none] }=h9 at he hi hsz hq hM
 have hT:({ s with heap:=h9 }:Shared).TypeIs (.ref (s.heap.objs.size+1)) "enumerate":=⟨_,he,rfl⟩
 have hli:=ft.init.lookup
 have hbi:=ft.init.bind (.ref (s.heap.objs.size+1))
 refine codeAny_mono (codeAny_call_builtin (R:=wants (fun v s1=>v=.ref (s.heap.objs.size+1)/\s1={ s with heap:=h9 }) E) ft.plain F.entry_enumerate_new
  (wpAny_of_eq (zi1 _ t) hM)) fun r s1 hr=>?_
 cases r with
 |error e=>exact hr
 |ok fl=>
  cases fl with
  |ret v=>
   obtain⟨rfl,rfl⟩:=hr
   dsimp only
   have hx:(some "enumerate.__new__" !=some "object.__new__")=true:=by decide
   repeat (any_goals (first|assumption|wp_step))
   refine codeAny_call_builtin ft.init.plain F.entry_object_init (ft.init.check _ _ _ _ _ _ _ _ hT (zg8 _ _ t) ?_)
   unfold Builtin.«object.__init__»
   repeat (any_goals (first|assumption|wp_step))
  |_=>exact hr.elim
end PySem
end
section
namespace PySem.W
open PySem PySem.Spec PySem.Calls PyProof.Rows
open Builtin Builtin.Getset_descriptor
section
variable {prog:Program}{w:World}{A:Around}{E:Value->Shared->Prop}{s:Shared}{K:Frag}{x C:Addr}{R:Result->Shared->Prop}
structure ErrCls(K:Frag)(C:Addr):Prop where
 ga:findIn K (.ref C) "__getattribute__"=some (some (.builtin "BaseException.__getattribute__"))
 no:findIn K (.ref C) "__getattr__"=some none
 cl:findIn K (.ref C) "__class__"=some (some (.builtin "object.__class__"))
 sp:specialIn K (.builtin "object.__class__") "__get__"=some (some (.builtin "getset_descriptor.__get__"))
 tk:takesIn K (.builtin "object.__class__")=some true
 mo:mroIn K C (.type "object")=some true
 mb:mroIn K C (.type "BaseException")=some true
end
end PySem.W
namespace L2
open PySem PySem.Spec PyProof.Rows
section
variable {X:Cx}
theorem Inv.also{pins:List (Addr×Obj)}{σ:St}{H:Hp}{s:Shared}{x:Addr}{o:HO}(I:Inv X pins σ H s)(hx:H x=none)(hm:¬ Mine X pins x)(ok:ObjOk X.prog X.w (upd H x o) s.heap x o):Inv X pins σ (upd H x o) s:=by
 have nb:∀b u,H b=some u->b≠x:=fun b u e z=>by rw[z,hx]at e;cases e
 refine⟨I.ok,I.os,I.bare,⟨I.base.keep,I.base.slot,fun b ob e n hb=>?_,I.base.there,fun b ys e=>?_,fun b ob u e=>?_,fun b ps e=>?_⟩,I.loc,I.cell,?_,fun y c e=>?_,fun p hp=>?_,fun b ob e=>?_,I.len⟩
 .have:b≠x:=fun z=>hm (.inl ⟨ob,z▸e⟩)
  rw[zb this]
  exact I.base.free b ob e n hb
 .have q:=I.base.tups b ys e
  rw[zb (nb _ _ q)]
  exact q
 .have q:=I.base.frzs b ob u e
  rw[zb (nb _ _ q)]
  exact q
 .obtain⟨more,q⟩:=I.base.tbls b ps e
  exact⟨more,by rw[zb (nb _ _ q)];exact q⟩
 .have:X.env.locals≠x:=fun z=>hm (.inr (.inl z.symm))
  rw[zb this]
  exact I.free
 .have:c≠x:=fun z=>hm (.inr (.inr (.inl ⟨y,z▸e⟩)))
  rw[zb this]
  exact I.freeC y c e
 .obtain⟨a1,a2,a3⟩:=I.pin p hp
  have:p.1≠x:=fun z=>hm (.inr (.inr (.inr ⟨p,hp,z⟩)))
  exact⟨a1,by rw[zb this];exact a2,a3⟩
 .by_cases hb:b=x
  .subst hb
   rw[z8]at e
   cases e
   exact ok
  .rw[zb hb]at e
   refine(I.hok b ob e).stay (fun _ _ _ q=>q) (fun c q=>?_) fun c ys q=>?_
   .rw[zb (nb _ _ q)];exact q
   .rw[zb (nb _ _ q)];exact q
end
end L2
end
section
namespace PySem
theorem Draws.late{prog:Program}{w:World}{A:Around}{it:Addr}{fp:List Addr}{n:Nat}{P:Nat->Value->Prop}{St:Nat->Heap->Prop}(D:Draws prog w A it fp n P St):
  Draws prog w A it fp (n+1) (fun i x=>P (i-1) x) (fun i h=>1<=i/\St (i-1) h) where
 live:=fun i h st=>D.live _ _ st.2
 frame:=fun i h h' st k=>⟨st.1,D.frame _ _ _ st.2 k⟩
 item:=fun i s Q E hi st hQ=>D.item (i-1) s Q E (by have:=st.1;omega) st.2 fun x h' tk hP hs hb=>hQ x h' tk hP ⟨by omega,by
  have e:i-1+1=i+1-1:=by have:=st.1;omega
  rw[<-e];exact hs⟩ hb
 done:=fun s Q E st hE=>D.done s Q E st.2 hE
end PySem
namespace L2
open PySem PySem.Spec PyProof.Rows
theorem Inv.turned2{X:Cx}{pins:List (Addr×Obj)}{σ:St}{H:Hp}{s:Shared}{h':Heap}{t':Nat}{e it:Addr}(I:Inv X pins σ H s)(k:∀b o,b≠e->b≠it->s.heap.get? b=some o->h'.get? b=some o)(fe:FpOk X pins H e)(fi:FpOk X pins H it):Inv X pins σ H { s with heap:=h',toks:=t' }:=by
 obtain⟨e0,e1,_,e3,e4,e5⟩:=fe
 obtain⟨i0,i1,_,i3,i4,i5⟩:=fi
 have ne:∀b u,H b=some u->b≠e:=fun b u q z=>by rw[z,e0]at q;cases q
 have ni:∀b u,H b=some u->b≠it:=fun b u q z=>by rw[z,i0]at q;cases q
 have kc:∀b o,b∉[e,it]->s.heap.get? b=some o->h'.get? b=some o:=fun b o hc q=>k b o (fun z=>hc (by simp[z])) (fun z=>hc (by simp[z])) q
 refine I.step (g':=s.gens) (d':=s.drawn) (ch:=[e,it]) (fun b hb=>?_) (fun b o _ _ hc q _=>kc b o hc q) (fun b o _ _ hc q _=>⟨o.slots,kc b o hc q⟩) (fun _ _ _ _ n=>n)
  (fun b o hc q=>⟨o,kc b o hc q⟩) (fun _ _ q=>q) (fun _ _ _ q=>q) (fun b ps q=>⟨#[],by rw[q];simp⟩) (fun m hm=>?_) (fun b u q=>?_) I.bare
 .rcases xo.mp hb with z|z
  .subst z;exact⟨e3,e1,e4,e5⟩
  .have z:b=it:=by simpa using z
   subst z;exact⟨i3,i1,i4,i5⟩
 .obtain⟨o,es,ep,ho,r⟩:=hm
  exact⟨o,es,ep,k _ o (Ne.symm e1) (Ne.symm i1) ho,r⟩
 .refine(I.hok b u q).stay (fun c v hc z=>k c v ?_ ?_ z) (fun _ z=>z) fun _ _ z=>z
  .rcases hc with y|y
   .rw[y];exact ne b u q
   .exact ne c _ y
  .rcases hc with y|y
   .rw[y];exact ni b u q
   .exact ni c _ y
noncomputable def Ite(K:PySem.W.Frag)(a:Addr):It:=
 ⟨fun i H=>∃xs x,SqL K H a xs/\xs[i]? =some x,fun i H x H'=>∃T v,x=.ref T/\H T=none/\H'=upd H T (.tup [.int ((i:Int)+1),v])/\∀xs,SqL K H a xs->xs[i]? =some v,fun i H=>∃xs,SqL K H a xs/\xs.length<=i⟩
theorem zjn{X:Cx}{pins:List (Addr×Obj)}{σ:St}{H:Hp}{s:Shared}(I:Inv X pins σ H s){T:Addr}(hT:s.heap.objs.size<=T):¬ Mine X pins T:=by
 intro hm
 rcases hm with⟨o,e⟩|e|⟨y,e⟩|⟨p,hp,e⟩
 .exact absurd (xt (xl e) (xp I.sz hT)) (x0r _)
 .rw[e]at hT
  exact absurd (xt I.lt hT) (x0r _)
 .obtain⟨v,q⟩:=I.cell y T e
  exact absurd (xt q.lt hT) (x0r _)
 .have:=xl (I.pin p hp).1
  rw[e]at this
  exact absurd (xt this hT) (x0r _)
theorem zi2{P:Program}{w:World}{K:PySem.W.Frag}{els:List Expr}{x1}{tp:Pos}(a e it:Addr)(hne:e≠it):Turn P w K (.Tuple els x1 tp) (Ite K a) [e,it] e (fun i h=>(∃old,IsEnum h e it (((i+1:Nat)):Int) old)/\h.IsListIter it a i) where
 mem:=by simp
 obj:=fun i h st b hb=>by
  obtain⟨⟨old,he⟩,o,ho,hc,hd⟩:=st
  rcases xo.mp hb with z|z
  .subst z
   exact⟨_,he,fun v z=>by cases z⟩
  .have z:b=it:=by simpa using z
   subst z
   exact⟨o,ho,fun v z=>by rw[hd]at z;cases z⟩
 keep:=fun i h h' st k=>by
  obtain⟨⟨old,he⟩,hl⟩:=st
  exact⟨⟨old,k e (by simp) _ he⟩,hl.at fun o q=>k it (by simp) o q⟩
 item:=by
  intro X hP hw hK hc i pins s σ H E I hf st hg
  subst hP hw hK
  obtain⟨xs,x,hq,hx⟩:=hg
  obtain⟨its,rv,p,hz⟩:=I.list hq
  obtain⟨⟨old,he⟩,hl⟩:=st
  obtain⟨u,hu,ru⟩:=rv.get hx
  have hlen:=rv.length
  have hi:i<its.length:=(xg.mp hu).1
  have fe:=hf e (by simp)
  have fi:=hf it (by simp)
  have nai:a≠it:=fun z=>by
   obtain⟨o,ho,hcc,_⟩:=hl
   obtain⟨o2,n2,ho2,hc2,_⟩:=p
   rw[<-z,ho2]at ho
   cases ho
   rw[hc2]at hcc
   injection hcc with y
   exact absurd y (by decide)
  have nae:e≠a:=fun z=>by
   obtain⟨o2,n2,ho2,hc2,_⟩:=p
   rw[<-z,he]at ho2
   cases ho2
   have y:Value.type "enumerate"=Value.type "list":=hc2
   injection y with y
   exact absurd y (by decide)
  have D:=(Draws.list (prog:=X.prog) (w:=X.w) (A:=X.A.in1) (by exact I.ok.hd hc) it a nai its.toArray).late
  refine wpAny_pyNext_enum_itemD D he (i:=i+1) ⟨by omega,hl,p.isList⟩ (by rw[xr];omega) hne (by simp[hne,nae]) fun v h' tk hP ho hs hT hsz hk=>?_
  have hv:v=u:=by
   have:its.toArray[i+1-1]? =some v:=hP
   have e0:its[i]? =some v:=by simpa using this
   rw[hu]at e0
   exact(xq e0).symm
  subst hv
  refine⟨_,rfl,?_⟩
  have I1:Inv X pins σ H { s with heap:=h',toks:=tk+1 }:=I.turned2 (fun b o n1 n2 q=>hk b o n1 n2 q) fe fi
  refine wpAny_letOwnedTupleGo_enum (s:={ s with heap:=h',toks:=tk+1 }) ho fun h2 he2 hs2=>?_
  obtain⟨f0,f1,f2,f3,f4,f5⟩:=fe
  have I2:Inv X pins σ H { s with heap:=h2,toks:=tk+1 }:=I1.turned (t':=tk+1) (fun b o hb q=>(hs2.2 b hb).trans q) f0 f1 f3 f4 f5
  have hTe:s.heap.objs.size≠e:=Nat.ne_of_gt (xl he)
  have hT2:h2.get? s.heap.objs.size=some { cls:=.type "tuple",data:=.seq #[.int (((i+1:Nat)):Int) tk,v] }:=(hs2.2 _ hTe).trans hT
  have hn0:H s.heap.objs.size=none:=I.fresh
  have hm:¬ Mine X pins s.heap.objs.size:=zjn I (xk _)
  have e1:(((i+1:Nat)):Int)=(i:Int)+1:=by omega
  have ok:ObjOk X.prog X.w (upd H s.heap.objs.size (.tup [.int ((i:Int)+1),x])) h2 s.heap.objs.size (.tup [.int ((i:Int)+1),x]):=by
   refine⟨zf (by show 2<=1000000;decide),[.int (((i+1:Nat)):Int) tk,v],.cons ⟨tk,by rw[e1]⟩ (.cons ru .nil),_,hT2,rfl,_,rfl⟩
  refine⟨.ref s.heap.objs.size,_,I2.also hn0 hm ok,rfl,⟨_,x,rfl,hn0,rfl,fun ys hy=>by rw[I.list_inj hy hq];exact hx⟩,⟨⟨v,?_⟩,?_⟩,fun b hb=>?_⟩
  .exact he2
  .exact hs.2.1.at fun o q=>(hs2.2 it (Ne.symm hne)).trans q
  .have nb:b≠s.heap.objs.size:=by
    obtain⟨o,q⟩:∃o,s.heap.get? b=some o:=by
     rcases xo.mp hb with z|z
     .exact⟨_,z▸he⟩
     .have z:b=it:=by simpa using z
      obtain⟨o,q,_⟩:=hl
      exact⟨o,z▸q⟩
    exact xy (xl q)
   rw[zb nb]
   exact(hf b hb).1
 done:=by
  intro X hP hw hK hc i pins s σ H E I hf st hg
  subst hP hw hK
  obtain⟨xs,hq,hx⟩:=hg
  obtain⟨its,rv,p,hz⟩:=I.list hq
  obtain⟨⟨old,he⟩,hl⟩:=st
  have hlen:=rv.length
  have fi:=hf it (by simp)
  have D:Draws X.prog X.w X.A.in1 it [it,a] (i+1) (fun _ _=>False) (fun j h=>j=i+1/\h.IsListIter it a i/\h.IsList a its.toArray):={
   live:=fun j h st=>(let⟨o,ho,_⟩:=st.2.1;⟨o,ho⟩)
   frame:=fun j h h' st k=>⟨st.1,st.2.1.at fun o q=>k it (by simp) o q,st.2.2.at fun o q=>k a (by simp) o q⟩
   item:=fun j s Q E hj st _=>absurd st.1 (by omega)
   done:=fun s Q E st hE=>wpAny_nextOf_list_end (by exact I.ok.hd hc) st.2.1 st.2.2 (by simp;omega) hE }
  obtain⟨f0,f1,f2,f3,f4,f5⟩:=fi
  exact wpAny_pyNext_enum_endD D he ⟨rfl,hl,p.isList⟩ fun h' hx=>⟨rfl,I.turned (t':=s.toks) (fun b o hb q=>hx b o hb q) f0 f1 f3 f4 f5⟩
 self:=fun _ _ _ _ _ st h=>by
  obtain⟨⟨old,he⟩,_⟩:=st
  exact wpAny_pyIter_enum he h
section
variable {X:Cx}
theorem z8q{M:Model}{A:Around}{E:Value->Shared->Prop}{s:Shared}{pos:Pos}{T:String}{args:List (Bool×Sem Value)}{keywords:List (Option Str×Sem Value)}{Q:Value->Shared->Prop}
  (hp:args.any (·.1)=false) (hk:keywords.any (·.1.isNone)=false)
  (h:wpAny M A (evalArgs (.type T) true args keywords) (fun b s1=>wpAny M A (call (.type T) ([]++b.pos) b.kw) Q E s1) E s):wpAny M A (callWith pos (.type T) [] args keywords) Q E s:=by
 unfold callWith
 refine x8 (x1h ?_)
 refine x0f h (fun b s1 h1=>?_) fun _ _ z=>z
 refine x8 (wpAny_standAt ?_)
 simp only[hp,hk,Bool.or_false]
 refine x8 (xh ?_)
 refine x8 (x0f h1 (fun r s2 hr=>?_) fun _ _ z=>z)
 exact x8 (x1h (wpAny_point (xh hr)))
noncomputable def zki(K:PySem.W.Frag)(ta tk:TA):TI:=fun σ H R=>ta σ H fun vs H1=>tk σ H1 fun ws H2=>∃a xs,vs=[.ref a]/\ws=[.int 1]/\SqL K H2 a xs/\R (Ite K a) H2
theorem zac:bootBuiltins "enumerate"=some (.type "enumerate"):=by decide+kernel
theorem zjo{els:List Expr}{x1}{tp:Pos}{a c:Expr}{ta tk:TA}{p pos kp:Pos}(hg:Gl X "enumerate")(hm:X.mg "enumerate"=none)(ha:PA X [a] ta)(hk:PK X [⟨some (Str.ofString "start"),c,kp⟩] tk)
  (he:backTo pos (starEach [a] X.env)=(false,eval a X.env)::backTo pos (starEach [] X.env):=by rfl) (hpl:(backTo pos (starEach [a] X.env)).any (·.1)=false:=by rfl):PI X (.Tuple els x1 tp) (.Call (.Name "enumerate" p) [a] [⟨some (Str.ofString "start"),c,kp⟩] pos) (zki X.K ta tk):=by
 intro pins s σ H R I h
 refine wpAny_Call_Name_kw (z5s I hg hm zac ?_)
 refine z8q hpl (by rfl) ?_
 rw[he]
 refine evalArgs_kwB (by rfl) ?_
 rw[<-he]
 refine thn (ha pos pins s σ H _ I h) fun us s1 ⟨vs,H1,I1,r1,q1⟩=>?_
 refine thn (hk pos pins s1 σ H1 _ I1 q1) fun ws s2 ⟨zs,H2,I2,r2,q2⟩=>?_
 obtain⟨b,xs,e1,e2,hq,q⟩:=q2
 subst e1 e2
 obtain⟨u,rfl,ru⟩:=r1.one
 cases ru
 obtain⟨u2,rfl,ru2⟩:=r2.one
 obtain⟨t,rfl⟩:=ru2
 obtain⟨its,rv,pl,hz⟩:=I2.list hq
 refine zga pl.isList fun h9 he9 hi9 hsz9 hk9=>?_
 refine wpAny_pyIter_enum (s:={ s2 with heap:=h9 }) he9 ?_
 have hne:s2.heap.objs.size+1≠s2.heap.objs.size:=Nat.succ_ne_self _
 refine⟨s2.heap.objs.size+1,[s2.heap.objs.size+1,s2.heap.objs.size],_,_,H2,rfl,I2.kept (t':=s2.toks) hk9,zi2 b _ _ hne,⟨⟨_,he9⟩,hi9⟩,fun d hd=>?_,q⟩
 rcases xo.mp hd with z|z
 .subst z
  exact I2.fpOk (Nat.le_succ _) (I2.hok.fresh (Nat.le_succ _))
 .have z:d=s2.heap.objs.size:=by simpa using z
  subst z
  exact I2.fpOk (xk _) (I2.hok.fresh (xk _))
end
end L2
end
section
namespace L2
open PySem PySem.Spec PyProof.Rows
structure CompScope2(X:Cx)(sc:Scope)(x y2:Str)(cap:List Str)(js:List Nat):Prop where
 kind:sc.kind=.function
 nocell:∀y∈sc.names,y.2≠.cell
 names:∀y∈sc.names,y.2=.local->sc.names.lookup y.1=some .local
 own:sc.names.lookup x=some .local
 own2:sc.names.lookup y2=some .local
 free:∀y∈sc.names,y.2=.free->X.env.kindOf y.1=some .cell\/X.env.kindOf y.1=some .free
 nd:(x::y2::cap).Nodup
 caps:CapOk X sc cap js
section
variable {X:Cx}{sc:Scope}{x y2:Str}{cap:List Str}{js:List Nat}{pins:List (Addr×Obj)}{σ:St}{H:Hp}{s:Shared}
theorem CompScope2.cells(S:CompScope2 X sc x y2 cap js)(I:Inv X pins σ H s):∀y∈sc.names,y.2=.free->∃c,X.env.cells.lookup y.1=some c:=fun y hy hf=>I.ok.has y.1 (S.free y hy hf)
theorem CompScope2.sub(S:CompScope2 X sc x y2 cap js)(I:Inv X pins σ H s){y:Str}{c:Addr}(h:(z25 X.env sc.names []).lookup y=some c):X.env.cells.lookup y=some c:=
 z65 (S.cells I) (fun _ _ e=>by simp at e) h
theorem ze8{s4:Shared}{h4:Heap}{t4:Nat}{fp:List Addr}{C:Addr}{v:Option V}{m:Str->Option Value}(S:CompScope2 X sc x y2 cap js)(I:Inv X pins σ H s)(hfp:∀b∈fp,FpOk X pins H b)(hlt:∀b∈fp,b<s.heap.objs.size)
    (hC:s.heap.objs.size<=C) (hn:h4.Ns C m) (k:∀b o,s.heap.get? b=some o->h4.get? b=some o):
    Inv (zy X sc (x::y2::cap) s H C fp) [] (none::none::capt σ js) H { s with heap:=h4,toks:=t4 }:=by
  have nf:∀b∈frs X.stack,b<s.heap.objs.size:=fun b hb=>by
    obtain⟨_,o,ho,_⟩:=I.stack.mem hb
    exact xl ho
  refine⟨⟨I.ok.mod,S.kind,I.ok.glob,I.ok.blt,hC,fun y z c h1 h2=>I.ok.inj y z c (S.sub I h1) (S.sub I h2),fun y hy=>?_,fun y c h=>absurd h xa,I.ok.hd,I.ok.frames,.inl rfl,fun b hb=>⟨xy (xt (hlt b hb) hC),fun y c e=>(hfp b hb).2.2.2.2.1 y c (S.sub I e)⟩,I.bs,
      xp I.ok.bsz I.sz,fun b o e hb=>?_,fun b hb z=>?_,I.stack,I.stkFree⟩,rfl,I.bare,Un.kept k,⟨m,hn,fun i y v' h1 h2 h3=>?_⟩,fun y c e=>?_,I.hok.fresh hC,fun y c e=>I.freeC y c (S.sub I e),fun p hp=>absurd (show p∈([]:List (Addr×Obj)) from hp) (by simp),I.hok.kept k,?_⟩
  . exact z3o (by
      rcases hy with z|z
      . exact z47 z (.inl rfl) S.nocell
      . exact z47 z (.inr rfl) S.nocell)
  · rcases(hfp b hb).2.2.2.1 with z|z
    . exact I.ok.noex b o e z
    . exact absurd (xt (xl e) (xp I.ok.bsz z)) (x0r _)
  · rcases xo.mp (I.stkSub b z) with q|q
    . exact(hfp b hb).2.1 q
    . exact(hfp b hb).2.2.1 q
  · cases i with
    |zero=>exact absurd (show(none:Option V)=some v' from xq h2) (by simp)
    |succ i=>
     cases i with
     |zero=>exact absurd (show(none:Option V)=some v' from xq h2) (by simp)
     |succ i=>
      have e1:cap[i]? =some y:=by simpa using h1
      obtain⟨j,q1,q2,q3,q4⟩:=S.caps.get e1
      have e2:(capt σ js)[i]? =some (some v'):=by simpa using h2
      have e3:σ[j]? =some (some v'):=by
        unfold capt at e2
        rw[xc,q1,Option.map_some]at e2
        have e4:(σ[j]?).join=some v':=xq e2
        cases q:σ[j]? with
        |none=>rw[q]at e4;cases e4
        |some w=>rw[q]at e4;exact x0u some e4
      have vis:Vis X.env.scope y:=by
        rcases q3 with q3|q3
        . exact .inr (.inl q3)
        . exact .inr (.inr q3)
      obtain⟨mX,hnX,hl⟩:=I.loc
      obtain⟨u,ru,lk⟩:=hl j y v' q2 e3 vis
      refine⟨u,ru,.inr ?_⟩
      rcases lk with⟨hk,_⟩|⟨hk,c,hc,hcell⟩
      · rcases q3 with q3|q3
        . rw[q3]at hk;cases hk
        . rw[q3]at hk;cases hk
      · obtain⟨c',hc'⟩:=z3o (env:=X.env) (cs:=[]) (x15 q4)
        have:=S.sub I hc'
        rw[hc]at this
        cases this
        obtain⟨o,ho,hd⟩:=hcell
        refine⟨?_,c,hc',⟨o,k c o ho,hd⟩⟩
        rcases h3 with z|z|z
        · exfalso
          have hz:=x15 z
          obtain⟨⟨n,k'⟩,hn',en⟩:=xw.mp hz
          by_cases hf:(k'==NameKind.free&&X.env.scope.kind== .function&&X.env.kindOf n==some .cell)=true
          · simp only[hf,if_true]at en
            cases en
          · simp only[hf,if_false]at en
            cases en
            have:=S.names _ hn' rfl
            rw[q4]at this
            cases this
        . exact .inl z
        . exact .inr z
  · obtain⟨v',o,ho,hd⟩:=I.cell y c (S.sub I e)
    exact⟨v',o,k c o ho,hd⟩
  · show(none::none::capt σ js).length=(x::y2::cap).length
    unfold capt
    rw[x0o,x0o,x0o,x0o,x0,S.caps.len]
end
noncomputable def z4s(J:It)(g2:TG)(tc:TT)(te:TE)(js:List Nat)(σ:St)(H1:Hp)(Q:VK):Prop:=
 ∃W:Nat->Nat->List V->Hp->Prop,(∃m,W 0 m [] H1)/\∀i m acc H,W i m acc H->
  (J.stop i H/\∀p,H p=none->Q (.ref p) (upd H p (.lst acc)))\/
  (J.go i H/\acc.length<sizeLine/\∀x H',J.yld i H x H'->g2 x (none::none::capt σ js) H' fun σ2 H4=>(∃a b,σ2=a::b::capt σ js)/\tc σ2 H4 fun b H2=>
   if b=true then te σ2 H2 fun v H3=>∃m',m'<m/\W (i+1) m' (acc++[v]) H3 else∃m',m'<m/\W (i+1) m' acc H2)
noncomputable def zi3(wi:TI)(g2:TG)(tc:TT)(te:TE)(js:List Nat):TE:=fun σ H Q=>wi σ H fun J H1=>z4s J g2 tc te js σ H1 Q
section
variable {X:Cx}{sc:Scope}{x y2:Str}{cap:List Str}{js:List Nat}{pins:List (Addr×Obj)}{σ:St}{H:Hp}{s:Shared}{elt iter tg:Expr}{g2:TG}{ifs:List Expr}{px pos:Pos}{tc:TT}{te:TE}
theorem ze9{J:It}{it:Addr}{fp:List Addr}{tn:Nat->Heap->Prop}{Q:VK}{E:Value->Shared->Prop}{RR:Value->Addr->Result->Shared->Prop}(S:CompScope2 X sc x y2 cap js)(hgt:∀s H C fp,PG (zy X sc (x::y2::cap) s H C fp) tg g2)(hcalm:X.calm=true)
  (hc:∀s H C fp,PIf (zy X sc (x::y2::cap) s H C fp) ifs tc) (he:∀s H C fp,PE (zy X sc (x::y2::cap) s H C fp) elt te)
  (I:Inv X pins σ H s) (T:Turn X.prog X.w X.K tg J fp it tn) (st:tn 0 s.heap) (hfp:∀b∈fp,FpOk X pins H b) (go:z4s J g2 tc te js σ H Q)
  (hRR:∀ D C HB sB σB acc its n,s.heap.objs.size<=D->s.heap.objs.size<=C->D≠C->Inv (zy X sc (x::y2::cap) s H C fp) [] σB HB sB->HB D=none->sB.heap.get? D=some { cls:=.type "list",data:=.seq (its:List Value).toArray n }->Vals acc its->acc.length<=sizeLine->
   (∀p,HB p=none->Q (.ref p) (upd HB p (.lst acc)))->RR (.ref D) C (.ok .next) sB):
  wpAny (model X.prog X.w) X.A (newList []) (fun acc s₃=>wpAny (model X.prog X.w) X.A (newFunctionEnv sc X.env.globals (z25 X.env sc.names []) [] X.env.qual none .none (some X.env)) (fun cenv s₄=>
   codeAny (model X.prog X.w) X.A (.compStart (.ListComp elt [⟨tg,iter,ifs,0⟩] sc pos) 0 (.ref it) acc { cenv with scope:=relabel sc X.env }) (RR acc cenv.locals) s₄) E s₃) E s:=by
 refine x0z (wpAny_newFunctionEnv S.nocell (by intro y hy;simp at hy) (fun h₁ hns₁ hsb₁=>?_) S.kind)
 dsimp only at hns₁ hsb₁⊢
 generalize hH2:s.heap.push { cls:=.type "list",dict:=none,data:=.seq ([]:List Value).toArray }=H2 at hns₁ hsb₁⊢
 have hCs:H2.objs.size=s.heap.objs.size+1:=by rw[<-hH2,x14]
 have hDC:s.heap.objs.size≠H2.objs.size:=by rw[hCs];exact xy (x1a _)
 have hCle:s.heap.objs.size<=H2.objs.size:=by rw[hCs];exact Nat.le_succ _
 have below:∀b,b<s.heap.objs.size->b≠H2.objs.size:=fun b hb=>by rw[hCs];exact xy (x1n hb)
 have old:∀b o,s.heap.get? b=some o->h₁.get? b=some o:=fun b o e=>hsb₁.extBut b o (below b (xl e)) (xf _ (hH2▸xf _ e))
 have hacc:h₁.get? s.heap.objs.size=some { cls:=.type "list",data:=.seq ([]:List Value).toArray 0 }:=hsb₁.extBut _ _ hDC (xf _ (hH2▸xu _ rfl))
 have hlt:∀b∈fp,b<s.heap.objs.size:=fun b hb=>by
  obtain⟨o,e,_⟩:=T.obj _ _ st b hb
  exact xl e
 obtain⟨W,⟨m0,w0⟩,turn⟩:=go
 have nD:∀b∈fp,b≠s.heap.objs.size:=fun b hb=>xy (hlt b hb)
 have nfs:s.heap.objs.size∉frs X.stack:=fun z=>by
  obtain⟨_,o,ho,_⟩:=I.stack.mem z
  exact absurd (xl ho) (x0r _)
 have ncl:∀y c,(z25 X.env sc.names []).lookup y=some c->c≠s.heap.objs.size:=fun y c e=>by
  obtain⟨v,o,ho,_⟩:=I.cell y c (S.sub I e)
  exact xy (xl ho)
 have loop:∀s₃:Shared,s₃={ s with heap:=h₁,toks:=s.toks+([]:List (Str×Value)).length }->
   codeAny (model X.prog X.w) X.A (.compLoop (.ListComp elt [⟨tg,iter,ifs,0⟩] sc pos) 0 (.ref it) (.ref s.heap.objs.size) (compEnvC sc (z25 X.env sc.names []) H2.objs.size X.env))
    (RR (.ref s.heap.objs.size) H2.objs.size) s₃:=by
  rintro s₃ rfl
  have I0:Inv (zy X sc (x::y2::cap) s H H2.objs.size fp) [] (none::none::capt σ js) H { s with heap:=h₁,toks:=s.toks+([]:List (Str×Value)).length }:=ze8 (v:=none) S I hfp hlt hCle hns₁ old (s4:=s)
  refine z8h (fun n s'=>∃i H' acc its k,Inv (zy X sc (x::y2::cap) s H H2.objs.size fp) [] (none::none::capt σ js) H' s'/\tn i s'.heap/\(∀b∈fp,H' b=none)/\H' s.heap.objs.size=none/\
    s'.heap.get? s.heap.objs.size=some { cls:=.type "list",data:=.seq (its:List Value).toArray k }/\Vals acc its/\acc.length<=sizeLine/\W i n acc H') ?_ m0
   ⟨0,H,[],[],0,I0,T.keep _ _ _ st fun b _ o e=>old b o e,fun b hb=>(hfp b hb).1,I.hok.fresh (xk _),hacc,.nil,x03 _,w0⟩
  rintro n s3 ⟨i,H3,acc,its,kk,I3,st3,fr3,fD3,d3,r3,z3,w3⟩
  have fpY:∀{H':Hp}{pl:List (Addr×Obj)},(∀b∈fp,H' b=none)->(∀p∈pl,p.1=s.heap.objs.size)->∀b∈fp,FpOk (zy X sc (x::y2::cap) s H H2.objs.size fp) pl H' b:=fun{H' pl} hn hp b hb=>
   ⟨hn b hb,below b (hlt b hb),fun z=>by
    rcases xo.mp (I.stkSub b z) with q|q
    .exact(hfp b hb).2.1 q
    .exact(hfp b hb).2.2.1 q,.inl hb,fun y c e=>(hfp b hb).2.2.2.2.1 y c (S.sub I e),fun p hp'=>by
    rw[hp p hp']
    exact Ne.symm (nD b hb)⟩
  have pin3:Inv (zy X sc (x::y2::cap) s H H2.objs.size fp) [(s.heap.objs.size,{ cls:=.type "list",data:=.seq its.toArray kk })] (none::none::capt σ js) H3 s3:=I3.pins_of fun p hp=>by
   have e:p=(s.heap.objs.size,{ cls:=.type "list",data:=.seq its.toArray kk }):=by simpa using hp
   subst e
   exact⟨d3,fD3,hDC,nfs,fun v z=>by cases z⟩
  have onlyD:∀ p∈[(s.heap.objs.size,({ cls:=.type "list",data:=.seq its.toArray kk }:Obj))],p.1=s.heap.objs.size:=fun p hp=>by
   have e:p=(s.heap.objs.size,{ cls:=.type "list",data:=.seq its.toArray kk }):=by simpa using hp
   rw[e]
  rcases turn i n acc H3 w3 with⟨stop,qn⟩|⟨gon,hlen,step⟩
  .refine x0f (T.done (zy X sc (x::y2::cap) s H H2.objs.size fp) rfl rfl rfl hcalm i _ s3 _ H3 (fun _ _=>False) pin3 (fpY fr3 onlyD) st3 stop) (fun r s4 hr=>?_) fun _ _ z=>z.elim
   obtain⟨hr,I4⟩:=hr
   subst hr
   have d4:=(I4.pin _ (x01 _ x0c)).1
   exact hRR _ _ H3 s4 _ acc its kk (xk _) hCle hDC (I4.pins_of fun p hp=>by simp at hp) fD3 d4 r3 z3 qn
  .refine x0f (T.item (zy X sc (x::y2::cap) s H H2.objs.size fp) rfl rfl rfl hcalm i _ s3 _ H3 (fun _ _=>False) pin3 (fpY fr3 onlyD) st3 gon) (fun r s4 hr=>?_) fun _ _ z=>z.elim
   obtain⟨u,hr,h4⟩:=hr
   subst hr
   dsimp only
   refine x0f h4 (fun _ s5 h5=>?_) fun _ _ z=>z.elim
   obtain⟨xv,H5,I5,r5,y5,st5,fr5⟩:=h5
   have I5':=I5.pinned (fpY fr5 onlyD) (T.obj _ _ st5)
   refine x0f (hgt s H H2.objs.size fp _ s5 _ H5 _ _ _ I5' r5 (step xv H5 y5)) (fun _ s6 q6=>?_) fun _ _ z=>z.elim
   obtain⟨σ6,H6,I6',⟨va,vb,e6⟩,q6⟩:=q6
   subst e6
   refine x0f (hc s H H2.objs.size fp _ s6 _ H6 _ I6' q6) (fun b s7 q7=>?_) fun _ _ z=>z.elim
   obtain⟨H7,I7,q7⟩:=q7
   have weak:∀{pl:List (Addr×Obj)}{HH:Hp}{ss:Shared},Inv (zy X sc (x::y2::cap) s H H2.objs.size fp) pl (va::vb::capt σ js) HH ss->Inv (zy X sc (x::y2::cap) s H H2.objs.size fp) pl (none::none::capt σ js) HH ss:=fun J=>J.weak rfl fun k v e=>by
    cases k with
    |zero=>exact absurd (xq e) (by simp)
    |succ k=>
     cases k with
     |zero=>exact absurd (xq e) (by simp)
     |succ k=>simpa using e
   have back:∀{HH:Hp} {ss:Shared},Inv (zy X sc (x::y2::cap) s H H2.objs.size fp) ([(s.heap.objs.size,{ cls:=.type "list",data:=.seq its.toArray kk })]++z4t fp s5.heap) (va::vb::capt σ js) HH ss->
     tn (i+1) ss.heap/\(∀ b∈fp,HH b=none)/\HH s.heap.objs.size=none/\ss.heap.get? s.heap.objs.size=some { cls:=.type "list",data:=.seq its.toArray kk }:=fun{HH ss} K=>by
    refine⟨T.keep _ _ _ st5 fun b hb o e=>(K.pin (b,o) (x01 _ (x01 _ (z38 hb e)))).1,fun b hb=>?_,?_,?_⟩
    .obtain⟨o,e,d⟩:=T.obj _ _ st5 b hb
     exact(K.pin (b,o) (x01 _ (x01 _ (z38 hb e)))).2.1
    .exact(K.pin _ (x01 _ (x0t _ x0c))).2.1
    .exact(K.pin _ (x01 _ (x0t _ x0c))).1
   cases b with
   |false=>
    rw[if_neg xa]at q7⊢
    obtain⟨m',hm,w7⟩:=q7
    obtain⟨b1,b2,b3,b4⟩:=back I7
    exact⟨m',hm,i+1,H7,acc,its,kk,(weak I7).pins_of fun p hp=>by simp at hp,b1,b2,b3,b4,r3,z3,w7⟩
   |true=>
    rw[if_pos rfl]at q7⊢
    refine x0f (he s H H2.objs.size fp _ s7 _ H7 _ I7 q7) (fun u8 s8 q8=>?_) fun _ _ z=>z.elim
    obtain⟨v8,H8,I8,r8,m',hm,w8⟩:=q8
    obtain⟨b1,b2,b3,b4⟩:=back I8
    have hl3:=r3.length
    refine call_meets F.slot_list_append ⟨_,b4,rfl⟩ F.entry_list_append (F.args_list_append_2 _ _) (PySem.list_append s.heap.objs.size its.toArray kk u8 (by rw[xr];omega)) ⟨b4,?_⟩
    have q:=PySem.IsL.update b4 (·.push u8)
    obtain⟨n',q'⟩:∃ n',(s8.heap.update s.heap.objs.size (Obj.mapSeq (·.push u8))).get? s.heap.objs.size=some { cls:=.type "list",data:=.seq (its++[u8]).toArray n' }:=by
     rw[show(its++[u8]).toArray=its.toArray.push u8 by simp]
     exact⟨_,q⟩
    refine⟨m',hm,i+1,H8,acc++[v8],its++[u8],_,?_,T.keep _ _ _ b1 fun b hb o e=>(x1e s8.heap _ (Ne.symm (nD b hb))).trans e,b2,b3,q',r3.append (.cons r8 .nil),by rw[x00,List.length_singleton];omega,w8⟩
    exact Inv.turned (X:=zy X sc (x::y2::cap) s H H2.objs.size fp) (it:=s.heap.objs.size) ((weak I8).pins_of (pins':=[]) fun p hp=>by simp at hp) (fun b o hb e=>(x1e s8.heap _ (Ne.symm hb)).trans e) b3 hDC (.inr (xk _)) ncl (fun p hp=>absurd (show p∈([]:List (Addr×Obj)) from hp) (by simp))
 exact codeAny_compStart_list (loop _ rfl) (T.self _ 0 _ _ _ (T.keep _ _ _ st fun b _ o e=>old b o e) (loop _ rfl))
theorem z8r{wi:TI}(hcalm:X.calm=true)(S:CompScope2 X sc x y2 cap js)(hgt:∀s H C fp,PG (zy X sc (x::y2::cap) s H C fp) tg g2)(hi:PI X tg iter wi)(hc:∀s H C fp,PIf (zy X sc (x::y2::cap) s H C fp) ifs tc)(he:∀s H C fp,PE (zy X sc (x::y2::cap) s H C fp) elt te)
  (hs:∀x,foldedSetIterable iter X.env x=pure x:=by intro _;rfl):PE X (.ListComp elt [⟨tg,iter,ifs,0⟩] sc pos) (zi3 wi g2 tc te js):=by
 intro pins s σ H Q I h
 rw[eval_ListComp]
 refine wpAny_comprehension_free (use:=none) rfl hs (z64 (S.cells I)) S.kind S.names (thn (hi pins s σ H _ I h) fun v s1 h1=>thn h1 fun itv s2 h2=>?_)
 obtain⟨it,fp,tn,J,H2,e,I2,T,st2,f2,go⟩:=h2
 subst e
 refine ze9 S hgt hcalm hc he I2 T st2 f2 go fun D C HB sB σB acc its n hD hC hDC IB hHD hd rv hz q=>?_
 obtain⟨m,hn,_⟩:=IB.loc
 exact⟨m,hn,fun h' sb=>⟨.ref D,upd HB D (.lst acc),z8n (sc:=sc) (x:=x) (cap:=y2::cap) I2 f2 IB hC hD hDC hHD hd rv hz fun b o hb e=>sb.extBut b o hb e,rfl,q D hHD⟩⟩
end
end L2
end
section
namespace L2
open PySem PySem.Spec PyProof.Rows
theorem z9i(wi:TI)(g2:TG)(tc:TT)(te:TE)(js:List Nat)(σ:St)(H:Hp)(Q:VK):zi3 wi g2 tc te js σ H Q=wi σ H fun J H1=>z4s J g2 tc te js σ H1 Q:=rfl
theorem zbg(K:PySem.W.Frag)(ta tk:TA)(σ:St)(H:Hp)(R:It->Hp->Prop):zki K ta tk σ H R=ta σ H fun vs H1=>tk σ H1 fun ws H2=>∃a xs,vs=[.ref a]/\ws=[.int 1]/\SqL K H2 a xs/\R (Ite K a) H2:=rfl
section
variable {J:It}{K:PySem.W.Frag}{a:Addr}{xs:List V}{g2:TG}{tc:TT}{te:TE}{js:List Nat}{σ:St}{H1:Hp}{Q:VK}
theorem z8i(n:Nat)(hn:n<=sizeLine)(Pv:Nat->List V->Hp->Prop)(h0:Pv 0 [] H1)(hlen:∀i acc H,Pv i acc H->acc.length<=i)
  (hgo:∀i acc H,i<n->Pv i acc H->J.go i H) (hstop:∀acc H,Pv n acc H->J.stop n H)
  (hs:∀i acc H x H',i<n->Pv i acc H->J.yld i H x H'->g2 x (none::none::capt σ js) H' fun σ2 H4=>(∃a b,σ2=a::b::capt σ js)/\tc σ2 H4 fun b H2=>if b=true then te σ2 H2 fun v H3=>Nx n Pv i (acc++[v]) H3 else Nx n Pv i acc H2)
  (hd:∀acc H,Pv n acc H->∀p,H p=none->Q (.ref p) (upd H p (.lst acc))):z4s J g2 tc te js σ H1 Q:=by
 refine⟨fun i m acc H=>m=n-i/\i<=n/\Pv i acc H,⟨n,by simp,x03 _,h0⟩,?_⟩
 rintro i m acc H ⟨rfl,hi,p⟩
 by_cases hlt:i<n
 .exact .inr ⟨hgo i acc H hlt p,by have:=hlen i acc H p;omega,fun x H' y=>hs i acc H x H' hlt p y⟩
 .have e:i=n:=by omega
  subst e
  exact .inl ⟨hstop acc H p,hd acc H p⟩
theorem z7a(hn:xs.length<=sizeLine)(sp:Nat->List V->Hp->Prop)(h0:sp 0 [] H1)(hlen:∀i acc H,sp i acc H->acc.length<=i)(hl:∀i acc H,sp i acc H->SqL K H a xs)
  (hs:∀(Nt:List V->Hp->Prop) i acc H x,(∀acc H,sp (i+1) acc H->Nt acc H)->xs[i]? =some x->i<xs.length->sp i acc H->g2 x (none::none::capt σ js) H fun σ2 H4=>(∃a b,σ2=a::b::capt σ js)/\tc σ2 H4 fun b H2=>if b=true then te σ2 H2 fun v H3=>Nt (acc++[v]) H3 else Nt acc H2)
  (hd:∀acc H,sp xs.length acc H->∀p,H p=none->Q (.ref p) (upd H p (.lst acc))):z4s (Itl K a) g2 tc te js σ H1 Q:=by
 refine z8i xs.length hn sp h0 hlen (fun i acc H hi p=>⟨xs,xs[i],hl i acc H p,by simp[hi]⟩) (fun acc H p=>⟨xs,hl _ acc H p,xk _⟩) (fun i acc H x H' hi p y=>?_) hd
 obtain⟨e,y⟩:=y
 subst e
 exact hs (Nx xs.length sp i) i acc H' x (fun _ _ h=>nx hi h) (y xs (hl i acc H' p)) hi p
theorem zcr(hn:xs.length<=sizeLine)(sp:Nat->List V->Hp->Prop)(h0:sp 0 [] H1)(hlen:∀i acc H,sp i acc H->acc.length<=i)(hl:∀i acc H,sp i acc H->SqL K H a xs)
  (hs:∀(Nt:List V->Hp->Prop) i acc H x T,(∀acc H,sp (i+1) acc H->Nt acc H)->xs[i]? =some x->i<xs.length->sp i acc H->H T=none->g2 (.ref T) (none::none::capt σ js) (upd H T (.tup [.int ((i:Int)+1),x])) fun σ2 H4=>(∃a b,σ2=a::b::capt σ js)/\tc σ2 H4 fun b H2=>if b=true then te σ2 H2 fun v H3=>Nt (acc++[v]) H3 else Nt acc H2)
  (hd:∀acc H,sp xs.length acc H->∀p,H p=none->Q (.ref p) (upd H p (.lst acc))):z4s (Ite K a) g2 tc te js σ H1 Q:=by
 refine z8i xs.length hn sp h0 hlen (fun i acc H hi p=>⟨xs,xs[i],hl i acc H p,by simp[hi]⟩) (fun acc H p=>⟨xs,hl _ acc H p,xk _⟩) (fun i acc H x H' hi p y=>?_) hd
 obtain⟨T,v,rfl,hT,rfl,y⟩:=y
 exact hs (Nx xs.length sp i) i acc H v T (fun _ _ h=>nx hi h) (y xs (hl i acc H p)) hi p hT
end
section
variable {X:Cx}{k:Nat}{C:Addr}{m:Str}{ps:List Str}{sp:Sp}{o e:Expr}{es:List Expr}{ta:TE}{t:TA}{apos pos:Pos}{E:XK}
theorem zad{pl:Sem Bool}(hx:z3e (CX1 X.prog X.w) X E)(G:MHas X.prog X.w X.K X.mg X.base (CX1 X.prog X.w) k C m ps sp)(c:Cls X.K C)(hr:Room k X.A)(he:PE X o ta)(ha:PA X (e::es) t)
  (hst:starEach (e::es) X.env=(false,eval e X.env)::starEach es X.env:=by rfl) (hpl:(backTo pos (starEach es X.env)).any (·.1)=false:=by rfl)
  (ht:eval (.Call (.Attribute o m apos) (e::es) [] pos) X.env=(do
   let ov<-eval o X.env
   standAt apos.atName
   let (f,first)<-holding [ov] (getMethod ov m pl)
   callWith pos f first (backTo pos (starEach (e::es) X.env)) (backToKw pos (keywordEach [] X.env))):=by rfl):
  PE X (.Call (.Attribute o m apos) (e::es) [] pos) (z62 C m sp [] E ta t):=by
 obtain⟨f,fd,F,hm,hb⟩:=G
 exact zev he c hm F hr hb .nil hx ha hst hpl ht
end
theorem z7b{X:Cx}{K:PySem.W.Frag}{pos:Pos}{es:List Expr}{k:Nat}{t:TGs}(hc:X.calm=true)(h:PGs X es t)(hn:(assignEach es X.env).length=2:=by rfl)(hst:(assignEach es X.env).findIdx? (·.1)=none:=by rfl)(hK:X.K=K:=by rfl):PG X (.Tuple es k pos) (gTup K 2 t):=hK▸z9b hc h hn hst
theorem zl5{X:Cx}{k:Nat}{C:Addr}{x:Str}{ps:List Str}{sp:Sp}{p pos:Pos}{e:Expr}{es:List Expr}{t:TA}(G:KHas X.prog X.w X.K X.mg X.base k C ps sp)(hr:Room (k+1) X.A)(hg:Gl X x)(hm:X.mg x=some (.ref C))(ha:PA X (e::es) t)(hdb:(x==("__debug__":Str))=false:=by decide)
  (he:starEach (e::es) X.env=(false,eval e X.env)::starEach es X.env:=by rfl) (hpl:(backTo pos (starEach es X.env)).any (·.1)=false:=by rfl):PE X (.Call (.Name x p) (e::es) [] pos) (z80 C sp [] E0 t):=by
 obtain⟨f,fd,F,M,hb⟩:=G
 exact zkw M F hr hg hm hb .nil z9d ha hdb he hpl
section
variable {X:Cx}
end
end L2
end
section
namespace L2
open PySem PySem.Spec PyProof.Rows
section
variable {X:Cx}
end
section
variable {X:Cx}
end
end L2
end
section
namespace L2
open PySem PySem.Spec PyProof.Rows
section
variable {X:Cx}
end
end L2
end
section
namespace L2
open PySem PySem.Spec PyProof.Rows
section
variable {X:Cx}
end
end L2
end
section
namespace L2
open PySem PySem.Spec PyProof.Rows
section
variable {X:Cx}
end
end L2
end
section
namespace PySem
open PyProof.Rows (StrsAre)
theorem zez(t:SetTable)(j:Nat):(t.put j).1.led=t.led/\(t.put j).1.plain=t.plain:=by
 unfold SetTable.put;exact⟨rfl,rfl⟩
theorem zgb(t:SetTable)(es:Array (Int×Value))(h:Int)(x:Value):
  (layNew t es h x).2.1.led=t.led/\(t.plain=false->(layNew t es h x).2.1.plain=false):=by
 unfold layNew
 split
 .dsimp only
  unfold SetTable.orStandIn
  split
  .exact⟨(zez t _).1,fun p=>(zez t _).2.trans p⟩
  .exact⟨rfl,fun _=>rfl⟩
 .exact⟨rfl,fun _=>rfl⟩
theorem zjp{mask finger moves:Nat}{led plain:Bool}{hs:Array Int}{r:SetTable×Array Nat}
  (e:SetTable.laid mask finger moves led plain hs=some r):r.1.led=led/\r.1.plain=plain:=by
 unfold SetTable.laid at e
 simp only[Option.bind_eq_bind,Option.bind_eq_some_iff,Option.some.injEq,Option.pure_def]at e
 obtain⟨o,_,rfl⟩:=e
 exact⟨rfl,rfl⟩
theorem zcs(t:SetTable)(es:Array (Int×Value))(n:Nat):
  (relayAll t es n).2.1.led=t.led/\(t.plain=false->(relayAll t es n).2.1.plain=false):=by
 unfold relayAll
 split
 .rename_i e
  dsimp only
  split
  .unfold SetTable.relaid at e
   have:=zjp e
   exact⟨this.1,fun p=>this.2.trans p⟩
  .exact⟨rfl,fun _=>rfl⟩
 .exact⟨rfl,fun _=>rfl⟩
noncomputable def TextSet(prog:Program)(w:World)(h:Heap)(a:Addr)(D:List Str)(led:Bool):Prop:=
 ∃o es ep t,h.get? a=some o/\o.ExactSet/\o.data=.set es ep t/\ElemsOf (strKind prog w) es.toList/\
  (∀k,decide (k∈D)=true↔∃e∈es.toList,(strKind prog w).is k e.2=true)/\
  es.size<scanBound/\t.fits es.size=true/\es.size=D.length/\t.led=led/\(es.size≠0->t.plain=false)
section
variable {prog:Program}{w:World}{A:Around}{E:Value->Shared->Prop}{s:Shared}
theorem TextSet.keep{h h':Heap}{a:Addr}{D:List Str}{led:Bool}(T:TextSet prog w h a D led)
  (e:∀o,h.get? a=some o->h'.get? a=some o):TextSet prog w h' a D led:=by
 obtain⟨o,es,ep,t,ho,more⟩:=T
 exact⟨o,es,ep,t,e o ho,more⟩
end
section
variable {prog:Program}{w:World}{A:Around}{R:Result->Shared->Prop}{I:Addr}
variable {fp wr:List Addr}{G:Array GenState->Array GenState->Prop}{P:Nat->Value->Prop}{St:Nat->Shared->Prop}
end
noncomputable abbrev z3a(w:World):Bool:=!(w.params.followText "set-order")
section
variable {prog:Program}{w:World}{A:Around}{E:Value->Shared->Prop}{s:Shared}
noncomputable abbrev z26(led:Bool):Obj:={ cls:=.type "set",dict:=none,data:=.set #[] 0 (.fresh 0 0 led) }
theorem zea(a:Value){Q₁:Value->Shared->Prop}
  (h:Q₁ (.ref s.heap.objs.size) { s with heap:=s.heap.push (z26 (z3a w)) }):
  codeAny (model prog w) A (.call (.builtin "set.__new__") ⟨[.type "set",a],[]⟩) (wants Q₁ E) s:=by
 refine codeAny_of_tree ?_
 have c:=F.newCall_set_1 a
 show wpAny _ A.in1 (checkBuiltinCall "set.__new__" ⟨[.type "set",a],[]⟩>>=fun _=>again (.builtin "set.__new__" ⟨[.type "set",a],[]⟩)) _ _ s
 refine x8 (wpAny_of_eq c (xh ⟨plainId_quiet F.plain_set_new _,?_⟩))
 refine codeAny_builtin F.entry_set_new ?_
 rw[Around.under_plainId F.plain_set_new _]
 unfold Builtin.«set.__new__» Builtin.Frozenset.newClass
 have sub:=sub_set_self
 obtain⟨hp,g,d,tk,os⟩:=s
 dsimp only
 wp_walk
 refine wpAny_askSetting (xh ?_)
 dsimp only
 simp only[newObj]
 refine x8 (wpAny_alloc (xh ?_))
 exact xh h
end
end PySem
end
section
namespace PySem
open PyProof.Rows (StrsAre)
section
variable {prog:Program}{w:World}{A:Around}{E:Value->Shared->Prop}{s:Shared}
end
end PySem
end
section
namespace PySem
open PyProof.Rows (StrsAre)
section
variable {prog:Program}{w:World}{A:Around}{E:Value->Shared->Prop}
theorem zct{src:Source}{n:Nat}{Q:Nat->Shared->Prop}{s:Shared}(hn:n≠0)
  (h:∀i,i<n->Q i { s with drawn:=s.drawn.bump src }):wpAny (model prog w) A (choose src n) Q E s:=by
 intro Γ p hA
 exact⟨hn,h _ (Nat.mod_lt _ (Nat.pos_of_ne_zero hn))⟩
theorem z4c{α:Type}:∀(l:List α)(i:Nat)(h:i<l.length),List.Perm (l[i]::l.eraseIdx i) l
 |x::l,0,h=>by simp
 |x::l,i+1,h=>by
  have:=z4c l i (by simpa using h)
  simp only[List.getElem_cons_succ,List.eraseIdx_cons_succ]
  exact(List.Perm.swap ..).trans (this.cons x)
theorem zbr{α:Type}:drawOrder 0 ([]:List α)=pure []:=by rw[drawOrder]
theorem z9j{α:Type}(n:Nat):∀(xs:List α){Q:List α->Shared->Prop}{s:Shared},xs.length=n->
  (∀ys d,List.Perm ys xs->Q ys { s with drawn:=d })->wpAny (model prog w) A (drawOrder n xs) Q E s:=by
 induction n with
 |zero=>
  intro xs Q s hl h
  have e:=List.length_eq_zero_iff.mp hl
  subst e
  rw[zbr]
  exact xh (h [] s.drawn .nil)
 |succ n ih=>
  intro xs Q s hl h
  cases xs with
  |nil=>cases hl
  |cons x xs=>
   rw[drawOrder]
   case x_2=>intro z;cases z
   refine x8 (zct (by simp) fun i hi=>?_)
   rw[x6 hi]
   dsimp only
   refine x8 (ih _ (by rw[List.length_eraseIdx_of_lt hi];omega) fun ys d pr=>?_)
   exact xh (h _ d ((pr.cons _).trans (z4c _ _ hi)))
theorem z8j{α:Type}(next:Nat->Nat):∀(fuel k:Nat)(left:List α)(out:Array α),left.length=fuel->
  (pickOrder.go next fuel k left out).toList.Perm (out.toList++left)
 |0,k,left,out,h=>by
  rw[List.length_eq_zero_iff.mp h];unfold pickOrder.go;simp
 |fuel+1,k,left,out,h=>by
  unfold pickOrder.go
  have hi:next k%left.length<left.length:=Nat.mod_lt _ (by omega)
  rw[x6 hi]
  dsimp only
  refine(z8j next fuel _ _ _ (by rw[List.length_eraseIdx_of_lt hi];omega)).trans ?_
  rw[Array.toList_push,List.append_assoc]
  exact(z4c _ _ hi).append_left _
theorem z3z{α:Type}(next:Nat->Nat)(xs:Array α):(pickOrder next xs).toList.Perm xs.toList:=by
 have:=z8j next xs.size 0 xs.toList #[] (by simp)
 simpa[pickOrder]using this
end
end PySem
end
section
namespace PySem
open PyProof.Rows (StrsAre)
theorem zbs:entryFor table "set.__iter__"=some Builtin.«frozenset.__iter__»:=
 entryFor_alias (id':="frozenset.__iter__") (by kernel_rfl) rfl (by decide+kernel) (by kernel_rfl)
theorem zcu(v:Value):argsOk "set.__iter__" ⟨[v],[]⟩:=by unfold argsOk;kernel_rfl
theorem slot_setNext:Slot "set_iterator" "__next__" "set_iterator.__next__":=by
 refine .of (owner:="set_iterator") (n:="__next__") ?_ ?_ ?_ ?_ ?_ ?_
 .rw[typeLookup_type,builtinLookup_eq_fast];kernel_rfl
 .decide+kernel
 .decide+kernel
 .decide+kernel
 .first
   |exact .inl (by decide+kernel)
   |exact .inr (by decide+kernel)
 .rw[isSubtype_type];kernel_rfl
theorem z4w:Slot "set_iterator" "__iter__" "set_iterator.__iter__":=by
 refine .of (owner:="set_iterator") (n:="__iter__") ?_ ?_ ?_ ?_ ?_ ?_
 .rw[typeLookup_type,builtinLookup_eq_fast];kernel_rfl
 .decide+kernel
 .decide+kernel
 .decide+kernel
 .first
   |exact .inl (by decide+kernel)
   |exact .inr (by decide+kernel)
 .rw[isSubtype_type];kernel_rfl
theorem z3h:entryFor table "set_iterator.__next__"=some Builtin.«set_iterator.__next__»:=by
 refine entryFor_of_tree ?_
 kernel_rfl
theorem z3q(v:Value):argsOk "set_iterator.__next__" ⟨[v],[]⟩:=by unfold argsOk;kernel_rfl
section
variable {prog:Program}{w:World}{A:Around}{E:Value->Shared->Prop}{s:Shared}
theorem z2s{Q:Bool->Shared->Prop}(h:Q (w.params.followText "set-order") s):
  wpAny (model prog w) A setsByText Q E s:=by
 unfold setsByText
 exact x8 (wpAny_askSetting (xh h))
noncomputable abbrev z1q(first:Value)(i:Nat)(a:Addr)(n ep:Nat):Obj:=
 { cls:=.type "set_iterator",data:=.fields #[first,.int i 0,.ref a,.int n 0,.int ep 0] }
theorem zgc{a:Addr}{o:Obj}{es:Array (Int×Value)}{ep:Nat}{t:SetTable}{Q:Value->Shared->Prop}
  (ho:s.heap.get? a=some o) (hx:o.ExactSet) (hd:o.data=.set es ep t) (hf:t.fits es.size=true) (hb:es.size<scanBound)
  (hdrawn:w.params.followText "set-order"=false->t.plain=false->es.size>1->∀(ps:List Nat) d,ps.Perm (List.range es.size)->
   Q (.ref (s.heap.objs.size+1)) { s with
    heap:=(s.heap.push { cls:=.type "tuple",data:=.seq (ps.map fun(i:Nat)=>rawInt i).toArray }).push (z1q (.ref s.heap.objs.size) 0 a es.size ep),drawn:=d })
  (hplace:(w.params.followText "set-order"=true\/t.plain=true\/es.size<=1)->
   Q (.ref s.heap.objs.size) { s with heap:=s.heap.push (z1q (.int 0 0) 0 a es.size ep) }):
  wpAny (model prog w) A (pyIter (.ref a)) Q E s:=by
 have ty:s.TypeIs (.ref a) "set":=⟨o,ho,hx.1⟩
 refine wpAny_pyIter_slot ty F.slot_set_iter (x1j F.slot_set_iter ty zbs ?_ (zcu _))
 unfold Builtin.«frozenset.__iter__» Builtin.Frozenset.slot0 slotArgs
 simp only[List.isEmpty_nil,Bool.not_true,x0i,↓reduceIte,bind_assoc,List.length_nil,bne_self_eq_false]
 unfold Builtin.Frozenset.addrOf Builtin.Frozenset.sizeOf setDrawn
 refine x8 (xh ?_)
 dsimp only
 refine x8 (xh ?_)
 refine x8 (x8 (wpAny_setEntries_of ho hd hf (xh ?_)))
 refine x8 (x8 (wpAny_setState_of ho hd hf ?_))
 dsimp only
 refine x8 (z2s (xh ?_))
 have look:=slot_setNext.lookup
 by_cases c:(!w.params.followText "set-order" &&(!t.plain&&decide (es.size>1)))=true
 .refine(?_:wpAny _ _ (if(!w.params.followText "set-order" &&(!t.plain&&decide (es.size>1)))=true then _ else _) _ _ _)
  rw[if_pos c]
  simp only[x07,Bool.not_eq_true',x10]at c
  refine x8 (z9j _ _ (by simp) fun ps d pr=>?_)
  unfold newTuple
  refine x8 (x0z ?_ (by
   have l:=fits_of_scanBound hb
   have z:=pr.length_eq
   simp only[List.length_range]at z
   show _<=sizeLine
   simp only[xr,x0]
   omega))
  refine x8 (wpAny_setEpoch_of (xf _ ho) hd hf ?_)
  unfold newFields
  refine x8 (x0z (xh ⟨_,rfl,"set_iterator",_,⟨_,xu _ rfl,rfl⟩,look,?_⟩))
  have:=hdrawn c.1 c.2.1 c.2.2 ps d pr
  rw[x14]
  exact this
 .refine(?_:wpAny _ _ (if(!w.params.followText "set-order" &&(!t.plain&&decide (es.size>1)))=true then _ else _) _ _ _)
  rw[if_neg c]
  refine x8 (xh ?_)
  refine x8 (wpAny_setEpoch_of ho hd hf ?_)
  unfold newFields
  refine x8 (x0z (xh ⟨_,rfl,"set_iterator",_,⟨_,xu _ rfl,rfl⟩,look,?_⟩))
  refine hplace ?_
  cases hb:w.params.followText "set-order" with
  |true=>exact .inl rfl
  |false=>
   cases hp:t.plain with
   |true=>exact .inr (.inl rfl)
   |false=>
    refine .inr (.inr ?_)
    rw[hb,hp]at c;simp at c;omega
noncomputable def SetIterAt(h:Heap)(I:Addr)(first:Value)(i:Nat)(a:Addr)(n ep:Nat):Prop:=
 ∃ o,h.get? I=some o/\o.cls=.type "set_iterator"/\o.data=.fields #[first,.int i 0,.ref a,.int n 0,.int ep 0]
theorem zbt{I T a:Addr}{i:Nat}{o oT:Obj}{es:Array (Int×Value)}{ep:Nat}{t:SetTable}{ps:List Nat}{nT:Nat}{Q:Option Value->Shared->Prop}
  (ho:s.heap.get? a=some o) (hd:o.data=.set es ep t) (hf:t.fits es.size=true)
  (hi:SetIterAt s.heap I (.ref T) i a es.size ep) (gT:s.heap.get? T=some oT) (dT:oT.data=.seq (ps.map fun(i:Nat)=>rawInt i).toArray nT)
  {p:Nat} {e:Int×Value} (hp:ps[i]? =some p) (he:es[p]? =some e)
  (h:∀h',SetIterAt h' I (.ref T) (i+1) a es.size ep->Heap.SameBut I s.heap h'->Q (some e.2) { s with heap:=h' }):
  wpAny (model prog w) A (pyNext (.ref I)) Q E s:=by
 obtain⟨oI,gI,cI,dI⟩:=hi
 have ty:s.TypeIs (.ref I) "set_iterator":=⟨oI,gI,cI⟩
 unfold pyNext
 refine x8 (wpAny_attempt (wpAny_callSpecial?_slot (name:=Str.ofString "__next__") ty slot_setNext
  (x1j slot_setNext ty z3h ?_ (z3q _))))
 unfold Builtin.«set_iterator.__next__» slotArgs
 simp only[List.isEmpty_nil,Bool.not_true,x0i,↓reduceIte,bind_assoc,List.length_nil,bne_self_eq_false]
 refine x8 (xh ?_)
 dsimp only
 refine x8 (wpAny_fieldsOf gI dI ?_)
 dsimp only
 refine x8 (wpAny_setEntries_of ho hd hf ?_)
 rw[if_neg (show¬((((es.size:Nat):Int) !=((es.size:Nat):Int))=true) by simp)]
 refine x8 (wpAny_seqItems gT dT ?_)
 have look:(ps.map fun(i:Nat)=>rawInt i).toArray[(↑i:Int).toNat]? =some (.int p 0):=by
  simp[hp,rawInt]
 dsimp only
 rw[look]
 dsimp only
 unfold setNextDrawn
 refine x8 (x8 (wpAny_setState_of ho hd hf ?_))
 dsimp only
 rw[if_neg (show¬((ep !=(↑ep:Int).toNat)=true) by simp)]
 have look2:es[(↑p:Int).toNat]? =some e:=by simpa using he
 rw[look2]
 dsimp only
 refine xh ?_
 refine x8 (wpAny_setField gI dI (by simp) (xh ⟨e.2,rfl,xh (h _ ?_ (x17 ..))⟩))
 refine⟨_,x1l _ gI (Obj.isFreed_of_fields (x1p dI _)),(Obj.cls_mapFields ..).trans cI,?_⟩
 rw[x1p dI]
 simp[rawInt]
end
end PySem
end
section
namespace PySem
open PyProof.Rows (StrsAre)
section
variable {prog:Program}{w:World}{A:Around}{E:Value->Shared->Prop}{s:Shared}
theorem z88{I T a:Addr}{i:Nat}{o oT:Obj}{es:Array (Int×Value)}{ep:Nat}{t:SetTable}{ps:List Nat}{nT:Nat}{Q:Option Value->Shared->Prop}
  (hh:A.handled=none) (ho:s.heap.get? a=some o) (hd:o.data=.set es ep t) (hf:t.fits es.size=true)
  (hi:SetIterAt s.heap I (.ref T) i a es.size ep) (gT:s.heap.get? T=some oT) (dT:oT.data=.seq (ps.map fun(i:Nat)=>rawInt i).toArray nT)
  (hp:ps[i]? =none) (h:∀h',Heap.ExtBut I s.heap h'->Q none { s with heap:=h' }):
  wpAny (model prog w) A (pyNext (.ref I)) Q E s:=by
 obtain⟨oI,gI,cI,dI⟩:=hi
 have ty:s.TypeIs (.ref I) "set_iterator":=⟨oI,gI,cI⟩
 unfold pyNext
 refine x8 (wpAny_attempt (wpAny_callSpecial?_slot (name:=Str.ofString "__next__") ty slot_setNext
  (x1j slot_setNext ty z3h ?_ (z3q _))))
 unfold Builtin.«set_iterator.__next__» slotArgs
 simp only[List.isEmpty_nil,Bool.not_true,x0i,↓reduceIte,bind_assoc,List.length_nil,bne_self_eq_false]
 refine x8 (xh ?_)
 dsimp only
 refine x8 (wpAny_fieldsOf gI dI ?_)
 dsimp only
 refine x8 (wpAny_setEntries_of ho hd hf ?_)
 rw[if_neg (show¬((((es.size:Nat):Int) !=((es.size:Nat):Int))=true) by simp)]
 refine x8 (wpAny_seqItems gT dT ?_)
 have look:(ps.map fun(i:Nat)=>rawInt i).toArray[(↑i:Int).toNat]? =none:=by
  simp at hp;simp[hp]
 dsimp only
 rw[look]
 dsimp only
 refine x8 (wpAny_setField gI dI (by simp) ?_)
 have g2:=x1l (Obj.mapFields (·.setIfInBounds 0 (rawInt 0))) gI (Obj.isFreed_of_fields (x1p dI _))
 refine x8 (wpAny_setField g2 (x1p dI _) (by simp) ?_)
 refine x8 ?_
 simp only[newExc,newTuple]
 refine x8 (x0z ?_ (by size_fits))
 refine x8 (m:=firstArgMember _ _) (wpAny_of_eq (a:=Value.none) (by simp only[firstArgMember];rfl) ?_)
 refine x0z ?_ (by size_fits)
 simp only[raiseNew]
 refine x8 (wpAny_handled ?_)
 rw[show A.in1.handled=none from hh]
 refine x8 (xh (wpAny_throw ?_))
 refine x8 (wpAny_isInstance (T:="StopIteration") (b:=true) ⟨_,xu _ rfl,rfl⟩ isSubtype_stop ?_)
 exact xh (h _ ((((x17 ..).trans (x17 ..)).extBut.push _).push _))
theorem z7c{a:Addr}{o:Obj}{es:Array (Int×Value)}{ep:Nat}{t:SetTable}{slot i:Nat}{Q:Option (Value×Nat)->Shared->Prop}
  (hw:w.params.followText "set-order"=true) (ho:s.heap.get? a=some o) (hd:o.data=.set es ep t) (hf:t.fits es.size=true)
  (h:Q (((pickOrder (w.params.setOrder a ep) es)[i]?).map fun e=>(e.2,slot)) s):wpAny (model prog w) A (setNext a slot i ep) Q E s:=by
 unfold setNext
 refine x8 (wpAny_setState_of ho hd hf ?_)
 dsimp only
 refine x8 (z2s ?_)
 rw[hw]
 simp only[↓reduceIte,bne_self_eq_false,x0i]
 unfold setWalk
 refine x8 (x8 (wpAny_setState_of ho hd hf ?_))
 dsimp only
 refine x8 (z2s ?_)
 rw[hw]
 simp only[↓reduceIte]
 refine x8 (wpAny_askSetting (xh ?_))
 exact xh h
end
end PySem
end
section
namespace PySem
open PyProof.Rows (StrsAre)
section
variable {prog:Program}{w:World}{A:Around}{E:Value->Shared->Prop}{s:Shared}
theorem z7d{I a:Addr}{slot i next:Nat}{x:Value}{o:Obj}{es:Array (Int×Value)}{ep:Nat}{t:SetTable}{Q:Option Value->Shared->Prop}
  (ho:s.heap.get? a=some o) (hd:o.data=.set es ep t) (hf:t.fits es.size=true)
  (hi:SetIterAt s.heap I (.int slot 0) i a es.size ep)
  (hs:∀(A:Around)(E:Value->Shared->Prop)(Q:Option (Value×Nat)->Shared->Prop),Q (some (x,next)) s->wpAny (model prog w) A (setNext a slot i ep) Q E s)
  (h:∀h',SetIterAt h' I (.int next 0) (i+1) a es.size ep->Heap.SameBut I s.heap h'->Q (some x) { s with heap:=h' }):
  wpAny (model prog w) A (pyNext (.ref I)) Q E s:=by
 obtain⟨oI,gI,cI,dI⟩:=hi
 have ty:s.TypeIs (.ref I) "set_iterator":=⟨oI,gI,cI⟩
 unfold pyNext
 refine x8 (wpAny_attempt (wpAny_callSpecial?_slot (name:=Str.ofString "__next__") ty slot_setNext
  (x1j slot_setNext ty z3h ?_ (z3q _))))
 unfold Builtin.«set_iterator.__next__» slotArgs
 simp only[List.isEmpty_nil,Bool.not_true,x0i,↓reduceIte,bind_assoc,List.length_nil,bne_self_eq_false]
 refine x8 (xh ?_)
 dsimp only
 refine x8 (wpAny_fieldsOf gI dI ?_)
 dsimp only
 refine x8 (wpAny_setEntries_of ho hd hf ?_)
 rw[if_neg (show¬((((es.size:Nat):Int) !=((es.size:Nat):Int))=true) by simp)]
 simp only[x11]
 refine x8 (hs _ _ _ ?_)
 dsimp only
 refine x8 (wpAny_setField gI dI (by simp) ?_)
 have d2:=x1p dI (·.setIfInBounds 0 (rawInt next))
 have g2:=x1l (Obj.mapFields (·.setIfInBounds 0 (rawInt next))) gI (Obj.isFreed_of_fields d2)
 refine x8 (wpAny_setField g2 d2 (by simp) (xh ⟨x,rfl,xh (h _ ?_ ((x17 ..).trans (x17 ..)))⟩))
 refine⟨_,x1l _ g2 (Obj.isFreed_of_fields (x1p d2 _)),?_,?_⟩
 .exact(Obj.cls_mapFields ..).trans ((Obj.cls_mapFields ..).trans cI)
 .rw[x1p d2]
  simp[rawInt]
theorem z4x{I a:Addr}{slot i:Nat}{o:Obj}{es:Array (Int×Value)}{ep:Nat}{t:SetTable}{Q:Option Value->Shared->Prop}
  (hh:A.handled=none) (ho:s.heap.get? a=some o) (hd:o.data=.set es ep t) (hf:t.fits es.size=true)
  (hi:SetIterAt s.heap I (.int slot 0) i a es.size ep)
  (hs:∀(A:Around)(E:Value->Shared->Prop)(Q:Option (Value×Nat)->Shared->Prop),Q none s->wpAny (model prog w) A (setNext a slot i ep) Q E s)
  (h:∀h',Heap.ExtBut I s.heap h'->Q none { s with heap:=h' }):
  wpAny (model prog w) A (pyNext (.ref I)) Q E s:=by
 obtain⟨oI,gI,cI,dI⟩:=hi
 have ty:s.TypeIs (.ref I) "set_iterator":=⟨oI,gI,cI⟩
 unfold pyNext
 refine x8 (wpAny_attempt (wpAny_callSpecial?_slot (name:=Str.ofString "__next__") ty slot_setNext
  (x1j slot_setNext ty z3h ?_ (z3q _))))
 unfold Builtin.«set_iterator.__next__» slotArgs
 simp only[List.isEmpty_nil,Bool.not_true,x0i,↓reduceIte,bind_assoc,List.length_nil,bne_self_eq_false]
 refine x8 (xh ?_)
 dsimp only
 refine x8 (wpAny_fieldsOf gI dI ?_)
 dsimp only
 refine x8 (wpAny_setEntries_of ho hd hf ?_)
 rw[if_neg (show¬((((es.size:Nat):Int) !=((es.size:Nat):Int))=true) by simp)]
 simp only[x11]
 refine x8 (hs _ _ _ ?_)
 dsimp only
 refine x8 (wpAny_setField gI dI (by simp) ?_)
 refine x8 ?_
 simp only[newExc,newTuple]
 refine x8 (x0z ?_ (by size_fits))
 refine x8 (m:=firstArgMember _ _) (wpAny_of_eq (a:=Value.none) (by simp only[firstArgMember];rfl) ?_)
 refine x0z ?_ (by size_fits)
 simp only[raiseNew]
 refine x8 (wpAny_handled ?_)
 rw[show A.in1.handled=none from hh]
 refine x8 (xh (wpAny_throw ?_))
 refine x8 (wpAny_isInstance (T:="StopIteration") (b:=true) ⟨_,xu _ rfl,rfl⟩ isSubtype_stop ?_)
 exact xh (h _ (((x17 ..).extBut.push _).push _))
end
end PySem
end
section
namespace PySem
open PyProof.Rows (StrsAre)
theorem z89:entryFor table "set_iterator.__iter__"=some Builtin.«dict_keyiterator.__iter__»:=
 entryFor_alias (id':="dict_keyiterator.__iter__") (by kernel_rfl) rfl (by decide+kernel) (by kernel_rfl)
theorem z8s(v:Value):argsOk "set_iterator.__iter__" ⟨[v],[]⟩:=by unfold argsOk;kernel_rfl
section
variable {prog:Program}{w:World}{A:Around}{E:Value->Shared->Prop}{s:Shared}
theorem z4y{I a:Addr}{first:Value}{i n ep:Nat}{Q:Value->Shared->Prop}(hi:SetIterAt s.heap I first i a n ep)
  (h:Q (.ref I) s):wpAny (model prog w) A (pyIter (.ref I)) Q E s:=by
 obtain⟨o,g,c,d⟩:=hi
 have ty:s.TypeIs (.ref I) "set_iterator":=⟨o,g,c⟩
 refine wpAny_pyIter_slot ty z4w (x1j z4w ty z89 ?_ (z8s _))
 show wpAny _ _ (ret (.ref I)) _ _ s
 exact xh ⟨_,rfl,"set_iterator",_,ty,slot_setNext.lookup,h⟩
theorem SetIterAt.keep{h h':Heap}{I a:Addr}{first:Value}{i n ep:Nat}(t:SetIterAt h I first i a n ep)
  (e:∀o,h.get? I=some o->h'.get? I=some o):SetIterAt h' I first i a n ep:=by
 obtain⟨o,g,r⟩:=t
 exact⟨o,e o g,r⟩
theorem zeb(hh:A.handled=none){I T a:Addr}{o oT:Obj}{es:Array (Int×Value)}{ep:Nat}{t:SetTable}{ps:List Nat}{nT:Nat}
  (hd:o.data=.set es ep t) (hf:t.fits es.size=true) (dT:oT.data=.seq (ps.map fun(i:Nat)=>rawInt i).toArray nT)
  (hI:a≠I) (hT:T≠I) (pr:ps.Perm (List.range es.size)):
  WalksS prog w A I [I,a,T] [I] (fun x y=>x=y) es.size (fun i v=>∃p e,ps[i]? =some p/\es[p]? =some e/\v=e.2)
   (fun i s=>SetIterAt s.heap I (.ref T) i a es.size ep/\s.heap.get? a=some o/\s.heap.get? T=some oT) where
 sub:=fun b hb=>by simp at hb;simp[hb]
 grefl:=fun _=>rfl
 gtrans:=fun _ _ _ p q=>p.trans q
 frame:=fun i s h' tk st _ k=>⟨st.1.keep (k I (by simp)),k a (by simp) _ st.2.1,k T (by simp) _ st.2.2⟩
 item:=fun i s Q E lt st hQ=>by
  have len:ps.length=es.size:=by simpa using pr.length_eq
  have hp:ps[i]? =some ps[i]:=x6 (by omega)
  have mem:ps[i]<es.size:=x0s.mp (pr.mem_iff.mp (x1b _))
  have he:es[ps[i]]? =some es[ps[i]]:=x0w mem
  refine zbt st.2.1 hd hf st.1 st.2.2 dT hp he fun h' si sb=>?_
  refine hQ _ _ ⟨_,_,hp,he,rfl⟩ ⟨si,?_,?_⟩ ⟨fun b o' hb e=>?_,rfl,rfl,rfl,xk _⟩
  .exact(sb.2 a hI).trans st.2.1
  .exact(sb.2 T hT).trans st.2.2
  .exact(sb.2 b (by simpa using hb)).trans e
 done:=fun s Q E st hQ=>by
  have len:ps.length=es.size:=by simpa using pr.length_eq
  refine z88 hh st.2.1 hd hf st.1 st.2.2 dT (x1m (by omega)) fun h' xb=>?_
  exact hQ _ ⟨fun b o' hb e=>xb b o' (by simpa using hb) e,rfl,rfl,rfl,xk _⟩
 self:=fun i s Q E st h=>z4y st.1 h
theorem zgd(hh:A.handled=none)(hw:w.params.followText "set-order"=true){I a:Addr}{o:Obj}{es:Array (Int×Value)}{ep:Nat}{t:SetTable}
  (hd:o.data=.set es ep t) (hf:t.fits es.size=true) (hI:a≠I):
  WalksS prog w A I [I,a] [I] (fun x y=>x=y) es.size (fun i v=>∃e,(pickOrder (w.params.setOrder a ep) es)[i]? =some e/\v=e.2)
   (fun i s=>SetIterAt s.heap I (.int (0:Nat) 0) i a es.size ep/\s.heap.get? a=some o) where
 sub:=fun b hb=>by simp at hb;simp[hb]
 grefl:=fun _=>rfl
 gtrans:=fun _ _ _ p q=>p.trans q
 frame:=fun i s h' tk st _ k=>⟨st.1.keep (k I (by simp)),k a (by simp) _ st.2⟩
 item:=fun i s Q E lt st hQ=>by
  have len:(pickOrder (w.params.setOrder a ep) es).size=es.size:=by
   rw[<-x0g,(z3z _ _).length_eq,x0g]
  have he:(pickOrder (w.params.setOrder a ep) es)[i]? =some (pickOrder (w.params.setOrder a ep) es)[i]:=x0w (by omega)
  refine z7d (next:=0) (x:=(pickOrder (w.params.setOrder a ep) es)[i].2) st.2 hd hf st.1 (fun A' E' Q' q=>z7c hw st.2 hd hf (by rw[he];exact q)) fun h' si sb=>?_
  refine hQ _ _ ⟨_,he,rfl⟩ ⟨si,(sb.2 a hI).trans st.2⟩ ⟨fun b o' hb e=>?_,rfl,rfl,rfl,xk _⟩
  exact(sb.2 b (by simpa using hb)).trans e
 done:=fun s Q E st hQ=>by
  have len:(pickOrder (w.params.setOrder a ep) es).size=es.size:=by
   rw[<-x0g,(z3z _ _).length_eq,x0g]
  have he:(pickOrder (w.params.setOrder a ep) es)[es.size]? =none:=Array.getElem?_eq_none (by omega)
  refine z4x hh st.2 hd hf st.1 (fun A' E' Q' q=>z7c hw st.2 hd hf (by rw[he];exact q)) fun h' xb=>?_
  exact hQ _ ⟨fun b o' hb e=>xb b o' (by simpa using hb) e,rfl,rfl,rfl,xk _⟩
 self:=fun i s Q E st h=>z4y st.1 h
end
end PySem
end
section
namespace PySem
open PyProof.Rows (StrsAre)
section
variable {prog:Program}{w:World}{A:Around}{E:Value->Shared->Prop}{s:Shared}
theorem z9k{t:SetTable}{n:Nat}(h:t.fits n=true):t.place.size=n:=by
 unfold SetTable.fits at h
 simp only[x07,beq_iff_eq]at h
 exact h.1
end
end PySem
end
section
namespace PySem
open PyProof.Rows (StrsAre)
section
variable {prog:Program}{w:World}{A:Around}{E:Value->Shared->Prop}{s:Shared}
theorem zjq{a:Addr}{Q:Bool->Shared->Prop}(ty:s.TypeIs (.ref a) "set")(h:Q false s):
  wpAny (model prog w) A (Builtin.List.listLengthHint (.ref a)) Q E s:=by
 unfold Builtin.List.listLengthHint
 refine x8 (wpAny_specialOf ty F.slot_set_len.lookup ?_)
 generalize e:("set.__len__":String)=id
 wp_delta
 have sp:splitId id=some ("set","__len__"):=by subst e;decide+kernel
 rw[sp]
 subst e
 refine x8 (wpAny_isInstance (b:=true) ty sub_set_self ?_)
 refine wpAny_ite_split (fun z=>absurd z (by decide)) (fun _=>?_)
 refine wpAny_ite_split (fun _=>?_) (fun z=>absurd (by decide+kernel) z)
 exact x8 (wpAny_typeOf ty (xh h))
theorem z3r{R:Result->Shared->Prop}{a I S:Addr}{fp:List Addr}{n c:Nat}{P:Nat->Value->Prop}{St:Nat->Shared->Prop}{res:Value}{b:Bool}
  (W:WalksS prog w A.in1 I fp [I] (fun x y=>x=y) n P St) (hn:n<=sizeLine) (hS:S∉fp) (st:St 0 s)
  (gS:s.heap.get? S=some { cls:=.type "list",data:=.seq #[] c }) (ty:s.TypeIs (.ref a) "set")
  (hR:∀ s' acc c',Moved (S::[I]) (fun x y=>x=y) s s'->s'.heap.get? S=some { cls:=.type "list",dict:=none,data:=.seq acc c',slots:=#[] }->ItemsOf P acc n->R (.ok (.ret res)) s'):
  wpAny (model prog w) A.in1 (do
   let room<-holding [.ref I] (Builtin.List.listLengthHint (.ref a))
   if(room||b)=true then do
    rule "list.extend.makes-room"
    Builtin.List.listTouch (.ref S)
    again (.builtin "list.extend.loop" ⟨[.ref S,.ref I,res],[]⟩)
   else again (.builtin "list.extend.loop" ⟨[.ref S,.ref I,res],[]⟩))
   (fun fin s'=>match fin with| .done f=>R (.ok f) s'| .again c'=>c'.quiet=true/\codeAny (model prog w) A c' R s') (fun e s'=>R (.error e) s') s:=by
 refine x8 (x1h (zjq ty ?_))
 refine wpAny_ite_split (fun _=>?_) (fun _=>xh ⟨plainId_quiet F.plain_extend_loop _,codeAny_extend_loopS W hn S hS res n 0 _ #[] c rfl (x03 _) st gS (ItemsOf.nil _) hR⟩)
 refine x8 (wpAny_rule ?_)
 refine x8 ?_
 show wpAny _ _ (updateSeq S (·.push .none)>>=fun _=>updateSeq S (·.pop)) _ _ _
 refine x8 (wpAny_updateSeq gS rfl ?_)
 have g2:=x1l (Obj.mapSeq (·.push Value.none)) gS rfl
 refine wpAny_updateSeq (hz:=by seq_fits) g2 rfl ?_
 have g3:=x1l (Obj.mapSeq (·.pop)) g2 rfl
 have oth:∀q o,q≠S->s.heap.get? q=some o->((s.heap.update S (Obj.mapSeq (·.push Value.none))).update S (Obj.mapSeq (·.pop))).get? q=some o:=
  fun q o hq e=>(x1e _ _ (Ne.symm hq)).trans ((x1e _ _ (Ne.symm hq)).trans e)
 refine xh ⟨plainId_quiet F.plain_extend_loop _,codeAny_extend_loopS W hn S hS res n 0 _ _ _ rfl (x03 _) ?_ g3 (ItemsOf.nil _) fun s' acc c' mv g ii=>?_⟩
 .exact W.frame 0 s _ s.toks st (xk _) fun q hq o e=>oth q o (fun z=>hS (z▸hq)) e
 .refine hR s' acc c' (Moved.trans W.gtrans ((Moved.refl W.grefl).then_heap (xk _) fun q o hq e=>?_) mv) g ii
  exact oth q o (fun z=>hq (z▸.head _)) e
end
end PySem
end
section
namespace PySem
open PyProof.Rows (StrsAre)
theorem z8k{α:Type}[BEq α][LawfulBEq α]:∀(D ks:List α),D.Nodup->(∀x∈D,x∈ks)->ks.length=D.length->ks.Perm D
 |[],ks,_,_,h=>by rw[List.length_eq_zero_iff.mp h]
 |x::D,ks,nd,sub,h=>by
  have xin:=sub x (.head _)
  have pe:=List.perm_cons_erase xin
  refine pe.trans ((z8k D (ks.erase x) (List.nodup_cons.mp nd).2 (fun y hy=>?_) ?_).cons x)
  .have ne:y≠x:=fun e=>(List.nodup_cons.mp nd).1 (e▸hy)
   exact(List.mem_erase_of_ne ne).mpr (sub y (.tail _ hy))
  .have:=pe.length_eq
   simp only[x0o]at this h
   omega
theorem zi4{P:Nat->Value->Prop}{L:List (Int×Value)}{acc:Array Value}(h:ItemsOf P acc L.length)
  (hP:∀i v,P i v->∃e,L[i]? =some e/\v=e.2):acc.toList=L.map (·.2):=by
 apply x0n
 intro i
 by_cases lt:i<L.length
 .have lt':i<acc.size:=by rw[h.1];exact lt
  obtain⟨e,he,hv⟩:=hP i acc[i] (h.2 i acc[i] (x0w lt'))
  rw[Array.getElem?_toList,x0w lt',xc,he,hv]
  rfl
 .rw[x1m (by rw[x0g,h.1];omega),x1m (by rw[x0];omega)]
section
variable {prog:Program}{w:World}{A:Around}{E:Value->Shared->Prop}{s:Shared}
end
end PySem
end
section
namespace PySem
open PyProof.Rows (StrsAre)
section
variable {prog:Program}{w:World}{A:Around}{E:Value->Shared->Prop}{s:Shared}
end
end PySem
end
section
namespace PySem
open PyProof.Rows
section
variable {prog:Program}{w:World}{A:Around}{E:Value->Shared->Prop}{s:Shared}
end
end PySem
end
section
namespace L2
open PySem PySem.Spec PyProof.Rows
theorem zf0:∀{us:List Value}{ss:List Str},StrsAre us ss->Vals (ss.map V.str) us
 |_,_,.nil=>.nil
 |_,_,.cons y t r=>.cons ⟨t,rfl⟩ (zf0 r)
theorem zec{P:Program}{w:World}{H:Hp}{h:Heap}{a:Addr}{o:HO}(x:ObjOk P w H h a o):∃u,h.get? a=some u:=by
 cases o with
 |lst xs=>obtain⟨_,_,_,_,e⟩:=x;exact⟨_,e⟩
 |tup xs=>obtain⟨_,_,_,_,e,_⟩:=x;exact⟨_,e⟩
 |dK kvs=>obtain⟨_,_,_,_,_,_,_,e,_⟩:=x;exact⟨_,e⟩
 |dT kvs=>obtain⟨_,_,_,_,_,_,_,e,_⟩:=x;exact⟨_,e⟩
 |set S n=>obtain⟨_,_,_,_,e,_⟩:=x;exact⟨_,e⟩
 |ins C dx fs=>obtain⟨_,_,_,e,_⟩:=x;exact⟨_,e⟩
 |own y=>obtain⟨_,e⟩:=x;exact⟨_,e⟩
 |xd fs=>obtain⟨_,⟨_,_,_,e,_⟩,_⟩:=x;exact⟨_,e⟩
 |rng lo hi=>obtain⟨_,_,_,e⟩:=x;exact⟨_,e⟩
 |frz ob u=>obtain⟨e,_⟩:=x;exact⟨_,e⟩
 |tbl ps=>exact⟨_,show h.get? a=some _ from x⟩
 |met f y=>exact⟨_,show h.get? a=some _ from x⟩
 |ext φ=>obtain⟨_,⟨_,e⟩,_⟩:=x;exact⟨_,e⟩
section
variable {X:Cx}
end
end L2
end
section
namespace L2
open PySem PySem.Spec PyProof.Rows
theorem MHas.never{P:Program}{w:World}{K:PySem.W.Frag}{mg:Str->Option Value}{base:Heap}{k:Nat}{C:Addr}{m:Str}{ps:List Str}{sp:Sp}(G:MHas P w K mg base (CX1 P w) k C m ps sp):MHas P w K mg base CX0 k C m ps (fun vs H Q _=>sp vs H Q E0):=by
 obtain⟨f,fd,F,hm,hb⟩:=G
 refine⟨f,fd,⟨fun vs H Q E h=>F.len vs H Q E0 h,fun A outer s H args us vs Q E hr he hb hv hs=>codeAny_mono (F.run A outer s H args us vs Q E0 hr he hb hv hs) fun r s' h=>?_⟩,hm,hb⟩
 cases r with
 |error e=>
  obtain⟨_,_,_,_,_,_,_,_,_,_,_,_,_,z⟩:=h
  exact z
 |ok fl=>cases fl<;>exact h
section
variable {X:Cx}
theorem PS.nox{st:Stmt}{t:TS}(h:PS X.nox st t):PS X st t:=fun pins s σ H D I hw=>
 x0f (h pins s σ H D (I.wish _) hw) (fun _ _ q=>q.unwish) fun _ _ z=>False.elim z
end
end L2
end
section
namespace L2
open PySem PySem.Spec PyProof.Rows
section
variable {X:Cx}
theorem Inv.gone{pins:List (Addr×Obj)}{σ:St}{H:Hp}{s:Shared}{h':Heap}{m:Str->Option Value}{u0:Option Value}{t' i:Nat}{n:Str}(I:Inv X pins σ H s)(hN:X.N.Nodup)(hi:X.N[i]? =some n)(h0:s.heap.Ns X.env.locals m)
  (hm:∀(i:Nat)(x:Str)(v:V),X.N[i]? =some x->σ[i]? =some (some v)->Vis X.env.scope x->∃u,RelV v u/\Look X.env s.heap m x u)
  (hn:h'.Ns X.env.locals (fun x=>if x=n then u0 else m x)) (hs:Heap.SameBut X.env.locals s.heap h'):
  Inv X pins (σ.set i none) H { s with heap:=h',toks:=t' }:=by
 have old:∀b o,X.s₀.heap.get? b=some o->b≠X.env.locals:=fun b o e=>xy (xt (xl e) I.ok.above)
 refine⟨I.ok,I.os,I.bare,⟨fun b o e n hb hx=>?_,fun b o e n hb hx=>?_,I.base.free,fun b o e hx=>?_,I.base.tups,I.base.frzs,I.base.tbls⟩,⟨_,hn,fun j y v e1 e2 vis=>?_⟩,fun y c e=>?_,I.free,I.freeC,fun p hp=>?_,fun b ob e=>?_,by rw[List.length_set];exact I.len⟩
 .rw[hs.2 b (old b o e)]
  exact I.base.keep b o e n hb hx
 .obtain⟨sl,q⟩:=I.base.slot b o e n hb hx
  exact⟨sl,by rw[hs.2 b (old b o e)];exact q⟩
 .obtain⟨o2,q⟩:=I.base.there b o e hx
  exact⟨o2,by rw[hs.2 b (old b o e)];exact q⟩
 .by_cases hji:j=i
  .subst hji
   rw[List.getElem?_set]at e2
   simp only[if_true]at e2
   split at e2
   .cases e2
   .cases e2
  .rw[x0y (Ne.symm hji)]at e2
   have hyn:y≠n:=fun z=>by
    subst z
    have hjl:=(xg.mp e1).1
    exact hji ((List.getElem?_inj hjl hN).mp (e1.trans hi.symm))
   obtain⟨u,ru,lk⟩:=hm j y v e1 e2 vis
   refine⟨u,ru,?_⟩
   rcases lk with⟨k1,k2⟩|⟨k1,c,k2,k3⟩
   .exact .inl ⟨k1,by show(if y=n then u0 else m y)=some u;rw[if_neg hyn];exact k2⟩
   .exact .inr ⟨k1,c,k2,k3.sameBut hs (I.cne y c k2)⟩
 .obtain⟨u,z⟩:=I.cell y c e
  exact⟨u,z.sameBut hs (I.cne y c e)⟩
 .obtain⟨a1,a2,a3,a4⟩:=I.pin p hp
  exact⟨by rw[hs.2 p.1 a3];exact a1,a2,a3,a4⟩
 .have hf:=I.free
  refine(I.hok b ob e).stay (fun c u hc q=>?_) (fun _ q=>q) fun _ _ q=>q
  have ne:c≠X.env.locals:=by
   rintro rfl
   rcases hc with hc|hc
   .rw[hc]at hf
    rw[hf]at e
    cases e
   .rw[hf]at hc
    cases hc
  rw[hs.2 c ne]
  exact q
end
section
variable {X:Cx}{sc:Scope}{x y2:Str}{cap:List Str}{js:List Nat}{tg elt iter:Expr}{ifs:List Expr}{g2:TG}{tc:TT}{te:TE}{pos:Pos}
end
end L2
end
section
namespace L2
open PySem PySem.Spec PyProof.Rows
theorem zcv:∀{ns:List Int}{us:List Value},Vals (ns.map V.int) us->IntsAre us ns
 |[],_,h=>by cases h;exact .nil
 |s::ss,_,h=>by
  cases h with
  |cons h1 t=>
   obtain⟨k,rfl⟩:=h1
   exact .cons s k (zcv t)
theorem z8t:∀{us:List Value}{ns:List Int},IntsAre us ns->Vals (ns.map V.int) us
 |_,_,.nil=>.nil
 |_,_,.cons y t r=>.cons ⟨t,rfl⟩ (z8t r)
section
variable {X:Cx}
theorem z7e:CallR X (.builtin "sorted") (fun xs H Q=>∃ p ns,xs=[.ref p]/\SqL X.K H p ((ns:List Int).map V.int)/\ns.length<64/\∀ l ks,H l=none->ks.Perm ns->ks.Pairwise (·<=·)->Q (.ref l) (upd H l (.lst ((ks:List Int).map V.int)))):=by
 intro pins s σ H xs us Q I r h
 obtain⟨p,ns,rfl,hp,h64,q⟩:=h
 obtain⟨u,rfl,ru⟩:=z58 r
 cases ru
 obtain⟨its,r1,pl,hz⟩:=I.list hp
 have hl:=r1.length
 rw[x0]at hl
 refine sorted_ints pl.isList (zcv r1) (by omega) fun out ns' a1 a2 a3=>?_
 obtain⟨e,he⟩:=sortedAll_at s.heap its out
 have zz:(ns'.map V.int).length<=sizeLine:=by
  rw[x0,a2.length_eq];exact xp (Nat.le_of_lt h64) (by decide)
 exact⟨.ref _,_,I.laid (a:=s.heap.objs.size+1) (o:=.lst (ns'.map V.int)) (t':=s.toks) (fun _ _=>sortedAll_old) (Nat.le_succ _) ⟨zz,out.toList,e,z8t a1,he⟩,rfl,q _ _ (I.hok.fresh (Nat.le_succ _)) a2 a3⟩
end
end L2
end
section
namespace L2
open PySem PySem.Spec PyProof.Rows
end L2
namespace L2
open PySem PySem.Spec PyProof.Rows
section
variable (P:Program)(w:World)
end
section
variable {P:Program}{w:World}{H H':Hp}{h h':Heap}{a:Addr}{o:HO}
end
section
variable {P:Program}{w:World}{H:Hp}{h h':Heap}{x e:Addr}{o':HO}
end
section
variable {fs fs' ex ex':List Addr}{H H1 H2:Hp}{h h1 h2 h':Heap}{a x e:Addr}{o:HO}
end
end L2
namespace L2
open PySem PySem.Spec PyProof.Rows
section
variable {X:Cx}{pins:List (Addr×Obj)}{σ:List (Option V)}{H H':Hp}{s:Shared}{h':Heap}
end
end L2
namespace L2
open PySem PySem.Spec PyProof.Rows
section
variable {X:Cx}
variable {a b:Expr}{ta tb:TE}{pos:Pos}
variable {tA tB':TT}{rest:List Expr}
end
end L2
namespace L2
open PySem PySem.Spec PyProof.Rows
section
variable {X:Cx}{pins:List (Addr×Obj)}{σ:St}{H:Hp}{s:Shared}{a:Addr}{xs ys:List V}
end
section
variable {X:Cx}{pins:List (Addr×Obj)}{σ:St}{H:Hp}{s:Shared}{E:Value->Shared->Prop}
end
section
variable {X:Cx}{st:Stmt}{rest:List Stmt}{t u:TS}{e:Expr}{te:TE}{pos:Pos}
end
section
variable {X:Cx}{pos:Pos}
end
section
variable {X:Cx}{pos:Pos}
end
end L2
namespace L2
open PySem PySem.Spec PyProof.Rows
section
variable {X:Cx}{tg:Expr}
end
end L2
namespace L2
open PySem PySem.Spec PyProof.Rows
section
variable {X:Cx}{a b c:Expr}{ta tb tc:TE}{pos:Pos}
end
section
variable {X:Cx}{a b c:Expr}{ta tb tc:TE}{pos:Pos}
end
end L2
namespace L2
open PySem PySem.Spec PyProof.Rows
section
variable {prog:Program}{w:World}{A:Around}{E:Value->Shared->Prop}{s:Shared}{K:PySem.W.Frag}{x dx C f:Addr}{mA:Str->Option Value}{name:Str}{v:Value}
end
section
variable {P:Program}{w:World}{H H':Hp}{h h':Heap}{a C dx:Addr}{fs fs':List (Str×V)}
end
section
variable {X:Cx}{pins:List (Addr×Obj)}{σ:St}{H:Hp}{s:Shared}{a C dx:Addr}{fs:List (Str×V)}{f:Str}{v:V}{A:Around}{E:Value->Shared->Prop}
end
section
variable {X:Cx}{o e value:Expr}{f:Str}{pos pos' tpos:Pos}{ta tv:TE}
end
section
variable {X:Cx}{pins:List (Addr×Obj)}{σ:St}{H:Hp}{s:Shared}{A:Around}{E:Value->Shared->Prop}{Q:Value->Shared->Prop}{c:Value}{b:Bool}
end
end L2
namespace L2
open PySem PySem.Spec PyProof.Rows
section
variable {X:Cx}{e:Expr}{es:List Expr}{te:TE}{t:TA}{pos:Pos}
end
section
variable {X:Cx}{pins:List (Addr×Obj)}{σ:St}{H:Hp}{s s':Shared}
end
section
variable {X:Cx}{CX:CXT}{k:Nat}{f C:Addr}{fd:FuncData}{ps:List Str}{sp:Sp}{dvs:List V}{ds:List Value}{E:XK}{x m:Str}{p pos apos:Pos}{e o:Expr}{es:List Expr}{ta:TE}{t:TA}
end
section
variable {X:Cx}{CX:CXT}{k:Nat}{f C:Addr}{fd:FuncData}{ps ks:List Str}{sp:Sp}{E:XK}{x m:Str}{p pos apos kpos:Pos}{e o:Expr}{es:List Expr}{kws:List Keyword}{te ta:TE}{t tk:TA}{nm:Option Str}
variable {g:List Value->List Value->List Value}{gV:List V->List V->List V}
end
end L2
namespace L2
open PySem PySem.Spec PyProof.Rows
section
variable {X:Cx}{x:Str}{p pos:Pos}{e:Expr}{es:List Expr}{t:TA}{id T:String}{r:List V->Hp->VK->Prop}
end
end L2
namespace L2
open PySem PySem.Spec PyProof.Rows
section
variable {κ:Type}[DecidableEq κ]
noncomputable def valV(kvs:List (κ×V))(k:κ):Option V:=(kvs.find? fun kv=>decide (kv.1=k)).map (·.2)
noncomputable def putK(kvs:List (κ×V))(k:κ)(v:V):List (κ×V):=
 if(kvs.any fun kv=>decide (kv.1=k))=true then kvs.map (fun kv=>if kv.1=k then(kv.1,v) else kv) else kvs++[(k,v)]
noncomputable def zkj(kvs:List (κ×V))(k:κ):List (κ×V):=kvs.filter fun kv=>decide (kv.1≠k)
theorem z8u{p:κ×V}{r:List (κ×V)}{k:κ}(e:p.1=k):valV (p::r) k=some p.2:=by simp[valV,List.find?_cons,e]
theorem z8v{p:κ×V}{r:List (κ×V)}{k:κ}(e:¬ p.1=k):valV (p::r) k=valV r k:=by simp[valV,List.find?_cons,e]
theorem zcw(k:κ):∀kvs:List (κ×V),(kvs.any fun kv=>decide (kv.1=k))=(valV kvs k).isSome
 |[]=>rfl
 |p::r=>by
  rw[List.any_cons]
  by_cases e:p.1=k
  .simp only[z8u e,xx e,Bool.true_or,Option.isSome_some]
  .rw[z8v e,x1g e,Bool.false_or];exact zcw k r
theorem z5h(kvs:List (κ×V))(k:κ)(v:V):(putK kvs k v).length<=kvs.length+1:=by
 unfold putK
 split
 .rw[x0];omega
 .rw[x00,x0o,List.length_nil];omega
theorem RelO.isSome_eq{o:Option V}{u:Option Value}(r:RelO o u):o.isSome=u.isSome:=by
 cases o with
 |none=>cases u with
  |none=>rfl
  |some _=>exact(show False from r).elim
 |some _=>cases u with
  |none=>exact(show False from r).elim
  |some _=>rfl
theorem RelO.getD{o:Option V}{u:Option Value}{d:V}{d':Value}(r:RelO o u)(rd:RelV d d'):RelV (o.getD d) (u.getD d'):=by
 cases o with
 |none=>cases u with
  |none=>exact rd
  |some _=>exact(show False from r).elim
 |some _=>cases u with
  |none=>exact(show False from r).elim
  |some _=>exact r
theorem KV.val{kvs:List (κ×V)}{vs:List (κ×Value)}(r:KV kvs vs)(k:κ):RelO (valV kvs k) (valueAt vs k):=by
 unfold KV at r
 induction r with
 |nil=>exact x1k
 |@cons p q ps qs h t ih=>
  obtain⟨h1,h2⟩:=h
  by_cases e:p.1=k
  .have e':q.1=k:=h1.symm.trans e
   have b:valueAt (q::qs) k=some q.2:=by simp[valueAt,List.find?_cons,e']
   rw[z8u e,b];exact h2
  .have e':¬ q.1=k:=fun z=>e (h1.trans z)
   have b:valueAt (q::qs) k=valueAt qs k:=by simp[valueAt,List.find?_cons,e']
   rw[z8v e,b];exact ih
theorem KV.any{kvs:List (κ×V)}{vs:List (κ×Value)}(r:KV kvs vs)(k:κ):(kvs.any fun kv=>decide (kv.1=k))=vs.any fun kv=>decide (kv.1=k):=by
 unfold KV at r
 induction r with
 |nil=>rfl
 |cons h t ih=>rw[List.any_cons,List.any_cons,ih,h.1]
theorem KV.repl{kvs:List (κ×V)}{vs:List (κ×Value)}(r:KV kvs vs)(k:κ){y:V}{u:Value}(ry:RelV y u):
  KV (kvs.map fun kv=>if kv.1=k then(kv.1,y) else kv) (vs.map fun kv=>if kv.1=k then(kv.1,u) else kv):=by
 unfold KV at r⊢
 induction r with
 |nil=>exact .nil
 |@cons p q ps qs h t ih=>
  rw[x0h,x0h]
  refine .cons ?_ ih
  obtain⟨h1,h2⟩:=h
  by_cases e:p.1=k
  .rw[if_pos e,if_pos (h1.symm.trans e)];exact⟨h1,ry⟩
  .rw[if_neg e,if_neg (fun z=>e (h1.trans z))];exact⟨h1,h2⟩
theorem KV.put{kvs:List (κ×V)}{vs:List (κ×Value)}(r:KV kvs vs)(k:κ){y:V}{u:Value}(ry:RelV y u):KV (putK kvs k y) (stored vs k u):=by
 unfold putK stored
 rw[r.any k]
 by_cases e:(vs.any fun kv=>decide (kv.1=k))=true
 .rw[if_pos e,if_pos e];exact r.repl k ry
 .rw[if_neg e,if_neg e];exact Paired.snoc r ⟨rfl,ry⟩
theorem KV.drop{kvs:List (κ×V)}{vs:List (κ×Value)}(r:KV kvs vs)(k:κ):KV (zkj kvs k) (without vs k):=by
 unfold KV at r⊢
 unfold zkj without
 induction r with
 |nil=>exact .nil
 |@cons p q ps qs h t ih=>
  obtain⟨h1,h2⟩:=h
  rw[List.filter_cons,List.filter_cons]
  by_cases e:p.1=k
  .have a:¬ decide (p.1≠k)=true:=by simp[e]
   have b:¬ decide (q.1≠k)=true:=by simp[h1.symm.trans e]
   rw[if_neg a,if_neg b];exact ih
  .have e':¬ q.1=k:=fun z=>e (h1.trans z)
   have a:decide (p.1≠k)=true:=by simp[e]
   have b:decide (q.1≠k)=true:=by simp[e']
   rw[if_pos a,if_pos b];exact .cons ⟨h1,h2⟩ ih
theorem KV.keys{kvs:List (κ×V)}{vs:List (κ×Value)}(r:KV kvs vs):kvs.map (·.1)=vs.map (·.1):=by
 unfold KV at r
 induction r with
 |nil=>rfl
 |cons h t ih=>rw[x0h,x0h,ih,h.1]
theorem KV.length{kvs:List (κ×V)}{vs:List (κ×Value)}(r:KV kvs vs):kvs.length=vs.length:=Paired.length r
end
theorem zc7{P:Program}{w:World}{k:Key}{u:Value}(r:RelV (kV k) u):(z21 P w).is k u=true:=by
 cases k with
 |inl i=>obtain⟨t,e⟩:=(show∃t,u=Value.int i t from r);subst e;exact ze4 P w i t
 |inr x=>obtain⟨t,e⟩:=(show∃t,u=Value.str x t from r);subst e;exact ze5 P w x t
theorem zbh{P:Program}{w:World}:∀{ks:List Key}{us:List Value},Vals (ks.map kV) us->ItemsAre (z21 P w) ks us
 |[],_,r=>by rw[List.map_nil]at r;cases r;exact .nil
 |k::ks,_,r=>by
  rw[x0h]at r
  cases r with
  |cons h t=>exact .cons (zc7 h) (zbh t)
noncomputable abbrev KT(H:Hp):List (List Key×V)->List (List Key×Addr×Value)->Prop:=Paired fun p q=>p.1=q.1/\H q.2.1=some (.tup (p.1.map kV))/\RelV p.2 q.2.2
theorem KT.val{H:Hp}{kvs:List (List Key×V)}{xs:List (List Key×Addr×Value)}(r:KT H kvs xs)(k:List Key):RelO (valV kvs k) ((atKey xs k).map (·.2)):=by
 induction r with
 |nil=>exact x1k
 |@cons p q ps qs h t ih=>
  obtain⟨h1,_,h2⟩:=h
  by_cases e:p.1=k
  .have e':q.1=k:=h1.symm.trans e
   have b:atKey (q::qs) k=some q.2:=by simp[atKey,List.find?_cons,e']
   rw[z8u e,b];exact h2
  .have e':¬ q.1=k:=fun z=>e (h1.trans z)
   have b:atKey (q::qs) k=atKey qs k:=by simp[atKey,List.find?_cons,e']
   rw[z8v e,b];exact ih
theorem KT.repl{H:Hp}{kvs:List (List Key×V)}{xs:List (List Key×Addr×Value)}(r:KT H kvs xs)(k:List Key){y:V}{u:Value}(ry:RelV y u):
  KT H (kvs.map fun kv=>if kv.1=k then(kv.1,y) else kv) (xs.map (putAt k u)):=by
 induction r with
 |nil=>exact .nil
 |@cons p q ps qs h t ih=>
  rw[x0h,x0h]
  refine .cons ?_ ih
  obtain⟨h1,h2,h3⟩:=h
  unfold putAt
  by_cases e:p.1=k
  .rw[if_pos e,if_pos (h1.symm.trans e)];exact⟨h1,h2,ry⟩
  .rw[if_neg e,if_neg (fun z=>e (h1.trans z))];exact⟨h1,h2,h3⟩
theorem KT.put{H:Hp}{kvs:List (List Key×V)}{xs:List (List Key×Addr×Value)}(r:KT H kvs xs)(k:List Key){b:Addr}{y:V}{u:Value}(hb:H b=some (.tup (k.map kV)))(ry:RelV y u):
  KT H (putK kvs k y) (storedH xs k b u):=by
 have e:(kvs.any fun kv=>decide (kv.1=k))=(atKey xs k).isSome:=by
  rw[zcw,(r.val k).isSome_eq,Option.isSome_map]
 unfold putK storedH
 rw[e]
 by_cases q:(atKey xs k).isSome=true
 .rw[if_pos q,if_pos q];exact r.repl k ry
 .rw[if_neg q,if_neg q];exact Paired.snoc r ⟨rfl,hb,ry⟩
theorem KT.keeps{H H':Hp}{kvs:List (List Key×V)}{xs:List (List Key×Addr×Value)}(r:KT H kvs xs)(ht:∀b ys,H b=some (.tup ys)->H' b=some (.tup ys)):KT H' kvs xs:=
 Paired.mapP r fun _ _ z=>⟨z.1,ht _ _ z.2.1,z.2.2⟩
section
variable {P:Program}{w:World}{H:Hp}{h:Heap}{a:Addr}
theorem zkk{u:HO}(ok:HOk P w H h)(e:Rd H a u):ObjOk P w H h a u:=e.ok ok
theorem zge{kvs:List (Key×V)}(ok:HOk P w H h)(e:Rd H a (.dK kvs)):kvs.length<=sizeLine/\(a==sysModules)=false/\∃vs,KV kvs vs/\h.DictOf (z21 P w) a vs:=
 show ObjOk P w H h a (.dK kvs) from zkk ok e
theorem zkl{kvs:List (Key×V)}(ok:HOk P w H h)(e:H a=some (.dK kvs)):kvs.length<=sizeLine/\(a==sysModules)=false/\∃vs,KV kvs vs/\h.DictOf (z21 P w) a vs:=zge ok (.inl e)
theorem zcx{ks:List Key}(ok:HOk P w H h)(e:H a=some (.tup (ks.map kV))):(tupleKind (z21 P w)).is h ks a:=by
 obtain⟨_,its,r,o,h1,h2,n,h3⟩:=(show ObjOk P w H h a (.tup (ks.map kV)) from ok a _ e)
 exact⟨o,its.toArray,n,h1,h2,h3,by simpa using zbh r⟩
theorem zgf{kvs:List (List Key×V)}(ok:HOk P w H h)(e:Rd H a (.dT kvs)):kvs.length<=sizeLine/\(a==sysModules)=false/\
  ∃xs,KT H kvs xs/\h.DictOfH (tupleKind (z21 P w)) a xs:=by
 obtain⟨z,y,xs,r,o,es,ep,h1,h2,h3,h4,h5⟩:=(show ObjOk P w H h a (.dT kvs) from zkk ok e)
 refine⟨z,y,xs,r,o,es,ep,h1,h2,h3,h4,fun x hx=>?_,h5⟩
 have all:∀{l:List (List Key×V)}{m:List (List Key×Addr×Value)},KT H l m->∀x∈m,(tupleKind (z21 P w)).is h x.1 x.2.1:=by
  intro l m q
  induction q with
  |nil=>intro x hx;exact nomatch hx
  |@cons p q ps qs hq t ih=>
   intro x hx
   rcases xo.mp hx with e|hx
   .subst e
    exact zcx ok (by rw[<-hq.1];exact hq.2.1)
   .exact ih x hx
 exact all r x hx
theorem zmj{kvs:List (List Key×V)}(ok:HOk P w H h)(e:H a=some (.dT kvs)):kvs.length<=sizeLine/\(a==sysModules)=false/\
  ∃xs,KT H kvs xs/\h.DictOfH (tupleKind (z21 P w)) a xs:=zgf ok (.inl e)
end
noncomputable def DGet(H:Hp)(a:Addr)(y:V)(r:Option V):Prop:=
 (∃kvs k,Rd H a (.dK kvs)/\y=kV k/\r=valV kvs k)\/∃kvs k b,Rd H a (.dT kvs)/\y=.ref b/\H b=some (.tup (k.map kV))/\r=valV kvs k
noncomputable def DPut(H:Hp)(a:Addr)(y v:V)(H':Hp):Prop:=
 (∃kvs k,H a=some (.dK kvs)/\y=kV k/\kvs.length<sizeLine/\H'=upd H a (.dK (putK kvs k v)))\/
 ∃kvs k b,H a=some (.dT kvs)/\y=.ref b/\H b=some (.tup (k.map kV))/\kvs.length<sizeLine/\H'=upd H a (.dT (putK kvs k v))
theorem DGet.k{H:Hp}{a:Addr}{kvs:List (Key×V)}{k:Key}(e:H a=some (.dK kvs)):DGet H a (kV k) (valV kvs k):=.inl ⟨kvs,k,.inl e,rfl,rfl⟩
theorem DGet.t{H:Hp}{a b:Addr}{kvs:List (List Key×V)}{k:List Key}(e:H a=some (.dT kvs))(eb:H b=some (.tup (k.map kV))):DGet H a (.ref b) (valV kvs k):=.inr ⟨kvs,k,b,.inl e,rfl,eb,rfl⟩
theorem DPut.k{H:Hp}{a:Addr}{kvs:List (Key×V)}{k:Key}{v:V}(e:H a=some (.dK kvs))(hl:kvs.length<sizeLine):DPut H a (kV k) v (upd H a (.dK (putK kvs k v))):=.inl ⟨kvs,k,e,rfl,hl,rfl⟩
theorem DPut.t{H:Hp}{a b:Addr}{kvs:List (List Key×V)}{k:List Key}{v:V}(e:H a=some (.dT kvs))(eb:H b=some (.tup (k.map kV)))(hl:kvs.length<sizeLine):
  DPut H a (.ref b) v (upd H a (.dT (putK kvs k v))):=.inr ⟨kvs,k,b,e,rfl,eb,hl,rfl⟩
section
variable {X:Cx}{pins:List (Addr×Obj)}{σ:St}{H:Hp}{s:Shared}{a:Addr}{y v:V}{u r:Value}{o:Option V}{A:Around}{E:Value->Shared->Prop}
theorem Inv.big(I:Inv X pins σ H s):sysModules<s.heap.objs.size:=by
 have h:mainGlobals<s.heap.objs.size:=(I.mod.glob.keeps I.bk).lt
 exact Nat.lt_trans (by decide) h
theorem zi5{Q:Value->Shared->Prop}(hu:A.units+1<cLine)(I:Inv X pins σ H s)(g:DGet H a y (some v))(ry:RelV y u)(h:∀w' s',Inv X pins σ H s'->RelV v w'->Q w' s'):
  wpAny (model X.prog X.w) A (getItem (.ref a) u) Q E s:=by
 rcases g with⟨kvs,k,e,ey,l⟩|⟨kvs,k,b,e,ey,eb,l⟩
 .subst ey
  obtain⟨z,hd,vs,rel,dd⟩:=zge I.hok e
  obtain⟨w',hw,rw'⟩:=RelO.some_of (v:=v) (o:=valueAt vs k) (by rw[l];exact rel.val k)
  exact wpAny_getItem_of (zc7 ry) dd.mapOf hw (h w' _ (I.tok _) rw')
 .subst ey
  cases(show u=Value.ref b from ry)
  obtain⟨z,hd,xs,rel,dd⟩:=zgf I.hok e
  obtain⟨w',hw,rw'⟩:=RelO.some_of (v:=v) (o:=(atKey xs k).map (·.2)) (by rw[l];exact rel.val k)
  obtain⟨p,hp,hp2⟩:=x08.mp hw
  refine wpAny_getItem_heap (tupleKind_room_in1 hu) (zcx I.hok eb) dd hp ?_
  rw[hp2]
  exact h w' _ (I.tok _) rw'
theorem z85{h':Heap}{t':Nat}{ob:HO}(I:Inv X pins σ H s)(mu:Mut (H a))(hs:Heap.SameBut a s.heap h')(he:∃q,h'.get? a=some q)(new:ObjOk X.prog X.w (upd H a ob) h' a ob):
  Inv X pins σ (upd H a ob) { s with heap:=h',toks:=t' }:=
 I.write (x:=a) (e:=a) mu (.inl rfl) (fun b q hb z=>(hs.2 b hb).trans z) he new
theorem zi6{P:Program}{w:World}{H':Hp}{h':Heap}{kvs:List (Key×V)}{vs:List (Key×Value)}(z:kvs.length<=sizeLine)(hd:(a==sysModules)=false)(rel:KV kvs vs)(dd:h'.DictOf (z21 P w) a vs):
  ObjOk P w H' h' a (.dK kvs):=⟨z,hd,vs,rel,dd⟩
theorem zi7{H':Hp}{Q:Unit->Shared->Prop}(hu:A.units+1<cLine)(I:Inv X pins σ H s)(g:DPut H a y v H')(ry:RelV y u)(rv:RelV v r)(h:∀s',Inv X pins σ H' s'->Q () s'):
  wpAny (model X.prog X.w) A (setItem (.ref a) u r) Q E s:=by
 rcases g with⟨kvs,k,e,ey,l,eH⟩|⟨kvs,k,b,e,ey,eb,l,eH⟩
 .subst ey eH
  obtain⟨z,hd,vs,rel,dd⟩:=zkl I.hok e
  have hz:vs.length<=sizeLine:=by rw[<-rel.length];exact z
  have hl:(putK kvs k v).length<=sizeLine:=by have:=z5h kvs k v;omega
  refine wpAny_setItem_pairs (hsz:=hz) (zc7 ry) dd fun h' dd' hs=>h _ ?_
  have he:∃q,h'.get? a=some q:=let⟨q,_,_,hq,_⟩:=dd';⟨q,hq⟩
  exact z85 I (by rw[e];exact x1k) hs he (zi6 hl hd (rel.put k rv) dd')
 .subst ey eH
  cases(show u=Value.ref b from ry)
  obtain⟨z,hd,xs,rel,dd⟩:=zmj I.hok e
  have hz:xs.length<=sizeLine:=by rw[<-Paired.length rel];exact z
  have hl:(putK kvs k v).length<=sizeLine:=by have:=z5h kvs k v;omega
  refine wpAny_setItem_heap (hsz:=hz) (tupleKind_room_in1 hu) (zcx I.hok eb) dd fun h' dd' hs=>h _ ?_
  obtain⟨q,es,ep,hq,h2,h3,h4,_,h5⟩:=dd'
  refine z85 I (by rw[e];exact x1k) hs ⟨q,hq⟩ ⟨hl,hd,_,(rel.put k eb rv).keeps fun c ys ec=>?_,q,es,ep,hq,h2,h3,h4,h5⟩
  rw[zb (zmg ec e (fun z=>nomatch z))]
  exact ec
end
section
variable {X:Cx}{pins:List (Addr×Obj)}{σ:St}{H:Hp}{s:Shared}{a:Addr}{kvs:List (Key×V)}{k:Key}{u:Value}{A:Around}{E:Value->Shared->Prop}
end
noncomputable def NoSl(i:Expr):Prop:=∀ov iv,subscripted i false ov iv=operate [ov,iv] (getItem ov iv)
theorem zf1{prog:Program}{w:World}{A:Around}{E:Value->Shared->Prop}{s:Shared}{env:Env}{value slice:Expr}{pos:Pos}{T id:String}{Q:Value->Shared->Prop}
  (hl:typeLookup (.type T) "__getitem__"=pure (some (.builtin id))) (hs:NoSl slice)
  (h:wpAny (model prog w) A (eval value env) (fun o s₁=>wpAny (model prog w) A (eval slice env) (fun i s₂=>s₂.TypeIs o T/\wpAny (model prog w) A (getItem o i) Q E s₂) E s₁) E s):
  wpAny (model prog w) A (eval (.Subscript value slice pos) env) Q E s:=by
 refine Subscript_ (x0f h (fun o s₁ h₁=>x0f h₁ (fun i s₂ h₂=>?_) fun _ _ x=>x) fun _ _ x=>x)
 obtain⟨hT,h₂⟩:=h₂
 unfold subscriptTail
 refine x8 ?_
 rw[getitemInPython_of_ne hT.not_modules]
 refine x8 (wpAny_specialOf hT hl ?_)
 have fin:wpAny (model prog w) A (subscripted slice false o i) (fun r s₃=>wpAny (model prog w) A (letTemporaryGo value o r>>=fun _=>pure r) Q E s₃) E s₂:=by
  rw[hs o i]
  exact wpAny_operating (x0f h₂ (fun r s₃ h₃=>x8 (wpAny_letTemporaryGo (xh h₃))) fun _ _ x=>x)
 first
  |exact xh (x8 fin)
  |exact x8 (xh (x8 fin))
  |exact x8 fin
theorem zed{X:Cx}{pins:List (Addr×Obj)}{σ:St}{H:Hp}{s:Shared}{a:Addr}{y:V}{o:Option V}(I:Inv X pins σ H s)(g:DGet H a y o):s.TypeIs (.ref a) "dict":=by
 rcases g with⟨kvs,k,e,_,_⟩|⟨kvs,k,b,e,_,_,_⟩
 .obtain⟨_,_,vs,_,dd⟩:=zge I.hok e
  exact dd.typeIs
 .obtain⟨_,_,xs,_,dd⟩:=zgf I.hok e
  exact dd.typeIs
noncomputable def zgg(td ty:TE):TE:=fun σ H Q=>td σ H fun x H1=>ty σ H1 fun y H2=>∃a v,x=.ref a/\DGet H2 a y (some v)/\Q v H2
noncomputable def zgh(td ty tv:TE):TS:=fun D σ H=>tv σ H fun v H1=>td σ H1 fun x H2=>ty σ H2 fun y H3=>∃a H4,x=.ref a/\DPut H3 a y v H4/\D.nx σ H4
section
variable {X:Cx}{o i e value:Expr}{pos pos' tpos:Pos}{td ty tv:TE}
theorem zx(hu:X.A.units+1<cLine)(ho:PE X o td)(hi:PE X i ty)(hs:NoSl i):PE X (.Subscript o i pos) (zgg td ty):=by
 intro pins s σ H Q I h
 refine zf1 PySem.F.slot_dict_getitem.lookup hs (thn (ho pins s σ H _ I h) fun u s1 ⟨x,H1,I1,rx,q1⟩=>thn (hi pins s1 σ H1 _ I1 q1) fun iv s2 ⟨y,H2,I2,ry,a,v,ex,g,q2⟩=>?_)
 subst ex
 obtain rfl:u=Value.ref a:=rx
 exact⟨zed I2 g,zi5 hu I2 g ry fun w' s3 I3 rw'=>⟨v,H2,I3,rw',q2⟩⟩
theorem z5x(hu:X.A.units+1<cLine)(ho:PE X o td)(hi:PE X i ty)(hv:PE X value tv)(hs:swapsWith value (some (.Subscript o i pos')) pos.line X.env=pure false):
  PS X (.Assign [.Subscript o i pos'] value pos) (zgh td ty tv):=by
 intro pins s σ H D I h
 refine wpAny_Assign_Subscript (thn (hv pins s σ H _ I h) fun r s1 ⟨v,H1,I1,rv,q1⟩=>thn (ho pins s1 σ H1 _ I1 q1) fun u s2 ⟨x,H2,I2,rx,q2⟩=>thn (hi pins s2 σ H2 _ I2 q2) fun iv s3 ⟨y,H3,I3,ry,a,H4,ex,g,q3⟩=>?_) hs
 subst ex
 obtain rfl:u=Value.ref a:=rx
 exact zi7 hu I3 g ry rv fun s4 I4=>⟨σ,H4,I4,q3⟩
end
theorem zcy{P:Program}{w:World}{H:Hp}(h:Heap)(hb:sysModules<h.objs.size):ObjOk P w H (h.push { cls:=.type "dict",data:=.dict #[] }) h.objs.size (.dK []):=
 ⟨x03 _,beq_eq_false_iff_ne.mpr (Ne.symm (xy hb)),[],.nil,Heap.DictOf.new h⟩
noncomputable def zcz:TE:=fun _ H Q=>∀p,H p=none->Q (.ref p) (upd H p (.dK []))
section
variable {X:Cx}{pos:Pos}
theorem zjr:PE X (.Dict [] [] pos) zcz:=fun pins s σ H Q I h=>
 wpAny_Dict_empty ⟨.ref s.heap.objs.size,_,I.laid (a:=s.heap.objs.size) (o:=.dK []) (t':=s.toks) (fun _ _ q=>xf _ q) (xk _) (zcy s.heap I.big),rfl,h _ (I.hok.fresh (xk _))⟩
end
noncomputable def z7f:List (TE×TE)->St->Hp->(List (V×V)->Hp->Prop)->Prop
 |[],_,H,Q=>Q [] H
 |(tk,tv)::r,σ,H,Q=>tk σ H fun x H1=>tv σ H1 fun y H2=>z7f r σ H2 fun ps H3=>Q ((x,y)::ps) H3
noncomputable abbrev VV:List (V×V)->List (Value×Value)->Prop:=Paired fun p q=>RelV p.1 q.1/\RelV p.2 q.2
noncomputable def PPs(X:Cx)(pos:Pos)(keys:List (Option Expr))(values:List Expr)(trs:List (TE×TE)):Prop:=
 ∀(pins:List (Addr×Obj))(s:Shared)(σ:St)(H:Hp)(Q:List (V×V)->Hp->Prop),Inv X pins σ H s->z7f trs σ H Q->
  wpAny (model X.prog X.w) X.A (evalPairs (pairTrees keys values X.env pos)) (fun vs s'=>∃ps H',Inv X pins σ H' s'/\VV ps vs/\Q ps H') X.xe s
theorem zl6{X:Cx}{pos:Pos}:PPs X pos [] [] []:=fun pins s σ H Q I h=>pairTrees_nil_walk ⟨[],H,I,.nil,h⟩
theorem z2h{X:Cx}{pos:Pos}{k v:Expr}{ks:List (Option Expr)}{vs:List Expr}{tk tv:TE}{trs:List (TE×TE)}(hk:PE X k tk)(hv:PE X v tv)(hr:PPs X pos ks vs trs):
  PPs X pos (some k::ks) (v::vs) ((tk,tv)::trs):=fun pins s σ H Q I h=>
 pairTrees_cons_walk (thn (hk pins s σ H _ I h) fun u s1 ⟨x,H1,I1,rx,q1⟩=>thn (hv pins s1 σ H1 _ I1 q1) fun w2 s2 ⟨y,H2,I2,ry,q2⟩=>
  thn (hr pins s2 σ H2 _ I2 q2) fun ws s3 ⟨ps,H3,I3,rel,q3⟩=>⟨(x,y)::ps,H3,I3,.cons ⟨rx,ry⟩ rel,q3⟩)
noncomputable def z5y(kvs more:List (Key×V)):List (Key×V):=more.foldl (fun acc kv=>putK acc kv.1 kv.2) kvs
theorem KV.merge:∀{more:List (Key×V)}{rs:List (Key×Value)}{kvs:List (Key×V)}{vs:List (Key×Value)},KV more rs->KV kvs vs->KV (z5y kvs more) (merged vs rs):=by
 intro more rs kvs vs r
 unfold KV at r
 induction r generalizing kvs vs with
 |nil=>intro q;exact q
 |@cons p q ps qs h t ih=>
  intro r0
  have e:KV (putK kvs p.1 p.2) (stored vs q.1 q.2):=by
   have:=r0.put p.1 h.2
   rw[<-h.1];exact this
  exact ih e
theorem z6v:∀(more kvs:List (Key×V)),(z5y kvs more).length<=kvs.length+more.length
 |[],kvs=>by show kvs.length<=kvs.length+0;omega
 |p::r,kvs=>by
  have h1:=z6v r (putK kvs p.1 p.2)
  have h2:=z5h kvs p.1 p.2
  show(z5y (putK kvs p.1 p.2) r).length<=_
  rw[x0o];omega
theorem z9l{P:Program}{w:World}:∀{kvs:List (Key×V)}{ws:List (Value×Value)},VV (kvs.map fun kv=>(kV kv.1,kv.2)) ws->∃rs,Carries (z21 P w) ws rs/\KV kvs rs
 |[],_,r=>by rw[List.map_nil]at r;cases r;exact⟨[],x1k,.nil⟩
 |p::kvs,_,r=>by
  rw[x0h]at r
  cases r with
  |@cons a b as bs h t=>
   obtain⟨rs,c,q⟩:=z9l (P:=P) (w:=w) t
   obtain⟨b1,b2⟩:=b
   exact⟨(p.1,b2)::rs,⟨zc7 h.1,rfl,c⟩,.cons ⟨rfl,h.2⟩ q⟩
noncomputable def zgi(trs:List (TE×TE)):TE:=fun σ H Q=>∀p,H p=none->z7f trs σ (upd H p (.dK [])) fun ps H2=>H2 p=some (.dK [])/\∃kvs:List (Key×V),ps=kvs.map (fun kv=>(kV kv.1,kv.2))/\kvs.length<=15/\Q (.ref p) (upd H2 p (.dK (z5y [] kvs)))
theorem zl7{X:Cx}{pos:Pos}{keys:List (Option Expr)}{values:List Expr}{trs:List (TE×TE)}(h:PPs X pos keys values trs)(hall:keys.all (·.isSome)=true)(hl:keys.length=values.length)(h0:keys≠[])
  (h15:keys.length<=15):PE X (.Dict keys values pos) (zgi trs):=by
 intro pins s σ H Q I q
 have hn:=I.hok.fresh (xk s.heap.objs.size)
 have I1:=I.laid (a:=s.heap.objs.size) (o:=.dK []) (h':=s.heap.push { cls:=.type "dict",data:=.dict #[] }) (t':=s.toks) (fun _ _ q=>xf _ q) (xk _) (zcy s.heap I.big)
 refine wpAny_Dict_walk (knd:=z21 X.prog X.w) hall hl h0 h15 (thn (h pins _ σ _ _ I1 (q _ hn)) fun ws s2 ⟨ps,H2,I2,rel,e,kvs,ep,lk,q2⟩=>?_)
 subst ep
 obtain⟨rs,c,rk⟩:=z9l (P:=X.prog) (w:=X.w) rel
 obtain⟨z,hd,vs0,r0,dd⟩:=zkl I2.hok e
 cases r0
 refine⟨rs,c,dd,fun h' dd' hs=>⟨.ref s.heap.objs.size,_,?_,rfl,q2⟩⟩
 have hz:(z5y [] kvs).length<=sizeLine:=by
  have h1:=z6v kvs []
  rw[List.length_nil]at h1
  rw[sizeLine_eq];omega
 have he:∃q,h'.get? s.heap.objs.size=some q:=let⟨q,_,_,hq,_⟩:=dd';⟨q,hq⟩
 exact z85 I2 (by rw[e];exact x1k) hs he (zi6 hz hd (rk.merge .nil) dd')
structure M1(X:Cx)(o:Expr)(m:Str)(apos:Pos)(e:Expr)(cpos:Pos):Prop where
 base:attributeBase o m X.env (eval o X.env)=eval o X.env
 few:((backTo cpos (starEach [e] X.env)).all (fun x=>!x.1)&&(backToKw cpos (keywordEach [] X.env)).all (fun x=>x.1.isSome)
  &&decide (([e]:List Expr).length+([]:List Keyword).length+(if([]:List Keyword).isEmpty then 0 else 1)<30))=true
 line:(apos.endLine==cpos.line)=true
 trees:backTo cpos (starEach [e] X.env)=[(false,eval e X.env)]
structure M2(X:Cx)(o:Expr)(m:Str)(apos:Pos)(e f:Expr)(cpos:Pos):Prop where
 base:attributeBase o m X.env (eval o X.env)=eval o X.env
 few:((backTo cpos (starEach [e,f] X.env)).all (fun x=>!x.1)&&(backToKw cpos (keywordEach [] X.env)).all (fun x=>x.1.isSome)
  &&decide (([e,f]:List Expr).length+([]:List Keyword).length+(if([]:List Keyword).isEmpty then 0 else 1)<30))=true
 line:(apos.endLine==cpos.line)=true
 trees:backTo cpos (starEach [e,f] X.env)=[(false,eval e X.env),(false,eval f X.env)]
section
variable {X:Cx}{pins:List (Addr×Obj)}{σ:St}{H:Hp}{s:Shared}{a:Addr}{y d:V}{u r:Value}{o:Option V}{A:Around}{E:Value->Shared->Prop}
end
section
variable {X:Cx}{o e f:Expr}{apos cpos:Pos}{td ty tx:TE}
end
section
variable {X:Cx}{pins:List (Addr×Obj)}{σ:St}{H:Hp}{s:Shared}{a:Addr}{kvs:List (Key×V)}{A:Around}{E:Value->Shared->Prop}
end
section
variable {X:Cx}{pins:List (Addr×Obj)}{σ:St}{H:Hp}{s:Shared}{a:Addr}{y:V}{u:Value}{A:Around}{E:Value->Shared->Prop}
end
end L2
namespace Att
open PySem PySem.W PySem.Calls PyProof.Rows
section
variable {prog:Program}{w:World}{A:Around}{E:Value->Shared->Prop}{s:Shared}{K:Frag}
end
end Att
namespace L2
open PySem PySem.Spec PyProof.Rows
end L2
namespace L2
open PySem PySem.Spec PyProof.Rows
end L2
namespace L2
open PySem PySem.Spec PyProof.Rows
section
variable {P:Program}{w:World}{K:PySem.W.Frag}{mg:Str->Option Value}{base:Heap}
end
section
variable {X:Cx}
end
section
variable {κ:Type}[DecidableEq κ]
end
end L2
end
section
namespace L2
open PySem PySem.Spec PyProof.Rows
section
variable {X:Cx}
end
end L2
end
section
namespace PySem
open Sem (wp)
open AutoSeq1 (wpAny_loadPart')
end PySem
end
section
namespace L2
open PySem PySem.Spec PyProof.Rows
section
variable {X:Cx}
end
end L2
end
section
namespace L2
open PySem PySem.Spec PyProof.Rows
end L2
end
section
namespace L2
open PySem PySem.Spec PyProof.Rows
section
variable {X:Cx}
end
noncomputable def KHasX(P:Program)(w:World)(K:PySem.W.Frag)(mg:Str->Option Value)(base:Heap)(CX:CXT)(k:Nat)(C:Addr)(ps:List Str)(sp:Sp):Prop:=
 ∃f fd,FnOk P w K mg base CX k f fd ps sp/\Mk K C f/\Binds K fd ps []
theorem KDef.okx{P:Program}{w:World}{K:PySem.W.Frag}{mg:Str->Option Value}{base:Heap}{C:Addr}{qual:Str}{st:Stmt}{N ps:List Str}{k:Nat}{sp:Sp}(D:KDef K C qual st ps)(S:FnScope N ps (zh st))(len:∀vs H Q E,sp vs H Q E->vs.length=ps.length)
  (hbody:∀(f:Addr)(cdv:Value)(A:Around)(outer:List Env)(s:Shared)(H:Hp)(vs:List V)(Q:VK)(E:XK),Room k (A.deeper (envOfC qual (zh st) s.heap.objs.size f cdv))->sp vs H Q E->
   ∃t,PSs (cxOf (CX1 P w) P w K mg base N qual (zh st) f cdv A outer s H E) (z23 st) t/\t { nx:=fun _ H'=>Q .non H',rt:=Q } (start N vs) H):KHasX P w K mg base (CX1 P w) (k+1) C ps sp:=by
 obtain⟨f,fd,F,hm,hb⟩:=D
 exact⟨f,fd,F.okx S len (fun cdv A outer s H vs Q E hr h=>hbody f cdv A outer s H vs Q E hr h),hm,hb⟩
theorem KHasX.never{P:Program}{w:World}{K:PySem.W.Frag}{mg:Str->Option Value}{base:Heap}{k:Nat}{C:Addr}{ps:List Str}{sp:Sp}(G:KHasX P w K mg base (CX1 P w) k C ps sp):KHas P w K mg base k C ps (fun vs H Q _=>sp vs H Q E0):=by
 obtain⟨f,fd,F,hm,hb⟩:=G
 refine⟨f,fd,⟨fun vs H Q E h=>F.len vs H Q E0 h,fun A outer s H args us vs Q E hr he hb hv hs=>codeAny_mono (F.run A outer s H args us vs Q E0 hr he hb hv hs) fun r s' h=>?_⟩,hm,hb⟩
 cases r with
 |error e=>
  obtain⟨_,_,_,_,_,_,_,_,_,_,_,_,_,z⟩:=h
  exact z
 |ok fl=>cases fl<;>exact h
end L2
end
section
namespace L2
open PySem PySem.Spec PyProof.Rows
section
variable {X:Cx}
end
section
variable {X:Cx}{tg:Expr}
end
end L2
end
section
namespace L2
open PySem PySem.Spec PyProof.Rows
noncomputable def keyB(k:Key)(v:Value):Bool:=match v with
 | .bool b=>decide (k=.inl (if b=true then 1 else 0))
 |v=>z57 k v
theorem z1v{k:Key}{v:Value}(h:keyB k v=true):(∃i t,k=Sum.inl i/\v=Value.int i t)\/(∃x t,k=Sum.inr x/\v=Value.str x t)\/∃b:Bool,k=Sum.inl (if b=true then 1 else 0)/\v=Value.bool b:=by
  cases v with
  |bool b=>exact .inr (.inr ⟨b,x05 h,rfl⟩)
  | _ => rcases z1t (k:=k) h with h|h
         . exact .inl h
         . exact .inr (.inl h)
section
variable {prog:Program}{w:World}{A:Around}{E:Value->Shared->Prop}{s:Shared}
theorem zee{b:Bool}{Q:Int->Shared->Prop}(h:Q (hashInt (if b=true then 1 else 0)) { s with toks:=s.toks+1 }):
  wpAny (model prog w) A (pyHash (.bool b)) Q E s:=by
 have hr:=rawHash_range (if b=true then 1 else 0)
 have hT:s.TypeIs (.bool b) "bool":=rfl
 unfold pyHash
 have hv:[Value.bool b].any Value.onHeap=false:=rfl
 refine x8 ?_
 rw[cRoomFor,if_neg (by rw[hv];exact xa)];refine xh ?_
 refine x8 (wpAny_specialOf hT F.slot_bool_hash.lookup ?_)
 show wpAny _ _ (if(some (Value.builtin "int.__hash__")==some Value.none)=true then _ else _) Q E s
 rw[if_neg (by rw[beq_builtin_none];exact xa)]
 refine x8 (wpAny_specialOf hT F.slot_bool_hash.lookup ?_)
 show wpAny _ _ (callSpecialIfBoundUnlessNone? (.bool b) "__hash__" _>>=_) Q E s
 refine x8 (wpAny_callSpecialIfBoundUnlessNone?_slot hT F.slot_bool_hash
  (x1j F.slot_bool_hash hT entry_int_hash
   (show wpAny _ _ (do ret (<-mkInt (rawHash (if b=true then 1 else 0)))) _ _ s from wpAny_ret_mkInt ?_) (args_int_hash _)))
 show wpAny _ _ (if(decide (-(2:Int) ^ 63<=rawHash (if b=true then 1 else 0))&&decide (rawHash (if b=true then 1 else 0)<2 ^ 63))=true then _ else _) Q E _
 rw[if_pos (by rw[xx hr.1,xx hr.2];rfl)]
 exact xh h
end
theorem zl8{a b:Bool}:decide ((Sum.inl (if a=true then(1:Int) else 0):Key)=Sum.inl (if b=true then 1 else 0))=(a==b):=by
 cases a<;>cases b<;>rfl
noncomputable def z6b(prog:Program)(w:World):PySem.KeyKind prog w Key where
 is:=keyB
 hash:=keyH w
 inj:=fun v a b ha hb=>by
  rcases z1v ha with⟨i,t,rfl,rfl⟩|⟨x,t,rfl,rfl⟩|⟨p,rfl,rfl⟩
  .rcases z1v hb with⟨j,u,rfl,e⟩|⟨y,u,rfl,e⟩|⟨q,rfl,e⟩
   .injection e with e1 _;rw[e1]
   .exact nomatch e
   .exact nomatch e
  .rcases z1v hb with⟨j,u,rfl,e⟩|⟨y,u,rfl,e⟩|⟨q,rfl,e⟩
   .exact nomatch e
   .injection e with e1 _;rw[e1]
   .exact nomatch e
  .rcases z1v hb with⟨j,u,rfl,e⟩|⟨y,u,rfl,e⟩|⟨q,rfl,e⟩
   .exact nomatch e
   .exact nomatch e
   .injection e with e1;rw[e1]
 byValue:=fun k v h=>by
  rcases z1v h with⟨i,t,rfl,rfl⟩|⟨x,t,rfl,rfl⟩|⟨p,rfl,rfl⟩<;>rfl
 pyHash:=fun hv h=>by
  rcases z1v hv with⟨i,t,rfl,rfl⟩|⟨x,t,rfl,rfl⟩|⟨p,rfl,rfl⟩
  .exact wpAny_pyHash_int h
  .exact wpAny_pyHash_str h
  .exact zee h
 eqBool:=fun hu hv h=>by
  rcases z1v hu with⟨i,t,rfl,rfl⟩|⟨x,t,rfl,rfl⟩|⟨p,rfl,rfl⟩
  .rcases z1v hv with⟨j,u,rfl,rfl⟩|⟨y,u,rfl,rfl⟩|⟨q,rfl,rfl⟩
   .rw[z98]at h;exact wpAny_eqBool_int h
   .rw[zc8]at h;exact SeqAt.EqAt.int_str i t y u _ _ _ _ h
   .rw[z98]at h;exact SeqAt.EqAt.int_bool i t q _ _ _ _ h
  .rcases z1v hv with⟨j,u,rfl,rfl⟩|⟨y,u,rfl,rfl⟩|⟨q,rfl,rfl⟩
   .rw[zc9]at h;exact SeqAt.EqAt.str_int x t j u _ _ _ _ h
   .rw[zha]at h;exact wpAny_eqBool_str h
   .rw[zc9]at h;exact SeqAt.EqAt.str_bool x t q _ _ _ _ h
  .rcases z1v hv with⟨j,u,rfl,rfl⟩|⟨y,u,rfl,rfl⟩|⟨q,rfl,rfl⟩
   .rw[z98]at h;exact SeqAt.EqAt.bool_int p j u _ _ _ _ h
   .rw[zc8]at h;exact SeqAt.EqAt.bool_str p y u _ _ _ _ h
   .rw[zl8]at h;exact SeqAt.EqAt.bool_bool p q _ _ _ _ h
 «strs»:=fun k x t v h=>by
  rcases z1v h with⟨i,u,rfl,e⟩|⟨y,u,rfl,e⟩|⟨q,rfl,e⟩
  .exact nomatch e
  .injection e with e1 _
   subst e1
   cases v<;>first|rfl|simp[keyB,z57,Value.isStrOf,Value.isStr]
  .exact nomatch e
end L2
end
section
namespace L2
open PySem PySem.Spec PyProof.Rows
noncomputable def kB:V->Option Key
 | .int i=>some (.inl i)
 | .str x=>some (.inr x)
 | .bl b=>some (.inl (if b=true then 1 else 0))
 |_=>none
theorem zmk{P:Program}{w:World}{k:Key}{v:V}{u:Value}(e:kB v=some k)(r:RelV v u):(z6b P w).is k u=true:=by
 cases v with
 |int i=>obtain⟨t,rfl⟩:=(show∃t,u=Value.int i t from r);cases e;exact zay i t
 |str x=>obtain⟨t,rfl⟩:=(show∃t,u=Value.str x t from r);cases e;exact zaz x t
 |bl b=>obtain rfl:=(show u=Value.bool b from r);cases e;exact xx rfl
 |_=>cases e
theorem zi8{P:Program}{w:World}:∀{ks:List Key}{vs:List V}{us:List Value},Vals vs us->vs.map kB=ks.map some->ItemsAre (z6b P w) ks us
 |[],[],_,r,_=>by cases r;exact .nil
 |[],_::_,_,_,e=>by simp at e
 |_::_,[],_,_,e=>by simp at e
 |k::ks,v::vs,_,r,e=>by
  cases r with
  |cons h t=>
   rw[x0h,x0h]at e
   injection e with e1 e2
   exact .cons (zmk e1 h) (zi8 t e2)
noncomputable def TKey(H:Hp)(b:Addr)(k:List Key):Prop:=∃vs:List V,H b=some (.tup vs)/\vs.map kB=k.map some
theorem TKey.mono{H H':Hp}{b:Addr}{k:List Key}(h:TKey H b k)(s:∀b o,H b=some o->H' b=some o):TKey H' b k:=let⟨vs,e,m⟩:=h;⟨vs,s _ _ e,m⟩
noncomputable abbrev BT:=List (List Key×Addr×Value)
noncomputable def z3s(H:Hp)(xs:BT):Prop:=∀z∈xs,TKey H z.2.1 z.1
noncomputable def dtb(P:Program)(w:World)(a:Addr)(xs:BT):HO:=.ext fun h=>xs.length<=sizeLine/\(a==sysModules)=false/\∃o es ep,h.get? a=some o/\o.ExactDict/\o.data=.dict es ep/\es.toList=xs.map (entryOfKey (tupleKind (z6b P w)))/\(xs.map (·.1)).Nodup
section
variable {P:Program}{w:World}{H:Hp}{h:Heap}{a b:Addr}{xs:BT}{k:List Key}
theorem z4l(ok:HOk P w H h)(e:TKey H b k):(tupleKind (z6b P w)).is h k b:=by
 obtain⟨vs,e,m⟩:=e
 obtain⟨_,its,r,o,h1,h2,n,h3⟩:=(show ObjOk P w H h b (.tup vs) from ok b _ e)
 exact⟨o,its.toArray,n,h1,h2,h3,by simpa using zi8 r m⟩
theorem zi9(z:xs.length<=sizeLine)(hd:(a==sysModules)=false){o:Obj}{es:Array DictEntry}{ep:Nat}(ho:h.get? a=some o)(hx:o.ExactDict)(hd2:o.data=.dict es ep)(he:es.toList=xs.map (entryOfKey (tupleKind (z6b P w))))(nd:(xs.map (·.1)).Nodup):ObjOk P w H h a (dtb P w a xs):=
 ⟨⟨z,hd,o,es,ep,ho,hx,hd2,he,nd⟩,⟨o,ho⟩,fun h1 h2 t k=>let⟨z,hd,o,es,ep,ho,r⟩:=t;⟨z,hd,o,es,ep,k _ ho,r⟩⟩
theorem zd0(ok:HOk P w H h)(e:H a=some (dtb P w a xs))(hk:z3s H xs):xs.length<=sizeLine/\(a==sysModules)=false/\h.DictOfH (tupleKind (z6b P w)) a xs:=by
 obtain⟨⟨z,hd,o,es,ep,ho,hx,h3,h4,h5⟩,-,-⟩:=(show ObjOk P w H h a (dtb P w a xs) from ok a _ e)
 exact⟨z,hd,o,es,ep,ho,hx,h3,h4,fun x hx=>z4l ok (hk x hx),h5⟩
theorem zia(h:Heap)(hb:sysModules<h.objs.size):ObjOk P w H (h.push { cls:=.type "dict",data:=.dict #[] }) h.objs.size (dtb P w h.objs.size []):=
 zi9 (x03 _) (beq_eq_false_iff_ne.mpr (Ne.symm (xy hb))) (xu _ rfl) ⟨rfl,rfl,rfl⟩ rfl rfl List.nodup_nil
theorem zgj(xs:BT)(k:List Key)(b:Addr)(u:Value):(storedH xs k b u).length<=xs.length+1:=by
 unfold storedH
 split
 .rw[x0];omega
 .rw[x00];exact xk _
end
section
variable {X:Cx}{pins:List (Addr×Obj)}{σ:St}{H:Hp}{s:Shared}{a b q:Addr}{k:List Key}{xs:BT}{A:Around}{E:Value->Shared->Prop}
theorem zib{Q:Value->Shared->Prop}(hu:A.units+1<cLine)(I:Inv X pins σ H s)(e:H a=some (dtb X.prog X.w a xs))(hk:z3s H xs)(eb:TKey H b k){p:Addr×Value}(hp:atKey xs k=some p)(h:∀s',Inv X pins σ H s'->Q p.2 s'):
  wpAny (model X.prog X.w) A (getItem (.ref a) (.ref b)) Q E s:=by
 obtain⟨z,hd,dd⟩:=zd0 I.hok e hk
 exact wpAny_getItem_heap (tupleKind_room_in1 hu) (z4l I.hok eb) dd hp (h _ (I.tok _))
theorem zic{Q:Unit->Shared->Prop}(hu:A.units+1<cLine)(I:Inv X pins σ H s)(e:H a=some (dtb X.prog X.w a xs))(hk:z3s H xs)(eb:TKey H b k)(l:xs.length<sizeLine)(u:Value)(h:∀s',Inv X pins σ (upd H a (dtb X.prog X.w a (storedH xs k b u))) s'->Q () s'):
  wpAny (model X.prog X.w) A (setItem (.ref a) (.ref b) u) Q E s:=by
 obtain⟨z,hd,dd⟩:=zd0 I.hok e hk
 have hl:(storedH xs k b u).length<=sizeLine:=by have:=zgj xs k b u;omega
 refine wpAny_setItem_heap (hsz:=z) (tupleKind_room_in1 hu) (z4l I.hok eb) dd fun h' dd' hs=>h _ ?_
 obtain⟨o,es,ep,ho,h2,h3,h4,_,h5⟩:=dd'
 exact z85 I (by rw[e];exact x1k) hs ⟨o,ho⟩ (zi9 hl hd ho h2 h3 h4 h5)
theorem zm1{r:Value}{Q:Value->Shared->Prop}(hu:A.units+1<cLine)(I:Inv X pins σ H s)(e:H a=some (dtb X.prog X.w a xs))(hk:z3s H xs)(eb:TKey H b k)(h:∀s',Inv X pins σ H s'->Q (((atKey xs k).map (·.2)).getD r) s'):
  wpAny (model X.prog X.w) A (call (.builtin "dict.get") [.ref a,.ref b,r]) Q E s:=by
 obtain⟨z,hd,dd⟩:=zd0 I.hok e hk
 exact call_meetsIn PySem.F.slot_dict_get dd.typeIs PySem.F.entry_dict_get (PySem.F.args_dict_get_3 _ _ _) (meetsH_dict_get_default (tupleKind (z6b X.prog X.w)) a b hd r) ⟨tupleKind_room_in1 hu,k,xs,z4l I.hok eb,dd,h _ (I.tok _)⟩
theorem zd1(I:Inv X pins σ H s)(e:H a=some (dtb X.prog X.w a xs)):s.TypeIs (.ref a) "dict"/\∀ b,Value.ref a=.ref b->∃ ob,s.heap.get? b=some ob/\ob.dict=none:=by
 obtain⟨⟨z,hd,o,es,ep,ho,hx,h3,h4,h5⟩,-,-⟩:=(show ObjOk X.prog X.w H s.heap a (dtb X.prog X.w a xs) from I.hok a _ e)
 exact⟨⟨o,ho,hx.1⟩,fun b e=>by injection e with e;subst e;exact⟨o,ho,hx.2.1⟩⟩
end
noncomputable def zd2(P:Program)(w:World):TE:=fun _ H Q=>∀p,H p=none->Q (.ref p) (upd H p (dtb P w p []))
noncomputable def z9m(P:Program)(w:World)(td ty:TE):TE:=fun σ H Q=>td σ H fun x H1=>ty σ H1 fun y H2=>∃(a b q:Addr)(k:List Key)(xs:BT)(p:Addr×Value),x=.ref a/\y=.ref b/\H2 a=some (dtb P w a xs)/\z3s H2 xs/\TKey H2 b k/\atKey xs k=some p/\p.2=.ref q/\Q (.ref q) H2
noncomputable def zae(P:Program)(w:World)(td ty tx:TE):TE:=fun σ H Q=>td σ H fun x H1=>∃(a:Addr)(xs:BT),x=.ref a/\H1 a=some (dtb P w a xs)/\ty σ H1 fun y H2=>tx σ H2 fun z H3=>∃(b q:Addr)(k:List Key)(xs:BT),y=.ref b/\z=.ref q/\H3 a=some (dtb P w a xs)/\z3s H3 xs/\TKey H3 b k/\
 (∀p,atKey xs k=some p->∃q',p.2=.ref q'/\Q (.ref q') H3)/\(atKey xs k=none->Q (.ref q) H3)
noncomputable def zd3(P:Program)(w:World)(td ty tv:TE):TS:=fun D σ H=>tv σ H fun v H1=>td σ H1 fun x H2=>ty σ H2 fun y H3=>∃(a b q:Addr)(k:List Key)(xs:BT),v=.ref q/\x=.ref a/\y=.ref b/\H3 a=some (dtb P w a xs)/\z3s H3 xs/\TKey H3 b k/\xs.length<sizeLine/\D.nx σ (upd H3 a (dtb P w a (storedH xs k b (.ref q))))
section
variable {X:Cx}{o i e f value:Expr}{pos pos' apos cpos:Pos}{td ty tv tx:TE}
theorem zjs:PE X (.Dict [] [] pos) (zd2 X.prog X.w):=fun pins s σ H Q I h=>
 wpAny_Dict_empty ⟨.ref s.heap.objs.size,_,I.laid (a:=s.heap.objs.size) (o:=dtb X.prog X.w s.heap.objs.size []) (t':=s.toks) (fun _ _ q=>xf _ q) (xk _) (zia s.heap I.big),rfl,h _ (I.hok.fresh (xk _))⟩
theorem zjt(hu:X.A.units+1<cLine)(ho:PE X o td)(hi:PE X i ty)(hs:NoSl i):PE X (.Subscript o i pos) (z9m X.prog X.w td ty):=by
 intro pins s σ H Q I h
 refine zf1 PySem.F.slot_dict_getitem.lookup hs (thn (ho pins s σ H _ I h) fun u s1 ⟨x,H1,I1,rx,q1⟩=>thn (hi pins s1 σ H1 _ I1 q1) fun iv s2 ⟨y,H2,I2,ry,a,b,q,k,xs,p,ex,ey,g,hk,eb,hp,hq,q2⟩=>?_)
 subst ex ey
 obtain rfl:u=Value.ref a:=rx
 obtain rfl:iv=Value.ref b:=ry
 exact⟨(zd1 I2 g).1,zib hu I2 g hk eb hp fun s3 I3=>⟨.ref q,H2,I3,hq,q2⟩⟩
theorem zid(hu:X.A.units+1<cLine)(ho:PE X o td)(he:PE X e ty)(hf:PE X f tx)(m:M2 X o "get" apos e f cpos):PE X (.Call (.Attribute o "get" apos) [e,f] [] cpos) (zae X.prog X.w td ty tx):=by
 intro pins s σ H Q I h
 refine wpAny_Call_method m.base m.few m.line PySem.F.plainAttrs_dict PySem.F.slot_dict_get PySem.F.type_dict_get (thn (ho pins s σ H _ I h) fun u s1 ⟨x,H1,I1,rx,a,xs0,ex,d,q1⟩=>?_)
 subst ex
 obtain rfl:u=Value.ref a:=rx
 obtain⟨t1,t2⟩:=zd1 I1 d
 refine⟨t1,t2,?_⟩
 rw[m.trees]
 refine Calls.callWith_builtin rfl (Calls.evalArgs_plain (Calls.spliced_cons (thn (he pins s1 σ H1 _ I1 q1) fun iv s2 ⟨y,H2,I2,ry,q2⟩=>
  Calls.spliced_cons (thn (hf pins s2 σ H2 _ I2 q2) fun fv s3 ⟨z,H3,I3,rz,b,q,k,xs,ey,ez,g,hk,eb,q3,q4⟩=>Calls.spliced_nil ?_))))
 subst ey ez
 obtain rfl:iv=Value.ref b:=ry
 obtain rfl:fv=Value.ref q:=rz
 refine zm1 hu I3 g hk eb fun s4 I4=>?_
 cases ea:atKey xs k with
 |none=>exact⟨.ref q,H3,I4,rfl,q4 ea⟩
 |some p=>
  obtain⟨q',hq,qq⟩:=q3 p ea
  exact⟨.ref q',H3,I4,hq,qq⟩
theorem zju(hu:X.A.units+1<cLine)(ho:PE X o td)(hi:PE X i ty)(hv:PE X value tv)(hs:swapsWith value (some (.Subscript o i pos')) pos.line X.env=pure false):
  PS X (.Assign [.Subscript o i pos'] value pos) (zd3 X.prog X.w td ty tv):=by
 intro pins s σ H D I h
 refine wpAny_Assign_Subscript (thn (hv pins s σ H _ I h) fun r s1 ⟨v,H1,I1,rv,q1⟩=>thn (ho pins s1 σ H1 _ I1 q1) fun u s2 ⟨x,H2,I2,rx,q2⟩=>thn (hi pins s2 σ H2 _ I2 q2) fun iv s3 ⟨y,H3,I3,ry,a,b,q,k,xs,ev,ex,ey,g,hk,eb,l,q3⟩=>?_) hs
 subst ev ex ey
 obtain rfl:r=Value.ref q:=rv
 obtain rfl:u=Value.ref a:=rx
 obtain rfl:iv=Value.ref b:=ry
 exact zic hu I3 g hk eb l _ fun s4 I4=>⟨σ,_,I4,q3⟩
end
end L2
end
section
namespace PySem
open PySem.W PySem.Spec PyProof.Rows PySem.Calls
noncomputable def Heap.RawAt(h:Heap)(a:Addr)(es:Array DictEntry)(ep:Nat):Prop:=∃o,h.get? a=some o/\o.ExactDict/\o.data=.dict es ep
theorem Heap.RawAt.keep{h h':Heap}{a:Addr}{es:Array DictEntry}{ep:Nat}(x:h.RawAt a es ep)(k:∀o,h.get? a=some o->h'.get? a=some o):h'.RawAt a es ep:=let⟨o,e,r⟩:=x;⟨o,k o e,r⟩
theorem Heap.RawAt.typeIs{s:Shared}{a:Addr}{es:Array DictEntry}{ep:Nat}(x:s.heap.RawAt a es ep):s.TypeIs (.ref a) "dict":=let⟨o,e,r,_⟩:=x;⟨o,e,r.1⟩
section
variable {prog:Program}{w:World}{A:Around}{E:Value->Shared->Prop}{s:Shared}{it d:Addr}{i ep:Nat}{es:Array DictEntry}
theorem zd4{Q:Option Value->Shared->Prop}(hh:A.handled=none)(hit:s.heap.IsKeyIter it d i es.size ep)(hm:s.heap.RawAt d es ep)
  (item:∀e,es[i]? =some e->∀h',h'.IsKeyIter it d (i+1) es.size ep->Heap.SameBut it s.heap h'->Q (some e.key) { s with heap:=h' })
  (stop:es[i]? =none->∀h',Heap.ExtBut it s.heap h'->Q none { s with heap:=h' }):wpAny (model prog w) A (pyNext (.ref it)) Q E s:=by
 obtain⟨o,ho,hc,hd⟩:=id hit
 obtain⟨od,hod,-,hdd⟩:=hm
 have hT:=hit.typeIs
 have hq:Builtin.Dict_items.ownsTuple "dict_keyiterator"=false:=by decide
 unfold pyNext
 refine x8 (wpAny_attempt (wpAny_callSpecial?_slot (name:=Str.ofString "__next__") hT F.slot_dict_keyiterator_next
  (x1j F.slot_dict_keyiterator_next hT F.entry_dict_keyiterator_next ?_ (F.args_dict_keyiterator_next_1 _))))
 refine x8 (xh (x8 (x8 ?_)))
 first|refine x8 (wpAny_typeNameOfWhole_keyiter hT (xh ?_))|refine x8 (wpAny_typeNameOf_keyiter hT (xh ?_))
 refine x8 (wpAny_fieldsOf ho hd ?_)
 simp only[hq,x0i,if_false]
 refine wpAny_ite ?_
 rw[if_neg (show¬((Value.ref d==Value.none)=true) from xa)]
 refine x8 (xh (x8 (wpAny_dictEntries hod hdd ?_)))
 rw[if_neg (by simp)]
 refine x8 (xh (x8 (wpAny_dictEpoch hod hdd ?_)))
 rw[if_neg (by simp)]
 refine xh ?_
 simp only[show¬((i:Int)<0) from by omega,if_false,x11]
 cases e:es[i]? with
 |some x=>
  simp only[]
  refine x8 ?_
  first|refine x8 (wpAny_typeNameOfWhole_keyiter hT (xh ?_))|refine x8 (wpAny_typeNameOf_keyiter hT (xh ?_))
  refine x8 (wpAny_isOneOf_keyiter hT ?_)
  have hs:=x17 (h:=s.heap) (a:=it) (f:=Obj.mapFields (·.setIfInBounds 1 (rawInt ((i:Int)+1))))
  have hn:(s.heap.update it (Obj.mapFields (·.setIfInBounds 1 (rawInt ((i:Int)+1))))).IsKeyIter it d (i+1) es.size ep:=
   ⟨_,x1l _ ho (Obj.isFreed_of_fields (x1p hd _)),(Obj.cls_mapFields ..).trans hc,by rw[x1p hd];simp[rawInt]⟩
  show wpAny _ _ (setField (.ref it) 1 (rawInt ((i:Int)+1))>>=_) _ _ s
  refine x8 (wpAny_setField ho hd (by simp) ?_)
  generalize s.heap.update it _=h' at hs hn⊢
  refine x8 (x1h (x8 (wpAny_isOneOf_keyiter (s:={ s with heap:=h' }) hn.typeIs ?_)))
  show wpAny _ _ (pure x.key) _ _ _
  exact xh (xh ⟨_,rfl,xh (item x e h' hn hs)⟩)
 |none=>
  simp only[]
  refine x8 ?_
  first|refine x8 (wpAny_typeNameOfWhole_keyiter hT (xh ?_))|refine x8 (wpAny_typeNameOf_keyiter hT (xh ?_))
  have hs:=x17 (h:=s.heap) (a:=it) (f:=Obj.mapFields (·.setIfInBounds 0 Value.none))
  show wpAny _ _ (setField (.ref it) 0 .none>>=_) _ _ s
  refine x8 (wpAny_setField ho hd (by simp) ?_)
  generalize s.heap.update it _=h' at hs⊢
  refine x8 ?_
  simp only[newExc,newTuple,raiseNew]
  refine x8 (x0z ?_ (by size_fits))
  refine x8 (m:=firstArgMember _ _) (wpAny_of_eq (a:=Value.none) (by first|rfl|(simp only[firstArgMember];rfl)) (x0z ?_ (by size_fits)))
  refine x8 (wpAny_handled ?_)
  rw[show A.in1.handled=none from hh]
  refine x8 (xh (wpAny_throw ?_))
  refine x8 (wpAny_isInstance (T:="StopIteration") (b:=true) ⟨_,xu _ rfl,rfl⟩ isSubtype_stop ?_)
  exact xh (stop e _ ((hs.extBut.push _).push _))
theorem zjv{Q:Value->Shared->Prop}(hd:(d==sysModules)=false)(hm:s.heap.RawAt d es ep)
  (h:Q (.ref s.heap.objs.size) { s with heap:=s.heap.push { cls:=.type "dict_keyiterator",data:=.fields #[.ref d,.int 0 0,.int es.size 0,.int ep 0] } }):
  wpAny (model prog w) A (pyIter (.ref d)) Q E s:=by
 have hT:=hm.typeIs
 obtain⟨o,ho,-,hdat⟩:=hm
 refine wpAny_pyIter_slot hT F.slot_dict_iter (x1j F.slot_dict_iter hT F.entry_dict_iter ?_ (F.args_dict_iter_1 _))
 unfold Builtin.«dict.__iter__» Builtin.Dict.dictSlotNone
 refine x8 (x8 (wpAny_notOrdered_dict hT (xh ?_)))
 show wpAny _ _ (Builtin.Dict.showsAll d>>=_) _ _ s
 unfold Builtin.Dict.showsAll
 rw[if_neg (by rw[hd];exact xa)]
 refine x8 (xh (x8 (wpAny_dictEntries ho hdat (x8 (wpAny_dictEpoch ho hdat ?_)))))
 refine x8 (x0z (xh ⟨_,rfl,"dict_keyiterator",_,⟨_,xu _ rfl,rfl⟩,F.slot_dict_keyiterator_next.lookup,?_⟩))
 simpa[rawInt]using h
theorem zie(hh:A.handled=none)(I:Addr)(hne:d≠I):
  Walks prog w A I [I,d] [I] es.size (fun i v=>∃e,es[i]? =some e/\v=e.key) (fun i h=>h.IsKeyIter I d i es.size ep/\h.RawAt d es ep) where
 sub:=fun b hb=>by simp at hb;simp[hb]
 frame:=fun _ _ _ st hk=>⟨st.1.at fun o e=>hk I (by simp) o e,st.2.keep fun o e=>hk d (by simp) o e⟩
 item:=fun i s Q E hi st hQ=>zd4 hh st.1 st.2 (fun e he h' hit' hs=>hQ e.key h' s.toks ⟨e,he,rfl⟩ ⟨hit',st.2.keep fun o z=>(hs.2 d hne).trans z⟩ fun b o hb z=>(hs.2 b fun q=>hb (by simp[q])).trans z) fun e=>by
  rw[x0w hi]at e;cases e
 done:=fun s Q E st hQ=>zd4 hh st.1 st.2 (fun e he=>by rw[Array.getElem?_eq_none (xk _)]at he;cases he) fun _ h' he=>hQ h' s.toks fun b o hb z=>he b o (fun q=>hb (by simp[q])) z
 self:=fun _ _ _ _ st hQ=>wpAny_pyIter_keyiter st.1 hQ
theorem zl9(lo:(d==sysModules)=false):PySem.W.KdlSrc prog w "dict" d d es.size (fun i v=>∃ e,es[i]? =some e/\v=e.key) (fun h=>h.RawAt d es ep) where
 type:=fun _ hm=>hm.typeIs
 there:=fun _ hm=>let⟨_,ho,_⟩:=hm;⟨xl ho,xl ho⟩
 keep:=fun _ _ hm hk=>hm.keep fun o e=>hk d (.inl rfl) o e
 notList:=by decide
 notTuple:=by decide
 hint:=fun _ _ _ _ hm hq=>PySem.W.kdl_hint_dict hm.typeIs hq
 iter:=fun _ s hh hm=>⟨_,_,(fun _ _ hq=>zjv lo hm hq),zie hh _ (xy (let⟨_,ho,_⟩:=hm;xl ho)),⟨⟨_,xu _ rfl,rfl,rfl⟩,hm.keep fun o e=>xf _ e⟩⟩
end
end PySem
end
section
namespace PySem
open PySem.W PySem.Spec PyProof.Rows
section
variable {prog:Program}{w:World}{A:Around}{E:Value->Shared->Prop}{s:Shared}
end
end PySem
namespace L2
open PySem PySem.W PySem.Spec PyProof.Rows
noncomputable def zml(c':Addr)(qual:Str):HO:=.ext fun h=>h.CodeRec (.ref c') qual
noncomputable def TbOk(H:Hp)(Pt:Addr)(pos:Pos)(qual:Str):Prop:=H Pt=some (.tbl #[])\/∃c',H Pt=some (.tbl #[rawInt pos.line,rawInt pos.col,.ref c'])/\H c'=some (zml c' qual)
theorem TbOk.some{H:Hp}{Pt:Addr}{pos:Pos}{qual:Str}(h:TbOk H Pt pos qual):∃ps,H Pt=some (.tbl ps):=by
 rcases h with h|⟨c',h,_⟩
 .exact⟨_,h⟩
 .exact⟨_,h⟩
theorem TbOk.mono{H H':Hp}{Pt:Addr}{pos:Pos}{qual:Str}(h:TbOk H Pt pos qual)(s:Same H H'):TbOk H' Pt pos qual:=by
 rcases h with h|⟨c',h,h2⟩
 .exact .inl (s _ _ h)
 .exact .inr ⟨c',s _ _ h,s _ _ h2⟩
section
variable {X:Cx}{pins:List (Addr×Obj)}{σ:St}{H:Hp}{s:Shared}{c Pt:Addr}{pos:Pos}{params:Arguments}{body:Expr}{scope:Scope}
end
end L2
end
section
namespace PySem
open PySem.W PySem.Spec PyProof.Rows
structure LamX(x:Str)(params:Arguments)(scope:Scope):Prop where
 bind:∀(qual:Str) (body:Expr) (pm cdv ctv v:Value),bindArgs (kla_fn "<lambda>" qual params body scope [] pm cdv ctv) ⟨[v],[]⟩=pure [(x,v)]
 co:scope.isCoroutine=false
 gen:scope.isGenerator=false
 kind:scope.kind=.function
 cell:∀y∈scope.names,y.2≠.cell
 loc:scope.names.lookup x=some .local
 db:(x==("__debug__":Str))=false
section
variable {prog:Program}{w:World}{A:Around}{E:Value->Shared->Prop}{s:Shared}
end
end PySem
namespace L2
open PySem PySem.W PySem.Spec PyProof.Rows
section
variable {X:Cx}{pins:List (Addr×Obj)}{σ:St}{H:Hp}{s:Shared}
theorem zd5{g h h':Heap}{L:Addr}{m:Str->Option Value}{own:List (Addr×Obj)}(k:∀b o,g.get? b=some o->h.get? b=some o)(F:Fr g L h' m)(N:News g L h' (z4p g h L++own)):∀b o,b≠L->h.get? b=some o->h'.get? b=some o:=fun b o nb e=>by
 cases q:g.get? b with
 |some u=>
  have:=k b u q
  rw[e]at this;cases this
  exact F.keep b _ q
 |none=>exact(N (b,o) (x0t _ (z8d nb q e))).1
theorem Inv.walked{m:Str->Option Value}{h':Heap}{t':Nat}(I:Inv X pins σ H s)(hn:s.heap.Ns X.env.locals m)(hn':h'.Ns X.env.locals m)(k:∀b o,b≠X.env.locals->s.heap.get? b=some o->h'.get? b=some o):Inv X pins σ H { s with heap:=h',toks:=t' }:=by
 have hf:=I.free
 refine I.step (g':=s.gens) (d':=s.drawn) (ch:=[]) (fun _ z=>nomatch z) (fun b o nb _ _ e _=>k b o nb e) (fun b o nb _ _ e _=>⟨o.slots,k b o nb e⟩) (fun _ _ _ _ n=>n) (fun b o _ e=>?_) (fun _ _ e=>e) (fun _ _ _ e=>e) (fun b ps e=>⟨#[],by rw[e];simp⟩) (fun m' hm=>?_) (fun b u e=>?_) I.bare
 .by_cases z:b=X.env.locals
  .obtain⟨o',es,ep,ho,_⟩:=hn'
   exact⟨o',z▸ho⟩
  .exact⟨o,k b o z e⟩
 .rw[hm.eq_nsMap,<-hn.eq_nsMap]
  exact hn'
 .refine(I.hok b u e).stay (fun c v hc q=>k c v ?_ q) (fun _ q=>q) fun _ _ q=>q
  rintro rfl
  rcases hc with hc|hc
  .rw[<-hc,hf]at e;cases e
  .rw[hf]at hc;cases hc
noncomputable def But1(a:Addr)(H H':Hp):Prop:=∀b o,H b=some o->b≠a->H' b=some o
end
end L2
end
section
namespace L2
open PySem PySem.Spec PyProof.Rows
structure OnlyT(ts:List Addr)(H:Hp):Prop where
 all:∀b u,H b=some u->(b∈ts/\u=.tbl #[])\/∃o xs,u=.frz o (.lst xs)
 tab:∀t∈ts,H t=some (.tbl #[])
section
variable {P:Program}{w:World}{K:PySem.W.Frag}{mg mb:Str->Option Value}{k:Nat}{fa a:Addr}{fd:FuncData}{x:Str}{sp:Sp}{s₁:Shared}{vs:List Value}{ns:List Int}{ts:List Addr}
end
end L2
end
section
namespace L2
open PySem PySem.Spec PyProof.Rows
noncomputable def DefC(K:PySem.W.Frag)(mg:Str->Option Value)(x:Str)(st:Stmt)(ps:List Str)(c:Addr):Prop:=
 ∃(f:Addr)(oc:Value)(od:Option Addr)(kV doc pm:Value)(an:Option Addr)(ct:Value)(osl:Array (Option Value)),K.lookup f=some ⟨oc,od,.func (PySem.W.fnOf x x (z3w st) (z23 st) (zh st) .none kV doc pm an (.ref c) ct),osl⟩/\
  PySem.W.codeIn K (.ref c) x=true/\PySem.W.keepIn K (.ref f)=true/\mg x=some (.ref f)/\Binds K (PySem.W.fnOf x x (z3w st) (z23 st) (zh st) .none kV doc pm an (.ref c) ct) ps []
theorem DefC.ok{P:Program}{w:World}{K:PySem.W.Frag}{mg:Str->Option Value}{base:Heap}{x:Str}{st:Stmt}{N ps:List Str}{k:Nat}{sp:Sp}{c:Addr}(D:DefC K mg x st ps c)(S:FnScope N ps (zh st))(len:∀vs H Q E,sp vs H Q E->vs.length=ps.length)
  (hbody:∀(f:Addr)(A:Around)(outer:List Env)(s:Shared)(H:Hp)(vs:List V)(Q:VK)(E:XK),Room k (A.deeper (envOfC x (zh st) s.heap.objs.size f (.ref c)))->sp vs H Q E->
   ∃t,PSs (cxOf CX0 P w K mg base N x (zh st) f (.ref c) A outer s H E).nox (z23 st) t/\t { nx:=fun _ H'=>Q .non H',rt:=Q } (start N vs) H):Has P w K mg base (k+1) x ps sp:=by
 obtain⟨f,oc,od,kV,doc,pm,an,ct,osl,lk,hcd,kp,hm,hb⟩:=D
 refine⟨f,_,zfz lk hcd S len fun A outer s H vs Q E hr hsp=>?_,hm,kp,hb,oc,od,osl,lk⟩
 obtain⟨t,h,q⟩:=hbody f A outer s H vs Q E hr hsp
 exact⟨t,h.nox,q⟩
end L2
end
section
namespace PySem.W
open PySem PyProof.Rows
noncomputable def KasT.run{α:Type}(lt:Nat->Nat->Bool):KasT α->α
 | .ret a=>a
 | .ask i j k=>(k (lt i j)).run lt
theorem KasT.run_bind{α β:Type}(lt:Nat->Nat->Bool)(f:α->KasT β):∀t:KasT α,(t.bind f).run lt=(f (t.run lt)).run lt
 | .ret _=>rfl
 | .ask i j k=>KasT.run_bind lt f (k (lt i j))
section
variable {lt:Nat->Nat->Bool}(tr:∀a b c,lt b a=false->lt c b=false->lt c a=false)(asy:∀a b,lt a b=true->lt b a=false)
noncomputable def at'(p:Array Nat)(i:Nat):Nat:=p.getD i 0
noncomputable def Asc(lt:Nat->Nat->Bool)(p:Array Nat)(m:Nat):Prop:=∀a b,a<b->b<m->lt (at' p b) (at' p a)=false
noncomputable def Dsc(lt:Nat->Nat->Bool)(p:Array Nat)(m:Nat):Prop:=∀a b,a<b->b<m->lt (at' p a) (at' p b)=false
noncomputable def Eqs(lt:Nat->Nat->Bool)(p:Array Nat)(i j:Nat):Prop:=∀a b,i<=a->a<j->i<=b->b<j->lt (at' p a) (at' p b)=false
include asy in
theorem irr(x:Nat):lt x x=false:=by
 cases h:lt x x with
 |false=>rfl
 |true=>exact(asy x x h).symm.trans h |>.symm▸rfl
include tr asy in
theorem zm2{p:Array Nat}{n:Nat}(h1:1<=n)(h:Asc lt p n)(c:lt (at' p n) (at' p (n-1))=false):Asc lt p (n+1):=by
 intro a b hab hb
 by_cases hbn:b<n
 .exact h a b hab hbn
 .have e:b=n:=by omega
  subst e
  by_cases ha:a=b-1
  .subst ha;exact c
  .exact tr _ _ _ (h a (b-1) (by omega) (by omega)) c
include tr asy in
theorem zaf(p:Array Nat):∀(f n:Nat),1<=n->Asc lt p n->Asc lt p ((kas_asc p f n).run lt)/\n<=(kas_asc p f n).run lt/\(kas_asc p f n).run lt<=n+f/\
  ((kas_asc p f n).run lt<n+f->lt (at' p ((kas_asc p f n).run lt)) (at' p ((kas_asc p f n).run lt-1))=true)
 |0,n,h1,h=>⟨h,xk _,xk _,fun z=>absurd z (x0r _)⟩
 |f+1,n,h1,h=>by
  cases c:lt (at' p n) (at' p (n-1)) with
  |true=>
   have e:(kas_asc p (f+1) n).run lt=n:=by
    show KasT.run lt (if lt (at' p n) (at' p (n-1))=true then _ else _)=n
    rw[if_pos c];rfl
   rw[e]
   exact⟨h,xk _,by omega,fun _=>c⟩
  |false=>
   have e:(kas_asc p (f+1) n).run lt=(kas_asc p f (n+1)).run lt:=by
    show KasT.run lt (if lt (at' p n) (at' p (n-1))=true then _ else _)=_
    rw[if_neg (by rw[c];exact xa)]
   rw[e]
   obtain⟨a1,a2,a3,a4⟩:=zaf p f (n+1) (by omega) (zm2 tr asy h1 h c)
   exact⟨a1,by omega,by omega,fun z=>a4 (by omega)⟩
theorem z3f{p:Array Nat}{i j:Nat}(hj:j<=p.size)(k:Nat):at' (kas_rev p i j) k=if i<=k/\k<j then at' p (i+j-1-k) else at' p k:=by
 unfold at' kas_rev
 have h:=getElem?_mirror_all (xs:=p) (i:=i) hj k
 simp only[Array.getD_eq_getD_getElem?,h]
 split<;>rfl
theorem z4z(p:Array Nat)(i j:Nat):(kas_rev p i j).Perm p:=mirror_perm _ _ _ _
theorem z8w(p:Array Nat)(i j:Nat):(kas_rev p i j).size=p.size:=mirror_size _ _ _ _
theorem zf2{p:Array Nat}{i n:Nat}(hn:n<=p.size)(h:Dsc lt p n)(e:Eqs lt p i n):Dsc lt (kas_rev p i n) n:=by
 intro a b hab hb
 rw[z3f hn,z3f hn]
 by_cases ha:i<=a/\a<n<;>by_cases hb':i<=b/\b<n
 .rw[if_pos ha,if_pos hb']
  exact e _ _ (by omega) (by omega) (by omega) (by omega)
 .omega
 .rw[if_neg ha,if_pos hb']
  exact h _ _ (by omega) (by omega)
 .rw[if_neg ha,if_neg hb']
  exact h _ _ hab hb
theorem zla{p:Array Nat}{n:Nat}(hn:n<=p.size)(h:Dsc lt p n):Asc lt (kas_rev p 0 n) n:=by
 intro a b hab hb
 rw[z3f hn,z3f hn,if_pos ⟨x03 _,hb⟩,if_pos ⟨x03 _,by omega⟩]
 exact h _ _ (by omega) (by omega)
include tr asy in
theorem z7g{p:Array Nat}{n:Nat}(h1:1<=n)(h:Dsc lt p n)(c:lt (at' p (n-1)) (at' p n)=false):Dsc lt p (n+1):=by
 intro a b hab hb
 by_cases hbn:b<n
 .exact h a b hab hbn
 .have e:b=n:=by omega
  subst e
  by_cases ha:a=b-1
  .subst ha;exact c
  .exact tr _ _ _ c (h a (b-1) (by omega) (by omega))
structure DR(lt:Nat->Nat->Bool)(p0:Array Nat)(lo hi:Nat)(r:Array Nat×Nat×Nat):Prop where
 d:Dsc lt r.1 r.2.1
 e:Eqs lt r.1 (r.2.1-(r.2.2+1)) r.2.1
 q:r.2.2<r.2.1
 lo:lo<=r.2.1
 hi:r.2.1<=hi
 pm:r.1.Perm p0
include tr asy in
theorem z6c:∀(f:Nat)(p:Array Nat)(n q:Nat),1<=n->q<n->n+f<=p.size->Dsc lt p n->Eqs lt p (n-(q+1)) n->DR lt p n (n+f) ((kas_desc f p n q).run lt)
 |0,p,n,q,h1,hq,hs,hd,he=>⟨hd,he,hq,xk _,xk _,Array.Perm.refl _⟩
 |f+1,p,n,q,h1,hq,hs,hd,he=>by
  have one:∀p':Array Nat,Eqs lt p' (n+1-(0+1)) (n+1):=fun p' a b a1 a2 b1 b2=>by
   have ea:a=n:=by omega
   have eb:b=n:=by omega
   rw[ea,eb];exact irr asy _
  cases c:lt (at' p n) (at' p (n-1)) with
  |true=>
   by_cases q0:q>0
   .have e:(kas_desc (f+1) p n q).run lt=(kas_desc f (kas_rev p (n-(q+1)) n) (n+1) 0).run lt:=by
     show KasT.run lt (if lt (at' p n) (at' p (n-1))=true then _ else _)=_
     rw[if_pos c,if_pos q0]
    rw[e]
    have up:Dsc lt (kas_rev p (n-(q+1)) n) (n+1):=by
     refine z7g tr asy h1 (zf2 (by omega) hd he) ?_
     rw[z3f (by omega),z3f (by omega),if_pos (by omega),if_neg (by omega)]
     have e1:=he (n-(q+1)+n-1-(n-1)) (n-1) (by omega) (by omega) (by omega) (by omega)
     exact tr _ _ _ (asy _ _ c) e1
    obtain⟨a1,a2,a3,a4,a5,a6⟩:=z6c f (kas_rev p (n-(q+1)) n) (n+1) 0 (by omega) (by omega) (by rw[z8w];omega) up (one _)
    exact⟨a1,a2,a3,by omega,by omega,a6.trans (z4z _ _ _)⟩
   .have e:(kas_desc (f+1) p n q).run lt=(kas_desc f p (n+1) 0).run lt:=by
     show KasT.run lt (if lt (at' p n) (at' p (n-1))=true then _ else _)=_
     rw[if_pos c,if_neg q0]
    rw[e]
    obtain⟨a1,a2,a3,a4,a5,a6⟩:=z6c f p (n+1) 0 (by omega) (by omega) (by omega) (z7g tr asy h1 hd (asy _ _ c)) (one _)
    exact⟨a1,a2,a3,by omega,by omega,a6⟩
  |false=>
   cases d:lt (at' p (n-1)) (at' p n) with
   |true=>
    have e:(kas_desc (f+1) p n q).run lt=(p,n,q):=by
     show KasT.run lt (if lt (at' p n) (at' p (n-1))=true then _ else _)=_
     rw[if_neg (by rw[c];exact xa)]
     show KasT.run lt (if lt (at' p (n-1)) (at' p n)=true then _ else _)=_
     rw[if_pos d];rfl
    rw[e]
    exact⟨hd,he,hq,xk _,by show n<=_;omega,Array.Perm.refl _⟩
   |false=>
    have e:(kas_desc (f+1) p n q).run lt=(kas_desc f p (n+1) (q+1)).run lt:=by
     show KasT.run lt (if lt (at' p n) (at' p (n-1))=true then _ else _)=_
     rw[if_neg (by rw[c];exact xa)]
     show KasT.run lt (if lt (at' p (n-1)) (at' p n)=true then _ else _)=_
     rw[if_neg (by rw[d];exact xa)]
    rw[e]
    have eq:Eqs lt p (n+1-(q+1+1)) (n+1):=by
     intro a b a1 a2 b1 b2
     by_cases ha:a<n<;>by_cases hb:b<n
     .exact he a b (by omega) ha (by omega) hb
     .have eb:b=n:=by omega
      rw[eb]
      exact tr _ _ _ d (he a (n-1) (by omega) ha (by omega) (by omega))
     .have ea:a=n:=by omega
      rw[ea]
      exact tr _ _ _ (he (n-1) b (by omega) (by omega) (by omega) hb) c
     .have ea:a=n:=by omega
      have eb:b=n:=by omega
      rw[ea,eb];exact irr asy _
    obtain⟨a1,a2,a3,a4,a5,a6⟩:=z6c f p (n+1) (q+1) (by omega) (by omega) (by omega) (z7g tr asy h1 hd d) eq
    exact⟨a1,a2,a3,by omega,by omega,a6⟩
structure CR(lt:Nat->Nat->Bool)(p0:Array Nat)(nrem:Nat)(r:Nat×Array Nat):Prop where
 a:Asc lt r.2 r.1
 lo:1<=r.1
 hi:r.1<=nrem
 pm:r.2.Perm p0
include tr asy in
theorem zbi{p:Array Nat}{n nrem:Nat}(h1:1<=n)(hn:n<=nrem)(hs:nrem<=p.size)(hd:Dsc lt p n):CR lt p nrem ((kas_tail3 n nrem p).run lt):=by
 unfold kas_tail3
 rw[KasT.run_bind]
 obtain⟨a1,a2,a3,a4⟩:=zaf tr asy (kas_rev p 0 n) (nrem-n) n h1 (zla (by omega) hd)
 exact⟨a1,by show 1<=KasT.run lt _;omega,by show KasT.run lt _<=nrem;omega,z4z _ _ _⟩
include tr asy in
theorem z7h{p:Array Nat}{n nrem:Nat}(h1:1<=n)(hn:n<nrem)(hs:nrem<=p.size)(hd:Dsc lt p (n+1)):CR lt p nrem ((kas_descPart n nrem p).run lt):=by
 unfold kas_descPart
 rw[KasT.run_bind]
 have one:Eqs lt p (n+1-(0+1)) (n+1):=fun a b a1 a2 b1 b2=>by
  have ea:a=n:=by omega
  have eb:b=n:=by omega
  rw[ea,eb];exact irr asy _
 obtain⟨d1,d2,d3,d4,d5,d6⟩:=z6c tr asy (nrem-(n+1)) p (n+1) 0 (by omega) (by omega) (by omega) hd one
 generalize KasT.run lt (kas_desc (nrem-(n+1)) p (n+1) 0)=r at d1 d2 d3 d4 d5 d6
 have sz:r.1.size=p.size:=d6.size_eq
 by_cases q0:r.2.2>0
 .rw[if_pos q0]
  obtain⟨a1,a2,a3,a4⟩:=zbi tr asy (p:=kas_rev r.1 (r.2.1-(r.2.2+1)) r.2.1) (n:=r.2.1) (nrem:=nrem) (by omega) (by omega) (by rw[z8w];omega) (zf2 (by omega) d1 d2)
  exact⟨a1,a2,a3,(a4.trans (z4z _ _ _)).trans d6⟩
 .rw[if_neg q0]
  obtain⟨a1,a2,a3,a4⟩:=zbi tr asy (p:=r.1) (n:=r.2.1) (nrem:=nrem) (by omega) (by omega) (by omega) d1
  exact⟨a1,a2,a3,a4.trans d6⟩
include tr asy in
theorem zif{p:Array Nat}{nrem:Nat}(h1:1<=nrem)(hs:nrem<=p.size):CR lt p nrem ((kas_count nrem p).run lt):=by
 unfold kas_count
 rw[KasT.run_bind]
 obtain⟨a1,a2,a3,a4⟩:=zaf tr asy p (nrem-1) 1 (xk _) (fun a b x y=>by omega)
 generalize KasT.run lt (kas_asc p (nrem-1) 1)=n at a1 a2 a3 a4
 by_cases e:(n==nrem)=true
 .rw[if_pos e]
  have e:=eq_of_beq e
  exact⟨a1,a2,by show n<=nrem;omega,Array.Perm.refl _⟩
 .rw[if_neg e]
  have ne:n≠nrem:=fun z=>e (by rw[z];exact beq_self_eq_true _)
  have c:=a4 (by omega)
  by_cases n1:n>1
  .rw[if_pos n1]
   show CR lt p nrem (KasT.run lt (if lt (at' p 0) (at' p (n-1))=true then _ else _))
   cases d:lt (at' p 0) (at' p (n-1)) with
   |true=>
    rw[if_pos rfl]
    exact⟨a1,a2,by show n<=nrem;omega,Array.Perm.refl _⟩
   |false=>
    rw[if_neg xa]
    have le1:∀x,x<n->lt (at' p (n-1)) (at' p x)=false:=fun x hx=>by
     by_cases z:x=n-1
     .rw[z];exact irr asy _
     .exact a1 x (n-1) (by omega) (by omega)
    have le0:∀y,y<n->lt (at' p y) (at' p 0)=false:=fun y hy=>by
     by_cases z:y=0
     .rw[z];exact irr asy _
     .exact a1 0 y (by omega) hy
    have all:∀x y,x<n->y<n->lt (at' p y) (at' p x)=false:=fun x y hx hy=>tr _ _ _ (tr _ _ _ (le1 x hx) d) (le0 y hy)
    have D:Dsc lt (kas_rev p 0 n) n:=fun a b hab hb=>by
     rw[z3f (by omega),z3f (by omega),if_pos (by omega),if_pos (by omega)]
     exact all _ _ (by omega) (by omega)
    have D1:Dsc lt (kas_rev p 0 n) (n+1):=by
     refine z7g tr asy (by omega) D ?_
     rw[z3f (by omega),z3f (by omega),if_pos (by omega),if_neg (by omega)]
     exact tr _ _ _ (asy _ _ c) (all (n-1) (0+n-1-(n-1)) (by omega) (by omega))
    obtain⟨b1,b2,b3,b4⟩:=z7h tr asy (p:=kas_rev p 0 n) (n:=n) (nrem:=nrem) a2 (by omega) (by rw[z8w];omega) D1
    exact⟨b1,b2,b3,b4.trans (z4z _ _ _)⟩
  .rw[if_neg n1]
   refine z7h tr asy a2 (by omega) hs (z7g tr asy a2 (fun a b x y=>by omega) (asy _ _ c))
include tr asy in
theorem z7i(p:Array Nat)(k:Nat)(hk:Asc lt p k):∀(f l r:Nat),l<=r->r<=k->r<=l+f->(∀a,a<l->lt (at' p k) (at' p a)=false)->(∀a,r<=a->a<k->lt (at' p k) (at' p a)=true)->
  (kas_place p k f l r).run lt<=k/\(∀a,a<(kas_place p k f l r).run lt->lt (at' p k) (at' p a)=false)/\(∀a,(kas_place p k f l r).run lt<=a->a<k->lt (at' p k) (at' p a)=true)
 |0,l,r,hlr,hrk,hf,h1,h2=>by
  have e:l=r:=by omega
  subst e
  exact⟨hrk,h1,h2⟩
 |f+1,l,r,hlr,hrk,hf,h1,h2=>by
  unfold kas_place
  by_cases g:l>=r
  .rw[if_pos g]
   have e:l=r:=by omega
   subst e
   exact⟨hrk,h1,h2⟩
  .rw[if_neg g]
   have mid:l<=(l+r)/2/\(l+r)/2<r:=by omega
   generalize(l+r)/2=m at mid
   show(KasT.run lt (if lt (at' p k) (at' p m)=true then _ else _))<=k/\(∀a,a<(KasT.run lt (if lt (at' p k) (at' p m)=true then _ else _))->_)/\(∀a,(KasT.run lt (if lt (at' p k) (at' p m)=true then _ else _))<=a->_)
   cases c:lt (at' p k) (at' p m) with
   |true=>
    simp only[if_true]
    refine z7i p k hk f l m mid.1 (by omega) (by omega) h1 fun a ha hak=>?_
    cases z:lt (at' p k) (at' p a) with
    |true=>rfl
    |false=>
     have y:lt (at' p k) (at' p m)=false:=by
      by_cases ea:a=m
      .rw[<-ea];exact z
      .exact tr _ _ _ (hk m a (by omega) hak) z
     rw[c]at y;cases y
   |false=>
    simp only[x0i,if_false]
    refine z7i p k hk f (m+1) r (by omega) hrk (by omega) (fun a ha=>?_) h2
    by_cases ea:a=m
    .rw[ea];exact c
    .exact tr _ _ _ (hk a m (by omega) (by omega)) c
theorem zbj{p:Array Nat}{k l:Nat}(hk:k<p.size)(hl:l<=k)(i:Nat):at' (bubble p k (k-l)) i=if i=l then at' p k else if l<i/\i<=k then at' p (i-1) else at' p i:=by
 unfold at'
 have h:=getElem?_bubble (xs:=p) hk (k-l) (by omega) i
 have e:k-(k-l)=l:=by omega
 rw[e]at h
 simp only[Array.getD_eq_getD_getElem?,h]
 repeat' split
 all_goals rfl
include tr asy in
theorem zf3:∀(f:Nat)(p:Array Nat)(k:Nat),k+f<=p.size->Asc lt p k->Asc lt ((kas_bin f p k).run lt) (k+f)/\((kas_bin f p k).run lt).Perm p
 |0,p,k,hs,h=>⟨h,Array.Perm.refl _⟩
 |f+1,p,k,hs,h=>by
  have e:(kas_bin (f+1) p k).run lt=(kas_bin f (bubble p k (k-(kas_place p k k 0 k).run lt)) (k+1)).run lt:=KasT.run_bind lt _ _
  rw[e]
  obtain⟨b1,b2,b3⟩:=z7i tr asy p k h k 0 k (x03 _) (xk _) (by omega) (fun a ha=>by omega) (fun a ha hb=>by omega)
  generalize(kas_place p k k 0 k).run lt=l at b1 b2 b3
  have A1:Asc lt (bubble p k (k-l)) (k+1):=by
   intro a b hab hb
   rw[zbj (by omega) b1,zbj (by omega) b1]
   by_cases c1:b=l
   .rw[if_pos c1,if_neg (by omega),if_neg (by omega)]
    exact b2 a (by omega)
   .rw[if_neg c1]
    by_cases c2:l<b/\b<=k
    .rw[if_pos c2]
     by_cases c3:a=l
     .rw[if_pos c3]
      exact asy _ _ (b3 (b-1) (by omega) (by omega))
     .rw[if_neg c3]
      by_cases c4:l<a/\a<=k
      .rw[if_pos c4]
       exact h (a-1) (b-1) (by omega) (by omega)
      .rw[if_neg c4]
       exact h a (b-1) (by omega) (by omega)
    .rw[if_neg c2,if_neg (by omega),if_neg (by omega)]
     exact h a b hab (by omega)
  have sz:(bubble p k (k-l)).size=p.size:=bubble_size _ _ _
  obtain⟨c1,c2⟩:=zf3 f (bubble p k (k-l)) (k+1) (by rw[sz];omega) A1
  have e2:k+1+f=k+(f+1):=by omega
  rw[e2]at c1
  exact⟨c1,c2.trans (bubble_perm _ _ _)⟩
include tr asy in
theorem zjw{n:Nat}(h1:1<=n):Asc lt ((kas_sort n).run lt) n/\((kas_sort n).run lt).Perm (List.toArray (List.range n)):=by
 unfold kas_sort
 rw[KasT.run_bind]
 have sz:(List.toArray (List.range n)).size=n:=by simp
 obtain⟨a1,a2,a3,a4⟩:=zif tr asy (p:=List.toArray (List.range n)) (nrem:=n) h1 (by omega)
 generalize KasT.run lt (kas_count n (List.toArray (List.range n)))=r at a1 a2 a3 a4
 have sr:r.2.size=n:=by rw[a4.size_eq,sz]
 by_cases c:r.1<n
 .rw[if_pos c]
  have e:max r.1 1=r.1:=by omega
  rw[e]
  obtain⟨b1,b2⟩:=zf3 tr asy (n-r.1) r.2 r.1 (by omega) a1
  have e2:r.1+(n-r.1)=n:=by omega
  rw[e2]at b1
  exact⟨b1,b2.trans a4⟩
 .rw[if_neg c]
  have e:r.1=n:=by omega
  rw[e]at a1
  exact⟨a1,a4⟩
end
end PySem.W
end
section
namespace PySem
open PySem.W PySem.Spec PyProof.Rows
section
variable {prog:Program}{w:World}{A:Around}{E:Value->Shared->Prop}{s:Shared}
end
end PySem
end
section
namespace PySem.W
open PySem PyProof.Rows
noncomputable def KasT.asks{α:Type}(B:Nat->Prop)(R:α->Prop):KasT α->Prop
 | .ret a=>R a
 | .ask i j k=>B i/\B j/\∀b,(k b).asks B R
theorem KasT.asks_bind{α β:Type}{B:Nat->Prop}{R:α->Prop}{R':β->Prop}{f:α->KasT β}(hf:∀a,R a->(f a).asks B R'):∀t:KasT α,t.asks B R->(t.bind f).asks B R'
 | .ret a,h=>hf a h
 | .ask i j k,h=>⟨h.1,h.2.1,fun b=>KasT.asks_bind hf (k b) (h.2.2 b)⟩
theorem KasT.wp_asks{α:Type}{cmp:Nat->Nat->(Bool->Shared->Prop)->Shared->Prop}{lt:Nat->Nat->Bool}{B:Nat->Prop}{R:α->Prop}{I:Shared->Prop}(hc:∀i j K s,B i->B j->I s->(∀s',I s'->K (lt i j) s')->cmp i j K s){Q:α->Shared->Prop}:
  ∀(t:KasT α)(s:Shared),t.asks B R->I s->(∀s',I s'->Q (t.run lt) s')->t.kasWp cmp Q s
 | .ret a,s,_,hi,h=>h s hi
 | .ask i j k,s,ha,hi,h=>hc i j _ s ha.1 ha.2.1 hi fun s' hi'=>KasT.wp_asks hc (k (lt i j)) s' (ha.2.2 _) hi' h
section
variable {B:Nat->Prop}
noncomputable def InAll(B:Nat->Prop)(p:Array Nat):Prop:=∀i,B (p.getD i 0)
theorem InAll.zero{p:Array Nat}(h:InAll B p):B 0:=by
 have:=h p.size
 simpa[Array.getD]using this
theorem InAll.perm{p q:Array Nat}(h:InAll B p)(e:q.Perm p):InAll B q:=fun i=>by
 by_cases hi:i<q.size
 .have e1:q.getD i 0=q[i]:=by simp[Array.getD,hi]
  rw[e1]
  have hm:q[i]∈p:=(e.mem_iff).mp (Array.getElem_mem hi)
  obtain⟨k,hk,ek⟩:=Array.getElem_of_mem hm
  have:=h k
  rw[<-ek]
  simpa[Array.getD,hk]using this
 .have e1:q.getD i 0=0:=by simp[Array.getD,hi]
  rw[e1]
  exact h.zero
theorem InAll.rev{p:Array Nat}(h:InAll B p)(i j:Nat):InAll B (kas_rev p i j):=h.perm (z4z _ _ _)
theorem z8x{p:Array Nat}(h:InAll B p):∀f n,(kas_asc p f n).asks B fun _=>True
 |0,n=>trivial
 |f+1,n=>⟨h _,h _,fun b=>by
  cases b with
  |true=>exact trivial
  |false=>exact z8x h f (n+1)⟩
theorem z5a:∀(f:Nat)(p:Array Nat)(n q:Nat),InAll B p->(kas_desc f p n q).asks B fun r=>InAll B r.1
 |0,p,n,q,h=>h
 |f+1,p,n,q,h=>⟨h _,h _,fun b=>by
  cases b with
  |true=>
   show KasT.asks B _ (if q>0 then _ else _)
   split
   .exact z5a f _ _ _ (h.rev _ _)
   .exact z5a f _ _ _ h
  |false=>
   refine⟨h _,h _,fun d=>?_⟩
   cases d with
   |true=>exact h
   |false=>exact z5a f _ _ _ h⟩
theorem z9n{n nrem:Nat}{p:Array Nat}(h:InAll B p):(kas_tail3 n nrem p).asks B fun r=>InAll B r.2:=by
 unfold kas_tail3
 exact KasT.asks_bind (R:=fun _=>True) (R':=fun r:Nat×Array Nat=>InAll B r.2) (f:=fun m=>.ret (m,kas_rev p 0 n)) (fun m _=>h.rev _ _) _ (z8x (h.rev _ _) _ _)
theorem z6w{n nrem:Nat}{p:Array Nat}(h:InAll B p):(kas_descPart n nrem p).asks B fun r=>InAll B r.2:=by
 refine KasT.asks_bind (fun r hr=>?_) _ (z5a _ p _ _ h)
 split
 .exact z9n (InAll.rev hr _ _)
 .exact z9n hr
theorem zgk{nrem:Nat}{p:Array Nat}(h:InAll B p):(kas_count nrem p).asks B fun r=>InAll B r.2:=by
 refine KasT.asks_bind (R:=fun _=>True) (fun n _=>?_) _ (z8x h _ _)
 split
 .exact h
 .split
  .refine⟨h _,h _,fun c=>?_⟩
   cases c with
   |true=>exact h
   |false=>exact z6w (h.rev _ _)
  .exact z6w h
theorem z6d{p:Array Nat}{k:Nat}(h:InAll B p):∀f l r,(kas_place p k f l r).asks B fun _=>True
 |0,l,r=>trivial
 |f+1,l,r=>by
  unfold kas_place
  split
  .exact trivial
  .refine⟨h _,h _,fun c=>?_⟩
   cases c with
   |true=>exact z6d h f _ _
   |false=>exact z6d h f _ _
theorem zd6:∀(f:Nat)(p:Array Nat)(k:Nat),InAll B p->(kas_bin f p k).asks B fun r=>InAll B r
 |0,p,k,h=>h
 |f+1,p,k,h=>KasT.asks_bind (R:=fun _=>True) (fun l _=>zd6 f _ _ (h.perm (bubble_perm _ _ _))) _ (z6d h _ _ _)
theorem zig{n:Nat}(h1:1<=n):(kas_sort n).asks (fun i=>i<n) fun _=>True:=by
 have h0:InAll (fun i=>i<n) (List.toArray (List.range n)):=fun i=>by
  by_cases hi:i<n
  .simp[Array.getD,hi]
  .simp[Array.getD,hi];omega
 refine KasT.asks_bind (fun r hr=>?_) _ (zgk h0)
 split
 .have:=zd6 (B:=fun i=>i<n) (n-max r.1 1) r.2 (max r.1 1) hr
  have tr:∀t:KasT (Array Nat),t.asks (fun i=>i<n) (fun r=>InAll (fun i=>i<n) r)->t.asks (fun i=>i<n) fun _=>True:=by
   intro t
   induction t with
   |ret a=>exact fun _=>trivial
   |ask i j k ih=>exact fun z=>⟨z.1,z.2.1,fun b=>ih b (z.2.2 b)⟩
  exact tr _ this
 .exact trivial
end
end PySem.W
end
section
namespace PySem
open PySem.W PySem.Spec PyProof.Rows
section
variable {prog:Program}{w:World}{A:Around}{E:Value->Shared->Prop}{s:Shared}
end
end PySem
end
section
namespace PySem
open PySem.W PySem.Spec PyProof.Rows
section
variable {prog:Program}{w:World}{A:Around}{E:Value->Shared->Prop}{s:Shared}
end
end PySem
end
section
namespace PySem
open PySem.W PySem.Spec PyProof.Rows
section
variable {prog:Program}{w:World}{A:Around}{E:Value->Shared->Prop}{s:Shared}
theorem zm3(κ:SortKind)(xs:Array Keyed):arrOf (SortSt.mk' κ xs #[] 7 none)=xs:=by
 first|rfl|simp[arrOf]
theorem zih(κ:SortKind)(xs:Array Keyed):failedOf (SortSt.mk' κ xs #[] 7 none)=none:=by
 first|rfl|simp[failedOf]
theorem zjx{ks vs:List Value}(hl:ks.length=vs.length):((List.toArray ks).zip vs.toArray).map (·.2)=List.toArray vs:=by
 apply Array.ext'
 simp[List.map_snd_zip,hl]
end
end PySem
end
section
namespace PySem
open PySem.W PySem.Spec PyProof.Rows PySem.Calls
section
variable {prog:Program}{w:World}{A:Around}{E:Value->Shared->Prop}{s:Shared}
theorem zef{v:Value}{Q:Bool->Shared->Prop}(h:Q true s):wpAny (model prog w) A (eqBool v v) Q E s:=by
 unfold eqBool
 refine x1h ?_
 rw[if_pos (beq_self_eq_true v)]
 exact x8 (wpAny_rule (xh h))
theorem zd7{b fin:Bool}{Q:Bool->Shared->Prop}:∀(l:List Value)(i:Nat),Q fin s->KatLex prog w A b fin Q (l.zip l) i s
 |[],_,h=>kat_nil h
 |v::l,i,h=>kat_cons (zef (kat_yes (zd7 l (i+1) h)))
theorem zm4{x y:Addr}{ox oy:Obj}{xs ys:Array Value}{n k:Nat}{a c:Int}{t u:Tok}{Q:Bool->Shared->Prop}(hx:s.heap.get? x=some ox)(dx:ox.data=.seq xs n)(fx:xs[0]? =some (.int a t))(hy:s.heap.get? y=some oy)(dy:oy.data=.seq ys k)(fy:ys[0]? =some (.int c u))(ne:a≠c)
  (h:Q (decide (a<c)) s):wpAny (model prog w) A (keyLt' (tuples' true) (.ref x) (.ref y)) Q E s:=by
 refine kat_lt hx dx hy dy ?_
 obtain⟨xs⟩:=xs
 obtain⟨ys⟩:=ys
 cases xs with
 |nil=>simp at fx
 |cons p xs=>
 cases ys with
 |nil=>simp at fy
 |cons q ys=>
 simp at fx fy
 subst fx fy
 refine kat_cons (wpAny_eqBool_int (kat_go (fun e=>?_) fun e=>kat_no (oneLt_int h)))
 exact absurd (eq_of_beq e) ne
theorem zjy{x:Addr}{ox:Obj}{xs:Array Value}{n:Nat}{Q:Bool->Shared->Prop}(hx:s.heap.get? x=some ox)(dx:ox.data=.seq xs n)(h:Q false s):wpAny (model prog w) A (keyLt' (tuples' true) (.ref x) (.ref x)) Q E s:=
 kat_lt hx dx hx dx (zd7 _ 0 (by simpa using h))
theorem zjz{a:Addr}{vs:List Value}{n:Nat}{P:PySem.Fin->Shared->Prop}(ho:s.heap.get? a=some (seqObj "list" vs.toArray n))(h2:vs.length<2)(h:P (.done (.ret .none)) { s with heap:=sortedHeap s.heap a vs (List.toArray vs) }):
  wpAny (model prog w) A (Builtin.«list.sort» ⟨[.ref a],[]⟩) P E s:=by
 have hz:vs.toArray.size<2:=by rw[xr];exact h2
 rw[list_sort_plain]
 have ha:a<s.heap.objs.size:=xl ho
 obtain⟨e1,ho1⟩:∃ e1,(s.heap.update a (Obj.mapSeq fun _=>(#[]:Array Value))).get? a=some (seqObj "list" #[] e1):=⟨_,get?_update_seq ho (fun _=>#[])⟩
 have ho6:(((s.heap.update a (Obj.mapSeq fun _=>(#[]:Array Value))).push (seqObj "tuple" vs.toArray 0)).push (seqObj "list" #[] 0)).get? a=some (seqObj "list" #[] e1):=xf _ (xf _ ho1)
 refine x8 (listItems_at ho rfl (x8 (listUpdate_at ho rfl (x8 (seqEpoch_at ho1 rfl (x8 (wpAny_newTuple (x8 (wpAny_newList (x1h ?_) (x03 _))) (by show vs.length<=_;rw[sizeLine_eq];omega))))) (by rw[sizeLine_eq];omega) (x03 _))))
 dsimp only
 rw[if_pos hz,if_pos hz]
 refine x8 (xh ?_)
 rw[StateT.run_pure]
 refine x8 (xh ?_)
 dsimp only
 have out:(arrOf (SortSt.mk' general' (vs.toArray.zip vs.toArray) #[] 7 none)).map (·.2)=List.toArray vs:=by rw[zm3];exact zjx rfl
 rw[out]
 refine x8 (seqEpoch_at ho6 rfl (x8 (listUpdate_at ho6 rfl ?_ (x03 _) (by rw[sizeLine_eq];omega))))
 simp only[bne_self_eq_false,x0i,if_false,zih]
 exact xh h
theorem zk0{es:Array DictEntry}{acc:Array Value}(h:ItemsOf (fun i v=>∃e,es[i]? =some e/\v=e.key) acc es.size):acc.toList=es.toList.map (·.key):=by
 apply x0n
 intro i
 rw[xc]
 cases ea:acc.toList[i]? with
 |some v=>
  obtain⟨e,h1,rfl⟩:=h.2 i v (by rw[<-Array.getElem?_toList];exact ea)
  rw[Array.getElem?_toList,h1];rfl
 |none=>
  have:acc.toList.length<=i:=List.getElem?_eq_none_iff.mp ea
  rw[x0g,h.1]at this
  rw[x1m (by rw[x0g];exact this)];rfl
theorem zf4{h:Heap}{kf:Nat->Int}:∀(vs:List Value) (g:Nat->Int),(∀ i v,vs[i]? =some v->∃ p o xs n t,v=.ref p/\h.get? p=some o/\o.cls=.type "tuple"/\o.data=.seq xs n/\xs[0]? =some (.int (g i) t))->∃ fs,KatTups h vs fs/\fs.length=vs.length/\∀ v∈fs,∃ a t,v=Value.int a t
 |[],_,_=>⟨[],KatTups.nil,rfl,fun v hv=>by cases hv⟩
 |v::vs,g,H=>by
  obtain⟨p,o,xs,n,t,rfl,h1,h2,h3,h4⟩:=H 0 v rfl
  obtain⟨fs,r,hl,hf⟩:=zf4 (kf:=kf) vs (fun i=>g (i+1)) fun i v e=>H (i+1) v (by rw[List.getElem?_cons_succ];exact e)
  refine⟨.int (g 0) t::fs,KatTups.cons h1 h2 h3 h4 r,by simp[hl],fun v hv=>?_⟩
  rcases xo.mp hv with rfl|hv
  .exact⟨_,t,rfl⟩
  .exact hf v hv
theorem zgl{h₀:Heap}{L d:Addr}{m:Str->Option Value}{news:List (Addr×Obj)}{es:Array DictEntry}{ep:Nat}{kf:Nat->Int}{Q:Value->Shared->Prop}(F:Fr h₀ L s.heap m)(N:News h₀ L s.heap news)(hm:s.heap.RawAt d es ep)(lo:(d==sysModules)=false)(hh:A.handled=none)(h64:es.size<64)
  (tup:∀ h',Fr h₀ L h' m->News h₀ L h' news->∀ i v,(es.toList.map (·.key))[i]? =some v->∃ p o xs n t,v=.ref p/\h'.get? p=some o/\o.cls=.type "tuple"/\o.data=.seq xs n/\xs[0]? =some (.int (kf i) t))
  (inj:∀i j,i<es.size->j<es.size->kf i=kf j->i=j)
  (h:∀(D:Addr) (h':Heap) (tk c:Nat) (p:List Nat),p.Perm (List.range es.size)->p.Pairwise (fun a b=>kf a<=kf b)->(∀ q∈news,q.1<D)->Fr h₀ L h' m->News h₀ L h' ((D,seqObj "list" (List.toArray (p.map fun i=>(es.toList.map (·.key)).getD i Value.none)) c)::news)->Q (.ref D) { s with heap:=h',toks:=tk }):
  wpAny (model prog w) A (call (.builtin "sorted") [.ref d]) Q E s:=by
 refine Calls.call_function_entry kind_sorted plain_sorted entry_sorted (args_sorted1 _) ?_
 unfold Builtin.«sorted»
 refine x8 (m:=checkCount "sorted" 1 1 _) (xh ?_)
 refine x8 (kdu_collect (zl9 lo) (by simpa using hh) hm (by rw[sizeLine_eq];omega) fun h' tk acc hk ii=>?_)
 have ev:=zk0 ii
 have el:(es.toList.map (·.key)).length=es.size:=by rw[x0,x0g]
 rw[ev]
 generalize es.toList.map (·.key)=vs at el tup h⊢
 rw[<-el]at inj h
 refine x8 (wpAny_newList ?_ (by rw[sizeLine_eq];omega))
 have hS:=xu (h:=h') (o:=seqObj "list" vs.toArray 0) rfl
 have keep:∀ b o,s.heap.get? b=some o->(h'.push (seqObj "list" vs.toArray 0)).get? b=some o:=fun b o e=>xf _ (hk b o e)
 have F':=F.kept keep
 have N':=N.grown keep
 have hlt:∀q∈news,q.1<h'.objs.size:=fun q hq=>xl (hk _ _ (N q hq).1)
 have lL:L<h'.objs.size:=by
  obtain⟨o,es,ep,g,_⟩:=F.ns
  exact xl (hk _ _ g)
 have a0:h₀.get? h'.objs.size=none:=Heap.get?_none_of_le (Nat.le_of_lt (Nat.lt_of_le_of_lt F.above lL))
 have nD:∀q∈news,q.1≠h'.objs.size:=fun q hq=>xy (hlt q hq)
 refine x8 (x1h (x1j slot_list_sort ⟨_,hS,rfl⟩ entry_list_sort ?_ (args_list_sort _)))
 by_cases h2:2<=vs.length
 .refine kat_list_sort (s:={ s with heap:=h'.push (seqObj "list" vs.toArray 0),toks:=tk }) F' N' hS (Nat.ne_of_gt lL) a0 nD h2 (by omega) fun e1 h1 F1 N1=>?_
  have N1':News h₀ L h1 news:=fun q hq=>N1 q (.tail _ hq)
  obtain⟨fs,tf,lf,hf⟩:=zf4 (h:=h1) (kf:=kf) vs kf (tup h1 F1 N1')
  refine kat_kind (T:=.type "int") tf (by omega) (fun v hv=>?_) (by rfl) ?_
  .obtain⟨a,t,rfl⟩:=hf v hv
   exact Looks.of_pure rfl
  refine KasT.wp_asks (R:=fun _=>True) (lt:=fun i j=>decide (kf i<kf j)) (B:=fun i=>i<vs.length) (I:=fun s'=>s'={ s with heap:=h1,toks:=tk }) (fun i j K' s' hi hj e' hK=>?_) _ _ (zig (by omega)) rfl fun s' e'=>?_
  .subst e'
   obtain⟨p,o,xs,n,t,e,g,gc,gd,g0⟩:=tup h1 F1 N1' i _ (x6 hi)
   obtain⟨p2,o2,xs2,n2,t2,e2,g2,gc2,gd2,g02⟩:=tup h1 F1 N1' j _ (x6 hj)
   show wpAny _ _ (keyLt' (tuples' true) (vs.getD i Value.none) (vs.getD j Value.none)) _ _ _
   rw[xn,xn,x6 hi,x6 hj]
   show wpAny _ _ (keyLt' (tuples' true) vs[i] vs[j]) _ _ _
   by_cases ek:kf i=kf j
   .have eij:=inj i j hi hj ek
    subst eij
    have hK:=hK _ rfl
    rw[x1g (by omega)]at hK
    rw[e]
    exact zjy g gd hK
   .rw[e,e2]
    exact zm4 g gd g0 g2 gd2 g02 ek (hK _ rfl)
  .subst e'
   have rs:=zjw (lt:=fun i j=>decide (kf i<kf j)) (fun a b c h1 h2=>by rw[decide_eq_false_iff_not]at*;omega) (fun a b h=>by rw[x10]at h;rw[decide_eq_false_iff_not];omega) (n:=vs.length) (by omega)
   generalize(kas_sort vs.length).run (fun i j=>decide (kf i<kf j))=p at rs
   obtain⟨asc,perm⟩:=rs
   have psz:p.size=vs.length:=by rw[perm.size_eq];simp
   refine KasFin.intro F1 N1 (.head nD) fun h4 c4 F4 N4=>⟨_,rfl,xh ⟨_,rfl,h h'.objs.size h4 tk c4 p.toList ?_ ?_ hlt F4 N4⟩⟩
   .have:=Array.perm_iff_toList_perm.mp perm
    simpa using this
   .rw[List.pairwise_iff_getElem]
    intro i j hi hj hij
    have hi':i<p.size:=by simpa using hi
    have hj':j<p.size:=by simpa using hj
    have:=asc i j hij (by omega)
    unfold at' at this
    simp[Array.getD,hi',hj']at this
    simpa using this
 .refine zjz (s:={ s with heap:=h'.push (seqObj "list" vs.toArray 0),toks:=tk }) hS (by omega) ⟨_,rfl,xh ⟨_,rfl,?_⟩⟩
  obtain⟨c,ge⟩:=sortedHeap_at (out:=List.toArray vs) (vs:=vs) hS
  have ko:∀ b o,s.heap.get? b=some o->(sortedHeap (h'.push (seqObj "list" vs.toArray 0)) h'.objs.size vs (List.toArray vs)).get? b=some o:=fun b o q=>by
   have lb:=xl (hk b o q)
   exact(sortedHeap_old (xy lb) (by rw[x14];exact x1n lb)).trans (xf _ (hk b o q))
  have er:(List.range vs.length).map (fun i=>vs.getD i Value.none)=vs:=by
   match vs,h2 with
   |[],_=>rfl
   |[v],_=>rfl
   |_::_::_,h2=>exact absurd (by simp) h2
  refine h h'.objs.size _ tk c (List.range vs.length) (List.Perm.refl _) ?_ hlt (F.kept ko) fun q hq=>?_
  .match vs,h2 with
   |[],_=>exact List.Pairwise.nil
   |[v],_=>exact List.pairwise_singleton _ _
   |_::_::_,h2=>exact absurd (by simp) h2
  .rcases xo.mp hq with rfl|hq
   .rw[er]
    exact⟨ge,Nat.ne_of_gt lL,a0⟩
   .exact N.grown ko q hq
end
end PySem
end
section
namespace L2
open PySem PySem.W PySem.Spec PyProof.Rows
theorem ObjOk.there{P:Program}{w:World}{H:Hp}{h:Heap}{a:Addr}{o:HO}(x:ObjOk P w H h a o):∃u,h.get? a=some u:=by
 cases o with
 |lst xs=>obtain⟨_,_,_,_,e⟩:=x;exact⟨_,e⟩
 |tup xs=>obtain⟨_,_,_,u,e,_⟩:=x;exact⟨u,e⟩
 |dK kvs=>obtain⟨_,_,_,_,o,_,_,e,_⟩:=x;exact⟨_,e⟩
 |dT kvs=>obtain⟨_,_,_,_,o,_,_,e,_⟩:=x;exact⟨_,e⟩
 |set S n=>obtain⟨o,_,_,_,e,_⟩:=x;exact⟨_,e⟩
 |ins C dx fs=>obtain⟨_,_,_,e,_⟩:=x;exact⟨_,e⟩
 |own y=>obtain⟨_,e⟩:=x;exact⟨_,e⟩
 |xd fs=>obtain⟨_,⟨_,_,_,e,_⟩,_⟩:=x;exact⟨_,e⟩
 |rng lo hi=>obtain⟨_,_,_,e⟩:=x;exact⟨_,e⟩
 |frz ob u=>obtain⟨e,_⟩:=x;exact⟨_,e⟩
 |tbl ps=>exact⟨_,(show h.get? a=some _ from x)⟩
 |met f y=>exact⟨_,(show h.get? a=some _ from x)⟩
 |ext φ=>exact x.2.1
theorem HOk.gone{P:Program}{w:World}{H:Hp}{h:Heap}{a:Addr}(x:HOk P w H h)(e:h.get? a=none):H a=none:=by
 cases q:H a with
 |none=>rfl
 |some u=>
  obtain⟨o,ho⟩:=(x a u q).there
  rw[e]at ho;cases ho
section
variable {X:Cx}{pins:List (Addr×Obj)}{σ:St}{H:Hp}{s:Shared}
theorem Inv.walkedL{m:Str->Option Value}{h':Heap}{t':Nat}{D:Addr}{o:HO}(I:Inv X pins σ H s)(hn:s.heap.Ns X.env.locals m)(hn':h'.Ns X.env.locals m)(k:∀b o,b≠X.env.locals->s.heap.get? b=some o->h'.get? b=some o)
  (hD:s.heap.get? D=none) (new:ObjOk X.prog X.w (upd H D o) h' D o):Inv X pins σ (upd H D o) { s with heap:=h',toks:=t' }:=by
 have hf:=I.free
 have h0:H D=none:=HOk.gone I.hok hD
 have nD:∀b o,s.heap.get? b=some o->b≠D:=fun b o e z=>by rw[z,hD]at e;cases e
 refine I.step (g':=s.gens) (d':=s.drawn) (ch:=[]) (fun _ z=>nomatch z) (fun b o nb _ _ e _=>k b o nb e) (fun b o nb _ _ e _=>⟨o.slots,k b o nb e⟩) (fun b o _ e n=>by rw[zb (nD b o e)];exact n) (fun b o _ e=>?_) (fun b _ e=>by rw[zb (ze e h0)];exact e) (fun b _ _ e=>by rw[zb (ze e h0)];exact e) (fun b ps e=>⟨#[],by rw[zb (ze e h0),e];simp⟩) (fun m' hm=>?_) (fun b u e=>?_) I.bare
 .by_cases z:b=X.env.locals
  .obtain⟨o',es,ep,ho,_⟩:=hn'
   exact⟨o',z▸ho⟩
  .exact⟨o,k b o z e⟩
 .rw[hm.eq_nsMap,<-hn.eq_nsMap]
  exact hn'
 .by_cases z:b=D
  .subst z
   rw[z8]at e
   cases e
   exact new
  .rw[zb z]at e
   refine(I.hok b u e).stay (fun c v hc q=>k c v ?_ q) (fun c q=>by rw[zb (ze q h0)];exact q) fun c _ q=>by rw[zb (ze q h0)];exact q
   rintro rfl
   rcases hc with hc|hc
   .rw[<-hc,hf]at e;cases e
   .rw[hf]at hc;cases hc
end
end L2
end
section
namespace L2
open PySem PySem.W PySem.Spec PyProof.Rows
theorem zd8{f:Nat->V}{g:Nat->Value}:∀{p:List Nat},(∀n∈p,∃a,f n=.ref a/\g n=.ref a)->Vals (p.map f) (p.map g)
 |[],_=>.nil
 |n::p,h=>by
  obtain⟨a,e1,e2⟩:=h n (.head _)
  rw[x0h,x0h,e1,e2]
  exact .cons rfl (zd8 fun k hk=>h k (.tail _ hk))
section
variable {X:Cx}{pins:List (Addr×Obj)}{σ:St}{H:Hp}{s:Shared}
end
end L2
end
section
namespace L2
open PySem PySem.W PySem.Spec PyProof.Rows
section
variable {X:Cx}
theorem zd9(hc:X.calm=true):CallR X (.builtin "sorted") (fun xs H Q=>∃(a:Addr) (ks:BT) (kf:Nat->Int),xs=[.ref a]/\H a=some (dtb X.prog X.w a ks)/\ks.length<64/\(∀ i z,ks[i]? =some z->∃ vs,H z.2.1=some (.tup (.int (kf i)::vs)))/\(∀ i j,i<ks.length->j<ks.length->kf i=kf j->i=j)/\
  ∀(r:Addr)(p:List Nat),H r=none->p.Perm (List.range ks.length)->p.Pairwise (fun a b=>kf a<=kf b)->Q (.ref r) (upd H r (.lst (p.map fun n=>((ks[n]?).map fun z=>V.ref z.2.1).getD .non)))):=by
 intro pins s σ H xs us Q I r h
 obtain⟨a,ks,kf,rfl,ha,h64,ht,inj,q⟩:=h
 obtain⟨u,rfl,ru⟩:=z58 r
 cases ru
 obtain⟨⟨z,hd,o,es,ep,ho,hx,h3,h4,h5⟩,-,-⟩:=(show ObjOk X.prog X.w H s.heap a (dtb X.prog X.w a ks) from I.hok a _ ha)
 have hk:es.toList.map (·.key)=ks.map fun z=>Value.ref z.2.1:=by
  rw[h4,List.map_map]
  exact List.map_congr_left fun z _=>rfl
 have esz:es.size=ks.length:=by rw[<-x0g,h4,x0]
 obtain⟨m,hn,_⟩:=id I.loc
 have F:Fr X.base X.env.locals s.heap m:=⟨hn,I.bk,xp I.ok.bsz I.ok.above⟩
 have N:News X.base X.env.locals s.heap (z4p X.base s.heap X.env.locals):=zjc
 obtain⟨oL,esL,epL,hoL,hdL,_⟩:=id hn
 have notL:∀(b:Addr)(o:Obj),s.heap.get? b=some o->(∀es ep,o.data≠.dict es ep)->b≠X.env.locals:=fun b o e hd z=>by
  rw[z,hoL]at e;cases e;exact hd _ _ hdL
 refine zgl (kf:=kf) F N ⟨o,ho,hx,h3⟩ hd (I.ok.hd hc) (by omega) (fun h' F' N' i v hv=>?_) (by rw[esz];exact inj) fun D h' tk c p hp hs hlt F' N'=>?_
 .rw[hk,xc]at hv
  obtain⟨z,hz,rfl⟩:=x08.mp hv
  obtain⟨vs,e⟩:=ht i z hz
  obtain⟨zt,tits,rt,o',e',hcT,n,hdT⟩:=I.hok z.2.1 _ e
  obtain⟨u,hu,t,rfl⟩:=rt.get (i:=0) rfl
  have kA:=zd5 I.bk F' (own:=[]) (by rw[x0l];exact N')
  exact⟨_,o',tits.toArray,n,t,rfl,kA _ _ (notL _ o' e' fun es ep z=>by rw[hdT]at z;cases z) e',hcT,hdT,by simpa using hu⟩
 .have fresh:s.heap.get? D=none:=by
   cases eo:s.heap.get? D with
   |none=>rfl
   |some o=>exact absurd (hlt _ (z8d (N' _ (.head _)).2.1 (N' _ (.head _)).2.2 eo)) (x0r _)
  rw[esz]at hp
  refine⟨.ref D,upd H D (.lst (p.map fun n=>((ks[n]?).map fun z=>V.ref z.2.1).getD .non)),I.walkedL hn F'.ns (zd5 I.bk F' (own:=[]) (by rw[x0l];exact fun q hq=>N' q (.tail _ hq))) fresh ⟨?_,p.map fun i=>(es.toList.map (·.key)).getD i Value.none,c,zd8 fun n hnp=>?_,(N' _ (.head _)).1⟩,rfl,q D p (HOk.gone I.hok fresh) hp hs⟩
  .rw[x0,hp.length_eq,List.length_range]
   exact xp (Nat.le_of_lt h64) (by decide)
  .have hni:n<ks.length:=by have:=(hp.mem_iff (a:=n)).mp hnp;rwa[x0s]at this
   refine⟨ks[n].2.1,by rw[x6 hni];rfl,?_⟩
   rw[hk,xn,xc,x6 hni]
   rfl
theorem z9o{P:Program}{w:World}{o i:Expr}{pos:Pos}{td ty:TE}(hu:X.A.units+1<cLine)(ho:PE X o td)(hi:PE X i ty)(hs:NoSl i)(hP:X.prog=P:=by rfl)(hw:X.w=w:=by rfl):PE X (.Subscript o i pos) (z9m P w td ty):=by
 subst hP hw
 exact zjt hu ho hi hs
end
end L2
end
section
namespace PySem
open SetTable
noncomputable def Rise(t:SetTable):Prop:=t.place.toList.Pairwise (·<·)/\t.dummies= #[]
theorem z8y{xs:Array Nat}{j:Nat}(hr:xs.toList.Pairwise (·<·)):∀(fuel lo hi:Nat),lo<=hi->hi<=xs.size->hi-lo<=fuel->(∀k,k<lo->xs.getD k j<j)->(∀k,hi<=k->k<xs.size->j<=xs.getD k j)->
  below.go xs j fuel lo hi<=xs.size/\(∀k,k<below.go xs j fuel lo hi->xs.getD k j<j)/\∀k,below.go xs j fuel lo hi<=k->k<xs.size->j<=xs.getD k j
 |0,lo,hi,h1,h2,h3,h4,h5=>⟨by show lo<=_;omega,h4,fun k hk hs=>h5 k (by have:lo<=k:=hk;omega) hs⟩
 |fuel+1,lo,hi,h1,h2,h3,h4,h5=>by
  have up:∀a b,a<b->b<xs.size->xs.getD a j<xs.getD b j:=fun a b hab hb=>by
   have:=List.pairwise_iff_getElem.mp hr a b (by simpa using(by omega:a<xs.size)) (by simpa using hb) hab
   simpa[Array.getD,hb,(by omega:a<xs.size)]using this
  unfold below.go
  by_cases c:lo<hi
  .rw[if_pos c]
   dsimp only
   by_cases d:xs.getD ((lo+hi)/2) j<j
   .rw[if_pos d]
    refine z8y hr fuel _ hi (by omega) h2 (by omega) (fun k hk=>?_) h5
    by_cases e:k=(lo+hi)/2
    .rw[e];exact d
    .have:=up k ((lo+hi)/2) (by omega) (by omega)
     omega
   .rw[if_neg d]
    refine z8y hr fuel lo _ (by omega) (by omega) (by omega) h4 (fun k hk hs=>?_)
    by_cases e:k=(lo+hi)/2
    .rw[e];omega
    .have:=up ((lo+hi)/2) k (by omega) hs
     omega
  .rw[if_neg c]
   exact⟨by omega,h4,fun k hk hs=>h5 k (by omega) hs⟩
theorem z6e{xs:Array Nat}(j:Nat)(hr:xs.toList.Pairwise (·<·)):below xs j<=xs.size/\(∀k,k<below xs j->xs.getD k j<j)/\∀k,below xs j<=k->k<xs.size->j<=xs.getD k j:=
 z8y hr _ 0 _ (x03 _) (xk _) (by omega) (fun k hk=>by omega) fun k hk hs=>by omega
theorem Rise.up{t:SetTable}(h:Rise t){a b:Nat}(hab:a<b)(hb:b<t.place.size)(d:Nat):t.place.getD a d<t.place.getD b d:=by
 have:=List.pairwise_iff_getElem.mp h.1 a b (by simpa using(by omega:a<t.place.size)) (by simpa using hb) hab
 simpa[Array.getD,hb,(by omega:a<t.place.size)]using this
theorem Rise.free{t:SetTable}(h:Rise t){j:Nat}(e:t.slot j=.empty):j∉t.place.toList:=fun hm=>by
 obtain⟨b1,b2,b3⟩:=z6e j h.1
 obtain⟨k,hk,ek⟩:=x12 hm
 have hk':k<t.place.size:=by simpa using hk
 have gk:t.place.getD k j=j:=by simpa[Array.getD,hk']using ek
 have k1:below t.place j<=k:=Nat.le_of_not_lt fun z=>by have:=b2 k z;omega
 have e2:below t.place j=k:=by
  by_cases z:below t.place j<k
  .have:=b3 (below t.place j) (xk _) (by omega)
   have:=h.up z hk' j
   omega
  .omega
 unfold SetTable.slot at e
 dsimp only at e
 rw[e2,x0w hk']at e
 have:t.place[k]=j:=by simpa using ek
 rw[this]at e
 simp at e
theorem zda(j:Nat):has #[] j=false:=by unfold has;simp
theorem z9p{t:SetTable}(h:Rise t){f:Nat->Int}{hh:Int}:∀(fuel:Nat)(p:Probe),p.dummy=none->∀j d,probe.go t f hh fuel p=some (.empty j d)->t.slot j=.empty/\d=none
 |0,p,hp,j,d,e=>by unfold probe.go at e;cases e
 |fuel+1,p,hp,j,d,e=>by
  unfold probe.go at e
  have ad:∀q:Probe,(t.advance q).dummy=q.dummy:=fun q=>by unfold SetTable.advance;split<;>rfl
  cases es:t.slot p.j with
  |empty=>
   rw[es]at e
   dsimp only at e
   cases e
   exact⟨es,hp⟩
  |dummy=>
   exfalso
   unfold SetTable.slot at es
   dsimp only at es
   rw[h.2,zda]at es
   split at es<;>simp at es
  |live i=>
   rw[es]at e
   dsimp only at e
   split at e
   .cases e
   .exact z9p h fuel _ (by rw[ad];exact hp) j d e
theorem Rise.put{t:SetTable}(h:Rise t){j:Nat}(hj:j∉t.place.toList):Rise (t.put j).1:=by
 obtain⟨b1,b2,b3⟩:=z6e j h.1
 refine⟨?_,?_⟩
 .show(insertAt t.place (below t.place j) j).toList.Pairwise (·<·)
  have e:(insertAt t.place (below t.place j) j).toList=t.place.toList.take (below t.place j)++([j]++t.place.toList.drop (below t.place j)):=by
   unfold insertAt
   simp
   exact List.take_of_length_le (by simp)
  rw[e]
  have hp:=h.1
  rw[<-List.take_append_drop (below t.place j) t.place.toList]at hp
  obtain⟨p1,p2,p3⟩:=List.pairwise_append.mp hp
  have lo:∀a∈t.place.toList.take (below t.place j),a<j:=fun a ha=>by
   obtain⟨k,hk,ek⟩:=x12 ha
   rw[x04]at hk
   have hk':k<t.place.size:=by have:=Nat.min_le_right (below t.place j) t.place.toList.length;simp at this;simp at hk;omega
   have:=b2 k (by omega)
   rw[List.getElem_take]at ek
   have e2:t.place.getD k j=a:=by simpa[Array.getD,hk']using ek
   omega
  have hi:∀b∈t.place.toList.drop (below t.place j),j<b:=fun b hb=>by
   have hb':=List.mem_of_mem_drop hb
   obtain⟨k,hk,ek⟩:=x12 hb
   rw[List.length_drop]at hk
   rw[List.getElem_drop]at ek
   have hk':below t.place j+k<t.place.size:=by simp at hk;omega
   have:=b3 (below t.place j+k) (by omega) hk'
   have e2:t.place.getD (below t.place j+k) j=b:=by simpa[Array.getD,hk']using ek
   have ne:b≠j:=fun z=>hj (z▸hb')
   omega
  refine List.pairwise_append.mpr ⟨p1,List.pairwise_append.mpr ⟨List.pairwise_singleton _ _,p2,fun a ha b hb=>?_⟩,fun a ha b hb=>?_⟩
  .rw[xm.mp ha];exact hi b hb
  .rcases xz.mp hb with hb|hb
   .rw[xm.mp hb];exact lo a ha
   .exact p3 a ha b hb
 .show(if has t.dummies j=true then _ else t.dummies)= #[]
  rw[h.2,zda,if_neg xa]
theorem Rise.standIn(t:SetTable)(n:Nat):Rise (t.standIn n):=⟨by show(Array.range n).toList.Pairwise _;rw[Array.toList_range];exact List.pairwise_lt_range,rfl⟩
theorem Rise.orStandIn{t:SetTable}(h:Rise t)(n:Nat):Rise (t.orStandIn n):=by
 unfold SetTable.orStandIn
 split
 .exact h
 .exact Rise.standIn t n
theorem Rise.layNew{t:SetTable}(h:Rise t)(es:Array (Int×Value))(hh:Int)(x:Value):Rise (layNew t es hh x).2.1:=by
 unfold PySem.layNew
 cases e:t.freeSlot hh with
 |none=>exact Rise.standIn t _
 |some r=>
  obtain⟨sl,wd⟩:=r
  refine Rise.orStandIn (h.put ?_) _
  unfold SetTable.freeSlot at e
  split at e
  .rename_i j d ep
   obtain⟨f1,rfl⟩:=z9p h _ _ rfl j d ep
   simp at e
   rw[<-e.1]
   exact h.free f1
  .cases e
theorem Rise.laid{mask finger moves:Nat}{led plain:Bool}{hs:Array Int}{r:SetTable×Array Nat}(e:SetTable.laid mask finger moves led plain hs=some r):Rise r.1:=by
 unfold SetTable.laid at e
 simp only[Option.bind_eq_bind,Option.bind_eq_some_iff,Option.some.injEq,Option.pure_def]at e
 obtain⟨o,_,rfl⟩:=e
 refine⟨?_,rfl⟩
 dsimp only
 rw[List.pairwise_map]
 refine List.Pairwise.filterMap (fun j=>(o.getD j none).map (j,·)) (R:=fun a b:Nat=>a<b) (fun a a' haa b hb b' hb'=>?_) List.pairwise_lt_range
 simp only[Option.mem_def,x08]at hb hb'
 obtain⟨_,_,rfl⟩:=hb
 obtain⟨_,_,rfl⟩:=hb'
 exact haa
theorem Rise.relayAll(t:SetTable)(es:Array (Int×Value))(n:Nat):Rise (relayAll t es n).2.1:=by
 unfold PySem.relayAll
 split
 .rename_i e
  dsimp only
  split
  .unfold SetTable.relaid at e
   exact Rise.laid e
  .exact Rise.standIn _ _
 .exact Rise.standIn _ _
noncomputable def z1w(t:SetTable)(i:Nat):Nat:=if i=0 then 0 else t.place.getD (i-1) 0+1
theorem z7j{t:SetTable}(h:Rise t){i:Nat}(hi:i<=t.place.size):below t.place (z1w t i)=i:=by
 obtain⟨b1,b2,b3⟩:=z6e (z1w t i) h.1
 have gd:∀k d d',k<t.place.size->t.place.getD k d=t.place.getD k d':=fun k d d' hk=>by simp[Array.getD,hk]
 have hlt:∀k,k<i->t.place.getD k (z1w t i)<z1w t i:=fun k hk=>by
  unfold z1w
  rw[if_neg (by omega),gd k _ 0 (by omega)]
  by_cases e:k=i-1
  .rw[e];omega
  .have:=h.up (a:=k) (b:=i-1) (by omega) (by omega) 0
   omega
 have hge:∀k,i<=k->k<t.place.size->z1w t i<=t.place.getD k (z1w t i):=fun k hk hs=>by
  rw[gd k _ 0 hs]
  unfold z1w
  by_cases e:i=0
  .rw[if_pos e];omega
  .rw[if_neg e]
   have:=h.up (a:=i-1) (b:=k) (by omega) hs 0
   omega
 apply Nat.le_antisymm
 .refine Nat.le_of_not_lt fun z=>?_
  have:=b2 i z
  have:=hge i (xk _) (by omega)
  omega
 .refine Nat.le_of_not_lt fun z=>?_
  have:=b3 (below t.place (z1w t i)) (xk _) (by omega)
  have:=hlt (below t.place (z1w t i)) z
  omega
end PySem
end
section
namespace PySem
section
variable {κ:Type}[DecidableEq κ]
noncomputable def z2g(D:List κ)(v:κ):List κ:=if v∈D then D else D++[v]
noncomputable def gAll(ss:List κ):List κ:=ss.foldl z2g []
theorem zbk(D:List κ)(v k:κ):k∈z2g D v↔k∈D\/k=v:=by
 unfold z2g;split
 .rename_i h
  exact⟨.inl,fun o=>o.elim id fun e=>e▸h⟩
 .simp
theorem zeg{D:List κ}(h:D.Nodup)(v:κ):(z2g D v).Nodup:=by
 unfold z2g;split
 .exact h
 .rename_i hv
  refine List.nodup_append.mpr ⟨h,by simp,?_⟩
  intro a ha b hb e
  simp at hb;subst hb;subst e;exact hv ha
theorem z7k:∀(ss D:List κ)(k:κ),k∈ss.foldl z2g D↔k∈D\/k∈ss
 |[],D,k=>by simp
 |v::ss,D,k=>by
  rw[List.foldl_cons,z7k ss,zbk];simp[or_assoc]
theorem z5i:∀(ss D:List κ),D.Nodup->(ss.foldl z2g D).Nodup
 |[],D,h=>h
 |v::ss,D,h=>z5i ss _ (zeg h v)
theorem z8z(ss:List κ)(k:κ):k∈gAll ss↔k∈ss:=by
 rw[gAll,z7k];simp
theorem z6f(ss:List κ):(gAll ss).Nodup:=z5i ss [] .nil
theorem zdb(D:List κ)(v:κ):(z2g D v).length=if decide (v∈D)=true then D.length else D.length+1:=by
 unfold z2g;by_cases h:v∈D<;>simp[h]
theorem zdc:∀(ss D:List κ),(ss.foldl z2g D).length<=D.length+ss.length
 |[],D=>by simp
 |v::ss,D=>by
  have:=zdc ss (z2g D v)
  have h2:=zdb D v
  rw[List.foldl_cons,x0o]
  split at h2<;>omega
theorem zf5(ss:List κ):(gAll ss).length<=ss.length:=by have:=zdc ss [];simpa[gAll]using this
theorem zii(ss:List κ)(i:Nat)(h:i<ss.length):gAll (ss.take (i+1))=z2g (gAll (ss.take i)) ss[i]:=by
 unfold gAll;rw[List.take_succ_eq_append_getElem h,List.foldl_append];rfl
end
noncomputable def ESet{prog:Program}{w:World}{κ:Type}[DecidableEq κ](knd:KeyKind prog w κ)(h:Heap)(a:Addr)(D:List κ)(led:Bool):Prop:=
 ∃o es ep t,h.get? a=some o/\o.ExactSet/\o.data=.set es ep t/\ElemsOf knd es.toList/\
  (∀k,decide (k∈D)=true↔∃e∈es.toList,knd.is k e.2=true)/\
  es.size<scanBound/\t.fits es.size=true/\es.size=D.length/\t.led=led/\Rise t
section
variable {prog:Program}{w:World}{κ:Type}[DecidableEq κ]{knd:KeyKind prog w κ}{A:Around}{E:Value->Shared->Prop}{s:Shared}
theorem ESet.keep{h h':Heap}{a:Addr}{D:List κ}{led:Bool}(T:ESet knd h a D led)
  (e:∀o,h.get? a=some o->h'.get? a=some o):ESet knd h' a D led:=by
 obtain⟨o,es,ep,t,ho,more⟩:=T
 exact⟨o,es,ep,t,e o ho,more⟩
theorem z7l{g:Bool->Sem Unit}(hg:∀(b:Bool)(s₁:Shared)(Q':Unit->Shared->Prop),Q' () s₁->wpAny (model prog w) A (g b) Q' E s₁)
  {a:Addr} {o:Obj} {es:Array (Int×Value)} {ep:Nat} {t:SetTable} (ho:s.heap.get? a=some o) (hx:o.ExactSet)
  (hd:o.data=.set es ep t) {e1:Array (Int×Value)} {t1:SetTable} {D:List κ}
  (he:ElemsOf knd e1.toList) (hm:∀k,decide (k∈D)=true↔∃e∈e1.toList,knd.is k e.2=true)
  (hb:e1.size<scanBound) (hf:t1.fits e1.size=true) (hn:e1.size=D.length) (hp:Rise t1)
  {was:Bool} {R:Option Bool->Shared->Prop}
  (h:∀h',Heap.SameBut a s.heap h'->ESet knd h' a D t1.led->R (some true) { s with heap:=h' }):
  wpAny (model prog w) A (do
   storeSet a e1 t1
   if(!was&&t1.tooFull)=true then do
    g (relayAll t1 e1 (SetTable.grown e1.size)).2.2
    storeSet a (relayAll t1 e1 (SetTable.grown e1.size)).1 (relayAll t1 e1 (SetTable.grown e1.size)).2.1
    pure (some true)
   else pure (some true)) R E s:=by
 refine x8 (wpAny_storeSet_of ho hd ?_ (fits_of_scanBound hb))
 obtain⟨g1,_⟩:=SetOf_store (knd:=knd) ho hx hd he hm hb hf
 have b1:=x17 s.heap a (Obj.putSet e1 t1)
 split
 .have pr:=relayAll_perm t1 e1 (SetTable.grown e1.size)
  have fr:=relayAll_fits t1 e1 (SetTable.grown e1.size)
  have lr:=zcs t1 e1 (SetTable.grown e1.size)
  have rr:=Rise.relayAll t1 e1 (SetTable.grown e1.size)
  generalize relayAll t1 e1 (SetTable.grown e1.size)=L at pr fr lr rr⊢
  obtain⟨e2,t2,gave⟩:=L
  dsimp only at pr fr lr rr⊢
  have sz:e2.size=e1.size:=by rw[<-x0g,pr.length_eq,x0g]
  have hm2:∀k,decide (k∈D)=true↔∃e∈e2.toList,knd.is k e.2=true:=fun k=>
   (hm k).trans ⟨fun⟨e,q,z⟩=>⟨e,pr.mem_iff.mpr q,z⟩,fun⟨e,q,z⟩=>⟨e,pr.mem_iff.mp q,z⟩⟩
  refine x8 (hg _ _ _ ?_)
  refine x8 (wpAny_storeSet_of g1 rfl ?_ (fits_of_scanBound (by rw[sz];exact hb)))
  obtain⟨g2,_⟩:=SetOf_store (knd:=knd) g1 hx rfl (he.perm pr) hm2 (by rw[sz];exact hb) fr
  refine xh (h _ (b1.trans (x17 _ a _)) ⟨_,e2,_,t2,g2,hx,rfl,he.perm pr,hm2,by rw[sz];exact hb,fr,sz.trans hn,lr.1,rr⟩)
 .exact xh (h _ b1 ⟨_,e1,_,t1,g1,hx,rfl,he,hm,hb,hf,hn,rfl,hp⟩)
theorem zk1{a:Addr}{D:List κ}{led:Bool}{k:κ}{v:Value}{Q:Bool->Shared->Prop}(T:ESet knd s.heap a D led)(is:knd.is k v=true)(hsc:v.scannable=true)
  (room:D.length+1<scanBound)
  (h:∀h' b,Heap.SameBut a s.heap h'->ESet knd h' a (z2g D k) led->Q b { s with heap:=h' }):
  wpAny (model prog w) A (setAddHashed a v (knd.hash k)) Q E s:=by
 obtain⟨o,es,ep,t,ho,hx,hd,he,hm,hb,hf,hn,hl,hp⟩:=T
 unfold setAddHashed setAddHashedIn
 refine x1h (x8 (wpAny_setState_of ho hd hf ?_))
 dsimp only
 rw[byScan_of hsc hb he]
 simp only[↓reduceIte]
 unfold setAddByScan
 refine x8 ?_
 refine x8 (wpAny_rule ?_)
 refine x8 (wpAny_setScan_of is ho hd hf he ?_)
 cases hr:List.findIdx? (fun e=>knd.is k e.2) es.toList with
 |some j=>
  dsimp only
  obtain⟨hj,pj,_⟩:=List.findIdx?_eq_some_iff_getElem.mp hr
  have xin:k∈D:=x05 ((hm k).mpr ⟨es.toList[j],x1b hj,pj⟩)
  have same:z2g D k=D:=if_pos xin
  refine xh (xh ?_)
  have:=h s.heap false (Heap.SameBut.refl a s.heap) (by rw[same];exact⟨o,es,ep,t,ho,hx,hd,he,hm,hb,hf,hn,hl,hp⟩)
  cases s;exact this
 |none=>
  dsimp only
  have xout:k∉D:=fun q=>by
   obtain⟨e,qe,z⟩:=(hm k).mp (xx q)
   have:=List.findIdx?_eq_none_iff.mp hr e qe
   rw[z]at this;cases this
  have grow:z2g D k=D++[k]:=if_neg xout
  have pr:=layNew_perm t es (knd.hash k) v
  have fr:=layNew_fits t es (knd.hash k) v
  have lr:=zgb t es (knd.hash k) v
  have rr:=hp.layNew es (knd.hash k) v
  generalize layNew t es (knd.hash k) v=L at pr fr lr rr⊢
  obtain⟨e1,t1,was,gave⟩:=L
  dsimp only at pr fr lr rr⊢
  rw[Array.toList_push]at pr
  have he1:ElemsOf knd e1.toList:=(he.push is hsc).perm pr
  have hm1:∀k1,decide (k1∈z2g D k)=true↔∃e∈e1.toList,knd.is k1 e.2=true:=fun k1=>by
   rw[<-mem_push_iff is hm pr k1,<-Bool.decide_or,x10,x10]
   exact zbk D k k1
  have sz:e1.size=es.size+1:=by rw[<-x0g,pr.length_eq,x00,x0g];rfl
  have hn1:e1.size=(z2g D k).length:=by rw[sz,grow,x00,hn];rfl
  have hb1:e1.size<scanBound:=by rw[sz,hn];exact room
  have gw:∀(b:Bool)(s₁:Shared)(Q':Unit->Shared->Prop),Q' () s₁->
    wpAny (model prog w) A (match b with|true=>rule "set.scan.the-table-gave-way" |false=>pure ()) Q' E s₁:=fun b s₁ Q' q=>by
   cases b
   .exact xh q
   .exact wpAny_rule q
  refine x8 (gw _ _ _ ?_)
  split
  .refine x8 ?_
   rw[hashByValue_scannable 8 hsc]
   refine xh ?_
   cases plainKind v with
   |true=>
    simp only[↓reduceIte]
    refine z7l (t1:=t1) gw ho hx hd he1 hm1 hb1 fr hn1 rr fun h' sb T'=>?_
    dsimp only
    refine xh (h h' true sb ?_)
    rw[<-hl,<-lr.1];exact T'
   |false=>
    simp only[x0i,↓reduceIte]
    refine z7l (t1:={ t1 with plain:=false }) gw ho hx hd he1 hm1 hb1 (SetTable.fits_plain_off fr) hn1 rr fun h' sb T'=>?_
    dsimp only
    refine xh (h h' true sb ?_)
    rw[<-hl,<-lr.1];exact T'
  .refine x8 (xh ?_)
   simp only[↓reduceIte]
   refine z7l (t1:=t1) gw ho hx hd he1 hm1 hb1 fr hn1 rr fun h' sb T'=>?_
   dsimp only
   refine xh (h h' true sb ?_)
   rw[<-hl,<-lr.1];exact T'
end
section
variable {prog:Program}{w:World}{κ:Type}[DecidableEq κ]{knd:KeyKind prog w κ}{A:Around}{R:Result->Shared->Prop}{I:Addr}
variable {fp wr:List Addr}{G:Array GenState->Array GenState->Prop}{P:Nat->Value->Prop}{St:Nat->Shared->Prop}
theorem zag{ss:List κ}(W:WalksS prog w A.in1 I fp wr G ss.length P St)(a:Addr)(ha:a∉fp)
  {led:Bool} (hv:∀i v (h:i<ss.length),P i v->knd.is ss[i] v=true/\v.scannable=true) (hb:ss.length+1<scanBound):
  ∀(k i:Nat)(s:Shared),ss.length-i=k->i<=ss.length->St i s->ESet knd s.heap a (gAll (ss.take i)) led->
   (∀s',Moved (a::wr) G s s'->ESet knd s'.heap a (gAll ss) led->R (.ok (.ret .none)) s')->
   codeAny (model prog w) A (.builtin "set.update.loop" ⟨[.ref a,.ref I],[]⟩) R s:=by
 have haw:a∉wr:=fun h=>ha (W.sub _ h)
 intro k
 induction k with
 |zero=>
  intro i s hk hi st T hR
  have ei:i=ss.length:=by omega
  subst ei
  rw[x02]at T
  refine codeAny_builtin PyProof.Rows.F.entry_set_update_loop ?_
  rw[Around.under_plainId PyProof.Rows.F.plain_set_update_loop _]
  refine x8 (m:=pyNext (.ref I)) (W.done s _ _ st fun s' mv=>?_)
  refine xh (hR s' (mv.mono fun b h=>.tail _ h) (T.keep fun o e=>mv.heap a o haw e))
 |succ k ih=>
  intro i s hk hi st T hR
  have lt:i<ss.length:=by omega
  refine codeAny_builtin PyProof.Rows.F.entry_set_update_loop ?_
  rw[Around.under_plainId PyProof.Rows.F.plain_set_update_loop _]
  refine x8 (m:=pyNext (.ref I)) (W.item i s _ _ lt st fun v s' hP st' mv=>?_)
  obtain⟨is,hsc⟩:=hv i v lt hP
  have T':=T.keep (h':=s'.heap) fun o e=>mv.heap a o haw e
  refine x8 (m:=holding [v] (setAdd a v)) (x1h ?_)
  unfold setAdd
  refine x1h ?_
  refine x8 (knd.pyHash (k:=ss[i]) is ?_)
  have room:(gAll (ss.take i)).length+1<scanBound:=by
   have:=zf5 (ss.take i)
   rw[x04]at this
   omega
  refine zk1 (s:={ s' with toks:=s'.toks+1 }) T' is hsc room fun h2 _ sb T2=>?_
  have T3:ESet knd h2 a (gAll (ss.take (i+1))) led:=by
   rw[zii ss i lt];exact T2
  refine xh ⟨plainId_quiet PyProof.Rows.F.plain_set_update_loop _,ih (i+1) _ (by omega) lt ?_ T3 fun s3 mv3 T4=>?_⟩
  .refine W.frame _ s' _ _ st' (Nat.le_succ _) fun b hbf o e=>?_
   rw[sb.2 b fun e':b=a=>ha (e'▸hbf)]
   exact e
  .refine hR s3 (Moved.trans W.gtrans ((mv.mono fun b h=>.tail _ h).then_heap (Nat.le_succ _) fun b o hbw e=>?_) mv3) T4
   rw[sb.2 b fun e':b=a=>hbw (e'▸.head _)]
   exact e
end
section
variable {prog:Program}{w:World}{κ:Type}[DecidableEq κ]{knd:KeyKind prog w κ}{A:Around}{E:Value->Shared->Prop}{s:Shared}
theorem zgm{h:Heap}{a:Addr}{led:Bool}(g:h.get? a=some (z26 led)):ESet knd h a [] led:=
 ⟨_,#[],0,.fresh 0 0 led,g,⟨rfl,rfl,rfl⟩,rfl,fun e q=>by simp at q,fun k=>by simp,by decide,by cases led<;>decide,rfl,rfl,List.Pairwise.nil,rfl⟩
theorem zah{l:Addr}{items:Array Value}{ss:List κ}{Q:Value->Shared->Prop}(hh:A.handled=none)
  (hl:s.heap.IsList l items) (len:items.size=ss.length) (hv:∀(i:Nat)(v:Value)(h:i<ss.length),items[i]? =some v->knd.is ss[i] v=true/\v.scannable=true) (hb:ss.length+1<scanBound)
  (h:∀(h':Heap)(tk:Nat),ESet knd h' s.heap.objs.size (gAll ss) (z3a w)->s.toks<=tk->
   (∀b o,s.heap.get? b=some o->h'.get? b=some o)->Q (.ref s.heap.objs.size) { s with heap:=h',toks:=tk }):
  wpAny (model prog w) A (call (.type "set") [.ref l]) Q E s:=by
 obtain⟨_,_,mro⟩:=F.called_set.mro
 have made:=F.called_set.made
 have self:=F.called_set.sub
 refine wpAny_call (codeAny_of_tree ?_)
 show wpAny _ _ (callAny (.type "set") _) _ _ _
 refine xh ⟨Code.quiet_builtin _ (by decide+kernel),?_⟩
 refine codeAny_builtin F.entry_type_call ?_
 rw[Around.under_plain (weight_type_call_type "set" [.ref l] []) rfl]
 have n1:=F.called_set.notType
 have n2:=F.called_set.canCreate
 have n3:=F.typeCall_set_1 (.ref l)
 repeat (any_goals (first|assumption|wp_step))
 refine codeAny_mono (zea (.ref l) (E:=E)
  (Q₁:=fun x s₁=>∃led:Bool,led=z3a w/\x=.ref s.heap.objs.size/\s₁={ s with heap:=s.heap.push (z26 led) }) ⟨_,rfl,rfl,rfl⟩) fun r s₁ hr=>?_
 match r,hr with
 | .error e,hr=>exact hr
 | .ok (.ret x),hr=>
  obtain⟨led,hled,rfl,rfl⟩:=hr
  have gS:(s.heap.push (z26 led)).get? s.heap.objs.size=some (z26 led):=xu _ rfl
  have ty:Shared.TypeIs { s with heap:=s.heap.push (z26 led) } (.ref s.heap.objs.size) "set":=⟨_,gS,rfl⟩
  have look:=F.called_set.init.lookup
  have bound:=F.called_set.init.bind (.ref s.heap.objs.size)
  repeat (any_goals (first|assumption|wp_step))
  refine codeAny_mono (codeAny_call_builtin (R:=wants (fun r s₂=>r=.none/\∃h' tk,s₂={ s with heap:=h',toks:=tk }/\
   ESet knd h' s.heap.objs.size (gAll ss) (z3a w)/\s.toks<=tk/\∀b o,s.heap.get? b=some o->h'.get? b=some o) E)
   F.called_set.init.plain F.entry_set_init (check_set_init_1 ty ?_)) fun r₂ s₂ hr₂=>?_
  .obtain⟨ol,gl,cl,nl,dl⟩:=hl
   obtain⟨ocls,odict,odata,oslots⟩:=ol
   simp only at cl dl
   subst cl dl
   have gl':(s.heap.push (z26 led)).get? l=some { cls:=.type "list",dict:=odict,data:=.seq items nl,slots:=oslots }:=
    xf _ gl
   have m1:=F.sub_list_set
   have m2:=F.sub_list_frozenset
   have m3:(Value.type "list"==Value.type "dict")=false:=by decide
   have isl:(s.heap.push (z26 led)).IsList l items:=⟨_,gl',rfl,nl,rfl⟩
   unfold Builtin.«set.__init__» noKeywords Builtin.Frozenset.updateFrom
   generalize hPI:pyIter=PI
   wp_walk
   subst hPI
   refine wpAny_pyIter_list isl ?_
   refine x8 (wpAny_runValue ?_)
   have lt:l<s.heap.objs.size:=xl gl
   have h3:A.in1.in1.in1.handled=none:=by simp[hh]
   have lI:l≠(s.heap.push (z26 led)).objs.size:=by
    rw[x14];exact xy (x1n lt)
   have aI:s.heap.objs.size∉[(s.heap.push (z26 led)).objs.size,l]:=by
    rw[x14];intro m
    rcases xo.mp m with e|m
    .exact xy (x1a _) e
    .exact Nat.ne_of_gt lt (xm.mp m)
   have WW:=((Walks.list (prog:=prog) (w:=w) h3 _ l lI items).toS)
   rw[len]at WW
   refine zag (led:=z3a w) WW s.heap.objs.size aI hv hb (ss.length-0) 0 _ (by omega) (x03 _)
    ⟨⟨_,xu _ rfl,rfl,rfl⟩,(isl.push _)⟩ ?s0 ?sR
   case s0=>
    have g2:((s.heap.push (z26 led)).push { cls:=.type "list_iterator",data:=.fields #[.ref l,.int 0 0] }).get? s.heap.objs.size=some (z26 led):=
     xf _ gS
    rw[<-hled];exact zgm g2
   case sR=>
    intro s' mv T
    obtain⟨h',g',d',tk',os'⟩:=s'
    obtain rfl:g'=s.gens:=mv.gens
    obtain rfl:d'=s.drawn:=mv.drawn
    obtain rfl:os'=s.os:=mv.os
    show wpAny _ _ _ _ _ _
    refine xh ?_
    show wpAny _ _ (ret Value.none) _ _ _
    refine xh ⟨rfl,h',tk',rfl,T,mv.toks,fun b o e=>?_⟩
    have bl:=xl e
    refine mv.heap b o ?_ (xf _ (xf _ e))
    rw[x14];intro m
    rcases xo.mp m with e|m
    .exact xy bl e
    .exact xy (x1n bl) (xm.mp m)
  .match r₂,hr₂ with
   | .error e,hr₂=>exact hr₂
   | .ok (.ret r),hr₂=>
    obtain⟨rfl,h',tk,rfl,T,lt,old⟩:=hr₂
    repeat (any_goals (first|assumption|wp_step))
    exact h _ _ T lt old
end
inductive EAre {prog:Program}{w:World}{κ:Type}[DecidableEq κ](knd:KeyKind prog w κ):List Value->List κ->Prop
 |nil:EAre knd [] []
 |cons {v:Value} {k:κ} {vs:List Value} {ks:List κ}:knd.is k v=true->EAre knd vs ks->EAre knd (v::vs) (k::ks)
section
variable {prog:Program}{w:World}{κ:Type}[DecidableEq κ]{knd:KeyKind prog w κ}{A:Around}{E:Value->Shared->Prop}{s:Shared}
theorem EAre.length{vs:List Value}{ks:List κ}(h:EAre knd vs ks):vs.length=ks.length:=by
 induction h with
 |nil=>rfl
 |cons _ _ ih=>simp[ih]
theorem zk2{L:List (Int×Value)}{D:List κ}(he:ElemsOf knd L)(nd:D.Nodup)
  (hm:∀k,decide (k∈D)=true↔∃e∈L,knd.is k e.2=true) (hn:L.length=D.length):
  ∃ks,EAre knd (L.map (·.2)) ks/\ks.Perm D:=by
 have ex:∀L:List (Int×Value),ElemsOf knd L->∃ks,EAre knd (L.map (·.2)) ks/\∀k e,e∈L->knd.is k e.2=true->k∈ks:=by
  intro L
  induction L with
  |nil=>exact fun _=>⟨[],.nil,fun _ _ z=>nomatch z⟩
  |cons e L ih=>
   intro he
   obtain⟨ks,h1,h2⟩:=ih he.tail
   obtain⟨k,hk,_⟩:=he.head.1
   refine⟨k::ks,.cons hk h1,fun k' e' m z=>?_⟩
   rcases xo.mp m with rfl|m
   .rw[knd.inj _ k' k z hk];exact .head _
   .exact .tail _ (h2 k' e' m z)
 obtain⟨ks,h1,h2⟩:=ex L he
 refine⟨ks,h1,z8k D ks nd (fun k hk=>?_) ?_⟩
 .obtain⟨e,m,z⟩:=(hm k).mp (xx hk)
  exact h2 k e m z
 .have:=h1.length
  rw[x0]at this
  omega
theorem z7m{a:Addr}{o:Obj}{es:Array (Int×Value)}{ep:Nat}{t:SetTable}{slot i:Nat}{Q:Option (Value×Nat)->Shared->Prop}
  (hw:w.params.followText "set-order"=false) (ho:s.heap.get? a=some o) (hd:o.data=.set es ep t) (hf:t.fits es.size=true)
  (hn:t.plain=true\/es.size<=1) (hl:t.led=true)
  (h:Q (match es[SetTable.below t.place slot]?,t.place[SetTable.below t.place slot]? with
   |some (_,x),some j=>some (x,j+1)
   |_,_=>none) s):wpAny (model prog w) A (setNext a slot i ep) Q E s:=by
 unfold setNext
 refine x8 (wpAny_setState_of ho hd hf ?_)
 dsimp only
 refine x8 (z2s ?_)
 rw[hw]
 simp only[x0i,↓reduceIte]
 refine(?_:wpAny _ _ (if(!t.plain&&decide (es.size>1))=true then _ else _) _ _ _)
 rw[if_neg (by rcases hn with hn|hn<;>simp[hn])]
 refine x8 (m:=if(!t.led&& !es.isEmpty)=true then unsupported "set:maker-not-led" else pure ()) ?_
 rw[if_neg (by simp[hl])]
 exact xh (xh h)
theorem zeh{t:SetTable}(hr:Rise t){es:Array (Int×Value)}(hf:t.fits es.size=true){i:Nat}(lt:i<es.size):
  (match es[SetTable.below t.place (z1w t i)]?,t.place[SetTable.below t.place (z1w t i)]? with
   |some (_,x),some j=>some (x,j+1)
   |_,_=>none)=some (es[i].2,z1w t (i+1)):=by
 have sz:=z9k hf
 rw[z7j hr (by omega),x0w lt,x0w (by omega:i<t.place.size)]
 have:z1w t (i+1)=t.place[i]'(by omega)+1:=by
  unfold z1w
  rw[if_neg (by omega)]
  simp[Array.getD,(by omega:i<t.place.size)]
 rw[this]
theorem zgn{t:SetTable}(hr:Rise t){es:Array (Int×Value)}(hf:t.fits es.size=true):
  (match es[SetTable.below t.place (z1w t es.size)]?,t.place[SetTable.below t.place (z1w t es.size)]? with
   |some (_,x),some j=>some (x,j+1)
   |_,_=>none)=(none:Option (Value×Nat)):=by
 have sz:=z9k hf
 rw[z7j hr (by omega),Array.getElem?_eq_none (xk _)]
theorem zgo(hh:A.handled=none)(hw:w.params.followText "set-order"=false){I a:Addr}{o:Obj}{es:Array (Int×Value)}{ep:Nat}{t:SetTable}
  (hd:o.data=.set es ep t) (hf:t.fits es.size=true) (hr:Rise t) (hn:t.plain=true\/es.size<=1) (hl:t.led=true) (hI:a≠I):
  WalksS prog w A I [I,a] [I] (fun x y=>x=y) es.size (fun i v=>∃e,es[i]? =some e/\v=e.2)
   (fun i s=>SetIterAt s.heap I (.int (z1w t i) 0) i a es.size ep/\s.heap.get? a=some o) where
 sub:=fun b hb=>by simp at hb;simp[hb]
 grefl:=fun _=>rfl
 gtrans:=fun _ _ _ p q=>p.trans q
 frame:=fun i s h' tk st _ k=>⟨st.1.keep (k I (by simp)),k a (by simp) _ st.2⟩
 item:=fun i s Q E lt st hQ=>by
  refine z7d (next:=z1w t (i+1)) (x:=es[i].2) st.2 hd hf st.1
   (fun A' E' Q' q=>z7m hw st.2 hd hf hn hl ((x0u (fun z=>Q' z s) (zeh hr hf lt)).mpr q)) fun h' si sb=>?_
  refine hQ _ _ ⟨_,x0w lt,rfl⟩ ⟨si,(sb.2 a hI).trans st.2⟩ ⟨fun b o' hb e=>?_,rfl,rfl,rfl,xk _⟩
  exact(sb.2 b (by simpa using hb)).trans e
 done:=fun s Q E st hQ=>by
  refine z4x hh st.2 hd hf st.1
   (fun A' E' Q' q=>z7m hw st.2 hd hf hn hl ((x0u (fun z=>Q' z s) (zgn hr hf)).mpr q)) fun h' xb=>?_
  exact hQ _ ⟨fun b o' hb e=>xb b o' (by simpa using hb) e,rfl,rfl,rfl,xk _⟩
 self:=fun i s Q E st h=>z4y st.1 h
theorem zbu{a:Addr}{D:List κ}{Q:List Value->Shared->Prop}(hh:A.handled=none)(nd:D.Nodup)
  (T:ESet knd s.heap a D (z3a w))
  (h:∀s' vs ks,EAre knd vs ks->ks.Perm D->(∀b o,s.heap.get? b=some o->s'.heap.get? b=some o)->s'.gens=s.gens->s'.os=s.os->
   s.toks<=s'.toks->Q vs s'):wpAny (model prog w) A (collect (.ref a)) Q E s:=by
 obtain⟨o,es,ep,t,ho,hx,hd,he,hm,hb,hf,hn,hl,hp⟩:=T
 have la:=xl ho
 unfold collect
 refine x8 (wpAny_runValue (codeAny_builtin F.entry_proto_collect ?_))
 rw[Around.under_plainId F.plain_proto_collect _]
 refine x8 (m:=newList []) (x0z ?_)
 refine xh ⟨plainId_quiet F.plain_list_iadd _,codeAny_builtin F.entry_list_iadd ?_⟩
 rw[Around.under_plainId F.plain_list_iadd _]
 show wpAny _ A.in1 (Builtin.List.listExtendWith (.ref s.heap.objs.size) (.ref a) (.ref s.heap.objs.size)) _ _ _
 unfold Builtin.List.listExtendWith
 generalize hH:s.heap.push { cls:=.type "list",data:=.seq ([]:List Value).toArray }=H
 have ho1:H.get? a=some o:=by rw[<-hH];exact xf _ ho
 have gS:H.get? s.heap.objs.size=some { cls:=.type "list",data:=.seq #[] }:=by rw[<-hH];exact xu _ rfl
 have zH:H.objs.size=s.heap.objs.size+1:=by rw[<-hH,x14]
 have ty:Shared.TypeIs { s with heap:=H } (.ref a) "set":=⟨o,ho1,hx.1⟩
 refine x8 (wpAny_typeOf ty ?_)
 have h1:Builtin.List.listSameRef (.ref s.heap.objs.size) (.ref a)=false:=by
  simp only[Builtin.List.listSameRef,beq_eq_false_iff_ne];exact Nat.ne_of_gt la
 have h2:(Value.type "set"==Value.type "list")=false:=by decide
 have h3:(Value.type "set"==Value.type "tuple")=false:=by decide
 simp only[h1,h2,h3,Bool.or_false,x0i,if_false]
 have hz:=fits_of_scanBound hb
 have fin:∀(s1 s':Shared)(I:Addr)(P:Nat->Value->Prop)(L:List (Int×Value))(acc:Array Value)(c:Nat),
   (∀b o,H.get? b=some o->s1.heap.get? b=some o)->s1.gens=s.gens->s1.os=s.os->s1.toks=s.toks->s.heap.objs.size<I->
   L.Perm es.toList->(∀i v,P i v->∃e,L[i]? =some e/\v=e.2)->
   Moved (s.heap.objs.size::[I]) (fun x y=>x=y) s1 s'->ItemsOf P acc es.size->Q acc.toList s':=by
  intro s1 s' I P L acc c k0 k1 k2 k3 k4 pr hP mv ii
  have len:L.length=es.size:=by rw[pr.length_eq,x0g]
  rw[<-len]at ii
  rw[zi4 ii hP]
  have hm2:∀k,decide (k∈D)=true↔∃e∈L,knd.is k e.2=true:=fun k=>
   (hm k).trans ⟨fun⟨e,q,z⟩=>⟨e,pr.mem_iff.mpr q,z⟩,fun⟨e,q,z⟩=>⟨e,pr.mem_iff.mp q,z⟩⟩
  obtain⟨ks,t1,t2⟩:=zk2 (he.perm pr) nd hm2 (len.trans hn)
  refine h s' _ ks t1 t2 (fun b o' e=>?_) (mv.gens.symm.trans k1) (mv.os.trans k2) (k3▸mv.toks)
  have lb:=xl e
  refine mv.heap b o' (fun m=>?_) (k0 b o' (by rw[<-hH];exact xf _ e))
  rcases xo.mp m with q|m
  .exact xy lb q
  .exact xy (Nat.lt_trans lb k4) (xm.mp m)
 have h4:A.in1.handled=none:=by simp[hh]
 let K:Value->Shared->Prop:=fun v s'=>wpAny (model prog w) A (match v with
  | .ref a=>do
   match(<-load a).data with
   | .seq xs _=>pure xs.toList
   |_=>unsupported "internal:collect"
  |_=>unsupported "internal:collect") Q E s'
 have aS:s.heap.objs.size≠a:=Nat.ne_of_gt la
 have laH:a<H.objs.size:=xl ho1
 refine x8 (zgc ho1 hx hd hf hb ?_ ?_)
 .intro w1 w2 w3 ps d pr
  have len:ps.length=es.size:=by simpa using pr.length_eq
  have gT:((H.push { cls:=.type "tuple",data:=.seq (ps.map fun(i:Nat)=>rawInt i).toArray }).push (z1q (.ref H.objs.size) 0 a es.size ep)).get? H.objs.size
    =some { cls:=.type "tuple",data:=.seq (ps.map fun(i:Nat)=>rawInt i).toArray }:=xf _ (xu _ rfl)
  have gI:((H.push { cls:=.type "tuple",data:=.seq (ps.map fun(i:Nat)=>rawInt i).toArray }).push (z1q (.ref H.objs.size) 0 a es.size ep)).get? (H.objs.size+1)
    =some (z1q (.ref H.objs.size) 0 a es.size ep):=by
   have z2:(H.push { cls:=.type "tuple",data:=.seq (ps.map fun(i:Nat)=>rawInt i).toArray }).objs.size=H.objs.size+1:=x14 ..
   rw[<-z2]
   exact xu _ rfl
  have two:∀ b o',H.get? b=some o'->((H.push { cls:=.type "tuple",data:=.seq (ps.map fun(i:Nat)=>rawInt i).toArray }).push (z1q (.ref H.objs.size) 0 a es.size ep)).get? b=some o':=
   fun b o' e=>xf _ (xf _ e)
  have W:=zeb (prog:=prog) (w:=w) (A:=A.in1) h4 (I:=H.objs.size+1) (T:=H.objs.size) (a:=a) (o:=o) (ps:=ps) (nT:=0)
   (oT:={ cls:=.type "tuple",data:=.seq (ps.map fun(i:Nat)=>rawInt i).toArray }) hd hf rfl
   (xy (x1n laH)) (xy (x1a _)) pr
  have out:s.heap.objs.size∉[H.objs.size+1,a,H.objs.size]:=by
   rw[zH];intro m
   rcases xo.mp m with q|m
   .exact xy (x1n (x1a _)) q
   .rcases xo.mp m with q|m
    .exact aS q
    .exact xy (x1a _) (xm.mp m)
  refine z3r (a:=a) (R:=wants K E) (b:=_) W hz out ?_ (c:=0) ?_ ?_ ?_
  .exact⟨⟨_,gI,rfl,rfl⟩,two _ _ ho1,gT⟩
  .exact two _ _ gS
  .exact⟨o,two _ _ ho1,hx.1⟩
  intro s' acc c' mv g ii
  show wpAny _ _ (load _>>=_) _ _ _
  refine x8 (wpAny_load g (xh ?_))
  refine fin { s with heap:=(H.push { cls:=.type "tuple",data:=.seq (ps.map fun(i:Nat)=>rawInt i).toArray }).push (z1q (.ref H.objs.size) 0 a es.size ep),drawn:=d } s' (H.objs.size+1) _ (ps.map fun p=>es.getD p default) acc c' two rfl rfl rfl (by rw[zH];exact x1n (x1a _)) ?_ ?_ mv ii
  .refine(pr.map _).trans ?_
   have:(List.range es.size).map (fun p=>es.getD p default)=es.toList:=by
    apply x0n
    intro i
    by_cases lt:i<es.size
    .simp[lt]
    .simp[lt]
   rw[this]
  .rintro i v ⟨p,e,hp',he',rfl⟩
   refine⟨e,?_,rfl⟩
   rw[xc,hp']
   obtain⟨lt,q⟩:=Array.getElem?_eq_some_iff.mp he'
   simp[lt,q]
 .intro w1
  have gI:(H.push (z1q (.int 0 0) 0 a es.size ep)).get? H.objs.size=some (z1q (.int 0 0) 0 a es.size ep):=xu _ rfl
  have one:∀b o',H.get? b=some o'->(H.push (z1q (.int 0 0) 0 a es.size ep)).get? b=some o':=fun b o' e=>xf _ e
  have out:s.heap.objs.size∉[H.objs.size,a]:=by
   rw[zH];intro m
   rcases xo.mp m with q|m
   .exact xy (x1a _) q
   .exact aS (xm.mp m)
  have lI:s.heap.objs.size<H.objs.size:=by rw[zH];exact x1a _
  cases hw:w.params.followText "set-order" with
  |true=>
   have W:=zgd (prog:=prog) (A:=A.in1) h4 hw (I:=H.objs.size) (a:=a) (o:=o) hd hf (xy laH)
   refine z3r (a:=a) (R:=wants K E) (b:=_) W hz out ?_ (c:=0) ?_ ?_ ?_
   .exact⟨⟨_,gI,rfl,rfl⟩,one _ _ ho1⟩
   .exact one _ _ gS
   .exact⟨o,one _ _ ho1,hx.1⟩
   intro s' acc c' mv g ii
   show wpAny _ _ (load _>>=_) _ _ _
   refine x8 (wpAny_load g (xh ?_))
   refine fin { s with heap:=H.push (z1q (.int 0 0) 0 a es.size ep) } s' H.objs.size _ (pickOrder (w.params.setOrder a ep) es).toList acc c' one rfl rfl rfl lI (z3z _ _) ?_ mv ii
   rintro i v ⟨e,q,rfl⟩
   exact⟨e,by rw[Array.getElem?_toList];exact q,rfl⟩
  |false=>
   have small:t.plain=true\/es.size<=1:=by
    rcases w1 with q|q|q
    .rw[hw]at q;cases q
    .exact .inl q
    .exact .inr q
   have W:=zgo (prog:=prog) (A:=A.in1) h4 hw (I:=H.objs.size) (a:=a) (o:=o) hd hf hp small (hl.trans (by simp[z3a,hw])) (xy laH)
   refine z3r (a:=a) (R:=wants K E) (b:=_) W hz out ?_ (c:=0) ?_ ?_ ?_
   .exact⟨⟨_,gI,rfl,rfl⟩,one _ _ ho1⟩
   .exact one _ _ gS
   .exact⟨o,one _ _ ho1,hx.1⟩
   intro s' acc c' mv g ii
   show wpAny _ _ (load _>>=_) _ _ _
   refine x8 (wpAny_load g (xh ?_))
   refine fin { s with heap:=H.push (z1q (.int 0 0) 0 a es.size ep) } s' H.objs.size _ es.toList acc c' one rfl rfl rfl lI (.refl _) ?_ mv ii
   rintro i v ⟨e,q,rfl⟩
   exact⟨e,by rw[Array.getElem?_toList];exact q,rfl⟩
end
end PySem
end
section
namespace PySem
open PyProof.Rows
section
variable {prog:Program}{w:World}{κ:Type}[DecidableEq κ]{knd:KeyKind prog w κ}
structure Sorts(knd:KeyKind prog w κ)(rel:List Value->List κ->Prop)(so:List κ->Prop):Prop where
 to:∀{vs ks},EAre knd vs ks->rel vs ks
 ln:∀{vs ks},rel vs ks->vs.length=ks.length
 st:∀{A:Around} {E:Value->Shared->Prop} {s:Shared} {l:Addr} {vs:List Value} {ks:List κ} {n:Nat} {P:Fin->Shared->Prop},s.heap.get? l=some (seqObj "list" vs.toArray n)->rel vs ks->vs.length<64->
  (∀(out:Array Value)(ks':List κ),rel out.toList ks'->ks'.Perm ks->so ks'->P (.done (.ret .none)) { s with heap:=sortedHeap s.heap l vs out })->wpAny (model prog w) A (Builtin.«list.sort» ⟨[.ref l],[]⟩) P E s
theorem zei{A:Around}{E:Value->Shared->Prop}{s:Shared}{rel:List Value->List κ->Prop}{so:List κ->Prop}(S:Sorts knd rel so){a:Addr}{D:List κ}{Q:Value->Shared->Prop}(hh:A.handled=none)(nd:D.Nodup)(h64:D.length<64)
  (T:ESet knd s.heap a D (z3a w))
  (h:∀s' l vs ks e,rel vs ks->ks.Perm D->so ks->(∀b o,s.heap.get? b=some o->s'.heap.get? b=some o/\b≠l)->
   s'.heap.get? l=some (seqObj "list" vs.toArray e)->s'.gens=s.gens->s'.os=s.os->Q (.ref l) s'):
  wpAny (model prog w) A (call (.builtin "sorted") [.ref a]) Q E s:=by
 refine Calls.call_function_entry kind_sorted plain_sorted entry_sorted (args_sorted1 _) ?_
 unfold Builtin.«sorted»
 refine x8 (m:=checkCount "sorted" 1 1 _) (xh ?_)
 refine x8 (zbu (by simpa using hh) nd T fun s1 vs ks t0 t2 k0 k1 k2 k3=>?_)
 have t1:=S.to t0
 have v64:vs.length<64:=by rw[S.ln t1,t2.length_eq];exact h64
 have fit:vs.length<=sizeLine:=xp (Nat.le_of_lt v64) (by decide)
 refine x8 (wpAny_newList ?_ fit)
 have hS:=xu (h:=s1.heap) (o:=seqObj "list" vs.toArray 0) rfl
 refine x8 (x1h (x1j slot_list_sort ⟨_,hS,rfl⟩ entry_list_sort
  (S.st hS t1 v64 fun out ks' u1 u2 u3=>⟨_,rfl,?_⟩) (args_list_sort _)))
 refine xh ⟨_,rfl,?_⟩
 obtain⟨e,ge⟩:=sortedHeap_at (out:=out) hS
 refine h _ s1.heap.objs.size out.toList ks' e u1 (u2.trans t2) u3 (fun b o q=>?_) ge k1 k2
 have lb:=xl (k0 b o q)
 refine⟨?_,xy lb⟩
 refine(sortedHeap_old (xy lb) ?_).trans (xf _ (k0 b o q))
 rw[x14];exact x1n lb
theorem zij(prog:Program)(w:World):Sorts (intKind prog w) IntsAre (·.Pairwise (·<=·)) where
 to:=fun h=>by
  induction h with
  |nil=>exact .nil
  |cons h _ ih=>
   obtain⟨t,rfl⟩:=Value.isInt_shape h
   exact .cons _ t ih
 ln:=fun h=>h.length
 st:=fun hS t v64 h=>list_sort_tree hS t v64 h
theorem zik(prog:Program)(w:World):Sorts (PySem.strKind prog w) StrsAre (fun ks=>sortedS ks=true) where
 to:=fun h=>by
  induction h with
  |nil=>exact .nil
  |@cons v k vs ks h _ ih=>
   have:∃t,v=.str k t:=by
    cases v<;>first
     |exact absurd h xa
     |(obtain rfl:=(by simpa[PySem.strKind,Value.isInt,Value.isStrOf]using h:_=k);exact⟨_,rfl⟩)
   obtain⟨t,rfl⟩:=this
   exact .cons _ t ih
 ln:=fun h=>h.length
 st:=fun hS t1 v64 h=>list_sort_treeK strKind_oneLt hS t1.keysOf (fun v₁ v₂ rest e=>keyKind_strs (by rw[<-e];exact t1)) v64 fun st' a1 a2=>by
  obtain⟨ks',u1,u2,u3⟩:=sorted_out_str t1 a1 a2
  exact h _ ks' u1 u2 u3
end
end PySem
namespace L2
open PySem PySem.Spec PyProof.Rows
noncomputable def eso{P:Program}{w:World}{κ:Type}[DecidableEq κ](knd:KeyKind P w κ)(a:Addr)(D:List κ):HO:=.ext fun h=>ESet knd h a D (z3a w)
section
variable {X:Cx}{κ:Type}[DecidableEq κ]{knd:KeyKind X.prog X.w κ}
theorem zbl(knd:KeyKind X.prog X.w κ)(f:κ->V)(hf:∀ k u,RelV (f k) u->knd.is k u=true/\u.scannable=true)(hc:X.calm=true):CallR X (.type "set") (fun xs H Q=>∃ p ss,xs=[.ref p]/\SqL X.K H p ((ss:List κ).map f)/\ss.length+1<scanBound/\∀ d,H d=none->Q (.ref d) (upd H d (eso knd d (gAll ss)))):=by
 intro pins s σ H xs us Q I r h
 obtain⟨p,ss,rfl,hp,hb,q⟩:=h
 obtain⟨u,rfl,ru⟩:=z58 r
 cases ru
 obtain⟨its,r1,pl,hz⟩:=I.list hp
 have hl:=r1.length
 rw[x0]at hl
 refine zah (knd:=knd) (ss:=ss) (I.ok.hd hc) pl.isList (by simpa using hl.symm) (fun i v hi hv=>?_) hb fun h' tk T ht hk=>?_
 .have g1:(ss.map f)[i]? =some (f ss[i]):=by rw[xc,x6 hi];rfl
  obtain⟨w',q1,t⟩:=r1.get g1
  have:its[i]? =some v:=by simpa using hv
  rw[this]at q1
  cases q1
  exact hf _ _ t
 .have ok:∀H',ObjOk X.prog X.w H' h' s.heap.objs.size (eso knd s.heap.objs.size (gAll ss)):=fun _=>⟨T,(by obtain⟨o,es,ep,t,ho,_⟩:=T;exact⟨o,ho⟩),fun h1 h2 t k=>ESet.keep t k⟩
  exact⟨.ref _,_,I.laid (t':=tk) hk (xk _) (ok _),rfl,q _ I.fresh⟩
theorem z7n{rel:List Value->List κ->Prop}{so:List κ->Prop}(S:Sorts knd rel so)(f:κ->V)(hf:∀ vs ks,rel vs ks->Vals (ks.map f) vs)(hc:X.calm=true):CallR X (.builtin "sorted") (fun xs H Q=>∃ a D,xs=[.ref a]/\H a=some (eso knd a D)/\D.Nodup/\D.length<64/\∀ l ks,H l=none->ks.Perm D->so ks->Q (.ref l) (upd H l (.lst ((ks:List κ).map f)))):=by
 intro pins s σ H xs us Q I r h
 obtain⟨a,D,rfl,ha,nd,h64,q⟩:=h
 obtain⟨u,rfl,ru⟩:=z58 r
 cases ru
 obtain⟨T,-,-⟩:=(show ObjOk X.prog X.w H s.heap a (eso knd a D) from I.hok a _ ha)
 refine zei S (I.ok.hd hc) nd h64 T fun s' l vs ks e t1 t2 t3 hk hl hg ho=>?_
 have hz:(ks.map f).length<=sizeLine:=by
  rw[x0,t2.length_eq];exact xp (Nat.le_of_lt h64) (by decide)
 have k:∀b u,s.heap.get? b=some u->s'.heap.get? b=some u:=fun b u e=>(hk b u e).1
 have hHl:H l=none:=by
  cases z:H l with
  |none=>rfl
  |some o=>
   obtain⟨u,hu⟩:=zec (I.hok l o z)
   exact absurd rfl (hk l u hu).2
 have un:Un (frs X.stack) [] H (upd H l (.lst (ks.map f))) s.heap s'.heap:=by
  refine⟨fun b u z _ _ _=>k b u z,fun b u z _ _ _=>⟨u.slots,k b u z⟩,fun b u z n _=>?_,fun b u z _=>⟨u,k b u z⟩,fun b ys z=>?_,fun b u ys z=>?_,fun b ps z=>⟨#[],?_⟩⟩
  .rw[zb (hk b u z).2];exact n
  .rw[zb (ze z hHl)];exact z
  .rw[zb (ze z hHl)];exact z
  .rw[zb (ze z hHl),z];simp
 have hok:HOk X.prog X.w (upd H l (.lst (ks.map f))) s'.heap:=fun b u e'=>by
  by_cases hb:b=l
  .subst hb;rw[z8]at e';cases e'
   exact⟨hz,vs,e,hf _ _ t1,hl⟩
  .rw[zb hb]at e'
   exact(I.hok b u e').stay (fun c v _ q=>k c v q) (fun c q=>by rw[zb (ze q hHl)];exact q) fun c xs q=>by rw[zb (ze q hHl)];exact q
 exact⟨.ref l,_,I.call' ho un hok (by rw[hg];exact I.bare) (fun b z=>absurd z (by simp)),rfl,q l ks hHl t2 t3⟩
noncomputable abbrev zgp(hc:X.calm=true):=zbl (intKind X.prog X.w) V.int (fun k u ⟨t,e⟩=>e▸⟨intKind_is _ _ k t,rfl⟩) hc
noncomputable abbrev zgq(hc:X.calm=true):=zbl (PySem.strKind X.prog X.w) V.str (fun k u ⟨t,e⟩=>e▸⟨strKind_is _ _ k t,rfl⟩) hc
noncomputable abbrev zbv(hc:X.calm=true):=z7n (zij X.prog X.w) V.int (fun _ _ h=>z8t h) hc
noncomputable abbrev zbw(hc:X.calm=true):=z7n (zik X.prog X.w) V.str (fun _ _ h=>zf0 h) hc
end
end L2
end
namespace Fg
open PySem L2
local macro_rules | `(tactic| walk_at "rd") => `(tactic| ((try dsimp only [cxOf, L2.start, tSeq, zfn, tAsg, tBM, tBM0, z9a, gSub, gNil, zfp, tRet, tIfS, zfo, tOp, tUn, tSl, zg0, za7, tCB, zc5, tNil, tTup, tLst, tVar, tC, zc4, tB, tAnd, tOr, tNot, zfl, tOrV, zfm, zce, zc6, tFld, sFld, z62, zco, z80, zcn, tTry, zg6, zcp, gTup, zgg, zgi, zcz, zd2, z9m, zae, zd3, z7f, zgh, zcl, zbc, zbd, zfr, zbe, z9i, zbg, tYes, capt, rI, rI0, rU, rEq, rNe, tyV, scal, Option.join_some, List.map_cons, List.map_nil, List.cons_append, List.nil_append, List.replicate, List.length_cons, List.length_nil, Nat.reduceAdd, Nat.reduceSub, List.getElem?_cons_zero, List.getElem?_cons_succ, List.set_cons_zero, List.set_cons_succ]); (try simp only [cxOf, L2.start, tSeq, zfn, tAsg, tBM, tBM0, z9a, gSub, gNil, zfp, tRet, tIfS, zfo, tOp, tUn, tSl, zg0, za7, tCB, zc5, tNil, tTup, tLst, tVar, tC, zc4, tB, tAnd, tOr, tNot, zfl, tOrV, zfm, zce, zc6, tFld, sFld, z62, zco, z80, zcn, tTry, zg6, zcp, gTup, zgg, zgi, zcz, zd2, z9m, zae, zd3, z7f, zgh, zcl, zbc, zbd, zfr, zbe, z9i, zbg, tYes, capt, rI, rI0, rU, rEq, rNe, tyV, scal, Option.join_some, List.map_cons, List.map_nil, List.cons_append, List.nil_append, List.append_nil, List.replicate, List.length_cons, List.length_nil, Nat.reduceAdd, Nat.reduceSub, List.getElem?_cons_zero, List.getElem?_cons_succ, List.set_cons_zero, List.set_cons_succ, Option.some.injEq, V.str.injEq, V.int.injEq, V.bl.injEq, V.ref.injEq, V.ty.injEq, List.cons.injEq, exists_eq_left', exists_eq_left, exists_and_left, and_true, true_and, reduceCtorEq, if_true, if_false])))
noncomputable def top(i:Nat):Stmt:=PySem.Challenge.pw_fencegate_k13_council_having.main.body.getD i (.Pass ⟨0,0,0,0⟩)
noncomputable abbrev z90:Stmt:=top 9
noncomputable abbrev z7o:Stmt:=top 10
noncomputable abbrev z91:Stmt:=top 11
noncomputable abbrev z3c:Stmt:=z1o (top 13) 0
noncomputable abbrev z4d:Stmt:=z1o (top 13) 1
noncomputable abbrev z4e:Stmt:=z1o (top 13) 2
noncomputable abbrev z4f:Stmt:=z1o (top 13) 3
noncomputable abbrev z2p:Stmt:=z1o (top 13) 4
noncomputable abbrev z35:Stmt:=z1o (top 13) 5
noncomputable abbrev z4g:Stmt:=z1o (top 13) 6
noncomputable abbrev z4h:Stmt:=z1o (top 13) 7
noncomputable abbrev z36:Stmt:=z1o (top 15) 0
noncomputable abbrev z32:Stmt:=z1o (top 15) 1
noncomputable abbrev z2t:Stmt:=z1o (top 15) 2
noncomputable abbrev z40:Stmt:=z1o (top 15) 3
noncomputable abbrev z41:Stmt:=z1o (top 15) 4
noncomputable abbrev z3t:Stmt:=z1o (top 15) 6
noncomputable abbrev z3i:Stmt:=z1o (top 15) 7
noncomputable abbrev z42:Stmt:=z1o (top 15) 8
noncomputable abbrev z43:Stmt:=z1o (top 15) 9
noncomputable abbrev z3j:Stmt:=z1o (top 15) 10
noncomputable abbrev z7p:Stmt:=top 17
noncomputable abbrev z2i:Stmt:=top 18
noncomputable abbrev z5j:Stmt:=top 19
noncomputable abbrev z50:Stmt:=top 20
noncomputable abbrev z51:Stmt:=top 21
noncomputable abbrev z5k:Stmt:=top 22
noncomputable abbrev z52:Stmt:=top 23
noncomputable abbrev z53:Stmt:=top 24
noncomputable abbrev z5l:Stmt:=top 25
noncomputable abbrev z6g:Stmt:=top 26
noncomputable abbrev z6h:Stmt:=top 27
noncomputable abbrev z4i:Stmt:=top 28
noncomputable abbrev z6i:Stmt:=top 29
noncomputable abbrev z4j:Stmt:=top 30
noncomputable abbrev z5m:Stmt:=top 31
noncomputable abbrev z5n:Stmt:=top 32
noncomputable abbrev z44:Stmt:=top 33
noncomputable abbrev z4k:Stmt:=top 34
noncomputable abbrev z54:Stmt:=top 35
noncomputable abbrev z33:Stmt:=top 36
noncomputable abbrev z86:Stmt:=top 37
structure Txt(K:PySem.W.Frag)(mg:Str->Option Value)(y0 yb ya y6 y9 y8 y7:Addr):Prop where
 z:True
 b_all:mg "all"=none
 b_bool:mg "bool"=none
 b_enumerate:mg "enumerate"=none
 b_int:mg "int"=none
 b_isinstance:mg "isinstance"=none
 b_len:mg "len"=none
 b_list:mg "list"=none
 b_max:mg "max"=none
 b_min:mg "min"=none
 b_range:mg "range"=none
 b_set:mg "set"=none
 b_sorted:mg "sorted"=none
 b_str:mg "str"=none
 b_tuple:mg "tuple"=none
 g_Council:mg "Council"=some (.ref y0)
 g_Down:mg "Down"=some (.ref yb)
 g_InTheWay:mg "InTheWay"=some (.ref ya)
 g_Keeper:mg "Keeper"=some (.ref y6)
 g_NotFree:mg "NotFree"=some (.ref y9)
 g_OldNumber:mg "OldNumber"=some (.ref y8)
 g_UnknownKeeper:mg "UnknownKeeper"=some (.ref y7)
 pg_Council:PySem.W.plainGet K y0 Str.empty=true
 hd_Council:PySem.W.hasDictIn K y0=true
 po_Council:PySem.W.plainOver K y0=true
 sa_Council:PySem.W.findIn K (.ref y0) "__setattr__"=some (some (.builtin "object.__setattr__"))
 n_Council_keepers:NoAttr K y0 "keepers"
 n_Council_most:NoAttr K y0 "most"
 pg_Keeper:PySem.W.plainGet K y6 Str.empty=true
 hd_Keeper:PySem.W.hasDictIn K y6=true
 po_Keeper:PySem.W.plainOver K y6=true
 sa_Keeper:PySem.W.findIn K (.ref y6) "__setattr__"=some (some (.builtin "object.__setattr__"))
 n_Keeper_up:NoAttr K y6 "up"
 n_Keeper_top:NoAttr K y6 "top"
 n_Keeper_kept:NoAttr K y6 "kept"
 x_Down:PySem.W.excIn K yb [.type "ValueError",.type "Exception",.type "BaseException",.type "object"] "ValueError.__new__"=true
 x_InTheWay:PySem.W.excIn K ya [.type "ValueError",.type "Exception",.type "BaseException",.type "object"] "ValueError.__new__"=true
 x_NotFree:PySem.W.excIn K y9 [.type "ValueError",.type "Exception",.type "BaseException",.type "object"] "ValueError.__new__"=true
 x_OldNumber:PySem.W.excIn K y8 [.type "ValueError",.type "Exception",.type "BaseException",.type "object"] "ValueError.__new__"=true
 x_UnknownKeeper:PySem.W.excIn K y7 [.type "ValueError",.type "Exception",.type "BaseException",.type "object"] "ValueError.__new__"=true
 sb_Down_NotFree:PySem.W.subIn K (.ref yb) (.ref y9)=some false
 sb_InTheWay_NotFree:PySem.W.subIn K (.ref ya) (.ref y9)=some false
 sb_NotFree_NotFree:PySem.W.subIn K (.ref y9) (.ref y9)=some true
 sb_OldNumber_NotFree:PySem.W.subIn K (.ref y8) (.ref y9)=some false
 sb_UnknownKeeper_NotFree:PySem.W.subIn K (.ref y7) (.ref y9)=some false
theorem Txt.cl_Council{K:PySem.W.Frag}{mg:Str->Option Value}{y0 yb ya y6 y9 y8 y7:Addr}(T:Txt K mg y0 yb ya y6 y9 y8 y7):Cls K y0:=⟨T.pg_Council,T.hd_Council,T.po_Council,T.sa_Council⟩
theorem Txt.cl_Keeper{K:PySem.W.Frag}{mg:Str->Option Value}{y0 yb ya y6 y9 y8 y7:Addr}(T:Txt K mg y0 yb ya y6 y9 y8 y7):Cls K y6:=⟨T.pg_Keeper,T.hd_Keeper,T.po_Keeper,T.sa_Keeper⟩
theorem sc_within:FnScope ["inner","outer","outer_names"] ["inner","outer"] (zh z90):=⟨rfl,rfl,rfl,by decide+kernel,rfl,by decide+kernel,by decide+kernel⟩
theorem zgr:FnScope ["one","other"] ["one","other"] (zh z7o):=⟨rfl,rfl,rfl,by decide+kernel,rfl,by decide+kernel,by decide+kernel⟩
theorem zil:FnScope ["lock","shared","other","other_shared"] ["lock","shared","other","other_shared"] (zh z91):=⟨rfl,rfl,rfl,by decide+kernel,rfl,by decide+kernel,by decide+kernel⟩
theorem z7q:FnScope ["self"] ["self"] (zh z3c):=⟨rfl,rfl,rfl,by decide+kernel,rfl,by decide+kernel,by decide+kernel⟩
theorem zai:FnScope ["self"] ["self"] (zh z4d):=⟨rfl,rfl,rfl,by decide+kernel,rfl,by decide+kernel,by decide+kernel⟩
theorem zaj:FnScope ["self"] ["self"] (zh z4e):=⟨rfl,rfl,rfl,by decide+kernel,rfl,by decide+kernel,by decide+kernel⟩
theorem zak:FnScope ["self","tick"] ["self","tick"] (zh z4f):=⟨rfl,rfl,rfl,by decide+kernel,rfl,by decide+kernel,by decide+kernel⟩
theorem sc_Keeper_names_in_way:FnScope ["self","holder","lock","shared","tick","others"] ["self","holder","lock","shared","tick"] (zh z2p):=⟨rfl,rfl,rfl,by decide+kernel,rfl,by decide+kernel,by decide+kernel⟩
theorem z6x:FnScope ["self","holder","lock","shared","tick"] ["self","holder","lock","shared","tick"] (zh z35):=⟨rfl,rfl,rfl,by decide+kernel,rfl,by decide+kernel,by decide+kernel⟩
theorem sc_Keeper_take:FnScope ["self","number","holder","lock","shared","tick","time","others"] ["self","number","holder","lock","shared","tick","time"] (zh z4g):=⟨rfl,rfl,rfl,by decide+kernel,rfl,by decide+kernel,by decide+kernel⟩
theorem zal:FnScope ["self","number","tick"] ["self","number","tick"] (zh z4h):=⟨rfl,rfl,rfl,by decide+kernel,rfl,by decide+kernel,by decide+kernel⟩
theorem z6y:FnScope ["self","many"] ["self","many"] (zh z36):=⟨rfl,rfl,rfl,by decide+kernel,rfl,by decide+kernel,by decide+kernel⟩
theorem z6j:FnScope ["self","place"] ["self","place"] (zh z32):=⟨rfl,rfl,rfl,by decide+kernel,rfl,by decide+kernel,by decide+kernel⟩
theorem z5z:FnScope ["self"] ["self"] (zh z2t):=⟨rfl,rfl,rfl,by decide+kernel,rfl,by decide+kernel,by decide+kernel⟩
theorem sc_Council_fall:FnScope ["self","keeper","chosen","was_up"] ["self","keeper"] (zh z40):=⟨rfl,rfl,rfl,by decide+kernel,rfl,by decide+kernel,by decide+kernel⟩
theorem sc_Council_rise:FnScope ["self","keeper","chosen","was_up"] ["self","keeper"] (zh z41):=⟨rfl,rfl,rfl,by decide+kernel,rfl,by decide+kernel,by decide+kernel⟩
theorem z92:FnScope ["self","keeper","tick"] ["self","keeper","tick"] (zh z3t):=⟨rfl,rfl,rfl,by decide+kernel,rfl,by decide+kernel,by decide+kernel⟩
theorem z8a:FnScope ["self","holder","lock","shared","tick"] ["self","holder","lock","shared","tick"] (zh z3i):=⟨rfl,rfl,rfl,by decide+kernel,rfl,by decide+kernel,by decide+kernel⟩
theorem sc_Council_give:FnScope ["self","holder","lock","shared","tick","time","sayers","number","place"] ["self","holder","lock","shared","tick","time"] (zh z42):=⟨rfl,rfl,rfl,by decide+kernel,rfl,by decide+kernel,by decide+kernel⟩
theorem sc_Council_drop:FnScope ["self","number","tick","droppers","place","keeper"] ["self","number","tick"] (zh z43):=⟨rfl,rfl,rfl,by decide+kernel,rfl,by decide+kernel,by decide+kernel⟩
theorem sc_Council_having:FnScope ["self","lock","tick","places","place","keeper","note","held"] ["self","lock","tick"] (zh z3j):=⟨rfl,rfl,rfl,by decide+kernel,rfl,by decide+kernel,by decide+kernel⟩
theorem zgs:FnScope ["_law_script","_law_k"] ["_law_script","_law_k"] (zh z7p):=⟨rfl,rfl,rfl,by decide+kernel,rfl,by decide+kernel,by decide+kernel⟩
theorem z7r:FnScope ["_law_found","_law_due"] ["_law_found","_law_due"] (zh z2i):=⟨rfl,rfl,rfl,by decide+kernel,rfl,by decide+kernel,by decide+kernel⟩
theorem sc__law_name:FnScope ["_law_cell","_law_k","_law_signs","_law_rest","_law_many","_law_spot","_law_made","_law_j","_law_place"] ["_law_cell","_law_k"] (zh z5j):=⟨rfl,rfl,rfl,by decide+kernel,rfl,by decide+kernel,by decide+kernel⟩
theorem zbx:FnScope ["_law_cell","_law_many"] ["_law_cell","_law_many"] (zh z50):=⟨rfl,rfl,rfl,by decide+kernel,rfl,by decide+kernel,by decide+kernel⟩
theorem sc__law_locks:FnScope ["_law_cell","_law_words","_law_many","_law_made","_law_rest","_law_k","_law_parent","_law_path"] ["_law_cell","_law_words","_law_many"] (zh z51):=⟨rfl,rfl,rfl,by decide+kernel,rfl,by decide+kernel,by decide+kernel⟩
theorem sc__law_some:FnScope ["_law_cell","_law_names_here","_law_found","_law_rest","_law_name_here"] ["_law_cell","_law_names_here"] (zh z5k):=⟨rfl,rfl,rfl,by decide+kernel,rfl,by decide+kernel,by decide+kernel⟩
theorem sc__law_setup:FnScope ["_law_script","_law_keepers","_law_holders","_law_locks_here","_law_sharing","_law_stores"] ["_law_script"] (zh z52):=⟨rfl,rfl,rfl,by decide+kernel,rfl,by decide+kernel,by decide+kernel⟩
theorem sc__law_asked:FnScope ["_law_rest","_law_k","_law_setup_here","_law_holder","_law_lock","_law_shared"] ["_law_rest","_law_k","_law_setup_here"] (zh z53):=⟨rfl,rfl,rfl,by decide+kernel,rfl,by decide+kernel,by decide+kernel⟩
theorem sc__law_line:FnScope ["_law_one","_law_other","_law_first","_law_second","_law_many"] ["_law_one","_law_other"] (zh z5l):=⟨rfl,rfl,rfl,by decide+kernel,rfl,by decide+kernel,by decide+kernel⟩
theorem zej:FnScope ["_law_lock","_law_shared","_law_other","_law_other_shared"] ["_law_lock","_law_shared","_law_other","_law_other_shared"] (zh z6g):=⟨rfl,rfl,rfl,by decide+kernel,rfl,by decide+kernel,by decide+kernel⟩
theorem zek:FnScope ["_law_setup_here"] ["_law_setup_here"] (zh z6h):=⟨rfl,rfl,rfl,by decide+kernel,rfl,by decide+kernel,by decide+kernel⟩
theorem sc__law_naming:FnScope ["_law_state","_law_asking","_law_keeper","_law_found","_law_note"] ["_law_state","_law_asking","_law_keeper"] (zh z4i):=⟨rfl,rfl,rfl,by decide+kernel,rfl,by decide+kernel,by decide+kernel⟩
theorem zel:FnScope ["_law_state"] ["_law_state"] (zh z6i):=⟨rfl,rfl,rfl,by decide+kernel,rfl,by decide+kernel,by decide+kernel⟩
theorem zam:FnScope ["_law_state","_law_asking"] ["_law_state","_law_asking"] (zh z4j):=⟨rfl,rfl,rfl,by decide+kernel,rfl,by decide+kernel,by decide+kernel⟩
theorem zdd:FnScope ["_law_state","_law_asking"] ["_law_state","_law_asking"] (zh z5m):=⟨rfl,rfl,rfl,by decide+kernel,rfl,by decide+kernel,by decide+kernel⟩
theorem sc__law_give:FnScope ["_law_state","_law_asking","_law_by","_law_number","_law_holder","_law_lock","_law_shared","_law_end","_law_notes","_law_note","_law_k"] ["_law_state","_law_asking"] (zh z5n):=⟨rfl,rfl,rfl,by decide+kernel,rfl,by decide+kernel,by decide+kernel⟩
theorem sc__law_dropped:FnScope ["_law_state","_law_number","_law_found","_law_notes","_law_note"] ["_law_state","_law_number"] (zh z44):=⟨rfl,rfl,rfl,by decide+kernel,rfl,by decide+kernel,by decide+kernel⟩
theorem sc__law_having:FnScope ["_law_state","_law_lock","_law_found","_law_number","_law_by","_law_row","_law_note"] ["_law_state","_law_lock"] (zh z4k):=⟨rfl,rfl,rfl,by decide+kernel,rfl,by decide+kernel,by decide+kernel⟩
theorem sc__law_given:FnScope ["_law_council","_law_asking","_law_tick","_law_refused"] ["_law_council","_law_asking","_law_tick"] (zh z54):=⟨rfl,rfl,rfl,by decide+kernel,rfl,by decide+kernel,by decide+kernel⟩
theorem sc__law_council_deed:FnScope ["_law_council","_law_state","_law_cell","_law_k","_law_setup_here","_law_rest","_law_event","_law_asking","_law_found","_law_by","_law_number","_law_keeper","_law_changed"] ["_law_council","_law_state","_law_cell","_law_k"] (zh z33):=⟨rfl,rfl,rfl,by decide+kernel,rfl,by decide+kernel,by decide+kernel⟩
theorem sc_law:FnScope ["_law_script","_law_setup_here","_law_council","_law_state","_law_k","_law_lock","_law_found","_law_row","_law_rows","_law_one"] ["_law_script"] (zh z86):=⟨rfl,rfl,rfl,by decide+kernel,rfl,by decide+kernel,by decide+kernel⟩
variable {y0 yb ya y6 y9 y8 y7:Addr}
section
variable {P:Program}{w:World}{K:PySem.W.Frag}{mg:Str->Option Value}{base:Heap}
noncomputable def sp(a:Str):List Str:=Txt.split a "/"
noncomputable def z7s(a b:Str):Bool:=decide ((sp a).take (sp b).length=sp b)
noncomputable def zde:Sp:=fun vs H Q _=>∃a b:Str,vs=[.str a,.str b]/\a.length<=1000/\b.length<=1000/\z59 H Q (.bl (z7s a b))
theorem zim(F:Def K mg "within" z90 ["inner","outer"])(T:Txt K mg y0 yb ya y6 y9 y8 y7):Has P w K mg base 1 "within" ["inner","outer"] (zde):=by
 refine F.ok sc_within (fun vs H Q E h=>?_) (fun f cdv A outer s H vs Q E hr h=>?_)
 .obtain⟨a,b,rfl,_⟩:=h
  rfl
 .obtain⟨a,b,rfl,ha,hb,k⟩:=h
  have hu:=hr.units0
  refine⟨_,(@za _ _ _ _ _ (@zk _ _ 2 _ _ _ _ sc_within.nd rfl (Or.inl rfl) (@z2c _ _ _ _ _ _ _ _ _ _ _ _ PySem.F.plainAttrs_str PySem.F.slot_str_split PySem.F.type_str_split z69 (pv 1) (@z6 _ _ _ _ _ zl z9 rfl) rfl rfl rfl rfl rfl) rfl (Or.inr rfl)) (@zd _ _ _ (@zn _ _ _ _ (@z1n _ _ _ _ _ _ _ _ (zhv hu) (@z63 _ _ _ _ _ _ _ _ _ _ za9 (@z2c _ _ _ _ _ _ _ _ _ _ _ _ PySem.F.plainAttrs_str PySem.F.slot_str_split PySem.F.type_str_split z69 (pv 0) (@z6 _ _ _ _ _ zl z9 rfl) rfl rfl rfl rfl rfl) z81 (@z82 _ _ _ (@zj _ _ _ _ _ _ _ _ _ zq rfl T.b_len (by decide+kernel) (@z6 _ _ _ _ _ (pv 2) z9 rfl) (by decide) (by decide) rfl rfl))) (pv 2) (zm _))))),?_⟩
  walk_at "rd"
  refine z84 rfl (by omega) fun p hp=>z84 rfl (by omega) fun q hq=>?_
  have npq:p≠q:=ze z8 hq
  refine⟨_,rfl,_,.inl (SqL.of (by rw[zb npq,z8])),_,_,rfl,SqL.of z8,fun r hr'=>?_⟩
  have nr:∀b,b=p\/b=q->b≠r:=fun b hb z=>by
   subst z
   rcases hb with rfl|rfl
   .rw[zb npq,z8]at hr';cases hr'
   .rw[z8]at hr';cases hr'
  refine⟨_,_,_,_,rfl,rfl,SqL.of z8,SqL.of (by rw[zb (nr p (.inl rfl)),zb npq,z8]),?_,z2o _,?_⟩
  .rw[x0,z9f,<-List.map_take]
   exact z2o _
  .rw[x0,z9f,<-List.map_take]
   have e:eqVs (List.map V.str (List.take (sp b).length (sp a))) (List.map V.str (sp b))=z7s a b:=z68 _ _
   show Q (.bl (eqVs (List.map V.str (List.take (sp b).length (sp a))) (List.map V.str (sp b)))) _
   rw[e]
   exact k _ (((Same.upd hp).trans (Same.upd hq)).trans (Same.upd hr'))
noncomputable def onl(a b:Str):Bool:=z7s a b||z7s b a
noncomputable def spOn:Sp:=fun vs H Q _=>∃a b:Str,vs=[.str a,.str b]/\a.length<=1000/\b.length<=1000/\z59 H Q (.bl (onl a b))
theorem zgt(F:Def K mg "on_line" z7o ["one","other"])(T:Txt K mg y0 yb ya y6 y9 y8 y7)(y1d:Has P w K mg base 1 "within" ["inner","outer"] (zde)):Has P w K mg base 2 "on_line" ["one","other"] (spOn):=by
 refine F.ok zgr (fun vs H Q E h=>?_) (fun f cdv A outer s H vs Q E hr h=>?_)
 .obtain⟨a,b,rfl,_⟩:=h
  rfl
 .obtain⟨a,b,rfl,ha,hb,k⟩:=h
  refine⟨_,(@zd _ _ _ (@zn _ _ _ _ (@zmh _ _ _ _ _ _ _ (@zw _ _ _ _ _ _ _ _ _ _ y1d (hr.mono (by decide)) rfl (@z6 _ _ _ _ _ (pv 0) (@z6 _ _ _ _ _ (pv 1) z9 rfl) rfl) (by decide) rfl rfl) (@z2a _ _ _ _ _ (@zw _ _ _ _ _ _ _ _ _ _ y1d (hr.mono (by decide)) rfl (@z6 _ _ _ _ _ (pv 1) (@z6 _ _ _ _ _ (pv 0) z9 rfl) rfl) (by decide) rfl rfl))))),?_⟩
  walk_at "rd"
  refine⟨a,b,rfl,ha,hb,fun H1 s1=>⟨_,rfl,?_⟩⟩
  cases e:z7s a b with
  |true=>
   rw[if_pos rfl]
   have:=k H1 s1
   simpa[onl,e]using this
  |false=>
   rw[if_neg xa]
   refine⟨b,a,rfl,hb,ha,fun H2 s2=>?_⟩
   have:=k H2 (s1.trans s2)
   simpa[onl,e]using this
noncomputable def zkm:Sp:=fun vs H Q _=>∃(a b:Str)(x y:Bool),vs=[.str a,.bl x,.str b,.bl y]/\a.length<=1000/\b.length<=1000/\z59 H Q (.bl (onl a b&& !(x&&y)))
theorem zin(F:Def K mg "in_way" z91 ["lock","shared","other","other_shared"])(T:Txt K mg y0 yb ya y6 y9 y8 y7)(y1f:Has P w K mg base 2 "on_line" ["one","other"] (spOn)):Has P w K mg base 3 "in_way" ["lock","shared","other","other_shared"] (zkm):=by
 refine F.ok zil (fun vs H Q E h=>?_) (fun f cdv A outer s H vs Q E hr h=>?_)
 .obtain⟨a,b,x,y,rfl,_⟩:=h
  rfl
 .obtain⟨a,b,x,y,rfl,ha,hb,k⟩:=h
  refine⟨_,(@zd _ _ _ (@zn _ _ _ _ (@z2e _ _ _ _ _ _ _ (@zw _ _ _ _ _ _ _ _ _ _ y1f (hr.mono (by decide)) rfl (@z6 _ _ _ _ _ (pv 0) (@z6 _ _ _ _ _ (pv 2) z9 rfl) rfl) (by decide) rfl rfl) (@z2a _ _ _ _ _ (@zcb _ _ _ _ (@z2e _ _ _ _ _ _ _ (pv 1) (@z2a _ _ _ _ _ (pv 3)))))))),?_⟩
  walk_at "rd"
  refine⟨a,b,rfl,ha,hb,fun H1 s1=>⟨_,rfl,?_⟩⟩
  have:=k H1 s1
  cases e:onl a b<;>cases x<;>simp_all
structure Nt where
 n:Int
 h:Str
 l:Str
 sh:Bool
 e:Int
deriving DecidableEq
noncomputable def Nt.vals(x:Nt):List V:=[.int x.n,.str x.h,.str x.l,.bl x.sh,.int x.e]
noncomputable abbrev NL:=List (Addr×Nt)
noncomputable def refs(L:NL):List V:=L.map fun q=>V.ref q.1
structure NotesAt(H:Hp)(L:NL):Prop where
 tu:∀q∈L,H q.1=some (.tup q.2.vals)
 sm:∀q∈L,q.2.h.length<=1000/\q.2.l.length<=1000
theorem NotesAt.mono{H H':Hp}{L:NL}(h:NotesAt H L)(s:Same H H'):NotesAt H' L:=⟨fun q hq=>s _ _ (h.tu q hq),h.sm⟩
theorem NotesAt.sub{H:Hp}{L L':NL}(h:NotesAt H L)(s:∀q∈L',q∈L):NotesAt H L':=⟨fun q hq=>h.tu q (s q hq),fun q hq=>h.sm q (s q hq)⟩
theorem n1:¬(("up":Str)="top"):=by decide+kernel
theorem n2:¬(("up":Str)="kept"):=by decide+kernel
theorem n3:¬(("top":Str)="kept"):=by decide+kernel
noncomputable def kf(u:Bool)(t:Int)(l:Addr):List (Str×V):=[("up",.bl u),("top",.int t),("kept",.ref l)]
theorem z87(u:Bool)(t:Int)(l:Addr):(kf u t l).lookup ("up":Str)=some (.bl u):=by simp[kf,x1i]
theorem zio(u:Bool)(t:Int)(l:Addr):(kf u t l).lookup ("top":Str)=some (.int t):=by
 have e:(("top":Str)=="up")=false:=by decide+kernel
 simp[kf,x1i,e]
theorem z3b(u:Bool)(t:Int)(l:Addr):(kf u t l).lookup ("kept":Str)=some (.ref l):=by
 have e:(("kept":Str)=="up")=false:=by decide+kernel
 have e':(("kept":Str)=="top")=false:=by decide+kernel
 simp[kf,x1i,e,e']
theorem z3u(u:Bool)(t:Int)(l:Addr){m:Str}(h1:(m=="up")=false)(h2:(m=="top")=false)(h3:(m=="kept")=false):(kf u t l).lookup m=none:=by
 simp[kf,x1i,h1,h2,h3]
theorem zmm(u:Bool)(t:Int)(l:Addr):putF "kept" (.ref l) (putF "top" (.int t) (putF "up" (.bl u) []))=kf u t l:=by
 simp[putF,kf,n1,n2,n3]
theorem zbm(u u':Bool)(t:Int)(l:Addr):putF "up" (.bl u') (kf u t l)=kf u' t l:=by simp[putF,kf]
theorem zgu(u:Bool)(t t':Int)(l:Addr):putF "top" (.int t') (kf u t l)=kf u t' l:=by simp[putF,kf,n1]
theorem z5o(u:Bool)(t:Int)(l l':Addr):putF "kept" (.ref l') (kf u t l)=kf u t l':=by simp[putF,kf,n2,n3]
structure KeeperAt(C:Addr)(H:Hp)(k:Addr)(u:Bool)(t:Int)(L:NL):Prop where
 ob:∃dx l,H k=some (.ins C dx (kf u t l))/\H l=some (.lst (refs L))
 nt:NotesAt H L
 len:L.length<=1000
theorem KeeperAt.mono{C:Addr}{H H':Hp}{k:Addr}{u:Bool}{t:Int}{L:NL}(h:KeeperAt C H k u t L)(s:Same H H'):KeeperAt C H' k u t L:=by
 obtain⟨⟨dx,l,h1,h2⟩,h3,h4⟩:=h
 exact⟨⟨dx,l,s _ _ h1,s _ _ h2⟩,h3.mono s,h4⟩
noncomputable def But(k:Addr)(H H':Hp):Prop:=∀b o,H b=some o->b≠k->H' b=some o
theorem But.of{k:Addr}{H H':Hp}(s:Same H H'):But k H H':=fun b o e _=>s b o e
theorem z37{L:NL}{i:Nat}{x:V}(h:(refs L)[i]? =some x):∃q,L[i]? =some q/\x=.ref q.1:=by
 unfold refs at h
 rw[xc]at h
 cases e:L[i]? with
 |none=>rw[e]at h;cases h
 |some q=>rw[e]at h;exact⟨q,rfl,(xq h).symm⟩
theorem z19(L:NL):(refs L).length=L.length:=x0 _
theorem z1l{α:Type}(p:α->Bool){L:List α}{i:Nat}{x:α}(h:L[i]? =some x):(L.take (i+1)).filter p=(L.take i).filter p++(if p x=true then[x] else[]):=by
 rw[List.take_succ,h,x1f]
 simp[List.filter_cons]
theorem zu{H H':Hp}{p:Addr}(s:Same H H')(h:H' p=none):H p=none:=by
 cases e:H p with
 |none=>rfl
 |some o=>rw[s _ _ e]at h;cases h
noncomputable def ziq(C:Addr):Sp:=fun vs H Q _=>∃(k dx:Addr),vs=[.ref k]/\H k=some (.ins C dx [])/\∀(H':Hp),KeeperAt C H' k true 0 []->(∃dx l,H' k=some (.ins C dx (kf true 0 l))/\H l=none)->But k H H'->Q .non H'
theorem z7t(F:KDef K y6 "Keeper.__init__" z3c ["self"])(T:Txt K mg y0 yb ya y6 y9 y8 y7):KHas P w K mg base 1 y6 ["self"] (ziq y6):=by
 refine F.ok z7q (fun vs H Q E h=>?_) (fun f cdv A outer s H vs Q E hr h=>?_)
 .obtain⟨k,dx,rfl,_⟩:=h
  rfl
 .obtain⟨k,dx,rfl,hk,q⟩:=h
  refine⟨_,(@za _ _ _ _ _ (@z3d _ _ _ _ _ _ _ _ (pv 0) z2b rfl) (@za _ _ _ _ _ (@z3d _ _ _ _ _ _ _ _ (pv 0) z7 rfl) (@zd _ _ _ (@z3d _ _ _ _ _ _ _ _ (pv 0) (@z1c _ _ _ _ z9) rfl)))),?_⟩
  walk_at "rd"
  refine⟨_,_,_,hk,T.cl_Keeper,T.n_Keeper_up,by decide,_,_,_,z8,T.cl_Keeper,T.n_Keeper_top,by show(1:Nat)<1000;decide,x03 _,fun p hp=>?_⟩
  have nkp:k≠p:=ze z8 hp
  refine⟨_,_,_,by rw[zb nkp,z8],T.cl_Keeper,T.n_Keeper_kept,by simp[putF,n1],?_⟩
  rw[zmm]
  refine q _ ⟨⟨dx,p,z8,by rw[zb nkp.symm,z8];rfl⟩,⟨by simp,by simp⟩,by simp⟩ ⟨dx,p,z8,?_⟩ fun b o e nb=>?_
  .rw[zb nkp.symm,zb nkp.symm]at hp
   exact hp
  have nbp:b≠p:=fun z=>by
   subst z
   rw[zb nb,zb nb,e]at hp
   cases hp
  rw[zb nb,zb nbp,zb nb,zb nb]
  exact e
noncomputable def z17(tick:Int)(L:NL):NL:=L.filter fun q=>decide (tick<q.2.e)
noncomputable def z7u(C:Addr):Sp:=fun vs H Q _=>∃(k:Addr)(u:Bool)(t:Int)(L:NL)(tick:Int),vs=[.ref k,.int tick]/\KeeperAt C H k u t L/\∀(r:Addr)(H':Hp),H r=none->H' r=some (.lst (refs (z17 tick L)))->Same H H'->Q (.ref r) H'
theorem zan(F:MDef K y6 "live" "Keeper.live" z4f ["self","tick"])(T:Txt K mg y0 yb ya y6 y9 y8 y7):MHas P w K mg base CX0 1 y6 "live" ["self","tick"] (z7u y6):=by
 refine F.ok zak (fun vs H Q E h=>?_) (fun f cdv A outer s H vs Q E hr h=>?_)
 .obtain⟨k,u,t,L,tick,rfl,_⟩:=h
  rfl
 .obtain⟨k,u,t,L,tick,rfl,hk,q⟩:=h
  refine⟨_,(@zd _ _ _ (@zn _ _ _ _ (@z1z _ _ "note" (["tick"]) ([1]) _ _ _ _ _ _ _ _ rfl ⟨rfl,by decide+kernel,by decide+kernel,rfl,zv rfl,by decide+kernel,⟨⟨rfl,Or.inl rfl,rfl⟩,trivial⟩⟩ (@z12 _ _ _ _ (@z2f _ _ _ _ _ (pv 0) rfl)) (fun _ _ _ _=>(@z28 _ _ _ (@zo _ _ _ _ _ _ _ _ z7y (pv 1) (@zi _ _ _ _ _ _ _ (z1e (K:=K)) (pv 0) z7 (fun _ _=>rfl)) (zm _)))) (fun _ _ _ _=>(pv 0)) (by intro _;rfl)))),?_⟩
  walk_at "rd"
  obtain⟨⟨dx,l,h1,h2⟩,hn,hlen⟩:=hk
  refine⟨_,_,_,h1,T.cl_Keeper,T.n_Keeper_kept,_,z3b u t l,l,rfl,⟨_,SqL.of h2⟩,?_⟩
  refine z1d (xs:=refs L) (by rw[z19];exact zf (by omega)) (fun i acc H'=>acc=refs (z17 tick (L.take i))/\H'=H) ⟨by simp[z17,refs],rfl⟩ ?_ ?_ ?_ ?_
  .rintro i acc H' ⟨rfl,-⟩
   rw[z19]
   exact xp (xj _ _) (by rw[x04];omega)
  .rintro i acc H' ⟨-,rfl⟩
   exact SqL.of h2
  .rintro Nn i acc H' x hN hx hi ⟨rfl,rfl⟩
   obtain⟨y,hy,rfl⟩:=z37 hx
   walk_at "rd"
   refine⟨_,_,_,_,rfl,rfl,SqT.of (hn.tu _ (x9 hy)),zc (j:=4) rfl,?_⟩
   have st:=z1l (fun q:Addr×Nt=>decide (tick<q.2.e)) hy
   by_cases hc:tick<y.2.e
   .refine⟨_,rfl,?_⟩
    simp only[hc,decide_true,if_true]
    refine hN _ _ ⟨?_,rfl⟩
    unfold z17
    rw[st]
    simp[hc,refs]
   .refine⟨_,rfl,?_⟩
    simp only[hc,decide_false,x0i,if_false]
    refine hN _ _ ⟨?_,rfl⟩
    unfold z17
    rw[st]
    simp[hc,refs]
  .rintro acc H' ⟨rfl,rfl⟩ p hp
   rw[z19,x02]
   exact q p _ hp z8 (Same.upd hp)
noncomputable def z2x(hd lk:Str)(sh:Bool)(x:Nt):Bool:=decide (x.h≠hd)&&(onl lk x.l&& !(sh&&x.sh))
noncomputable def z2y(L:NL)(hd lk:Str)(sh:Bool)(tick:Int):Bool:=!((z17 tick L).any fun q=>z2x hd lk sh q.2)
noncomputable def othf(hd:Str)(L:NL):NL:=L.filter fun q=>decide (q.2.h≠hd)
noncomputable def wayf(lk:Str)(sh:Bool)(L:NL):List Str:=(L.filter fun q=>onl lk q.2.l&& !(sh&&q.2.sh)).map fun q=>q.2.h
noncomputable def z6k(L:NL)(hd lk:Str)(sh:Bool)(tick:Int):List Str:=wayf lk sh (othf hd (z17 tick L))
theorem zlb{ss ks:List Str}(h:ks.Perm (gAll ss)):ks=[]↔ss=[]:=by
 constructor
 .rintro rfl
  cases ss with
  |nil=>rfl
  |cons v ss=>
   have:v∈gAll (v::ss):=(z7k (v::ss) [] v).mpr (.inr (by simp))
   rw[<-h.mem_iff]at this
   cases this
 .rintro rfl
  exact List.Perm.eq_nil h
theorem zir(L:NL)(hd lk:Str)(sh:Bool)(tick:Int):decide (z6k L hd lk sh tick=[])=z2y L hd lk sh tick:=by
 unfold z6k wayf othf z2y
 rw[x18]
 simp only[x10,List.map_eq_nil_iff,x1s,xi,Bool.not_eq_true',List.any_eq_false,z2x,x07,and_imp]
 constructor
 .intro h x hx h1
  exact h x hx h1.1 h1.2
 .intro h x hx h1 h2
  exact h x hx ⟨h1,h2⟩
noncomputable def zdf(C:Addr):Sp:=fun vs H Q _=>∃(k:Addr)(u:Bool)(t:Int)(L:NL)(hd lk:Str)(sh:Bool)(tick:Int),vs=[.ref k,.str hd,.str lk,.bl sh,.int tick]/\KeeperAt C H k u t L/\L.length<=63/\lk.length<=1000/\
 ∀(r:Addr)(ks:List Str)(H':Hp),H r=none->H' r=some (.lst (ks.map V.str))->ks.Perm (gAll (z6k L hd lk sh tick))->PyProof.Rows.sortedS ks=true->Same H H'->Q (.ref r) H'
theorem z5p(F:MDef K y6 "names_in_way" "Keeper.names_in_way" z2p ["self","holder","lock","shared","tick"])(T:Txt K mg y0 yb ya y6 y9 y8 y7)(y1g:Has P w K mg base 3 "in_way" ["lock","shared","other","other_shared"] (zkm))(yf:MHas P w K mg base CX0 1 y6 "live" ["self","tick"] (z7u y6)):MHas P w K mg base CX0 4 y6 "names_in_way" ["self","holder","lock","shared","tick"] (zdf y6):=by
 refine F.ok sc_Keeper_names_in_way (fun vs H Q E h=>?_) (fun f cdv A outer s H vs Q E hr h=>?_)
 .obtain⟨k,u,t,L,hd,lk,sh,tick,rfl,_⟩:=h
  rfl
 .obtain⟨k,u,t,L,hd,lk,sh,tick,rfl,hk,h63,hl,q⟩:=h
  have hu:=hr.units0
  refine⟨_,(@za _ _ _ _ _ (@z66 _ _ "note" (["holder"]) ([1]) _ _ _ _ _ _ _ _ 5 _ _ _ rfl ⟨rfl,by decide+kernel,by decide+kernel,rfl,zv rfl,by decide+kernel,⟨⟨rfl,Or.inl rfl,rfl⟩,trivial⟩⟩ sc_Keeper_names_in_way.nd rfl (Or.inl rfl) (@z12 _ _ _ _ (@z27 _ _ _ _ _ _ _ _ _ _ _ _ _ _ yf T.cl_Keeper (hr.mono (by decide)) (pv 0) (@z6 _ _ _ _ _ (pv 4) z9 rfl) rfl rfl rfl)) (fun _ _ _ _=>(@z28 _ _ _ (@zo _ _ _ _ _ _ _ _ z2j (@zi _ _ _ _ _ _ _ (z1e (K:=K)) (pv 0) z7 (fun _ _=>rfl)) (pv 1) (zm _)))) (fun _ _ _ _=>(pv 0)) rfl (by intro _;rfl) (Or.inr rfl)) (@zd _ _ _ (@zn _ _ _ _ (@zj _ _ _ _ _ _ _ _ _ (zbw rfl) rfl T.b_sorted (by decide+kernel) (@z6 _ _ _ _ _ (@z74 _ _ _ _ _ _ _ _ _ (zgq rfl) rfl T.b_set (by decide+kernel) (@z6 _ _ _ _ _ (@z1z _ _ "note" (["lock","shared"]) ([2,3]) _ _ _ _ _ _ _ _ rfl ⟨rfl,by decide+kernel,by decide+kernel,rfl,zv rfl,by decide+kernel,⟨⟨rfl,Or.inl rfl,rfl⟩,⟨⟨rfl,Or.inl rfl,rfl⟩,trivial⟩⟩⟩ (@z12 _ _ _ _ (pv 5)) (fun _ _ _ _=>(@z28 _ _ _ (@z1i _ _ _ (@zw _ _ _ _ _ _ _ _ _ _ y1g (hr.mono (by decide)) rfl (@z6 _ _ _ _ _ (pv 1) (@z6 _ _ _ _ _ (pv 2) (@z6 _ _ _ _ _ (@zi _ _ _ _ _ _ _ (z1e (K:=K)) (pv 0) z7 (fun _ _=>rfl)) (@z6 _ _ _ _ _ (@zi _ _ _ _ _ _ _ (z1e (K:=K)) (pv 0) z7 (fun _ _=>rfl)) z9 rfl) rfl) rfl) rfl) (by decide) rfl rfl) (by intro _;rfl)))) (fun _ _ _ _=>(@zi _ _ _ _ _ _ _ (z1e (K:=K)) (pv 0) z7 (fun _ _=>rfl))) (by intro _;rfl)) z9 rfl) (by decide) (by decide) rfl rfl) z9 rfl) (by decide) (by decide) rfl rfl)))),?_⟩
  walk_at "rd"
  obtain⟨⟨dx,l,h1,h2⟩,hn,hlen⟩:=id hk
  refine⟨_,_,h1,z3u u t l (by decide+kernel) (by decide+kernel) (by decide+kernel),k,u,t,L,tick,rfl,hk,fun r H1 hr0 hr1 hs1=>⟨r,rfl,⟨_,SqL.of hr1⟩,?_⟩⟩
  have hn1:NotesAt H1 (z17 tick L):=(hn.mono hs1).sub fun q h=>(xi.mp h).1
  have l1:(z17 tick L).length<=63:=xp (xj _ _) h63
  refine z1d (xs:=refs (z17 tick L)) (by rw[z19];exact zf (by omega)) (fun i acc H'=>acc=refs (othf hd ((z17 tick L).take i))/\H'=H1) ⟨by simp[othf,refs],rfl⟩ ?_ ?_ ?_ ?_
  .rintro i acc H' ⟨rfl,-⟩
   rw[z19]
   exact xp (xj _ _) (by rw[x04];omega)
  .rintro i acc H' ⟨-,rfl⟩
   exact SqL.of hr1
  .rintro Nn i acc H' x hN hx hi ⟨rfl,rfl⟩
   obtain⟨y,hy,rfl⟩:=z37 hx
   walk_at "rd"
   have st:=z1l (fun q:Addr×Nt=>decide (q.2.h≠hd)) hy
   refine⟨_,_,_,_,rfl,rfl,SqT.of (hn1.tu _ (x9 hy)),zc (j:=1) rfl,?_⟩
   by_cases hc:y.2.h=hd
   .refine⟨rfl,?_⟩
    simp only[V.str.injEq,hc,decide_true,Bool.not_true,x0i,if_false]
    refine hN _ _ ⟨?_,rfl⟩
    unfold othf
    rw[st]
    simp[hc]
   .refine⟨rfl,?_⟩
    simp only[V.str.injEq,hc,decide_false,Bool.not_false,if_true]
    refine hN _ _ ⟨?_,rfl⟩
    unfold othf
    rw[st]
    simp[hc,refs]
  rintro acc H' ⟨rfl,rfl⟩ p hp
  rw[z19,x02]
  refine⟨p,rfl,⟨_,SqL.of z8⟩,?_⟩
  have s2:=hs1.trans (Same.upd (o:=.lst (refs (othf hd (z17 tick L)))) hp)
  have gp:upd H' p (.lst (refs (othf hd (z17 tick L)))) p=some (.lst (refs (othf hd (z17 tick L)))):=z8
  generalize upd H' p (.lst (refs (othf hd (z17 tick L))))=H2 at s2 gp⊢
  have hn2:NotesAt H2 (othf hd (z17 tick L)):=(hn.mono s2).sub fun q h=>(xi.mp (xi.mp h).1).1
  have l2:(othf hd (z17 tick L)).length<=63:=xp (xj _ _) l1
  have eW:z6k L hd lk sh tick=wayf lk sh (othf hd (z17 tick L)):=rfl
  generalize othf hd (z17 tick L)=O at gp hn2 l2 eW⊢
  refine z1d (xs:=refs O) (by rw[z19];exact zf (by omega)) (fun i acc H'=>acc=(wayf lk sh (O.take i)).map V.str/\Same H2 H') ⟨by simp[wayf],Same.refl _⟩ ?_ ?_ ?_ ?_
  .rintro i acc H' ⟨rfl,-⟩
   rw[x0]
   unfold wayf
   rw[x0]
   exact xp (xj _ _) (by rw[x04];omega)
  .rintro i acc H' ⟨-,s3⟩
   exact SqL.of (s3 _ _ gp)
  .rintro Nn i acc H' x hN hx hi ⟨rfl,s3⟩
   obtain⟨y,hy,rfl⟩:=z37 hx
   walk_at "rd"
   have st:=z1l (fun q:Addr×Nt=>onl lk q.2.l&& !(sh&&q.2.sh)) hy
   have ty:=hn2.tu _ (x9 hy)
   have sm:=hn2.sm _ (x9 hy)
   refine⟨_,_,_,_,rfl,rfl,SqT.of (s3 _ _ ty),zc (j:=2) rfl,?_⟩
   refine⟨_,_,_,_,rfl,rfl,SqT.of (s3 _ _ ty),zc (j:=3) rfl,?_⟩
   refine⟨_,_,_,_,rfl,hl,sm.2,fun H4 s4=>⟨_,rfl,?_⟩⟩
   cases hw:(onl lk y.2.l&& !(sh&&y.2.sh)) with
   |true=>
    rw[if_pos rfl]
    refine⟨_,_,_,_,rfl,rfl,SqT.of (s4 _ _ (s3 _ _ ty)),zc (j:=1) rfl,hN _ _ ⟨?_,s3.trans s4⟩⟩
    unfold wayf
    rw[st,hw]
    simp
   |false=>
    rw[if_neg xa]
    refine hN _ _ ⟨?_,s3.trans s4⟩
    unfold wayf
    rw[st,hw]
    simp
  rintro acc H' ⟨rfl,s3⟩ p2 hp2
  rw[z19,x02,<-eW]
  have l3:(z6k L hd lk sh tick).length<=63:=by
   rw[eW]
   unfold wayf
   rw[x0]
   exact xp (xj _ _) l2
  refine⟨p2,rfl,_,SqL.of z8,Nat.lt_of_le_of_lt (Nat.succ_le_succ l3) (by decide+kernel),fun d hd'=>⟨_,z8,z5i _ _ List.nodup_nil,Nat.lt_of_le_of_lt (zf5 _) (by omega),fun l' ks hl' hperm hsort=>?_⟩⟩
  have s5:=((s2.trans s3).trans (Same.upd (o:=.lst ((z6k L hd lk sh tick).map V.str)) hp2)).trans (Same.upd (o:=eso (strKind P w) d (gAll (z6k L hd lk sh tick))) hd')
  exact q l' ks _ (zu s5 hl') z8 hperm hsort (s5.trans (Same.upd hl'))
noncomputable def zdg(C:Addr):Sp:=fun vs H Q _=>∃(k:Addr)(u:Bool)(t:Int)(L:NL)(hd lk:Str)(sh:Bool)(tick:Int),vs=[.ref k,.str hd,.str lk,.bl sh,.int tick]/\KeeperAt C H k u t L/\L.length<=63/\lk.length<=1000/\z59 H Q (.bl (z2y L hd lk sh tick))
theorem z6z(F:MDef K y6 "says_free" "Keeper.says_free" z35 ["self","holder","lock","shared","tick"])(T:Txt K mg y0 yb ya y6 y9 y8 y7)(yj:MHas P w K mg base CX0 4 y6 "names_in_way" ["self","holder","lock","shared","tick"] (zdf y6)):MHas P w K mg base CX0 5 y6 "says_free" ["self","holder","lock","shared","tick"] (zdg y6):=by
 refine F.ok z6x (fun vs H Q E h=>?_) (fun f cdv A outer s H vs Q E hr h=>?_)
 .obtain⟨k,u,t,L,hd,lk,sh,tick,rfl,_⟩:=h
  rfl
 .obtain⟨k,u,t,L,hd,lk,sh,tick,rfl,hk,h63,hl,q⟩:=h
  have hu:=hr.units0
  refine⟨_,(@zd _ _ _ (@zn _ _ _ _ (@z1n _ _ _ _ _ _ _ _ (zcq hu) (@z27 _ _ _ _ _ _ _ _ _ _ _ _ _ _ yj T.cl_Keeper (hr.mono (by decide)) (pv 0) (@z6 _ _ _ _ _ (pv 1) (@z6 _ _ _ _ _ (pv 2) (@z6 _ _ _ _ _ (pv 3) (@z6 _ _ _ _ _ (pv 4) z9 rfl) rfl) rfl) rfl) rfl rfl rfl) (@z1c _ _ _ _ z9) (zm _)))),?_⟩
  walk_at "rd"
  obtain⟨⟨dx,l,h1,h2⟩,hn,hlen⟩:=id hk
  refine⟨_,_,h1,z3u u t l (by decide+kernel) (by decide+kernel) (by decide+kernel),k,u,t,L,hd,lk,sh,tick,rfl,hk,h63,hl,fun r ks H1 hr0 hr1 hp hs s1=>⟨x03 _,fun p hp0=>⟨r,rfl,_,SqL.of (Same.upd hp0 _ _ hr1),SqL.of z8,?_⟩⟩⟩
  have e:(ks.map V.str).isEmpty=z2y L hd lk sh tick:=by
   rw[<-zir,x18]
   simp only[List.isEmpty_iff,List.map_eq_nil_iff,x10]
   exact zlb hp
  rw[e]
  exact q _ (s1.trans (Same.upd hp0))
noncomputable def z48(hd lk:Str)(L:NL):NL:=L.filter fun q=>!(decide (q.2.h=hd)&&decide (q.2.l=lk))
noncomputable def zis(C CD CO CI:Addr):Sp:=fun vs H Q E=>∃(k:Addr)(u:Bool)(t:Int)(L:NL)(n:Int)(hd lk:Str)(sh:Bool)(tick time:Int),vs=[.ref k,.int n,.str hd,.str lk,.bl sh,.int tick,.int time]/\KeeperAt C H k u t L/\L.length<=62/\hd.length<=1000/\lk.length<=1000/\
 (u=false->E (.ref CD) none H)/\(u=true->n<=t->E (.ref CO) none H)/\(u=true->t<n->z2y L hd lk sh tick=false->∀H',Same H H'->E (.ref CI) none H')/\
 (u=true->t<n->z2y L hd lk sh tick=true->∀(p:Addr)(H':Hp),H p=none->KeeperAt C H' k u n (z48 hd lk L++[(p,⟨n,hd,lk,sh,tick+time⟩)])->(∃dx l,H' k=some (.ins C dx (kf u n l))/\H l=none)->But k H H'->Q .non H')
theorem zao(F:MDef K y6 "take" "Keeper.take" z4g ["self","number","holder","lock","shared","tick","time"])(T:Txt K mg y0 yb ya y6 y9 y8 y7)(yh:MHas P w K mg base CX0 5 y6 "says_free" ["self","holder","lock","shared","tick"] (zdg y6)):MHas P w K mg base (CX1 P w) 6 y6 "take" ["self","number","holder","lock","shared","tick","time"] (zis y6 yb y8 ya):=by
 refine F.okx sc_Keeper_take (fun vs H Q E h=>?_) (fun f cdv A outer s H vs Q E hr h=>?_)
 .obtain⟨k,u,t,L,n,hd,lk,sh,tick,time,rfl,_⟩:=h
  rfl
 .obtain⟨k,u,t,L,n,hd,lk,sh,tick,time,rfl,hk,h900,hh,hl,e1,e2,e3,q⟩:=h
  have hu:=hr.units0
  refine⟨_,(@za _ _ _ _ _ (@z11 _ _ _ _ _ _ _ _ (@z3l _ _ _ _ (@z1i _ _ _ (@z2f _ _ _ _ _ (pv 0) rfl) (by intro _;rfl))) (@zd _ _ _ (@z4v _ _ _ _ _ _ _ _ _ _ _ _ _ _ z4a rfl PySem.F.excBase_ValueError T.x_Down rfl T.g_Down (@z6 _ _ _ _ _ zl z9 rfl) rfl rfl (by decide))) zp) (@za _ _ _ _ _ (@z11 _ _ _ _ _ _ _ _ (@zo _ _ _ _ _ _ _ _ zft (pv 1) (@z2f _ _ _ _ _ (pv 0) rfl) (zm _)) (@zd _ _ _ (@z4v _ _ _ _ _ _ _ _ _ _ _ _ _ _ z4a rfl PySem.F.excBase_ValueError T.x_OldNumber rfl T.g_OldNumber (@z6 _ _ _ _ _ zl z9 rfl) rfl rfl (by decide))) zp) (@za _ _ _ _ _ (@z11 _ _ _ _ _ _ _ _ (@z3l _ _ _ _ (@z1i _ _ _ (@z27 _ _ _ _ _ _ _ _ _ _ _ _ _ _ yh T.cl_Keeper (hr.mono (by decide)) (pv 0) (@z6 _ _ _ _ _ (pv 2) (@z6 _ _ _ _ _ (pv 3) (@z6 _ _ _ _ _ (pv 4) (@z6 _ _ _ _ _ (pv 5) z9 rfl) rfl) rfl) rfl) rfl rfl rfl) (by intro _;rfl))) (@zd _ _ _ (@z4v _ _ _ _ _ _ _ _ _ _ _ _ _ _ z4a rfl PySem.F.excBase_ValueError T.x_InTheWay rfl T.g_InTheWay (@z6 _ _ _ _ _ zl z9 rfl) rfl rfl (by decide))) zp) (@za _ _ _ _ _ (@z66 _ _ "note" (["holder","lock"]) ([2,3]) _ _ _ _ _ _ _ _ 7 _ _ _ rfl ⟨rfl,by decide+kernel,by decide+kernel,rfl,zv rfl,by decide+kernel,⟨⟨rfl,Or.inl rfl,rfl⟩,⟨⟨rfl,Or.inl rfl,rfl⟩,trivial⟩⟩⟩ sc_Keeper_take.nd rfl (Or.inl rfl) (@z12 _ _ _ _ (@z2f _ _ _ _ _ (pv 0) rfl)) (fun _ _ _ _=>(@z28 _ _ _ (@zo _ _ _ _ _ _ _ _ (zjm (K:=K) hu) (@z1p _ _ _ _ _ (@z6 _ _ _ _ _ (@zi _ _ _ _ _ _ _ (z1e (K:=K)) (pv 0) z7 (fun _ _=>rfl)) (@z6 _ _ _ _ _ (@zi _ _ _ _ _ _ _ (z1e (K:=K)) (pv 0) z7 (fun _ _=>rfl)) z9 rfl) rfl)) (@z1p _ _ _ _ _ (@z6 _ _ _ _ _ (pv 1) (@z6 _ _ _ _ _ (pv 2) z9 rfl) rfl)) (zm _)))) (fun _ _ _ _=>(pv 0)) rfl (by intro _;rfl) (Or.inr rfl)) (@za _ _ _ _ _ (@z3d _ _ _ _ _ _ _ _ (pv 0) (@zg _ _ _ _ _ _ _ _ zhr (pv 7) (@z1c _ _ _ _ (@z6 _ _ _ _ _ (@z1p _ _ _ _ _ (@z6 _ _ _ _ _ (pv 1) (@z6 _ _ _ _ _ (pv 2) (@z6 _ _ _ _ _ (pv 3) (@z6 _ _ _ _ _ (pv 4) (@z6 _ _ _ _ _ (@zg _ _ _ _ _ _ _ _ z18 (pv 5) (pv 6)) z9 rfl) rfl) rfl) rfl) rfl)) z9 rfl))) rfl) (@zd _ _ _ (@z3d _ _ _ _ _ _ _ _ (pv 0) (pv 1) rfl))))))),?_⟩
  walk_at "rd"
  obtain⟨⟨dx,l,h1,h2⟩,hn,hlen⟩:=id hk
  refine⟨_,_,_,h1,T.cl_Keeper,T.n_Keeper_up,_,z87 u t l,u,rfl,?_⟩
  cases hup:u with
  |false=>exact⟨zf (by decide),e1 hup⟩
  |true=>
  rw[if_neg (by decide)]
  refine⟨_,_,_,h1,T.cl_Keeper,T.n_Keeper_top,_,zio u t l,t,rfl,?_⟩
  by_cases hnt:n<=t
  .rw[if_pos (xx hnt)]
   exact⟨zf (by decide),e2 hup hnt⟩
  rw[if_neg (by simpa using hnt)]
  refine⟨_,_,h1,z3u u t l (by decide+kernel) (by decide+kernel) (by decide+kernel),k,u,t,L,hd,lk,sh,tick,rfl,hk,by omega,hl,fun H1 s1=>⟨_,rfl,?_⟩⟩
  cases hf:z2y L hd lk sh tick with
  |false=>exact⟨zf (by decide),e3 hup (by omega) hf H1 s1⟩
  |true=>
  rw[if_neg (by decide)]
  have hn1:=hn.mono s1
  refine⟨_,_,_,s1 _ _ h1,T.cl_Keeper,T.n_Keeper_kept,_,z3b u t l,l,rfl,⟨_,SqL.of (s1 _ _ h2)⟩,?_⟩
  refine z1d (xs:=refs L) (by rw[z19];exact zf (by omega)) (fun i acc H'=>acc=refs (z48 hd lk (L.take i))/\Same H1 H') ⟨by simp[z48,refs],Same.refl _⟩ ?_ ?_ ?_ ?_
  .rintro i acc H' ⟨rfl,-⟩
   rw[z19]
   exact xp (xj _ _) (by rw[x04];omega)
  .rintro i acc H' ⟨-,s2⟩
   exact SqL.of (s2 _ _ (s1 _ _ h2))
  .rintro Nn i acc H' x hN hx hi ⟨rfl,s2⟩
   obtain⟨y,hy,rfl⟩:=z37 hx
   walk_at "rd"
   have ty:=hn1.tu _ (x9 hy)
   refine⟨_,_,_,_,rfl,rfl,SqT.of (s2 _ _ ty),zc (j:=1) rfl,?_⟩
   refine⟨_,_,_,_,rfl,rfl,SqT.of (s2 _ _ ty),zc (j:=2) rfl,?_⟩
   refine⟨zf (by decide),fun p hp=>⟨zf (by decide),fun r hr'=>?_⟩⟩
   have npr:p≠r:=ze z8 hr'
   refine⟨_,_,_,_,rfl,rfl,SqT.of (by rw[zb npr,z8]),SqT.of z8,rfl,rfl,?_⟩
   have st:=z1l (fun q:Addr×Nt=>!(decide (q.2.h=hd)&&decide (q.2.l=lk))) hy
   have s3:Same H1 (upd (upd H' p (.tup [V.str y.2.h,V.str y.2.l])) r (.tup [V.str hd,V.str lk])):=(s2.trans (Same.upd hp)).trans (Same.upd hr')
   have ev:eqVs [V.str y.2.h,V.str y.2.l] [V.str hd,V.str lk]=(decide (y.2.h=hd)&&decide (y.2.l=lk)):=by
    have:=z68 [y.2.h,y.2.l] [hd,lk]
    simp only[x0h,List.map_nil]at this
    rw[this]
    simp[Bool.decide_and]
   simp only[ev,if_true]
   cases hc:(decide (y.2.h=hd)&&decide (y.2.l=lk)) with
   |true=>
    refine⟨_,rfl,?_⟩
    rw[if_neg (by decide)]
    refine hN _ _ ⟨?_,s3⟩
    unfold z48
    rw[st,hc]
    simp
   |false=>
    refine⟨_,rfl,?_⟩
    rw[if_pos (by decide)]
    refine hN _ _ ⟨?_,s3⟩
    unfold z48
    rw[st,hc]
    simp[refs]
  .rintro acc H2 ⟨rfl,s2⟩ p hp
   rw[z19,x02]
   refine⟨zf (by decide),fun p1 hp1=>⟨zf (by decide),fun p2 hp2=>?_⟩⟩
   have n01:p≠p1:=ze z8 hp1
   have n12:p1≠p2:=ze z8 hp2
   have n02:p≠p2:=ze (by rw[zb n01];exact z8) hp2
   have kl:(z48 hd lk L).length<=L.length:=xj _ _
   refine⟨_,_,_,_,rfl,rfl,by rw[zb n02,zb n01,z8],z8,zf (by rw[z19];show _+1<=_;omega),fun p3 hp3=>?_⟩
   have n13:p1≠p3:=ze (by rw[zb n12];exact z8) hp3
   have s3:=(((s1.trans s2).trans (Same.upd (o:=.lst (refs (z48 hd lk L))) hp)).trans (Same.upd (o:=.tup [V.int n,V.str hd,V.str lk,V.bl sh,V.int (tick+time)]) hp1)).trans (Same.upd (o:=.lst [V.ref p1]) hp2)
   have s4:=s3.trans (Same.upd (o:=.lst (refs (z48 hd lk L)++[V.ref p1])) hp3)
   have nk3:k≠p3:=ze (s3 _ _ h1) hp3
   refine⟨_,_,_,s4 _ _ h1,T.cl_Keeper,T.n_Keeper_kept,by show(3:Nat)<1000;decide,_,_,_,z8,T.cl_Keeper,T.n_Keeper_top,by rw[z5o];show(3:Nat)<1000;decide,?_⟩
   rw[z5o,zgu]
   have hp1':H p1=none:=zu ((s1.trans s2).trans (Same.upd hp)) hp1
   have nk1:p1≠k:=fun z=>by rw[z,h1]at hp1';cases hp1'
   refine q hup (by omega) hf p1 _ hp1' ⟨⟨dx,p3,z8,?_⟩,⟨fun x hx=>?_,fun x hx=>?_⟩,?_⟩ ⟨dx,p3,z8,zu s3 hp3⟩ fun b o e nb=>?_
   .rw[zb nk3.symm,zb nk3.symm,z8]
    simp[refs]
   .rcases xz.mp hx with z|z
    .have tz:=hn.tu _ (xi.mp z).1
     have nz:x.1≠k:=fun e=>by rw[e,h1]at tz;cases tz
     rw[zb nz,zb nz]
     exact s4 _ _ tz
    .have:x=(p1,⟨n,hd,lk,sh,tick+time⟩):=by simpa using z
     subst this
     show upd _ k _ p1=_
     rw[zb nk1,zb nk1,zb n13,zb n12,z8]
     rfl
   .rcases xz.mp hx with z|z
    .exact hn.sm _ (xi.mp z).1
    .have:x=(p1,⟨n,hd,lk,sh,tick+time⟩):=by simpa using z
     subst this
     exact⟨hh,hl⟩
   .rw[x00]
    show _+1<=_
    omega
   .rw[zb nb,zb nb]
    exact s4 _ _ e
noncomputable def z9q(C:Addr)(b:Bool):Sp:=fun vs H Q _=>∃(k:Addr)(u:Bool)(t:Int)(L:NL),vs=[.ref k]/\KeeperAt C H k u t L/\∀(H':Hp),KeeperAt C H' k b t L->(∀dx l,H k=some (.ins C dx (kf u t l))->H' k=some (.ins C dx (kf b t l)))->But k H H'->Q .non H'
theorem zit{C:Addr}{H:Hp}{k:Addr}{u b:Bool}{t:Int}{L:NL}{dx l:Addr}(hk:KeeperAt C H k u t L)(h1:H k=some (.ins C dx (kf u t l)))(h2:H l=some (.lst (refs L))):KeeperAt C (upd H k (.ins C dx (kf b t l))) k b t L:=by
 have nl:l≠k:=fun z=>by rw[z,h1]at h2;cases h2
 refine⟨⟨dx,l,z8,by rw[zb nl];exact h2⟩,⟨fun x hx=>?_,hk.nt.sm⟩,hk.len⟩
 have tz:=hk.nt.tu _ hx
 have nz:x.1≠k:=fun e=>by rw[e,h1]at tz;cases tz
 rw[zb nz]
 exact tz
theorem zap(F:MDef K y6 "fall" "Keeper.fall" z4d ["self"])(T:Txt K mg y0 yb ya y6 y9 y8 y7):MHas P w K mg base CX0 1 y6 "fall" ["self"] (z9q y6 false):=by
 refine F.ok zai (fun vs H Q E h=>?_) (fun f cdv A outer s H vs Q E hr h=>?_)
 .obtain⟨k,u,t,L,rfl,_⟩:=h
  rfl
 .obtain⟨k,u,t,L,rfl,hk,q⟩:=h
  refine⟨_,(@zd _ _ _ (@z3d _ _ _ _ _ _ _ _ (pv 0) z2b rfl)),?_⟩
  walk_at "rd"
  obtain⟨⟨dx,l,h1,h2⟩,hn,hlen⟩:=id hk
  refine⟨_,_,_,h1,T.cl_Keeper,T.n_Keeper_up,by show(3:Nat)<1000;decide,?_⟩
  rw[zbm]
  exact q _ (zit hk h1 h2) (fun dx' l' e=>by rw[h1]at e;injection e with e;injection e with e1 e2 e3;rw[z8,e2];have:=x0u (List.lookup ("kept":Str)) e3;rw[z3b,z3b]at this;injection this with this;injection this with this;rw[this]) fun b o e nb=>by rw[zb nb];exact e
theorem zaq(F:MDef K y6 "rise" "Keeper.rise" z4e ["self"])(T:Txt K mg y0 yb ya y6 y9 y8 y7):MHas P w K mg base CX0 1 y6 "rise" ["self"] (z9q y6 true):=by
 refine F.ok zaj (fun vs H Q E h=>?_) (fun f cdv A outer s H vs Q E hr h=>?_)
 .obtain⟨k,u,t,L,rfl,_⟩:=h
  rfl
 .obtain⟨k,u,t,L,rfl,hk,q⟩:=h
  refine⟨_,(@zd _ _ _ (@z3d _ _ _ _ _ _ _ _ (pv 0) z2b rfl)),?_⟩
  walk_at "rd"
  obtain⟨⟨dx,l,h1,h2⟩,hn,hlen⟩:=id hk
  refine⟨_,_,_,h1,T.cl_Keeper,T.n_Keeper_up,by show(3:Nat)<1000;decide,?_⟩
  rw[zbm]
  exact q _ (zit hk h1 h2) (fun dx' l' e=>by rw[h1]at e;injection e with e;injection e with e1 e2 e3;rw[z8,e2];have:=x0u (List.lookup ("kept":Str)) e3;rw[z3b,z3b]at this;injection this with this;injection this with this;rw[this]) fun b o e nb=>by rw[zb nb];exact e
noncomputable def z1g(tick:Int)(N:List Nt):List Nt:=N.filter fun x=>decide (tick<x.e)
noncomputable def z6l(N:List Nt)(hd lk:Str)(sh:Bool)(tick:Int):Bool:=!((z1g tick N).any fun x=>z2x hd lk sh x)
noncomputable def z2u(hd lk:Str)(N:List Nt):List Nt:=N.filter fun x=>!(decide (x.h=hd)&&decide (x.l=lk))
theorem z5b(tick:Int)(L:NL):(z17 tick L).map (·.2)=z1g tick (L.map (·.2)):=by
 unfold z17 z1g
 rw[x19]
 rfl
theorem z9r(L:NL)(hd lk:Str)(sh:Bool)(tick:Int):z2y L hd lk sh tick=z6l (L.map (·.2)) hd lk sh tick:=by
 unfold z2y z6l
 rw[<-z5b,List.any_map]
 rfl
theorem ziu(hd lk:Str)(L:NL):(z48 hd lk L).map (·.2)=z2u hd lk (L.map (·.2)):=by
 unfold z48 z2u
 rw[x19]
 rfl
structure KN where
 u:Bool
 t:Int
 N:List Nt
theorem KeeperAt.but{C k k2 dx:Addr}{fs:List (Str×V)}{H H':Hp}{u:Bool}{t:Int}{L:NL}(h:KeeperAt C H k2 u t L)(b:But k H H')(hk:H k=some (.ins C dx fs))(ne:k2≠k):KeeperAt C H' k2 u t L:=by
 obtain⟨⟨dx2,l,h1,h2⟩,hn,hl⟩:=h
 have nl:l≠k:=fun z=>by rw[z,hk]at h2;cases h2
 refine⟨⟨dx2,l,b _ _ h1 ne,b _ _ h2 nl⟩,⟨fun q hq=>b _ _ (hn.tu q hq) fun z=>?_,hn.sm⟩,hl⟩
 have:=hn.tu q hq
 rw[z,hk]at this
 cases this
theorem n5:¬(("keepers":Str)="most"):=by decide+kernel
noncomputable def cf(l:Addr)(m:Int):List (Str×V):=[("keepers",.ref l),("most",.int m)]
theorem z6m(l:Addr)(m:Int):(cf l m).lookup ("keepers":Str)=some (.ref l):=by simp[cf,x1i]
theorem zf6(l:Addr)(m:Int):(cf l m).lookup ("most":Str)=some (.int m):=by
 have e:(("most":Str)=="keepers")=false:=by decide+kernel
 simp[cf,x1i,e]
theorem z2l(l:Addr)(m:Int){x:Str}(h1:(x=="keepers")=false)(h2:(x=="most")=false):(cf l m).lookup x=none:=by
 simp[cf,x1i,h1,h2]
theorem zmn(l:Addr)(m:Int):putF "most" (.int m) (putF "keepers" (.ref l) [])=cf l m:=by simp[putF,cf,n5]
noncomputable def KAt(C:Addr)(H:Hp)(k l:Addr)(s:KN):Prop:=(∃dx,H k=some (.ins C dx (kf s.u s.t l)))/\∃L:NL,L.map (·.2)=s.N/\KeeperAt C H k s.u s.t L
theorem KAt.mono{C:Addr}{H H':Hp}{k l:Addr}{s:KN}(h:KAt C H k l s)(e:Same H H'):KAt C H' k l s:=let⟨⟨dx,z⟩,L,a,b⟩:=h;⟨⟨dx,e _ _ z⟩,L,a,b.mono e⟩
theorem KAt.ob{C:Addr}{H:Hp}{k l:Addr}{s:KN}(h:KAt C H k l s):∃dx fs,H k=some (.ins C dx fs):=let⟨⟨dx,z⟩,_⟩:=h;⟨dx,_,z⟩
theorem zdh{u u':Bool}{t t':Int}{l l':Addr}(h:kf u t l=kf u' t' l'):l=l':=by
 have:=x0u (List.lookup ("kept":Str)) h
 rw[z3b,z3b]at this
 injection this with this
 injection this
theorem KAt.list{C:Addr}{H:Hp}{k l:Addr}{s:KN}(h:KAt C H k l s):∃xs,H l=some (.lst xs):=by
 obtain⟨⟨dx,z⟩,L,-,⟨dx',l',h1,h2⟩,-,-⟩:=h
 rw[z]at h1
 injection h1 with h1
 injection h1 with a b c
 rw[zdh c]
 exact⟨_,h2⟩
theorem KAt.upd{C:Addr}{H:Hp}{k l p:Addr}{s:KN}{xs:List V}{o:HO}(h:KAt C H k l s)(hp:H p=some (.lst xs))(hn:l≠p):KAt C (upd H p o) k l s:=by
 obtain⟨⟨dx,z⟩,L,e,⟨dx',l',h1,h2⟩,hn',hl⟩:=h
 have el:l'=l:=by
  rw[z]at h1
  injection h1 with h1
  injection h1 with a b c
  exact(zdh c).symm
 have nk:k≠p:=fun q=>by rw[q,hp]at z;cases z
 refine⟨⟨dx,by rw[zb nk];exact z⟩,L,e,⟨dx',l',by rw[zb nk];exact h1,by rw[zb (by rw[el];exact hn)];exact h2⟩,⟨fun q hq=>?_,hn'.sm⟩,hl⟩
 have nq:q.1≠p:=fun y=>by have:=hn'.tu q hq;rw[y,hp]at this;cases this
 rw[zb nq]
 exact hn'.tu q hq
structure CAt(CC CK:Addr)(H:Hp)(c l:Addr)(ks ls:List Addr)(ss:List KN):Prop where
 ob:∃dx,H c=some (.ins CC dx (cf l ((ks.length:Int)/2+1)))
 li:H l=some (.lst (ks.map V.ref))
 kp:∀(i:Nat)(k:Addr),ks[i]? =some k->∃s l',ss[i]? =some s/\ls[i]? =some l'/\KAt CK H k l' s
 nd:ks.Nodup
 ln:ss.length=ks.length
 l2:ls.length=ks.length
 sz:ks.length<=100
theorem CAt.mono{CC CK:Addr}{H H':Hp}{c l:Addr}{ks ls:List Addr}{ss:List KN}(h:CAt CC CK H c l ks ls ss)(s:Same H H'):CAt CC CK H' c l ks ls ss:=by
 obtain⟨⟨dx,h1⟩,h2,h3,h4,h5,h6,h7⟩:=h
 exact⟨⟨dx,s _ _ h1⟩,s _ _ h2,fun i k e=>(let⟨u,l',e1,e2,e3⟩:=h3 i k e;⟨u,l',e1,e2,e3.mono s⟩),h4,h5,h6,h7⟩
theorem CAt.upd{CC CK:Addr}{H:Hp}{c l p:Addr}{ks ls:List Addr}{ss:List KN}{xs:List V}{o:HO}(h:CAt CC CK H c l ks ls ss)(hp:H p=some (.lst xs))(n1:l≠p)(n2:p∉ls):CAt CC CK (upd H p o) c l ks ls ss:=by
 obtain⟨⟨dx,h1⟩,h2,h3,h4,h5,h6,h7⟩:=h
 refine⟨⟨dx,by rw[zb (fun q=>by rw[q,hp]at h1;cases h1)];exact h1⟩,by rw[zb n1];exact h2,fun i k e=>?_,h4,h5,h6,h7⟩
 obtain⟨u,l',e1,e2,e3⟩:=h3 i k e
 exact⟨u,l',e1,e2,e3.upd hp fun q=>n2 (q▸x9 e2)⟩
noncomputable def LsOk(H:Hp)(ls ls':List Addr):Prop:=∀x∈ls',x∈ls\/H x=none
theorem LsOk.refl(H:Hp)(ls:List Addr):LsOk H ls ls:=fun x hx=>.inl hx
noncomputable def ButK(ks:List Addr)(H H':Hp):Prop:=∀b o,H b=some o->b∉ks->H' b=some o
theorem ButK.of{ks:List Addr}{H H':Hp}(s:Same H H'):ButK ks H H':=fun b o e _=>s b o e
theorem ButK.trans{ks:List Addr}{H H1 H2:Hp}(a:ButK ks H H1)(b:ButK ks H1 H2):ButK ks H H2:=fun c o e n=>b c o (a c o e n) n
theorem ButK.but{ks:List Addr}{H H':Hp}{k:Addr}(b:But k H H')(h:k∈ks):ButK ks H H':=fun c o e n=>b c o e fun z=>n (z▸h)
theorem CAt.mem{CC CK:Addr}{H:Hp}{c l:Addr}{ks ls:List Addr}{ss:List KN}(h:CAt CC CK H c l ks ls ss){k:Addr}(hk:k∈ks):∃dx fs,H k=some (.ins CK dx fs):=by
 obtain⟨j,hj,e⟩:=x12 hk
 obtain⟨s,l',-,-,hs⟩:=h.kp j k (by rw[x6 hj,e])
 exact hs.ob
theorem CAt.lsome{CC CK:Addr}{H:Hp}{c l:Addr}{ks ls:List Addr}{ss:List KN}(h:CAt CC CK H c l ks ls ss){x:Addr}(hx:x∈ls):∃xs,H x=some (.lst xs):=by
 obtain⟨j,hj,e⟩:=x12 hx
 obtain⟨s,l',-,e2,hs⟩:=h.kp j _ (x6 (by rw[<-h.l2];exact hj))
 rw[x6 hj]at e2
 injection e2 with e2
 rw[<-e,e2]
 exact hs.list
theorem z6n{α:Type}{xs:List α}{i:Nat}{x:α}(h:xs[i]? =some x):xs.set i x=xs:=by
 apply x0n
 intro j
 by_cases hj:j=i
 .subst hj
  rw[x0x (xg.mp h).1,h]
 .rw[x0y (Ne.symm hj)]
theorem CAt.set{CC CK:Addr}{H H':Hp}{c l k l1:Addr}{ks ls:List Addr}{ss:List KN}{j:Nat}{s:KN}(h:CAt CC CK H c l ks ls ss)(hj:ks[j]? =some k)(hk:KAt CK H' k l1 s)(hb:But k H H'):CAt CC CK H' c l ks (ls.set j l1) (ss.set j s):=by
 obtain⟨s0,l0,hu,hl0,hku⟩:=h.kp j k hj
 obtain⟨dxk,fk,h1⟩:=hku.ob
 obtain⟨dx,hob⟩:=h.ob
 have hjl:j<ks.length:=(xg.mp hj).1
 refine⟨⟨dx,hb _ _ hob fun z=>?_⟩,hb _ _ h.li fun z=>?_,fun i k2 e=>?_,h.nd,by rw[List.length_set];exact h.ln,by rw[List.length_set];exact h.l2,h.sz⟩
 .rw[z,h1]at hob
  injection hob with hob
  injection hob with a1 a2 a3
  subst a1
  obtain⟨⟨dy,g1⟩,-⟩:=hku
  rw[h1]at g1
  injection g1 with g1
  injection g1 with b1 b2 b3
  rw[b3]at a3
  have:=x0u (List.lookup ("up":Str)) a3
  rw[z87,z2l _ _ (by decide+kernel) (by decide+kernel)]at this
  cases this
 .have:=h.li
  rw[z,h1]at this
  cases this
 .by_cases hij:i=j
  .subst hij
   rw[hj]at e
   cases e
   exact⟨s,l1,by rw[x0x (by rw[h.ln];exact hjl)],by rw[x0x (by rw[h.l2];exact hjl)],hk⟩
  .obtain⟨u2,l2',e2,e2',⟨dx2,z2⟩,L2,e3,hk2⟩:=h.kp i k2 e
   have nk2:k2≠k:=fun z=>hij ?_
   .exact⟨u2,l2',by rw[x0y (Ne.symm hij)];exact e2,by rw[x0y (Ne.symm hij)];exact e2',⟨dx2,hb _ _ z2 nk2⟩,L2,e3,hk2.but hb h1 nk2⟩
   have hil:i<ks.length:=(xg.mp e).1
   have ei:ks[i]=k:=by rw[<-z];exact(xg.mp e).2
   have ej:ks[j]=k:=(xg.mp hj).2
   rcases Nat.lt_trichotomy i j with y|y|y
   .exact absurd (ei.trans ej.symm) (List.pairwise_iff_getElem.mp h.nd i j hil hjl y)
   .exact y
   .exact absurd (ej.trans ei.symm) (List.pairwise_iff_getElem.mp h.nd j i hjl hil y)
noncomputable def z2z(n:Nat):List KN:=List.replicate n ⟨true,0,[]⟩
noncomputable def zf7(CC CK:Addr):Sp:=fun vs H Q _=>∃(c dx:Addr)(n:Nat),vs=[.ref c,.int n]/\n<=100/\H c=some (.ins CC dx [])/\∀(l:Addr)(ks ls:List Addr)(H':Hp),ks.length=n->CAt CC CK H' c l ks ls (z2z n)->(∀b o,H b=some o->b≠c->H' b=some o)->(∀k∈ks,H k=none)->(∀x∈ls,H x=none)->H l=none->Q .non H'
theorem z70(F:KDef K y0 "Council.__init__" z36 ["self","many"])(T:Txt K mg y0 yb ya y6 y9 y8 y7)(yq:KHas P w K mg base 1 y6 ["self"] (ziq y6)):KHas P w K mg base 3 y0 ["self","many"] (zf7 y0 y6):=by
 refine F.ok z6y (fun vs H Q E h=>?_) (fun f cdv A outer s H vs Q E hr h=>?_)
 .obtain⟨c,dx,n,rfl,_⟩:=h
  rfl
 .obtain⟨c,dx,n,rfl,hn,hc,q⟩:=h
  refine⟨_,(@za _ _ _ _ _ (@z3d _ _ _ _ _ _ _ _ (pv 0) (@z1z _ _ "place" ([]) ([]) _ _ _ _ _ _ _ _ rfl ⟨rfl,by decide+kernel,by decide+kernel,rfl,zv rfl,by decide+kernel,trivial⟩ (@z2r _ _ _ _ _ _ rfl T.b_range (@z6 _ _ _ _ _ (pv 1) z9 rfl) rfl) (fun _ _ _ _=>z39) (fun _ _ _ _=>(@zl4 _ _ _ _ _ _ _ _ yq (hr.mono (by decide)) rfl T.g_Keeper (by decide))) (by intro _;rfl)) rfl) (@zd _ _ _ (@z3d _ _ _ _ _ _ _ _ (pv 0) (@zg _ _ _ _ _ _ _ _ z18 (@zg _ _ _ _ _ _ _ _ z1a (@zj _ _ _ _ _ _ _ _ _ zq rfl T.b_len (by decide+kernel) (@z6 _ _ _ _ _ (@z2f _ _ _ _ _ (pv 0) rfl) z9 rfl) (by decide) (by decide) rfl rfl) z7) z7) rfl))),?_⟩
  walk_at "rd"
  refine⟨⟨by omega,by omega⟩,?_⟩
  rw[x11]
  refine z34 (zf (by omega)) (fun i acc H'=>∃ks:List Addr,acc=ks.map V.ref/\ks.length=i/\ks.Nodup/\(∀k∈ks,H k=none/\∃l1,H l1=none/\KAt y6 H' k l1 ⟨true,0,[]⟩)/\Same H H') ⟨[],rfl,rfl,List.nodup_nil,fun k hk=>(by cases hk),Same.refl _⟩ ?_ ?_ ?_
  .rintro i acc H' ⟨ks,rfl,rfl,-⟩
   rw[x0]
   exact xk _
  .rintro Nn i acc H' hN hi ⟨ks,rfl,hl,hnd,hks,sH⟩
   walk_at "rd"
   intro x d hx hd hne
   refine⟨x,d,rfl,z8,fun H3 hk3 hz3 hb3=>⟨rfl,hN _ _ ⟨ks++[x],by simp,by simp[hl],?_,?_,?_⟩⟩⟩
   .rw[List.nodup_append]
    refine⟨hnd,by simp,fun a ha b hb=>?_⟩
    have:b=x:=by simpa using hb
    rw[this]
    rintro rfl
    obtain⟨-,l1,-,⟨_,e⟩,-⟩:=hks a ha
    rw[e]at hx
    cases hx
   .have s3:Same H' H3:=fun b o e=>by
     have n1:b≠x:=ze e hx
     have n2:b≠d:=ze e hd
     exact hb3 b o (by rw[zb n1,zb n2];exact e) n1
    intro k hk
    rcases xz.mp hk with z|z
    .obtain⟨a1,l1,a2,a3⟩:=hks k z
     exact⟨a1,l1,a2,a3.mono s3⟩
    .have:k=x:=by simpa using z
     subst this
     obtain⟨dx3,l3,z3,n3⟩:=hz3
     have n3':H' l3=none:=by
      cases e:H' l3 with
      |none=>rfl
      |some o=>
       have na:l3≠k:=ze e hx
       have nb:l3≠d:=ze e hd
       rw[zb na,zb nb,e]at n3
       cases n3
     exact⟨zu sH hx,l3,zu sH n3',⟨dx3,z3⟩,[],rfl,hk3⟩
   .intro b o e
    have e1:=sH _ _ e
    have n1:b≠x:=ze e1 hx
    have n2:b≠d:=ze e1 hd
    exact hb3 b o (by rw[zb n1,zb n2];exact e1) n1
  .rintro acc H' ⟨ks,rfl,hl,hnd,hks,sH⟩ p hp
   have s2:=sH.trans (Same.upd (o:=.lst (ks.map V.ref)) hp)
   have gp:(upd H' p (.lst (ks.map V.ref))) p=some (.lst (ks.map V.ref)):=z8
   have hks2:∀k∈ks,H k=none/\∃l1,H l1=none/\KAt y6 (upd H' p (.lst (ks.map V.ref))) k l1 ⟨true,0,[]⟩:=fun k hk=>let⟨a1,l1,a2,a3⟩:=hks k hk;⟨a1,l1,a2,a3.mono (Same.upd hp)⟩
   have hp0:H p=none:=zu sH hp
   generalize upd H' p (.lst (ks.map V.ref))=H2 at s2 gp hks2⊢
   have nkc:∀k∈ks,k≠c:=fun k hk z=>by have:=(hks2 k hk).1;rw[z,hc]at this;cases this
   have gc2:=s2 _ _ hc
   have ncp:c≠p:=fun z=>by rw[z,gp]at gc2;cases gc2
   refine⟨_,_,_,gc2,T.cl_Council,T.n_Council_keepers,by decide,?_⟩
   have kk:(putF (Str.ofString "keepers") (V.ref p) []).lookup (Str.ofString "keepers")=some (V.ref p):=by simp[putF,x1i]
   have gp1:(upd H2 c (HO.ins y0 dx (putF (Str.ofString "keepers") (V.ref p) []))) p=some (.lst (ks.map V.ref)):=by rw[zb ncp.symm];exact gp
   refine⟨_,_,_,z8,T.cl_Council,T.n_Council_keepers,_,kk,p,rfl,_,.inl (SqL.of gp1),cdiv (by decide) (by decide),_,_,_,z8,T.cl_Council,T.n_Council_most,by simp[putF],?_⟩
   rw[zmn,x0]
   have but2:∀ b o,H2 b=some o->b≠c->(upd (upd H2 c (HO.ins y0 dx (putF (Str.ofString "keepers") (V.ref p) []))) c (HO.ins y0 dx (cf p ((ks.length:Int)/2+1)))) b=some o:=fun b o e nb=>by
    rw[zb nb,zb nb]
    exact e
   obtain⟨lf,hlf⟩:∃lf:Addr->Addr,∀k∈ks,H (lf k)=none/\KAt y6 H2 k (lf k) ⟨true,0,[]⟩:=by
    refine⟨fun k=>if h:k∈ks then Classical.choose (hks2 k h).2 else k,fun k hk=>?_⟩
    simp only[hk,dite_true]
    exact Classical.choose_spec (hks2 k hk).2
   refine q p ks (ks.map lf) _ hl ⟨⟨dx,z8⟩,but2 _ _ gp ncp.symm,fun i k e=>⟨⟨true,0,[]⟩,lf k,?_,by rw[xc,e];rfl,?_⟩,hnd,by unfold z2z;rw[List.length_replicate,hl],x0 _,by omega⟩ (fun b o e nb=>but2 b o (s2 _ _ e) nb) (fun k hk=>(hks2 k hk).1) (fun x hx=>?_) hp0
   .have:=(xg.mp e).1
    unfold z2z
    rw[List.getElem?_replicate,if_pos (by omega)]
   .obtain⟨⟨dz,z⟩,L,eL,⟨dk,lk,a1,a2⟩,a3,a4⟩:=(hlf k (x9 e)).2
    have nk:=nkc k (x9 e)
    have eL0:L=[]:=List.map_eq_nil_iff.mp eL
    subst eL0
    exact⟨⟨dz,but2 _ _ z nk⟩,[],rfl,⟨dk,lk,but2 _ _ a1 nk,but2 _ _ a2 fun z=>by rw[z,gc2]at a2;cases a2⟩,⟨fun y hy=>(by cases hy),fun y hy=>(by cases hy)⟩,a4⟩
   .obtain⟨k,hk,rfl⟩:=xw.mp hx
    exact(hlf k hk).1
noncomputable def z9s(CC CK CU:Addr):Sp:=fun vs H Q E=>∃(c l:Addr)(ks ls:List Addr)(ss:List KN)(p:Int),vs=[.ref c,.int p]/\CAt CC CK H c l ks ls ss/\(¬(1<=p/\p<=(ks.length:Int))->E (.ref CU) none H)/\(∀(j:Nat)(k:Addr),p=(j:Int)+1->ks[j]? =some k->Q (.ref k) H)
theorem z6o(F:MDef K y0 "keeper_at" "Council.keeper_at" z32 ["self","place"])(T:Txt K mg y0 yb ya y6 y9 y8 y7):MHas P w K mg base (CX1 P w) 1 y0 "keeper_at" ["self","place"] (z9s y0 y6 y7):=by
 refine F.okx z6j (fun vs H Q E h=>?_) (fun f cdv A outer s H vs Q E hr h=>?_)
 .obtain⟨c,l,ks,ls,us,p,rfl,_⟩:=h
  rfl
 .obtain⟨c,l,ks,ls,us,p,rfl,hc,e1,q⟩:=h
  refine⟨_,(@za _ _ _ _ _ (@z11 _ _ _ _ _ _ _ _ (@z3l _ _ _ _ (@zje _ _ _ _ _ _ _ _ _ _ _ _ zft zft z7 (pv 1) (@zj _ _ _ _ _ _ _ _ _ zq rfl T.b_len (by decide+kernel) (@z6 _ _ _ _ _ (@z2f _ _ _ _ _ (pv 0) rfl) z9 rfl) (by decide) (by decide) rfl rfl) (by with_unfolding_all rfl))) (@zd _ _ _ (@z4v _ _ _ _ _ _ _ _ _ _ _ _ _ _ z4a rfl PySem.F.excBase_ValueError T.x_UnknownKeeper rfl T.g_UnknownKeeper (@z6 _ _ _ _ _ zl z9 rfl) rfl rfl (by decide))) zp) (@zd _ _ _ (@zn _ _ _ _ (@zi _ _ _ _ _ _ _ ix_list (@z2f _ _ _ _ _ (pv 0) rfl) (@zg _ _ _ _ _ _ _ _ z2n (pv 1) z7) (fun _ _=>rfl))))),?_⟩
  walk_at "rd"
  obtain⟨dx,hob⟩:=hc.ob
  by_cases h1:1<=p
  .rw[if_pos (by simpa using h1)]
   refine⟨_,_,_,hob,T.cl_Council,T.n_Council_keepers,_,z6m _ _,l,rfl,_,.inl (SqL.of hc.li),?_⟩
   rw[x0]
   by_cases h2:p<=(ks.length:Int)
   .rw[if_neg (by simpa using h2)]
    obtain⟨j,ej⟩:=x0v (show 0<=p-1 by omega)
    have hj:j<ks.length:=by omega
    refine⟨_,_,_,hob,T.cl_Council,T.n_Council_keepers,_,z6m _ _,l,_,_,_,rfl,rfl,SqL.of hc.li,by rw[ej];exact zc (v:=V.ref ks[j]) (by rw[xc,x6 hj];rfl),q j _ (by omega) (x6 hj)⟩
   .rw[if_pos (by simpa using h2)]
    exact⟨zf (by decide),e1 fun z=>h2 z.2⟩
  .rw[if_neg (by simpa using h1),if_pos (by decide)]
   exact⟨zf (by decide),e1 fun z=>h1 z.1⟩
noncomputable def ptup(L:List (Addr×Nat×Addr)):List V:=L.map fun q=>V.ref q.1
theorem z45(L:List (Addr×Nat×Addr)):(ptup L).length=L.length:=x0 _
theorem z6p{L:List (Addr×Nat×Addr)}{i:Nat}{x:V}(hx:(ptup L)[i]? =some x):∃y,L[i]? =some y/\x=V.ref y.1:=by
 unfold ptup at hx
 rw[xc]at hx
 cases e:L[i]? with
 |none=>rw[e]at hx;cases hx
 |some y=>rw[e]at hx;exact⟨y,rfl,(xq hx).symm⟩
noncomputable def upAt(ss:List KN)(j:Nat):Bool:=match ss[j]? with|some s=>s.u|none=>false
noncomputable def upl(ss:List KN)(n:Nat):List Nat:=(List.range n).filter (upAt ss)
theorem z46(ss:List KN)(n:Nat):(upl ss n).length<=n:=xp (xj _ _) (by rw[List.length_range];exact xk _)
theorem z29{ss:List KN}{n j:Nat}(h:j∈upl ss n):j<n/\upAt ss j=true:=⟨x0s.mp (xi.mp h).1,(xi.mp h).2⟩
theorem z5c(ss:List KN)(n:Nat):(upl ss n).Nodup:=List.Nodup.sublist x0k List.nodup_range
structure Pairs(H:Hp)(ks:List Addr)(ss:List KN)(L:List (Addr×Nat×Addr)):Prop where
 mp:L.map (·.2.1)=upl ss ks.length
 tu:∀q∈L,H q.1=some (.tup [.int ((q.2.1:Int)+1),.ref q.2.2])
 at_:∀q∈L,ks[q.2.1]? =some q.2.2
theorem Pairs.mono{H H':Hp}{ks:List Addr}{ss:List KN}{L:List (Addr×Nat×Addr)}(h:Pairs H ks ss L)(s:Same H H'):Pairs H' ks ss L:=⟨h.mp,fun q hq=>s _ _ (h.tu q hq),h.at_⟩
theorem Pairs.len{H:Hp}{ks:List Addr}{ss:List KN}{L:List (Addr×Nat×Addr)}(h:Pairs H ks ss L):L.length<=ks.length:=by
 have:=x0u List.length h.mp
 rw[x0]at this
 rw[this]
 exact z46 _ _
theorem Pairs.take{H:Hp}{ks:List Addr}{ss:List KN}{L:List (Addr×Nat×Addr)}(h:Pairs H ks ss L)(i:Nat):(L.take i).map (·.2.1)=(upl ss ks.length).take i:=by rw[List.map_take,h.mp]
noncomputable def z9t(CC CK:Addr):Sp:=fun vs H Q _=>∃(c l:Addr)(ks ls:List Addr)(ss:List KN),vs=[.ref c]/\CAt CC CK H c l ks ls ss/\∀(r:Addr)(L:List (Addr×Nat×Addr))(H':Hp),Pairs H' ks ss L->H r=none->H' r=some (.lst (ptup L))->Same H H'->Q (.ref r) H'
theorem z60(F:MDef K y0 "up_keepers" "Council.up_keepers" z2t ["self"])(T:Txt K mg y0 yb ya y6 y9 y8 y7):MHas P w K mg base CX0 1 y0 "up_keepers" ["self"] (z9t y0 y6):=by
 refine F.ok z5z (fun vs H Q E h=>?_) (fun f cdv A outer s H vs Q E hr h=>?_)
 .obtain⟨c,l,ks,ls,us,rfl,_⟩:=h
  rfl
 .obtain⟨c,l,ks,ls,us,rfl,hc,q⟩:=h
  refine⟨_,(@zd _ _ _ (@zn _ _ _ _ (@z8r _ _ "place" "keeper" ([]) ([]) _ _ _ _ _ _ _ _ _ rfl ⟨rfl,by decide+kernel,by decide+kernel,rfl,rfl,zv rfl,by decide+kernel,trivial⟩ (fun _ _ _ _=>z7b (K:=K) rfl (z22 (z15 (i:=0) (show List.Nodup [("place":Str),("keeper":Str)]from by decide+kernel) rfl (Or.inl rfl)) (z22 (z15 (i:=1) (show List.Nodup [("place":Str),("keeper":Str)]from by decide+kernel) rfl (Or.inl rfl)) z4q))) (@zjo _ _ _ _ _ _ _ _ _ _ _ rfl T.b_enumerate (@z6 _ _ _ _ _ (@z2f _ _ _ _ _ (pv 0) rfl) z9 rfl) (@zkx _ _ _ _ _ _ _ z7 zlq) rfl rfl) (fun _ _ _ _=>(@z28 _ _ _ (@z1i _ _ _ (@z8p _ K _ _ _ _ (pv 1) rfl rfl) (by intro _;rfl)))) (fun _ _ _ _=>(@z1p _ _ _ _ _ (@z6 _ _ _ _ _ (pv 0) (@z6 _ _ _ _ _ (pv 1) z9 rfl) rfl))) (by intro _;rfl)))),?_⟩
  walk_at "rd"
  obtain⟨dx,hob⟩:=hc.ob
  have hsz:=hc.sz
  refine⟨_,_,_,hob,T.cl_Council,T.n_Council_keepers,_,z6m _ _,l,rfl,_,SqL.of hc.li,?_⟩
  refine zcr (xs:=ks.map V.ref) (by rw[x0];exact zf (by omega)) (fun i acc H'=>∃L:List (Addr×Nat×Addr),acc=ptup L/\L.map (·.2.1)=upl us i/\(∀q∈L,H' q.1=some (.tup [.int ((q.2.1:Int)+1),.ref q.2.2])/\ks[q.2.1]? =some q.2.2)/\L.length<=i/\Same H H') ⟨[],rfl,rfl,fun q hq=>(by cases hq),xk _,Same.refl _⟩ ?_ ?_ ?_ ?_
  .rintro i acc H' ⟨L,rfl,-,-,hl,-⟩
   unfold ptup
   rw[x0]
   exact hl
  .rintro i acc H' ⟨L,rfl,-,-,-,sH⟩
   exact SqL.of (sH _ _ hc.li)
  .rintro Nn i acc H' x Ta hN hx hi ⟨L,rfl,hm,hT,hl,sH⟩ hTa
   obtain⟨k,hk,rfl⟩:∃k,ks[i]? =some k/\x=V.ref k:=by
    rw[xc]at hx
    cases e:ks[i]? with
    |none=>rw[e]at hx;cases hx
    |some k=>rw[e]at hx;exact⟨k,rfl,(xq hx).symm⟩
   obtain⟨s,l1,hu,hl1,-,Ls,-,hku⟩:=hc.kp i k hk
   have sT:=Same.upd (o:=.tup [V.int ((i:Int)+1),V.ref k]) hTa
   obtain⟨⟨dk,lk,a1,a2⟩,-,-⟩:=id (hku.mono (sH.trans sT))
   have eu:upAt us i=s.u:=by unfold upAt;rw[hu]
   have step:upl us (i+1)=upl us i++(if s.u=true then[i] else[]):=by
    unfold upl
    rw[List.range_succ,x1f]
    congr 1
    rw[List.filter_cons,eu]
    cases s.u<;>rfl
   have hT2:∀q∈L,(upd H' Ta (.tup [V.int ((i:Int)+1),V.ref k])) q.1=some (.tup [.int ((q.2.1:Int)+1),.ref q.2.2])/\ks[q.2.1]? =some q.2.2:=fun q hq=>⟨sT _ _ (hT q hq).1,(hT q hq).2⟩
   refine⟨Ta,_,rfl,SqT.of z8,rfl,?_⟩
   walk_at "rd"
   refine⟨_,_,⟨rfl,rfl⟩,_,_,rfl,rfl,⟨_,rfl⟩,k,rfl,_,_,_,a1,T.cl_Keeper,T.n_Keeper_up,_,z87 s.u s.t lk,s.u,rfl,?_⟩
   cases hsu:s.u with
   |false=>
    rw[hsu]at step
    rw[if_neg xa]
    exact hN _ _ ⟨L,rfl,by rw[step,hm];simp,hT2,by omega,sH.trans sT⟩
   |true=>
    rw[hsu]at step
    rw[if_pos rfl]
    refine⟨zf (by decide),fun pt hpt=>hN _ _ ⟨L++[(pt,i,k)],by simp[ptup],by rw[step,x0b,hm];rfl,fun y hy=>?_,by rw[x00];show L.length+1<=_;omega,(sH.trans sT).trans (Same.upd hpt)⟩⟩
    rcases xz.mp hy with z|z
    .exact⟨(Same.upd hpt) _ _ (hT2 y z).1,(hT2 y z).2⟩
    .have:y=(pt,i,k):=by simpa using z
     subst this
     exact⟨z8,hk⟩
  .rintro acc H' ⟨L,rfl,hm,hT,hl,sH⟩ p hp
   rw[x0]at hm
   exact q p L _ ⟨hm,fun y hy=>(Same.upd hp) _ _ (hT y hy).1,fun y hy=>(hT y hy).2⟩ (zu sH hp) z8 (sH.trans (Same.upd hp))
noncomputable def spFR(CC CK CU:Addr)(b:Bool):Sp:=fun vs H Q E=>∃(c l:Addr)(ks ls:List Addr)(ss:List KN)(p:Int),vs=[.ref c,.int p]/\CAt CC CK H c l ks ls ss/\(¬(1<=p/\p<=(ks.length:Int))->E (.ref CU) none H)/\
 (∀(j:Nat)(k:Addr)(s:KN)(H':Hp),p=(j:Int)+1->ks[j]? =some k->ss[j]? =some s->CAt CC CK H' c l ks ls (ss.set j ⟨b,s.t,s.N⟩)->But k H H'->Q (.bl (if b then !s.u else s.u)) H')
theorem z9u(F:MDef K y0 "fall" "Council.fall" z40 ["self","keeper"])(T:Txt K mg y0 yb ya y6 y9 y8 y7)(y13:MHas P w K mg base CX0 1 y6 "fall" ["self"] (z9q y6 false))(yd:MHas P w K mg base (CX1 P w) 1 y0 "keeper_at" ["self","place"] (z9s y0 y6 y7)):MHas P w K mg base (CX1 P w) 2 y0 "fall" ["self","keeper"] (spFR y0 y6 y7 false):=by
 refine F.okx sc_Council_fall (fun vs H Q E h=>?_) (fun f cdv A outer s H vs Q E hr h=>?_)
 .obtain⟨c,l,ks,ls,us,p,rfl,_⟩:=h
  rfl
 .obtain⟨c,l,ks,ls,us,p,rfl,hc,e1,q⟩:=h
  refine⟨_,(@za _ _ _ _ _ (@zk _ _ 2 _ _ _ _ sc_Council_fall.nd rfl (Or.inl rfl) (@zad _ _ _ _ _ _ _ _ _ _ _ _ _ _ _ z76 yd T.cl_Council (hr.mono (by decide)) (pv 0) (@z6 _ _ _ _ _ (pv 1) z9 rfl) rfl rfl rfl) rfl (Or.inr rfl)) (@za _ _ _ _ _ (@zk _ _ 3 _ _ _ _ sc_Council_fall.nd rfl (Or.inl rfl) (@z2f _ _ _ _ _ (pv 2) rfl) rfl (Or.inr rfl)) (@za _ _ _ _ _ (@z1h _ _ _ _ (@z4r _ _ _ _ _ _ _ _ _ _ _ y13 T.cl_Keeper (hr.mono (by decide)) (pv 2) rfl) rfl) (@zd _ _ _ (@zn _ _ _ _ (pv 3)))))),?_⟩
  walk_at "rd"
  obtain⟨dx,hob⟩:=hc.ob
  refine⟨_,_,hob,z2l _ _ (by decide+kernel) (by decide+kernel),c,l,ks,ls,us,p,rfl,hc,e1,fun j k ej hj=>?_⟩
  obtain⟨s,l1,hu,hl1,⟨dk1,z1⟩,Ls,eL,hk⟩:=hc.kp j k hj
  obtain⟨⟨dk,lk,a1,a2⟩,-,-⟩:=id hk
  refine⟨k,rfl,_,_,_,a1,T.cl_Keeper,T.n_Keeper_up,_,z87 s.u s.t lk,k,rfl,_,_,a1,z3u s.u s.t lk (by decide+kernel) (by decide+kernel) (by decide+kernel),k,s.u,s.t,Ls,rfl,hk,fun H1 hk1 hz1 hb1=>?_⟩
  have hset:=hc.set hj (s:=⟨false,s.t,s.N⟩) ⟨⟨dk1,hz1 _ _ z1⟩,Ls,eL,hk1⟩ hb1
  rw[z6n hl1]at hset
  have:=q j k s H1 ej hj hu hset hb1
  simpa using this
theorem z9v(F:MDef K y0 "rise" "Council.rise" z41 ["self","keeper"])(T:Txt K mg y0 yb ya y6 y9 y8 y7)(y10:MHas P w K mg base CX0 1 y6 "rise" ["self"] (z9q y6 true))(yd:MHas P w K mg base (CX1 P w) 1 y0 "keeper_at" ["self","place"] (z9s y0 y6 y7)):MHas P w K mg base (CX1 P w) 2 y0 "rise" ["self","keeper"] (spFR y0 y6 y7 true):=by
 refine F.okx sc_Council_rise (fun vs H Q E h=>?_) (fun f cdv A outer s H vs Q E hr h=>?_)
 .obtain⟨c,l,ks,ls,us,p,rfl,_⟩:=h
  rfl
 .obtain⟨c,l,ks,ls,us,p,rfl,hc,e1,q⟩:=h
  refine⟨_,(@za _ _ _ _ _ (@zk _ _ 2 _ _ _ _ sc_Council_rise.nd rfl (Or.inl rfl) (@zad _ _ _ _ _ _ _ _ _ _ _ _ _ _ _ z76 yd T.cl_Council (hr.mono (by decide)) (pv 0) (@z6 _ _ _ _ _ (pv 1) z9 rfl) rfl rfl rfl) rfl (Or.inr rfl)) (@za _ _ _ _ _ (@zk _ _ 3 _ _ _ _ sc_Council_rise.nd rfl (Or.inl rfl) (@z2f _ _ _ _ _ (pv 2) rfl) rfl (Or.inr rfl)) (@za _ _ _ _ _ (@z1h _ _ _ _ (@z4r _ _ _ _ _ _ _ _ _ _ _ y10 T.cl_Keeper (hr.mono (by decide)) (pv 2) rfl) rfl) (@zd _ _ _ (@zn _ _ _ _ (@zcb _ _ _ _ (pv 3))))))),?_⟩
  walk_at "rd"
  obtain⟨dx,hob⟩:=hc.ob
  refine⟨_,_,hob,z2l _ _ (by decide+kernel) (by decide+kernel),c,l,ks,ls,us,p,rfl,hc,e1,fun j k ej hj=>?_⟩
  obtain⟨s,l1,hu,hl1,⟨dk1,z1⟩,Ls,eL,hk⟩:=hc.kp j k hj
  obtain⟨⟨dk,lk,a1,a2⟩,-,-⟩:=id hk
  refine⟨k,rfl,_,_,_,a1,T.cl_Keeper,T.n_Keeper_up,_,z87 s.u s.t lk,k,rfl,_,_,a1,z3u s.u s.t lk (by decide+kernel) (by decide+kernel) (by decide+kernel),k,s.u,s.t,Ls,rfl,hk,fun H1 hk1 hz1 hb1=>?_⟩
  have hset:=hc.set hj (s:=⟨true,s.t,s.N⟩) ⟨⟨dk1,hz1 _ _ z1⟩,Ls,eL,hk1⟩ hb1
  rw[z6n hl1]at hset
  have:=q j k s H1 ej hj hu hset hb1
  simpa using this
noncomputable def zlc(CC CK CU:Addr):Sp:=fun vs H Q E=>∃(c l:Addr)(ks ls:List Addr)(ss:List KN)(p tick:Int),vs=[.ref c,.int p,.int tick]/\CAt CC CK H c l ks ls ss/\(¬(1<=p/\p<=(ks.length:Int))->E (.ref CU) none H)/\
 (∀(j:Nat)(s:KN),p=(j:Int)+1->ss[j]? =some s->∀(r:Addr)(L:NL)(H':Hp),H r=none->H' r=some (.lst (refs L))->NotesAt H' L->L.map (·.2)=z1g tick s.N->Same H H'->Q (.ref r) H')
theorem z93(F:MDef K y0 "notes" "Council.notes" z3t ["self","keeper","tick"])(T:Txt K mg y0 yb ya y6 y9 y8 y7)(yf:MHas P w K mg base CX0 1 y6 "live" ["self","tick"] (z7u y6))(yd:MHas P w K mg base (CX1 P w) 1 y0 "keeper_at" ["self","place"] (z9s y0 y6 y7)):MHas P w K mg base (CX1 P w) 2 y0 "notes" ["self","keeper","tick"] (zlc y0 y6 y7):=by
 refine F.okx z92 (fun vs H Q E h=>?_) (fun f cdv A outer s H vs Q E hr h=>?_)
 .obtain⟨c,l,ks,ls,us,p,tick,rfl,_⟩:=h
  rfl
 .obtain⟨c,l,ks,ls,us,p,tick,rfl,hc,e1,q⟩:=h
  refine⟨_,(@zd _ _ _ (@zn _ _ _ _ (@z27 _ _ _ _ _ _ _ _ _ _ _ _ _ _ yf T.cl_Keeper (hr.mono (by decide)) (@zad _ _ _ _ _ _ _ _ _ _ _ _ _ _ _ z76 yd T.cl_Council (hr.mono (by decide)) (pv 0) (@z6 _ _ _ _ _ (pv 1) z9 rfl) rfl rfl rfl) (@z6 _ _ _ _ _ (pv 2) z9 rfl) rfl rfl rfl))),?_⟩
  walk_at "rd"
  obtain⟨dx,hob⟩:=hc.ob
  refine⟨_,_,hob,z2l _ _ (by decide+kernel) (by decide+kernel),c,l,ks,ls,us,p,rfl,hc,e1,fun j k ej hj=>?_⟩
  obtain⟨s,l1,hu,hl1,⟨dk1,z1⟩,Ls,eL,hk⟩:=hc.kp j k hj
  obtain⟨⟨dk,lk,a1,a2⟩,hn,-⟩:=id hk
  exact⟨k,rfl,_,_,a1,z3u s.u s.t lk (by decide+kernel) (by decide+kernel) (by decide+kernel),k,s.u,s.t,Ls,tick,rfl,hk,fun r H1 hr0 hr1 s1=>q j s ej hu r (z17 tick Ls) H1 hr0 hr1 ((hn.mono s1).sub fun q h=>(xi.mp h).1) (by rw[z5b,eL]) s1⟩
noncomputable def frAt(ss:List KN)(hd lk:Str)(sh:Bool)(tick:Int)(j:Nat):Bool:=match ss[j]? with|some s=>z6l s.N hd lk sh tick|none=>false
noncomputable def sayl(ss:List KN)(n:Nat)(hd lk:Str)(sh:Bool)(tick:Int):List Nat:=(upl ss n).filter (frAt ss hd lk sh tick)
noncomputable def zr(js:List Nat):List V:=js.map fun(j:Nat)=>V.int ((j:Int)+1)
theorem zk3(ss:List KN)(n:Nat)(hd lk:Str)(sh:Bool)(tick:Int):(sayl ss n hd lk sh tick).length<=n:=xp (xj _ _) (z46 _ _)
noncomputable def z6q(ss:List KN):Prop:=∀s∈ss,s.N.length<=62
noncomputable def zdi(CC CK:Addr):Sp:=fun vs H Q _=>∃(c l:Addr)(ks ls:List Addr)(ss:List KN)(hd lk:Str)(sh:Bool)(tick:Int),vs=[.ref c,.str hd,.str lk,.bl sh,.int tick]/\CAt CC CK H c l ks ls ss/\z6q ss/\lk.length<=1000/\∀(r:Addr)(H':Hp),H r=none->H' r=some (.lst (zr (sayl ss ks.length hd lk sh tick)))->Same H H'->Q (.ref r) H'
theorem z8b(F:MDef K y0 "sayers" "Council.sayers" z3i ["self","holder","lock","shared","tick"])(T:Txt K mg y0 yb ya y6 y9 y8 y7)(yh:MHas P w K mg base CX0 5 y6 "says_free" ["self","holder","lock","shared","tick"] (zdg y6))(yc:MHas P w K mg base CX0 1 y0 "up_keepers" ["self"] (z9t y0 y6)):MHas P w K mg base CX0 6 y0 "sayers" ["self","holder","lock","shared","tick"] (zdi y0 y6):=by
 refine F.ok z8a (fun vs H Q E h=>?_) (fun f cdv A outer s H vs Q E hr h=>?_)
 .obtain⟨c,l,ks,ls,ss,hd,lk,sh,tick,rfl,_⟩:=h
  rfl
 .obtain⟨c,l,ks,ls,ss,hd,lk,sh,tick,rfl,hc,hsm,hl,q⟩:=h
  refine⟨_,(@zd _ _ _ (@zn _ _ _ _ (@z8r _ _ "place" "keeper" (["holder","lock","shared","tick"]) ([1,2,3,4]) _ _ _ _ _ _ _ _ _ rfl ⟨rfl,by decide+kernel,by decide+kernel,rfl,rfl,zv rfl,by decide+kernel,⟨⟨rfl,Or.inl rfl,rfl⟩,⟨⟨rfl,Or.inl rfl,rfl⟩,⟨⟨rfl,Or.inl rfl,rfl⟩,⟨⟨rfl,Or.inl rfl,rfl⟩,trivial⟩⟩⟩⟩⟩ (fun _ _ _ _=>z7b (K:=K) rfl (z22 (z15 (i:=0) (show List.Nodup [("place":Str),("keeper":Str),("holder":Str),("lock":Str),("shared":Str),("tick":Str)]from by decide+kernel) rfl (Or.inl rfl)) (z22 (z15 (i:=1) (show List.Nodup [("place":Str),("keeper":Str),("holder":Str),("lock":Str),("shared":Str),("tick":Str)]from by decide+kernel) rfl (Or.inl rfl)) z4q))) (@z12 _ _ _ _ (@z4r _ _ _ _ _ _ _ _ _ _ _ yc T.cl_Council (hr.mono (by decide)) (pv 0) rfl)) (fun _ _ _ _=>(@z28 _ _ _ (@z1i _ _ _ (@z27 _ _ _ _ _ _ _ _ _ _ _ _ _ _ yh T.cl_Keeper (hr.mono (by decide)) (pv 1) (@z6 _ _ _ _ _ (pv 2) (@z6 _ _ _ _ _ (pv 3) (@z6 _ _ _ _ _ (pv 4) (@z6 _ _ _ _ _ (pv 5) z9 rfl) rfl) rfl) rfl) rfl rfl rfl) (by intro _;rfl)))) (fun _ _ _ _=>(pv 0)) (by intro _;rfl)))),?_⟩
  walk_at "rd"
  obtain⟨dx,hob⟩:=hc.ob
  have hsz:=hc.sz
  refine⟨_,_,hob,z2l _ _ (by decide+kernel) (by decide+kernel),c,l,ks,ls,ss,rfl,hc,fun r L H1 hL hr0 gr s1=>⟨r,rfl,⟨_,SqL.of gr⟩,?_⟩⟩
  have hll:=hL.len
  refine z7a (xs:=ptup L) (by rw[z45];exact zf (by omega)) (fun i acc H'=>acc=zr (((upl ss ks.length).take i).filter (frAt ss hd lk sh tick))/\Same H1 H') ⟨rfl,Same.refl _⟩ ?_ ?_ ?_ ?_
  .rintro i acc H' ⟨rfl,-⟩
   unfold zr
   rw[x0]
   exact xp (xj _ _) (by rw[x04];omega)
  .rintro i acc H' ⟨-,s2⟩
   exact SqL.of (s2 _ _ gr)
  .rintro Nn i acc H' x hN hx hi ⟨rfl,s2⟩
   obtain⟨y,hy,rfl⟩:=z6p hx
   have my:=x9 hy
   refine⟨y.1,_,rfl,SqT.of (s2 _ _ (hL.tu y my)),rfl,?_⟩
   walk_at "rd"
   obtain⟨s,l1,hu,hl1,-,Ls,eL,hk⟩:=(hc.mono (s1.trans s2)).kp y.2.1 y.2.2 (hL.at_ y my)
   obtain⟨⟨dk,lk',a1,a2⟩,hn,-⟩:=id hk
   have l62:Ls.length<=62:=by
    have:=hsm s (x9 hu)
    rw[<-eL,x0]at this
    exact this
   have gi:(upl ss ks.length)[i]? =some y.2.1:=by rw[<-hL.mp,xc,hy];rfl
   have stp:=z1l (frAt ss hd lk sh tick) gi
   have ef:frAt ss hd lk sh tick y.2.1=z2y Ls hd lk sh tick:=by
    unfold frAt
    rw[hu,z9r,eL]
   refine⟨_,_,⟨rfl,rfl⟩,_,_,rfl,rfl,⟨_,rfl⟩,_,rfl,_,_,a1,z3u s.u s.t lk' (by decide+kernel) (by decide+kernel) (by decide+kernel),y.2.2,s.u,s.t,Ls,hd,lk,sh,tick,rfl,hk,by omega,hl,fun H3 s3=>⟨_,rfl,?_⟩⟩
   cases hf:z2y Ls hd lk sh tick with
   |true=>
    rw[if_pos rfl]
    refine hN _ _ ⟨?_,s2.trans s3⟩
    rw[stp,ef,hf]
    simp[zr]
   |false=>
    rw[if_neg xa]
    refine hN _ _ ⟨?_,s2.trans s3⟩
    rw[stp,ef,hf]
    simp
  .rintro acc H' ⟨rfl,s2⟩ p hp
   have e:(upl ss ks.length).take (ptup L).length=upl ss ks.length:=by
    rw[z45,<-hL.take,x02,hL.mp]
   rw[e]
   exact q p _ (zu (s1.trans s2) hp) z8 ((s1.trans s2).trans (Same.upd hp))
noncomputable def z5d(ss:List KN)(m:Int):Prop:=(∃s∈ss,s.u=true/\s.t=m)/\∀s∈ss,s.u=true->s.t<=m
noncomputable def z1x(ss:List KN)(sl:List Nat)(x:Nt):List KN:=ss.mapIdx fun j s=>if j∈sl then⟨s.u,x.n,z2u x.h x.l s.N++[x]⟩ else s
theorem ziv(ss:List KN)(x:Nt):z1x ss [] x=ss:=by
 unfold z1x
 apply x0n
 intro i
 rw[x06]
 simp
theorem zgv{ss:List KN}{sl:List Nat}{x:Nt}{i j:Nat}{s:KN}(hj:sl[i]? =some j)(hs:ss[j]? =some s)(nd:sl.Nodup):z1x ss (sl.take (i+1)) x=(z1x ss (sl.take i) x).set j ⟨s.u,x.n,z2u x.h x.l s.N++[x]⟩/\(z1x ss (sl.take i) x)[j]? =some s:=by
 have nj:j∉sl.take i:=fun h=>by
  obtain⟨k,hk,e⟩:=x12 h
  rw[x04]at hk
  have e2:sl[k]? =some j:=by rw[List.getElem_take]at e;rw[x6 (by omega),e]
  have:=(List.getElem?_inj (by omega) nd).mp (e2.trans hj.symm)
  omega
 constructor
 .unfold z1x
  apply x0n
  intro k
  rw[x06,List.take_succ,hj]
  by_cases hk:k=j
  .subst hk
   have hl:k<ss.length:=(xg.mp hs).1
   rw[x0x (by rw[List.length_mapIdx];exact hl),hs]
   simp
  .rw[x0y (Ne.symm hk),x06]
   simp[hk]
 .unfold z1x
  rw[x06,hs]
  simp[nj]
noncomputable def ziw(CC CK CN:Addr):Sp:=fun vs H Q E=>∃(c l:Addr)(ks ls:List Addr)(ss:List KN)(hd lk:Str)(sh:Bool)(tick time:Int),vs=[.ref c,.str hd,.str lk,.bl sh,.int tick,.int time]/\CAt CC CK H c l ks ls ss/\z6q ss/\hd.length<=1000/\lk.length<=1000/\
 (((sayl ss ks.length hd lk sh tick).length:Int)<(ks.length:Int)/2+1->∀H',Same H H'->E (.ref CN) none H')/\
 (¬((sayl ss ks.length hd lk sh tick).length:Int)<(ks.length:Int)/2+1->∀(m:Int),z5d ss m->∀(r p:Addr)(ls':List Addr)(H':Hp),LsOk H ls ls'->CAt CC CK H' c l ks ls' (z1x ss (sayl ss ks.length hd lk sh tick) ⟨1+m,hd,lk,sh,tick+time⟩)->
  H' r=some (.tup [.int (1+m),.ref p])->H' p=some (.lst (zr (sayl ss ks.length hd lk sh tick)))->H r=none->H p=none->ButK ks H H'->Q (.ref r) H')
theorem z9w(F:MDef K y0 "give" "Council.give" z42 ["self","holder","lock","shared","tick","time"])(T:Txt K mg y0 yb ya y6 y9 y8 y7)(y14:MHas P w K mg base (CX1 P w) 6 y6 "take" ["self","number","holder","lock","shared","tick","time"] (zis y6 yb y8 ya))(yd:MHas P w K mg base (CX1 P w) 1 y0 "keeper_at" ["self","place"] (z9s y0 y6 y7))(yc:MHas P w K mg base CX0 1 y0 "up_keepers" ["self"] (z9t y0 y6))(yt:MHas P w K mg base CX0 6 y0 "sayers" ["self","holder","lock","shared","tick"] (zdi y0 y6)):MHas P w K mg base (CX1 P w) 7 y0 "give" ["self","holder","lock","shared","tick","time"] (ziw y0 y6 y9):=by
 refine F.okx sc_Council_give (fun vs H Q E h=>?_) (fun f cdv A outer s H vs Q E hr h=>?_)
 .obtain⟨c,l,ks,ls,ss,hd,lk,sh,tick,time,rfl,_⟩:=h
  rfl
 .obtain⟨c,l,ks,ls,ss,hd,lk,sh,tick,time,rfl,hc,hsm,hh,hl,e1,q⟩:=h
  refine⟨_,(@za _ _ _ _ _ (@zk _ _ 6 _ _ _ _ sc_Council_give.nd rfl (Or.inl rfl) (@z27 _ _ _ _ _ _ _ _ _ _ _ _ _ _ yt T.cl_Council (hr.mono (by decide)) (pv 0) (@z6 _ _ _ _ _ (pv 1) (@z6 _ _ _ _ _ (pv 2) (@z6 _ _ _ _ _ (pv 3) (@z6 _ _ _ _ _ (pv 4) z9 rfl) rfl) rfl) rfl) rfl rfl rfl) rfl (Or.inr rfl)) (@za _ _ _ _ _ (@z11 _ _ _ _ _ _ _ _ (@zo _ _ _ _ _ _ _ _ z7y (@zj _ _ _ _ _ _ _ _ _ zq rfl T.b_len (by decide+kernel) (@z6 _ _ _ _ _ (pv 6) z9 rfl) (by decide) (by decide) rfl rfl) (@z2f _ _ _ _ _ (pv 0) rfl) (zm _)) (@zd _ _ _ (@z4v _ _ _ _ _ _ _ _ _ _ _ _ _ _ z4a rfl PySem.F.excBase_ValueError T.x_NotFree rfl T.g_NotFree (@z6 _ _ _ _ _ zl z9 rfl) rfl rfl (by decide))) zp) (@za _ _ _ _ _ (@zk _ _ 7 _ _ _ _ sc_Council_give.nd rfl (Or.inl rfl) (@zg _ _ _ _ _ _ _ _ z18 z7 (@zj _ _ _ _ _ _ _ _ _ (z79 rfl) rfl T.b_max (by decide+kernel) (@z6 _ _ _ _ _ (@z8r _ _ "place" "keeper" ([]) ([]) _ _ _ _ _ _ _ _ _ rfl ⟨rfl,by decide+kernel,by decide+kernel,rfl,rfl,zv rfl,by decide+kernel,trivial⟩ (fun _ _ _ _=>z7b (K:=K) rfl (z22 (z15 (i:=0) (show List.Nodup [("place":Str),("keeper":Str)]from by decide+kernel) rfl (Or.inl rfl)) (z22 (z15 (i:=1) (show List.Nodup [("place":Str),("keeper":Str)]from by decide+kernel) rfl (Or.inl rfl)) z4q))) (@z12 _ _ _ _ (@z4r _ _ _ _ _ _ _ _ _ _ _ yc T.cl_Council (hr.mono (by decide)) (pv 0) rfl)) (fun _ _ _ _=>z39) (fun _ _ _ _=>(@z8p _ K _ _ _ _ (pv 1) rfl rfl)) (by intro _;rfl)) z9 rfl) (by decide) (by decide) rfl rfl)) rfl (Or.inr rfl)) (@za _ _ _ _ _ (PS.nox (@z1u _ _ _ _ _ _ _ _ x0m rfl (@z12 _ _ _ _ (pv 6)) (@z15 _ _ 8 _ sc_Council_give.nd rfl (Or.inl rfl) (Or.inr rfl)) (@zd _ _ _ (@z1h _ _ _ _ (@z27 _ _ _ _ _ _ _ _ _ _ _ _ _ _ (@MHas.never _ _ _ _ _ _ _ _ _ _ y14) T.cl_Keeper (hr.mono (by decide)) (@z27 _ _ _ _ _ _ _ _ _ _ _ _ _ _ (@MHas.never _ _ _ _ _ _ _ _ _ _ yd) T.cl_Council (hr.mono (by decide)) (pv 0) (@z6 _ _ _ _ _ (pv 8) z9 rfl) rfl rfl rfl) (@z6 _ _ _ _ _ (pv 7) (@z6 _ _ _ _ _ (pv 1) (@z6 _ _ _ _ _ (pv 2) (@z6 _ _ _ _ _ (pv 3) (@z6 _ _ _ _ _ (pv 4) (@z6 _ _ _ _ _ (pv 5) z9 rfl) rfl) rfl) rfl) rfl) rfl) rfl rfl rfl) rfl)) (by intro _;rfl))) (@zd _ _ _ (@zn _ _ _ _ (@z1p _ _ _ _ _ (@z6 _ _ _ _ _ (pv 7) (@z6 _ _ _ _ _ (pv 6) z9 rfl) rfl)))))))),?_⟩
  walk_at "rd"
  obtain⟨dx,hob⟩:=hc.ob
  have hsz:=hc.sz
  have hsl:=zk3 ss ks.length hd lk sh tick
  refine⟨_,_,hob,z2l _ _ (by decide+kernel) (by decide+kernel),c,l,ks,ls,ss,hd,lk,sh,tick,rfl,hc,hsm,hl,fun r H1 hr0 gr s1=>?_⟩
  have snd:(sayl ss ks.length hd lk sh tick).Nodup:=List.Nodup.sublist x0k (z5c _ _)
  have smem:∀j∈sayl ss ks.length hd lk sh tick,j<ks.length/\upAt ss j=true/\frAt ss hd lk sh tick j=true:=fun j hj=>by
   obtain⟨a,b⟩:=xi.mp hj
   exact⟨(z29 a).1,(z29 a).2,b⟩
  generalize sayl ss ks.length hd lk sh tick=sl at e1 q gr hsl snd smem
  refine⟨r,rfl,_,.inl (SqL.of gr),_,_,_,s1 _ _ hob,T.cl_Council,T.n_Council_most,_,zf6 _ _,_,rfl,?_⟩
  have epl:(zr sl).length=sl.length:=x0 _
  rw[epl]
  by_cases hlt:(sl.length:Int)<(ks.length:Int)/2+1
  .rw[if_pos (xx hlt)]
   exact⟨zf (by decide),e1 hlt H1 s1⟩
  rw[if_neg (by simpa using hlt)]
  have q:=q hlt
  have hc1:=hc.mono s1
  refine⟨_,_,s1 _ _ hob,z2l _ _ (by decide+kernel) (by decide+kernel),c,l,ks,ls,ss,rfl,hc1,fun r2 L H2 hL hr2 gr2 s2=>⟨r2,rfl,⟨_,SqL.of gr2⟩,?_⟩⟩
  have hll:=hL.len
  have hc2:=hc1.mono s2
  have stAt:∀y∈L,∃s,ss[y.2.1]? =some s/\s.u=true/\∃dx lk',H2 y.2.2=some (.ins y6 dx (kf s.u s.t lk')):=fun y hy=>by
   obtain⟨s,l1,hu,hl1,-,Ls,eL,⟨dk,lk',a1,a2⟩,-,-⟩:=hc2.kp y.2.1 y.2.2 (hL.at_ y hy)
   have hm:y.2.1∈upl ss ks.length:=by rw[<-hL.mp];exact x13 hy
   have:=(z29 hm).2
   unfold upAt at this
   rw[hu]at this
   exact⟨s,hu,this,dk,lk',a1⟩
  refine z7a (xs:=ptup L) (by rw[z45];exact zf (by omega)) (fun i acc H'=>H2=H'/\∃ns:List Int,acc=ns.map V.int/\ns.length=(L.take i).length/\(∀x∈ns,∃s∈ss,s.u=true/\s.t=x)/\∀y∈L.take i,∀s,ss[y.2.1]? =some s->s.t∈ns) ⟨rfl,[],rfl,rfl,(fun x hx=>by cases hx),(fun y hy=>by cases hy)⟩ ?_ ?_ ?_ ?_
  .rintro i acc H' ⟨-,ns,rfl,en,-⟩
   rw[x0,en,x04]
   omega
  .rintro i acc H' ⟨rfl,-⟩
   exact SqL.of gr2
  .rintro Nn i acc H' x hN hx hi ⟨rfl,ns,rfl,en,hn1,hn2⟩
   obtain⟨y,hy,rfl⟩:=z6p hx
   have my:=x9 hy
   refine⟨y.1,_,rfl,SqT.of (hL.tu y my),rfl,?_⟩
   walk_at "rd"
   obtain⟨s,hu,hup,dk,lk',a1⟩:=stAt y my
   refine⟨_,_,⟨rfl,rfl⟩,_,_,rfl,rfl,⟨_,rfl⟩,y.2.2,rfl,_,_,_,a1,T.cl_Keeper,T.n_Keeper_top,_,zio s.u s.t lk',hN _ _ ⟨rfl,ns++[s.t],by simp,?_,fun x hx=>?_,fun z hz s' hs'=>?_⟩⟩
   .rw[x00,en,List.take_succ,hy]
    simp
   .rcases xz.mp hx with hx|hx
    .exact hn1 x hx
    .have:x=s.t:=by simpa using hx
     exact⟨s,x9 hu,hup,this.symm⟩
   .rw[List.take_succ,hy]at hz
    rcases xz.mp hz with hz|hz
    .exact x0t _ (hn2 z hz s' hs')
    .have:z=y:=by simpa using hz
     rw[this,hu]at hs'
     cases hs'
     simp
  rintro acc H' ⟨rfl,ns,rfl,en,hn1,hn2⟩ p hp
  rw[z45,x02]at en hn2
  have lsl:0<sl.length:=by
   have:(0:Int)<=(ks.length:Int)/2:=Int.ediv_nonneg (by omega) (by decide)
   omega
  obtain⟨j0,hj0⟩:∃j,j∈sl:=⟨sl[0],x1b lsl⟩
  have memL:∀j,j<ks.length->upAt ss j=true->∃y∈L,y.2.1=j:=fun j hj hu=>by
   have:j∈upl ss ks.length:=xi.mpr ⟨x0s.mpr hj,hu⟩
   rw[<-hL.mp]at this
   obtain⟨y,hy,e⟩:=xw.mp this
   exact⟨y,hy,e⟩
  have nne:ns≠[]:=by
   obtain⟨a,b,-⟩:=smem j0 hj0
   obtain⟨y,hy,-⟩:=memL j0 a b
   intro z
   rw[z]at en
   have:L=[]:=List.length_eq_zero_iff.mp en.symm
   rw[this]at hy
   cases hy
  have s3:=s2.trans (Same.upd (o:=.lst (ns.map V.int)) hp)
  refine⟨p,rfl,ns,SqL.of z8,nne,fun m hm hmax=>⟨r,rfl,⟨_,SqL.of (s3 _ _ gr)⟩,?_⟩⟩
  have top:z5d ss m:=⟨hn1 m hm,fun s hs hup=>by
   obtain⟨j,hj,e⟩:=x12 hs
   have ej:ss[j]? =some s:=by rw[x6 hj,e]
   obtain⟨y,hy,e2⟩:=memL j (by rw[<-hc.ln];exact hj) (by unfold upAt;rw[ej];exact hup)
   exact hmax _ (hn2 y hy s (by rw[e2];exact ej))⟩
  generalize upd H2 p (.lst (ns.map V.int))=H3 at s3⊢
  have hc3:=hc1.mono s3
  have gr3:=s3 _ _ gr
  refine z1b (xs:=zr sl) (fun i σ H'=>∃(v8:Option V)(ls':List Addr),σ=[some (V.ref c),some (V.str hd),some (V.str lk),some (V.bl sh),some (V.int tick),some (V.int time),some (V.ref r),some (V.int (1+m)),v8]/\LsOk H ls ls'/\CAt y0 y6 H' c l ks ls' (z1x ss (sl.take i) ⟨1+m,hd,lk,sh,tick+time⟩)/\ButK ks H3 H') ⟨_,ls,rfl,LsOk.refl _ _,by rw[List.take_zero,ziv];exact hc3,fun b o e _=>e⟩ ?_ ?_ ?_
  .rintro i σ H'-⟨v8,ls',rfl,-,-,b⟩
   refine SqL.of (b _ _ gr3 fun z=>?_)
   obtain⟨_,_,e⟩:=hc3.mem z
   rw[gr3]at e
   cases e
  .rintro Pv hP i x σ H' hx ⟨v8,ls',rfl,hls,hci,b⟩
   unfold zr at hx
   rw[xc]at hx
   cases ej:sl[i]? with
   |none=>rw[ej]at hx;cases hx
   |some j=>
   rw[ej]at hx
   cases hx
   walk_at "rd"
   obtain⟨hjl,hju,hjf⟩:=smem j (x9 ej)
   have hjk:ks[j]? =some ks[j]:=x6 hjl
   obtain⟨s,l1,hs,-,-⟩:=hc3.kp j _ hjk
   obtain⟨eg,eg2⟩:=zgv (x:=⟨1+m,hd,lk,sh,tick+time⟩) ej hs snd
   obtain⟨dxi,hobi⟩:=hci.ob
   refine⟨_,_,hobi,z2l _ _ (by decide+kernel) (by decide+kernel),c,l,ks,ls',_,_,rfl,hci,fun z=>absurd ⟨by omega,by omega⟩ z,fun j' k' ej' hk'=>?_⟩
   have ejj:j'=j:=by omega
   subst ejj
   obtain⟨s',l2,hs',hl2,-,Ls,eL,hk⟩:=hci.kp j' k' hk'
   rw[eg2]at hs'
   cases hs'
   obtain⟨⟨dk,lk',a1,a2⟩,hn,-⟩:=id hk
   have l62:Ls.length<=62:=by
    have:=hsm s (x9 hs)
    rw[<-eL,x0]at this
    exact this
   have hup:s.u=true:=by unfold upAt at hju;rw[hs]at hju;exact hju
   have hfr:z2y Ls hd lk sh tick=true:=by unfold frAt at hjf;rw[hs]at hjf;rw[z9r,eL];exact hjf
   have hlt2:s.t<1+m:=by have:=top.2 s (x9 hs) hup;omega
   refine⟨k',rfl,_,_,a1,z3u s.u s.t lk' (by decide+kernel) (by decide+kernel) (by decide+kernel),k',s.u,s.t,Ls,1+m,hd,lk,sh,tick,time,rfl,hk,l62,hh,hl,fun z=>(by rw[hup]at z;cases z),fun _ z=>(by omega),fun _ _ z=>(by rw[hfr]at z;cases z),fun _ _ _ pn H5 hpn hk5 hz5 hb5=>?_⟩
   obtain⟨dx5,l5,z5,n5'⟩:=hz5
   have n50:H l5=none:=by
    cases e:H l5 with
    |none=>rfl
    |some o=>
     by_cases z:l5∈ks
     .obtain⟨_,_,e2⟩:=hci.mem z
      rw[n5']at e2
      cases e2
     .rw[((ButK.of (s1.trans s3)).trans b) _ _ e z]at n5'
      cases n5'
   refine hP _ _ _ ⟨_,ls'.set j' l5,rfl,fun x hx=>?_,?_,b.trans (ButK.but hb5 (x9 hk'))⟩
   .rcases List.mem_or_eq_of_mem_set hx with z|z
    .exact hls x z
    .exact .inr (z▸n50)
   rw[eg]
   refine hci.set hk' ⟨⟨dx5,z5⟩,_,?_,hk5⟩ hb5
   rw[x0b,ziu,eL]
   rfl
  .rintro σ H' ⟨v8,ls',rfl,hls,hci,b⟩
   walk_at "rd"
   have epl':(zr sl).length=sl.length:=x0 _
   rw[epl',x02]at hci
   refine⟨zf (by decide),fun pr hpr=>?_⟩
   have nrk:r∉ks:=fun z=>by
    obtain⟨_,_,e⟩:=hc3.mem z
    rw[gr3]at e
    cases e
   have b0:ButK ks H H':=(ButK.of (s1.trans s3)).trans b
   have hpr0:H pr=none:=by
    cases e:H pr with
    |none=>rfl
    |some o=>
     by_cases z:pr∈ks
     .obtain⟨_,_,e2⟩:=hci.mem z
      rw[hpr]at e2
      cases e2
     .rw[b0 _ _ e z]at hpr
      cases hpr
   exact q m top pr r ls' _ hls (hci.mono (Same.upd hpr)) z8 (Same.upd hpr _ _ (b _ _ gr3 nrk)) hpr0 hr0 (b0.trans (ButK.of (Same.upd hpr)))
noncomputable def spAt(K:PySem.W.Frag):Sp:=fun vs H Q _=>∃(p:Addr)(ns:List Int)(k:Nat),vs=[.ref p,.int k]/\SqL K H p (ns.map V.int)/\ns.length<=1000/\Q (.int (ns.getD k 0)) H
theorem zgw(F:Def K mg "_law_at" z7p ["_law_script","_law_k"])(T:Txt K mg y0 yb ya y6 y9 y8 y7):Has P w K mg base 1 "_law_at" ["_law_script","_law_k"] (spAt K):=by
 refine F.ok zgs (fun vs H Q E h=>?_) (fun f cdv A outer s H vs Q E hr h=>?_)
 .obtain⟨p,ns,k,rfl,_⟩:=h
  rfl
 .obtain⟨p,ns,k,rfl,hp,hl,q⟩:=h
  refine⟨_,(@za _ _ _ _ _ (@z11 _ _ _ _ _ _ _ _ (@zo _ _ _ _ _ _ _ _ z7y (pv 1) (@zj _ _ _ _ _ _ _ _ _ zq rfl T.b_len (by decide+kernel) (@z6 _ _ _ _ _ (pv 0) z9 rfl) (by decide) (by decide) rfl rfl) (zm _)) (@zd _ _ _ (@zn _ _ _ _ (@zi _ _ _ _ _ _ _ ix_list (pv 0) (pv 1) (fun _ _=>rfl)))) zp) (@zd _ _ _ (@zn _ _ _ _ z7))),?_⟩
  walk_at "rd"
  refine⟨_,.inl hp,?_⟩
  rw[x0]
  by_cases hk:k<ns.length
  .rw[if_pos (by simpa using hk)]
   refine⟨p,_,_,_,rfl,rfl,hp,zc (v:=.int (ns.getD k 0)) ?_,q⟩
   rw[xc,xn,x6 hk]
   rfl
  .rw[if_neg (by simpa using hk)]
   have e:ns.getD k 0=0:=by rw[xn,x1m (by omega)];rfl
   rw[<-e]
   exact q
noncomputable def abc:Str:="abcdefghijklmnopqrstuvwxyz0123456789"
theorem zld:∀n,n<36->∃c,abc.cps.toList[n]? =some c:=by
 intro n hn
 have l:abc.cps.toList.length=36:=by decide+kernel
 exact⟨_,x6 (by omega)⟩
theorem zm5(j:Int)(h0:0<=j)(h1:j<36):∃c,atI abc.cps.toList j=some c:=by
 obtain⟨n,rfl⟩:=x0v h0
 obtain⟨c,hc⟩:=zld n (by omega)
 exact⟨c,zc hc⟩
theorem zix{d:Nat}{n:Nat}(h:n<=100):MulOk ⟨#[d]⟩ (n:Int):=by
 have f:∀m:_root_.Fin 101,(decide ((m.val:Int)<1)||(decide (¬((1:Int)>(2 ^ 63-1)/(m.val:Int)))&&(Builtin.Str.tooLong (1*m.val)==false)))=true:=by decide+kernel
 have g:=f ⟨n,by omega⟩
 dsimp only at g
 rw[Bool.or_eq_true,x07]at g
 have l:(⟨#[d]⟩:Str).length=1:=rfl
 refine⟨?_,fun h1 _=>?_,fun h1 _=>?_⟩
 .rw[Bool.or_eq_false_iff]
  exact⟨x1g (by omega),x1g (by omega)⟩
 .rcases g with g|g
  .exact absurd (x05 g) h1
  .rw[l]
   exact x05 g.1
 .rcases g with g|g
  .exact absurd (x05 g) h1
  .rw[l,x11]
   exact eq_of_beq g.2
theorem zdj(d:Nat):∀(m:Nat)(acc:Array Nat),((List.replicate m #[d]).foldl (·++·) acc).size=acc.size+m
 |0,acc=>rfl
 |m+1,acc=>by
  rw[x16,List.foldl_cons,zdj d m,Array.size_append]
  show acc.size+1+m=_
  omega
theorem zar(d n:Nat):(Txt.mul ⟨#[d]⟩ (n:Int)).length=n:=by
 unfold Txt.mul
 by_cases h1:(n:Int)<1
 .rw[if_pos h1]
  have:n=0:=by omega
  subst this
  rfl
 .rw[if_neg h1]
  by_cases h2:n=1
  .subst h2
   rfl
  .rw[if_neg (by simp;exact⟨by omega,by show¬(1=0);decide⟩)]
   show((List.replicate (n:Int).toNat #[d]).foldl (·++·) #[]).size=n
   rw[zdj,x11]
   show 0+n=n
   omega
noncomputable def zdk:Sp:=fun vs H Q _=>∃(c:Int)(k:Nat),vs=[.int c,.int k]/\k<=10/\∀z:Str,z.length<=16->Q (.str z) H
theorem zdl(F:Def K mg "_law_name" z5j ["_law_cell","_law_k"])(T:Txt K mg y0 yb ya y6 y9 y8 y7):Has P w K mg base 1 "_law_name" ["_law_cell","_law_k"] (zdk):=by
 refine F.ok sc__law_name (fun vs H Q E h=>?_) (fun f cdv A outer s H vs Q E hr h=>?_)
 .obtain⟨c,k,rfl,_⟩:=h
  rfl
 .obtain⟨c,k,rfl,hk,q⟩:=h
  have hu:=hr.units0
  refine⟨_,(@za _ _ _ _ _ (@zk _ _ 2 _ _ _ _ sc__law_name.nd rfl (Or.inl rfl) zl rfl (Or.inr rfl)) (@za _ _ _ _ _ (@zk _ _ 3 _ _ _ _ sc__law_name.nd rfl (Or.inl rfl) (@zg _ _ _ _ _ _ _ _ z1a (pv 0) z7) rfl (Or.inr rfl)) (@za _ _ _ _ _ (@z11 _ _ _ _ _ _ _ _ (@zo _ _ _ _ _ _ _ _ z1f (@zg _ _ _ _ _ _ _ _ z14 (pv 0) z7) z7 (zm _)) (@za _ _ _ _ _ (@z11 _ _ _ _ _ _ _ _ (@zo _ _ _ _ _ _ _ _ zc3 (pv 1) z7 (zm _)) (@zd _ _ _ (@zn _ _ _ _ (@zg _ _ _ _ _ _ _ _ z3m (@zi _ _ _ _ _ _ _ z5v (pv 2) (@zg _ _ _ _ _ _ _ _ z14 (@zg _ _ _ _ _ _ _ _ z18 (pv 3) z7) z7) (fun _ _=>rfl)) (@zg _ _ _ _ _ _ _ _ z9h (@zi _ _ _ _ _ _ _ z5v (pv 2) (@zg _ _ _ _ _ _ _ _ z14 (pv 3) z7) (fun _ _=>rfl)) (@zg _ _ _ _ _ _ _ _ z2n (pv 1) z7))))) zp) (@zd _ _ _ (@zn _ _ _ _ (@zg _ _ _ _ _ _ _ _ z9h (@zi _ _ _ _ _ _ _ z5v (pv 2) (@zg _ _ _ _ _ _ _ _ z14 (pv 3) z7) (fun _ _=>rfl)) (@zg _ _ _ _ _ _ _ _ z18 (pv 1) z7))))) zp) (@za _ _ _ _ _ (@z11 _ _ _ _ _ _ _ _ (@zo _ _ _ _ _ _ _ _ z1f (@zg _ _ _ _ _ _ _ _ z14 (pv 0) z7) z7 (zm _)) (@zd _ _ _ (@zn _ _ _ _ (@zg _ _ _ _ _ _ _ _ z3m (@zi _ _ _ _ _ _ _ z5v (pv 2) (@zg _ _ _ _ _ _ _ _ z14 (@zg _ _ _ _ _ _ _ _ z18 (pv 3) (@zg _ _ _ _ _ _ _ _ z5t z7 (pv 1))) z7) (fun _ _=>rfl)) (@z63 _ _ _ _ _ _ _ _ _ _ zlu zl z81 (@z82 _ _ _ (@zg _ _ _ _ _ _ _ _ z14 (@zg _ _ _ _ _ _ _ _ z18 (@zg _ _ _ _ _ _ _ _ z1a (pv 3) z7) (@zg _ _ _ _ _ _ _ _ z5t z7 (pv 1))) z7)))))) zp) (@za _ _ _ _ _ (@zk _ _ 4 _ _ _ _ sc__law_name.nd rfl (Or.inl rfl) (@zg _ _ _ _ _ _ _ _ z18 z7 (@zg _ _ _ _ _ _ _ _ z14 (pv 3) z7)) rfl (Or.inr rfl)) (@za _ _ _ _ _ (@zk _ _ 5 _ _ _ _ sc__law_name.nd rfl (Or.inl rfl) (@zg _ _ _ _ _ _ _ _ z14 (@zg _ _ _ _ _ _ _ _ z1a (pv 3) z7) (pv 4)) rfl (Or.inr rfl)) (@za _ _ _ _ _ (@zk _ _ 6 _ _ _ _ sc__law_name.nd rfl (Or.inl rfl) zl rfl (Or.inr rfl)) (@za _ _ _ _ _ (@z1u _ _ _ _ _ _ _ _ x0m rfl (@z2r _ _ _ _ _ _ rfl T.b_range (@z6 _ _ _ _ _ (pv 4) z9 rfl) rfl) (@z15 _ _ 7 _ sc__law_name.nd rfl (Or.inl rfl) (Or.inr rfl)) (@za _ _ _ _ _ (@zk _ _ 8 _ _ _ _ sc__law_name.nd rfl (Or.inl rfl) (@zg _ _ _ _ _ _ _ _ z18 (@zg _ _ _ _ _ _ _ _ z1a (pv 3) z7) (@zg _ _ _ _ _ _ _ _ z5t z7 (pv 7))) rfl (Or.inr rfl)) (@z3x _ _ _ _ _ (@z11 _ _ _ _ _ _ _ _ (@zo _ _ _ _ _ _ _ _ z1f (pv 7) (pv 5) (zm _)) (@zd _ _ _ (@zk _ _ 8 _ _ _ _ sc__law_name.nd rfl (Or.inl rfl) (@zg _ _ _ _ _ _ _ _ z18 (@zg _ _ _ _ _ _ _ _ z1a (pv 3) z7) (@zg _ _ _ _ _ _ _ _ z5t z7 (pv 1))) rfl (Or.inr rfl))) zp) (@zd _ _ _ (@zk _ _ 6 _ _ _ _ sc__law_name.nd rfl (Or.inl rfl) (@zg _ _ _ _ _ _ _ _ z3m (pv 6) (@zi _ _ _ _ _ _ _ z5v (pv 2) (@zg _ _ _ _ _ _ _ _ z14 (pv 8) z7) (fun _ _=>rfl))) rfl (Or.inr rfl))))) (by intro _;rfl)) (@zd _ _ _ (@zn _ _ _ _ (pv 6))))))))))),?_⟩
  walk_at "rd"
  have sgn:∀(j:Int) (R:VK),0<=j->j<36->(∀ d:Nat,R (.str ⟨#[d]⟩) H)->rIxS (V.str "abcdefghijklmnopqrstuvwxyz0123456789") (V.int j) H R:=fun j R h0 h1 k=>by
   obtain⟨d,hd⟩:=zm5 j h0 h1
   exact⟨abc,_,d,rfl,rfl,by decide,hd,k d⟩
  refine⟨cdiv (by decide) (by decide),by decide,ite2 (fun _=>ite2 (fun h8=>?_) (fun h8=>?_)) (fun _=>⟨by decide,ite2 (fun _=>?_) (fun _=>?_)⟩)⟩
  .have h8':8<=k:=by have:=x05 h8;omega
   have e7:(k:Int)-7=((k-7:Nat):Int):=by omega
   rw[e7]
   refine⟨by decide,sgn _ _ (by omega) (by omega) fun d=>⟨by decide,sgn _ _ (by omega) (by omega) fun d'=>⟨_,rfl,zix (by omega),_,rfl,?_,q _ ?_⟩⟩⟩
   .rw[zar]
    exact zf (by show 1+_<=_;omega)
   .rw[PySem.Str.length_append,zar]
    show 1+_<=_
    omega
  .have e7:(k:Int)+1=((k+1:Nat):Int):=by omega
   rw[e7]
   refine⟨by decide,sgn _ _ (by omega) (by omega) fun d=>⟨_,rfl,zix (by omega),q _ ?_⟩⟩
   rw[zar]
   omega
  .have l7:∀ u,(Txt.slice ("k0stemz":Str) none u).length<=7:=fun u=>Txt.slice_le _ _ _
   refine⟨.inl ⟨by decide,by decide⟩,by decide,sgn _ _ (by omega) (by omega) fun d=>⟨cdiv (by decide) (by decide),.inl ⟨by decide,by decide⟩,by decide,by decide,_,rfl,?_,q _ ?_⟩⟩
   .have:=l7 (some ((c/3/36+3*(k:Int))%8))
    exact zf (by show 1+_<=_;omega)
   .have:=l7 (some ((c/3/36+3*(k:Int))%8))
    rw[PySem.Str.length_append]
    show 1+_<=_
    omega
  .refine⟨by decide,cdiv (by decide) (by decide),by omega,⟨by omega,by omega⟩,?_⟩
   refine z5g (fun i σ H'=>H'=H/\∃(z:Str) (v v':Option V),σ=[some (V.int c),some (V.int k),some (V.str "abcdefghijklmnopqrstuvwxyz0123456789"),some (V.int (c/3)),some (V.int (1+c/3%8)),some (V.int (c/3/8%(1+c/3%8))),some (V.str z),v,v']/\z.length=i) ⟨rfl,_,_,_,rfl,rfl⟩ ?_ ?_
   .rintro Pv hP i σ H' hi ⟨rfl,z,v,v',rfl,hz⟩
    walk_at "rd"
    refine⟨cdiv (by decide) (by decide),.inl ⟨by decide,by decide⟩,?_⟩
    refine z6a (fun σ H2=>H2=H'/\∃(r:Int),σ=[some (V.int c),some (V.int k),some (V.str "abcdefghijklmnopqrstuvwxyz0123456789"),some (V.int (c/3)),some (V.int (1+c/3%8)),some (V.int (c/3/8%(1+c/3%8))),some (V.str z),some (V.int (0+i)),some (V.int r)]) (fun Mid hM=>?_) ?_
    .walk_at "rd"
     exact ite2 (fun _=>⟨cdiv (by decide) (by decide),.inl ⟨by decide,by decide⟩,hM _ _ ⟨rfl,_,rfl⟩⟩) (fun _=>hM _ _ ⟨rfl,_,rfl⟩)
    .rintro σ H2 ⟨rfl,r,rfl⟩
     walk_at "rd"
     refine⟨by decide,sgn _ _ (by omega) (by omega) fun d=>⟨_,rfl,zf (by show _+1<=_;omega),hP _ _ _ ⟨rfl,_,_,_,rfl,?_⟩⟩⟩
     rw[PySem.Str.length_append]
     show _+1=_
     omega
   .rintro σ H' ⟨rfl,z,v,v',rfl,hz⟩
    walk_at "rd"
    exact q z (by omega)
noncomputable def zf8:Sp:=fun vs H Q _=>∃(c:Int)(m:Nat),vs=[.int c,.int m]/\m<=10/\∀(r:Addr)(zs:List Str)(H':Hp),zs.length=m->(∀z∈zs,z.length<=16)->H r=none->H' r=some (.lst (zs.map V.str))->Same H H'->Q (.ref r) H'
theorem zby(F:Def K mg "_law_names" z50 ["_law_cell","_law_many"])(T:Txt K mg y0 yb ya y6 y9 y8 y7)(yl:Has P w K mg base 1 "_law_name" ["_law_cell","_law_k"] (zdk)):Has P w K mg base 2 "_law_names" ["_law_cell","_law_many"] (zf8):=by
 refine F.ok zbx (fun vs H Q E h=>?_) (fun f cdv A outer s H vs Q E hr h=>?_)
 .obtain⟨c,m,rfl,_⟩:=h
  rfl
 .obtain⟨c,m,rfl,hm,q⟩:=h
  have hu:=hr.units0
  refine⟨_,(@zd _ _ _ (@zn _ _ _ _ (@z1z _ _ "_law_k" (["_law_cell"]) ([0]) _ _ _ _ _ _ _ _ rfl ⟨rfl,by decide+kernel,by decide+kernel,rfl,zv rfl,by decide+kernel,⟨⟨rfl,Or.inl rfl,rfl⟩,trivial⟩⟩ (@z2r _ _ _ _ _ _ rfl T.b_range (@z6 _ _ _ _ _ (pv 1) z9 rfl) rfl) (fun _ _ _ _=>z39) (fun _ _ _ _=>(@zw _ _ _ _ _ _ _ _ _ _ yl (hr.mono (by decide)) rfl (@z6 _ _ _ _ _ (pv 1) (@z6 _ _ _ _ _ (pv 0) z9 rfl) rfl) (by decide) rfl rfl)) (by intro _;rfl)))),?_⟩
  walk_at "rd"
  refine⟨⟨by omega,by omega⟩,?_⟩
  rw[x11]
  refine z34 (zf (by omega)) (fun i acc H'=>H'=H/\∃zs:List Str,acc=zs.map V.str/\zs.length=i/\∀z∈zs,z.length<=16) ⟨rfl,[],rfl,rfl,by simp⟩ ?_ ?_ ?_
  .rintro i acc H' ⟨-,zs,rfl,rfl,-⟩
   rw[x0]
   exact xk _
  .rintro Nn i acc H' hN hi ⟨rfl,zs,rfl,hl,hz⟩
   walk_at "rd"
   refine⟨c,i,by simp,by omega,fun z hz'=>hN _ _ ⟨rfl,zs++[z],by simp,by simp[hl],?_⟩⟩
   intro y hy
   rcases xz.mp hy with h|h
   .exact hz y h
   .have:y=z:=by simpa using h
    rw[this]
    exact hz'
  .rintro acc H' ⟨rfl,zs,rfl,hl,hz⟩ p hp
   exact q p zs _ hl hz hp z8 (Same.upd hp)
noncomputable def zf9:Sp:=fun vs H Q _=>∃(c w':Int)(m:Nat),vs=[.int c,.int w',.int m]/\m<=10/\∀(r:Addr)(zs:List Str)(H':Hp),zs.length=m->(∀z∈zs,z.length<=200)->H r=none->H' r=some (.lst (zs.map V.str))->Same H H'->Q (.ref r) H'
theorem zbz(F:Def K mg "_law_locks" z51 ["_law_cell","_law_words","_law_many"])(T:Txt K mg y0 yb ya y6 y9 y8 y7)(yl:Has P w K mg base 1 "_law_name" ["_law_cell","_law_k"] (zdk)):Has P w K mg base 2 "_law_locks" ["_law_cell","_law_words","_law_many"] (zf9):=by
 refine F.ok sc__law_locks (fun vs H Q E h=>?_) (fun f cdv A outer s H vs Q E hr h=>?_)
 .obtain⟨c,w',m,rfl,_⟩:=h
  rfl
 .obtain⟨c,w',m,rfl,hm,q⟩:=h
  have hu:=hr.units0
  refine⟨_,(@za _ _ _ _ _ (@zk _ _ 3 _ _ _ _ sc__law_locks.nd rfl (Or.inl rfl) (@z1c _ _ _ _ z9) rfl (Or.inr rfl)) (@za _ _ _ _ _ (@zk _ _ 4 _ _ _ _ sc__law_locks.nd rfl (Or.inl rfl) (@zg _ _ _ _ _ _ _ _ z1a (pv 0) z7) rfl (Or.inr rfl)) (@za _ _ _ _ _ (@z1u _ _ _ _ _ _ _ _ x0m rfl (@z2r _ _ _ _ _ _ rfl T.b_range (@z6 _ _ _ _ _ (pv 2) z9 rfl) rfl) (@z15 _ _ 5 _ sc__law_locks.nd rfl (Or.inl rfl) (Or.inr rfl)) (@za _ _ _ _ _ (@zk _ _ 6 _ _ _ _ sc__law_locks.nd rfl (Or.inl rfl) (@zkh _ _ _ _ _ _ zhh z7) rfl (Or.inr rfl)) (@z3x _ _ _ _ _ (@z11 _ _ _ _ _ _ _ _ (@zo _ _ _ _ _ _ _ _ z1f (@zg _ _ _ _ _ _ _ _ z14 (pv 0) z7) z7 (zm _)) (@zd _ _ _ (@zk _ _ 6 _ _ _ _ sc__law_locks.nd rfl (Or.inl rfl) (@zg _ _ _ _ _ _ _ _ z2n (pv 5) z7) rfl (Or.inr rfl))) zp) (@z3x _ _ _ _ _ (@z11 _ _ _ _ _ _ _ _ (@zo _ _ _ _ _ _ _ _ z1f (@zg _ _ _ _ _ _ _ _ z14 (pv 0) z7) z7 (zm _)) (@zd _ _ _ (@zk _ _ 6 _ _ _ _ sc__law_locks.nd rfl (Or.inl rfl) (@zg _ _ _ _ _ _ _ _ z2n (@zj _ _ _ _ _ _ _ _ _ (zb1 rfl) rfl T.b_min (by decide+kernel) (@z6 _ _ _ _ _ (pv 5) (@z6 _ _ _ _ _ z7 z9 rfl) rfl) (by decide) (by decide) rfl rfl) z7) rfl (Or.inr rfl))) zp) (@z3x _ _ _ _ _ (@z11 _ _ _ _ _ _ _ _ (@zo _ _ _ _ _ _ _ _ z1f (@zg _ _ _ _ _ _ _ _ z14 (pv 0) z7) z7 (zm _)) (@zd _ _ _ (@zk _ _ 6 _ _ _ _ sc__law_locks.nd rfl (Or.inl rfl) (@zg _ _ _ _ _ _ _ _ z1a (@zg _ _ _ _ _ _ _ _ z2n (pv 5) z7) z7) rfl (Or.inr rfl))) zp) (@z3x _ _ _ _ _ (@z11 _ _ _ _ _ _ _ _ (@zo _ _ _ _ _ _ _ _ zc3 (@zg _ _ _ _ _ _ _ _ z14 (pv 0) z7) z7 (zm _)) (@za _ _ _ _ _ (@zk _ _ 6 _ _ _ _ sc__law_locks.nd rfl (Or.inl rfl) (@zg _ _ _ _ _ _ _ _ z2n (@zg _ _ _ _ _ _ _ _ z14 (pv 4) (@zg _ _ _ _ _ _ _ _ z18 (pv 5) z7)) z7) rfl (Or.inr rfl)) (@zd _ _ _ (@zk _ _ 4 _ _ _ _ sc__law_locks.nd rfl (Or.inl rfl) (@zg _ _ _ _ _ _ _ _ z1a (pv 4) (@zg _ _ _ _ _ _ _ _ z18 (pv 5) z7)) rfl (Or.inr rfl)))) zp) (@za _ _ _ _ _ (@zk _ _ 7 _ _ _ _ sc__law_locks.nd rfl (Or.inl rfl) (@zw _ _ _ _ _ _ _ _ _ _ yl (hr.mono (by decide)) rfl (@z6 _ _ _ _ _ (pv 1) (@z6 _ _ _ _ _ (pv 5) z9 rfl) rfl) (by decide) rfl rfl) rfl (Or.inr rfl)) (@z3x _ _ _ _ _ (@z11 _ _ _ _ _ _ _ _ (PW.pt (@z2w _ _ _ _ _ _ _ (@zo _ _ _ _ _ _ _ _ zc3 (pv 6) z7 (zm _)) (@z3v _ _ _ _ (@zo _ _ _ _ _ _ _ _ z7y (@z2c _ _ _ _ _ _ _ _ _ _ _ _ PySem.F.plainAttrs_str PySem.F.slot_str_count PySem.F.type_str_count zjl (@zi _ _ _ _ _ _ _ ix_list (pv 3) (pv 6) (fun _ _=>rfl)) (@z6 _ _ _ _ _ zl z9 rfl) rfl rfl rfl rfl rfl) z7 (zm _))))) (@zd _ _ _ (@zk _ _ 7 _ _ _ _ sc__law_locks.nd rfl (Or.inl rfl) (@zg _ _ _ _ _ _ _ _ z3m (@zg _ _ _ _ _ _ _ _ z3m (@zi _ _ _ _ _ _ _ ix_list (pv 3) (pv 6) (fun _ _=>rfl)) zl) (pv 7)) rfl (Or.inr rfl))) zp) (@zd _ _ _ (@z1h _ _ _ _ (@z2c _ _ _ _ _ _ _ _ _ _ _ _ x0a x0d x0e z1r (pv 3) (@z6 _ _ _ _ _ (pv 7) z9 rfl) rfl rfl rfl rfl rfl) rfl))))))))) (by intro _;rfl)) (@zd _ _ _ (@zn _ _ _ _ (pv 3)))))),?_⟩
  walk_at "rd"
  refine⟨by decide,fun p hp=>⟨cdiv (by decide) (by decide),⟨by omega,by omega⟩,?_⟩⟩
  rw[x11]
  let Inv:=fun(i:Nat) (zs:List Str) (H':Hp)=>zs.length=i/\(∀z∈zs,z.length<=20*i)/\H' p=some (.lst (zs.map V.str))/\Same H H'
  refine z5g (fun i σ H'=>∃(zs:List Str)(r:Int)(v5 v6 v7:Option V),σ=[some (.int c),some (.int w'),some (.int m),some (.ref p),some (.int r),v5,v6,v7]/\Inv i zs H') ⟨[],_,_,_,_,rfl,rfl,(fun z hz=>by cases hz),z8,Same.upd hp⟩ ?_ ?_
  .rintro Pv hP i σ H' hi ⟨zs,r,v5,v6,v7,rfl,hI⟩
   walk_at "rd"
   refine z6a (fun σ H2=>H'=H2/\∃(pa r:Int),-1<=pa/\pa<i/\σ=[some (.int c),some (.int w'),some (.int m),some (.ref p),some (.int r),some (.int (0+i)),some (.int pa),v7]) (fun Mid hM=>?_) ?_
   .walk_at "rd"
    exact⟨by decide,ite2 (fun _=>hM _ _ ⟨rfl,_,_,by omega,by omega,rfl⟩) (fun _=>hM _ _ ⟨rfl,_,_,by omega,by omega,rfl⟩)⟩
   rintro σ H2 ⟨rfl,pa,r,p1,p2,rfl⟩
   refine z6a (fun σ H2=>H'=H2/\∃(pa r:Int),-1<=pa/\pa<i/\σ=[some (.int c),some (.int w'),some (.int m),some (.ref p),some (.int r),some (.int (0+i)),some (.int pa),v7]) (fun Mid hM=>?_) ?_
   .walk_at "rd"
    refine⟨by decide,ite2 (fun _=>⟨_,_,⟨rfl,rfl⟩,hM _ _ ⟨rfl,_,_,?_,?_,rfl⟩⟩) (fun _=>hM _ _ ⟨rfl,_,_,p1,p2,rfl⟩)⟩<;>(split<;>omega)
   rintro σ H2 ⟨rfl,pa,r,p1,p2,rfl⟩
   refine z6a (fun σ H2=>H'=H2/\∃(pa r:Int),-1<=pa/\pa<i/\σ=[some (.int c),some (.int w'),some (.int m),some (.ref p),some (.int r),some (.int (0+i)),some (.int pa),v7]) (fun Mid hM=>?_) ?_
   .walk_at "rd"
    exact⟨by decide,ite2 (fun _=>⟨cdiv (by decide) (by decide),hM _ _ ⟨rfl,_,_,by omega,by omega,rfl⟩⟩) (fun _=>hM _ _ ⟨rfl,_,_,p1,p2,rfl⟩)⟩
   rintro σ H2 ⟨rfl,pa,r,p1,p2,rfl⟩
   refine z6a (fun σ H2=>H'=H2/\∃(pa r:Int),-1<=pa/\pa<i/\σ=[some (.int c),some (.int w'),some (.int m),some (.ref p),some (.int r),some (.int (0+i)),some (.int pa),v7]) (fun Mid hM=>?_) ?_
   .walk_at "rd"
    have b1:=Int.emod_nonneg r (b:=0+(i:Int)+1) (by omega)
    have b2:=Int.emod_lt_of_pos r (b:=0+(i:Int)+1) (by omega)
    exact⟨by decide,ite2 (fun _=>⟨by omega,cdiv (by omega) (by omega),hM _ _ ⟨rfl,_,_,by omega,by omega,rfl⟩⟩) (fun _=>hM _ _ ⟨rfl,_,_,p1,p2,rfl⟩)⟩
   rintro σ H2 ⟨rfl,pa,r,p1,p2,rfl⟩
   obtain⟨hl,hz,hg,hs⟩:=hI
   walk_at "rd"
   refine⟨w',i,by simp,by omega,fun z hz16=>?_⟩
   refine z6a (fun σ H2=>H'=H2/\∃z:Str,z.length<=20*(i+1)/\σ=[some (.int c),some (.int w'),some (.int m),some (.ref p),some (.int r),some (.int (0+i)),some (.int pa),some (.str z)]) (fun Mid hM=>?_) ?_
   .walk_at "rd"
    refine ite2 (fun h0=>?_) (fun _=>hM _ _ ⟨rfl,z,by omega,rfl⟩)
    obtain⟨n,rfl⟩:=x0v (x05 h0)
    have hn:n<zs.length:=by omega
    have gn:(zs.map V.str)[n]? =some (.str zs[n]):=by rw[xc,x6 hn];rfl
    have bn:=hz _ (x1b hn)
    have l1:("/":Str).length=1:=rfl
    refine⟨_,_,_,_,rfl,rfl,SqL.of hg,zc gn,trivial,_,rfl,ite2 (fun _=>?_) (fun _=>hM _ _ ⟨rfl,z,by omega,rfl⟩)⟩
    refine⟨_,_,_,_,rfl,rfl,SqL.of hg,zc gn,_,rfl,zf (by omega),zf (by rw[PySem.Str.length_append];omega),hM _ _ ⟨rfl,_,?_,rfl⟩⟩
    rw[PySem.Str.length_append,PySem.Str.length_append]
    omega
   rintro σ H2 ⟨rfl,y,hy,rfl⟩
   walk_at "rd"
   refine⟨.inl ⟨_,SqL.of hg⟩,_,_,_,rfl,rfl,hg,by rw[x0];exact z1k (by omega),hP _ _ _ ⟨zs++[y],_,_,_,_,rfl,by simp[hl],fun x hx=>?_,?_,?_⟩⟩
   .rcases xz.mp hx with h|h
    .have:=hz x h
     omega
    .have:x=y:=by simpa using h
     rw[this]
     exact hy
   .rw[z8,x0b]
    rfl
   .intro b o e
    rw[zb (ze e hp)]
    exact hs b o e
  .rintro σ H' ⟨zs,r,v5,v6,v7,rfl,hl,hz,hg,hs⟩
   walk_at "rd"
   exact q p zs H' hl (fun z h=>by have:=hz z h;omega) hp hg hs
noncomputable def zgx(a b:Str):Bool:=decide ((sp a).take (min (sp a).length (sp b).length)=(sp b).take (min (sp a).length (sp b).length))
noncomputable def ziy:Sp:=fun vs H Q _=>∃a b:Str,vs=[.str a,.str b]/\a.length<=1000/\b.length<=1000/\z59 H Q (.bl (zgx a b))
theorem zdm(F:Def K mg "_law_line" z5l ["_law_one","_law_other"])(T:Txt K mg y0 yb ya y6 y9 y8 y7):Has P w K mg base 1 "_law_line" ["_law_one","_law_other"] (ziy):=by
 refine F.ok sc__law_line (fun vs H Q E h=>?_) (fun f cdv A outer s H vs Q E hr h=>?_)
 .obtain⟨a,b,rfl,_⟩:=h
  rfl
 .obtain⟨a,b,rfl,ha,hb,k⟩:=h
  have hu:=hr.units0
  refine⟨_,(@za _ _ _ _ _ (@zk _ _ 2 _ _ _ _ sc__law_line.nd rfl (Or.inl rfl) (@z2c _ _ _ _ _ _ _ _ _ _ _ _ PySem.F.plainAttrs_str PySem.F.slot_str_split PySem.F.type_str_split z69 (pv 0) (@z6 _ _ _ _ _ zl z9 rfl) rfl rfl rfl rfl rfl) rfl (Or.inr rfl)) (@za _ _ _ _ _ (@zk _ _ 3 _ _ _ _ sc__law_line.nd rfl (Or.inl rfl) (@z2c _ _ _ _ _ _ _ _ _ _ _ _ PySem.F.plainAttrs_str PySem.F.slot_str_split PySem.F.type_str_split z69 (pv 1) (@z6 _ _ _ _ _ zl z9 rfl) rfl rfl rfl rfl rfl) rfl (Or.inr rfl)) (@za _ _ _ _ _ (@zk _ _ 4 _ _ _ _ sc__law_line.nd rfl (Or.inl rfl) (@zj _ _ _ _ _ _ _ _ _ (zb1 rfl) rfl T.b_min (by decide+kernel) (@z6 _ _ _ _ _ (@zj _ _ _ _ _ _ _ _ _ zq rfl T.b_len (by decide+kernel) (@z6 _ _ _ _ _ (pv 2) z9 rfl) (by decide) (by decide) rfl rfl) (@z6 _ _ _ _ _ (@zj _ _ _ _ _ _ _ _ _ zq rfl T.b_len (by decide+kernel) (@z6 _ _ _ _ _ (pv 3) z9 rfl) (by decide) (by decide) rfl rfl) z9 rfl) rfl) (by decide) (by decide) rfl rfl) rfl (Or.inr rfl)) (@zd _ _ _ (@zn _ _ _ _ (@z1n _ _ _ _ _ _ _ _ (zhv hu) (@z63 _ _ _ _ _ _ _ _ _ _ za9 (pv 2) z81 (@z82 _ _ _ (pv 4))) (@z63 _ _ _ _ _ _ _ _ _ _ za9 (pv 3) z81 (@z82 _ _ _ (pv 4))) (zm _))))))),?_⟩
  walk_at "rd"
  refine z84 rfl (by omega) fun p hp=>z84 rfl (by omega) fun q hq=>?_
  have npq:p≠q:=ze z8 hq
  have gp:(upd (upd H p (.lst ((Txt.split a "/").map V.str))) q (.lst ((Txt.split b "/").map V.str))) p=some (.lst ((Txt.split a "/").map V.str)):=by rw[zb npq,z8]
  refine⟨_,rfl,_,.inl (SqL.of gp),_,rfl,_,.inl (SqL.of z8),_,_,⟨rfl,rfl⟩,_,_,rfl,SqL.of gp,fun r hr'=>?_⟩
  have nr:∀b,b=p\/b=q->b≠r:=fun b hb z=>by
   subst z
   rcases hb with rfl|rfl
   .rw[gp]at hr';cases hr'
   .rw[z8]at hr';cases hr'
  have em:(if((List.map V.str (Txt.split b "/")).length:Int)<((List.map V.str (Txt.split a "/")).length:Int) then((List.map V.str (Txt.split b "/")).length:Int) else((List.map V.str (Txt.split a "/")).length:Int))=((min (sp a).length (sp b).length:Nat):Int):=by
   rw[x0,x0]
   show(if((sp b).length:Int)<((sp a).length:Int) then((sp b).length:Int) else((sp a).length:Int))=_
   split<;>omega
  rw[em]
  refine⟨_,_,rfl,SqL.of (by rw[zb (nr q (.inr rfl)),z8]),fun t ht=>?_⟩
  have nrt:r≠t:=ze z8 ht
  have c1:cutV (List.map V.str (Txt.split a "/")) none (some ((min (sp a).length (sp b).length:Nat):Int))=((sp a).take (min (sp a).length (sp b).length)).map V.str:=by rw[z9f,<-List.map_take];rfl
  have c2:cutV (List.map V.str (Txt.split b "/")) none (some ((min (sp a).length (sp b).length:Nat):Int))=((sp b).take (min (sp a).length (sp b).length)).map V.str:=by rw[z9f,<-List.map_take];rfl
  refine⟨_,_,_,_,rfl,rfl,SqL.of (by rw[zb nrt,z8]),SqL.of z8,by rw[c1];exact z2o _,by rw[c2];exact z2o _,?_⟩
  have e:eqVs (cutV (List.map V.str (Txt.split a "/")) none (some ((min (sp a).length (sp b).length:Nat):Int))) (cutV (List.map V.str (Txt.split b "/")) none (some ((min (sp a).length (sp b).length:Nat):Int)))=zgx a b:=by
   rw[c1,c2,z68]
   rfl
  show Q (.bl (eqVs _ _)) _
  rw[e]
  exact k _ ((((Same.upd hp).trans (Same.upd hq)).trans (Same.upd hr')).trans (Same.upd ht))
theorem zdn(a b:Str):onl a b=onl b a:=by unfold onl;rw[Bool.or_comm]
theorem zk4{α:Type}[DecidableEq α](A B:List α):(decide (A.take B.length=B)||decide (B.take A.length=A))=decide (A.take (min A.length B.length)=B.take (min A.length B.length)):=by
 rw[x18]
 simp only[Bool.or_eq_true,x10]
 constructor
 .rintro(h|h)
  .have hl:B.length<=A.length:=by have:=x0u List.length h;rw[x04]at this;omega
   rw[Nat.min_eq_right hl,h,x02]
  .have hl:A.length<=B.length:=by have:=x0u List.length h;rw[x04]at this;omega
   rw[Nat.min_eq_left hl,h,x02]
 .intro h
  by_cases hl:B.length<=A.length
  .rw[Nat.min_eq_right hl,x02]at h
   exact .inl h
  .rw[Nat.min_eq_left (by omega),x02]at h
   exact .inr h.symm
theorem zle(a b:Str):onl a b=zgx a b:=zk4 (sp a) (sp b)
noncomputable def zdo:Sp:=fun vs H Q _=>∃(a b:Str)(x y:Bool),vs=[.str a,.bl x,.str b,.bl y]/\a.length<=1000/\b.length<=1000/\z59 H Q (.bl (onl a b&& !(x&&y)))
theorem zem(F:Def K mg "_law_way" z6g ["_law_lock","_law_shared","_law_other","_law_other_shared"])(T:Txt K mg y0 yb ya y6 y9 y8 y7)(y1a:Has P w K mg base 1 "_law_line" ["_law_one","_law_other"] (ziy)):Has P w K mg base 2 "_law_way" ["_law_lock","_law_shared","_law_other","_law_other_shared"] (zdo):=by
  refine F.ok zej (fun vs H Q E h=>?_) (fun f cdv A outer s H vs Q E hr h=>?_)
  · obtain⟨a,b,x,y,rfl,_⟩:=h
    rfl
  · obtain⟨a,b,x,y,rfl,ha,hb,q⟩:=h
    have hu:=hr.units0
    refine⟨_,(@zd _ _ _ (@zn _ _ _ _ (@z2e _ _ _ _ _ _ _ (@zcb _ _ _ _ (@z2e _ _ _ _ _ _ _ (pv 1) (@z2a _ _ _ _ _ (pv 3)))) (@z2a _ _ _ _ _ (@zw _ _ _ _ _ _ _ _ _ _ y1a (hr.mono (by decide)) rfl (@z6 _ _ _ _ _ (pv 0) (@z6 _ _ _ _ _ (pv 2) z9 rfl) rfl) (by decide) rfl rfl))))),?_⟩
    walk_at "rd"
    have e:=zle a b
    cases x<;>cases y<;>simp only[Bool.not_true,Bool.not_false,if_true,if_false,x0i]<;>
    first
    | (refine⟨a,b,rfl,ha,hb,fun H' s'=>?_⟩
       have:=q H' s'
       rw[e]at this
       simpa using this)
    | (have:=q H (Same.refl _)
       simpa using this)
noncomputable def z9x(v:V):Prop:=(∃i,v=.int i)\/(∃z,v=.str z)\/(∃b,v=.bl b)
noncomputable def Alike(H:Hp):Nat->V->V->Prop
 |0,v,v'=>v=v'/\z9x v
 | n+1,v,v'=>(v=v'/\z9x v)\/∃(a b:Addr)(xs ys:List V),v=.ref a/\v'=.ref b/\((H a=some (.lst xs)/\H b=some (.lst ys))\/(H a=some (.tup xs)/\H b=some (.tup ys)))/\xs.length=ys.length/\xs.length<=1000/\
   ∀(i:Nat)(x y:V),xs[i]? =some x->ys[i]? =some y->Alike H n x y
theorem Alike.mono{H H':Hp}(s:Same H H'):∀{n:Nat}{v v':V},Alike H n v v'->Alike H' n v v'
 |0,_,_,h=>h
 |n+1,_,_,.inl h=>.inl h
 |n+1,_,_,.inr ⟨a,b,xs,ys,e1,e2,h,hl,hz,k⟩=>.inr ⟨a,b,xs,ys,e1,e2,h.elim (fun z=>.inl ⟨s _ _ z.1,s _ _ z.2⟩) (fun z=>.inr ⟨s _ _ z.1,s _ _ z.2⟩),hl,hz,fun i x y hx hy=>Alike.mono s (k i x y hx hy)⟩
theorem Alike.up{H:Hp}:∀{n:Nat}{v v':V},Alike H n v v'->Alike H (n+1) v v'
 |0,_,_,h=>.inl h
 |n+1,_,_,.inl h=>.inl h
 |n+1,_,_,.inr ⟨a,b,xs,ys,e1,e2,h,hl,hz,k⟩=>.inr ⟨a,b,xs,ys,e1,e2,h,hl,hz,fun i x y hx hy=>(k i x y hx hy).up⟩
noncomputable def z2q(n:Nat):Sp:=fun vs H Q _=>∃v v',vs=[v,v']/\Alike H n v v'/\z59 H Q (.bl true)
theorem zk5(F:Def K mg "_law_same" z2i ["_law_found","_law_due"])(T:Txt K mg y0 yb ya y6 y9 y8 y7)(ye:Has P w K mg base 0 "_law_same" ["_law_found","_law_due"] (zey)):Has P w K mg base 1 "_law_same" ["_law_found","_law_due"] (z2q 0):=by
 refine F.ok z7r (fun vs H Q E h=>?_) (fun f cdv A outer s H vs Q E hr h=>?_)
 .obtain⟨v,v',rfl,_⟩:=h
  rfl
 .have hu:=hr.units0
  obtain⟨v,v',rfl,pv',q⟩:=h
  replace pv':v=v'/\z9x v:=pv'
  .obtain⟨rfl,pv'⟩:=pv'
   refine⟨_,(@za _ _ _ _ _ (@z11 _ _ _ _ _ _ _ _ (@z1i _ _ _ (@zj _ _ _ _ _ _ _ _ _ z78 rfl T.b_isinstance (by decide+kernel) (@z6 _ _ _ _ _ (pv 1) (@z6 _ _ _ _ _ (@z1p _ _ _ _ _ (@z6 _ _ _ _ _ (@z10 _ _ (.ty "list") _ _ rfl T.b_list (by decide+kernel) rfl (by decide) (by decide)) (@z6 _ _ _ _ _ (@z10 _ _ (.ty "tuple") _ _ rfl T.b_tuple (by decide+kernel) rfl (by decide) (by decide)) z9 rfl) rfl)) z9 rfl) rfl) (by decide) (by decide) rfl rfl) (by intro _;rfl)) (@za _ _ _ _ _ (@z11 _ _ _ _ _ _ _ _ (PW.pt (@z99 _ _ _ _ _ _ _ (@zo _ _ _ _ _ _ _ _ z2j (@zj _ _ _ _ _ _ _ _ _ z13 rfl T.b_isinstance (by decide+kernel) (@z6 _ _ _ _ _ (pv 0) (@z6 _ _ _ _ _ (@z10 _ _ (.ty "list") _ _ rfl T.b_list (by decide+kernel) rfl (by decide) (by decide)) z9 rfl) rfl) (by decide) (by decide) rfl rfl) (@zj _ _ _ _ _ _ _ _ _ z13 rfl T.b_isinstance (by decide+kernel) (@z6 _ _ _ _ _ (pv 1) (@z6 _ _ _ _ _ (@z10 _ _ (.ty "list") _ _ rfl T.b_list (by decide+kernel) rfl (by decide) (by decide)) z9 rfl) rfl) (by decide) (by decide) rfl rfl) (zm _)) (@z71 _ _ _ _ (@zo _ _ _ _ _ _ _ _ z2j (@zj _ _ _ _ _ _ _ _ _ z13 rfl T.b_isinstance (by decide+kernel) (@z6 _ _ _ _ _ (pv 0) (@z6 _ _ _ _ _ (@z10 _ _ (.ty "tuple") _ _ rfl T.b_tuple (by decide+kernel) rfl (by decide) (by decide)) z9 rfl) rfl) (by decide) (by decide) rfl rfl) (@zj _ _ _ _ _ _ _ _ _ z13 rfl T.b_isinstance (by decide+kernel) (@z6 _ _ _ _ _ (pv 1) (@z6 _ _ _ _ _ (@z10 _ _ (.ty "tuple") _ _ rfl T.b_tuple (by decide+kernel) rfl (by decide) (by decide)) z9 rfl) rfl) (by decide) (by decide) rfl rfl) (zm _))))) (@zd _ _ _ (@zn _ _ _ _ z2b)) zp) (@zd _ _ _ (@zn _ _ _ _ (@z2e _ _ _ _ _ _ _ (@z1n _ _ _ _ _ _ _ _ z1f (@zj _ _ _ _ _ _ _ _ _ zq rfl T.b_len (by decide+kernel) (@z6 _ _ _ _ _ (pv 0) z9 rfl) (by decide) (by decide) rfl rfl) (@zj _ _ _ _ _ _ _ _ _ zq rfl T.b_len (by decide+kernel) (@z6 _ _ _ _ _ (pv 1) z9 rfl) (by decide) (by decide) rfl rfl) (zm _)) (@z2a _ _ _ _ _ (@zj _ _ _ _ _ _ _ _ _ (z5f rfl) rfl T.b_all (by decide+kernel) (@z6 _ _ _ _ _ (@z1z _ _ "_law_k" (["_law_found","_law_due"]) ([0,1]) _ _ _ _ _ _ _ _ rfl ⟨rfl,by decide+kernel,by decide+kernel,rfl,zv rfl,by decide+kernel,⟨⟨rfl,Or.inl rfl,rfl⟩,⟨⟨rfl,Or.inl rfl,rfl⟩,trivial⟩⟩⟩ (@z2r _ _ _ _ _ _ rfl T.b_range (@z6 _ _ _ _ _ (@zj _ _ _ _ _ _ _ _ _ zq rfl T.b_len (by decide+kernel) (@z6 _ _ _ _ _ (pv 1) z9 rfl) (by decide) (by decide) rfl rfl) z9 rfl) rfl) (fun _ _ _ _=>z39) (fun _ _ _ _=>(@zw _ _ _ _ _ _ _ _ _ _ ye (hr.mono (by decide)) rfl (@z6 _ _ _ _ _ (@zi _ _ _ _ _ _ _ (z3y (K:=K)) (pv 1) (pv 0) (fun _ _=>rfl)) (@z6 _ _ _ _ _ (@zi _ _ _ _ _ _ _ (z3y (K:=K)) (pv 2) (pv 0) (fun _ _=>rfl)) z9 rfl) rfl) (by decide) rfl rfl)) (by intro _;rfl)) z9 rfl) (by decide) (by decide) rfl rfl)))))) zp) (@za _ _ _ _ _ (@z11 _ _ _ _ _ _ _ _ (@zo _ _ _ _ _ _ _ _ z2j (@zj _ _ _ _ _ _ _ _ _ z13 rfl T.b_isinstance (by decide+kernel) (@z6 _ _ _ _ _ (pv 0) (@z6 _ _ _ _ _ (@z10 _ _ (.ty "bool") _ _ rfl T.b_bool (by decide+kernel) rfl (by decide) (by decide)) z9 rfl) rfl) (by decide) (by decide) rfl rfl) (@zj _ _ _ _ _ _ _ _ _ z13 rfl T.b_isinstance (by decide+kernel) (@z6 _ _ _ _ _ (pv 1) (@z6 _ _ _ _ _ (@z10 _ _ (.ty "bool") _ _ rfl T.b_bool (by decide+kernel) rfl (by decide) (by decide)) z9 rfl) rfl) (by decide) (by decide) rfl rfl) (zm _)) (@zd _ _ _ (@zn _ _ _ _ z2b)) zp) (@za _ _ _ _ _ (@z11 _ _ _ _ _ _ _ _ (@z1i _ _ _ (@zj _ _ _ _ _ _ _ _ _ z13 rfl T.b_isinstance (by decide+kernel) (@z6 _ _ _ _ _ (pv 1) (@z6 _ _ _ _ _ (@z10 _ _ (.ty "int") _ _ rfl T.b_int (by decide+kernel) rfl (by decide) (by decide)) z9 rfl) rfl) (by decide) (by decide) rfl rfl) (by intro _;rfl)) (@zd _ _ _ (@zn _ _ _ _ (@z2e _ _ _ _ _ _ _ (@zj _ _ _ _ _ _ _ _ _ z13 rfl T.b_isinstance (by decide+kernel) (@z6 _ _ _ _ _ (pv 0) (@z6 _ _ _ _ _ (@z10 _ _ (.ty "int") _ _ rfl T.b_int (by decide+kernel) rfl (by decide) (by decide)) z9 rfl) rfl) (by decide) (by decide) rfl rfl) (@z2a _ _ _ _ _ (@z1n _ _ _ _ _ _ _ _ z1f (pv 0) (pv 1) (zm _)))))) zp) (@zd _ _ _ (@zn _ _ _ _ (@z2e _ _ _ _ _ _ _ (@zj _ _ _ _ _ _ _ _ _ z13 rfl T.b_isinstance (by decide+kernel) (@z6 _ _ _ _ _ (pv 0) (@z6 _ _ _ _ _ (@z10 _ _ (.ty "str") _ _ rfl T.b_str (by decide+kernel) rfl (by decide) (by decide)) z9 rfl) rfl) (by decide) (by decide) rfl rfl) (@z2a _ _ _ _ _ (@z1n _ _ _ _ _ _ _ _ z1f (pv 0) (pv 1) (zm _))))))))),?_⟩
   walk_at "rd"
   refine⟨zf (by decide),fun p hp=>?_⟩
   have s1:=q _ (Same.upd (o:=.tup [V.ty "list",V.ty "tuple"]) hp)
   rcases pv' with⟨i,rfl⟩|⟨z,rfl⟩|⟨b,rfl⟩
   .refine⟨_,_,⟨rfl,rfl⟩,_,_,SqT.of z8,_,.int i,_,(z3k K).1,?_⟩
    rw[if_neg xa]
    refine⟨_,_,⟨rfl,rfl⟩,_,.int i,_,z3p K,_,_,⟨rfl,rfl⟩,_,.int i,_,z3p K,?_⟩
    rw[if_neg (by decide)]
    refine⟨_,_,⟨rfl,rfl⟩,_,.int i,_,(z1j K).1,?_⟩
    rw[if_pos rfl]
    refine⟨_,_,⟨rfl,rfl⟩,_,.int i,_,(z1j K).1,?_⟩
    rw[if_pos rfl]
    exact⟨rfl,by simpa using s1⟩
   .refine⟨_,_,⟨rfl,rfl⟩,_,_,SqT.of z8,_,.str z,_,(z3k K).2.2.1,?_⟩
    rw[if_neg xa]
    refine⟨_,_,⟨rfl,rfl⟩,_,.str z,_,(z1j K).2.2.2.2.2.1,_,_,⟨rfl,rfl⟩,_,.str z,_,(z1j K).2.2.2.2.2.1,?_⟩
    rw[if_neg (by decide)]
    refine⟨_,_,⟨rfl,rfl⟩,_,.str z,_,(z1j K).2.2.1,?_⟩
    rw[if_neg xa]
    refine⟨_,_,⟨rfl,rfl⟩,_,.str z,_,(z1j K).2.2.2.1,?_⟩
    rw[if_pos rfl]
    exact⟨rfl,by simpa using s1⟩
   .refine⟨_,_,⟨rfl,rfl⟩,_,_,SqT.of z8,_,.bl b,_,(z3k K).2.1,?_⟩
    rw[if_neg xa]
    refine⟨_,_,⟨rfl,rfl⟩,_,.bl b,_,z3g K,_,_,⟨rfl,rfl⟩,_,.bl b,_,z3g K,?_⟩
    rw[if_neg (by decide)]
    refine⟨_,_,⟨rfl,rfl⟩,_,.bl b,_,(z1j K).2.1,?_⟩
    rw[if_pos rfl]
    refine⟨_,_,⟨rfl,rfl⟩,_,.bl b,_,(z1j K).2.1,?_⟩
    rw[if_pos rfl]
    exact⟨rfl,by simpa using s1⟩
theorem z94{n:Nat}(F:Def K mg "_law_same" z2i ["_law_found","_law_due"])(T:Txt K mg y0 yb ya y6 y9 y8 y7)(ye:Has P w K mg base (n+1) "_law_same" ["_law_found","_law_due"] (z2q n)):Has P w K mg base (n+1+1) "_law_same" ["_law_found","_law_due"] (z2q (n+1)):=by
 refine F.ok z7r (fun vs H Q E h=>?_) (fun f cdv A outer s H vs Q E hr h=>?_)
 .obtain⟨v,v',rfl,_⟩:=h
  rfl
 .have hu:=hr.units0
  obtain⟨v,v',rfl,pv',q⟩:=h
  rcases pv' with pv'|⟨a,b,xs,ys,rfl,rfl,hab,hlm,hz,kk⟩
  .obtain⟨rfl,pv'⟩:=pv'
   refine⟨_,(@za _ _ _ _ _ (@z11 _ _ _ _ _ _ _ _ (@z1i _ _ _ (@zj _ _ _ _ _ _ _ _ _ z78 rfl T.b_isinstance (by decide+kernel) (@z6 _ _ _ _ _ (pv 1) (@z6 _ _ _ _ _ (@z1p _ _ _ _ _ (@z6 _ _ _ _ _ (@z10 _ _ (.ty "list") _ _ rfl T.b_list (by decide+kernel) rfl (by decide) (by decide)) (@z6 _ _ _ _ _ (@z10 _ _ (.ty "tuple") _ _ rfl T.b_tuple (by decide+kernel) rfl (by decide) (by decide)) z9 rfl) rfl)) z9 rfl) rfl) (by decide) (by decide) rfl rfl) (by intro _;rfl)) (@za _ _ _ _ _ (@z11 _ _ _ _ _ _ _ _ (PW.pt (@z99 _ _ _ _ _ _ _ (@zo _ _ _ _ _ _ _ _ z2j (@zj _ _ _ _ _ _ _ _ _ z13 rfl T.b_isinstance (by decide+kernel) (@z6 _ _ _ _ _ (pv 0) (@z6 _ _ _ _ _ (@z10 _ _ (.ty "list") _ _ rfl T.b_list (by decide+kernel) rfl (by decide) (by decide)) z9 rfl) rfl) (by decide) (by decide) rfl rfl) (@zj _ _ _ _ _ _ _ _ _ z13 rfl T.b_isinstance (by decide+kernel) (@z6 _ _ _ _ _ (pv 1) (@z6 _ _ _ _ _ (@z10 _ _ (.ty "list") _ _ rfl T.b_list (by decide+kernel) rfl (by decide) (by decide)) z9 rfl) rfl) (by decide) (by decide) rfl rfl) (zm _)) (@z71 _ _ _ _ (@zo _ _ _ _ _ _ _ _ z2j (@zj _ _ _ _ _ _ _ _ _ z13 rfl T.b_isinstance (by decide+kernel) (@z6 _ _ _ _ _ (pv 0) (@z6 _ _ _ _ _ (@z10 _ _ (.ty "tuple") _ _ rfl T.b_tuple (by decide+kernel) rfl (by decide) (by decide)) z9 rfl) rfl) (by decide) (by decide) rfl rfl) (@zj _ _ _ _ _ _ _ _ _ z13 rfl T.b_isinstance (by decide+kernel) (@z6 _ _ _ _ _ (pv 1) (@z6 _ _ _ _ _ (@z10 _ _ (.ty "tuple") _ _ rfl T.b_tuple (by decide+kernel) rfl (by decide) (by decide)) z9 rfl) rfl) (by decide) (by decide) rfl rfl) (zm _))))) (@zd _ _ _ (@zn _ _ _ _ z2b)) zp) (@zd _ _ _ (@zn _ _ _ _ (@z2e _ _ _ _ _ _ _ (@z1n _ _ _ _ _ _ _ _ z1f (@zj _ _ _ _ _ _ _ _ _ zq rfl T.b_len (by decide+kernel) (@z6 _ _ _ _ _ (pv 0) z9 rfl) (by decide) (by decide) rfl rfl) (@zj _ _ _ _ _ _ _ _ _ zq rfl T.b_len (by decide+kernel) (@z6 _ _ _ _ _ (pv 1) z9 rfl) (by decide) (by decide) rfl rfl) (zm _)) (@z2a _ _ _ _ _ (@zj _ _ _ _ _ _ _ _ _ (z5f rfl) rfl T.b_all (by decide+kernel) (@z6 _ _ _ _ _ (@z1z _ _ "_law_k" (["_law_found","_law_due"]) ([0,1]) _ _ _ _ _ _ _ _ rfl ⟨rfl,by decide+kernel,by decide+kernel,rfl,zv rfl,by decide+kernel,⟨⟨rfl,Or.inl rfl,rfl⟩,⟨⟨rfl,Or.inl rfl,rfl⟩,trivial⟩⟩⟩ (@z2r _ _ _ _ _ _ rfl T.b_range (@z6 _ _ _ _ _ (@zj _ _ _ _ _ _ _ _ _ zq rfl T.b_len (by decide+kernel) (@z6 _ _ _ _ _ (pv 1) z9 rfl) (by decide) (by decide) rfl rfl) z9 rfl) rfl) (fun _ _ _ _=>z39) (fun _ _ _ _=>(@zw _ _ _ _ _ _ _ _ _ _ ye (hr.mono (by omega)) rfl (@z6 _ _ _ _ _ (@zi _ _ _ _ _ _ _ (z3y (K:=K)) (pv 1) (pv 0) (fun _ _=>rfl)) (@z6 _ _ _ _ _ (@zi _ _ _ _ _ _ _ (z3y (K:=K)) (pv 2) (pv 0) (fun _ _=>rfl)) z9 rfl) rfl) (by decide) rfl rfl)) (by intro _;rfl)) z9 rfl) (by decide) (by decide) rfl rfl)))))) zp) (@za _ _ _ _ _ (@z11 _ _ _ _ _ _ _ _ (@zo _ _ _ _ _ _ _ _ z2j (@zj _ _ _ _ _ _ _ _ _ z13 rfl T.b_isinstance (by decide+kernel) (@z6 _ _ _ _ _ (pv 0) (@z6 _ _ _ _ _ (@z10 _ _ (.ty "bool") _ _ rfl T.b_bool (by decide+kernel) rfl (by decide) (by decide)) z9 rfl) rfl) (by decide) (by decide) rfl rfl) (@zj _ _ _ _ _ _ _ _ _ z13 rfl T.b_isinstance (by decide+kernel) (@z6 _ _ _ _ _ (pv 1) (@z6 _ _ _ _ _ (@z10 _ _ (.ty "bool") _ _ rfl T.b_bool (by decide+kernel) rfl (by decide) (by decide)) z9 rfl) rfl) (by decide) (by decide) rfl rfl) (zm _)) (@zd _ _ _ (@zn _ _ _ _ z2b)) zp) (@za _ _ _ _ _ (@z11 _ _ _ _ _ _ _ _ (@z1i _ _ _ (@zj _ _ _ _ _ _ _ _ _ z13 rfl T.b_isinstance (by decide+kernel) (@z6 _ _ _ _ _ (pv 1) (@z6 _ _ _ _ _ (@z10 _ _ (.ty "int") _ _ rfl T.b_int (by decide+kernel) rfl (by decide) (by decide)) z9 rfl) rfl) (by decide) (by decide) rfl rfl) (by intro _;rfl)) (@zd _ _ _ (@zn _ _ _ _ (@z2e _ _ _ _ _ _ _ (@zj _ _ _ _ _ _ _ _ _ z13 rfl T.b_isinstance (by decide+kernel) (@z6 _ _ _ _ _ (pv 0) (@z6 _ _ _ _ _ (@z10 _ _ (.ty "int") _ _ rfl T.b_int (by decide+kernel) rfl (by decide) (by decide)) z9 rfl) rfl) (by decide) (by decide) rfl rfl) (@z2a _ _ _ _ _ (@z1n _ _ _ _ _ _ _ _ z1f (pv 0) (pv 1) (zm _)))))) zp) (@zd _ _ _ (@zn _ _ _ _ (@z2e _ _ _ _ _ _ _ (@zj _ _ _ _ _ _ _ _ _ z13 rfl T.b_isinstance (by decide+kernel) (@z6 _ _ _ _ _ (pv 0) (@z6 _ _ _ _ _ (@z10 _ _ (.ty "str") _ _ rfl T.b_str (by decide+kernel) rfl (by decide) (by decide)) z9 rfl) rfl) (by decide) (by decide) rfl rfl) (@z2a _ _ _ _ _ (@z1n _ _ _ _ _ _ _ _ z1f (pv 0) (pv 1) (zm _))))))))),?_⟩
   walk_at "rd"
   refine⟨zf (by decide),fun p hp=>?_⟩
   have s1:=q _ (Same.upd (o:=.tup [V.ty "list",V.ty "tuple"]) hp)
   rcases pv' with⟨i,rfl⟩|⟨z,rfl⟩|⟨b,rfl⟩
   .refine⟨_,_,⟨rfl,rfl⟩,_,_,SqT.of z8,_,.int i,_,(z3k K).1,?_⟩
    rw[if_neg xa]
    refine⟨_,_,⟨rfl,rfl⟩,_,.int i,_,z3p K,_,_,⟨rfl,rfl⟩,_,.int i,_,z3p K,?_⟩
    rw[if_neg (by decide)]
    refine⟨_,_,⟨rfl,rfl⟩,_,.int i,_,(z1j K).1,?_⟩
    rw[if_pos rfl]
    refine⟨_,_,⟨rfl,rfl⟩,_,.int i,_,(z1j K).1,?_⟩
    rw[if_pos rfl]
    exact⟨rfl,by simpa using s1⟩
   .refine⟨_,_,⟨rfl,rfl⟩,_,_,SqT.of z8,_,.str z,_,(z3k K).2.2.1,?_⟩
    rw[if_neg xa]
    refine⟨_,_,⟨rfl,rfl⟩,_,.str z,_,(z1j K).2.2.2.2.2.1,_,_,⟨rfl,rfl⟩,_,.str z,_,(z1j K).2.2.2.2.2.1,?_⟩
    rw[if_neg (by decide)]
    refine⟨_,_,⟨rfl,rfl⟩,_,.str z,_,(z1j K).2.2.1,?_⟩
    rw[if_neg xa]
    refine⟨_,_,⟨rfl,rfl⟩,_,.str z,_,(z1j K).2.2.2.1,?_⟩
    rw[if_pos rfl]
    exact⟨rfl,by simpa using s1⟩
   .refine⟨_,_,⟨rfl,rfl⟩,_,_,SqT.of z8,_,.bl b,_,(z3k K).2.1,?_⟩
    rw[if_neg xa]
    refine⟨_,_,⟨rfl,rfl⟩,_,.bl b,_,z3g K,_,_,⟨rfl,rfl⟩,_,.bl b,_,z3g K,?_⟩
    rw[if_neg (by decide)]
    refine⟨_,_,⟨rfl,rfl⟩,_,.bl b,_,(z1j K).2.1,?_⟩
    rw[if_pos rfl]
    refine⟨_,_,⟨rfl,rfl⟩,_,.bl b,_,(z1j K).2.1,?_⟩
    rw[if_pos rfl]
    exact⟨rfl,by simpa using s1⟩
  .skip
   refine⟨_,(@za _ _ _ _ _ (@z11 _ _ _ _ _ _ _ _ (@z1i _ _ _ (@zj _ _ _ _ _ _ _ _ _ z78 rfl T.b_isinstance (by decide+kernel) (@z6 _ _ _ _ _ (pv 1) (@z6 _ _ _ _ _ (@z1p _ _ _ _ _ (@z6 _ _ _ _ _ (@z10 _ _ (.ty "list") _ _ rfl T.b_list (by decide+kernel) rfl (by decide) (by decide)) (@z6 _ _ _ _ _ (@z10 _ _ (.ty "tuple") _ _ rfl T.b_tuple (by decide+kernel) rfl (by decide) (by decide)) z9 rfl) rfl)) z9 rfl) rfl) (by decide) (by decide) rfl rfl) (by intro _;rfl)) (@za _ _ _ _ _ (@z11 _ _ _ _ _ _ _ _ (PW.pt (@z99 _ _ _ _ _ _ _ (@zo _ _ _ _ _ _ _ _ z2j (@zj _ _ _ _ _ _ _ _ _ z13 rfl T.b_isinstance (by decide+kernel) (@z6 _ _ _ _ _ (pv 0) (@z6 _ _ _ _ _ (@z10 _ _ (.ty "list") _ _ rfl T.b_list (by decide+kernel) rfl (by decide) (by decide)) z9 rfl) rfl) (by decide) (by decide) rfl rfl) (@zj _ _ _ _ _ _ _ _ _ z13 rfl T.b_isinstance (by decide+kernel) (@z6 _ _ _ _ _ (pv 1) (@z6 _ _ _ _ _ (@z10 _ _ (.ty "list") _ _ rfl T.b_list (by decide+kernel) rfl (by decide) (by decide)) z9 rfl) rfl) (by decide) (by decide) rfl rfl) (zm _)) (@z71 _ _ _ _ (@zo _ _ _ _ _ _ _ _ z2j (@zj _ _ _ _ _ _ _ _ _ z13 rfl T.b_isinstance (by decide+kernel) (@z6 _ _ _ _ _ (pv 0) (@z6 _ _ _ _ _ (@z10 _ _ (.ty "tuple") _ _ rfl T.b_tuple (by decide+kernel) rfl (by decide) (by decide)) z9 rfl) rfl) (by decide) (by decide) rfl rfl) (@zj _ _ _ _ _ _ _ _ _ z13 rfl T.b_isinstance (by decide+kernel) (@z6 _ _ _ _ _ (pv 1) (@z6 _ _ _ _ _ (@z10 _ _ (.ty "tuple") _ _ rfl T.b_tuple (by decide+kernel) rfl (by decide) (by decide)) z9 rfl) rfl) (by decide) (by decide) rfl rfl) (zm _))))) (@zd _ _ _ (@zn _ _ _ _ z2b)) zp) (@zd _ _ _ (@zn _ _ _ _ (@z2e _ _ _ _ _ _ _ (@z1n _ _ _ _ _ _ _ _ z1f (@zj _ _ _ _ _ _ _ _ _ zq rfl T.b_len (by decide+kernel) (@z6 _ _ _ _ _ (pv 0) z9 rfl) (by decide) (by decide) rfl rfl) (@zj _ _ _ _ _ _ _ _ _ zq rfl T.b_len (by decide+kernel) (@z6 _ _ _ _ _ (pv 1) z9 rfl) (by decide) (by decide) rfl rfl) (zm _)) (@z2a _ _ _ _ _ (@zj _ _ _ _ _ _ _ _ _ (z5f rfl) rfl T.b_all (by decide+kernel) (@z6 _ _ _ _ _ (@z1z _ _ "_law_k" (["_law_found","_law_due"]) ([0,1]) _ _ _ _ _ _ _ _ rfl ⟨rfl,by decide+kernel,by decide+kernel,rfl,zv rfl,by decide+kernel,⟨⟨rfl,Or.inl rfl,rfl⟩,⟨⟨rfl,Or.inl rfl,rfl⟩,trivial⟩⟩⟩ (@z2r _ _ _ _ _ _ rfl T.b_range (@z6 _ _ _ _ _ (@zj _ _ _ _ _ _ _ _ _ zq rfl T.b_len (by decide+kernel) (@z6 _ _ _ _ _ (pv 1) z9 rfl) (by decide) (by decide) rfl rfl) z9 rfl) rfl) (fun _ _ _ _=>z39) (fun _ _ _ _=>(@zw _ _ _ _ _ _ _ _ _ _ ye (hr.mono (by omega)) rfl (@z6 _ _ _ _ _ (@zi _ _ _ _ _ _ _ (z3y (K:=K)) (pv 1) (pv 0) (fun _ _=>rfl)) (@z6 _ _ _ _ _ (@zi _ _ _ _ _ _ _ (z3y (K:=K)) (pv 2) (pv 0) (fun _ _=>rfl)) z9 rfl) rfl) (by decide) rfl rfl)) (by intro _;rfl)) z9 rfl) (by decide) (by decide) rfl rfl)))))) zp) (@za _ _ _ _ _ (@z11 _ _ _ _ _ _ _ _ (@zo _ _ _ _ _ _ _ _ z2j (@zj _ _ _ _ _ _ _ _ _ z13 rfl T.b_isinstance (by decide+kernel) (@z6 _ _ _ _ _ (pv 0) (@z6 _ _ _ _ _ (@z10 _ _ (.ty "bool") _ _ rfl T.b_bool (by decide+kernel) rfl (by decide) (by decide)) z9 rfl) rfl) (by decide) (by decide) rfl rfl) (@zj _ _ _ _ _ _ _ _ _ z13 rfl T.b_isinstance (by decide+kernel) (@z6 _ _ _ _ _ (pv 1) (@z6 _ _ _ _ _ (@z10 _ _ (.ty "bool") _ _ rfl T.b_bool (by decide+kernel) rfl (by decide) (by decide)) z9 rfl) rfl) (by decide) (by decide) rfl rfl) (zm _)) (@zd _ _ _ (@zn _ _ _ _ z2b)) zp) (@za _ _ _ _ _ (@z11 _ _ _ _ _ _ _ _ (@z1i _ _ _ (@zj _ _ _ _ _ _ _ _ _ z13 rfl T.b_isinstance (by decide+kernel) (@z6 _ _ _ _ _ (pv 1) (@z6 _ _ _ _ _ (@z10 _ _ (.ty "int") _ _ rfl T.b_int (by decide+kernel) rfl (by decide) (by decide)) z9 rfl) rfl) (by decide) (by decide) rfl rfl) (by intro _;rfl)) (@zd _ _ _ (@zn _ _ _ _ (@z2e _ _ _ _ _ _ _ (@zj _ _ _ _ _ _ _ _ _ z13 rfl T.b_isinstance (by decide+kernel) (@z6 _ _ _ _ _ (pv 0) (@z6 _ _ _ _ _ (@z10 _ _ (.ty "int") _ _ rfl T.b_int (by decide+kernel) rfl (by decide) (by decide)) z9 rfl) rfl) (by decide) (by decide) rfl rfl) (@z2a _ _ _ _ _ (@z1n _ _ _ _ _ _ _ _ z1f (pv 0) (pv 1) (zm _)))))) zp) (@zd _ _ _ (@zn _ _ _ _ (@z2e _ _ _ _ _ _ _ (@zj _ _ _ _ _ _ _ _ _ z13 rfl T.b_isinstance (by decide+kernel) (@z6 _ _ _ _ _ (pv 0) (@z6 _ _ _ _ _ (@z10 _ _ (.ty "str") _ _ rfl T.b_str (by decide+kernel) rfl (by decide) (by decide)) z9 rfl) rfl) (by decide) (by decide) rfl rfl) (@z2a _ _ _ _ _ (@z1n _ _ _ _ _ _ _ _ z1f (pv 0) (pv 1) (zm _))))))))),?_⟩
   walk_at "rd"
   refine⟨zf (by decide),fun p hp=>?_⟩
   have s1:=Same.upd (o:=.tup [V.ty "list",V.ty "tuple"]) hp
   rcases hab with⟨ha,hb⟩|⟨ha,hb⟩
   .have ha1:=s1 _ _ ha
    have hb1:=s1 _ _ hb
    refine⟨_,_,⟨rfl,rfl⟩,_,_,SqT.of z8,_,.lst hb1,_,(z3k K).2.2.2.1,?_⟩
    rw[if_pos rfl]
    refine⟨_,_,⟨rfl,rfl⟩,_,.lst ha1,_,z6u K,_,_,⟨rfl,rfl⟩,_,.lst hb1,_,z6u K,?_⟩
    rw[if_neg (by decide)]
    refine⟨_,_,⟨rfl,rfl⟩,_,.lst ha1,_,(z1j K).2.2.2.2.2.2.2.2,_,_,⟨rfl,rfl⟩,_,.lst hb1,_,(z1j K).2.2.2.2.2.2.2.2,?_⟩
    rw[if_neg (by decide)]
    refine⟨xs,.inl (SqL.of ha1),ys,.inl (SqL.of hb1),?_⟩
    rw[if_pos (by rw[hlm];simp)]
    refine⟨ys,.inl (SqL.of hb1),⟨by omega,by omega⟩,?_⟩
    rw[x11,<-hlm]
    refine z34 (zf (by omega)) (fun i acc H'=>acc=(List.replicate i true).map V.bl/\Same (upd H p (.tup [V.ty "list",V.ty "tuple"])) H') ⟨rfl,Same.refl _⟩ ?_ ?_ ?_
    .rintro i acc H' ⟨rfl,-⟩
     simp
    .rintro Nn i acc H' hN hi ⟨rfl,s2⟩
     walk_at "rd"
     have ei:((0:Int)+(i:Int))=(i:Int):=by omega
     rw[ei]
     have gx:xs[i]? =some xs[i]:=x6 hi
     have gy:ys[i]? =some (ys[i]'(by omega)):=x6 (by omega)
     refine(.inl ⟨_,_,_,_,rfl,rfl,SqL.of (s2 _ _ ha1),zc gx,?_⟩)
     refine(.inl ⟨_,_,_,_,rfl,rfl,SqL.of (s2 _ _ hb1),zc gy,?_⟩)
     refine⟨_,_,rfl,(kk i _ _ gx gy).mono (s1.trans s2),fun H3 s3=>hN _ _ ⟨?_,s2.trans s3⟩⟩
     rw[List.replicate_succ',x0b]
     rfl
    .rintro acc H' ⟨rfl,s2⟩ r hr'
     refine⟨_,rfl,_,SqL.of z8,?_⟩
     have e:(List.replicate xs.length true).all id=true:=by simp
     rw[e]
     exact q _ ((s1.trans s2).trans (Same.upd hr'))
   .have ha1:=s1 _ _ ha
    have hb1:=s1 _ _ hb
    refine⟨_,_,⟨rfl,rfl⟩,_,_,SqT.of z8,_,.tup hb1,_,(z3k K).2.2.2.2,?_⟩
    rw[if_pos rfl]
    refine⟨_,_,⟨rfl,rfl⟩,_,.tup ha1,_,(z1j K).2.2.2.2.2.2.2.1,_,_,⟨rfl,rfl⟩,_,.tup hb1,_,(z1j K).2.2.2.2.2.2.2.1,?_⟩
    rw[if_neg (by decide)]
    refine⟨_,_,⟨rfl,rfl⟩,_,.tup ha1,_,(z1j K).2.2.2.2.2.2.1,_,_,⟨rfl,rfl⟩,_,.tup hb1,_,(z1j K).2.2.2.2.2.2.1,?_⟩
    rw[if_neg (by decide)]
    refine⟨xs,.inr (SqT.of ha1),ys,.inr (SqT.of hb1),?_⟩
    rw[if_pos (by rw[hlm];simp)]
    refine⟨ys,.inr (SqT.of hb1),⟨by omega,by omega⟩,?_⟩
    rw[x11,<-hlm]
    refine z34 (zf (by omega)) (fun i acc H'=>acc=(List.replicate i true).map V.bl/\Same (upd H p (.tup [V.ty "list",V.ty "tuple"])) H') ⟨rfl,Same.refl _⟩ ?_ ?_ ?_
    .rintro i acc H' ⟨rfl,-⟩
     simp
    .rintro Nn i acc H' hN hi ⟨rfl,s2⟩
     walk_at "rd"
     have ei:((0:Int)+(i:Int))=(i:Int):=by omega
     rw[ei]
     have gx:xs[i]? =some xs[i]:=x6 hi
     have gy:ys[i]? =some (ys[i]'(by omega)):=x6 (by omega)
     refine(.inr (.inl ⟨_,_,_,_,rfl,rfl,SqT.of (s2 _ _ ha1),zc gx,?_⟩))
     refine(.inr (.inl ⟨_,_,_,_,rfl,rfl,SqT.of (s2 _ _ hb1),zc gy,?_⟩))
     refine⟨_,_,rfl,(kk i _ _ gx gy).mono (s1.trans s2),fun H3 s3=>hN _ _ ⟨?_,s2.trans s3⟩⟩
     rw[List.replicate_succ',x0b]
     rfl
    .rintro acc H' ⟨rfl,s2⟩ r hr'
     refine⟨_,rfl,_,SqL.of z8,?_⟩
     have e:(List.replicate xs.length true).all id=true:=by simp
     rw[e]
     exact q _ ((s1.trans s2).trans (Same.upd hr'))
theorem zk6(F:Def K mg "_law_same" z2i ["_law_found","_law_due"])(T:Txt K mg y0 yb ya y6 y9 y8 y7)(ye:Has P w K mg base 2 "_law_same" ["_law_found","_law_due"] (z2q 1)):Has P w K mg base 3 "_law_same" ["_law_found","_law_due"] (z2q 2):=z94 F T ye
theorem zk7(F:Def K mg "_law_same" z2i ["_law_found","_law_due"])(T:Txt K mg y0 yb ya y6 y9 y8 y7)(ye:Has P w K mg base 3 "_law_same" ["_law_found","_law_due"] (z2q 2)):Has P w K mg base 4 "_law_same" ["_law_found","_law_due"] (z2q 3):=z94 F T ye
noncomputable def ziz:Sp:=fun vs H Q _=>∃(c:Int)(p:Addr)(zs:List Str),vs=[.int c,.ref p]/\H p=some (.lst (zs.map V.str))/\zs.length<=10/\∀(r:Addr)(ys:List Str)(H':Hp),ys.length<=10->(∀y∈ys,y∈zs)->H r=none->H' r=some (.lst (ys.map V.str))->Same H H'->Q (.ref r) H'
theorem zdp(F:Def K mg "_law_some" z5k ["_law_cell","_law_names_here"])(T:Txt K mg y0 yb ya y6 y9 y8 y7):Has P w K mg base 1 "_law_some" ["_law_cell","_law_names_here"] (ziz):=by
 refine F.ok sc__law_some (fun vs H Q E h=>?_) (fun f cdv A outer s H vs Q E hr h=>?_)
 .obtain⟨c,p,zs,rfl,_⟩:=h
  rfl
 .obtain⟨c,p,zs,rfl,hp,hl,q⟩:=h
  refine⟨_,(@za _ _ _ _ _ (@zk _ _ 2 _ _ _ _ sc__law_some.nd rfl (Or.inl rfl) (@z1c _ _ _ _ z9) rfl (Or.inr rfl)) (@za _ _ _ _ _ (@zk _ _ 3 _ _ _ _ sc__law_some.nd rfl (Or.inl rfl) (pv 0) rfl (Or.inr rfl)) (@za _ _ _ _ _ (@z1u _ _ _ _ _ _ _ _ x0m rfl (@z12 _ _ _ _ (pv 1)) (@z15 _ _ 4 _ sc__law_some.nd rfl (Or.inl rfl) (Or.inr rfl)) (@z3x _ _ _ _ _ (@z11 _ _ _ _ _ _ _ _ (@zo _ _ _ _ _ _ _ _ z1f (@zg _ _ _ _ _ _ _ _ z14 (pv 3) z7) z7 (zm _)) (@zd _ _ _ (@z1h _ _ _ _ (@z2c _ _ _ _ _ _ _ _ _ _ _ _ x0a x0d x0e z1r (pv 2) (@z6 _ _ _ _ _ (pv 4) z9 rfl) rfl rfl rfl rfl rfl) rfl)) zp) (@zd _ _ _ (@zk _ _ 3 _ _ _ _ sc__law_some.nd rfl (Or.inl rfl) (@zg _ _ _ _ _ _ _ _ z1a (pv 3) z7) rfl (Or.inr rfl)))) (by intro _;rfl)) (@zd _ _ _ (@zn _ _ _ _ (pv 2)))))),?_⟩
  walk_at "rd"
  refine⟨x03 _,fun r hr0=>⟨⟨_,SqL.of (Same.upd hr0 _ _ hp)⟩,?_⟩⟩
  have npr:p≠r:=ze hp hr0
  refine z1b (xs:=zs.map V.str) (fun i σ H'=>∃(c':Int)(v4:Option V)(ys:List Str),σ=[some (V.int c),some (V.ref p),some (V.ref r),some (V.int c'),v4]/\ys.length<=i/\(∀y∈ys,y∈zs)/\H' r=some (.lst (ys.map V.str))/\Same H H') ⟨c,_,[],rfl,xk _,(fun y hy=>by cases hy),z8,Same.upd hr0⟩ ?_ ?_ ?_
  .rintro i σ H'-⟨c',v4,ys,rfl,-,-,-,s1⟩
   exact SqL.of (s1 _ _ hp)
  .rintro Pv hP i x σ H' hx ⟨c',v4,ys,rfl,ly,my,gr,s1⟩
   rw[xc]at hx
   cases e:zs[i]? with
   |none=>rw[e]at hx;cases hx
   |some z=>
   rw[e]at hx
   cases hx
   walk_at "rd"
   have mz:=x9 e
   have il:i<zs.length:=(xg.mp e).1
   refine z6a (fun σ H2=>∃ys:List Str,σ=[some (V.int c),some (V.ref p),some (V.ref r),some (V.int c'),some (V.str z)]/\ys.length<=i+1/\(∀y∈ys,y∈zs)/\H2 r=some (.lst (ys.map V.str))/\Same H H2) (fun Mid hM=>?_) ?_
   .walk_at "rd"
    refine⟨by decide,ite2 (fun _=>?_) (fun _=>hM _ _ ⟨ys,rfl,by omega,my,gr,s1⟩)⟩
    refine⟨.inl ⟨_,SqL.of gr⟩,_,_,_,rfl,rfl,gr,z1k (by rw[x0];omega),hM _ _ ⟨ys++[z],rfl,by rw[x00];show _+1<=_;omega,fun y hy=>?_,by rw[z8];simp,fun b o hb=>?_⟩⟩
    .rcases xz.mp hy with hy|hy
     .exact my y hy
     .rw[xm.mp hy];exact mz
    .rw[zb (ze hb hr0)];exact s1 _ _ hb
   .rintro σ H2 ⟨ys,rfl,ly,my,gr,s1⟩
    walk_at "rd"
    exact⟨cdiv (by decide) (by decide),hP _ _ _ ⟨_,_,ys,rfl,ly,my,gr,s1⟩⟩
  .rintro σ H' ⟨c',v4,ys,rfl,ly,my,gr,s1⟩
   walk_at "rd"
   rw[x0]at ly
   exact q r ys H' (by omega) my hr0 gr s1
structure Su where
 n:Nat
 ph:Addr
 pl:Addr
 pc:Addr
 pt:Addr
 hs:List Str
 lks:List Str
 shs:List Str
 sts:List Str
structure SuAt(H:Hp)(a:Addr)(u:Su):Prop where
 tu:H a=some (.tup [.int (u.n:Int),.ref u.ph,.ref u.pl,.ref u.pc,.ref u.pt])
 gh:H u.ph=some (.lst (u.hs.map V.str))
 gl:H u.pl=some (.lst (u.lks.map V.str))
 gc:H u.pc=some (.lst (u.shs.map V.str))
 gt:H u.pt=some (.lst (u.sts.map V.str))
structure Su.ok(u:Su):Prop where
 n1:1<=u.n
 n5:u.n<=5
 h1:1<=u.hs.length
 h8:u.hs.length<=8
 l1:1<=u.lks.length
 l10:u.lks.length<=10
 c10:u.shs.length<=10
 t4:u.sts.length<=4
 hl:∀z∈u.hs,z.length<=16
 ll:∀z∈u.lks,z.length<=200
theorem SuAt.mono{H H':Hp}{a:Addr}{u:Su}(h:SuAt H a u)(s:Same H H'):SuAt H' a u:=⟨s _ _ h.tu,s _ _ h.gh,s _ _ h.gl,s _ _ h.gc,s _ _ h.gt⟩
noncomputable def zfa(K:PySem.W.Frag):Sp:=fun vs H Q _=>∃(a:Addr)(ns:List Int),vs=[.ref a]/\SqL K H a (ns.map V.int)/\ns.length<=63/\∀(r:Addr)(u:Su)(H':Hp),SuAt H' r u->u.ok->Same H H'->Q (.ref r) H'
theorem zc0(F:Def K mg "_law_setup" z52 ["_law_script"])(T:Txt K mg y0 yb ya y6 y9 y8 y7)(yi:Has P w K mg base 1 "_law_at" ["_law_script","_law_k"] (spAt K))(yu:Has P w K mg base 2 "_law_names" ["_law_cell","_law_many"] (zf8))(y16:Has P w K mg base 2 "_law_locks" ["_law_cell","_law_words","_law_many"] (zf9))(y1c:Has P w K mg base 1 "_law_some" ["_law_cell","_law_names_here"] (ziz)):Has P w K mg base 3 "_law_setup" ["_law_script"] (zfa K):=by
 refine F.ok sc__law_setup (fun vs H Q E h=>?_) (fun f cdv A outer s H vs Q E hr h=>?_)
 .obtain⟨a,ns,rfl,_⟩:=h
  rfl
 .obtain⟨a,ns,rfl,ha,hns,q⟩:=h
  have hu:=hr.units0
  refine⟨_,(@za _ _ _ _ _ (@zk _ _ 1 _ _ _ _ sc__law_setup.nd rfl (Or.inl rfl) (@zg _ _ _ _ _ _ _ _ z18 z7 (@zg _ _ _ _ _ _ _ _ z14 (@zw _ _ _ _ _ _ _ _ _ _ yi (hr.mono (by decide)) rfl (@z6 _ _ _ _ _ (pv 0) (@z6 _ _ _ _ _ z7 z9 rfl) rfl) (by decide) rfl rfl) z7)) rfl (Or.inr rfl)) (@za _ _ _ _ _ (@zk _ _ 2 _ _ _ _ sc__law_setup.nd rfl (Or.inl rfl) (@zw _ _ _ _ _ _ _ _ _ _ yu (hr.mono (by decide)) rfl (@z6 _ _ _ _ _ (@zg _ _ _ _ _ _ _ _ z1a (@zw _ _ _ _ _ _ _ _ _ _ yi (hr.mono (by decide)) rfl (@z6 _ _ _ _ _ (pv 0) (@z6 _ _ _ _ _ z7 z9 rfl) rfl) (by decide) rfl rfl) z7) (@z6 _ _ _ _ _ (@zg _ _ _ _ _ _ _ _ z18 z7 (@zg _ _ _ _ _ _ _ _ z14 (@zg _ _ _ _ _ _ _ _ z18 (@zw _ _ _ _ _ _ _ _ _ _ yi (hr.mono (by decide)) rfl (@z6 _ _ _ _ _ (pv 0) (@z6 _ _ _ _ _ z7 z9 rfl) rfl) (by decide) rfl rfl) z7) z7)) z9 rfl) rfl) (by decide) rfl rfl) rfl (Or.inr rfl)) (@za _ _ _ _ _ (@zk _ _ 3 _ _ _ _ sc__law_setup.nd rfl (Or.inl rfl) (@zw _ _ _ _ _ _ _ _ _ _ y16 (hr.mono (by decide)) rfl (@z6 _ _ _ _ _ (@zw _ _ _ _ _ _ _ _ _ _ yi (hr.mono (by decide)) rfl (@z6 _ _ _ _ _ (pv 0) (@z6 _ _ _ _ _ z7 z9 rfl) rfl) (by decide) rfl rfl) (@z6 _ _ _ _ _ (@zg _ _ _ _ _ _ _ _ z1a (@zw _ _ _ _ _ _ _ _ _ _ yi (hr.mono (by decide)) rfl (@z6 _ _ _ _ _ (pv 0) (@z6 _ _ _ _ _ z7 z9 rfl) rfl) (by decide) rfl rfl) z7) (@z6 _ _ _ _ _ (@zg _ _ _ _ _ _ _ _ z18 z7 (@zg _ _ _ _ _ _ _ _ z14 (@zg _ _ _ _ _ _ _ _ z18 (@zw _ _ _ _ _ _ _ _ _ _ yi (hr.mono (by decide)) rfl (@z6 _ _ _ _ _ (pv 0) (@z6 _ _ _ _ _ z7 z9 rfl) rfl) (by decide) rfl rfl) z7) z7)) z9 rfl) rfl) rfl) (by decide) rfl rfl) rfl (Or.inr rfl)) (@za _ _ _ _ _ (@zk _ _ 4 _ _ _ _ sc__law_setup.nd rfl (Or.inl rfl) (@zw _ _ _ _ _ _ _ _ _ _ y1c (hr.mono (by decide)) rfl (@z6 _ _ _ _ _ (@zg _ _ _ _ _ _ _ _ z2n (@zg _ _ _ _ _ _ _ _ z1a (@zw _ _ _ _ _ _ _ _ _ _ yi (hr.mono (by decide)) rfl (@z6 _ _ _ _ _ (pv 0) (@z6 _ _ _ _ _ z7 z9 rfl) rfl) (by decide) rfl rfl) z7) z7) (@z6 _ _ _ _ _ (pv 3) z9 rfl) rfl) (by decide) rfl rfl) rfl (Or.inr rfl)) (@za _ _ _ _ _ (@zk _ _ 5 _ _ _ _ sc__law_setup.nd rfl (Or.inl rfl) (@zw _ _ _ _ _ _ _ _ _ _ yu (hr.mono (by decide)) rfl (@z6 _ _ _ _ _ (@zg _ _ _ _ _ _ _ _ z1a (@zw _ _ _ _ _ _ _ _ _ _ yi (hr.mono (by decide)) rfl (@z6 _ _ _ _ _ (pv 0) (@z6 _ _ _ _ _ z7 z9 rfl) rfl) (by decide) rfl rfl) z7) (@z6 _ _ _ _ _ (@zi _ _ _ _ _ _ _ ix_list (@z1c _ _ _ _ (@z6 _ _ _ _ _ z7 (@z6 _ _ _ _ _ z7 (@z6 _ _ _ _ _ z7 (@z6 _ _ _ _ _ z7 (@z6 _ _ _ _ _ z7 (@z6 _ _ _ _ _ z7 (@z6 _ _ _ _ _ z7 (@z6 _ _ _ _ _ z7 z9 rfl) rfl) rfl) rfl) rfl) rfl) rfl) rfl)) (@zg _ _ _ _ _ _ _ _ z14 (@zw _ _ _ _ _ _ _ _ _ _ yi (hr.mono (by decide)) rfl (@z6 _ _ _ _ _ (pv 0) (@z6 _ _ _ _ _ z7 z9 rfl) rfl) (by decide) rfl rfl) z7) (fun _ _=>rfl)) z9 rfl) rfl) (by decide) rfl rfl) rfl (Or.inr rfl)) (@zd _ _ _ (@zn _ _ _ _ (@z1p _ _ _ _ _ (@z6 _ _ _ _ _ (pv 1) (@z6 _ _ _ _ _ (pv 2) (@z6 _ _ _ _ _ (pv 3) (@z6 _ _ _ _ _ (pv 4) (@z6 _ _ _ _ _ (pv 5) z9 rfl) rfl) rfl) rfl) rfl))))))))),?_⟩
  walk_at "rd"
  refine⟨a,ns,0,rfl,ha,by omega,_,rfl,by decide,?_⟩
  obtain⟨n,en⟩:=x0v (show 0<=1+ns.getD 0 0%5 by omega)
  rw[en]
  refine⟨a,ns,0,rfl,ha,by omega,_,rfl,cdiv (by decide) (by decide),a,ns,1,rfl,ha,by omega,_,rfl,by decide,?_⟩
  obtain⟨m,em⟩:=x0v (show 0<=1+(ns.getD 1 0+2)%8 by omega)
  rw[em]
  refine⟨_,m,rfl,by omega,fun ph hz H1 hl1 hN1 hp0 gh s1=>?_⟩
  refine⟨a,ns,2,rfl,s1.seq ha,by omega,a,ns,1,rfl,s1.seq ha,by omega,_,rfl,cdiv (by decide) (by decide),a,ns,3,rfl,s1.seq ha,by omega,_,rfl,by decide,?_⟩
  obtain⟨m2,em2⟩:=x0v (show 0<=1+(ns.getD 3 0+2)%10 by omega)
  rw[em2]
  refine⟨_,_,m2,rfl,by omega,fun pl lz H2 hl2 hN2 lp0 gl s2=>?_⟩
  have s12:=s1.trans s2
  refine⟨a,ns,3,rfl,s12.seq ha,by omega,_,rfl,cdiv (by decide) (by decide),?_⟩
  refine⟨_,pl,lz,rfl,gl,by omega,fun pc cz H3 hl3 hN3 cp0 gc s3=>?_⟩
  have s13:=s12.trans s3
  refine⟨a,ns,4,rfl,s13.seq ha,by omega,_,rfl,cdiv (by decide) (by decide),zf (by decide),fun p4 hp4=>?_⟩
  have u4:=Same.upd (o:=.lst [V.int 1,V.int 2,V.int 1,V.int 4,V.int 1,V.int 3,V.int 0,V.int 1]) hp4
  have g4:upd H3 p4 (.lst [V.int 1,V.int 2,V.int 1,V.int 4,V.int 1,V.int 3,V.int 0,V.int 1]) p4=some (.lst [V.int 1,V.int 2,V.int 1,V.int 4,V.int 1,V.int 3,V.int 0,V.int 1]):=z8
  generalize upd H3 p4 (.lst [V.int 1,V.int 2,V.int 1,V.int 4,V.int 1,V.int 3,V.int 0,V.int 1])=H4 at u4 g4⊢
  refine⟨a,ns,4,rfl,(s13.trans u4).seq ha,by omega,_,rfl,by decide,?_⟩
  obtain⟨m3,em3,hm3⟩:∃m3:Nat,atI [V.int 1,V.int 2,V.int 1,V.int 4,V.int 1,V.int 3,V.int 0,V.int 1] (ns.getD 4 0%8)=some (V.int (m3:Int))/\m3<=4:=by
   rcases(show ns.getD 4 0%8=0\/ns.getD 4 0%8=1\/ns.getD 4 0%8=2\/ns.getD 4 0%8=3\/ns.getD 4 0%8=4\/ns.getD 4 0%8=5\/ns.getD 4 0%8=6\/ns.getD 4 0%8=7 by omega) with e|e|e|e|e|e|e|e
   .exact⟨1,by rw[e];exact zc (j:=0) rfl,by decide⟩
   .exact⟨2,by rw[e];exact zc (j:=1) rfl,by decide⟩
   .exact⟨1,by rw[e];exact zc (j:=2) rfl,by decide⟩
   .exact⟨4,by rw[e];exact zc (j:=3) rfl,by decide⟩
   .exact⟨1,by rw[e];exact zc (j:=4) rfl,by decide⟩
   .exact⟨3,by rw[e];exact zc (j:=5) rfl,by decide⟩
   .exact⟨0,by rw[e];exact zc (j:=6) rfl,by decide⟩
   .exact⟨1,by rw[e];exact zc (j:=7) rfl,by decide⟩
  refine⟨_,_,_,_,rfl,rfl,SqL.of g4,em3,?_⟩
  refine⟨_,m3,rfl,by omega,fun pt tz H5 hl5 hN5 tp0 gt s5=>⟨zf (by decide),fun r hr0=>?_⟩⟩
  have u6:=Same.upd (o:=.tup [V.int (n:Int),V.ref ph,V.ref pl,V.ref pc,V.ref pt]) hr0
  have s45:=u4.trans s5
  exact q r ⟨n,ph,pl,pc,pt,hz,lz,cz,tz⟩ _ ⟨z8,u6 _ _ (s45 _ _ (s3 _ _ (s2 _ _ gh))),u6 _ _ (s45 _ _ (s3 _ _ gl)),u6 _ _ (s45 _ _ gc),u6 _ _ gt⟩ ⟨by show 1<=n;omega,by show n<=5;omega,by show 1<=hz.length;omega,by show hz.length<=8;omega,by show 1<=lz.length;omega,by show lz.length<=10;omega,hl3,by show tz.length<=4;omega,hN1,hN2⟩ ((s13.trans s45).trans u6)
noncomputable def zfb:Sp:=fun vs H Q _=>∃(c k:Int) (a:Addr) (u:Su),vs=[.int c,.int k,.ref a]/\SuAt H a u/\u.ok/\∀(r:Addr) (hd lk:Str) (sh:Bool) (tm:Int) (H':Hp),hd∈u.hs->lk∈u.lks->1<=tm->tm<=1000->H' r=some (.tup [.str "ask",.str hd,.str lk,.bl sh,.int tm])->Same H H'->Q (.ref r) H'
theorem zdq{zs:List Str}(h:1<=zs.length)(i:Int):∃z∈zs,atI (zs.map V.str) (i%(zs.length:Int))=some (V.str z):=by
 have h0:0<=i%(zs.length:Int):=Int.emod_nonneg _ (by omega)
 have h1:i%(zs.length:Int)<(zs.length:Int):=Int.emod_lt_of_pos _ (by omega)
 obtain⟨j,ej⟩:=x0v h0
 have hj:j<zs.length:=by omega
 refine⟨zs[j],x1b hj,?_⟩
 rw[ej]
 exact zc (by rw[xc,x6 hj];rfl)
theorem zgy{X:Cx}{K:PySem.W.Frag}(hu:X.A.units<cLine)(h:X.K=K:=by rfl):OpR X (compareOp .Eq) (fun x y H Q=>∃p q xs,x=.ref p/\y=.ref q/\SqL K H p xs/\SqL K H q []/\Q (.bl xs.isEmpty) H):=h▸zcq hu
structure Nk where
 k:Nat
 x:Nt
noncomputable def Nk.vals(q:Nk):List V:=[.int ((q.k:Int)+1),.int q.x.n,.str q.x.h,.str q.x.l,.bl q.x.sh,.int q.x.e]
noncomputable abbrev KL:=List (Addr×Nk)
noncomputable def refk(L:KL):List V:=L.map fun q=>V.ref q.1
theorem z2v(L:KL):(refk L).length=L.length:=x0 _
theorem z55{L:KL}{i:Nat}{x:V}(h:(refk L)[i]? =some x):∃q,L[i]? =some q/\x=.ref q.1:=by
 unfold refk at h
 rw[xc]at h
 cases e:L[i]? with
 |none=>rw[e]at h;cases h
 |some q=>rw[e]at h;exact⟨q,rfl,(xq h).symm⟩
noncomputable def KsAt(H:Hp)(L:KL):Prop:=∀q∈L,H q.1=some (.tup q.2.vals)
noncomputable def cyv(x:Nt):List V:=[.str x.h,.int x.n,.str x.l,.bl x.sh,.int x.e]
structure Sv where
 now:Int
 ps:Addr
 pu:Addr
 pt:Addr
 pn:Addr
 pr:Addr
 pc:Addr
 pk:Addr
 po:Addr
 pl:Addr
 us:List Bool
 ts:List Int
 N:KL
 C:NL
 lg:List V
noncomputable def stw(S:Sv):List (Key×V):=[(.inr "now",.int S.now),(.inr "setup",.ref S.ps),(.inr "ups",.ref S.pu),(.inr "tops",.ref S.pt),(.inr "notes",.ref S.pn),(.inr "row",.ref S.pr),(.inr "carry",.ref S.pc),(.inr "sleep",.ref S.pk),(.inr "took",.ref S.po),(.inr "log",.ref S.pl)]
section
variable {H:Hp}{d:Addr}{S:Sv}
theorem z5e{k:Key}{v:V}(e:H d=some (.dK (stw S)))(h:valV (stw S) k=some v):DGet H d (kV k) (some v):=by
 have:=DGet.k (k:=k) e
 rwa[h]at this
theorem z30(e:H d=some (.dK (stw S))):DGet H d (.str "now") (some (.int S.now)):=z5e (k:=.inr "now") e (by kernel_rfl)
theorem z6r(e:H d=some (.dK (stw S))):DGet H d (.str "setup") (some (.ref S.ps)):=z5e (k:=.inr "setup") e (by kernel_rfl)
theorem z7v(e:H d=some (.dK (stw S))):DGet H d (.str "ups") (some (.ref S.pu)):=z5e (k:=.inr "ups") e (by kernel_rfl)
theorem zas(e:H d=some (.dK (stw S))):DGet H d (.str "tops") (some (.ref S.pt)):=z5e (k:=.inr "tops") e (by kernel_rfl)
theorem z56(e:H d=some (.dK (stw S))):DGet H d (.str "notes") (some (.ref S.pn)):=z5e (k:=.inr "notes") e (by kernel_rfl)
theorem zm6(e:H d=some (.dK (stw S))):DGet H d (.str "row") (some (.ref S.pr)):=z5e (k:=.inr "row") e (by kernel_rfl)
theorem zdr(e:H d=some (.dK (stw S))):DGet H d (.str "carry") (some (.ref S.pc)):=z5e (k:=.inr "carry") e (by kernel_rfl)
theorem zj0(e:H d=some (.dK (stw S))):DGet H d (.str "log") (some (.ref S.pl)):=z5e (k:=.inr "log") e (by kernel_rfl)
theorem ten(S:Sv):(stw S).length<sizeLine:=z1k (by show 10<=1000;decide)
theorem z9y{k:Key}{v:V}{S':Sv}(e:H d=some (.dK (stw S)))(h:putK (stw S) k v=stw S'):DPut H d (kV k) v (upd H d (.dK (stw S'))):=by
 have:=DPut.k (k:=k) (v:=v) e (ten S)
 rwa[h]at this
theorem zgz(e:H d=some (.dK (stw S)))(n:Int):DPut H d (.str "now") (.int n) (upd H d (.dK (stw { S with now:=n }))):=z9y (k:=.inr "now") e (by kernel_rfl)
theorem z7w(e:H d=some (.dK (stw S)))(p:Addr)(N:KL):DPut H d (.str "notes") (.ref p) (upd H d (.dK (stw { S with pn:=p,N:=N }))):=z9y (k:=.inr "notes") e (by kernel_rfl)
theorem zh0(e:H d=some (.dK (stw S)))(p:Addr):DPut H d (.str "row") (.ref p) (upd H d (.dK (stw { S with pr:=p }))):=z9y (k:=.inr "row") e (by kernel_rfl)
theorem zds(e:H d=some (.dK (stw S)))(p:Addr)(C:NL):DPut H d (.str "carry") (.ref p) (upd H d (.dK (stw { S with pc:=p,C:=C }))):=z9y (k:=.inr "carry") e (by kernel_rfl)
end
noncomputable def Sv.lists(S:Sv):List Addr:=[S.pu,S.pt,S.pn,S.pr,S.pc,S.pl]
noncomputable def Su.lists(u:Su):List Addr:=[u.ph,u.pl,u.pc,u.pt]
structure StAt(H:Hp)(d:Addr)(S:Sv)(u:Su):Prop where
 st:H d=some (.dK (stw S))
 su:SuAt H S.ps u
 gu:H S.pu=some (.lst (S.us.map V.bl))
 gt:H S.pt=some (.lst (S.ts.map V.int))
 gn:H S.pn=some (.lst (refk S.N))
 kn:KsAt H S.N
 gr:H S.pr=some (.lst [])
 gc:H S.pc=some (.lst (refs S.C))
 kc:∀q∈S.C,H q.1=some (.tup (cyv q.2))
 gl:H S.pl=some (.lst S.lg)
 nd:S.lists.Nodup
 sd:∀p∈S.lists,p∉u.lists
theorem StAt.mono{H H':Hp}{d:Addr}{S:Sv}{u:Su}(h:StAt H d S u)(s:Same H H'):StAt H' d S u:=
 ⟨s _ _ h.st,h.su.mono s,s _ _ h.gu,s _ _ h.gt,s _ _ h.gn,fun q hq=>s _ _ (h.kn q hq),s _ _ h.gr,s _ _ h.gc,fun q hq=>s _ _ (h.kc q hq),s _ _ h.gl,h.nd,h.sd⟩
theorem StAt.butK{CC CK:Addr}{H H':Hp}{c l:Addr}{ks ls:List Addr}{ss:List KN}{d:Addr}{S:Sv}{u:Su}(h:StAt H d S u)(hc:CAt CC CK H c l ks ls ss)(s:ButK ks H H'):StAt H' d S u:=by
 have st:∀b o,H b=some o->(∀C dx fs,o≠.ins C dx fs)->H' b=some o:=fun b o e no=>s b o e fun hb=>by
  obtain⟨dx,fs,z⟩:=hc.mem hb
  rw[e]at z
  cases z
  exact no _ _ _ rfl
 have L:∀b xs,H b=some (.lst xs)->H' b=some (.lst xs):=fun b xs e=>st b _ e fun _ _ _ z=>by cases z
 have T:∀b xs,H b=some (.tup xs)->H' b=some (.tup xs):=fun b xs e=>st b _ e fun _ _ _ z=>by cases z
 exact⟨st _ _ h.st (fun _ _ _ z=>by cases z),⟨T _ _ h.su.tu,L _ _ h.su.gh,L _ _ h.su.gl,L _ _ h.su.gc,L _ _ h.su.gt⟩,L _ _ h.gu,L _ _ h.gt,L _ _ h.gn,fun q hq=>T _ _ (h.kn q hq),L _ _ h.gr,L _ _ h.gc,fun q hq=>T _ _ (h.kc q hq),L _ _ h.gl,h.nd,h.sd⟩
noncomputable abbrev own(d:Addr)(S:Sv):List Addr:=[d,S.pu,S.pt,S.pc,S.pl]
theorem zm7(n:Nat)(b:Bool):(List.replicate n [V.bl b]).flatten=(List.replicate n b).map V.bl:=by
 induction n with
 |zero=>rfl
 |succ n ih=>rw[x16,List.flatten_cons,ih,x16,x0h];rfl
theorem zlf(n:Nat)(b:Int):(List.replicate n [V.int b]).flatten=(List.replicate n b).map V.int:=by
 induction n with
 |zero=>rfl
 |succ n ih=>rw[x16,List.flatten_cons,ih,x16,x0h];rfl
noncomputable def zkn:Sp:=fun vs H Q _=>∃(a:Addr)(u:Su),vs=[.ref a]/\SuAt H a u/\u.ok/\∀(d:Addr)(S:Sv)(H':Hp),StAt H' d S u->S.ps=a->S.now=0->S.us=List.replicate u.n true->S.ts=List.replicate u.n 0->S.N=[]->S.C=[]->S.lg=[]->H d=none->(∀p∈S.lists,H p=none)->Same H H'->Q (.ref d) H'
theorem zlg(y:Str)(zs:List Str):inV (.str y) (zs.map V.str)=decide (y∈zs):=by
 induction zs with
 |nil=>rfl
 |cons a zs ih=>
  show(eqV (.str a) (.str y)||inV (.str y) (zs.map V.str))=_
  rw[ih]
  show((a==y)||decide (y∈zs))=_
  by_cases h:a=y
  .subst h;simp
  .have h':¬ y=a:=fun z=>h z.symm
   simp[h,h']
noncomputable def upL(us:List Bool):List Nat:=(List.range us.length).filter fun j=>us.getD j false
theorem zat(us:List Bool):(upL us).length<=us.length:=xp (xj _ _) (by rw[List.length_range];exact xk _)
theorem zh1{p:Nat->Bool}(i:Nat):(List.range (i+1)).filter p=(List.range i).filter p++(if p i=true then[i] else[]):=by
 rw[List.range_succ,x1f]
 simp[List.filter_cons]
noncomputable def zdt(K:PySem.W.Frag):Sp:=fun vs H Q _=>∃(d:Addr)(S:Sv)(u:Su),vs=[.ref d]/\StAt H d S u/\u.ok/\S.us.length=u.n/\∀(r:Addr)(H':Hp),H r=none->H' r=some (.lst (zr (upL S.us)))->Same H H'->Q (.ref r) H'
theorem zen(F:Def K mg "_law_ups" z6i ["_law_state"])(T:Txt K mg y0 yb ya y6 y9 y8 y7):Has P w K mg base 1 "_law_ups" ["_law_state"] (zdt K):=by
 refine F.ok zel (fun vs H Q E h=>?_) (fun f cdv A outer s H vs Q E hr h=>?_)
 .obtain⟨d,S,u,rfl,_⟩:=h
  rfl
 .obtain⟨d,S,u,rfl,hS,hok,hn,q⟩:=h
  have hu:=hr.units0
  have hu2:=z3n hr
  have n5:=hok.n5
  refine⟨_,(@zd _ _ _ (@zn _ _ _ _ (@z1z _ _ "_law_k" (["_law_state"]) ([0]) _ _ _ _ _ _ _ _ rfl ⟨rfl,by decide+kernel,by decide+kernel,rfl,zv rfl,by decide+kernel,⟨⟨rfl,Or.inl rfl,rfl⟩,trivial⟩⟩ (@z2r _ _ _ _ _ _ rfl T.b_range (@z6 _ _ _ _ _ (@zi _ _ _ _ _ _ _ ix_tup (@zx _ _ _ _ _ _ hu2 (pv 0) zl (fun _ _=>rfl)) z7 (fun _ _=>rfl)) z9 rfl) rfl) (fun _ _ _ _=>(@z28 _ _ _ (@z1i _ _ _ (@zi _ _ _ _ _ _ _ (zbf (K:=K)) (@zx _ _ _ _ _ _ hu2 (pv 1) zl (fun _ _=>rfl)) (pv 0) (fun _ _=>rfl)) (by intro _;rfl)))) (fun _ _ _ _=>(@zg _ _ _ _ _ _ _ _ z18 (pv 0) z7)) (by intro _;rfl)))),?_⟩
  walk_at "rd"
  refine⟨_,z6r hS.st,_,_,_,_,rfl,rfl,SqT.of hS.su.tu,zc (j:=0) rfl,_,rfl,⟨by omega,by omega⟩,?_⟩
  rw[x11]
  refine z34 (zf (by omega)) (fun i acc H'=>H'=H/\acc=zr ((List.range i).filter fun j=>S.us.getD j false)) ⟨rfl,rfl⟩ ?_ ?_ ?_
  .rintro i acc H' ⟨-,rfl⟩
   unfold zr
   rw[x0]
   exact xp (xj _ _) (by rw[List.length_range];exact xk _)
  .rintro Nn i acc H' hN hi ⟨rfl,rfl⟩
   walk_at "rd"
   simp only[Int.zero_add]
   have hi2:i<S.us.length:=by omega
   have gb:(S.us.map V.bl)[i]? =some (.bl S.us[i]):=by rw[xc,x6 hi2];rfl
   have eb:S.us.getD i false=S.us[i]:=by rw[xn,x6 hi2];rfl
   refine⟨_,z7v hS.st,_,_,_,_,rfl,rfl,SqL.of hS.gu,zc gb,_,rfl,?_⟩
   have stp:=zh1 (p:=fun j=>S.us.getD j false) i
   simp only[eb]at stp
   cases e:S.us[i]with
   |true=>
    rw[if_pos rfl]
    refine hN _ _ ⟨rfl,?_⟩
    rw[stp,e]
    simp[zr]
   |false=>
    rw[if_neg xa]
    refine hN _ _ ⟨rfl,?_⟩
    rw[stp,e]
    simp[zr]
  .rintro acc H' ⟨rfl,rfl⟩ p hp
   refine q p _ hp ?_ (Same.upd hp)
   rw[z8]
   unfold upL
   rw[hn]
noncomputable def z31(k:Nat)(now:Int)(hd lk:Str)(sh:Bool)(zs:List Str)(q:Nk):List Str:=if(decide (q.k=k)&&decide (now<q.x.e)&&z2x hd lk sh q.x&& !decide (q.x.h∈zs))=true then zs++[q.x.h] else zs
noncomputable def nmOf(k:Nat)(now:Int)(hd lk:Str)(sh:Bool)(N:List Nk):List Str:=N.foldl (z31 k now hd lk sh) []
theorem zj1(k:Nat)(now:Int)(hd lk:Str)(sh:Bool)(N:List Nk)(q:Nk):nmOf k now hd lk sh (N++[q])=z31 k now hd lk sh (nmOf k now hd lk sh N) q:=by
 unfold nmOf
 rw[List.foldl_append]
 rfl
theorem z2d{α β:Type}(f:α->β){L:List α}{i:Nat}{x:α}(h:L[i]? =some x):(L.take (i+1)).map f=(L.take i).map f++[f x]:=by
 rw[List.take_succ,h,x0b]
 rfl
theorem zj2{k:Nat}{now:Int}{hd lk:Str}{sh:Bool}{zs:List Str}{q:Nk}(h:zs≠[]):z31 k now hd lk sh zs q≠[]:=by
 unfold z31
 split
 .simp
 .exact h
theorem z9z{k:Nat}{now:Int}{hd lk:Str}{sh:Bool}:∀(N:List Nk){zs:List Str},zs≠[]->N.foldl (z31 k now hd lk sh) zs≠[]
 |[],_,h=>h
 |q::N,_,h=>z9z N (zj2 h)
theorem zm8(k:Nat)(now:Int)(hd lk:Str)(sh:Bool)(N:List Nk):nmOf k now hd lk sh N=[]↔∀q∈N,q.k=k->now<q.x.e->z2x hd lk sh q.x=false:=by
 unfold nmOf
 induction N with
 |nil=>exact⟨fun _ q hq=>(by cases hq),fun _=>rfl⟩
 |cons a N ih=>
  rw[List.foldl_cons]
  by_cases c:(decide (a.k=k)&&decide (now<a.x.e)&&z2x hd lk sh a.x)=true
  .have e:z31 k now hd lk sh [] a=[a.x.h]:=by
    unfold z31
    rw[c]
    rfl
   rw[e]
   refine⟨fun h=>absurd h (z9z N (by simp)),fun h=>?_⟩
   simp only[x07,x10]at c
   have:=h a (x0c ..) c.1.1 c.1.2
   rw[c.2]at this
   cases this
  .have e:z31 k now hd lk sh [] a=[]:=by
    unfold z31
    rw[if_neg]
    intro z
    rw[x07]at z
    exact c z.1
   rw[e,ih]
   refine⟨fun h q hq=>?_,fun h q hq=>h q (x09 _ hq)⟩
   rcases xo.mp hq with rfl|hq
   .intro h1 h2
    cases eb:z2x hd lk sh q.x with
    |false=>rfl
    |true=>exact absurd (by rw[xx h1,xx h2,eb];rfl) c
   .exact h q hq
noncomputable def zdu(K:PySem.W.Frag):Sp:=fun vs H Q _=>∃(d a:Addr)(S:Sv)(u:Su)(z:Int)(hd lk:Str)(sh:Bool)(tm:Int)(k:Nat),vs=[.ref d,.ref a,.int ((k:Int)+1)]/\StAt H d S u/\H a=some (.tup [.int z,.str hd,.str lk,.bl sh,.int tm])/\lk.length<=1000/\(∀q∈S.N,q.2.x.l.length<=1000)/\S.N.length<=400/\
 ∀(r:Addr)(H':Hp),H r=none->H' r=some (.lst ((nmOf k S.now hd lk sh (S.N.map (·.2))).map V.str))->Same H H'->Q (.ref r) H'
theorem zau(F:Def K mg "_law_naming" z4i ["_law_state","_law_asking","_law_keeper"])(T:Txt K mg y0 yb ya y6 y9 y8 y7)(yo:Has P w K mg base 2 "_law_way" ["_law_lock","_law_shared","_law_other","_law_other_shared"] (zdo)):Has P w K mg base 3 "_law_naming" ["_law_state","_law_asking","_law_keeper"] (zdu K):=by
 refine F.ok sc__law_naming (fun vs H Q E h=>?_) (fun f cdv A outer s H vs Q E hr h=>?_)
 .obtain⟨d,a,S,u,z,hd,lk,sh,tm,k,rfl,_⟩:=h
  rfl
 .obtain⟨d,a,S,u,z,hd,lk,sh,tm,k,rfl,hS,ga,hlk,hll,hn,q⟩:=h
  have hu:=hr.units0
  have hu2:=z3n hr
  refine⟨_,(@za _ _ _ _ _ (@zk _ _ 3 _ _ _ _ sc__law_naming.nd rfl (Or.inl rfl) (@z1c _ _ _ _ z9) rfl (Or.inr rfl)) (@za _ _ _ _ _ (@z1u _ _ _ _ _ _ _ _ x0m rfl (@z12 _ _ _ _ (@zx _ _ _ _ _ _ hu2 (pv 0) zl (fun _ _=>rfl))) (@z15 _ _ 4 _ sc__law_naming.nd rfl (Or.inl rfl) (Or.inr rfl)) (@zd _ _ _ (@z11 _ _ _ _ _ _ _ _ (PW.pt (@z2w _ _ _ _ _ _ _ (@zo _ _ _ _ _ _ _ _ z1f (@zi _ _ _ _ _ _ _ ix_tup (pv 4) z7 (fun _ _=>rfl)) (pv 2) (zm _)) (@z2w _ _ _ _ _ _ _ (@zo _ _ _ _ _ _ _ _ z7z (@zi _ _ _ _ _ _ _ ix_tup (pv 4) z7 (fun _ _=>rfl)) (@zx _ _ _ _ _ _ hu2 (pv 0) zl (fun _ _=>rfl)) (zm _)) (@z2w _ _ _ _ _ _ _ (@zo _ _ _ _ _ _ _ _ z2j (@zi _ _ _ _ _ _ _ ix_tup (pv 4) z7 (fun _ _=>rfl)) (@zi _ _ _ _ _ _ _ ix_tup (pv 1) z7 (fun _ _=>rfl)) (zm _)) (@z3v _ _ _ _ (@zo _ _ _ _ _ _ _ _ z75 (@zi _ _ _ _ _ _ _ ix_tup (pv 4) z7 (fun _ _=>rfl)) (pv 3) (by with_unfolding_all rfl))))))) (@zd _ _ _ (@z11 _ _ _ _ _ _ _ _ (@z1i _ _ _ (@zw _ _ _ _ _ _ _ _ _ _ yo (hr.mono (by decide)) rfl (@z6 _ _ _ _ _ (@zi _ _ _ _ _ _ _ ix_tup (pv 4) z7 (fun _ _=>rfl)) (@z6 _ _ _ _ _ (@zi _ _ _ _ _ _ _ ix_tup (pv 4) z7 (fun _ _=>rfl)) (@z6 _ _ _ _ _ (@zi _ _ _ _ _ _ _ ix_tup (pv 1) z7 (fun _ _=>rfl)) (@z6 _ _ _ _ _ (@zi _ _ _ _ _ _ _ ix_tup (pv 1) z7 (fun _ _=>rfl)) z9 rfl) rfl) rfl) rfl) (by decide) rfl rfl) (by intro _;rfl)) (@zd _ _ _ (@z1h _ _ _ _ (@z2c _ _ _ _ _ _ _ _ _ _ _ _ x0a x0d x0e z1r (pv 3) (@z6 _ _ _ _ _ (@zi _ _ _ _ _ _ _ ix_tup (pv 4) z7 (fun _ _=>rfl)) z9 rfl) rfl rfl rfl rfl rfl) rfl)) zp)) zp)) (by intro _;rfl)) (@zd _ _ _ (@zn _ _ _ _ (pv 3))))),?_⟩
  walk_at "rd"
  refine⟨x03 _,fun p hp=>?_⟩
  have s1:=Same.upd (o:=.lst []) hp
  have g1:upd H p (.lst []) p=some (.lst []):=z8
  generalize upd H p (.lst [])=H1 at s1 g1⊢
  refine⟨_,z56 (s1 _ _ hS.st),_,rfl,⟨_,SqL.of (s1 _ _ hS.gn)⟩,?_⟩
  refine z1b (xs:=refk S.N) (fun i σ H'=>∃(zs:List Str)(v4:Option V),σ=[some (V.ref d),some (V.ref a),some (V.int ((k:Int)+1)),some (V.ref p),v4]/\zs.length<=i/\H' p=some (.lst (zs.map V.str))/\zs=nmOf k S.now hd lk sh ((S.N.take i).map (·.2))/\Same H H') ⟨[],_,rfl,xk _,g1,rfl,s1⟩ ?_ ?_ ?_
  .rintro i σ H'-⟨zs,v4,-,-,-,-,s2⟩
   exact SqL.of (s2 _ _ hS.gn)
  .rintro Pv hP i x σ H' hx ⟨zs,v4,rfl,lz,gz,iz,s2⟩
   obtain⟨y,hy,rfl⟩:=z55 hx
   have my:=x9 hy
   have hi:i<S.N.length:=(xg.mp hy).1
   have stp:nmOf k S.now hd lk sh ((S.N.take (i+1)).map (·.2))=z31 k S.now hd lk sh zs y.2:=by
    rw[z2d _ hy,zj1,<-iz]
   have no:∀H2,Same H' H2->(decide (y.2.k=k)&&decide (S.now<y.2.x.e)&&z2x hd lk sh y.2.x&& !decide (y.2.x.h∈zs))=false->Pv (i+1) [some (V.ref d),some (V.ref a),some (V.int ((k:Int)+1)),some (V.ref p),some (V.ref y.1)] H2:=fun H2 s3 e=>hP _ _ _ ⟨zs,_,rfl,by omega,s3 _ _ gz,by rw[stp];unfold z31;rw[if_neg (by rw[e];exact xa)],s2.trans s3⟩
   have hy1:=s2 _ _ (hS.kn y my)
   have hst:=s2 _ _ hS.st
   have ga2:=s2 _ _ ga
   walk_at "rd"
   refine⟨_,_,_,_,rfl,rfl,SqT.of hy1,zc (j:=0) rfl,rfl,?_⟩
   by_cases c1:y.2.k=k
   rotate_left
   .rw[if_neg (by simp;omega)]
    exact no _ (Same.refl _) (by simp[c1])
   rw[if_pos (xx (x0u V.int (by rw[c1])))]
   refine⟨_,_,_,_,rfl,rfl,SqT.of hy1,zc (j:=5) rfl,_,z30 hst,_,rfl,_,rfl,?_⟩
   by_cases c2:S.now<y.2.x.e
   rotate_left
   .rw[if_neg (by simpa using c2)]
    exact no _ (Same.refl _) (by simp[c2])
   rw[if_pos (xx c2)]
   refine⟨_,_,_,_,rfl,rfl,SqT.of hy1,zc (j:=2) rfl,_,_,_,_,rfl,rfl,SqT.of ga2,zc (j:=1) rfl,rfl,?_⟩
   by_cases c3:y.2.x.h=hd
   .rw[if_neg (by simp[c3])]
    exact no _ (Same.refl _) (by simp[z2x,c3])
   rw[if_pos (by simp[c3])]
   refine⟨_,_,_,_,rfl,rfl,SqT.of hy1,zc (j:=2) rfl,?_⟩
   refine⟨_,_,rfl,.inl (SqL.of gz),rfl,z2o _,_,rfl,?_⟩
   rw[if_pos rfl,zlg]
   by_cases c4:y.2.x.h∈zs
   .rw[if_neg (by simp[c4])]
    exact no _ (Same.refl _) (by simp[c4])
   rw[if_pos (by simp[c4])]
   refine⟨_,_,_,_,rfl,rfl,SqT.of hy1,zc (j:=3) rfl,_,_,_,_,rfl,rfl,SqT.of hy1,zc (j:=4) rfl,_,_,_,_,rfl,rfl,SqT.of ga2,zc (j:=2) rfl,_,_,_,_,rfl,rfl,SqT.of ga2,zc (j:=3) rfl,?_⟩
   refine⟨_,_,_,_,rfl,hll y my,hlk,fun H2 s3=>⟨_,rfl,?_⟩⟩
   have eb:z2x hd lk sh y.2.x=(onl y.2.x.l lk&& !(y.2.x.sh&&sh)):=by
    unfold z2x
    rw[xx c3,Bool.true_and,zdn,Bool.and_comm sh]
   by_cases c5:(onl y.2.x.l lk&& !(y.2.x.sh&&sh))=true
   .rw[if_pos c5]
    refine⟨.inl ⟨_,SqL.of (s3 _ _ gz)⟩,_,_,_,_,rfl,rfl,SqT.of (s3 _ _ hy1),zc (j:=2) rfl,?_⟩
    refine⟨_,_,_,rfl,rfl,s3 _ _ gz,z1k (by rw[x0];omega),hP _ _ _ ⟨zs++[y.2.x.h],_,rfl,by rw[x00];show _+1<=_;omega,by rw[z8];simp,?_,fun b o e=>?_⟩⟩
    .rw[stp]
     unfold z31
     rw[if_pos]
     rw[eb,c5]
     simp[c1,c2,c4]
    .rw[zb (ze e hp)]
     exact s3 _ _ (s2 _ _ e)
   .rw[if_neg c5]
    refine no _ s3 ?_
    rw[eb]
    simp only[Bool.not_eq_true]at c5
    rw[c5]
    simp
  .rintro σ H' ⟨zs,v4,rfl,lz,gz,iz,s2⟩
   walk_at "rd"
   rw[z2v,x02]at iz
   exact q p H' hp (by rw[<-iz];exact gz) s2
noncomputable def sayL(S:Sv)(hd lk:Str)(sh:Bool):List Nat:=(upL S.us).filter fun k=>(nmOf k S.now hd lk sh (S.N.map (·.2))).isEmpty
theorem zdv(S:Sv)(hd lk:Str)(sh:Bool):(sayL S hd lk sh).length<=S.us.length:=xp (xj _ _) (zat _)
theorem z1s(js:List Nat):(zr js).length=js.length:=x0 _
theorem z7x{js:List Nat}{i:Nat}{x:V}(h:(zr js)[i]? =some x):∃j,js[i]? =some j/\x=V.int ((j:Int)+1):=by
 unfold zr at h
 rw[xc]at h
 cases e:js[i]? with
 |none=>rw[e]at h;cases h
 |some j=>rw[e]at h;exact⟨j,rfl,(xq h).symm⟩
noncomputable def SayP(S:Sv)(u:Su):Prop:=u.ok/\S.us.length=u.n/\(∀q∈S.N,q.2.x.l.length<=1000)/\S.N.length<=400
noncomputable def za0(K:PySem.W.Frag):Sp:=fun vs H Q _=>∃(d a:Addr)(S:Sv)(u:Su)(z:Int)(hd lk:Str)(sh:Bool)(tm:Int),vs=[.ref d,.ref a]/\StAt H d S u/\H a=some (.tup [.int z,.str hd,.str lk,.bl sh,.int tm])/\lk.length<=1000/\SayP S u/\
 ∀(r:Addr)(H':Hp),H r=none->H' r=some (.lst (zr (sayL S hd lk sh)))->Same H H'->Q (.ref r) H'
theorem zav(F:Def K mg "_law_sayers" z4j ["_law_state","_law_asking"])(T:Txt K mg y0 yb ya y6 y9 y8 y7)(y12:Has P w K mg base 3 "_law_naming" ["_law_state","_law_asking","_law_keeper"] (zdu K))(yp:Has P w K mg base 1 "_law_ups" ["_law_state"] (zdt K)):Has P w K mg base 4 "_law_sayers" ["_law_state","_law_asking"] (za0 K):=by
 refine F.ok zam (fun vs H Q E h=>?_) (fun f cdv A outer s H vs Q E hr h=>?_)
 .obtain⟨d,a,S,u,z,hd,lk,sh,tm,rfl,_⟩:=h
  rfl
 .obtain⟨d,a,S,u,z,hd,lk,sh,tm,rfl,hS,ga,hlk,⟨hok,hun,hll,hn⟩,q⟩:=h
  have hu:=hr.units0
  have hu2:=z3n hr
  have n5:=hok.n5
  refine⟨_,(@zd _ _ _ (@zn _ _ _ _ (@z1z _ _ "_law_k" (["_law_state","_law_asking"]) ([0,1]) _ _ _ _ _ _ _ _ rfl ⟨rfl,by decide+kernel,by decide+kernel,rfl,zv rfl,by decide+kernel,⟨⟨rfl,Or.inl rfl,rfl⟩,⟨⟨rfl,Or.inl rfl,rfl⟩,trivial⟩⟩⟩ (@z12 _ _ _ _ (@zw _ _ _ _ _ _ _ _ _ _ yp (hr.mono (by decide)) rfl (@z6 _ _ _ _ _ (pv 0) z9 rfl) (by decide) rfl rfl)) (fun _ _ _ _=>(@z28 _ _ _ (@zo _ _ _ _ _ _ _ _ (zgy (K:=K) hu) (@zw _ _ _ _ _ _ _ _ _ _ y12 (hr.mono (by decide)) rfl (@z6 _ _ _ _ _ (pv 1) (@z6 _ _ _ _ _ (pv 2) (@z6 _ _ _ _ _ (pv 0) z9 rfl) rfl) rfl) (by decide) rfl rfl) (@z1c _ _ _ _ z9) (zm _)))) (fun _ _ _ _=>(pv 0)) (by intro _;rfl)))),?_⟩
  walk_at "rd"
  refine⟨d,S,u,rfl,hS,hok,hun,fun r H1 hr0 gr s1=>⟨r,rfl,⟨_,SqL.of gr⟩,?_⟩⟩
  have lu:=zat S.us
  refine z1d (xs:=zr (upL S.us)) (by rw[z1s];exact zf (by omega)) (fun i acc H'=>acc=zr (((upL S.us).take i).filter fun k=>(nmOf k S.now hd lk sh (S.N.map (·.2))).isEmpty)/\Same H1 H') ⟨rfl,Same.refl _⟩ ?_ ?_ ?_ ?_
  .rintro i acc H' ⟨rfl,-⟩
   rw[z1s]
   exact xp (xj _ _) (by rw[x04];omega)
  .rintro i acc H' ⟨-,s2⟩
   exact SqL.of (s2 _ _ gr)
  .rintro Nn i acc H' x hN hx hi ⟨rfl,s2⟩
   obtain⟨k,hk,rfl⟩:=z7x hx
   walk_at "rd"
   have s12:=s1.trans s2
   have stp:=z1l (fun k=>(nmOf k S.now hd lk sh (S.N.map (·.2))).isEmpty) hk
   refine⟨d,a,S,u,z,hd,lk,sh,tm,k,rfl,hS.mono s12,s12 _ _ ga,hlk,hll,hn,fun r2 H2 hr2 gr2 s3=>?_⟩
   refine⟨x03 _,fun p hp=>?_⟩
   have s4:=Same.upd (o:=.lst []) hp
   refine⟨_,rfl,_,SqL.of (s4 _ _ gr2),SqL.of z8,?_⟩
   have ee:((nmOf k S.now hd lk sh (S.N.map (·.2))).map V.str).isEmpty=(nmOf k S.now hd lk sh (S.N.map (·.2))).isEmpty:=by
    cases nmOf k S.now hd lk sh (S.N.map (·.2))<;>rfl
   rw[ee]
   by_cases c:(nmOf k S.now hd lk sh (S.N.map (·.2))).isEmpty=true
   .rw[if_pos c]
    refine hN _ _ ⟨?_,s2.trans (s3.trans s4)⟩
    rw[stp,if_pos c]
    simp[zr]
   .rw[if_neg c]
    refine hN _ _ ⟨?_,s2.trans (s3.trans s4)⟩
    rw[stp,if_neg c]
    simp[zr]
  .rintro acc H' ⟨rfl,s2⟩ p hp
   refine q p _ (zu (s1.trans s2) hp) ?_ ((s1.trans s2).trans (Same.upd hp))
   rw[z8,z1s,x02]
   rfl
noncomputable def zfc(K:PySem.W.Frag):Sp:=fun vs H Q _=>∃(d a:Addr)(S:Sv)(u:Su)(z:Int)(hd lk:Str)(sh:Bool)(tm:Int),vs=[.ref d,.ref a]/\StAt H d S u/\H a=some (.tup [.int z,.str hd,.str lk,.bl sh,.int tm])/\lk.length<=1000/\SayP S u/\
 z59 H Q (.bl (decide ((u.n:Int)<2*((sayL S hd lk sh).length:Int))))
theorem zdw(F:Def K mg "_law_free" z5m ["_law_state","_law_asking"])(T:Txt K mg y0 yb ya y6 y9 y8 y7)(yg:Has P w K mg base 4 "_law_sayers" ["_law_state","_law_asking"] (za0 K)):Has P w K mg base 5 "_law_free" ["_law_state","_law_asking"] (zfc K):=by
 refine F.ok zdd (fun vs H Q E h=>?_) (fun f cdv A outer s H vs Q E hr h=>?_)
 .obtain⟨d,a,S,u,z,hd,lk,sh,tm,rfl,_⟩:=h
  rfl
 .obtain⟨d,a,S,u,z,hd,lk,sh,tm,rfl,hS,ga,hlk,hp,q⟩:=h
  have hu:=hr.units0
  have hu2:=z3n hr
  refine⟨_,(@zd _ _ _ (@zn _ _ _ _ (@z1n _ _ _ _ _ _ _ _ z7z (@zg _ _ _ _ _ _ _ _ z5t z7 (@zj _ _ _ _ _ _ _ _ _ zq rfl T.b_len (by decide+kernel) (@z6 _ _ _ _ _ (@zw _ _ _ _ _ _ _ _ _ _ yg (hr.mono (by decide)) rfl (@z6 _ _ _ _ _ (pv 0) (@z6 _ _ _ _ _ (pv 1) z9 rfl) rfl) (by decide) rfl rfl) z9 rfl) (by decide) (by decide) rfl rfl)) (@zi _ _ _ _ _ _ _ ix_tup (@zx _ _ _ _ _ _ hu2 (pv 0) zl (fun _ _=>rfl)) z7 (fun _ _=>rfl)) (zm _)))),?_⟩
  walk_at "rd"
  refine⟨d,a,S,u,z,hd,lk,sh,tm,rfl,hS,ga,hlk,hp,fun r H1 hr0 gr s1=>?_⟩
  exact⟨r,rfl,_,.inl (SqL.of gr),.inl ⟨by decide,by decide⟩,_,z6r (s1 _ _ hS.st),_,_,_,_,rfl,rfl,SqT.of (s1 _ _ hS.su.tu),zc (j:=0) rfl,_,rfl,by rw[z1s];exact q _ s1⟩
theorem zk8(j:Nat)(js:List Nat):inV (V.int ((j:Int)+1)) (zr js)=decide (j∈js):=by
 unfold inV zr
 rw[List.any_map,x18]
 simp only[List.any_eq_true,x10,Function.comp]
 constructor
 .rintro⟨x,hx,e⟩
  have:j=x:=by
   simp[eqV]at e
   omega
  exact this▸hx
 .intro h
  exact⟨j,h,by simp[eqV]⟩
theorem zh2(js:List Nat):(zr js).all z2k=true:=by
 unfold zr
 rw[List.all_map,List.all_eq_true]
 intro x _
 rfl
theorem zfd{n m:Nat}(h:m<n):ixN n (m:Int)=some m:=by
 unfold ixN
 simp
 omega
noncomputable def z24(now:Int)(sl:List Nat)(hd lk:Str)(q:Nk):Bool:=decide (now<q.x.e)&& !(decide (q.k∈sl)&&(decide (q.x.h=hd)&&decide (q.x.l=lk)))
noncomputable def z4m(N:List Nk)(now:Int)(sl:List Nat)(x:Nt):List Nk:=N.filter (z24 now sl x.h x.l)++sl.map fun k=>⟨k,x⟩
noncomputable def topS(ts:List Int)(sl:List Nat)(n:Int):List Int:=ts.mapIdx fun j t=>if j∈sl then n else t
theorem z6s(ts:List Int)(sl:List Nat)(n:Int):(topS ts sl n).length=ts.length:=List.length_mapIdx
theorem zk9(ts:List Int)(n:Int):topS ts [] n=ts:=by
 unfold topS
 apply x0n
 intro j
 rw[x06]
 cases ts[j]? <;>simp
theorem zj3{ts:List Int}{sl:List Nat}{n:Int}{i j:Nat}(hj:sl[i]? =some j):topS ts (sl.take (i+1)) n=(topS ts (sl.take i) n).set j n:=by
 have et:sl.take (i+1)=sl.take i++[j]:=by rw[List.take_succ,hj];rfl
 apply x0n
 intro k
 by_cases hk:k=j
 .subst hk
  by_cases hl:k<ts.length
  .rw[x0x (by rw[z6s];exact hl)]
   unfold topS
   rw[x06,x6 hl,et]
   simp
  .rw[x1m (by rw[z6s];omega),x1m (by rw[List.length_set,z6s];omega)]
 .rw[x0y (Ne.symm hk)]
  unfold topS
  rw[x06,x06,et]
  cases ts[k]? with
  |none=>rfl
  |some t=>simp[hk]
noncomputable def zdx(us:List Bool)(ts:List Int)(m:Int):Prop:=(∃j∈upL us,ts[j]? =some m)/\∀j∈upL us,∀t,ts[j]? =some t->t<=m
noncomputable def zfe(K:PySem.W.Frag):Sp:=fun vs H Q _=>∃(d a:Addr)(S:Sv)(u:Su)(z:Int)(hd lk:Str)(sh:Bool)(tm:Int),vs=[.ref d,.ref a]/\StAt H d S u/\H a=some (.tup [.int z,.str hd,.str lk,.bl sh,.int tm])/\lk.length<=1000/\SayP S u/\S.ts.length=u.n/\sayL S hd lk sh≠[]/\S.C.length<=400/\S.lg.length<=400/\
 ∀(m:Int)(S':Sv)(H':Hp)(pl pb:Addr),zdx S.us S.ts m->StAt H' d S' u->S'.now=S.now->S'.ps=S.ps->S'.us=S.us->S'.ts=topS S.ts (sayL S hd lk sh) (1+m)->S'.N.map (·.2)=z4m (S.N.map (·.2)) S.now (sayL S hd lk sh) ⟨1+m,hd,lk,sh,S.now+tm⟩->S'.C.length<=S.C.length+1->S'.lg=S.lg++[.ref pl]->
  H' pl=some (.tup [.str "given",.int S.now,.str hd,.str lk,.bl sh,.int (1+m),.int (S.now+tm),.ref pb])->(∀ p∈S'.lists,p∈S.lists\/H p=none)->ButK (own d S) H H'->Q .non H'
theorem zka{a b:TS}{D:Ends}{σ:St}{H:Hp}(h:∀R,R=b->tSeq a R D σ H):tSeq a b D σ H:=h b rfl
theorem zbn{a b c:TS}{D:Ends}{σ:St}{H:Hp}(h:∀R,R=c->tSeq a (tSeq b R) D σ H):tSeq a (tSeq b c) D σ H:=h c rfl
theorem zj4{a b c d:TS}{D:Ends}{σ:St}{H:Hp}(h:∀R,R=d->tSeq a (tSeq b (tSeq c R)) D σ H):tSeq a (tSeq b (tSeq c d)) D σ H:=h d rfl
theorem zdy(F:Def K mg "_law_give" z5n ["_law_state","_law_asking"])(T:Txt K mg y0 yb ya y6 y9 y8 y7)(yp:Has P w K mg base 1 "_law_ups" ["_law_state"] (zdt K))(yg:Has P w K mg base 4 "_law_sayers" ["_law_state","_law_asking"] (za0 K)):Has P w K mg base 5 "_law_give" ["_law_state","_law_asking"] (zfe K):=by
 refine F.ok sc__law_give (fun vs H Q E h=>?_) (fun f cdv A outer s H vs Q E hr h=>?_)
 .obtain⟨d,a,S,u,z,hd,lk,sh,tm,rfl,_⟩:=h
  rfl
 .obtain⟨d,a,S,u,z,hd,lk,sh,tm,rfl,hS,ga,hlk,hp,htn,hne,hC,hlg,q⟩:=h
  have hu:=hr.units0
  have hu2:=z3n hr
  refine⟨_,(@za _ _ _ _ _ (@zk _ _ 2 _ _ _ _ sc__law_give.nd rfl (Or.inl rfl) (@zw _ _ _ _ _ _ _ _ _ _ yg (hr.mono (by decide)) rfl (@z6 _ _ _ _ _ (pv 0) (@z6 _ _ _ _ _ (pv 1) z9 rfl) rfl) (by decide) rfl rfl) rfl (Or.inr rfl)) (@za _ _ _ _ _ (@zk _ _ 3 _ _ _ _ sc__law_give.nd rfl (Or.inl rfl) (@zg _ _ _ _ _ _ _ _ z18 z7 (@zj _ _ _ _ _ _ _ _ _ (z79 rfl) rfl T.b_max (by decide+kernel) (@z6 _ _ _ _ _ (@z1z _ _ "_law_k" (["_law_state"]) ([0]) _ _ _ _ _ _ _ _ rfl ⟨rfl,by decide+kernel,by decide+kernel,rfl,zv rfl,by decide+kernel,⟨⟨rfl,Or.inl rfl,rfl⟩,trivial⟩⟩ (@z12 _ _ _ _ (@zw _ _ _ _ _ _ _ _ _ _ yp (hr.mono (by decide)) rfl (@z6 _ _ _ _ _ (pv 0) z9 rfl) (by decide) rfl rfl)) (fun _ _ _ _=>z39) (fun _ _ _ _=>(@zi _ _ _ _ _ _ _ (zbf (K:=K)) (@zx _ _ _ _ _ _ hu2 (pv 1) zl (fun _ _=>rfl)) (@zg _ _ _ _ _ _ _ _ z2n (pv 0) z7) (fun _ _=>rfl))) (by intro _;rfl)) z9 rfl) (by decide) (by decide) rfl rfl)) rfl (Or.inr rfl)) (@za _ _ _ _ _ (@zcc _ _ _ _ _ _ (@z1p _ _ _ _ _ (@z6 _ _ _ _ _ (@zi _ _ _ _ _ _ _ ix_tup (pv 1) z7 (fun _ _=>rfl)) (@z6 _ _ _ _ _ (@zi _ _ _ _ _ _ _ ix_tup (pv 1) z7 (fun _ _=>rfl)) (@z6 _ _ _ _ _ (@zi _ _ _ _ _ _ _ ix_tup (pv 1) z7 (fun _ _=>rfl)) z9 rfl) rfl) rfl)) (@z9b _ _ _ _ _ _ rfl (@z22 _ _ _ _ _ (@z15 _ _ 4 _ sc__law_give.nd rfl (Or.inr rfl) (Or.inl rfl)) (@z22 _ _ _ _ _ (@z15 _ _ 5 _ sc__law_give.nd rfl (Or.inr rfl) (Or.inl rfl)) (@z22 _ _ _ _ _ (@z15 _ _ 6 _ sc__law_give.nd rfl (Or.inl rfl) (Or.inr rfl)) z4q rfl) rfl) rfl) rfl rfl) rfl rfl rfl) (@za _ _ _ _ _ (@zk _ _ 7 _ _ _ _ sc__law_give.nd rfl (Or.inl rfl) (@zg _ _ _ _ _ _ _ _ z18 (@zx _ _ _ _ _ _ hu2 (pv 0) zl (fun _ _=>rfl)) (@zi _ _ _ _ _ _ _ ix_tup (pv 1) z7 (fun _ _=>rfl))) rfl (Or.inr rfl)) (@za _ _ _ _ _ (@zk _ _ 8 _ _ _ _ sc__law_give.nd rfl (Or.inl rfl) (@z1c _ _ _ _ z9) rfl (Or.inr rfl)) (@za _ _ _ _ _ (@z1u _ _ _ _ _ _ _ _ x0m rfl (@z12 _ _ _ _ (@zx _ _ _ _ _ _ hu2 (pv 0) zl (fun _ _=>rfl))) (@z15 _ _ 9 _ sc__law_give.nd rfl (Or.inl rfl) (Or.inr rfl)) (@zd _ _ _ (@z11 _ _ _ _ _ _ _ _ (PW.pt (@z2w _ _ _ _ _ _ _ (@zo _ _ _ _ _ _ _ _ z7z (@zi _ _ _ _ _ _ _ ix_tup (pv 9) z7 (fun _ _=>rfl)) (@zx _ _ _ _ _ _ hu2 (pv 0) zl (fun _ _=>rfl)) (zm _)) (@z3v _ _ _ _ (@z3l _ _ _ _ (PW.pt (@z2w _ _ _ _ _ _ _ (@zo _ _ _ _ _ _ _ _ zb6 (@zi _ _ _ _ _ _ _ ix_tup (pv 9) z7 (fun _ _=>rfl)) (pv 2) (by with_unfolding_all rfl)) (@z2w _ _ _ _ _ _ _ (@zo _ _ _ _ _ _ _ _ z1f (@zi _ _ _ _ _ _ _ ix_tup (pv 9) z7 (fun _ _=>rfl)) (pv 4) (zm _)) (@z3v _ _ _ _ (@zo _ _ _ _ _ _ _ _ z1f (@zi _ _ _ _ _ _ _ ix_tup (pv 9) z7 (fun _ _=>rfl)) (pv 5) (zm _)))))))))) (@zd _ _ _ (@z1h _ _ _ _ (@z2c _ _ _ _ _ _ _ _ _ _ _ _ x0a x0d x0e z1r (pv 8) (@z6 _ _ _ _ _ (pv 9) z9 rfl) rfl rfl rfl rfl rfl) rfl)) zp)) (by intro _;rfl)) (@za _ _ _ _ _ (@z1u _ _ _ _ _ _ _ _ x0m rfl (@z12 _ _ _ _ (pv 2)) (@z15 _ _ 10 _ sc__law_give.nd rfl (Or.inl rfl) (Or.inr rfl)) (@za _ _ _ _ _ (@z1h _ _ _ _ (@z2c _ _ _ _ _ _ _ _ _ _ _ _ x0a x0d x0e z1r (pv 8) (@z6 _ _ _ _ _ (@z1p _ _ _ _ _ (@z6 _ _ _ _ _ (pv 10) (@z6 _ _ _ _ _ (pv 3) (@z6 _ _ _ _ _ (pv 4) (@z6 _ _ _ _ _ (pv 5) (@z6 _ _ _ _ _ (pv 6) (@z6 _ _ _ _ _ (pv 7) z9 rfl) rfl) rfl) rfl) rfl) rfl)) z9 rfl) rfl rfl rfl rfl rfl) rfl) (@zd _ _ _ (@zcc _ _ _ _ _ _ (pv 3) (@zhc _ _ _ _ _ _ _ (@zx _ _ _ _ _ _ hu2 (pv 0) zl (fun _ _=>rfl)) (@zg _ _ _ _ _ _ _ _ z2n (pv 10) z7) zci (by intro _;rfl)) rfl rfl rfl))) (by intro _;rfl)) (@za _ _ _ _ _ (@z5x _ _ _ _ _ _ _ _ _ hu2 (pv 0) zl (pv 8) rfl) (@za _ _ _ _ _ (@z5x _ _ _ _ _ _ _ _ _ hu2 (pv 0) zl (@z1z _ _ "_law_one" (["_law_holder"]) ([4]) _ _ _ _ _ _ _ _ rfl ⟨rfl,by decide+kernel,by decide+kernel,rfl,zv rfl,by decide+kernel,⟨⟨rfl,Or.inl rfl,rfl⟩,trivial⟩⟩ (@z12 _ _ _ _ (@zx _ _ _ _ _ _ hu2 (pv 0) zl (fun _ _=>rfl))) (fun _ _ _ _=>(@z28 _ _ _ (@zo _ _ _ _ _ _ _ _ z2j (@zi _ _ _ _ _ _ _ (z1e (K:=K)) (pv 0) z7 (fun _ _=>rfl)) (pv 1) (zm _)))) (fun _ _ _ _=>(pv 0)) (by intro _;rfl)) rfl) (@za _ _ _ _ _ (@z5x _ _ _ _ _ _ _ _ _ hu2 (pv 0) zl (@z1z _ _ "_law_one" (["_law_holder","_law_lock"]) ([4,5]) _ _ _ _ _ _ _ _ rfl ⟨rfl,by decide+kernel,by decide+kernel,rfl,zv rfl,by decide+kernel,⟨⟨rfl,Or.inl rfl,rfl⟩,⟨⟨rfl,Or.inl rfl,rfl⟩,trivial⟩⟩⟩ (@z12 _ _ _ _ (@zx _ _ _ _ _ _ hu2 (pv 0) zl (fun _ _=>rfl))) (fun _ _ _ _=>(@z28 _ _ _ (PW.pt (@z99 _ _ _ _ _ _ _ (@zo _ _ _ _ _ _ _ _ z2j (@zi _ _ _ _ _ _ _ (z1e (K:=K)) (pv 0) z7 (fun _ _=>rfl)) (pv 1) (zm _)) (@z71 _ _ _ _ (@zo _ _ _ _ _ _ _ _ z2j (@zi _ _ _ _ _ _ _ (z1e (K:=K)) (pv 0) z7 (fun _ _=>rfl)) (pv 2) (zm _))))))) (fun _ _ _ _=>(pv 0)) (by intro _;rfl)) rfl) (@za _ _ _ _ _ (@z1h _ _ _ _ (@z2c _ _ _ _ _ _ _ _ _ _ _ _ x0a x0d x0e z1r (@zx _ _ _ _ _ _ hu2 (pv 0) zl (fun _ _=>rfl)) (@z6 _ _ _ _ _ (@z1p _ _ _ _ _ (@z6 _ _ _ _ _ (pv 4) (@z6 _ _ _ _ _ (pv 3) (@z6 _ _ _ _ _ (pv 5) (@z6 _ _ _ _ _ (pv 6) (@z6 _ _ _ _ _ (pv 7) z9 rfl) rfl) rfl) rfl) rfl)) z9 rfl) rfl rfl rfl rfl rfl) rfl) (@zd _ _ _ (@z1h _ _ _ _ (@z2c _ _ _ _ _ _ _ _ _ _ _ _ x0a x0d x0e z1r (@zx _ _ _ _ _ _ hu2 (pv 0) zl (fun _ _=>rfl)) (@z6 _ _ _ _ _ (@z1p _ _ _ _ _ (@z6 _ _ _ _ _ zl (@z6 _ _ _ _ _ (@zx _ _ _ _ _ _ hu2 (pv 0) zl (fun _ _=>rfl)) (@z6 _ _ _ _ _ (pv 4) (@z6 _ _ _ _ _ (pv 5) (@z6 _ _ _ _ _ (pv 6) (@z6 _ _ _ _ _ (pv 3) (@z6 _ _ _ _ _ (pv 7) (@z6 _ _ _ _ _ (@z74 _ _ _ _ _ _ _ _ _ zbp rfl T.b_tuple (by decide+kernel) (@z6 _ _ _ _ _ (pv 2) z9 rfl) (by decide) (by decide) rfl rfl) z9 rfl) rfl) rfl) rfl) rfl) rfl) rfl) rfl)) z9 rfl) rfl rfl rfl rfl rfl) rfl))))))))))))),?_⟩
  refine zbn fun R hR=>?_
  walk_at "rd"
  obtain⟨hok,hun,hll,hn⟩:=id hp
  have n5:=hok.n5
  refine⟨d,a,S,u,z,hd,lk,sh,tm,rfl,hS,ga,hlk,hp,fun rb H1 hrb grb s1=>?_⟩
  refine⟨d,S,u,rfl,hS.mono s1,hok,hun,fun r2 H2 hr2 gr2 s2=>⟨r2,rfl,⟨_,SqL.of gr2⟩,?_⟩⟩
  have lu:=zat S.us
  have s12:=s1.trans s2
  have h2:=hS.mono s12
  have jlt:∀j∈upL S.us,j<S.ts.length:=fun j hj=>by
   have:=x0s.mp (xi.mp hj).1
   omega
  refine z1d (xs:=zr (upL S.us)) (by rw[z1s];exact zf (by omega)) (fun i acc H'=>H'=H2/\acc=(((upL S.us).take i).map fun j=>S.ts.getD j 0).map V.int) ⟨rfl,rfl⟩ ?_ ?_ ?_ ?_
  .rintro i acc H' ⟨-,rfl⟩
   rw[x0,x0,x04]
   omega
  .rintro i acc H' ⟨rfl,-⟩
   exact SqL.of gr2
  .rintro Nn i acc H' x hN hx hi ⟨rfl,rfl⟩
   obtain⟨k,hk,rfl⟩:=z7x hx
   walk_at "rd"
   have e1:(k:Int)+1-1=(k:Int):=by omega
   rw[e1]
   have hkl:=jlt k (x9 hk)
   refine⟨_,zas h2.st,_,_,_,_,rfl,rfl,SqL.of h2.gt,zc (v:=.int (S.ts.getD k 0)) ?_,hN _ _ ⟨rfl,?_⟩⟩
   .rw[xc,xn,x6 hkl];rfl
   .rw[z2d _ hk]
    simp
  rintro acc H' ⟨rfl,rfl⟩ pm hpm
  rw[z1s,x02]
  refine⟨pm,rfl,_,SqL.of z8,?_,fun m hm hmax=>?_⟩
  .intro e
   have:sayL S hd lk sh=[]:=by
    unfold sayL
    rw[List.map_eq_nil_iff.mp e]
    rfl
   exact hne this
  have hT:zdx S.us S.ts m:=by
   obtain⟨j,hj,ej⟩:=xw.mp hm
   have hjl:=jlt j hj
   refine⟨⟨j,hj,?_⟩,fun k hk t ht=>?_⟩
   .rw[<-ej,xn,x6 hjl];rfl
   .refine hmax t (xw.mpr ⟨k,hk,?_⟩)
    rw[xn,ht];rfl
  have s3:=s12.trans (Same.upd (o:=.lst (((upL S.us).map fun j=>S.ts.getD j 0).map V.int)) hpm)
  have grb3:=Same.upd (o:=.lst (((upL S.us).map fun j=>S.ts.getD j 0).map V.int)) hpm _ _ (s2 _ _ grb)
  generalize upd H' pm _=H3 at s3 grb3⊢
  subst hR
  refine zj4 fun R hR=>?_
  walk_at "rd"
  refine⟨_,_,_,_,rfl,rfl,SqT.of (s3 _ _ ga),zc (j:=1) rfl,_,_,_,_,rfl,rfl,SqT.of (s3 _ _ ga),zc (j:=2) rfl,_,_,_,_,rfl,rfl,SqT.of (s3 _ _ ga),zc (j:=3) rfl,zf (by decide),fun p3 hp3=>⟨_,SqT.of z8,rfl,_,_,rfl,_,_,rfl,_,_,rfl,rfl,?_⟩⟩
  have s4:=s3.trans (Same.upd (o:=.tup [V.str hd,V.str lk,V.bl sh]) hp3)
  have grb4:=Same.upd (o:=.tup [V.str hd,V.str lk,V.bl sh]) hp3 _ _ grb3
  generalize upd H3 p3 (.tup [V.str hd,V.str lk,V.bl sh])=H4 at s4 grb4⊢
  have h4:=hS.mono s4
  refine⟨_,z30 h4.st,?_⟩
  refine⟨_,_,_,_,rfl,rfl,SqT.of (s4 _ _ ga),zc (j:=4) rfl,_,rfl,_,rfl,x03 _,fun pn hpn=>?_⟩
  have hpn0:H pn=none:=zu s4 hpn
  have s5:=s4.trans (Same.upd (o:=.lst []) hpn)
  have grb5:=Same.upd (o:=.lst []) hpn _ _ grb4
  have g5:upd H4 pn (.lst []) pn=some (.lst (refk [])):=z8
  have s45:=Same.upd (o:=.lst []) hpn
  generalize upd H4 pn (.lst [])=H5 at s5 grb5 g5 s45⊢
  subst hR
  refine zka fun R hR=>?_
  walk_at "rd"
  refine⟨_,z56 (s5 _ _ hS.st),_,rfl,⟨_,SqL.of (s5 _ _ hS.gn)⟩,?_⟩
  refine z1b (xs:=refk S.N) (fun i σ H'=>∃(v9:Option V),σ=[some (V.ref d),some (V.ref a),some (V.ref rb),some (V.int (1+m)),some (V.str hd),some (V.str lk),some (V.bl sh),some (V.int (S.now+tm)),some (V.ref pn),v9,none]/\H' pn=some (.lst (refk ((S.N.take i).filter fun q=>z24 S.now (sayL S hd lk sh) hd lk q.2)))/\Same H4 H') ⟨_,rfl,g5,s45⟩ ?_ ?_ ?_
  .rintro i σ H'-⟨v9,-,-,s6⟩
   exact SqL.of (s6 _ _ h4.gn)
  .rintro Pv hP i x σ H' hx ⟨v9,rfl,gp,s6⟩
   obtain⟨y,hy,rfl⟩:=z55 hx
   have my:=x9 hy
   have hi:i<S.N.length:=(xg.mp hy).1
   have stp:=z1l (fun q:Addr×Nk=>z24 S.now (sayL S hd lk sh) hd lk q.2) hy
   have hy1:=s6 _ _ (h4.kn y my)
   have hst:=s6 _ _ h4.st
   have lF:((S.N.take i).filter fun q=>z24 S.now (sayL S hd lk sh) hd lk q.2).length<=400:=xp (xj _ _) (by rw[x04];omega)
   have no:z24 S.now (sayL S hd lk sh) hd lk y.2=false->Pv (i+1) [some (V.ref d),some (V.ref a),some (V.ref rb),some (V.int (1+m)),some (V.str hd),some (V.str lk),some (V.bl sh),some (V.int (S.now+tm)),some (V.ref pn),some (V.ref y.1),none] H':=fun e=>hP _ _ _ ⟨_,rfl,by rw[stp,if_neg (by rw[e];exact xa),x0l];exact gp,s6⟩
   have yes:z24 S.now (sayL S hd lk sh) hd lk y.2=true->z83 (V.ref pn) [V.ref y.1] H' (fun _ H1=>Pv (i+1) [some (V.ref d),some (V.ref a),some (V.ref rb),some (V.int (1+m)),some (V.str hd),some (V.str lk),some (V.bl sh),some (V.int (S.now+tm)),some (V.ref pn),some (V.ref y.1),none] H1):=fun e=>by
    refine⟨_,_,_,rfl,rfl,gp,z1k (by rw[z2v];omega),hP _ _ _ ⟨_,rfl,by rw[z8,stp,if_pos e];simp[refk],fun b o hb=>?_⟩⟩
    rw[zb (ze hb hpn)]
    exact s6 _ _ hb
   walk_at "rd"
   have grb6:H' rb=some (.lst (zr (sayL S hd lk sh))):=s6 _ _ grb4
   refine⟨_,_,_,_,rfl,rfl,SqT.of hy1,zc (j:=5) rfl,_,z30 hst,_,rfl,_,rfl,?_⟩
   by_cases c1:S.now<y.2.x.e
   rotate_left
   .rw[if_neg (by simpa using c1)]
    exact no (by unfold z24;simp[c1])
   rw[if_pos (xx c1)]
   refine⟨_,_,_,_,rfl,rfl,SqT.of hy1,zc (j:=0) rfl,_,_,rfl,.inl (SqL.of grb6),rfl,zh2 _,_,rfl,?_⟩
   rw[if_neg xa,zk8]
   by_cases c2:y.2.k∈sayL S hd lk sh
   rotate_left
   .rw[if_neg (by simpa using c2),if_pos (by decide)]
    exact⟨.inl ⟨_,SqL.of gp⟩,yes (by unfold z24;simp[c1,c2])⟩
   rw[if_pos (xx c2)]
   refine⟨_,_,_,_,rfl,rfl,SqT.of hy1,zc (j:=2) rfl,rfl,?_⟩
   by_cases c3:y.2.x.h=hd
   rotate_left
   .rw[if_neg (by simpa using c3),if_pos (by decide)]
    exact⟨.inl ⟨_,SqL.of gp⟩,yes (by unfold z24;simp[c1,c3])⟩
   rw[if_pos (xx (x0u V.str c3))]
   refine⟨_,_,_,_,rfl,rfl,SqT.of hy1,zc (j:=3) rfl,rfl,?_⟩
   by_cases c4:y.2.x.l=lk
   .rw[if_neg (by simp[c4])]
    exact no (by unfold z24;simp[c2,c3,c4])
   .rw[if_pos (by simp[c4])]
    exact⟨.inl ⟨_,SqL.of gp⟩,yes (by unfold z24;simp[c1,c4])⟩
  rintro σ H' ⟨v9,rfl,gp,s6⟩
  rw[z2v,x02]at gp
  subst hR
  refine zbn fun R hR=>?_
  walk_at "rd"
  have ndt:d≠S.pt:=fun e=>by have:=h4.st;rw[e,h4.gt]at this;cases this
  have npt:pn≠S.pt:=fun e=>by rw[e,h4.gt]at hpn;cases hpn
  have nrb:rb≠S.pt:=fun e=>by have:=hS.gt;rw[<-e,hrb]at this;cases this
  refine⟨⟨_,SqL.of (s6 _ _ grb4)⟩,?_⟩
  have lsl:(sayL S hd lk sh).length<=5:=by have:=zdv S hd lk sh;omega
  have jl2:∀j∈sayL S hd lk sh,j<S.ts.length:=fun j hj=>jlt j (xi.mp hj).1
  have lF:(S.N.filter fun q=>z24 S.now (sayL S hd lk sh) hd lk q.2).length<=400:=xp (xj _ _) hn
  have kF:∀z∈S.N.filter (fun q=>z24 S.now (sayL S hd lk sh) hd lk q.2),z∈S.N:=fun z hz=>(xi.mp hz).1
  have eF:(S.N.filter fun q=>z24 S.now (sayL S hd lk sh) hd lk q.2).map (·.2)=(S.N.map (·.2)).filter (z24 S.now (sayL S hd lk sh) hd lk):=by rw[x19];rfl
  generalize hF:(S.N.filter fun q=>z24 S.now (sayL S hd lk sh) hd lk q.2)=F1 at gp lF kF eF
  refine z1b (xs:=zr (sayL S hd lk sh)) (fun i σ H'=>∃(M:KL)(v9 v10:Option V),σ=[some (V.ref d),some (V.ref a),some (V.ref rb),some (V.int (1+m)),some (V.str hd),some (V.str lk),some (V.bl sh),some (V.int (S.now+tm)),some (V.ref pn),v9,v10]/\M.map (·.2)=((sayL S hd lk sh).take i).map (fun k=>⟨k,⟨1+m,hd,lk,sh,S.now+tm⟩⟩)/\KsAt H' M/\H' pn=some (.lst (refk (F1++M)))/\H' S.pt=some (.lst ((topS S.ts ((sayL S hd lk sh).take i) (1+m)).map V.int))/\But S.pt H4 H') ⟨[],_,_,rfl,rfl,(fun z hz=>by cases hz),by rw[x0l];exact gp,by rw[List.take_zero,zk9];exact s6 _ _ h4.gt,But.of s6⟩ ?_ ?_ ?_
  .rintro i σ H7-⟨M,v9,v10,-,-,-,-,-,b7⟩
   exact SqL.of (b7 _ _ grb4 nrb)
  .rintro Pv hP i x σ H7 hx ⟨M,v9,v10,rfl,eM,kM,g7,t7,b7⟩
   obtain⟨k,hk,rfl⟩:=z7x hx
   have hkl:=jl2 k (x9 hk)
   have lM:M.length<=5:=by
    have:=x0u List.length eM
    rw[x0,x0,x04]at this
    omega
   walk_at "rd"
   refine⟨.inl ⟨_,SqL.of g7⟩,zf (by decide),fun pa hpa=>?_⟩
   have s8:=Same.upd (o:=.tup [V.int ((k:Int)+1),V.int (1+m),V.str hd,V.str lk,V.bl sh,V.int (S.now+tm)]) hpa
   have g8:upd H7 pa (.tup [V.int ((k:Int)+1),V.int (1+m),V.str hd,V.str lk,V.bl sh,V.int (S.now+tm)]) pa=some (.tup (Nk.vals ⟨k,⟨1+m,hd,lk,sh,S.now+tm⟩⟩)):=z8
   generalize upd H7 pa _=H8 at s8 g8⊢
   have g78:=s8 _ _ g7
   refine⟨_,_,_,rfl,rfl,g78,z1k (by rw[z2v,x00];omega),?_⟩
   have npa:S.pt≠pa:=fun e=>by rw[<-e,t7]at hpa;cases hpa
   have stp:=zj3 (ts:=S.ts) (n:=1+m) hk
   have np8:H8 pn≠none:=by rw[g78];exact fun z=>by cases z
   have hst:H7 d=some (.dK (stw S)):=b7 _ _ h4.st ndt
   have nd8:d≠pn:=fun e=>by rw[e,g7]at hst;cases hst
   have g9:upd H8 pn (.lst (refk (F1++M)++[V.ref pa])) pn=some (.lst (refk (F1++(M++[(pa,⟨k,⟨1+m,hd,lk,sh,S.now+tm⟩⟩)])))):=by rw[z8];simp[refk]
   have f9:∀b o,H8 b=some o->b≠pn->upd H8 pn (.lst (refk (F1++M)++[V.ref pa])) b=some o:=fun b o e nb=>by rw[zb nb];exact e
   have e1:(k:Int)+1-1=(k:Int):=by omega
   generalize upd H8 pn (.lst (refk (F1++M)++[V.ref pa]))=H9 at g9 f9⊢
   have t9:H9 S.pt=some (.lst ((topS S.ts ((sayL S hd lk sh).take i) (1+m)).map V.int)):=f9 _ _ (s8 _ _ t7) npt.symm
   refine⟨_,zas (f9 _ _ (s8 _ _ hst) nd8),?_⟩
   rw[e1]
   refine⟨S.pt,_,k,k,rfl,rfl,t9,zfd (by rw[x0,z6s];exact hkl),hP _ _ _ ⟨M++[(pa,⟨k,⟨1+m,hd,lk,sh,S.now+tm⟩⟩)],_,_,rfl,?_,fun z hz=>?_,?_,?_,fun b o e nb=>?_⟩⟩
   .rw[x0b,eM,z2d _ hk]
    rfl
   .have hz8:H8 z.1=some (.tup z.2.vals):=by
     rcases xz.mp hz with hz|hz
     .exact s8 _ _ (kM z hz)
     .rw[xm.mp hz];exact g8
    have hz9:=f9 _ _ hz8 fun e=>by rw[e,g78]at hz8;cases hz8
    rw[zb (fun e=>by rw[e,t9]at hz9;cases hz9)]
    exact hz9
   .rw[zb npt];exact g9
   .rw[z8,stp,List.map_set]
   .rw[zb nb]
    refine f9 _ _ (s8 _ _ (b7 b o e nb)) fun z=>?_
    rw[z,hpn]at e
    cases e
  rintro σ H7 ⟨M,v9',v10,rfl,eM,kM,g7,t7,b7⟩
  rw[z1s,x02]at eM t7
  subst hR
  walk_at "rd"
  have hst:H7 d=some (.dK (stw S)):=b7 _ _ h4.st ndt
  have f7:∀b o,H b=some o->b≠S.pt->H7 b=some o:=fun b o e nb=>b7 _ _ (s4 _ _ e) nb
  have dom7:∀b,H7 b=none->H b=none:=fun b e=>by
   cases eb:H b with
   |none=>rfl
   |some o=>
    by_cases z:b=S.pt
    .rw[z,t7]at e;cases e
    .rw[f7 b o eb z]at e;cases e
  obtain⟨S1,eS1⟩:∃S1:Sv,S1={ S with pn:=pn,N:=F1++M }:=⟨_,rfl⟩
  refine⟨_,z7w hst pn (F1++M),?_⟩
  rw[<-eS1]
  have g8d:upd H7 d (.dK (stw S1)) d=some (.dK (stw S1)):=z8
  have f8:∀b o,H7 b=some o->b≠d->upd H7 d (.dK (stw S1)) b=some o:=fun b o e nb=>by rw[zb nb];exact e
  have dom8:∀b,upd H7 d (.dK (stw S1)) b=none->H7 b=none:=fun b e=>by
   by_cases z:b=d
   .rw[z,z8]at e;cases e
   .rwa[zb z]at e
  generalize upd H7 d (.dK (stw S1))=H8 at g8d f8 dom8⊢
  have nl:∀b xs,H7 b=some (.lst xs)->b≠d:=fun b xs e z=>by rw[z,hst]at e;cases e
  have nt:∀b xs,H7 b=some (.tup xs)->b≠d:=fun b xs e z=>by rw[z,hst]at e;cases e
  obtain⟨hnd,hsd⟩:=And.intro hS.nd hS.sd
  have npu_pt:S.pu≠S.pt:=by have:=hS.nd;simp[Sv.lists]at this;exact this.1.1
  have npr_pt:S.pr≠S.pt:=by have:=hS.nd;simp[Sv.lists]at this;exact fun e=>this.2.1.2.1 e.symm
  have npc_pt:S.pc≠S.pt:=by have:=hS.nd;simp[Sv.lists]at this;exact fun e=>this.2.1.2.2.1 e.symm
  have npl_pt:S.pl≠S.pt:=by have:=hS.nd;simp[Sv.lists]at this;exact fun e=>this.2.1.2.2.2 e.symm
  have npu_pl:S.pu≠S.pl:=by have:=hS.nd;simp[Sv.lists]at this;exact this.1.2.2.2.2
  have u7:=f7 _ _ hS.gu npu_pt
  have r7:=f7 _ _ hS.gr npr_pt
  have c7:=f7 _ _ hS.gc npc_pt
  have l7:=f7 _ _ hS.gl npl_pt
  have r8:=f8 _ _ r7 (nl _ _ r7)
  have ePr:S1.pr=S.pr:=by rw[eS1]
  have ePc:S1.pc=S.pc:=by rw[eS1]
  have ePl:S1.pl=S.pl:=by rw[eS1]
  have eNow:S1.now=S.now:=by rw[eS1]
  have q8:=zm6 g8d
  rw[ePr]at q8
  refine⟨_,q8,_,rfl,⟨_,SqL.of r8⟩,?_⟩
  refine z1d (xs:=[]) (zf (by decide)) (fun j acc H'=>H'=H8/\acc=[]) ⟨rfl,rfl⟩ ?_ ?_ ?_ ?_
  .rintro j acc H' ⟨-,rfl⟩
   exact x03 _
  .rintro j acc H' ⟨rfl,-⟩
   exact SqL.of r8
  .rintro Nn j acc H' x hN hx hj ⟨rfl,rfl⟩
   cases hx
  rintro acc H' ⟨rfl,rfl⟩ pr2 hpr2
  have s9:=Same.upd (o:=.lst []) hpr2
  have g9:upd H' pr2 (.lst []) pr2=some (.lst []):=z8
  generalize upd H' pr2 (.lst [])=H9 at s9 g9⊢
  refine⟨_,zh0 (s9 _ _ g8d) pr2,?_⟩
  obtain⟨S2,eS2⟩:∃S2:Sv,S2={ S1 with pr:=pr2 }:=⟨_,rfl⟩
  rw[<-eS2]
  have g9d:=s9 _ _ g8d
  have g10d:upd H9 d (.dK (stw S2)) d=some (.dK (stw S2)):=z8
  have f10:∀b o,H9 b=some o->b≠d->upd H9 d (.dK (stw S2)) b=some o:=fun b o e nb=>by rw[zb nb];exact e
  have dom10:∀b,upd H9 d (.dK (stw S2)) b=none->H9 b=none:=fun b e=>by
   by_cases z:b=d
   .rw[z,z8]at e;cases e
   .rwa[zb z]at e
  generalize upd H9 d (.dK (stw S2))=H10 at g10d f10 dom10⊢
  have f710:∀b o,H7 b=some o->b≠d->H10 b=some o:=fun b o e nb=>f10 _ _ (s9 _ _ (f8 _ _ e nb)) nb
  have c10:=f710 _ _ c7 (nl _ _ c7)
  have kc10:∀z∈S.C,H10 z.1=some (.tup (cyv z.2)):=fun z hz=>by
   have h1:=f7 _ _ (hS.kc z hz) fun e=>by have:=hS.kc z hz;rw[e,hS.gt]at this;cases this
   exact f710 _ _ h1 (nt _ _ h1)
  have ePc2:S2.pc=S.pc:=by rw[eS2];exact ePc
  have q10:=zdr g10d
  rw[ePc2]at q10
  refine⟨_,q10,_,rfl,⟨_,SqL.of c10⟩,?_⟩
  refine z1d (xs:=refs S.C) (by rw[z19];exact zf (by omega)) (fun j acc H'=>H'=H10/\acc=refs ((S.C.take j).filter fun q=>!(decide (q.2.h=hd)&&decide (q.2.l=lk)))) ⟨rfl,rfl⟩ ?_ ?_ ?_ ?_
  .rintro j acc H' ⟨-,rfl⟩
   rw[z19]
   exact xp (xj _ _) (by rw[x04];omega)
  .rintro j acc H' ⟨rfl,-⟩
   exact SqL.of c10
  .rintro Nn j acc H' x hN hx hj ⟨rfl,rfl⟩
   obtain⟨y,hy,rfl⟩:=z37 hx
   have stp:=z1l (fun q:Addr×Nt=>!(decide (q.2.h=hd)&&decide (q.2.l=lk))) hy
   have hy1:=kc10 y (x9 hy)
   walk_at "rd"
   refine⟨_,_,_,_,rfl,rfl,SqT.of hy1,zc (j:=0) rfl,rfl,?_⟩
   by_cases c1:y.2.h=hd
   .rw[if_neg (by simp[c1])]
    refine⟨_,_,_,_,rfl,rfl,SqT.of hy1,zc (j:=2) rfl,rfl,?_⟩
    by_cases c2:y.2.l=lk
    .rw[if_neg (by simp[c2])]
     refine hN _ _ ⟨rfl,?_⟩
     rw[stp,if_neg (by simp[c1,c2]),x0l]
    .rw[if_pos (by simp[c2])]
     refine hN _ _ ⟨rfl,?_⟩
     rw[stp,if_pos (by simp[c2])]
     simp[refs]
   .rw[if_pos (by simp[c1])]
    refine hN _ _ ⟨rfl,?_⟩
    rw[stp,if_pos (by simp[c1])]
    simp[refs]
  rintro acc H' ⟨rfl,rfl⟩ pc2 hpc2
  rw[z19,x02]
  have kC2:∀z∈S.C.filter (fun q=>!(decide (q.2.h=hd)&&decide (q.2.l=lk))),z∈S.C:=fun z hz=>(xi.mp hz).1
  have lC2:(S.C.filter fun q=>!(decide (q.2.h=hd)&&decide (q.2.l=lk))).length<=S.C.length:=xj _ _
  generalize(S.C.filter fun q=>!(decide (q.2.h=hd)&&decide (q.2.l=lk)))=C2 at kC2 lC2⊢
  have s11:=Same.upd (o:=.lst (refs C2)) hpc2
  have g11:upd H' pc2 (.lst (refs C2)) pc2=some (.lst (refs C2)):=z8
  generalize upd H' pc2 (.lst (refs C2))=H11 at s11 g11⊢
  refine⟨_,zds (s11 _ _ g10d) pc2 C2,?_⟩
  obtain⟨S3,eS3⟩:∃S3:Sv,S3={ S2 with pc:=pc2,C:=C2 }:=⟨_,rfl⟩
  rw[<-eS3]
  have npd:pc2≠d:=fun e=>by rw[e,s11 _ _ g10d]at g11;cases g11
  have g12d:upd H11 d (.dK (stw S3)) d=some (.dK (stw S3)):=z8
  have f12:∀b o,H11 b=some o->b≠d->upd H11 d (.dK (stw S3)) b=some o:=fun b o e nb=>by rw[zb nb];exact e
  generalize upd H11 d (.dK (stw S3))=H12 at g12d f12⊢
  have ePc3:S3.pc=pc2:=by rw[eS3]
  have q12:=zdr g12d
  rw[ePc3]at q12
  have c12:=f12 _ _ g11 npd
  refine⟨_,q12,.inl ⟨_,SqL.of c12⟩,zf (by decide),fun py hpy=>?_⟩
  have s13:=Same.upd (o:=.tup [V.str hd,V.int (1+m),V.str lk,V.bl sh,V.int (S.now+tm)]) hpy
  have g13:upd H12 py (.tup [V.str hd,V.int (1+m),V.str lk,V.bl sh,V.int (S.now+tm)]) py=some (.tup (cyv ⟨1+m,hd,lk,sh,S.now+tm⟩)):=z8
  generalize upd H12 py _=H13 at s13 g13⊢
  have c13:=s13 _ _ c12
  refine⟨pc2,_,_,rfl,rfl,c13,z1k (by rw[z19];omega),?_⟩
  have g14c:upd H13 pc2 (.lst (refs C2++[V.ref py])) pc2=some (.lst (refs (C2++[(py,⟨1+m,hd,lk,sh,S.now+tm⟩)]))):=by rw[z8];simp[refs]
  have f14:∀b o,H13 b=some o->b≠pc2->upd H13 pc2 (.lst (refs C2++[V.ref py])) b=some o:=fun b o e nb=>by rw[zb nb];exact e
  have dom14:∀b,upd H13 pc2 (.lst (refs C2++[V.ref py])) b=none->H13 b=none:=fun b e=>by
   by_cases z:b=pc2
   .rw[z,z8]at e;cases e
   .rwa[zb z]at e
  generalize upd H13 pc2 (.lst (refs C2++[V.ref py]))=H14 at g14c f14 dom14⊢
  have f1014:∀b o,H' b=some o->b≠d->H14 b=some o:=fun b o e nb=>f14 _ _ (s13 _ _ (f12 _ _ (s11 _ _ e) nb)) (ze e hpc2)
  have f714:∀b o,H7 b=some o->b≠d->H14 b=some o:=fun b o e nb=>f1014 _ _ (f710 _ _ e nb) nb
  have g14d:H14 d=some (.dK (stw S3)):=f14 _ _ (s13 _ _ g12d) npd.symm
  have ePl3:S3.pl=S.pl:=by rw[eS3,eS2,eS1]
  have eNow3:S3.now=S.now:=by rw[eS3,eS2,eS1]
  have q14:=zj0 g14d
  rw[ePl3]at q14
  have n14:=z30 g14d
  rw[eNow3]at n14
  have l14:=f714 _ _ l7 (nl _ _ l7)
  have rb7:=b7 _ _ grb4 nrb
  have rb14:=f714 _ _ rb7 (nl _ _ rb7)
  refine⟨_,q14,.inl ⟨_,SqL.of l14⟩,_,n14,_,.inl ⟨SqL.of rb14,fun pb hpb=>⟨zf (by decide),fun pg hpg=>?_⟩⟩⟩
  have s15:=Same.upd (o:=.tup (zr (sayL S hd lk sh))) hpb
  generalize upd H14 pb (.tup (zr (sayL S hd lk sh)))=H15 at s15 hpg⊢
  have s16:=s15.trans (Same.upd (o:=.tup [V.str "given",V.int S.now,V.str hd,V.str lk,V.bl sh,V.int (1+m),V.int (S.now+tm),V.ref pb]) hpg)
  have g16:upd H15 pg (.tup [V.str "given",V.int S.now,V.str hd,V.str lk,V.bl sh,V.int (1+m),V.int (S.now+tm),V.ref pb]) pg=some (.tup [V.str "given",V.int S.now,V.str hd,V.str lk,V.bl sh,V.int (1+m),V.int (S.now+tm),V.ref pb]):=z8
  generalize upd H15 pg _=H16 at s16 g16⊢
  have l16:=s16 _ _ l14
  refine⟨_,_,_,rfl,rfl,l16,z1k (by omega),?_⟩
  have g17l:upd H16 S.pl (.lst (S.lg++[V.ref pg])) S.pl=some (.lst (S.lg++[V.ref pg])):=z8
  have f17:∀b o,H16 b=some o->b≠S.pl->upd H16 S.pl (.lst (S.lg++[V.ref pg])) b=some o:=fun b o e nb=>by rw[zb nb];exact e
  generalize upd H16 S.pl (.lst (S.lg++[V.ref pg]))=H17 at g17l f17⊢
  have F7:∀b o,H7 b=some o->b≠d->b≠S.pl->H17 b=some o:=fun b o e n1 n2=>f17 _ _ (s16 _ _ (f714 _ _ e n1)) n2
  have FH:∀b o,H b=some o->b≠S.pt->b≠d->b≠S.pl->H17 b=some o:=fun b o e n1 n2 n3=>F7 _ _ (f7 _ _ e n1) n2 n3
  have FT:∀b xs,H b=some (.tup xs)->H17 b=some (.tup xs):=fun b xs e=>FH _ _ e (fun z=>by rw[z,hS.gt]at e;cases e) (fun z=>by rw[z,hS.st]at e;cases e) (fun z=>by rw[z,hS.gl]at e;cases e)
  have FL:∀b xs,H b=some (.lst xs)->b∉S.lists->H17 b=some (.lst xs):=fun b xs e nb=>FH _ _ e (fun z=>nb (by rw[z];simp[Sv.lists])) (fun z=>by rw[z,hS.st]at e;cases e) (fun z=>nb (by rw[z];simp[Sv.lists]))
  have su:=hS.su
  have nS:∀x∈u.lists,x∉S.lists:=fun x hx hx2=>hS.sd x hx2 hx
  have dl:S.pl≠d:=nl _ _ l7
  have hpr2n:H pr2=none:=dom7 _ (dom8 _ hpr2)
  have hpc2n:H pc2=none:=by
   have h10:=dom10 _ hpc2
   exact dom7 _ (dom8 _ (zu s9 h10))
  subst eS1
  subst eS2
  subst eS3
  have pn_pl:pn≠S.pl:=fun e=>by rw[e,h4.gl]at hpn;cases hpn
  have pn_pu:pn≠S.pu:=fun e=>by rw[e,h4.gu]at hpn;cases hpn
  have l8:=f8 _ _ l7 (nl _ _ l7)
  have pr_pl:pr2≠S.pl:=fun e=>by rw[e,l8]at hpr2;cases hpr2
  have pr_pu:pr2≠S.pu:=fun e=>by rw[e,f8 _ _ u7 (nl _ _ u7)]at hpr2;cases hpr2
  have pr_pt:pr2≠S.pt:=fun e=>by rw[e,f8 _ _ t7 (nl _ _ t7)]at hpr2;cases hpr2
  have pr_pn:pr2≠pn:=fun e=>by rw[e,f8 _ _ g7 (nl _ _ g7)]at hpr2;cases hpr2
  have pr_d:pr2≠d:=fun e=>by rw[e,g8d]at hpr2;cases hpr2
  have pc_pl:pc2≠S.pl:=fun e=>by rw[e,f710 _ _ l7 (nl _ _ l7)]at hpc2;cases hpc2
  have pc_pu:pc2≠S.pu:=fun e=>by rw[e,f710 _ _ u7 (nl _ _ u7)]at hpc2;cases hpc2
  have pc_pt:pc2≠S.pt:=fun e=>by rw[e,f710 _ _ t7 (nl _ _ t7)]at hpc2;cases hpc2
  have pc_pn:pc2≠pn:=fun e=>by rw[e,f710 _ _ g7 (nl _ _ g7)]at hpc2;cases hpc2
  have r10:=f10 _ _ g9 pr_d
  have pc_pr:pc2≠pr2:=fun e=>by rw[e,r10]at hpc2;cases hpc2
  have py_pc:py≠pc2:=fun e=>by rw[e,c12]at hpy;cases hpy
  have g14y:=f14 _ _ g13 py_pc
  have tl:∀b xs,H16 b=some (.tup xs)->b≠S.pl:=fun b xs e z=>by rw[z,l16]at e;cases e
  refine q m ⟨S.now,S.ps,S.pu,S.pt,pn,pr2,pc2,S.pk,S.po,S.pl,S.us,topS S.ts (sayL S hd lk sh) (1+m),F1++M,C2++[(py,⟨1+m,hd,lk,sh,S.now+tm⟩)],S.lg++[V.ref pg]⟩ H17 pg pb hT
   ⟨f17 _ _ (s16 _ _ g14d) dl.symm,⟨FT _ _ su.tu,FL _ _ su.gh (nS _ (by simp[Su.lists])),FL _ _ su.gl (nS _ (by simp[Su.lists])),FL _ _ su.gc (nS _ (by simp[Su.lists])),FL _ _ su.gt (nS _ (by simp[Su.lists]))⟩,
    F7 _ _ u7 (nl _ _ u7) npu_pl,F7 _ _ t7 (nl _ _ t7) npl_pt.symm,F7 _ _ g7 (nl _ _ g7) pn_pl,fun z hz=>?_,f17 _ _ (s16 _ _ (f1014 _ _ r10 pr_d)) pr_pl,f17 _ _ (s16 _ _ g14c) pc_pl,fun z hz=>?_,g17l,?_,fun x hx hx2=>?_⟩
   rfl rfl rfl rfl ?_ ?_ rfl (f17 _ _ g16 (tl _ _ g16)) (fun x hx=>?_) fun b o e nb=>?_
  .rcases xz.mp hz with hz|hz
   .exact FT _ _ (hS.kn z (kF z hz))
   .have:=kM z hz
    exact F7 _ _ this (nt _ _ this) fun e=>by rw[e,l7]at this;cases this
  .rcases xz.mp hz with hz|hz
   .exact FT _ _ (hS.kc z (kC2 z hz))
   .rw[xm.mp hz]
    have:=s16 _ _ g14y
    exact f17 _ _ this (tl _ _ this)
  .show[S.pu,S.pt,pn,pr2,pc2,S.pl].Nodup
   simp[npu_pt,npu_pl,pn_pu.symm,pr_pu.symm,pc_pu.symm,npt.symm,pr_pt.symm,pc_pt.symm,npl_pt.symm,pr_pn.symm,pc_pn.symm,pn_pl,pc_pr.symm,pr_pl,pc_pl]
  .have hx3:x∈[S.pu,S.pt,pn,pr2,pc2,S.pl]:=hx
   have hsu:∃xs,H x=some (.lst xs):=by
    simp only[Su.lists,xo,x0p,or_false]at hx2
    rcases hx2 with rfl|rfl|rfl|rfl
    .exact⟨_,su.gh⟩
    .exact⟨_,su.gl⟩
    .exact⟨_,su.gc⟩
    .exact⟨_,su.gt⟩
   obtain⟨xs,ex⟩:=hsu
   simp only[xo,x0p,or_false]at hx3
   rcases hx3 with rfl|rfl|rfl|rfl|rfl|rfl
   .exact hS.sd _ (by simp[Sv.lists]) hx2
   .exact hS.sd _ (by simp[Sv.lists]) hx2
   .rw[hpn0]at ex;cases ex
   .rw[hpr2n]at ex;cases ex
   .rw[hpc2n]at ex;cases ex
   .exact hS.sd _ (by simp[Sv.lists]) hx2
  .show(F1++M).map (·.2)=_
   rw[x0b,eF,eM]
   rfl
  .show(C2++[(py,_)]).length<=_
   rw[x00]
   show _+1<=_
   omega
  .have hx3:x∈[S.pu,S.pt,pn,pr2,pc2,S.pl]:=hx
   simp only[xo,x0p,or_false]at hx3
   rcases hx3 with rfl|rfl|rfl|rfl|rfl|rfl
   .exact .inl (by simp[Sv.lists])
   .exact .inl (by simp[Sv.lists])
   .exact .inr hpn0
   .exact .inr hpr2n
   .exact .inr hpc2n
   .exact .inl (by simp[Sv.lists])
  .simp only[own,xo,x0p,or_false,not_or]at nb
   exact FH b o e nb.2.2.1 nb.1 nb.2.2.2.2
noncomputable def isDr(num now:Int)(us:List Bool)(q:Nk):Bool:=decide (q.x.n=num)&&(decide (now<q.x.e)&&us.getD q.k false)
noncomputable def za1(K:PySem.W.Frag):Sp:=fun vs H Q _=>∃(d:Addr)(S:Sv)(u:Su)(num:Int),vs=[.ref d,.int num]/\StAt H d S u/\SayP S u/\(∀q∈S.N,q.2.k<u.n)/\(S.N.filter fun q=>isDr num S.now S.us q.2).length<64/\
 ∀(r pn:Addr)(ks:List Int)(H':Hp),ks.Perm ((S.N.filter fun q=>isDr num S.now S.us q.2).map fun q=>(q.2.k:Int)+1)->ks.Pairwise (·<=·)->H' r=some (.lst (ks.map V.int))->StAt H' d { S with pn:=pn,N:=S.N.filter fun q=>!isDr num S.now S.us q.2 } u->H pn=none->H r=none->ButK [d] H H'->Q (.ref r) H'
theorem za2(F:Def K mg "_law_dropped" z44 ["_law_state","_law_number"])(T:Txt K mg y0 yb ya y6 y9 y8 y7):Has P w K mg base 1 "_law_dropped" ["_law_state","_law_number"] (za1 K):=by
 refine F.ok sc__law_dropped (fun vs H Q E h=>?_) (fun f cdv A outer s H vs Q E hr h=>?_)
 .obtain⟨d,S,u,num,rfl,_⟩:=h
  rfl
 .obtain⟨d,S,u,num,rfl,hS,⟨hok,hun,hll,hn⟩,hk,h64,q⟩:=h
  have hu:=hr.units0
  have hu2:=z3n hr
  refine⟨_,(@za _ _ _ _ _ (@zk _ _ 2 _ _ _ _ sc__law_dropped.nd rfl (Or.inl rfl) (@z1c _ _ _ _ z9) rfl (Or.inr rfl)) (@za _ _ _ _ _ (@zk _ _ 3 _ _ _ _ sc__law_dropped.nd rfl (Or.inl rfl) (@z1c _ _ _ _ z9) rfl (Or.inr rfl)) (@za _ _ _ _ _ (@z1u _ _ _ _ _ _ _ _ x0m rfl (@z12 _ _ _ _ (@zx _ _ _ _ _ _ hu2 (pv 0) zl (fun _ _=>rfl))) (@z15 _ _ 4 _ sc__law_dropped.nd rfl (Or.inl rfl) (Or.inr rfl)) (@zd _ _ _ (@z11 _ _ _ _ _ _ _ _ (PW.pt (@z2w _ _ _ _ _ _ _ (@zo _ _ _ _ _ _ _ _ z1f (@zi _ _ _ _ _ _ _ ix_tup (pv 4) z7 (fun _ _=>rfl)) (pv 1) (zm _)) (@z2w _ _ _ _ _ _ _ (@zo _ _ _ _ _ _ _ _ z7z (@zi _ _ _ _ _ _ _ ix_tup (pv 4) z7 (fun _ _=>rfl)) (@zx _ _ _ _ _ _ hu2 (pv 0) zl (fun _ _=>rfl)) (zm _)) (@z3v _ _ _ _ (@z1i _ _ _ (@zi _ _ _ _ _ _ _ ix_list (@zx _ _ _ _ _ _ hu2 (pv 0) zl (fun _ _=>rfl)) (@zg _ _ _ _ _ _ _ _ z2n (@zi _ _ _ _ _ _ _ ix_tup (pv 4) z7 (fun _ _=>rfl)) z7) (fun _ _=>rfl)) (by intro _;rfl)))))) (@zd _ _ _ (@z1h _ _ _ _ (@z2c _ _ _ _ _ _ _ _ _ _ _ _ x0a x0d x0e z1r (pv 2) (@z6 _ _ _ _ _ (@zi _ _ _ _ _ _ _ ix_tup (pv 4) z7 (fun _ _=>rfl)) z9 rfl) rfl rfl rfl rfl rfl) rfl)) (@zd _ _ _ (@z1h _ _ _ _ (@z2c _ _ _ _ _ _ _ _ _ _ _ _ x0a x0d x0e z1r (pv 3) (@z6 _ _ _ _ _ (pv 4) z9 rfl) rfl rfl rfl rfl rfl) rfl)))) (by intro _;rfl)) (@za _ _ _ _ _ (@z5x _ _ _ _ _ _ _ _ _ hu2 (pv 0) zl (pv 3) rfl) (@zd _ _ _ (@zn _ _ _ _ (@zj _ _ _ _ _ _ _ _ _ z7e rfl T.b_sorted (by decide+kernel) (@z6 _ _ _ _ _ (pv 2) z9 rfl) (by decide) (by decide) rfl rfl))))))),?_⟩
  walk_at "rd"
  refine⟨x03 _,fun pf hpf=>⟨x03 _,fun pn hpn=>?_⟩⟩
  have s1:=Same.upd (o:=.lst []) hpf
  have g1:upd H pf (.lst []) pf=some (.lst []):=z8
  generalize upd H pf (.lst [])=H1 at s1 g1 hpn⊢
  have s2:=Same.upd (o:=.lst []) hpn
  have g2:upd H1 pn (.lst []) pn=some (.lst []):=z8
  have g2f:=s2 _ _ g1
  have nfn:pf≠pn:=fun e=>by rw[e,hpn]at g1;cases g1
  generalize upd H1 pn (.lst [])=H2 at s2 g2 g2f⊢
  have s12:=s1.trans s2
  have hpn0:H pn=none:=zu s1 hpn
  refine⟨_,z56 (s12 _ _ hS.st),_,rfl,⟨_,SqL.of (s12 _ _ hS.gn)⟩,?_⟩
  refine z1b (xs:=refk S.N) (fun i σ H'=>∃(v4:Option V),σ=[some (V.ref d),some (V.int num),some (V.ref pf),some (V.ref pn),v4]/\H' pf=some (.lst ((((S.N.take i).filter fun q=>isDr num S.now S.us q.2).map fun q=>(q.2.k:Int)+1).map V.int))/\H' pn=some (.lst (refk ((S.N.take i).filter fun q=>!isDr num S.now S.us q.2)))/\Same H H') ⟨_,rfl,g2f,g2,s12⟩ ?_ ?_ ?_
  .rintro i σ H'-⟨v4,-,-,-,s3⟩
   exact SqL.of (s3 _ _ hS.gn)
  .rintro Pv hP i x σ H' hx ⟨v4,rfl,gf,gn,s3⟩
   obtain⟨y,hy,rfl⟩:=z55 hx
   have my:=x9 hy
   have hi:i<S.N.length:=(xg.mp hy).1
   have st1:=z1l (fun q:Addr×Nk=>isDr num S.now S.us q.2) hy
   have st2:=z1l (fun q:Addr×Nk=>!isDr num S.now S.us q.2) hy
   have hy1:=s3 _ _ (hS.kn y my)
   have hst:=s3 _ _ hS.st
   have l1:((S.N.take i).filter fun q=>isDr num S.now S.us q.2).length<=400:=xp (xj _ _) (by rw[x04];omega)
   have l2:((S.N.take i).filter fun q=>!isDr num S.now S.us q.2).length<=400:=xp (xj _ _) (by rw[x04];omega)
   have yes:isDr num S.now S.us y.2=true->z83 (V.ref pf) [V.int ((y.2.k:Int)+1)] H' (fun _ H1=>Pv (i+1) [some (V.ref d),some (V.int num),some (V.ref pf),some (V.ref pn),some (V.ref y.1)] H1):=fun e=>by
    refine⟨_,_,_,rfl,rfl,gf,z1k (by rw[x0,x0];omega),hP _ _ _ ⟨_,rfl,by rw[z8,st1,if_pos e];simp,by rw[zb nfn.symm,st2,if_neg (by rw[e];exact xa),x0l];exact gn,fun b o hb=>?_⟩⟩
    rw[zb (ze hb hpf)]
    exact s3 _ _ hb
   have no:isDr num S.now S.us y.2=false->z83 (V.ref pn) [V.ref y.1] H' (fun _ H1=>Pv (i+1) [some (V.ref d),some (V.int num),some (V.ref pf),some (V.ref pn),some (V.ref y.1)] H1):=fun e=>by
    refine⟨_,_,_,rfl,rfl,gn,z1k (by rw[z2v];omega),hP _ _ _ ⟨_,rfl,by rw[zb nfn,st1,if_neg (by rw[e];exact xa),x0l];exact gf,by rw[z8,st2,if_pos (by rw[e];rfl)];simp[refk],fun b o hb=>?_⟩⟩
    rw[zb (ze hb hpn0)]
    exact s3 _ _ hb
   walk_at "rd"
   have hyk:y.2.k<S.us.length:=by have:=hk y my;omega
   have gb:(S.us.map V.bl)[y.2.k]? =some (.bl S.us[y.2.k]):=by rw[xc,x6 hyk];rfl
   have eb:S.us.getD y.2.k false=S.us[y.2.k]:=by rw[xn,x6 hyk];rfl
   refine⟨_,_,_,_,rfl,rfl,SqT.of hy1,zc (j:=1) rfl,rfl,?_⟩
   by_cases c1:y.2.x.n=num
   rotate_left
   .rw[if_neg (by simpa using c1)]
    exact⟨.inl ⟨_,SqL.of gn⟩,no (by unfold isDr;simp[c1])⟩
   rw[if_pos (xx (x0u V.int c1))]
   refine⟨_,_,_,_,rfl,rfl,SqT.of hy1,zc (j:=5) rfl,_,z30 hst,_,rfl,_,rfl,?_⟩
   by_cases c2:S.now<y.2.x.e
   rotate_left
   .rw[if_neg (by simpa using c2)]
    exact⟨.inl ⟨_,SqL.of gn⟩,no (by unfold isDr;simp[c2])⟩
   rw[if_pos (xx c2)]
   refine⟨_,z7v hst,_,_,_,_,rfl,rfl,SqT.of hy1,zc (j:=0) rfl,_,rfl,?_⟩
   rw[show((y.2.k:Int)+1)-1=(y.2.k:Int) by omega]
   refine⟨_,_,_,_,rfl,rfl,SqL.of (s3 _ _ hS.gu),zc gb,_,rfl,?_⟩
   cases c3:S.us[y.2.k]with
   |true=>
    rw[if_pos rfl]
    exact⟨.inl ⟨_,SqL.of gf⟩,_,_,_,_,rfl,rfl,SqT.of hy1,zc (j:=0) rfl,yes (by unfold isDr;rw[eb,c3];simp[c1,c2])⟩
   |false=>
    rw[if_neg xa]
    exact⟨.inl ⟨_,SqL.of gn⟩,no (by unfold isDr;rw[eb,c3];simp)⟩
  rintro σ H' ⟨v4,rfl,gf,gn,s3⟩
  rw[z2v,x02]at gf gn
  walk_at "rd"
  have hst:=s3 _ _ hS.st
  refine⟨_,z7w hst pn (S.N.filter fun q=>!isDr num S.now S.us q.2),?_⟩
  have nfd:pf≠d:=fun e=>by rw[e,hst]at gf;cases gf
  have nnd:pn≠d:=fun e=>by rw[e,hst]at gn;cases gn
  have fL:∀b xs,H' b=some (.lst xs)->upd H' d (.dK (stw { S with pn:=pn,N:=S.N.filter fun q=>!isDr num S.now S.us q.2 })) b=some (.lst xs):=fun b xs e=>by rw[zb (fun z=>by rw[z,hst]at e;cases e)];exact e
  have fT:∀b xs,H' b=some (.tup xs)->upd H' d (.dK (stw { S with pn:=pn,N:=S.N.filter fun q=>!isDr num S.now S.us q.2 })) b=some (.tup xs):=fun b xs e=>by rw[zb (fun z=>by rw[z,hst]at e;cases e)];exact e
  have g4:upd H' d (.dK (stw { S with pn:=pn,N:=S.N.filter fun q=>!isDr num S.now S.us q.2 })) d=some (.dK (stw { S with pn:=pn,N:=S.N.filter fun q=>!isDr num S.now S.us q.2 })):=z8
  have b4:∀b o,H b=some o->b≠d->upd H' d (.dK (stw { S with pn:=pn,N:=S.N.filter fun q=>!isDr num S.now S.us q.2 })) b=some o:=fun b o e nb=>by rw[zb nb];exact s3 _ _ e
  have d4:∀b,upd H' d (.dK (stw { S with pn:=pn,N:=S.N.filter fun q=>!isDr num S.now S.us q.2 })) b=none->H b=none:=fun b e=>by
   by_cases z:b=d
   .rw[z,z8]at e;cases e
   .rw[zb z]at e;exact zu s3 e
  generalize upd H' d _=H4 at fL fT g4 b4 d4⊢
  have hS3:=hS.mono s3
  refine⟨_,SqL.of (fL _ _ gf),by rw[x0];exact h64,fun r ks hr0 hp hs=>?_⟩
  have s5:=Same.upd (o:=.lst (ks.map V.int)) hr0
  have nn:∀x∈S.lists,x≠pn:=fun x hx e=>by
   have:∃xs,H x=some (.lst xs):=by
    simp only[Sv.lists,xo,x0p,or_false]at hx
    rcases hx with rfl|rfl|rfl|rfl|rfl|rfl
    .exact⟨_,hS.gu⟩
    .exact⟨_,hS.gt⟩
    .exact⟨_,hS.gn⟩
    .exact⟨_,hS.gr⟩
    .exact⟨_,hS.gc⟩
    .exact⟨_,hS.gl⟩
   obtain⟨xs,ex⟩:=this
   rw[e,hpn0]at ex
   cases ex
  have hnd:=hS.nd
  have st4:StAt H4 d { S with pn:=pn,N:=S.N.filter fun q=>!isDr num S.now S.us q.2 } u:=by
   refine⟨g4,⟨fT _ _ hS3.su.tu,fL _ _ hS3.su.gh,fL _ _ hS3.su.gl,fL _ _ hS3.su.gc,fL _ _ hS3.su.gt⟩,fL _ _ hS3.gu,fL _ _ hS3.gt,fL _ _ gn,fun z hz=>fT _ _ (hS3.kn z (xi.mp hz).1),fL _ _ hS3.gr,fL _ _ hS3.gc,fun z hz=>fT _ _ (hS3.kc z hz),fL _ _ hS3.gl,?_,fun x hx hx2=>?_⟩
   .show[S.pu,S.pt,pn,S.pr,S.pc,S.pl].Nodup
    have a1:=nn S.pu (by simp[Sv.lists])
    have a2:=nn S.pt (by simp[Sv.lists])
    have a3:=nn S.pr (by simp[Sv.lists])
    have a4:=nn S.pc (by simp[Sv.lists])
    have a5:=nn S.pl (by simp[Sv.lists])
    simp only[Sv.lists,List.nodup_cons,xo,x0p,or_false,not_or,List.nodup_nil,and_true,not_false_eq_true]at hnd⊢
    obtain⟨⟨x1,x2,x3,x4,x5⟩,⟨y1,y2,y3,y4⟩,⟨z1,z2,z3⟩,⟨w1,w2⟩,v⟩:=hnd
    exact⟨⟨x1,a1,x3,x4,x5⟩,⟨a2,y2,y3,y4⟩,⟨a3.symm,a4.symm,a5.symm⟩,⟨w1,w2⟩,v⟩
   .have hx3:x∈[S.pu,S.pt,pn,S.pr,S.pc,S.pl]:=hx
    simp only[xo,x0p,or_false]at hx3
    rcases hx3 with rfl|rfl|rfl|rfl|rfl|rfl
    .exact hS.sd _ (by simp[Sv.lists]) hx2
    .exact hS.sd _ (by simp[Sv.lists]) hx2
    .simp only[Su.lists,xo,x0p,or_false]at hx2
     rcases hx2 with rfl|rfl|rfl|rfl
     .rw[hS.su.gh]at hpn0;cases hpn0
     .rw[hS.su.gl]at hpn0;cases hpn0
     .rw[hS.su.gc]at hpn0;cases hpn0
     .rw[hS.su.gt]at hpn0;cases hpn0
    .exact hS.sd _ (by simp[Sv.lists]) hx2
    .exact hS.sd _ (by simp[Sv.lists]) hx2
    .exact hS.sd _ (by simp[Sv.lists]) hx2
  refine q r pn ks _ hp hs z8 (st4.mono s5) hpn0 (d4 _ hr0) fun b o e nb=>s5 _ _ (b4 b o e (by simpa using nb))
noncomputable def z4n(n:Int)(L:NL):NL:=L.filter fun q=>decide (q.2.n≠n)
noncomputable def hasn(n:Int)(L:NL):Bool:=L.any fun q=>decide (q.2.n=n)
noncomputable def zj5(C:Addr):Sp:=fun vs H Q _=>∃(k:Addr)(u:Bool)(t:Int)(L:NL)(n tick:Int),vs=[.ref k,.int n,.int tick]/\KeeperAt C H k u t L/\
 ((u&&hasn n (z17 tick L))=false->∀(H':Hp),Same H H'->Q (.bl false) H')/\((u&&hasn n (z17 tick L))=true->∀(H':Hp)(dx p3:Addr),H p3=none->H' k=some (.ins C dx (kf u t p3))->KeeperAt C H' k u t (z4n n L)->But k H H'->Q (.bl true) H')
theorem zaw(F:MDef K y6 "drop" "Keeper.drop" z4h ["self","number","tick"])(T:Txt K mg y0 yb ya y6 y9 y8 y7)(yf:MHas P w K mg base CX0 1 y6 "live" ["self","tick"] (z7u y6)):MHas P w K mg base CX0 2 y6 "drop" ["self","number","tick"] (zj5 y6):=by
 refine F.ok zal (fun vs H Q E h=>?_) (fun f cdv A outer s H vs Q E hr h=>?_)
 .obtain⟨k,u,t,L,n,tick,rfl,_⟩:=h
  rfl
 .obtain⟨k,u,t,L,n,tick,rfl,hk,q1,q2⟩:=h
  have hu:=hr.units0
  refine⟨_,(@za _ _ _ _ _ (@z11 _ _ _ _ _ _ _ _ (PW.pt (@z99 _ _ _ _ _ _ _ (@z3l _ _ _ _ (@z1i _ _ _ (@z2f _ _ _ _ _ (pv 0) rfl) (by intro _;rfl))) (@z71 _ _ _ _ (@zo _ _ _ _ _ _ _ _ z75 (pv 1) (@z1z _ _ "note" ([]) ([]) _ _ _ _ _ _ _ _ rfl ⟨rfl,by decide+kernel,by decide+kernel,rfl,zv rfl,by decide+kernel,trivial⟩ (@z12 _ _ _ _ (@z27 _ _ _ _ _ _ _ _ _ _ _ _ _ _ yf T.cl_Keeper (hr.mono (by decide)) (pv 0) (@z6 _ _ _ _ _ (pv 2) z9 rfl) rfl rfl rfl)) (fun _ _ _ _=>z39) (fun _ _ _ _=>(@zi _ _ _ _ _ _ _ (z1e (K:=K)) (pv 0) z7 (fun _ _=>rfl))) (by intro _;rfl)) (by with_unfolding_all rfl))))) (@zd _ _ _ (@zn _ _ _ _ z2b)) zp) (@za _ _ _ _ _ (@z3d _ _ _ _ _ _ _ _ (pv 0) (@z1z _ _ "note" (["number"]) ([1]) _ _ _ _ _ _ _ _ rfl ⟨rfl,by decide+kernel,by decide+kernel,rfl,zv rfl,by decide+kernel,⟨⟨rfl,Or.inl rfl,rfl⟩,trivial⟩⟩ (@z12 _ _ _ _ (@z2f _ _ _ _ _ (pv 0) rfl)) (fun _ _ _ _=>(@z28 _ _ _ (@zo _ _ _ _ _ _ _ _ z2j (@zi _ _ _ _ _ _ _ (z1e (K:=K)) (pv 0) z7 (fun _ _=>rfl)) (pv 1) (zm _)))) (fun _ _ _ _=>(pv 0)) (by intro _;rfl)) rfl) (@zd _ _ _ (@zn _ _ _ _ z2b)))),?_⟩
  walk_at "rd"
  obtain⟨⟨dx,l,h1,h2⟩,hn,hlen⟩:=id hk
  refine⟨_,_,_,h1,T.cl_Keeper,T.n_Keeper_up,_,z87 u t l,u,rfl,?_⟩
  cases hup:u with
  |false=>exact q1 (by rw[hup];rfl) H (Same.refl _)
  |true=>
  rw[if_neg (by decide)]
  refine⟨_,_,h1,z3u u t l (by decide+kernel) (by decide+kernel) (by decide+kernel),k,u,t,L,tick,rfl,hk,fun r H1 hr0 hr1 hs1=>⟨r,rfl,⟨_,SqL.of hr1⟩,?_⟩⟩
  have hl1:(z17 tick L).length<=L.length:=xj _ _
  have hn1:NotesAt H1 (z17 tick L):=(hn.mono hs1).sub fun q h=>(xi.mp h).1
  refine z1d (xs:=refs (z17 tick L)) (by rw[z19];exact zf (by omega)) (fun i acc H'=>acc=((z17 tick L).take i).map (fun q=>V.int q.2.n)/\H1=H') ⟨by simp,rfl⟩ ?_ ?_ ?_ ?_
  .rintro i acc H' ⟨rfl,-⟩
   rw[x0,x04]
   omega
  .rintro i acc H' ⟨-,rfl⟩
   exact SqL.of hr1
  .rintro Nn i acc H' x hN hx hi ⟨rfl,rfl⟩
   obtain⟨y,hy,rfl⟩:=z37 hx
   walk_at "rd"
   refine⟨_,_,_,_,rfl,rfl,SqT.of (hn1.tu _ (x9 hy)),zc (j:=0) rfl,hN _ _ ⟨?_,rfl⟩⟩
   rw[List.take_succ,hy,x0b]
   rfl
  .rintro acc H' ⟨rfl,rfl⟩ p hp
   rw[z19,x02]
   have s2:=hs1.trans (Same.upd (o:=.lst ((z17 tick L).map fun q=>V.int q.2.n)) hp)
   have ein:inV (V.int n) ((z17 tick L).map fun q=>V.int q.2.n)=hasn n (z17 tick L):=by
    unfold inV hasn
    rw[List.any_map]
    congr 1
   refine⟨p,_,rfl,.inl (SqL.of z8),rfl,?_,?_⟩
   .rw[List.all_eq_true]
    intro x hx
    obtain⟨y,_,rfl⟩:=xw.mp hx
    rfl
   rw[ein]
   refine⟨_,rfl,?_⟩
   cases hh:hasn n (z17 tick L) with
   |false=>
    rw[if_pos (by decide)]
    exact q1 (by rw[hup,hh];rfl) _ s2
   |true=>
   rw[if_neg (by decide)]
   refine⟨_,_,_,s2 _ _ h1,T.cl_Keeper,T.n_Keeper_kept,_,z3b u t l,l,rfl,⟨_,SqL.of (s2 _ _ h2)⟩,?_⟩
   refine z1d (xs:=refs L) (by rw[z19];exact zf (by omega)) (fun i acc H'=>acc=refs (z4n n (L.take i))/\upd H1 p (.lst ((z17 tick L).map fun q=>V.int q.2.n))=H') ⟨by simp[z4n,refs],rfl⟩ ?_ ?_ ?_ ?_
   .rintro i acc H' ⟨rfl,-⟩
    rw[z19]
    exact xp (xj _ _) (by rw[x04];omega)
   .rintro i acc H' ⟨-,rfl⟩
    exact SqL.of (s2 _ _ h2)
   .rintro Nn i acc H' x hN hx hi ⟨rfl,rfl⟩
    obtain⟨y,hy,rfl⟩:=z37 hx
    walk_at "rd"
    refine⟨_,_,_,_,rfl,rfl,SqT.of (s2 _ _ (hn.tu _ (x9 hy))),zc (j:=0) rfl,rfl,?_⟩
    have st:=z1l (fun q:Addr×Nt=>decide (q.2.n≠n)) hy
    by_cases hc:y.2.n=n
    .rw[if_neg (by simp[hc])]
     refine hN _ _ ⟨?_,rfl⟩
     unfold z4n
     rw[st]
     simp[hc]
    .rw[if_pos (by simp[hc])]
     refine hN _ _ ⟨?_,rfl⟩
     unfold z4n
     rw[st]
     simp[hc,refs]
   .rintro acc H' ⟨rfl,rfl⟩ p3 hp3
    rw[z19,x02]
    have s3:=s2.trans (Same.upd (o:=.lst (refs (z4n n L))) hp3)
    refine⟨_,_,_,s3 _ _ h1,T.cl_Keeper,T.n_Keeper_kept,by show(3:Nat)<1000;decide,?_⟩
    rw[z5o]
    have nk3:k≠p3:=ze (s2 _ _ h1) hp3
    refine q2 (by rw[hup,hh];rfl) _ dx p3 (zu s2 hp3) z8 ⟨⟨dx,p3,z8,by rw[zb nk3.symm,z8]⟩,⟨fun x hx=>?_,fun x hx=>hn.sm _ (xi.mp hx).1⟩,xp (xj _ _) hlen⟩ fun b o e nb=>?_
    .have tz:=hn.tu _ (xi.mp hx).1
     have nz:x.1≠k:=fun e=>by rw[e,h1]at tz;cases tz
     rw[zb nz]
     exact s3 _ _ tz
    .rw[zb nb]
     exact s3 _ _ e
noncomputable def hasN(num tick:Int)(s:KN):Bool:=(z1g tick s.N).any fun x=>decide (x.n=num)
noncomputable def z20(num tick:Int)(s:KN):KN:=if(s.u&&hasN num tick s)=true then⟨s.u,s.t,s.N.filter fun x=>decide (x.n≠num)⟩ else s
noncomputable def z1y(ss:List KN)(js:List Nat)(num tick:Int):List KN:=ss.mapIdx fun j s=>if j∈js then z20 num tick s else s
noncomputable def drAt(ss:List KN)(num tick:Int)(j:Nat):Bool:=match ss[j]? with|some s=>hasN num tick s|none=>false
theorem zj6(ss:List KN)(num tick:Int):z1y ss [] num tick=ss:=by
 unfold z1y
 apply x0n
 intro j
 rw[x06]
 cases ss[j]? <;>simp
theorem zh3{ss:List KN}{js:List Nat}{num tick:Int}{i j:Nat}{s:KN}(hj:js[i]? =some j)(hs:ss[j]? =some s)(nd:js.Nodup):z1y ss (js.take (i+1)) num tick=(z1y ss (js.take i) num tick).set j (z20 num tick s)/\(z1y ss (js.take i) num tick)[j]? =some s:=by
 have et:js.take (i+1)=js.take i++[j]:=by rw[List.take_succ,hj];rfl
 have nj:j∉js.take i:=fun h=>by
  obtain⟨k,hk,e⟩:=x12 h
  rw[x04]at hk
  have e2:js[k]? =some j:=by rw[List.getElem_take]at e;rw[x6 (by omega),e]
  have:=(List.getElem?_inj (by omega) nd).mp (e2.trans hj.symm)
  omega
 constructor
 .apply x0n
  intro k
  by_cases hk:k=j
  .subst hk
   rw[x0x (by unfold z1y;rw[List.length_mapIdx];exact(xg.mp hs).1)]
   unfold z1y
   rw[x06,hs,et]
   simp
  .rw[x0y (Ne.symm hk)]
   unfold z1y
   rw[x06,x06,et]
   cases ss[k]? with
   |none=>rfl
   |some t=>simp[hk]
 .unfold z1y
  rw[x06,hs]
  simp[nj]
noncomputable def zff(CC CK:Addr):Sp:=fun vs H Q _=>∃(c l:Addr)(ks ls:List Addr)(ss:List KN)(num tick:Int),vs=[.ref c,.int num,.int tick]/\CAt CC CK H c l ks ls ss/\z6q ss/\
 ∀(r:Addr)(ls':List Addr)(H':Hp),LsOk H ls ls'->CAt CC CK H' c l ks ls' (z1y ss (upl ss ks.length) num tick)->H r=none->H' r=some (.lst (zr ((upl ss ks.length).filter (drAt ss num tick))))->ButK ks H H'->Q (.ref r) H'
theorem za3(F:MDef K y0 "drop" "Council.drop" z43 ["self","number","tick"])(T:Txt K mg y0 yb ya y6 y9 y8 y7)(y11:MHas P w K mg base CX0 2 y6 "drop" ["self","number","tick"] (zj5 y6))(yc:MHas P w K mg base CX0 1 y0 "up_keepers" ["self"] (z9t y0 y6)):MHas P w K mg base CX0 3 y0 "drop" ["self","number","tick"] (zff y0 y6):=by
 refine F.ok sc_Council_drop (fun vs H Q E h=>?_) (fun f cdv A outer s H vs Q E hr h=>?_)
 .obtain⟨c,l,ks,ls,ss,num,tick,rfl,_⟩:=h
  rfl
 .obtain⟨c,l,ks,ls,ss,num,tick,rfl,hc,hsm,q⟩:=h
  have hu:=hr.units0
  refine⟨_,(@za _ _ _ _ _ (@zk _ _ 3 _ _ _ _ sc_Council_drop.nd rfl (Or.inl rfl) (@z1c _ _ _ _ z9) rfl (Or.inr rfl)) (@za _ _ _ _ _ (@z1u _ _ _ _ _ _ _ _ x0m rfl (@z12 _ _ _ _ (@z4r _ _ _ _ _ _ _ _ _ _ _ yc T.cl_Council (hr.mono (by decide)) (pv 0) rfl)) (@z9b _ _ _ _ _ _ rfl (@z22 _ _ _ _ _ (@z15 _ _ 4 _ sc_Council_drop.nd rfl (Or.inl rfl) (Or.inr rfl)) (@z22 _ _ _ _ _ (@z15 _ _ 5 _ sc_Council_drop.nd rfl (Or.inl rfl) (Or.inr rfl)) z4q rfl) rfl) rfl rfl) (@zd _ _ _ (@z11 _ _ _ _ _ _ _ _ (@z1i _ _ _ (@z27 _ _ _ _ _ _ _ _ _ _ _ _ _ _ y11 T.cl_Keeper (hr.mono (by decide)) (pv 5) (@z6 _ _ _ _ _ (pv 1) (@z6 _ _ _ _ _ (pv 2) z9 rfl) rfl) rfl rfl rfl) (by intro _;rfl)) (@zd _ _ _ (@z1h _ _ _ _ (@z2c _ _ _ _ _ _ _ _ _ _ _ _ x0a x0d x0e z1r (pv 3) (@z6 _ _ _ _ _ (pv 4) z9 rfl) rfl rfl rfl rfl rfl) rfl)) zp)) (by intro _;rfl)) (@zd _ _ _ (@zn _ _ _ _ (pv 3))))),?_⟩
  walk_at "rd"
  obtain⟨dx,hob⟩:=hc.ob
  have hsz:=hc.sz
  refine⟨x03 _,fun p hp=>?_⟩
  have s1:=Same.upd (o:=.lst []) hp
  have g1:upd H p (.lst []) p=some (.lst (zr [])):=z8
  generalize upd H p (.lst [])=H1 at s1 g1⊢
  refine⟨_,_,s1 _ _ hob,z2l _ _ (by decide+kernel) (by decide+kernel),c,l,ks,ls,ss,rfl,hc.mono s1,fun r L H2 hL hr0 gr s2=>⟨r,rfl,⟨_,SqL.of gr⟩,?_⟩⟩
  have lL:=hL.len
  have s12:=s1.trans s2
  have npl:∀x∈ls,x≠p:=fun x hx e=>by obtain⟨xs,ex⟩:=hc.lsome hx;rw[e,hp]at ex;cases ex
  have nlp:l≠p:=fun e=>by have:=hc.li;rw[e,hp]at this;cases this
  refine z1b (xs:=ptup L) (fun i σ H'=>∃(ls':List Addr)(v4 v5:Option V),σ=[some (V.ref c),some (V.int num),some (V.int tick),some (V.ref p),v4,v5]/\H' p=some (.lst (zr (((upl ss ks.length).take i).filter (drAt ss num tick))))/\LsOk H2 ls ls'/\CAt y0 y6 H' c l ks ls' (z1y ss ((upl ss ks.length).take i) num tick)/\(∀b o,H2 b=some o->b∉ks->b≠p->H' b=some o)) ⟨ls,_,_,rfl,s2 _ _ g1,LsOk.refl _ _,by rw[List.take_zero,zj6];exact hc.mono s12,fun b o e _ _=>e⟩ ?_ ?_ ?_
  .rintro i σ H'-⟨ls',v4,v5,-,-,-,hc3,b3⟩
   refine SqL.of (b3 _ _ gr (fun hk=>?_) ?_)
   .obtain⟨dx,fs,z⟩:=(hc.mono s12).mem hk
    rw[gr]at z
    cases z
   .intro e
    rw[e,g1]at hr0
    cases hr0
  .rintro Pv hP i x σ H' hx ⟨ls',v4,v5,rfl,gp,lo,hc3,b3⟩
   obtain⟨y,hy,rfl⟩:=z6p hx
   have my:=x9 hy
   have hj:(upl ss ks.length)[i]? =some y.2.1:=by rw[<-hL.mp,xc,hy];rfl
   have stp:=z1l (drAt ss num tick) hj
   obtain⟨s,l0,hs,hl0,-⟩:=hc.kp y.2.1 y.2.2 (hL.at_ y my)
   obtain⟨dst,ds⟩:=zh3 (num:=num) (tick:=tick) hj hs (z5c ss ks.length)
   obtain⟨s',l1,hs',hl1,hK⟩:=hc3.kp y.2.1 y.2.2 (hL.at_ y my)
   obtain rfl:s'=s:=by rw[ds]at hs';exact(xq hs').symm
   have ty:H' y.1=some (.tup [.int ((y.2.1:Int)+1),.ref y.2.2]):=b3 _ _ (hL.tu y my) (fun hk=>by obtain⟨dx,fs,z⟩:=(hc.mono s12).mem hk;rw[hL.tu y my]at z;cases z) (fun e=>by have:=hL.tu y my;rw[e,s2 _ _ g1]at this;cases this)
   have eD:drAt ss num tick y.2.1=hasN num tick s':=by unfold drAt;rw[hs]
   walk_at "rd"
   obtain⟨⟨dk,a1⟩,Ls,eLs,hku⟩:=id hK
   have su:s'.u=true:=by
    have:=(z29 (x9 hj)).2
    unfold upAt at this
    rw[hs]at this
    exact this
   have eh:hasn num (z17 tick Ls)=hasN num tick s':=by
    unfold hasn hasN
    rw[<-eLs,<-z5b,List.any_map]
    rfl
   have lp:(((upl ss ks.length).take i).filter (drAt ss num tick)).length<=100:=xp (xj _ _) (by rw[x04];have:=z46 ss ks.length;omega)
   have pk:p∉ks:=fun hk=>by obtain⟨dx,fs,z⟩:=hc3.mem hk;rw[gp]at z;cases z
   refine⟨_,SqT.of ty,rfl,_,_,rfl,_,_,rfl,rfl,_,rfl,_,_,a1,z3u _ _ _ (by decide+kernel) (by decide+kernel) (by decide+kernel),?_⟩
   refine⟨y.2.2,s'.u,s'.t,Ls,num,tick,rfl,hku,fun e H4 s4=>⟨false,rfl,?_⟩,fun e H4 dx4 p3 hp3 a4 k4 b4=>⟨true,rfl,?_⟩⟩
   .rw[if_neg xa]
    rw[su,Bool.true_and,eh]at e
    have eS:z20 num tick s'=s':=by unfold z20;rw[if_neg (by rw[e,Bool.and_false];exact xa)]
    refine hP _ _ _ ⟨ls',_,_,rfl,?_,lo,?_,fun b o eb n1 n2=>s4 _ _ (b3 b o eb n1 n2)⟩
    .rw[stp,if_neg (by rw[eD,e];exact xa),x0l]
     exact s4 _ _ gp
    .rw[dst,eS,z6n ds]
     exact hc3.mono s4
   .rw[if_pos rfl]
    rw[su,Bool.true_and,eh]at e
    have eS:z20 num tick s'=⟨s'.u,s'.t,s'.N.filter fun x=>decide (x.n≠num)⟩:=by unfold z20;rw[if_pos (by rw[e,su];rfl)]
    have hK4:KAt y6 H4 y.2.2 p3 ⟨s'.u,s'.t,s'.N.filter fun x=>decide (x.n≠num)⟩:=⟨⟨dx4,a4⟩,z4n num Ls,by show(z4n num Ls).map (·.2)=_;rw[<-eLs];unfold z4n;rw[x19];rfl,k4⟩
    have hc4:=hc3.set (hL.at_ y my) hK4 b4
    rw[<-eS,<-dst]at hc4
    have kk:y.2.2∈ks:=x9 (hL.at_ y my)
    have gp4:=b4 _ _ gp fun z=>pk (z▸kk)
    have h23:H2 p3=none:=by
     cases e2:H2 p3 with
     |none=>rfl
     |some o=>
      exfalso
      by_cases z1:p3∈ks
      .obtain⟨dx,fs,z⟩:=hc3.mem z1
       rw[hp3]at z;cases z
      .by_cases z2:p3=p
       .rw[z2,gp]at hp3;cases hp3
       .rw[b3 _ _ e2 z1 z2]at hp3;cases hp3
    have lo4:LsOk H2 ls (ls'.set y.2.1 p3):=fun x hx=>by
     rcases List.mem_or_eq_of_mem_set hx with h|h
     .exact lo x h
     .rw[h];exact .inr h23
    have np4:p∉ls'.set y.2.1 p3:=fun hx=>by
     rcases lo4 p hx with h|h
     .exact npl p h rfl
     .rw[s2 _ _ g1]at h;cases h
    refine⟨.inl ⟨_,SqL.of gp4⟩,_,_,_,rfl,rfl,gp4,z1k (by rw[z1s];omega),hP _ _ _ ⟨ls'.set y.2.1 p3,_,_,rfl,?_,lo4,hc4.upd gp4 nlp np4,fun b o eb n1 n2=>?_⟩⟩
    .rw[z8,stp,if_pos (by rw[eD];exact e)]
     simp[zr]
    .rw[zb n2]
     exact b4 _ _ (b3 b o eb n1 n2) fun z=>n1 (z▸kk)
  rintro σ H' ⟨ls',v4,v5,rfl,gp,lo,hc3,b3⟩
  walk_at "rd"
  have hlen:(ptup L).length=(upl ss ks.length).length:=by rw[z45,<-hL.mp,x0]
  rw[hlen,x02]at gp hc3
  refine q p ls' H' (fun x hx=>?_) hc3 hp gp fun b o e nb=>b3 _ _ (s12 _ _ e) nb (ze e hp)
  rcases lo x hx with h|h
  .exact .inl h
  .exact .inr (zu s12 h)
structure Rel(S:Sv)(ss:List KN)(n:Nat):Prop where
 us:S.us=ss.map (·.u)
 ts:S.ts=ss.map (·.t)
 ln:ss.length=n
 nt:∀j s,ss[j]? =some s->z1g S.now s.N=((S.N.map (·.2)).filter fun q=>decide (q.k=j)&&decide (S.now<q.x.e)).map (·.x)
 pw:∀s∈ss,s.N.Pairwise (fun a b=>a.n<b.n)/\(∀x∈s.N,x.n<=s.t)/\0<=s.t
 kb:∀q∈S.N,q.2.k<n
theorem Rel.ups{S:Sv}{ss:List KN}{n:Nat}(h:Rel S ss n):upL S.us=upl ss n:=by
 unfold upL upl
 rw[h.us,x0,h.ln]
 refine x1c fun j hj=>?_
 have hl:j<ss.length:=by rw[h.ln];exact x0s.mp hj
 unfold upAt
 rw[xn,xc,x6 hl]
 rfl
theorem Rel.naming{S:Sv}{ss:List KN}{n:Nat}(h:Rel S ss n){j:Nat}{s:KN}(hs:ss[j]? =some s)(f:Nt->Bool):((z1g S.now s.N).any f)=((S.N.map (·.2)).any fun q=>decide (q.k=j)&&(decide (S.now<q.x.e)&&f q.x)):=by
 rw[h.nt j s hs,List.any_map,List.any_filter]
 congr 1
 funext q
 simp[Bool.and_assoc]
theorem Rel.say{S:Sv}{ss:List KN}{n:Nat}(h:Rel S ss n)(hd lk:Str)(sh:Bool):sayL S hd lk sh=sayl ss n hd lk sh S.now:=by
 unfold sayL sayl
 rw[h.ups]
 refine x1c fun j hj=>?_
 have hl:j<ss.length:=by rw[h.ln];exact(z29 hj).1
 have hs:ss[j]? =some ss[j]:=x6 hl
 unfold frAt
 rw[hs]
 show _=z6l ss[j].N hd lk sh S.now
 unfold z6l
 rw[h.naming hs,x18,List.isEmpty_iff,zm8]
 simp only[Bool.not_eq_true',List.any_eq_false,x07,x10,not_and,Bool.not_eq_true]
theorem Rel.top{S:Sv}{ss:List KN}{n:Nat}(h:Rel S ss n){m m':Int}(h1:zdx S.us S.ts m)(h2:z5d ss m'):m=m':=by
 obtain⟨⟨j,hj,ej⟩,a⟩:=h1
 obtain⟨⟨s,ms,us,es⟩,b⟩:=h2
 rw[h.ups]at hj a
 rw[h.ts]at ej a
 have hl:j<ss.length:=by rw[h.ln];exact(z29 hj).1
 have hsj:ss[j]? =some ss[j]:=x6 hl
 rw[xc,hsj]at ej
 have ej':ss[j].t=m:=xq ej
 have uj:=(z29 hj).2
 unfold upAt at uj
 rw[hsj]at uj
 have x1:=b ss[j] (x1b hl) uj
 obtain⟨i,hi,ei⟩:=x12 ms
 have hi2:ss[i]? =some s:=by rw[x6 hi,ei]
 have ui:i∈upl ss n:=xi.mpr ⟨x0s.mpr (by rw[<-h.ln];exact hi),by unfold upAt;rw[hi2];exact us⟩
 have x2:=a i ui s.t (by rw[xc,hi2];rfl)
 omega
theorem Rel.later{S:Sv}{ss:List KN}{n:Nat}(h:Rel S ss n){t:Int}(ht:S.now<=t):Rel { S with now:=t } ss n:=by
 refine⟨h.us,h.ts,h.ln,fun j s hs=>?_,h.pw,h.kb⟩
 have e:=x0u (List.filter fun x=>decide (t<x.e)) (h.nt j s hs)
 unfold z1g at e⊢
 rw[x0j,x19,x0j]at e
 have l1:(s.N.filter fun a=>decide (t<a.e)&&decide (S.now<a.e))=s.N.filter fun x=>decide (t<x.e):=x1c fun x _=>by
  by_cases c:t<x.e
  .have:S.now<x.e:=by omega
   simp[c,this]
  .simp[c]
 rw[l1]at e
 show s.N.filter (fun x=>decide (t<x.e))=_
 rw[e]
 congr 1
 refine x1c fun q _=>?_
 show(decide (t<q.x.e)&&(decide (q.k=j)&&decide (S.now<q.x.e)))=(decide (q.k=j)&&decide (t<q.x.e))
 by_cases c:t<q.x.e
 .have:S.now<q.x.e:=by omega
  simp[c,this]
 .simp[c]
theorem Rel.stand{S:Sv}{ss:List KN}{n j:Nat}{s:KN}(h:Rel S ss n)(hs:ss[j]? =some s)(b:Bool):Rel { S with us:=S.us.set j b } (ss.set j ⟨b,s.t,s.N⟩) n:=by
 have hl:j<ss.length:=(xg.mp hs).1
 refine⟨?_,?_,by rw[List.length_set];exact h.ln,fun i s' hs'=>?_,fun s' hs'=>?_,h.kb⟩
 .show S.us.set j b=_
  rw[h.us,List.map_set]
 .show S.ts=_
  rw[h.ts,List.map_set,z6n]
  rw[xc,hs];rfl
 .by_cases e:i=j
  .subst e
   rw[x0x hl]at hs'
   cases hs'
   exact h.nt i s hs
  .rw[x0y (Ne.symm e)]at hs'
   exact h.nt i s' hs'
 .rcases List.mem_or_eq_of_mem_set hs' with z|z
  .exact h.pw s' z
  .rw[z];exact h.pw s (x9 hs)
theorem Rel.give{S S':Sv}{ss:List KN}{n:Nat}(h:Rel S ss n){hd lk:Str}{sh:Bool}{m tm:Int}(ht:1<=tm)(hT:z5d ss m)(e1:S'.now=S.now)(e2:S'.us=S.us)(e3:S'.ts=topS S.ts (sayL S hd lk sh) (1+m))(e4:S'.N.map (·.2)=z4m (S.N.map (·.2)) S.now (sayL S hd lk sh) ⟨1+m,hd,lk,sh,S.now+tm⟩):
  Rel S' (z1x ss (sayl ss n hd lk sh S.now) ⟨1+m,hd,lk,sh,S.now+tm⟩) n:=by
 rw[<-h.say]
 have up:∀j∈sayL S hd lk sh,j<n/\upAt ss j=true:=fun j hj=>by
  rw[h.say]at hj
  exact z29 (xi.mp hj).1
 have hm0:0<=m:=by
  obtain⟨⟨s,ms,-,es⟩,-⟩:=hT
  have:=(h.pw s ms).2.2
  omega
 have gl:(z1x ss (sayL S hd lk sh) ⟨1+m,hd,lk,sh,S.now+tm⟩).length=ss.length:=by unfold z1x;exact List.length_mapIdx
 have get:∀j,(z1x ss (sayL S hd lk sh) ⟨1+m,hd,lk,sh,S.now+tm⟩)[j]? =(ss[j]?).map fun s=>if j∈sayL S hd lk sh then⟨s.u,1+m,z2u hd lk s.N++[⟨1+m,hd,lk,sh,S.now+tm⟩]⟩ else s:=fun j=>by
  unfold z1x
  rw[x06]
 generalize hsl:sayL S hd lk sh=sl at up gl get e3 e4
 refine⟨?_,?_,by rw[gl];exact h.ln,fun j s' hs'=>?_,fun s' ms'=>?_,fun q hq=>?_⟩
 .rw[e2,h.us]
  apply x0n
  intro j
  rw[xc,xc,get]
  cases ss[j]? with
  |none=>rfl
  |some s=>by_cases c:j∈sl<;>simp[c]
 .rw[e3,h.ts]
  apply x0n
  intro j
  unfold topS
  rw[x06,xc,xc,get]
  cases ss[j]? with
  |none=>rfl
  |some s=>by_cases c:j∈sl<;>simp[c]
 .rw[get]at hs'
  cases es:ss[j]? with
  |none=>rw[es]at hs';cases hs'
  |some s=>
  rw[es]at hs'
  have ht0:=h.nt j s es
  rw[e1,e4]
  unfold z4m
  rw[x1f,x0b,x0j]
  have hlive:S.now<S.now+tm:=by omega
  by_cases c:j∈sl
  .have e5:s'=⟨s.u,1+m,z2u hd lk s.N++[⟨1+m,hd,lk,sh,S.now+tm⟩]⟩:=by
    have:=xq hs'
    dsimp only at this
    rw[if_pos c]at this
    exact this.symm
   rw[e5]
   show z1g S.now (z2u hd lk s.N++[⟨1+m,hd,lk,sh,S.now+tm⟩])=_
   have l1:z1g S.now (z2u hd lk s.N++[⟨1+m,hd,lk,sh,S.now+tm⟩])=z2u hd lk (z1g S.now s.N)++[⟨1+m,hd,lk,sh,S.now+tm⟩]:=by
    unfold z1g z2u
    rw[x1f,x0j,x0j]
    congr 1
    .refine x1c fun x _=>Bool.and_comm _ _
    .simp[hlive]
   rw[l1,ht0]
   congr 1
   .unfold z2u
    rw[x19,x0j]
    congr 1
    refine x1c fun q _=>?_
    show(!(decide (q.x.h=hd)&&decide (q.x.l=lk))&&(decide (q.k=j)&&decide (S.now<q.x.e)))=(decide (q.k=j)&&decide (S.now<q.x.e)&&z24 S.now sl hd lk q)
    unfold z24
    by_cases cj:q.k=j
    .subst cj
     simp only[c,decide_true,Bool.true_and]
     cases decide (S.now<q.x.e)<;>cases decide (q.x.h=hd)<;>cases decide (q.x.l=lk)<;>rfl
    .simp[cj]
   .have nd:sl.Nodup:=by
     rw[<-hsl]
     exact List.Nodup.sublist x0k (List.Nodup.sublist x0k List.nodup_range)
    rw[x19,List.map_map]
    have e6:sl.filter ((fun q:Nk=>decide (q.k=j)&&decide (S.now<q.x.e))∘fun k=>(⟨k,⟨1+m,hd,lk,sh,S.now+tm⟩⟩:Nk))=[j]:=by
     have:((fun q:Nk=>decide (q.k=j)&&decide (S.now<q.x.e))∘fun k=>(⟨k,⟨1+m,hd,lk,sh,S.now+tm⟩⟩:Nk))=fun k=>decide (k=j):=by
      funext k
      simp[hlive]
     rw[this]
     clear hsl up gl get e3 e4 hs' this
     induction sl with
     |nil=>cases c
     |cons a sl ih=>
      obtain⟨n1,n2⟩:=List.nodup_cons.mp nd
      by_cases ca:a=j
      .subst ca
       rw[List.filter_cons_of_pos (by simp),x1s.mpr]
       intro x hx hh
       exact n1 (x05 hh▸hx)
      .rw[List.filter_cons_of_neg (by simpa using ca)]
       exact ih ((xo.mp c).resolve_left (fun z=>ca z.symm)) n2
    rw[e6]
    rfl
  .have e5:s'=s:=by
    have:=xq hs'
    dsimp only at this
    rw[if_neg c]at this
    exact this.symm
   rw[e5,ht0]
   have e6:(sl.map fun k=>(⟨k,⟨1+m,hd,lk,sh,S.now+tm⟩⟩:Nk)).filter (fun q=>decide (q.k=j)&&decide (S.now<q.x.e))=[]:=by
    rw[x1s]
    intro q hq
    obtain⟨k,hk,rfl⟩:=xw.mp hq
    have:k≠j:=fun z=>c (z▸hk)
    simp[this]
   rw[e6,List.map_nil,x0l]
   congr 1
   refine x1c fun q _=>?_
   show(decide (q.k=j)&&decide (S.now<q.x.e))=(decide (q.k=j)&&decide (S.now<q.x.e)&&z24 S.now sl hd lk q)
   unfold z24
   by_cases cj:q.k=j
   .subst cj
    simp[c]
   .simp[cj]
 .obtain⟨j,hj⟩:=x1d ms'
  rw[get]at hj
  cases es:ss[j]? with
  |none=>rw[es]at hj;cases hj
  |some s=>
  rw[es]at hj
  have hp:=h.pw s (x9 es)
  have:=xq hj
  dsimp only at this
  by_cases c:j∈sl
  .rw[if_pos c]at this
   rw[<-this]
   have us:s.u=true:=by
    have:=(up j c).2
    unfold upAt at this
    rw[es]at this
    exact this
   have hle:=hT.2 s (x9 es) us
   refine⟨?_,?_,by show 0<=1+m;omega⟩
   .rw[List.pairwise_append]
    refine⟨List.Pairwise.sublist x0k hp.1,List.pairwise_singleton _ _,fun a ha b hb=>?_⟩
    rw[xm.mp hb]
    have:=hp.2.1 a (xi.mp ha).1
    show a.n<1+m
    omega
   .intro x hx
    show x.n<=1+m
    rcases xz.mp hx with hx|hx
    .have:=hp.2.1 x (xi.mp hx).1
     omega
    .rw[xm.mp hx]
     exact Int.le_refl _
  .rw[if_neg c]at this
   rw[<-this]
   exact hp
 .have hq2:q.2∈S'.N.map (·.2):=x13 hq
  rw[e4]at hq2
  unfold z4m at hq2
  rcases xz.mp hq2 with z|z
  .obtain⟨y,hy,ey⟩:=xw.mp (xi.mp z).1
   rw[<-ey]
   exact h.kb y hy
  .obtain⟨k,hk,ek⟩:=xw.mp z
   rw[<-ek]
   exact(up k hk).1
theorem Rel.drop{S:Sv}{ss:List KN}{n:Nat}(h:Rel S ss n)(num:Int)(pn:Addr):
  Rel { S with pn:=pn,N:=S.N.filter fun q=>!isDr num S.now S.us q.2 } (z1y ss (upl ss n) num S.now) n:=by
 have gl:(z1y ss (upl ss n) num S.now).length=ss.length:=by unfold z1y;exact List.length_mapIdx
 have get:∀j,(z1y ss (upl ss n) num S.now)[j]? =(ss[j]?).map fun s=>if j∈upl ss n then z20 num S.now s else s:=fun j=>by
  unfold z1y
  rw[x06]
 have du:∀s:KN,(z20 num S.now s).u=s.u:=fun s=>by unfold z20;split<;>rfl
 have dt:∀s:KN,(z20 num S.now s).t=s.t:=fun s=>by unfold z20;split<;>rfl
 have ds:∀s:KN,∀x∈(z20 num S.now s).N,x∈s.N:=fun s x hx=>by
  unfold z20 at hx
  split at hx
  .exact(xi.mp hx).1
  .exact hx
 have dp:∀s:KN,s.N.Pairwise (fun a b=>a.n<b.n)->(z20 num S.now s).N.Pairwise (fun a b=>a.n<b.n):=fun s hs=>by
  unfold z20
  split
  .exact List.Pairwise.sublist x0k hs
  .exact hs
 refine⟨?_,?_,by rw[gl];exact h.ln,fun j s' hs'=>?_,fun s' ms'=>?_,fun q hq=>h.kb q (xi.mp hq).1⟩
 .show S.us=_
  rw[h.us]
  apply x0n
  intro j
  rw[xc,xc,get]
  cases ss[j]? with
  |none=>rfl
  |some s=>by_cases c:j∈upl ss n<;>simp[c,du]
 .show S.ts=_
  rw[h.ts]
  apply x0n
  intro j
  rw[xc,xc,get]
  cases ss[j]? with
  |none=>rfl
  |some s=>by_cases c:j∈upl ss n<;>simp[c,dt]
 .rw[get]at hs'
  cases es:ss[j]? with
  |none=>rw[es]at hs';cases hs'
  |some s=>
  rw[es]at hs'
  have hs2:=xq hs'
  dsimp only at hs2
  have ht0:=h.nt j s es
  have hjl:j<ss.length:=(xg.mp es).1
  have eus:S.us.getD j false=s.u:=by rw[h.us,xn,xc,es];rfl
  show z1g S.now s'.N=((List.map (·.2) (S.N.filter fun q=>!isDr num S.now S.us q.2)).filter fun q=>decide (q.k=j)&&decide (S.now<q.x.e)).map (·.x)
  have eN:(S.N.filter fun q=>!isDr num S.now S.us q.2).map (·.2)=(S.N.map (·.2)).filter fun q=>!isDr num S.now S.us q:=by rw[x19];rfl
  rw[eN,x0j]
  have key:((S.N.map (·.2)).filter fun q=>(decide (q.k=j)&&decide (S.now<q.x.e))&& !isDr num S.now S.us q)=(((S.N.map (·.2)).filter fun q=>decide (q.k=j)&&decide (S.now<q.x.e)).filter fun q=>!(s.u&&decide (q.x.n=num))):=by
   rw[x0j]
   refine x1c fun q _=>?_
   unfold isDr
   by_cases cj:q.k=j
   .rw[cj,eus]
    cases decide (S.now<q.x.e)<;>cases decide (q.x.n=num)<;>cases s.u<;>simp
   .simp[cj]
  rw[key]
  have e7:(((S.N.map (·.2)).filter fun q=>decide (q.k=j)&&decide (S.now<q.x.e)).filter fun q=>!(s.u&&decide (q.x.n=num))).map (·.x)=(z1g S.now s.N).filter fun x=>!(s.u&&decide (x.n=num)):=by
   rw[ht0]
   generalize((S.N.map (·.2)).filter fun q=>decide (q.k=j)&&decide (S.now<q.x.e))=G
   rw[x19]
   rfl
  rw[e7]
  by_cases c:j∈upl ss n
  .rw[if_pos c]at hs2
   have us:s.u=true:=by
    have:=(z29 c).2
    unfold upAt at this
    rw[es]at this
    exact this
   rw[<-hs2]
   unfold z20
   by_cases hh:hasN num S.now s=true
   .rw[if_pos (by rw[us,hh];rfl)]
    unfold z1g
    rw[x0j,x0j]
    refine x1c fun x _=>?_
    rw[us]
    by_cases cn:x.n=num<;>simp[cn]
   .rw[if_neg (by rw[us,Bool.true_and];exact hh)]
    symm
    rw[List.filter_eq_self]
    intro x hx
    have:¬(x.n=num):=fun z=>hh (List.any_eq_true.mpr ⟨x,hx,xx z⟩)
    simp[this]
  .rw[if_neg c]at hs2
   have us:s.u=false:=by
    cases eu:s.u with
    |false=>rfl
    |true=>
     refine absurd (xi.mpr ⟨x0s.mpr (by rw[<-h.ln];exact hjl),?_⟩) c
     unfold upAt
     rw[es]
     exact eu
   rw[<-hs2,us]
   symm
   rw[List.filter_eq_self]
   intro x _
   rfl
 .obtain⟨j,hj⟩:=x1d ms'
  rw[get]at hj
  cases es:ss[j]? with
  |none=>rw[es]at hj;cases hj
  |some s=>
  rw[es]at hj
  have hp:=h.pw s (x9 es)
  have hs2:=xq hj
  dsimp only at hs2
  by_cases c:j∈upl ss n
  .rw[if_pos c]at hs2
   rw[<-hs2]
   exact⟨dp s hp.1,fun x hx=>by rw[dt];exact hp.2.1 x (ds s x hx),by rw[dt];exact hp.2.2⟩
  .rw[if_neg c]at hs2
   rw[<-hs2]
   exact hp
theorem zj7{N:List Nt}(h:N.Pairwise fun a b=>a.n<b.n)(num:Int):(N.filter fun x=>decide (x.n=num)).length<=1:=by
 induction h with
 |nil=>simp
 |cons h1 _ ih=>
  rename_i a l _
  by_cases c:a.n=num
  .rw[List.filter_cons_of_pos (by simpa using c),x1s.mpr]
   .simp
   .intro x hx hh
    have:=h1 x hx
    have:=x05 hh
    omega
  .rw[List.filter_cons_of_neg (by simpa using c)]
   exact ih
theorem Rel.dr_nodup{S:Sv}{ss:List KN}{n:Nat}(h:Rel S ss n)(num:Int):((S.N.filter fun q=>isDr num S.now S.us q.2).map fun q=>q.2.k).Nodup:=by
 rw[List.nodup_iff_count]
 intro j
 rw[List.count_eq_countP,List.countP_map,List.countP_eq_length_filter,x0j]
 by_cases hj:j<ss.length
 .have es:ss[j]? =some ss[j]:=x6 hj
  have ht0:=h.nt j _ es
  have hp:=h.pw _ (x1b hj)
  have h1:=zj7 (List.Pairwise.sublist (x0k (p:=fun x=>decide (S.now<x.e))) hp.1) num
  have h2:(ss[j].N.filter fun x=>decide (S.now<x.e))=z1g S.now ss[j].N:=rfl
  rw[h2,ht0,x19,x0,x0j,x19,x0]at h1
  refine xp ?_ h1
  refine List.Sublist.length_le ?_
  have:(S.N.filter fun a=>(((fun x=>x==j)∘fun q:Addr×Nk=>q.2.k) a&&isDr num S.now S.us a.2))=((S.N.filter ((fun a:Nk=>((fun x:Nt=>decide (x.n=num))∘fun x:Nk=>x.x) a&&(decide (a.k=j)&&decide (S.now<a.x.e)))∘fun x:Addr×Nk=>x.2)).filter fun a=>S.us.getD a.2.k false):=by
   rw[x0j]
   refine x1c fun q _=>?_
   show((q.2.k==j)&&isDr num S.now S.us q.2)=(S.us.getD q.2.k false&&(decide (q.2.x.n=num)&&(decide (q.2.k=j)&&decide (S.now<q.2.x.e))))
   unfold isDr
   rw[show(q.2.k==j)=decide (q.2.k=j) from by rw[x18];simp]
   cases decide (q.2.k=j)<;>cases decide (q.2.x.n=num)<;>cases decide (S.now<q.2.x.e)<;>cases S.us.getD q.2.k false<;>rfl
  rw[this]
  exact x0k
 .refine xp (Nat.le_of_eq ?_) (x03 1)
  rw[List.length_eq_zero_iff,x1s]
  intro q hq hh
  rw[x07]at hh
  have h1:(q.2.k==j)=true:=hh.1
  have:=h.kb q hq
  have h2:q.2.k=j:=by simpa using h1
  rw[h.ln]at hj
  omega
theorem Rel.dr_perm{S:Sv}{ss:List KN}{n:Nat}(h:Rel S ss n)(num:Int):((S.N.filter fun q=>isDr num S.now S.us q.2).map fun q=>q.2.k).Perm ((upl ss n).filter (drAt ss num S.now)):=by
 have nd:=h.dr_nodup num
 have nu:((upl ss n).filter (drAt ss num S.now)).Nodup:=List.Nodup.sublist x0k (z5c ss n)
 rw[List.perm_ext_iff_of_nodup nd nu]
 intro j
 rw[xw,xi]
 constructor
 .rintro⟨q,hq,rfl⟩
  obtain⟨mq,dq⟩:=xi.mp hq
  have kl:=h.kb q mq
  have hj:q.2.k<ss.length:=by rw[h.ln];exact kl
  have es:ss[q.2.k]? =some ss[q.2.k]:=x6 hj
  unfold isDr at dq
  rw[x07,x07]at dq
  have hus:S.us.getD q.2.k false=ss[q.2.k].u:=by rw[h.us,xn,xc,es];rfl
  refine⟨xi.mpr ⟨x0s.mpr kl,?_⟩,?_⟩
  .unfold upAt
   rw[es]
   show ss[q.2.k].u=true
   rw[<-hus]
   exact dq.2.2
  .unfold drAt
   rw[es]
   show hasN num S.now ss[q.2.k]=true
   unfold hasN
   rw[h.naming es,List.any_eq_true]
   refine⟨q.2,x13 mq,?_⟩
   rw[dq.1,dq.2.1]
   simp
 .rintro⟨hj,hd⟩
  obtain⟨jn,ju⟩:=z29 hj
  have hjl:j<ss.length:=by rw[h.ln];exact jn
  have es:ss[j]? =some ss[j]:=x6 hjl
  unfold drAt at hd
  rw[es]at hd
  have hd2:hasN num S.now ss[j]=true:=hd
  unfold hasN at hd2
  rw[h.naming es,List.any_eq_true]at hd2
  obtain⟨x,mx,hx⟩:=hd2
  obtain⟨q,mq,rfl⟩:=xw.mp mx
  rw[x07,x07]at hx
  have ek:=x05 hx.1
  refine⟨q,xi.mpr ⟨mq,?_⟩,ek⟩
  unfold isDr
  unfold upAt at ju
  rw[es]at ju
  rw[hx.2.1,hx.2.2,ek,h.us,xn,xc,es]
  exact ju
theorem Rel.dropped{S:Sv}{ss:List KN}{n:Nat}(h:Rel S ss n)(num:Int){ks:List Int}(hp:ks.Perm ((S.N.filter fun q=>isDr num S.now S.us q.2).map fun q=>(q.2.k:Int)+1))(hs:ks.Pairwise (·<=·)):ks.map V.int=zr ((upl ss n).filter (drAt ss num S.now)):=by
 have nd:=h.dr_nodup num
 have e1:((S.N.filter fun q=>isDr num S.now S.us q.2).map fun q=>(q.2.k:Int)+1)=(((S.N.filter fun q=>isDr num S.now S.us q.2).map fun q=>q.2.k).map fun j:Nat=>(j:Int)+1):=by rw[List.map_map];rfl
 have nu:((upl ss n).filter (drAt ss num S.now)).Nodup:=List.Nodup.sublist x0k (z5c ss n)
 have pm:=h.dr_perm num
 rw[e1]at hp
 have hp2:=hp.trans (pm.map fun j:Nat=>(j:Int)+1)
 have so:(((upl ss n).filter (drAt ss num S.now)).map fun j:Nat=>(j:Int)+1).Pairwise (·<=·):=by
  rw[List.pairwise_map]
  refine List.Pairwise.imp (R:=fun a b:Nat=>a<b) (fun hab=>by omega) ?_
  exact List.Pairwise.sublist (x0k.trans x0k) List.pairwise_lt_range
 have e2:ks=((upl ss n).filter (drAt ss num S.now)).map fun j:Nat=>(j:Int)+1:=List.Perm.eq_of_pairwise (le:=fun a b:Int=>a<=b) (fun a b _ _ h1 h2=>by omega) hs so hp2
 rw[e2]
 unfold zr
 rw[List.map_map]
 rfl
noncomputable def zfg(CC CK:Addr):Sp:=fun vs H Q _=>∃(c a l:Addr)(ks ls:List Addr)(ss:List KN)(z:Int)(hd lk:Str)(sh:Bool)(tick time:Int),vs=[.ref c,.ref a,.int tick]/\H a=some (.tup [.int z,.str hd,.str lk,.bl sh,.int time])/\CAt CC CK H c l ks ls ss/\z6q ss/\hd.length<=1000/\lk.length<=1000/\
 (((sayl ss ks.length hd lk sh tick).length:Int)<(ks.length:Int)/2+1->∀(r:Addr) (H':Hp),H' r=some (.tup [.str "refused"])->Same H H'->Q (.ref r) H')/\
 (¬((sayl ss ks.length hd lk sh tick).length:Int)<(ks.length:Int)/2+1->∀(m:Int),z5d ss m->∀(r p:Addr)(ls':List Addr)(H':Hp),LsOk H ls ls'->CAt CC CK H' c l ks ls' (z1x ss (sayl ss ks.length hd lk sh tick) ⟨1+m,hd,lk,sh,tick+time⟩)->
  H' r=some (.tup [.int (1+m),.ref p])->H' p=some (.lst (zr (sayl ss ks.length hd lk sh tick)))->H r=none->H p=none->ButK ks H H'->Q (.ref r) H')
theorem zc1(F:Def K mg "_law_given" z54 ["_law_council","_law_asking","_law_tick"])(T:Txt K mg y0 yb ya y6 y9 y8 y7)(yy:MHas P w K mg base (CX1 P w) 7 y0 "give" ["self","holder","lock","shared","tick","time"] (ziw y0 y6 y9)):Has P w K mg base 8 "_law_given" ["_law_council","_law_asking","_law_tick"] (zfg y0 y6):=by
 refine F.ok sc__law_given (fun vs H Q E h=>?_) (fun f cdv A outer s H vs Q E hr h=>?_)
 .obtain⟨c,a,l,ks,ls,ss,z,hd,lk,sh,tick,time,rfl,_⟩:=h
  rfl
 .obtain⟨c,a,l,ks,ls,ss,z,hd,lk,sh,tick,time,rfl,ha,hc,hsm,hh,hl,q1,q2⟩:=h
  refine⟨_,(@za _ _ _ _ _ (@zm0 _ _ _ _ _ _ _ (@zl2 _ _ _ _ (@zly _ _ _ _ _ _ _ _ _ _ _ _ _ _ yy T.cl_Council (hr.mono (by decide)) (pv 0) (@z6 _ _ _ _ _ (@zi _ _ _ _ _ _ _ ix_tup (pv 1) z7 (fun _ _=>rfl)) (@z6 _ _ _ _ _ (@zi _ _ _ _ _ _ _ ix_tup (pv 1) z7 (fun _ _=>rfl)) (@z6 _ _ _ _ _ (@zi _ _ _ _ _ _ _ ix_tup (pv 1) z7 (fun _ _=>rfl)) (@z6 _ _ _ _ _ (pv 2) (@z6 _ _ _ _ _ (@zi _ _ _ _ _ _ _ ix_tup (pv 1) z7 (fun _ _=>rfl)) z9 rfl) rfl) rfl) rfl) rfl) rfl rfl rfl rfl)) (@zl3 _ _ _ _ _ _ _ _ _ _ _ _ rfl T.g_NotFree T.x_NotFree (by decide+kernel) (fun _=>(@zd _ _ _ (@zk _ _ 3 _ _ _ _ sc__law_given.nd rfl (Or.inl rfl) (@z1p _ _ _ _ _ (@z6 _ _ _ _ _ zl z9 rfl)) rfl (Or.inr rfl)))) zlz (by decide)) rfl rfl) (@zd _ _ _ (@zn _ _ _ _ (pv 3)))),?_⟩
  walk_at "rd"
  obtain⟨dx,hob⟩:=hc.ob
  refine⟨_,_,hob,z2l _ _ (by decide+kernel) (by decide+kernel),?_⟩
  refine⟨_,_,_,_,rfl,rfl,SqT.of ha,zc (j:=1) rfl,?_⟩
  refine⟨_,_,_,_,rfl,rfl,SqT.of ha,zc (j:=2) rfl,?_⟩
  refine⟨_,_,_,_,rfl,rfl,SqT.of ha,zc (j:=3) rfl,?_⟩
  refine⟨_,_,_,_,rfl,rfl,SqT.of ha,zc (j:=4) rfl,?_⟩
  refine⟨c,l,ks,ls,ss,hd,lk,sh,tick,time,rfl,hc,hsm,hh,hl,fun hlt H1 s1=>?_,fun hlt m hm r p ls' H1 h1 h2 h3 h4 h6 h7 h5=>q2 hlt m hm r p ls' H1 h1 h2 h3 h4 h6 h7 h5⟩
  refine⟨true,T.sb_NotFree_NotFree,?_⟩
  rw[if_pos rfl]
  exact⟨zf (by decide),fun p hp=>q1 hlt p _ z8 (s1.trans (Same.upd hp))⟩
noncomputable def maj(n:Nat)(P:Nat->Bool):Prop:=n<2*((List.range n).filter P).length
noncomputable def atB(ss:List KN)(p:KN->Bool)(j:Nat):Bool:=match ss[j]? with|some s=>p s|none=>false
theorem z95{ss:List KN}{p:KN->Bool}{j:Nat}(h:atB ss p j=true):∃s,ss[j]? =some s/\p s=true:=by
 unfold atB at h
 cases e:ss[j]? with
 |none=>rw[e]at h;cases h
 |some s=>rw[e]at h;exact⟨s,rfl,h⟩
theorem zdz{n:Nat}{P Q:Nat->Bool}(hP:maj n P)(hQ:maj n Q):∃j,j<n/\P j=true/\Q j=true:=by
 by_cases h:∃j,j<n/\P j=true/\Q j=true
 .exact h
 .exfalso
  unfold maj at hP hQ
  rw[<-List.countP_eq_length_filter]at hP hQ
  have h1:(List.range n).countP P<=(List.range n).countP (fun j=>decide (¬ Q j=true)):=List.countP_mono_left fun j hj hp=>by
   refine xx fun hq=>h ⟨j,x0s.mp hj,hp,hq⟩
  have h2:=List.length_eq_countP_add_countP Q (l:=List.range n)
  rw[List.length_range]at h2
  omega
theorem z96{n:Nat}{P Q:Nat->Bool}(hP:maj n P)(h:∀j,j<n->P j=true->Q j=true):maj n Q:=by
 unfold maj at hP⊢
 rw[<-List.countP_eq_length_filter]at hP⊢
 have:=List.countP_mono_left (l:=List.range n) (p:=P) (q:=Q) fun j hj hp=>h j (x0s.mp hj) hp
 omega
theorem zfh(ss:List KN)(n:Nat)(hd lk:Str)(sh:Bool)(tick:Int):sayl ss n hd lk sh tick=(List.range n).filter fun j=>frAt ss hd lk sh tick j&&upAt ss j:=by
 unfold sayl upl
 rw[x0j]
theorem zfi{ss:List KN}{n:Nat}{hd lk:Str}{sh:Bool}{tick:Int}(h:¬((sayl ss n hd lk sh tick).length:Int)<(n:Int)/2+1):maj n fun j=>frAt ss hd lk sh tick j&&upAt ss j:=by
 unfold maj
 rw[<-zfh]
 omega
structure Inv13(ss:List KN)(n:Nat)(N:KL)(now:Int)(L:List Nt)(top:Int):Prop where
 ln:ss.length=n
 up:L.Pairwise fun a b=>a.n<b.n
 le:∀x∈L,x.n<=top
 tp:∀s∈ss,0<=s.t/\s.t<=top
 t0:top=0\/maj n (atB ss fun s=>decide (s.t=top))
 fr:∀s∈ss,∀x∈s.N,x∈L
 fq:∀q∈N,q.2.x∈L
 wy:∀s∈ss,∀x∈s.N,∀y∈s.N,now<x.e->now<y.e->x.h≠y.h->(onl x.l y.l&& !(x.sh&&y.sh))=false
theorem ze0{L:List Nt}(h:L.Pairwise fun a b=>a.n<b.n){x y:Nt}(hx:x∈L)(hy:y∈L)(e:x.n=y.n):x=y:=by
 induction h with
 |nil=>cases hx
 |cons h1 _ ih=>
  rcases xo.mp hx with a|a
  .rcases xo.mp hy with b|b
   .rw[a,b]
   .have:=h1 y b
    rw[a]at e;omega
  .rcases xo.mp hy with b|b
   .have:=h1 x a
    rw[b]at e;omega
   .exact ih a b
theorem Inv13.rises{ss:List KN}{n:Nat}{N:KL}{now:Int}{L:List Nt}{top m:Int}(I:Inv13 ss n N now L top){hd lk:Str}{sh:Bool}(h:¬((sayl ss n hd lk sh now).length:Int)<(n:Int)/2+1)(hT:z5d ss m):top<1+m:=by
 rcases I.t0 with e|e
 .obtain⟨⟨s,ms,-,es⟩,-⟩:=hT
  have:=(I.tp s ms).1
  omega
 .obtain⟨j,hj,p1,p2⟩:=zdz e (zfi h)
  obtain⟨s,es,hs⟩:=z95 p1
  have p3:=(x07 _ _▸p2).2
  unfold upAt at p3
  rw[es]at p3
  have:=hT.2 s (x9 es) p3
  have:=x05 hs
  omega
theorem Inv13.later{ss:List KN}{n:Nat}{N:KL}{now t:Int}{L:List Nt}{top:Int}(I:Inv13 ss n N now L top)(ht:now<=t):Inv13 ss n N t L top:=
 ⟨I.ln,I.up,I.le,I.tp,I.t0,I.fr,I.fq,fun s hs x hx y hy h1 h2=>I.wy s hs x hx y hy (by omega) (by omega)⟩
theorem zkb{a b:Str}{s t:Bool}(h:(onl a b&& !(s&&t))=false):(onl b a&& !(t&&s))=false:=by rw[zdn,Bool.and_comm t s];exact h
theorem Inv13.give{ss:List KN}{n:Nat}{N N':KL}{now:Int}{L:List Nt}{top m:Int}(I:Inv13 ss n N now L top){hd lk:Str}{sh:Bool}{e:Int}(h:¬((sayl ss n hd lk sh now).length:Int)<(n:Int)/2+1)(hT:z5d ss m)(eN:N'.map (·.2)=z4m (N.map (·.2)) now (sayl ss n hd lk sh now) ⟨1+m,hd,lk,sh,e⟩):
  Inv13 (z1x ss (sayl ss n hd lk sh now) ⟨1+m,hd,lk,sh,e⟩) n N' now (L++[⟨1+m,hd,lk,sh,e⟩]) (1+m):=by
 have hr:=I.rises h hT
 have M:=zfi h
 have get:∀j,(z1x ss (sayl ss n hd lk sh now) ⟨1+m,hd,lk,sh,e⟩)[j]? =(ss[j]?).map fun s=>if j∈sayl ss n hd lk sh now then⟨s.u,1+m,z2u hd lk s.N++[⟨1+m,hd,lk,sh,e⟩]⟩ else s:=fun j=>by
  unfold z1x
  rw[x06]
 have mem:∀j,j<n->(frAt ss hd lk sh now j&&upAt ss j)=true->j∈sayl ss n hd lk sh now:=fun j hj hq=>by
  rw[zfh]
  exact xi.mpr ⟨x0s.mpr hj,hq⟩
 have cs:∀s'∈z1x ss (sayl ss n hd lk sh now) ⟨1+m,hd,lk,sh,e⟩,∃s∈ss,s'=s\/(z6l s.N hd lk sh now=true/\s'=⟨s.u,1+m,z2u hd lk s.N++[⟨1+m,hd,lk,sh,e⟩]⟩):=fun s' ms=>by
  obtain⟨j,hj⟩:=x1d ms
  rw[get]at hj
  cases es:ss[j]? with
  |none=>rw[es]at hj;cases hj
  |some s=>
   rw[es]at hj
   have:=xq hj
   dsimp only at this
   refine⟨s,x9 es,?_⟩
   by_cases c:j∈sayl ss n hd lk sh now
   .rw[if_pos c]at this
    have f:=(xi.mp c).2
    unfold frAt at f
    rw[es]at f
    exact .inr ⟨f,this.symm⟩
   .rw[if_neg c]at this;exact .inl this.symm
 have hm0:0<=m:=by
  obtain⟨⟨s,ms,-,es⟩,-⟩:=hT
  have:=(I.tp s ms).1
  omega
 have som:∀j,j<n->∃s,ss[j]? =some s:=fun j hj=>⟨_,x6 (by rw[I.ln];exact hj)⟩
 refine⟨by unfold z1x;rw[List.length_mapIdx];exact I.ln,?_,fun x hx=>?_,fun s' ms=>?_,.inr ?_,fun s' ms x hx=>?_,fun q hq=>?_,fun s' ms x hx y hy h1 h2 hn=>?_⟩
 .rw[List.pairwise_append]
  refine⟨I.up,List.pairwise_singleton _ _,fun a ha b hb=>?_⟩
  rw[xm.mp hb]
  have:=I.le a ha
  show a.n<1+m
  omega
 .rcases xz.mp hx with hx|hx
  .have:=I.le x hx
   omega
  .rw[xm.mp hx]
   exact Int.le_refl _
 .obtain⟨s,hs,rfl|⟨-,rfl⟩⟩:=cs s' ms
  .have:=I.tp _ hs
   omega
  .show 0<=1+m/\1+m<=1+m
   omega
 .refine z96 M fun j hj hq=>?_
  obtain⟨s,es⟩:=som j hj
  unfold atB
  rw[get,es,Option.map_some,if_pos (mem j hj hq)]
  exact xx rfl
 .obtain⟨s,hs,rfl|⟨-,rfl⟩⟩:=cs s' ms
  .exact x0t _ (I.fr _ hs x hx)
  .rcases xz.mp hx with hx|hx
   .exact x0t _ (I.fr _ hs x (xi.mp hx).1)
   .exact x01 _ hx
 .have hq2:q.2∈N'.map (·.2):=x13 hq
  rw[eN]at hq2
  unfold z4m at hq2
  rcases xz.mp hq2 with z|z
  .obtain⟨y,hy,ey⟩:=xw.mp (xi.mp z).1
   rw[<-ey]
   exact x0t _ (I.fq y hy)
  .obtain⟨k',hk',ek⟩:=xw.mp z
   rw[<-ek]
   exact x01 _ (xm.mpr rfl)
 .obtain⟨s,hs,rfl|⟨f,rfl⟩⟩:=cs s' ms
  .exact I.wy _ hs x hx y hy h1 h2 hn
  .unfold z6l at f
   simp only[Bool.not_eq_true',List.any_eq_false]at f
   have key:∀y∈s.N,now<y.e->y.h≠hd->(onl lk y.l&& !(sh&&y.sh))=false:=fun y hy h2 hn=>by
    have:=f y (xi.mpr ⟨hy,xx h2⟩)
    unfold z2x at this
    rw[xx hn,Bool.true_and,Bool.not_eq_true]at this
    exact this
   rcases xz.mp hx with hx|hx
   .have mx:=(xi.mp hx).1
    rcases xz.mp hy with hy|hy
    .exact I.wy _ hs x mx y (xi.mp hy).1 h1 h2 hn
    .have ey:=xm.mp hy
     subst ey
     exact zkb (key x mx h1 hn)
   .have ex:=xm.mp hx
    subst ex
    rcases xz.mp hy with hy|hy
    .exact key y (xi.mp hy).1 h2 (fun z=>hn z.symm)
    .have ey:=xm.mp hy
     subst ey
     exact absurd rfl hn
theorem Inv13.drop{ss:List KN}{n:Nat}{N N':KL}{now:Int}{L:List Nt}{top:Int}(I:Inv13 ss n N now L top)(num tick:Int)(hN:∀q∈N',q∈N):Inv13 (z1y ss (upl ss n) num tick) n N' now L top:=by
 have get:∀j,(z1y ss (upl ss n) num tick)[j]? =(ss[j]?).map fun s=>if j∈upl ss n then z20 num tick s else s:=fun j=>by
  unfold z1y
  rw[x06]
 have du:∀s:KN,(z20 num tick s).t=s.t:=fun s=>by unfold z20;split<;>rfl
 have ds':∀(s:KN)(x:Nt),x∈(z20 num tick s).N->x∈s.N:=fun s x hx=>by
  unfold z20 at hx
  split at hx
  .exact(xi.mp hx).1
  .exact hx
 have cs:∀s'∈z1y ss (upl ss n) num tick,∃s∈ss,s'.t=s.t/\∀x∈s'.N,x∈s.N:=fun s' ms=>by
  obtain⟨j,hj⟩:=x1d ms
  rw[get]at hj
  cases es:ss[j]? with
  |none=>rw[es]at hj;cases hj
  |some s=>
   rw[es]at hj
   have:=xq hj
   dsimp only at this
   refine⟨s,x9 es,?_⟩
   by_cases c:j∈upl ss n
   .rw[if_pos c]at this;rw[<-this];exact⟨du s,ds' s⟩
   .rw[if_neg c]at this;rw[<-this];exact⟨rfl,fun _ h=>h⟩
 refine⟨by unfold z1y;rw[List.length_mapIdx];exact I.ln,I.up,I.le,fun s' ms=>?_,?_,fun s' ms x hx=>?_,fun q hq=>I.fq q (hN q hq),fun s' ms x hx y hy=>?_⟩
 .obtain⟨s,hs,e,-⟩:=cs s' ms
  rw[e];exact I.tp _ hs
 .rcases I.t0 with e|e
  .exact .inl e
  .refine .inr (z96 e fun j hj hq=>?_)
   obtain⟨s,es,hs⟩:=z95 hq
   unfold atB
   rw[get,es,Option.map_some]
   dsimp only
   split
   .rw[du];exact hs
   .exact hs
 .obtain⟨s,hs,-,f⟩:=cs s' ms
  exact I.fr _ hs x (f x hx)
 .obtain⟨s,hs,-,f⟩:=cs s' ms
  exact I.wy _ hs x (f x hx) y (f y hy)
theorem Inv13.stand{ss:List KN}{n j:Nat}{s:KN}{N:KL}{now:Int}{L:List Nt}{top:Int}(I:Inv13 ss n N now L top)(hs:ss[j]? =some s)(b:Bool):Inv13 (ss.set j ⟨b,s.t,s.N⟩) n N now L top:=by
 have hl:j<ss.length:=(xg.mp hs).1
 have me:∀s'∈ss.set j ⟨b,s.t,s.N⟩,∃s0∈ss,s'.t=s0.t/\s'.N=s0.N:=fun s' ms=>by
  rcases List.mem_or_eq_of_mem_set ms with z|z
  .exact⟨s',z,rfl,rfl⟩
  .exact⟨s,x9 hs,by rw[z],by rw[z]⟩
 refine⟨by rw[List.length_set];exact I.ln,I.up,I.le,fun s' ms=>?_,?_,fun s' ms x hx=>?_,I.fq,fun s' ms x hx y hy=>?_⟩
 .obtain⟨s0,m0,e1,e2⟩:=me s' ms
  rw[e1];exact I.tp _ m0
 .refine I.t0.imp id fun e=>z96 e fun i _ hq=>?_
  obtain⟨s0,es,h0⟩:=z95 hq
  unfold atB
  by_cases e:i=j
  .subst e
   rw[x0x hl]
   rw[hs]at es
   cases es
   exact h0
  .rw[x0y (Ne.symm e),es]
   exact h0
 .obtain⟨s0,m0,e1,e2⟩:=me s' ms
  rw[e2]at hx;exact I.fr _ m0 x hx
 .obtain⟨s0,m0,e1,e2⟩:=me s' ms
  rw[e2]at hx hy;exact I.wy _ m0 x hx y hy
noncomputable def IvOk(ss:List KN)(n:Nat)(N:KL)(now:Int)(i:Nat):Prop:=∃(L:List Nt)(top:Int),L.length<=i/\Inv13 ss n N now L top
theorem IvOk.up{ss:List KN}{n:Nat}{N:KL}{now:Int}{i:Nat}(h:IvOk ss n N now i):IvOk ss n N now (i+1):=let⟨L,top,a,b⟩:=h;⟨L,top,Nat.le_succ_of_le a,b⟩
theorem IvOk.give{ss:List KN}{n:Nat}{N N':KL}{now:Int}{i:Nat}{m:Int}(h:IvOk ss n N now i){hd lk:Str}{sh:Bool}{e:Int}(hl:¬((sayl ss n hd lk sh now).length:Int)<(n:Int)/2+1)(hT:z5d ss m)(eN:N'.map (·.2)=z4m (N.map (·.2)) now (sayl ss n hd lk sh now) ⟨1+m,hd,lk,sh,e⟩):IvOk (z1x ss (sayl ss n hd lk sh now) ⟨1+m,hd,lk,sh,e⟩) n N' now (i+1):=by
 obtain⟨L,top,a,I⟩:=h
 exact⟨L++[⟨1+m,hd,lk,sh,e⟩],_,by rw[x00];exact Nat.succ_le_succ a,I.give hl hT eN⟩
theorem zkc{S:Sv}{n:Nat}(h3:S.N=[]):IvOk (z2z n) n S.N S.now 0:=by
 have hs:∀s∈z2z n,s=⟨true,0,[]⟩:=fun s hs=>List.eq_of_mem_replicate hs
 refine⟨[],0,xk _,by unfold z2z;rw[List.length_replicate],List.Pairwise.nil,fun x hx=>(by cases hx),fun s ms=>?_,.inl rfl,fun s ms x hx=>?_,fun q hq=>?_,fun s ms x hx=>?_⟩
 .rw[hs s ms];exact⟨Int.le_refl _,Int.le_refl _⟩
 .rw[hs s ms]at hx;cases hx
 .rw[h3]at hq;cases hq
 .rw[hs s ms]at hx;cases hx
theorem atI_last(xs:List V)(v:V):atI (xs++[v]) (-1)=some v:=by
 unfold atI ixN
 rw[if_neg (by decide),if_pos (by rw[x00];show-((xs.length+1:Nat):Int)<= -1;omega)]
 have e:((-1:Int)+((xs++[v]).length:Int)).toNat=xs.length:=by rw[x00];show((-1:Int)+((xs.length+1:Nat):Int)).toNat=_;omega
 rw[e]
 simp
theorem z5q(js:List Nat):∀v∈zr js,z9x v:=fun v hv=>by
 unfold zr at hv
 obtain⟨j,_,rfl⟩:=xw.mp hv
 exact .inl ⟨_,rfl⟩
theorem z4o{H:Hp}{a b:Addr}{xs:List V}{n:Nat}(h:(H a=some (.lst xs)/\H b=some (.lst xs))\/(H a=some (.tup xs)/\H b=some (.tup xs)))(hp:∀v∈xs,z9x v)(hl:xs.length<=1000):Alike H (n+1) (.ref a) (.ref b):=by
 refine .inr ⟨a,b,xs,xs,rfl,rfl,h,rfl,hl,fun i x y hx hy=>?_⟩
 rw[hx]at hy
 cases hy
 cases n with
 |zero=>exact⟨rfl,hp x (x9 hx)⟩
 |succ n=>exact .inl ⟨rfl,hp x (x9 hx)⟩
theorem zeo{ss:List KN}{sl:List Nat}{x:Nt}{i:Nat}(h:∀s∈ss,s.N.length<=i):∀s∈z1x ss sl x,s.N.length<=i+1:=fun s hs=>by
 unfold z1x at hs
 obtain⟨j,hj⟩:=x1d hs
 rw[x06]at hj
 cases e:ss[j]? with
 |none=>rw[e]at hj;cases hj
 |some s0=>
  rw[e]at hj
  have h0:=h s0 (x9 e)
  have:=xq hj
  dsimp only at this
  by_cases c:j∈sl
  .rw[if_pos c]at this
   rw[<-this]
   show(z2u x.h x.l s0.N++[x]).length<=i+1
   rw[x00]
   have:(z2u x.h x.l s0.N).length<=s0.N.length:=xj _ _
   show _+1<=_
   omega
  .rw[if_neg c]at this
   rw[<-this]
   omega
theorem CAt.butO{CC CK:Addr}{H H':Hp}{c l:Addr}{ks ls os:List Addr}{ss:List KN}(h:CAt CC CK H c l ks ls ss)(b:ButK os H H')(hos:∀x∈os,(∃xs,H x=some (.lst xs))\/∃kv,H x=some (.dK kv))(n1:l∉os)(n2:∀x∈ls,x∉os):CAt CC CK H' c l ks ls ss:=by
 have ni:∀x C dx fs,H x=some (.ins C dx fs)->x∉os:=fun x C dx fs e hx=>by
  rcases hos x hx with⟨xs,z⟩|⟨kv,z⟩
  .rw[e]at z;cases z
  .rw[e]at z;cases z
 have nt:∀x xs,H x=some (.tup xs)->x∉os:=fun x xs e hx=>by
  rcases hos x hx with⟨xs,z⟩|⟨kv,z⟩
  .rw[e]at z;cases z
  .rw[e]at z;cases z
 obtain⟨⟨dx,h1⟩,h2,h3,h4,h5,h6,h7⟩:=h
 refine⟨⟨dx,b _ _ h1 (ni _ _ _ _ h1)⟩,b _ _ h2 n1,fun i k e=>?_,h4,h5,h6,h7⟩
 obtain⟨s,l',e1,e2,⟨dx2,z⟩,L,eL,⟨dx',l2,g1,g2⟩,hn,hl⟩:=h3 i k e
 have el:l2=l':=by
  rw[z]at g1
  injection g1 with g1
  injection g1 with a b c
  exact(zdh c).symm
 subst el
 exact⟨s,l2,e1,e2,⟨dx2,b _ _ z (ni _ _ _ _ z)⟩,L,eL,⟨dx',l2,b _ _ g1 (ni _ _ _ _ g1),b _ _ g2 (n2 _ (x9 e2))⟩,⟨fun q hq=>b _ _ (hn.tu q hq) (nt _ _ (hn.tu q hq)),hn.sm⟩,hl⟩
structure Sb(S:Sv)(ss:List KN)(i:Nat):Prop where
 nN:S.N.length<=5*i
 nS:∀s∈ss,s.N.length<=i
 nC:S.C.length<=i
 nL:S.lg.length<=i
 nl:∀q∈S.N,q.2.x.l.length<=1000
theorem Sb.now{S:Sv}{ss:List KN}{i:Nat}{t:Int}(h:Sb S ss i):Sb { S with now:=t } ss i:=⟨h.nN,h.nS,h.nC,h.nL,h.nl⟩
structure Day(CC CK:Addr)(H:Hp)(c l:Addr)(ks ls:List Addr)(ss:List KN)(d:Addr)(S:Sv)(u:Su)(i:Nat):Prop where
 ca:CAt CC CK H c l ks ls ss
 st:StAt H d S u
 rl:Rel S ss u.n
 kn:ks.length=u.n
 sb:Sb S ss i
 ap:∀p∈S.lists,p≠l/\p∉ls
 iv:IvOk ss u.n S.N S.now i
theorem Day.mono{CC CK:Addr}{H H':Hp}{c l:Addr}{ks ls:List Addr}{ss:List KN}{d:Addr}{S:Sv}{u:Su}{i:Nat}(h:Day CC CK H c l ks ls ss d S u i)(s:Same H H'):Day CC CK H' c l ks ls ss d S u i:=⟨h.ca.mono s,h.st.mono s,h.rl,h.kn,h.sb,h.ap,h.iv⟩
theorem Sb.up{S:Sv}{ss:List KN}{i:Nat}(h:Sb S ss i):Sb S ss (i+1):=⟨by have:=h.nN;omega,fun s hs=>by have:=h.nS s hs;omega,by have:=h.nC;omega,by have:=h.nL;omega,h.nl⟩
theorem Day.up{CC CK:Addr}{H:Hp}{c l:Addr}{ks ls:List Addr}{ss:List KN}{d:Addr}{S:Sv}{u:Su}{i:Nat}(h:Day CC CK H c l ks ls ss d S u i):Day CC CK H c l ks ls ss d S u (i+1):=⟨h.ca,h.st,h.rl,h.kn,h.sb.up,h.ap,h.iv.up⟩
theorem Day.say{CC CK:Addr}{H:Hp}{c l:Addr}{ks ls:List Addr}{ss:List KN}{d:Addr}{S:Sv}{u:Su}{i:Nat}(h:Day CC CK H c l ks ls ss d S u i)(hok:u.ok)(hi:i<=60):SayP S u:=⟨hok,by rw[h.rl.us,x0];exact h.rl.ln,h.sb.nl,by have:=h.sb.nN;omega⟩
theorem Day.own{CC CK:Addr}{H:Hp}{c l:Addr}{ks ls:List Addr}{ss:List KN}{d:Addr}{S:Sv}{u:Su}{i:Nat}(h:Day CC CK H c l ks ls ss d S u i):(∀x∈d::S.lists,(∃xs,H x=some (.lst xs))\/∃kv,H x=some (.dK kv))/\l∉d::S.lists/\∀x∈ls,x∉d::S.lists:=by
 refine⟨fun x hx=>?_,fun hx=>?_,fun x hx hx2=>?_⟩
 .simp only[Sv.lists,xo,x0p,or_false]at hx
  rcases hx with rfl|rfl|rfl|rfl|rfl|rfl|rfl
  .exact .inr ⟨_,h.st.st⟩
  .exact .inl ⟨_,h.st.gu⟩
  .exact .inl ⟨_,h.st.gt⟩
  .exact .inl ⟨_,h.st.gn⟩
  .exact .inl ⟨_,h.st.gr⟩
  .exact .inl ⟨_,h.st.gc⟩
  .exact .inl ⟨_,h.st.gl⟩
 .rcases xo.mp hx with z|z
  .have:=h.ca.li;rw[z,h.st.st]at this;cases this
  .exact(h.ap l z).1 rfl
 .rcases xo.mp hx2 with z|z
  .obtain⟨xs,e⟩:=h.ca.lsome hx;rw[z,h.st.st]at e;cases e
  .exact(h.ap x z).2 hx
theorem StAt.setU{H:Hp}{d:Addr}{S:Sv}{u:Su}(h:StAt H d S u)(j:Nat)(b:Bool):StAt (upd H S.pu (.lst ((S.us.set j b).map V.bl))) d { S with us:=S.us.set j b } u:=by
 have nl:=h.nd
 simp only[Sv.lists,List.nodup_cons,xo,x0p,or_false,not_or]at nl
 obtain⟨⟨x1,x2,x3,x4,x5⟩,-⟩:=nl
 have T:∀a xs,H a=some (.tup xs)->upd H S.pu (.lst ((S.us.set j b).map V.bl)) a=some (.tup xs):=fun a xs e=>by rw[zb (fun z=>by rw[z,h.gu]at e;cases e)];exact e
 have L:∀a xs,H a=some (.lst xs)->a≠S.pu->upd H S.pu (.lst ((S.us.set j b).map V.bl)) a=some (.lst xs):=fun a xs e ne=>by rw[zb ne];exact e
 have nu:∀x∈u.lists,x≠S.pu:=fun x hx e=>h.sd S.pu (by simp[Sv.lists]) (e▸hx)
 exact⟨by rw[zb (fun z=>by have:=h.st;rw[z,h.gu]at this;cases this)];exact h.st,⟨T _ _ h.su.tu,L _ _ h.su.gh (nu _ (by simp[Su.lists])),L _ _ h.su.gl (nu _ (by simp[Su.lists])),L _ _ h.su.gc (nu _ (by simp[Su.lists])),L _ _ h.su.gt (nu _ (by simp[Su.lists]))⟩,z8,L _ _ h.gt (Ne.symm x1),L _ _ h.gn (Ne.symm x2),fun q hq=>T _ _ (h.kn q hq),L _ _ h.gr (Ne.symm x3),L _ _ h.gc (Ne.symm x4),fun q hq=>T _ _ (h.kc q hq),L _ _ h.gl (Ne.symm x5),h.nd,h.sd⟩
theorem StAt.setN{H:Hp}{d:Addr}{S:Sv}{u:Su}(h:StAt H d S u)(t:Int):StAt (upd H d (.dK (stw { S with now:=t }))) d { S with now:=t } u:=by
 have T:∀a xs,H a=some (.tup xs)->upd H d (.dK (stw { S with now:=t })) a=some (.tup xs):=fun a xs e=>by rw[zb (fun z=>by rw[z,h.st]at e;cases e)];exact e
 have L:∀a xs,H a=some (.lst xs)->upd H d (.dK (stw { S with now:=t })) a=some (.lst xs):=fun a xs e=>by rw[zb (fun z=>by rw[z,h.st]at e;cases e)];exact e
 exact⟨z8,⟨T _ _ h.su.tu,L _ _ h.su.gh,L _ _ h.su.gl,L _ _ h.su.gc,L _ _ h.su.gt⟩,L _ _ h.gu,L _ _ h.gt,L _ _ h.gn,fun q hq=>T _ _ (h.kn q hq),L _ _ h.gr,L _ _ h.gc,fun q hq=>T _ _ (h.kc q hq),L _ _ h.gl,h.nd,h.sd⟩
theorem zlh(p:Int)(hp:1<=p)(j:Int)(h0:0<=j)(h4:j<4):∃t:Int,atI [V.int 1,V.int 2,V.int 5,V.int p] j=some (.int t)/\1<=t:=by
 obtain⟨n,rfl⟩:=x0v h0
 match n,h4 with
 |0,_=>exact⟨1,zc rfl,by decide⟩
 |1,_=>exact⟨2,zc rfl,by decide⟩
 |2,_=>exact⟨5,zc rfl,by decide⟩
 |3,_=>exact⟨p,zc rfl,hp⟩
theorem zep{ss:List KN}{js:List Nat}{num tick:Int}{i:Nat}(h:∀s∈ss,s.N.length<=i):∀s∈z1y ss js num tick,s.N.length<=i:=fun s hs=>by
 unfold z1y at hs
 obtain⟨j,hj⟩:=x1d hs
 rw[x06]at hj
 cases e:ss[j]? with
 |none=>rw[e]at hj;cases hj
 |some s0=>
  rw[e]at hj
  have h0:=h s0 (x9 e)
  have:=xq hj
  dsimp only at this
  by_cases c:j∈js
  .rw[if_pos c]at this
   rw[<-this]
   unfold z20
   split
   .exact xp (xj _ _) h0
   .exact h0
  .rw[if_neg c]at this
   rw[<-this]
   exact h0
noncomputable def zj8(CC CK:Addr):Sp:=fun vs H Q _=>∃(c l:Addr)(ks ls:List Addr)(ss:List KN)(d:Addr)(S:Sv)(u:Su)(i:Nat)(cell:Int)(k:Nat),vs=[.ref c,.ref d,.int cell,.int k]/\Day CC CK H c l ks ls ss d S u i/\u.ok/\i<=60/\
 ∀(ls':List Addr)(ss':List KN)(S':Sv)(H':Hp),Day CC CK H' c l ks ls' ss' d S' u (i+1)->S'.ps=S.ps->(∀p∈S'.lists,p∈S.lists\/H p=none)->(∀b o,H b=some o->b∉ks->b∉d::S.lists->H' b=some o)->Q (.bl true) H'
theorem z6t(F:Def K mg "_law_council_deed" z33 ["_law_council","_law_state","_law_cell","_law_k"])(T:Txt K mg y0 yb ya y6 y9 y8 y7)(yz:MHas P w K mg base (CX1 P w) 2 y0 "fall" ["self","keeper"] (spFR y0 y6 y7 false))(yx:MHas P w K mg base (CX1 P w) 2 y0 "rise" ["self","keeper"] (spFR y0 y6 y7 true))(yv:MHas P w K mg base CX0 3 y0 "drop" ["self","number","tick"] (zff y0 y6))(ye:Has P w K mg base 4 "_law_same" ["_law_found","_law_due"] (z2q 3))(y18:Has P w K mg base 1 "_law_asked" ["_law_rest","_law_k","_law_setup_here"] (zfb))(yg:Has P w K mg base 4 "_law_sayers" ["_law_state","_law_asking"] (za0 K))(y1b:Has P w K mg base 5 "_law_free" ["_law_state","_law_asking"] (zfc K))(y19:Has P w K mg base 5 "_law_give" ["_law_state","_law_asking"] (zfe K))(yw:Has P w K mg base 1 "_law_dropped" ["_law_state","_law_number"] (za1 K))(y17:Has P w K mg base 8 "_law_given" ["_law_council","_law_asking","_law_tick"] (zfg y0 y6)):Has P w K mg base 9 "_law_council_deed" ["_law_council","_law_state","_law_cell","_law_k"] (zj8 y0 y6):=by
 refine F.ok sc__law_council_deed (fun vs H Q E h=>?_) (fun f cdv A outer s H vs Q E hr h=>?_)
 .obtain⟨c,l,ks,ls,ss,d,S,u,i,cell,k,rfl,_⟩:=h
  rfl
 .obtain⟨c,l,ks,ls,ss,d,S,u,i,cell,k,rfl,hD,hok,hi,q⟩:=h
  have hu:=hr.units0
  have hu2:=z3n hr
  refine⟨_,(@za _ _ _ _ _ (@zk _ _ 4 _ _ _ _ sc__law_council_deed.nd rfl (Or.inl rfl) (@zx _ _ _ _ _ _ hu2 (pv 1) zl (fun _ _=>rfl)) rfl (Or.inr rfl)) (@za _ _ _ _ _ (@zk _ _ 5 _ _ _ _ sc__law_council_deed.nd rfl (Or.inl rfl) (@zg _ _ _ _ _ _ _ _ z1a (pv 2) z7) rfl (Or.inr rfl)) (@za _ _ _ _ _ (@z11 _ _ _ _ _ _ _ _ (@zo _ _ _ _ _ _ _ _ z7y (@zg _ _ _ _ _ _ _ _ z14 (pv 2) z7) z7 (zm _)) (@za _ _ _ _ _ (@zk _ _ 6 _ _ _ _ sc__law_council_deed.nd rfl (Or.inl rfl) (@zw _ _ _ _ _ _ _ _ _ _ y18 (hr.mono (by decide)) rfl (@z6 _ _ _ _ _ (pv 5) (@z6 _ _ _ _ _ (pv 3) (@z6 _ _ _ _ _ (pv 4) z9 rfl) rfl) rfl) (by decide) rfl rfl) rfl (Or.inr rfl)) (@za _ _ _ _ _ (@zk _ _ 7 _ _ _ _ sc__law_council_deed.nd rfl (Or.inl rfl) (@z1p _ _ _ _ _ (@z6 _ _ _ _ _ (@zx _ _ _ _ _ _ hu2 (pv 1) zl (fun _ _=>rfl)) (@z6 _ _ _ _ _ (@zi _ _ _ _ _ _ _ ix_tup (pv 6) z7 (fun _ _=>rfl)) (@z6 _ _ _ _ _ (@zi _ _ _ _ _ _ _ ix_tup (pv 6) z7 (fun _ _=>rfl)) (@z6 _ _ _ _ _ (@zi _ _ _ _ _ _ _ ix_tup (pv 6) z7 (fun _ _=>rfl)) (@z6 _ _ _ _ _ (@zi _ _ _ _ _ _ _ ix_tup (pv 6) z7 (fun _ _=>rfl)) z9 rfl) rfl) rfl) rfl) rfl)) rfl (Or.inr rfl)) (@za _ _ _ _ _ (@zk _ _ 8 _ _ _ _ sc__law_council_deed.nd rfl (Or.inl rfl) (@zw _ _ _ _ _ _ _ _ _ _ y17 (hr.mono (by decide)) rfl (@z6 _ _ _ _ _ (pv 0) (@z6 _ _ _ _ _ (pv 7) (@z6 _ _ _ _ _ (@zx _ _ _ _ _ _ hu2 (pv 1) zl (fun _ _=>rfl)) z9 rfl) rfl) rfl) (by decide) rfl rfl) rfl (Or.inr rfl)) (@za _ _ _ _ _ (@z11 _ _ _ _ _ _ _ _ (@z3l _ _ _ _ (@z1i _ _ _ (@zw _ _ _ _ _ _ _ _ _ _ y1b (hr.mono (by decide)) rfl (@z6 _ _ _ _ _ (pv 1) (@z6 _ _ _ _ _ (pv 7) z9 rfl) rfl) (by decide) rfl rfl) (by intro _;rfl))) (@zd _ _ _ (@zn _ _ _ _ (@zw _ _ _ _ _ _ _ _ _ _ ye (hr.mono (by decide)) rfl (@z6 _ _ _ _ _ (pv 8) (@z6 _ _ _ _ _ (@z1p _ _ _ _ _ (@z6 _ _ _ _ _ zl z9 rfl)) z9 rfl) rfl) (by decide) rfl rfl))) zp) (@za _ _ _ _ _ (@zk _ _ 9 _ _ _ _ sc__law_council_deed.nd rfl (Or.inl rfl) (@zw _ _ _ _ _ _ _ _ _ _ yg (hr.mono (by decide)) rfl (@z6 _ _ _ _ _ (pv 1) (@z6 _ _ _ _ _ (pv 7) z9 rfl) rfl) (by decide) rfl rfl) rfl (Or.inr rfl)) (@za _ _ _ _ _ (@z1h _ _ _ _ (@zw _ _ _ _ _ _ _ _ _ _ y19 (hr.mono (by decide)) rfl (@z6 _ _ _ _ _ (pv 1) (@z6 _ _ _ _ _ (pv 7) z9 rfl) rfl) (by decide) rfl rfl) rfl) (@zd _ _ _ (@zn _ _ _ _ (@zw _ _ _ _ _ _ _ _ _ _ ye (hr.mono (by decide)) rfl (@z6 _ _ _ _ _ (pv 8) (@z6 _ _ _ _ _ (@z1p _ _ _ _ _ (@z6 _ _ _ _ _ (@zi _ _ _ _ _ _ _ ix_tup (@zi _ _ _ _ _ _ _ ix_list (@zx _ _ _ _ _ _ hu2 (pv 1) zl (fun _ _=>rfl)) (@zkh _ _ _ _ _ _ zhh z7) (fun _ _=>rfl)) z7 (fun _ _=>rfl)) (@z6 _ _ _ _ _ (pv 9) z9 rfl) rfl)) z9 rfl) rfl) (by decide) rfl rfl))))))))) zp) (@za _ _ _ _ _ (@z11 _ _ _ _ _ _ _ _ (@zo _ _ _ _ _ _ _ _ z1f (@zg _ _ _ _ _ _ _ _ z14 (pv 2) z7) z7 (zm _)) (@za _ _ _ _ _ (@zk _ _ 10 _ _ _ _ sc__law_council_deed.nd rfl (Or.inl rfl) (@zg _ _ _ _ _ _ _ _ z14 (pv 5) (@zg _ _ _ _ _ _ _ _ z18 (@zj _ _ _ _ _ _ _ _ _ (z79 rfl) rfl T.b_max (by decide+kernel) (@z6 _ _ _ _ _ (@zx _ _ _ _ _ _ hu2 (pv 1) zl (fun _ _=>rfl)) z9 rfl) (by decide) (by decide) rfl rfl) z7)) rfl (Or.inr rfl)) (@zd _ _ _ (@zn _ _ _ _ (@zw _ _ _ _ _ _ _ _ _ _ ye (hr.mono (by decide)) rfl (@z6 _ _ _ _ _ (@z27 _ _ _ _ _ _ _ _ _ _ _ _ _ _ yv T.cl_Council (hr.mono (by decide)) (pv 0) (@z6 _ _ _ _ _ (pv 10) (@z6 _ _ _ _ _ (@zx _ _ _ _ _ _ hu2 (pv 1) zl (fun _ _=>rfl)) z9 rfl) rfl) rfl rfl rfl) (@z6 _ _ _ _ _ (@zw _ _ _ _ _ _ _ _ _ _ yw (hr.mono (by decide)) rfl (@z6 _ _ _ _ _ (pv 1) (@z6 _ _ _ _ _ (pv 10) z9 rfl) rfl) (by decide) rfl rfl) z9 rfl) rfl) (by decide) rfl rfl)))) zp) (@za _ _ _ _ _ (@z11 _ _ _ _ _ _ _ _ (@zo _ _ _ _ _ _ _ _ z7y (@zg _ _ _ _ _ _ _ _ z14 (pv 2) z7) z7 (zm _)) (@za _ _ _ _ _ (@zk _ _ 11 _ _ _ _ sc__law_council_deed.nd rfl (Or.inl rfl) (@zg _ _ _ _ _ _ _ _ z18 z7 (@zg _ _ _ _ _ _ _ _ z14 (@zg _ _ _ _ _ _ _ _ z18 (pv 5) (@zg _ _ _ _ _ _ _ _ z1a (pv 3) z7)) (@zi _ _ _ _ _ _ _ ix_tup (pv 4) z7 (fun _ _=>rfl)))) rfl (Or.inr rfl)) (@za _ _ _ _ _ (@zk _ _ 12 _ _ _ _ sc__law_council_deed.nd rfl (Or.inl rfl) (@z1n _ _ _ _ _ _ _ _ z1f (@zi _ _ _ _ _ _ _ ix_list (@zx _ _ _ _ _ _ hu2 (pv 1) zl (fun _ _=>rfl)) (@zg _ _ _ _ _ _ _ _ z2n (pv 11) z7) (fun _ _=>rfl)) (@z1n _ _ _ _ _ _ _ _ z1f (@zg _ _ _ _ _ _ _ _ z14 (pv 2) z7) z7 (zm _)) (zm _)) rfl (Or.inr rfl)) (@za _ _ _ _ _ (@zcc _ _ _ _ _ _ (@z1n _ _ _ _ _ _ _ _ z1f (@zg _ _ _ _ _ _ _ _ z14 (pv 2) z7) z7 (zm _)) (@zhc _ _ _ _ _ _ _ (@zx _ _ _ _ _ _ hu2 (pv 1) zl (fun _ _=>rfl)) (@zg _ _ _ _ _ _ _ _ z2n (pv 11) z7) zci (by intro _;rfl)) rfl rfl rfl) (@za _ _ _ _ _ (@z11 _ _ _ _ _ _ _ _ (@zo _ _ _ _ _ _ _ _ z1f (@zg _ _ _ _ _ _ _ _ z14 (pv 2) z7) z7 (zm _)) (@zd _ _ _ (@zn _ _ _ _ (@zw _ _ _ _ _ _ _ _ _ _ ye (hr.mono (by decide)) rfl (@z6 _ _ _ _ _ (@z27 _ _ _ _ _ _ _ _ _ _ _ _ _ _ (@MHas.never _ _ _ _ _ _ _ _ _ _ yz) T.cl_Council (hr.mono (by decide)) (pv 0) (@z6 _ _ _ _ _ (pv 11) z9 rfl) rfl rfl rfl) (@z6 _ _ _ _ _ (pv 12) z9 rfl) rfl) (by decide) rfl rfl))) zp) (@zd _ _ _ (@zn _ _ _ _ (@zw _ _ _ _ _ _ _ _ _ _ ye (hr.mono (by decide)) rfl (@z6 _ _ _ _ _ (@z27 _ _ _ _ _ _ _ _ _ _ _ _ _ _ (@MHas.never _ _ _ _ _ _ _ _ _ _ yx) T.cl_Council (hr.mono (by decide)) (pv 0) (@z6 _ _ _ _ _ (pv 11) z9 rfl) rfl rfl rfl) (@z6 _ _ _ _ _ (pv 12) z9 rfl) rfl) (by decide) rfl rfl))))))) zp) (@za _ _ _ _ _ (@z5x _ _ _ _ _ _ _ _ _ hu2 (pv 1) zl (@zg _ _ _ _ _ _ _ _ z18 (@zx _ _ _ _ _ _ hu2 (pv 1) zl (fun _ _=>rfl)) (@zi _ _ _ _ _ _ _ ix_list (@z1c _ _ _ _ (@z6 _ _ _ _ _ z7 (@z6 _ _ _ _ _ z7 (@z6 _ _ _ _ _ z7 (@z6 _ _ _ _ _ (@zg _ _ _ _ _ _ _ _ z18 z7 (@zg _ _ _ _ _ _ _ _ z14 (@zg _ _ _ _ _ _ _ _ z1a (pv 5) z7) z7)) z9 rfl) rfl) rfl) rfl)) (@zg _ _ _ _ _ _ _ _ z14 (pv 5) z7) (fun _ _=>rfl))) rfl) (@zd _ _ _ (@zn _ _ _ _ z2b)))))))),?_⟩
  walk_at "rd"
  have kn:=hD.kn
  have frm:∀H',Same H H'->∀b o,H b=some o->b∉ks->b∉d::S.lists->H' b=some o:=fun H' s b o e _ _=>s b o e
  refine⟨_,z6r hD.st.st,cdiv (by decide) (by decide),by decide,ite2 (fun c1=>?_) (fun c1=>⟨by decide,ite2 (fun c2=>?_) (fun c2=>⟨by decide,ite2 (fun c3=>?_) (fun c3=>?_)⟩)⟩)⟩
  .refine⟨_,_,S.ps,u,rfl,hD.st.su,hok,fun pe hd lk sh tm H1 mhd mlk t1 t2 ge s1=>?_⟩
   have D1:=hD.mono s1
   refine⟨_,z30 D1.st.st,_,_,_,_,rfl,rfl,SqT.of ge,zc (j:=1) rfl,_,_,_,_,rfl,rfl,SqT.of ge,zc (j:=2) rfl,_,_,_,_,rfl,rfl,SqT.of ge,zc (j:=3) rfl,_,_,_,_,rfl,rfl,SqT.of ge,zc (j:=4) rfl,zf (by decide),fun pa hpa=>?_⟩
   have s2:=s1.trans (Same.upd (o:=.tup [V.int S.now,V.str hd,V.str lk,V.bl sh,V.int tm]) hpa)
   have D2:=D1.mono (Same.upd (o:=.tup [V.int S.now,V.str hd,V.str lk,V.bl sh,V.int tm]) hpa)
   have ga:upd H1 pa (.tup [V.int S.now,V.str hd,V.str lk,V.bl sh,V.int tm]) pa=some (.tup [V.int S.now,V.str hd,V.str lk,V.bl sh,V.int tm]):=z8
   generalize upd H1 pa _=H2 at s2 D2 ga⊢
   have hsm:z6q ss:=fun s hs=>by have:=hD.sb.nS s hs;omega
   have hdl:=hok.hl hd mhd
   have lkl:=hok.ll lk mlk
   have eS:=hD.rl.say hd lk sh
   refine⟨_,z30 D2.st.st,?_⟩
   refine⟨c,pa,l,ks,ls,ss,S.now,hd,lk,sh,S.now,tm,rfl,ga,D2.ca,hsm,by omega,by omega,fun hlt r H3 gr s3=>?_,fun hlt m hm r pb ls' H3 lo hc3 gr gb hr0 hb0 bk=>?_⟩
   .have D3:=D2.mono s3
    refine⟨d,pa,S,u,S.now,hd,lk,sh,tm,rfl,D3.st,s3 _ _ ga,by omega,D3.say hok hi,fun H4 s4=>⟨_,rfl,?_⟩⟩
    rw[kn,<-eS]at hlt
    rw[if_pos (by simp;omega)]
    refine⟨zf (by decide),fun pr hpr=>⟨_,_,rfl,?_,fun H6 s6=>?_⟩⟩
    .exact z4o (.inr ⟨Same.upd hpr _ _ (s4 _ _ gr),z8⟩) (fun v hv=>by rw[xm.mp hv];exact .inr (.inl ⟨_,rfl⟩)) (by decide)
    .have sE:=(s4.trans (Same.upd (o:=.tup [V.str "refused"]) hpr)).trans s6
     exact q ls ss S H6 (D3.mono sE).up rfl (fun p hp=>.inl hp) (frm _ (s2.trans (s3.trans sE)))
   .have st3:=D2.st.butK D2.ca bk
    have tk:∀b xs,H2 b=some (.tup xs)->H3 b=some (.tup xs):=fun b xs e=>bk _ _ e fun hb=>by obtain⟨dx,fs,z⟩:=D2.ca.mem hb;rw[e]at z;cases z
    have ga3:=tk _ _ ga
    have sP:=D2.say hok hi
    refine⟨d,pa,S,u,S.now,hd,lk,sh,tm,rfl,st3,ga3,by omega,sP,fun H4 s4=>⟨_,rfl,?_⟩⟩
    rw[kn]at hlt hc3 gb
    rw[<-eS]at hlt gb
    rw[if_neg (by simp;omega)]
    refine⟨d,pa,S,u,S.now,hd,lk,sh,tm,rfl,st3.mono s4,s4 _ _ ga3,by omega,sP,fun r7 H5 hr7 gr7 s5=>?_⟩
    have s35:=s4.trans s5
    have st5:=st3.mono s35
    have n1:=hok.n1
    have hn5:=hok.n5
    have nN:=hD.sb.nN
    have nC:=hD.sb.nC
    have nL:=hD.sb.nL
    have tsl:S.ts.length=u.n:=by rw[hD.rl.ts,x0];exact hD.rl.ln
    have sll:(sayL S hd lk sh).length<=5:=by have:=zdv S hd lk sh;have:=sP.2.1;omega
    refine⟨d,pa,S,u,S.now,hd,lk,sh,tm,rfl,st5,s35 _ _ ga3,by omega,sP,tsl,fun e=>?_,by omega,by omega,fun m' S' H6 pg pb2 hT' st6 e1 e2 e3 e4 e5 e6 e7 g6 l6 b6=>?_⟩
    .rw[e]at hlt
     simp at hlt
     omega
    have em:m'=m:=hD.rl.top hT' hm
    subst em
    obtain⟨ho,hol,hols⟩:=D2.own
    have ownS:∀x∈own d S,x∈d::S.lists:=fun x hx=>by
     simp only[own,Sv.lists,xo,x0p,or_false]at hx⊢
     rcases hx with h|h|h|h|h<;>simp[h]
    have nown:∀b,H2 b=none->b∉own d S:=fun b e hb=>by
     rcases ho b (ownS b hb) with⟨xs,z⟩|⟨kv,z⟩
     .rw[e]at z;cases z
     .rw[e]at z;cases z
    have town:∀b xs,H2 b=some (.tup xs)->b∉own d S:=fun b xs e hb=>by
     rcases ho b (ownS b hb) with⟨xs,z⟩|⟨kv,z⟩
     .rw[e]at z;cases z
     .rw[e]at z;cases z
    have gr6:=b6 _ _ (s35 _ _ gr) (nown r hr0)
    have gb6:=b6 _ _ (s35 _ _ gb) (nown pb hb0)
    have st3o:∀x∈own d S,∃o,H3 x=some o:=fun x hx=>by
     simp only[own,xo,x0p,or_false]at hx
     rcases hx with rfl|rfl|rfl|rfl|rfl
     .exact⟨_,st3.st⟩
     .exact⟨_,st3.gu⟩
     .exact⟨_,st3.gt⟩
     .exact⟨_,st3.gc⟩
     .exact⟨_,st3.gl⟩
    have n7:r7∉own d S:=fun hb=>by
     obtain⟨o,z⟩:=st3o r7 hb
     rw[s4 _ _ z]at hr7;cases hr7
    have gr76:=b6 _ _ gr7 n7
    have q6:=zj0 st6.st
    refine⟨_,q6,_,_,_,_,rfl,rfl,SqL.of st6.gl,by rw[e7];exact atI_last _ _,_,_,_,_,rfl,rfl,SqT.of g6,zc (j:=5) rfl,zf (by decide),fun pd hpd=>⟨_,_,rfl,?_,fun H8 s8=>?_⟩⟩
    .have sd:=Same.upd (o:=.tup [V.int (1+m'),V.ref r7]) hpd
     refine .inr ⟨r,pd,_,_,rfl,rfl,.inr ⟨sd _ _ gr6,z8⟩,rfl,(show 2<=1000 by decide),fun j x y hx hy=>?_⟩
     match j,hx,hy with
     |0,hx,hy=>cases hx;cases hy;exact .inl ⟨rfl,.inl ⟨_,rfl⟩⟩
     |1,hx,hy=>
      cases hx;cases hy
      exact z4o (.inl ⟨sd _ _ gb6,sd _ _ gr76⟩) (z5q _) (by rw[z1s];omega)
     |j+2,hx,hy=>cases hx
    .have s68:=(Same.upd (o:=.tup [V.int (1+m'),V.ref r7]) hpd).trans s8
     have nls:∀x∈ls',x∉d::S.lists:=fun x hx hx2=>by
      rcases lo x hx with z|z
      .exact hols x z hx2
      .rcases ho x hx2 with⟨xs,y⟩|⟨kv,y⟩
       .rw[z]at y;cases y
       .rw[z]at y;cases y
     have hos3:∀x∈own d S,(∃xs,H5 x=some (.lst xs))\/∃kv,H5 x=some (.dK kv):=fun x hx=>by
      simp only[own,xo,x0p,or_false]at hx
      rcases hx with rfl|rfl|rfl|rfl|rfl
      .exact .inr ⟨_,st5.st⟩
      .exact .inl ⟨_,st5.gu⟩
      .exact .inl ⟨_,st5.gt⟩
      .exact .inl ⟨_,st5.gc⟩
      .exact .inl ⟨_,st5.gl⟩
     have hc5:=hc3.mono s35
     have hc6:=hc5.butO b6 hos3 (fun h=>hol (ownS _ h)) (fun x hx h=>nls x hx (ownS _ h))
     refine q ls' _ S' H8 ⟨hc6.mono s68,st6.mono s68,hD.rl.give t1 hm e1 e3 e4 e5,kn,⟨?_,zeo hD.sb.nS,?_,?_,?_⟩,fun p hp=>?_,by rw[eS]at hlt e5;rw[e1];exact hD.iv.give hlt hm e5⟩ e2 (fun p hp=>?_) fun b o e nk nd=>?_
     .have:=x0u List.length e5
      rw[x0]at this
      unfold z4m at this
      rw[x00,x0]at this
      dsimp only at this
      have h1:=xj (z24 S.now (sayL S hd lk sh) hd lk) (S.N.map (·.2))
      rw[x0]at h1
      omega
     .omega
     .rw[e7,x00]
      show _+1<=_
      omega
     .intro x hx
      have hx2:x.2∈S'.N.map (·.2):=x13 hx
      rw[e5]at hx2
      unfold z4m at hx2
      rcases xz.mp hx2 with z|z
      .obtain⟨y,hy,ey⟩:=xw.mp (xi.mp z).1
       rw[<-ey]
       exact hD.sb.nl y hy
      .obtain⟨k',hk',ek⟩:=xw.mp z
       rw[<-ek]
       show lk.length<=1000
       omega
     .rcases l6 p hp with z|z
      .exact⟨(hD.ap p z).1,fun h=>nls p h (x09 _ z)⟩
      .refine⟨fun e=>?_,fun h=>?_⟩
       .rw[e,hc5.li]at z;cases z
       .obtain⟨xs,y⟩:=hc5.lsome h
        rw[z]at y;cases y
     .rcases l6 p hp with z|z
      .exact .inl z
      .right
       have z3:=zu s35 z
       cases eH:H p with
       |none=>rfl
       |some o=>
        exfalso
        by_cases nk:p∈ks
        .obtain⟨dx,fs,y⟩:=hc3.mem nk
         rw[z3]at y;cases y
        .rw[bk _ _ (s2 _ _ eH) nk]at z3;cases z3
     .exact s68 _ _ (b6 _ _ (s35 _ _ (bk _ _ (s2 _ _ e) nk)) fun h=>nd (ownS _ h))
  .have n1:=hok.n1
   have n5:=hok.n5
   have tsl:S.ts.length=u.n:=by rw[hD.rl.ts,x0];exact hD.rl.ln
   refine⟨_,zas hD.st.st,_,rfl,S.ts,SqL.of hD.st.gt,(fun e=>by rw[e]at tsl;simp at tsl;omega),fun m hm _=>?_⟩
   have hm0:0<=m:=by
    rw[hD.rl.ts]at hm
    obtain⟨s,hs,rfl⟩:=xw.mp hm
    exact(hD.rl.pw s hs).2.2
   obtain⟨dx,hob⟩:=hD.ca.ob
   refine⟨by omega,_,_,hob,z2l _ _ (by decide+kernel) (by decide+kernel),_,z30 hD.st.st,?_⟩
   generalize cell/8%(m+2)=num
   have hsm:z6q ss:=fun s hs=>by have:=hD.sb.nS s hs;omega
   refine⟨c,l,ks,ls,ss,num,S.now,rfl,hD.ca,hsm,fun r ls' H1 lo hc1 hr0 gr bk=>?_⟩
   rw[kn]at hc1 gr
   have st1:=hD.st.butK hD.ca bk
   have h64:(S.N.filter fun q=>isDr num S.now S.us q.2).length<64:=by
    have:=(hD.rl.dr_perm num).length_eq
    rw[x0]at this
    have h1:=xj (drAt ss num S.now) (upl ss u.n)
    have h2:=z46 ss u.n
    omega
   refine⟨d,S,u,num,rfl,st1,hD.say hok hi,hD.rl.kb,h64,fun r2 pn ks2 H2 hp hs gr2 st2 hpn hr2 b2=>?_⟩
   rw[hD.rl.dropped num hp hs]at gr2
   have nrd:r∉[d]:=fun h=>by rw[xm.mp h,hD.st.st]at hr0;cases hr0
   have gr3:=b2 _ _ gr nrd
   refine⟨_,_,rfl,z4o (.inl ⟨gr3,gr2⟩) (z5q _) ?_,fun H3 s3=>?_⟩
   .rw[z1s]
    have h1:=xj (drAt ss num S.now) (upl ss u.n)
    have h2:=z46 ss u.n
    omega
   have hl1:∀x∈ls',x∉[d]:=fun x hx h=>by
    obtain⟨xs,z⟩:=hc1.lsome hx
    rw[xm.mp h,st1.st]at z;cases z
   have hc2:=hc1.butO b2 (fun x hx=>.inr (by rw[xm.mp hx];exact⟨_,st1.st⟩)) (fun h=>by have:=hc1.li;rw[xm.mp h,st1.st]at this;cases this) hl1
   obtain⟨ho,hol,hols⟩:=hD.own
   have nls:∀x∈ls',x∉d::S.lists:=fun x hx hx2=>by
    rcases lo x hx with z|z
    .exact hols x z hx2
    .rcases ho x hx2 with⟨xs,y⟩|⟨kv,y⟩
     .rw[z]at y;cases y
     .rw[z]at y;cases y
   have dom1:H pn=none:=by
    cases eH:H pn with
    |none=>rfl
    |some o=>
     exfalso
     by_cases nk:pn∈ks
     .obtain⟨dx,fs,y⟩:=hc1.mem nk
      rw[hpn]at y;cases y
     .rw[bk _ _ eH nk]at hpn;cases hpn
   have lmem:∀p∈({ S with pn:=pn,N:=S.N.filter fun q=>!isDr num S.now S.us q.2 }:Sv).lists,p∈S.lists\/p=pn:=fun p hp=>by
    have hp2:p∈[S.pu,S.pt,pn,S.pr,S.pc,S.pl]:=hp
    simp only[xo,x0p,or_false]at hp2
    rcases hp2 with h|h|h|h|h|h
    .exact .inl (by simp[Sv.lists,h])
    .exact .inl (by simp[Sv.lists,h])
    .exact .inr h
    .exact .inl (by simp[Sv.lists,h])
    .exact .inl (by simp[Sv.lists,h])
    .exact .inl (by simp[Sv.lists,h])
   refine q ls' _ { S with pn:=pn,N:=S.N.filter fun q=>!isDr num S.now S.us q.2 } H3 ⟨hc2.mono s3,st2.mono s3,hD.rl.drop num pn,kn,⟨?_,fun s hs=>?_,?_,?_,fun x hx=>hD.sb.nl x (xi.mp hx).1⟩,fun p hp=>?_,by obtain⟨L,top,hl,I⟩:=hD.iv;exact⟨L,top,Nat.le_succ_of_le hl,I.drop num S.now fun q hq=>(xi.mp hq).1⟩⟩ rfl (fun p hp=>?_) fun b o e nk nd=>?_
   .have:=hD.sb.nN
    have h1:(S.N.filter fun q=>!isDr num S.now S.us q.2).length<=S.N.length:=xj _ _
    show(S.N.filter fun q=>!isDr num S.now S.us q.2).length<=_
    omega
   .have:=zep hD.sb.nS s hs
    omega
   .have:=hD.sb.nC
    show S.C.length<=_
    omega
   .have:=hD.sb.nL
    show S.lg.length<=_
    omega
   .rcases lmem p hp with z|z
    .exact⟨(hD.ap p z).1,fun h=>nls p h (x09 _ z)⟩
    .rw[z]
     refine⟨fun e=>?_,fun h=>?_⟩
     .rw[e,hc1.li]at hpn;cases hpn
     .obtain⟨xs,y⟩:=hc1.lsome h
      rw[hpn]at y;cases y
   .rcases lmem p hp with z|z
    .exact .inl z
    .rw[z];exact .inr dom1
   .exact s3 _ _ (b2 _ _ (bk _ _ e nk) fun h=>nd (by rw[xm.mp h];exact x0c ..))
  .have n1:=hok.n1
   have usl:S.us.length=u.n:=by rw[hD.rl.us,x0];exact hD.rl.ln
   have h0:0<=(cell/8+(k:Int)/2)%(u.n:Int):=Int.emod_nonneg _ (by omega)
   have h1:(cell/8+(k:Int)/2)%(u.n:Int)<(u.n:Int):=Int.emod_lt_of_pos _ (by omega)
   refine⟨cdiv (by decide) (by decide),_,_,_,_,rfl,rfl,SqT.of hD.st.su.tu,zc (j:=0) rfl,_,rfl,by omega,_,z7v hD.st.st,?_⟩
   generalize(cell/8+(k:Int)/2)%(u.n:Int)=ji at h0 h1⊢
   obtain⟨j,rfl⟩:=x0v h0
   rw[show(1:Int)+(j:Int)-1=(j:Int) by omega]
   have hj:j<S.us.length:=by omega
   have hjs:j<ss.length:=by rw[hD.rl.ln];omega
   have hsj:ss[j]? =some ss[j]:=x6 hjs
   have gb:(S.us.map V.bl)[j]? =some (.bl ss[j].u):=by rw[hD.rl.us,List.map_map,xc,hsj];rfl
   refine⟨_,_,_,_,rfl,rfl,SqL.of hD.st.gu,zc gb,by decide,rfl,by decide,_,z7v hD.st.st,S.pu,_,_,j,rfl,rfl,hD.st.gu,zfd (by rw[x0];exact hj),by decide,?_⟩
   rw[<-List.map_set]
   obtain⟨ho,hol,hols⟩:=hD.own
   have pu_l:l≠S.pu:=fun e=>(hD.ap S.pu (by simp[Sv.lists])).1 e.symm
   have pu_ls:S.pu∉ls:=(hD.ap S.pu (by simp[Sv.lists])).2
   obtain⟨dx,hob⟩:=hD.ca.ob
   have fin:∀(b:Bool)(H4:Hp)(kk:Addr),ks[j]? =some kk->CAt y0 y6 H4 c l ks ls (ss.set j ⟨b,ss[j].t,ss[j].N⟩)->But kk (upd H S.pu (.lst ((S.us.set j b).map V.bl))) H4->∀H5,Same H4 H5->Q (.bl true) H5:=fun b H4 kk hk ca4 b4 H5 s5=>by
    have ca3:CAt y0 y6 (upd H S.pu (.lst ((S.us.set j b).map V.bl))) c l ks ls ss:=hD.ca.upd hD.st.gu pu_l pu_ls
    have st4:=(hD.st.setU j b).butK ca3 (ButK.but b4 (x9 hk))
    refine q ls _ { S with us:=S.us.set j b } H5 ⟨ca4.mono s5,st4.mono s5,hD.rl.stand hsj b,kn,⟨?_,fun s hs=>?_,?_,?_,hD.sb.nl⟩,hD.ap,by obtain⟨L,top,hl,I⟩:=hD.iv;exact⟨L,top,Nat.le_succ_of_le hl,I.stand hsj b⟩⟩ rfl (fun p hp=>.inl hp) fun b' o e nk nd=>?_
    .have:=hD.sb.nN
     show S.N.length<=_
     omega
    .rcases List.mem_or_eq_of_mem_set hs with z|z
     .have:=hD.sb.nS s z
      omega
     .rw[z]
      have:=hD.sb.nS ss[j] (x1b hjs)
      show ss[j].N.length<=_
      omega
    .have:=hD.sb.nC
     show S.C.length<=_
     omega
    .have:=hD.sb.nL
     show S.lg.length<=_
     omega
    .refine s5 _ _ (b4 _ _ ?_ fun z=>nk (z▸x9 hk))
     rw[zb (fun z=>nd (by rw[z];simp[Sv.lists]))]
     exact e
   have ca3:∀b:Bool,CAt y0 y6 (upd H S.pu (.lst ((S.us.set j b).map V.bl))) c l ks ls ss:=fun b=>hD.ca.upd hD.st.gu pu_l pu_ls
   have inr:¬¬(1<=(1+(j:Int))/\(1+(j:Int))<=(ks.length:Int)):=fun h=>h ⟨by omega,by omega⟩
   refine ite2 (fun c5=>?_) (fun c5=>?_)
   .have e5:cell%8=5:=x05 c5
    have e6:decide (cell%8=6)=false:=by rw[e5];decide
    rw[e6]
    obtain⟨dx3,hob3⟩:=(ca3 false).ob
    refine⟨_,_,hob3,z2l _ _ (by decide+kernel) (by decide+kernel),c,l,ks,ls,ss,_,rfl,ca3 false,fun h=>absurd h inr,fun j' kk s H4 ej hk hs ca4 b4=>?_⟩
    obtain rfl:j'=j:=by omega
    rw[hsj]at hs
    cases hs
    refine⟨_,_,rfl,.inl ⟨?_,.inr (.inr ⟨_,rfl⟩)⟩,fin false H4 kk hk ca4 b4⟩
    rw[e5]
    cases ss[j'].u<;>simp
   .have e6:cell%8=6:=by
     have a1:¬ cell%8<4:=by simpa using c1
     have a2:¬ cell%8=4:=by simpa using c2
     have a3:cell%8<7:=x05 c3
     have a5:¬ cell%8=5:=by simpa using c5
     omega
    have e6':decide (cell%8=6)=true:=xx e6
    rw[e6']
    obtain⟨dx3,hob3⟩:=(ca3 true).ob
    refine⟨_,_,hob3,z2l _ _ (by decide+kernel) (by decide+kernel),c,l,ks,ls,ss,_,rfl,ca3 true,fun h=>absurd h inr,fun j' kk s H4 ej hk hs ca4 b4=>?_⟩
    obtain rfl:j'=j:=by omega
    rw[hsj]at hs
    cases hs
    refine⟨_,_,rfl,.inl ⟨?_,.inr (.inr ⟨_,rfl⟩)⟩,fin true H4 kk hk ca4 b4⟩
    rw[e6]
    cases ss[j'].u<;>simp
  .refine⟨_,z30 hD.st.st,cdiv (by decide) (by decide),by decide,zf (by decide),fun p hp=>⟨by decide,?_⟩⟩
   obtain⟨t,et,ht⟩:=zlh (1+cell/8/4%1000) (by omega) (cell/8%4) (by omega) (by omega)
   have s1:=Same.upd (o:=.lst [V.int 1,V.int 2,V.int 5,V.int (1+cell/8/4%1000)]) hp
   have g1:upd H p (.lst [V.int 1,V.int 2,V.int 5,V.int (1+cell/8/4%1000)]) p=some (.lst [V.int 1,V.int 2,V.int 5,V.int (1+cell/8/4%1000)]):=z8
   generalize upd H p _=H1 at s1 g1⊢
   have D1:=hD.mono s1
   refine⟨_,_,_,_,rfl,rfl,SqL.of g1,et,_,rfl,_,rfl,_,zgz D1.st.st (S.now+t),?_⟩
   have b2:ButK [d] H1 (upd H1 d (.dK (stw { S with now:=S.now+t }))):=fun b o e nb=>by rw[zb (fun z=>nb (by rw[z];exact List.mem_singleton_self _))];exact e
   have hc2:=D1.ca.butO b2 (fun x hx=>.inr (by rw[xm.mp hx];exact⟨_,D1.st.st⟩)) (fun h=>by have:=D1.ca.li;rw[xm.mp h,D1.st.st]at this;cases this) (fun x hx h=>by obtain⟨xs,z⟩:=D1.ca.lsome hx;rw[xm.mp h,D1.st.st]at z;cases z)
   refine q ls ss { S with now:=S.now+t } _ ⟨hc2,D1.st.setN _,hD.rl.later (by omega),kn,hD.sb.up.now,hD.ap,by obtain⟨L,top,hl,I⟩:=hD.iv;exact⟨L,top,Nat.le_succ_of_le hl,I.later (show S.now<=S.now+t by omega)⟩⟩ rfl (fun p hp=>.inl hp) fun b o e nk nd=>b2 _ _ (s1 _ _ e) fun h=>nd (by rw[xm.mp h];exact x0c ..)
theorem zeq(F:Def K mg "_law_new" z6h ["_law_setup_here"])(T:Txt K mg y0 yb ya y6 y9 y8 y7):Has P w K mg base 1 "_law_new" ["_law_setup_here"] (zkn):=by
 refine F.ok zek (fun vs H Q E h=>?_) (fun f cdv A outer s H vs Q E hr h=>?_)
 .obtain⟨a,u,rfl,_⟩:=h
  rfl
 .obtain⟨a,u,rfl,hS,hok,q⟩:=h
  have hu:=hr.units0
  have hu2:=z3n hr
  refine⟨_,(@zd _ _ _ (@zn _ _ _ _ (@zl7 _ _ _ _ _ (@z2h _ _ _ _ _ _ _ _ _ zl z7 (@z2h _ _ _ _ _ _ _ _ _ zl (pv 0) (@z2h _ _ _ _ _ _ _ _ _ zl (@zg _ _ _ _ _ _ _ _ zhs (@z1c _ _ _ _ (@z6 _ _ _ _ _ z2b z9 rfl)) (@zi _ _ _ _ _ _ _ ix_tup (pv 0) z7 (fun _ _=>rfl))) (@z2h _ _ _ _ _ _ _ _ _ zl (@zg _ _ _ _ _ _ _ _ zhs (@z1c _ _ _ _ (@z6 _ _ _ _ _ z7 z9 rfl)) (@zi _ _ _ _ _ _ _ ix_tup (pv 0) z7 (fun _ _=>rfl))) (@z2h _ _ _ _ _ _ _ _ _ zl (@z1c _ _ _ _ z9) (@z2h _ _ _ _ _ _ _ _ _ zl (@z1c _ _ _ _ z9) (@z2h _ _ _ _ _ _ _ _ _ zl (@z1c _ _ _ _ z9) (@z2h _ _ _ _ _ _ _ _ _ zl zjr (@z2h _ _ _ _ _ _ _ _ _ zl (@z1c _ _ _ _ z9) (@z2h _ _ _ _ _ _ _ _ _ zl (@z1c _ _ _ _ z9) zl6)))))))))) rfl rfl (by simp) (by decide)))),?_⟩
  walk_at "rd"
  have n5:=hok.n5
  intro p hp
  have sa:=Same.upd (o:=.dK []) hp
  have ga:upd H p (.dK []) p=some (.dK []):=z8
  generalize upd H p (.dK [])=Ha at sa ga⊢
  refine⟨zf (by decide),fun p1 hp1=>?_⟩
  have sb:=Same.upd (o:=.lst [V.bl true]) hp1
  have gb:upd Ha p1 (.lst [V.bl true]) p1=some (.lst [V.bl true]):=z8
  generalize upd Ha p1 (.lst [V.bl true])=Hb at sb gb⊢
  have sHb:=sa.trans sb
  refine⟨_,_,_,_,rfl,rfl,SqT.of (sHb _ _ hS.tu),zc (j:=0) rfl,p1,u.n,_,rfl,rfl,gb,by omega,by omega,zf (by show 1*(u.n:Int).toNat<=1000000;omega),fun pu hpu=>?_⟩
  rw[x11,zm7]
  have sc:=Same.upd (o:=.lst ((List.replicate u.n true).map V.bl)) hpu
  have gc:upd Hb pu (.lst ((List.replicate u.n true).map V.bl)) pu=some (.lst ((List.replicate u.n true).map V.bl)):=z8
  generalize upd Hb pu (.lst ((List.replicate u.n true).map V.bl))=Hc at sc gc⊢
  have sHc:=sHb.trans sc
  refine⟨zf (by decide),fun p2 hp2=>?_⟩
  have sd:=Same.upd (o:=.lst [V.int 0]) hp2
  have gd:upd Hc p2 (.lst [V.int 0]) p2=some (.lst [V.int 0]):=z8
  generalize upd Hc p2 (.lst [V.int 0])=Hd at sd gd⊢
  have sHd:=sHc.trans sd
  refine⟨_,_,_,_,rfl,rfl,SqT.of (sHd _ _ hS.tu),zc (j:=0) rfl,p2,u.n,_,rfl,rfl,gd,by omega,by omega,zf (by show 1*(u.n:Int).toNat<=1000000;omega),fun pt hpt=>?_⟩
  rw[x11,zlf]
  have se:=Same.upd (o:=.lst ((List.replicate u.n (0:Int)).map V.int)) hpt
  have ge:upd Hd pt (.lst ((List.replicate u.n (0:Int)).map V.int)) pt=some (.lst ((List.replicate u.n (0:Int)).map V.int)):=z8
  generalize upd Hd pt (.lst ((List.replicate u.n (0:Int)).map V.int))=He at se ge⊢
  have sHe:=sHd.trans se
  refine⟨x03 _,fun p3 hp3=>?_⟩
  have sf:=Same.upd (o:=.lst []) hp3
  have gf:upd He p3 (.lst []) p3=some (.lst []):=z8
  generalize upd He p3 (.lst [])=Hf at sf gf⊢
  have sHf:=sHe.trans sf
  refine⟨x03 _,fun p4 hp4=>?_⟩
  have sg:=Same.upd (o:=.lst []) hp4
  have gg:upd Hf p4 (.lst []) p4=some (.lst []):=z8
  generalize upd Hf p4 (.lst [])=Hg at sg gg⊢
  have sHg:=sHf.trans sg
  refine⟨x03 _,fun p5 hp5=>?_⟩
  have sh:=Same.upd (o:=.lst []) hp5
  have gh:upd Hg p5 (.lst []) p5=some (.lst []):=z8
  generalize upd Hg p5 (.lst [])=Hh at sh gh⊢
  have sHh:=sHg.trans sh
  intro p6 hp6
  have si:=Same.upd (o:=.dK []) hp6
  generalize upd Hh p6 (.dK [])=Hi at si⊢
  have sHi:=sHh.trans si
  refine⟨x03 _,fun p7 hp7=>?_⟩
  have sj:=Same.upd (o:=.lst []) hp7
  generalize upd Hi p7 (.lst [])=Hj at sj⊢
  have sHj:=sHi.trans sj
  refine⟨x03 _,fun p8 hp8=>?_⟩
  have sk:=Same.upd (o:=.lst []) hp8
  have gk:upd Hj p8 (.lst []) p8=some (.lst []):=z8
  generalize upd Hj p8 (.lst [])=Hk at sk gk⊢
  have sHk:=sHj.trans sk
  have ijk:=si.trans (sj.trans sk)
  have hk':=sh.trans ijk
  have gk':=sg.trans hk'
  have fk:=sf.trans gk'
  have ek:=se.trans fk
  have ck:=sd.trans ek
  have Gp:=(sb.trans (sc.trans ck)) _ _ ga
  have Gu:=ck _ _ gc
  have Gt:=fk _ _ ge
  have G3:=gk' _ _ gf
  have G4:=hk' _ _ gg
  have G5:=ijk _ _ gh
  refine⟨Gp,[(.inr "now",.int 0),(.inr "setup",.ref a),(.inr "ups",.ref pu),(.inr "tops",.ref pt),(.inr "notes",.ref p3),(.inr "row",.ref p4),(.inr "carry",.ref p5),(.inr "sleep",.ref p6),(.inr "took",.ref p7),(.inr "log",.ref p8)],rfl,(show 10<=15 by decide),?_⟩
  have em:z5y [] [((.inr "now":Key),V.int 0),(.inr "setup",.ref a),(.inr "ups",.ref pu),(.inr "tops",.ref pt),(.inr "notes",.ref p3),(.inr "row",.ref p4),(.inr "carry",.ref p5),(.inr "sleep",.ref p6),(.inr "took",.ref p7),(.inr "log",.ref p8)]=stw ⟨0,a,pu,pt,p3,p4,p5,p6,p7,p8,List.replicate u.n true,List.replicate u.n 0,[],[],[]⟩:=by kernel_rfl
  rw[em]
  have up:∀b xs,Hk b=some (.lst xs)->upd Hk p (.dK (stw ⟨0,a,pu,pt,p3,p4,p5,p6,p7,p8,List.replicate u.n true,List.replicate u.n 0,[],[],[]⟩)) b=some (.lst xs):=fun b xs e=>by
   rw[zb (fun z=>by rw[z,Gp]at e;cases e)];exact e
  have upT:∀b xs,Hk b=some (.tup xs)->upd Hk p (.dK (stw ⟨0,a,pu,pt,p3,p4,p5,p6,p7,p8,List.replicate u.n true,List.replicate u.n 0,[],[],[]⟩)) b=some (.tup xs):=fun b xs e=>by
   rw[zb (fun z=>by rw[z,Gp]at e;cases e)];exact e
  have fr:∀x∈[pu,pt,p3,p4,p5,p8],H x=none:=fun x hx=>by
   simp only[xo,x0p,or_false]at hx
   rcases hx with rfl|rfl|rfl|rfl|rfl|rfl
   .exact zu sHb hpu
   .exact zu sHd hpt
   .exact zu sHe hp3
   .exact zu sHf hp4
   .exact zu sHg hp5
   .exact zu sHj hp8
  have Sk:SuAt Hk a u:=hS.mono sHk
  refine q p ⟨0,a,pu,pt,p3,p4,p5,p6,p7,p8,List.replicate u.n true,List.replicate u.n 0,[],[],[]⟩ _ ⟨z8,⟨upT _ _ Sk.tu,up _ _ Sk.gh,up _ _ Sk.gl,up _ _ Sk.gc,up _ _ Sk.gt⟩,up _ _ Gu,up _ _ Gt,up _ _ G3,(fun z hz=>by cases hz),up _ _ G4,up _ _ G5,(fun z hz=>by cases hz),up _ _ gk,?_,?_⟩ rfl rfl rfl rfl rfl rfl rfl hp fr ?_
  .show[pu,pt,p3,p4,p5,p8].Nodup
   have a1:pu≠pt:=ze (sd _ _ gc) hpt
   have a2:pu≠p3:=ze (se _ _ (sd _ _ gc)) hp3
   have a3:pu≠p4:=ze (sf _ _ (se _ _ (sd _ _ gc))) hp4
   have a4:pu≠p5:=ze (sg _ _ (sf _ _ (se _ _ (sd _ _ gc)))) hp5
   have jj:=(sh.trans si).trans sj
   have a5:pu≠p8:=ze (jj _ _ (sg _ _ (sf _ _ (se _ _ (sd _ _ gc))))) hp8
   have b2:pt≠p3:=ze ge hp3
   have b3:pt≠p4:=ze (sf _ _ ge) hp4
   have b4:pt≠p5:=ze (sg _ _ (sf _ _ ge)) hp5
   have b5:pt≠p8:=ze (jj _ _ (sg _ _ (sf _ _ ge))) hp8
   have c3:p3≠p4:=ze gf hp4
   have c4:p3≠p5:=ze (sg _ _ gf) hp5
   have c5:p3≠p8:=ze (jj _ _ (sg _ _ gf)) hp8
   have d4:p4≠p5:=ze gg hp5
   have d5:p4≠p8:=ze (jj _ _ gg) hp8
   have e5:p5≠p8:=ze ((si.trans sj) _ _ gh) hp8
   simp[a1,a2,a3,a4,a5,b2,b3,b4,b5,c3,c4,c5,d4,d5,e5]
  .intro x hx hx2
   have:=fr x hx
   simp only[Su.lists,xo,x0p,or_false]at hx2
   rcases hx2 with rfl|rfl|rfl|rfl
   .rw[hS.gh]at this;cases this
   .rw[hS.gl]at this;cases this
   .rw[hS.gc]at this;cases this
   .rw[hS.gt]at this;cases this
  .intro b o e
   rw[zb (ze e hp)]
   exact sHk _ _ e
theorem zc2(F:Def K mg "_law_asked" z53 ["_law_rest","_law_k","_law_setup_here"])(T:Txt K mg y0 yb ya y6 y9 y8 y7):Has P w K mg base 1 "_law_asked" ["_law_rest","_law_k","_law_setup_here"] (zfb):=by
 refine F.ok sc__law_asked (fun vs H Q E h=>?_) (fun f cdv A outer s H vs Q E hr h=>?_)
 .obtain⟨c,k,a,u,rfl,_⟩:=h
  rfl
 .obtain⟨c,k,a,u,rfl,hS,hok,q⟩:=h
  have hu:=hr.units0
  refine⟨_,(@za _ _ _ _ _ (@zk _ _ 3 _ _ _ _ sc__law_asked.nd rfl (Or.inl rfl) (@zi _ _ _ _ _ _ _ ix_list (@zi _ _ _ _ _ _ _ ix_tup (pv 2) z7 (fun _ _=>rfl)) (@zg _ _ _ _ _ _ _ _ z14 (@zg _ _ _ _ _ _ _ _ z18 (pv 0) (pv 1)) (@zj _ _ _ _ _ _ _ _ _ zq rfl T.b_len (by decide+kernel) (@z6 _ _ _ _ _ (@zi _ _ _ _ _ _ _ ix_tup (pv 2) z7 (fun _ _=>rfl)) z9 rfl) (by decide) (by decide) rfl rfl)) (fun _ _=>rfl)) rfl (Or.inr rfl)) (@za _ _ _ _ _ (@zk _ _ 0 _ _ _ _ sc__law_asked.nd rfl (Or.inl rfl) (@zg _ _ _ _ _ _ _ _ z1a (pv 0) z7) rfl (Or.inr rfl)) (@za _ _ _ _ _ (@zk _ _ 4 _ _ _ _ sc__law_asked.nd rfl (Or.inl rfl) (@zi _ _ _ _ _ _ _ ix_list (@zi _ _ _ _ _ _ _ ix_tup (pv 2) z7 (fun _ _=>rfl)) (@zg _ _ _ _ _ _ _ _ z14 (@zg _ _ _ _ _ _ _ _ z18 (pv 0) (@zg _ _ _ _ _ _ _ _ z1a (pv 1) z7)) (@zj _ _ _ _ _ _ _ _ _ zq rfl T.b_len (by decide+kernel) (@z6 _ _ _ _ _ (@zi _ _ _ _ _ _ _ ix_tup (pv 2) z7 (fun _ _=>rfl)) z9 rfl) (by decide) (by decide) rfl rfl)) (fun _ _=>rfl)) rfl (Or.inr rfl)) (@za _ _ _ _ _ (@zk _ _ 0 _ _ _ _ sc__law_asked.nd rfl (Or.inl rfl) (@zg _ _ _ _ _ _ _ _ z1a (pv 0) z7) rfl (Or.inr rfl)) (@za _ _ _ _ _ (@zk _ _ 5 _ _ _ _ sc__law_asked.nd rfl (Or.inl rfl) (@z2e _ _ _ _ _ _ _ (@z1n _ _ _ _ _ _ _ _ zb6 (pv 4) (@zi _ _ _ _ _ _ _ ix_tup (pv 2) z7 (fun _ _=>rfl)) (by with_unfolding_all rfl)) (@z2a _ _ _ _ _ (@z1n _ _ _ _ _ _ _ _ z1f (@zg _ _ _ _ _ _ _ _ z14 (@zg _ _ _ _ _ _ _ _ z18 (pv 0) (pv 1)) z7) z7 (zm _)))) rfl (Or.inr rfl)) (@za _ _ _ _ _ (@zk _ _ 0 _ _ _ _ sc__law_asked.nd rfl (Or.inl rfl) (@zg _ _ _ _ _ _ _ _ z1a (pv 0) z7) rfl (Or.inr rfl)) (@zd _ _ _ (@zn _ _ _ _ (@z1p _ _ _ _ _ (@z6 _ _ _ _ _ zl (@z6 _ _ _ _ _ (pv 3) (@z6 _ _ _ _ _ (pv 4) (@z6 _ _ _ _ _ (pv 5) (@z6 _ _ _ _ _ (@zi _ _ _ _ _ _ _ ix_list (@z1c _ _ _ _ (@z6 _ _ _ _ _ z7 (@z6 _ _ _ _ _ z7 (@z6 _ _ _ _ _ z7 (@z6 _ _ _ _ _ z7 (@z6 _ _ _ _ _ z7 (@z6 _ _ _ _ _ z7 (@z6 _ _ _ _ _ z7 (@z6 _ _ _ _ _ (@zg _ _ _ _ _ _ _ _ z18 z7 (@zg _ _ _ _ _ _ _ _ z14 (@zg _ _ _ _ _ _ _ _ z1a (pv 0) z7) z7)) z9 rfl) rfl) rfl) rfl) rfl) rfl) rfl) rfl)) (@zg _ _ _ _ _ _ _ _ z14 (@zg _ _ _ _ _ _ _ _ z18 (pv 0) (pv 1)) z7) (fun _ _=>rfl)) z9 rfl) rfl) rfl) rfl) rfl)))))))))),?_⟩
  walk_at "rd"
  refine⟨_,_,_,_,rfl,rfl,SqT.of hS.tu,zc (j:=1) rfl,?_⟩
  refine⟨_,_,_,_,rfl,rfl,SqT.of hS.tu,zc (j:=1) rfl,?_⟩
  obtain⟨hd,mhd,ahd⟩:=zdq hok.h1 (c+k)
  obtain⟨lk,mlk,alk⟩:=zdq hok.l1 (c/8+k/3)
  have h1:=hok.h1
  have l1:=hok.l1
  refine⟨_,rfl,_,.inl (SqL.of hS.gh),by rw[x0];omega,?_⟩
  rw[x0]
  refine⟨_,_,_,_,rfl,rfl,SqL.of hS.gh,ahd,cdiv (by decide) (by decide),?_⟩
  refine⟨_,_,_,_,rfl,rfl,SqT.of hS.tu,zc (j:=2) rfl,cdiv (by decide) (by decide),?_⟩
  refine⟨_,_,_,_,rfl,rfl,SqT.of hS.tu,zc (j:=2) rfl,_,rfl,_,.inl (SqL.of hS.gl),by rw[x0];omega,?_⟩
  rw[x0]
  refine⟨_,_,_,_,rfl,rfl,SqL.of hS.gl,alk,cdiv (by decide) (by decide),?_⟩
  refine⟨_,_,_,_,rfl,rfl,SqT.of hS.tu,zc (j:=3) rfl,?_⟩
  refine⟨_,_,rfl,.inl (SqL.of hS.gc),rfl,z2o _,_,rfl,?_⟩
  have fin:∀(sh:Bool),CDiv (c/8/10) 2/\CDiv (c/8/10/2) 8/\(0:Int)<1000/\8<=sizeLine/\∀(p:Addr),H p=none->(0:Int)<8/\rIxL K (V.ref p) (V.int ((c/8/10/2+k)%8)) (upd H p (.lst [V.int 5,V.int 2,V.int 30,V.int 1,V.int 9,V.int 1000,V.int 3,V.int (1+c/8/10/2/8%1000)])) fun x_6 H1=>5<=sizeLine/\∀(p:Addr),H1 p=none->Q (V.ref p) (upd H1 p (.tup [V.str (Str.ofString "ask"),V.str hd,V.str lk,V.bl sh,x_6])):=fun sh=>by
   refine⟨cdiv (by decide) (by decide),cdiv (by decide) (by decide),by decide,zf (by decide),fun p hp=>⟨by decide,?_⟩⟩
   generalize c/8/10/2=d
   obtain⟨tm,etm,t1,t2⟩:∃tm:Int,atI [V.int 5,V.int 2,V.int 30,V.int 1,V.int 9,V.int 1000,V.int 3,V.int (1+d/8%1000)] ((d+k)%8)=some (V.int tm)/\1<=tm/\tm<=1000:=by
    rcases(show(d+k)%8=0\/(d+k)%8=1\/(d+k)%8=2\/(d+k)%8=3\/(d+k)%8=4\/(d+k)%8=5\/(d+k)%8=6\/(d+k)%8=7 by omega) with e|e|e|e|e|e|e|e
    .exact⟨5,by rw[e];exact zc (j:=0) rfl,by decide,by decide⟩
    .exact⟨2,by rw[e];exact zc (j:=1) rfl,by decide,by decide⟩
    .exact⟨30,by rw[e];exact zc (j:=2) rfl,by decide,by decide⟩
    .exact⟨1,by rw[e];exact zc (j:=3) rfl,by decide,by decide⟩
    .exact⟨9,by rw[e];exact zc (j:=4) rfl,by decide,by decide⟩
    .exact⟨1000,by rw[e];exact zc (j:=5) rfl,by decide,by decide⟩
    .exact⟨3,by rw[e];exact zc (j:=6) rfl,by decide,by decide⟩
    .exact⟨_,by rw[e];exact zc (j:=7) rfl,by omega,by omega⟩
   refine⟨_,_,_,_,rfl,rfl,SqL.of z8,etm,zf (by decide),fun r hr0=>?_⟩
   exact q r hd lk sh tm _ mhd mlk t1 t2 z8 ((Same.upd hp).trans (Same.upd hr0))
  rw[if_neg xa]
  cases inV (V.str lk) (u.shs.map V.str) with
  |true=>
   rw[if_pos rfl]
   exact⟨by decide,fin _⟩
  |false=>
   rw[if_neg xa]
   exact fin false
noncomputable def AP(K:PySem.W.Frag)(a d:Addr)(xs:List V)(H:Hp)(S:Sv):Prop:=(∀H',SqL K H' a xs)\/((∀H',H' a=H a->SqL K H' a xs)/\(∃o,H a=some o/\(∀C dx fs,o≠.ins C dx fs)/\∀ps,o≠.tbl ps)/\a∉d::S.lists)
theorem AP.sq{K:PySem.W.Frag}{a d:Addr}{xs:List V}{H:Hp}{S:Sv}(h:AP K a d xs H S):SqL K H a xs:=by
 rcases h with h|⟨h,-,-⟩
 .exact h H
 .exact h H rfl
theorem AP.mono{K:PySem.W.Frag}{a d:Addr}{xs:List V}{H H':Hp}{S:Sv}(h:AP K a d xs H S)(s:Same H H'):AP K a d xs H' S:=by
 rcases h with h|⟨h,⟨o,e,no,nt⟩,n⟩
 .exact .inl h
 .have e':=s _ _ e
  exact .inr ⟨fun H2 z=>h H2 (by rw[z,e',e]),⟨o,e',no,nt⟩,n⟩
theorem AP.start{K:PySem.W.Frag}{a d:Addr}{xs:List V}{H H':Hp}{S:Sv}(h:SqL K H a xs)(s:Same H H')(hd:H d=none)(hl:∀p∈S.lists,H p=none):AP K a d xs H' S:=by
 rcases h with(z|⟨o,z⟩)|z
 .have z':=s _ _ z
  refine .inr ⟨fun H2 e=>.inl (.inl (by rw[e];exact z')),⟨_,z',(fun _ _ _ y=>by cases y),fun _ y=>by cases y⟩,fun hm=>?_⟩
  rcases xo.mp hm with y|y
  .rw[<-y,z]at hd;cases hd
  .rw[hl a y]at z;cases z
 .have z':=s _ _ z
  refine .inr ⟨fun H2 e=>.inl (.inr ⟨o,by rw[e];exact z'⟩),⟨_,z',(fun _ _ _ y=>by cases y),fun _ y=>by cases y⟩,fun hm=>?_⟩
  rcases xo.mp hm with y|y
  .rw[<-y,z]at hd;cases hd
  .rw[hl a y]at z;cases z
 .exact .inl fun H'=>.inr z
theorem AP.step{K:PySem.W.Frag}{a d:Addr}{xs:List V}{H H':Hp}{S S':Sv}{CC CK c l:Addr}{ks ls:List Addr}{ss:List KN}(h:AP K a d xs H S)(hc:CAt CC CK H c l ks ls ss)(hl:∀p∈S'.lists,p∈S.lists\/H p=none)(hf:∀b o,H b=some o->b∉ks->b∉d::S.lists->H' b=some o):AP K a d xs H' S':=by
 rcases h with h|⟨h,⟨o,e,no,nt⟩,n⟩
 .exact .inl h
 .have nk:a∉ks:=fun hk=>by obtain⟨dx,fs,z⟩:=hc.mem hk;rw[e]at z;cases z;exact no _ _ _ rfl
  have e':=hf _ _ e nk n
  refine .inr ⟨fun H2 z=>h H2 (by rw[z,e',e]),⟨o,e',no,nt⟩,fun hm=>?_⟩
  rcases xo.mp hm with y|y
  .exact n (by rw[y];exact x0c ..)
  .rcases hl a y with z|z
   .exact n (x09 _ z)
   .rw[e]at z;cases z
theorem zj9{S:Sv}{n:Nat}(h1:S.us=List.replicate n true)(h2:S.ts=List.replicate n 0)(h3:S.N=[]):Rel S (z2z n) n:=by
 have hs:∀s∈z2z n,s=⟨true,0,[]⟩:=fun s hs=>List.eq_of_mem_replicate hs
 refine⟨by rw[h1];unfold z2z;rw[List.map_replicate],by rw[h2];unfold z2z;rw[List.map_replicate],by unfold z2z;rw[List.length_replicate],fun j s e=>?_,fun s ms=>?_,fun q hq=>by rw[h3]at hq;cases hq⟩
 .rw[hs s (x9 e),h3]
  rfl
 .rw[hs s ms]
  exact⟨List.Pairwise.nil,(fun x hx=>by cases hx),Int.le_refl _⟩
noncomputable def nkey(x:Nt):List Key:=[.inl x.n,.inr x.h,.inr x.l,.inl (if x.sh=true then 1 else 0),.inl x.e]
theorem ze1{x y:Nt}(h:nkey x=nkey y):x=y:=by
 obtain⟨n,h1,l,sh,e⟩:=x
 obtain⟨n',h1',l',sh',e'⟩:=y
 simp only[nkey,List.cons.injEq,Sum.inl.injEq,Sum.inr.injEq,and_true]at h
 obtain⟨rfl,rfl,rfl,hs,rfl⟩:=h
 cases sh<;>cases sh'<;>simp_all
noncomputable abbrev GL:=List (Nt×List Nat)
noncomputable def occ(T:List (Nt×Nat))(x:Nt):List Nat:=(T.filter fun t=>decide (t.1=x)).map (·.2)
structure GOf(T:List (Nt×Nat))(G:GL):Prop where
 nd:(G.map (·.1)).Nodup
 oc:∀g∈G,g.2=occ T g.1
 mm:∀x,x∈G.map (·.1)↔x∈T.map (·.1)
theorem GOf.nil:GOf [] []:=⟨List.nodup_nil,fun g hg=>(by cases hg),fun x=>Iff.rfl⟩
noncomputable def putG(G:GL)(x:Nt)(j:Nat):GL:=if x∈G.map (·.1) then G.map fun g=>if g.1=x then(g.1,g.2++[j]) else g else G++[(x,[j])]
theorem z97(T:List (Nt×Nat))(x:Nt)(j:Nat)(y:Nt):occ (T++[(x,j)]) y=occ T y++(if x=y then[j] else[]):=by
 unfold occ
 rw[x1f,x0b]
 by_cases h:x=y<;>simp[h]
theorem zkd{T:List (Nt×Nat)}{x:Nt}(h:x∉T.map (·.1)):occ T x=[]:=by
 unfold occ
 rw[x1s.mpr,List.map_nil]
 intro t ht e
 exact h (xw.mpr ⟨t,ht,x05 e⟩)
theorem GOf.put{T:List (Nt×Nat)}{G:GL}(h:GOf T G)(x:Nt)(j:Nat):GOf (T++[(x,j)]) (putG G x j):=by
 unfold putG
 by_cases m:x∈G.map (·.1)
 .rw[if_pos m]
  have ek:(G.map fun g=>if g.1=x then(g.1,g.2++[j]) else g).map (·.1)=G.map (·.1):=by
   rw[List.map_map]
   refine List.map_congr_left fun g _=>?_
   show(if g.1=x then(g.1,g.2++[j]) else g).1=g.1
   split<;>rfl
  refine⟨by rw[ek];exact h.nd,fun g hg=>?_,fun y=>?_⟩
  .obtain⟨g0,hg0,rfl⟩:=xw.mp hg
   have:=h.oc g0 hg0
   by_cases c:g0.1=x
   .rw[if_pos c,z97,if_pos c.symm,this]
   .rw[if_neg c,z97,if_neg (fun z=>c z.symm),x0l,this]
  .rw[ek,h.mm,x0b,xz]
   refine⟨.inl,fun z=>z.elim id fun z=>?_⟩
   rw[xm.mp z]
   exact(h.mm x).mp m
 .rw[if_neg m]
  refine⟨?_,fun g hg=>?_,fun y=>?_⟩
  .rw[x0b,List.nodup_append]
   refine⟨h.nd,by simp,fun a ha b hb e=>m ?_⟩
   have hb:=xm.mp hb
   subst e hb
   exact ha
  .rw[z97]
   rcases xz.mp hg with hg|hg
   .rw[if_neg (fun z=>m (xw.mpr ⟨g,hg,z.symm⟩)),x0l]
    exact h.oc g hg
   .rw[xm.mp hg,zkd (fun z=>m ((h.mm x).mpr z)),if_pos rfl]
    rfl
  .rw[x0b,x0b,xz,xz,h.mm]
   rfl
structure GAt(H:Hp)(G:GL)(xs:BT):Prop where
 ln:xs.length=G.length
 at_:∀(i:Nat)(z:List Key×Addr×Value)(g:Nt×List Nat),xs[i]? =some z->G[i]? =some g->z.1=nkey g.1/\H z.2.1=some (.tup g.1.vals)/\∃q,z.2.2=.ref q/\H q=some (.lst (zr g.2))
theorem GAt.keys{H:Hp}{G:GL}{xs:BT}(h:GAt H G xs):xs.map (·.1)=G.map fun g=>nkey g.1:=by
 apply x0n
 intro i
 rw[xc,xc]
 cases ex:xs[i]? with
 |none=>
  have:=List.getElem?_eq_none_iff.mp ex
  rw[x1m (by have:=h.ln;omega)];rfl
 |some z=>
  have hi:=(xg.mp ex).1
  obtain⟨g,eg⟩:∃g,G[i]? =some g:=⟨_,x6 (show i<G.length by have:=h.ln;omega)⟩
  rw[eg]
  exact x0u some (h.at_ i z _ ex eg).1
theorem GAt.kat{H:Hp}{G:GL}{xs:BT}(h:GAt H G xs):z3s H xs:=fun z hz=>by
 obtain⟨i,hi⟩:=x1d hz
 have hl:=(xg.mp hi).1
 obtain⟨g,eg⟩:∃g,G[i]? =some g:=⟨_,x6 (show i<G.length by have:=h.ln;omega)⟩
 obtain⟨a,b,-⟩:=h.at_ i z _ hi eg
 exact⟨_,b,by rw[a];rfl⟩
theorem GAt.mono{H H':Hp}{G:GL}{xs:BT}(h:GAt H G xs)(s:∀b o,H b=some o->(∀φ,o≠.ext φ)->H' b=some o):GAt H' G xs:=⟨h.ln,fun i z g e1 e2=>by
 obtain⟨a,b,q,c,d⟩:=h.at_ i z g e1 e2
 exact⟨a,s _ _ b (by intros;nofun),q,c,s _ _ d (by intros;nofun)⟩⟩
theorem GAt.found{H:Hp}{G:GL}{xs:BT}(h:GAt H G xs){x:Nt}{p:Addr×Value}(e:atKey xs (nkey x)=some p):∃(i:Nat)(z:List Key×Addr×Value)(g:Nt×List Nat),xs[i]? =some z/\G[i]? =some g/\g.1=x/\p=z.2:=by
 unfold atKey at e
 obtain⟨z,hz,rfl⟩:=x08.mp e
 have hk:z.1=nkey x:=by simpa using List.find?_some hz
 obtain⟨i,hi⟩:=x1d (List.mem_of_find?_eq_some hz)
 have hl:=(xg.mp hi).1
 obtain⟨g,eg⟩:∃g,G[i]? =some g:=⟨_,x6 (show i<G.length by have:=h.ln;omega)⟩
 exact⟨i,z,_,hi,eg,ze1 ((h.at_ i z _ hi eg).1.symm.trans hk),rfl⟩
theorem GAt.is{H:Hp}{G:GL}{xs:BT}(h:GAt H G xs)(x:Nt):(atKey xs (nkey x)).isSome=decide (x∈G.map (·.1)):=by
 rw[x18,x10]
 constructor
 .intro e
  obtain⟨p,e⟩:=Option.isSome_iff_exists.mp e
  obtain⟨i,z,g,-,eg,rfl,-⟩:=h.found e
  exact xw.mpr ⟨g,x9 eg,rfl⟩
 .intro m
  have:nkey x∈xs.map (·.1):=by
   rw[h.keys]
   obtain⟨g,hg,rfl⟩:=xw.mp m
   exact xw.mpr ⟨g,hg,rfl⟩
  obtain⟨z,hz,ez⟩:=xw.mp this
  unfold atKey
  rw[Option.isSome_map,List.find?_isSome]
  exact⟨z,hz,xx ez⟩
theorem GAt.put{H:Hp}{G:GL}{xs:BT}(h:GAt H G xs){x:Nt}{j:Nat}{b q:Addr}(hb:H b=some (.tup x.vals))(h1:∀g∈G,g.1=x->H q=some (.lst (zr (g.2++[j]))))(h2:x∉G.map (·.1)->H q=some (.lst (zr [j]))):GAt H (putG G x j) (storedH xs (nkey x) b (.ref q)):=by
 unfold putG storedH
 rw[h.is x]
 by_cases m:x∈G.map (·.1)
 .rw[if_pos m,if_pos (xx m)]
  refine⟨by rw[x0,x0,h.ln],fun i z g ez eg=>?_⟩
  rw[xc]at ez eg
  obtain⟨z0,ez0,rfl⟩:=x08.mp ez
  obtain⟨g0,eg0,rfl⟩:=x08.mp eg
  obtain⟨a,c,q0,d,e⟩:=h.at_ i z0 g0 ez0 eg0
  unfold putAt
  by_cases hx:g0.1=x
  .rw[if_pos hx,if_pos (by rw[a,hx])]
   exact⟨a,c,q,rfl,h1 g0 (x9 eg0) hx⟩
  .rw[if_neg hx,if_neg (fun z=>hx (ze1 (a.symm.trans z)))]
   exact⟨a,c,q0,d,e⟩
 .rw[if_neg m,if_neg (by simpa using m)]
  refine⟨by rw[x00,x00,h.ln];rfl,fun i z g ez eg=>?_⟩
  rcases Nat.lt_trichotomy i xs.length with hl|hl|hl
  .rw[List.getElem?_append_left hl]at ez
   rw[List.getElem?_append_left (by have:=h.ln;omega)]at eg
   exact h.at_ i z g ez eg
  .subst hl
   rw[List.getElem?_append_right (xk _),Nat.sub_self]at ez
   rw[List.getElem?_append_right (by rw[h.ln];exact xk _),h.ln,Nat.sub_self]at eg
   cases ez
   cases eg
   exact⟨rfl,hb,q,rfl,h2 m⟩
  .rw[List.getElem?_append_right (by omega)]at ez
   have:i-xs.length=(i-xs.length-1)+1:=by omega
   rw[this]at ez
   cases ez
theorem GAt.get{H:Hp}{G:GL}{xs:BT}(h:GAt H G xs)(nd:(G.map (·.1)).Nodup){i:Nat}{z:List Key×Addr×Value}{g:Nt×List Nat}(ez:xs[i]? =some z)(eg:G[i]? =some g):atKey xs (nkey g.1)=some z.2:=by
 have hs:=h.is g.1
 rw[xx (xw.mpr ⟨g,x9 eg,rfl⟩)]at hs
 obtain⟨p,hp⟩:=Option.isSome_iff_exists.mp hs
 obtain⟨i',z',g',ez',eg',e,rfl⟩:=h.found hp
 have hi:i<(G.map (·.1)).length:=by rw[x0];exact(xg.mp eg).1
 have:i=i':=(List.getElem?_inj hi nd).mp (by rw[xc,xc,eg,eg'];exact x0u some e.symm)
 subst this
 rw[ez]at ez'
 cases ez'
 exact hp
noncomputable def z2m(lk:Str)(tick:Int)(j:Nat)(N:List Nt):List (Nt×Nat):=((z1g tick N).filter fun x=>decide (x.l=lk)).map fun x=>(x,j)
noncomputable def z1m(ss:List KN)(lk:Str)(tick:Int)(js:List Nat):List (Nt×Nat):=js.flatMap fun j=>match ss[j]? with|some s=>z2m lk tick j s.N|none=>[]
theorem zh4{lk:Str}{tick:Int}{j:Nat}{N:List Nt}{x:Nt}(hx:tick<x.e):z2m lk tick j (N++[x])=z2m lk tick j N++(if x.l=lk then[(x,j)] else[]):=by
 unfold z2m z1g
 rw[x1f,x1f,x0b]
 by_cases h:x.l=lk<;>simp[hx,h]
noncomputable def LenG(H:Hp)(xs:BT)(G:GL)(n:Nat):Prop:=G.length<=n/\(∀g∈G,g.2.length<=n)/\∀z∈xs,∀q,z.2.2=.ref q->H q=none
theorem LenG.mono{H:Hp}{xs:BT}{G:GL}{n m:Nat}(h:LenG H xs G n)(l:n<=m):LenG H xs G m:=⟨xp h.1 l,fun g hg=>xp (h.2.1 g hg) l,h.2.2⟩
theorem LenG.put{H:Hp}{xs:BT}{G:GL}{n:Nat}(h:LenG H xs G n)(x:Nt)(j:Nat)(k:List Key)(b:Addr){q:Addr}(hq:H q=none):LenG H (storedH xs k b (.ref q)) (putG G x j) (n+1):=by
 have hf:∀z∈storedH xs k b (.ref q),∀q',z.2.2=.ref q'->H q'=none:=fun z hz q' e=>by
  unfold storedH at hz
  split at hz
  .obtain⟨z0,hz0,rfl⟩:=xw.mp hz
   unfold putAt at e
   split at e
   .injection e with e
    exact e▸hq
   .exact h.2.2 z0 hz0 q' e
  .rcases xz.mp hz with hz|hz
   .exact h.2.2 z hz q' e
   .rw[xm.mp hz]at e
    injection e with e
    exact e▸hq
 unfold putG
 split
 .refine⟨by rw[x0];exact Nat.le_succ_of_le h.1,fun g hg=>?_,hf⟩
  obtain⟨g0,hg0,rfl⟩:=xw.mp hg
  have:=h.2.1 g0 hg0
  split
  .show(g0.2++[j]).length<=n+1
   rw[x00]
   show _+1<=_
   omega
  .omega
 .refine⟨by rw[x00];exact Nat.succ_le_succ h.1,fun g hg=>?_,hf⟩
  rcases xz.mp hg with hg|hg
  .exact Nat.le_succ_of_le (h.2.1 g hg)
  .rw[xm.mp hg]
   show 1<=n+1
   omega
theorem z4b{ss:List KN}{lk:Str}{tick:Int}{js:List Nat}{x:Nt}(h:x∈(z1m ss lk tick js).map (·.1)):∃s∈ss,x∈s.N:=by
 obtain⟨t,ht,rfl⟩:=xw.mp h
 unfold z1m at ht
 obtain⟨j,-,hj⟩:=List.mem_flatMap.mp ht
 cases e:ss[j]? with
 |none=>rw[e]at hj;cases hj
 |some s=>
  rw[e]at hj
  unfold z2m z1g at hj
  obtain⟨x,hx,rfl⟩:=xw.mp hj
  exact⟨s,x9 e,(xi.mp (xi.mp hx).1).1⟩
noncomputable def zh5(ss:List KN):Prop:=∀s∈ss,∀s'∈ss,∀x∈s.N,∀y∈s'.N,x.n=y.n->x=y
noncomputable abbrev HR:=Addr×(Nt×List Nat)×Addr
noncomputable def RowsC(H H':Hp)(R:List HR):Prop:=∀t∈R,H' t.1=some (.tup [.int t.2.1.1.n,.str t.2.1.1.h,.bl t.2.1.1.sh,.int t.2.1.1.e,.ref t.2.2])/\H' t.2.2=some (.lst (zr t.2.1.2))/\H t.2.2=none
theorem RowsC.mono{H H' H2:Hp}{R:List HR}(h:RowsC H H' R)(s:Same H' H2):RowsC H H2 R:=fun t ht=>let⟨a,b,c⟩:=h t ht;⟨s _ _ a,s _ _ b,c⟩
structure HavOf(T:List (Nt×Nat))(m:Nat)(K:List (Nt×List Nat)):Prop where
 up:K.Pairwise fun a b=>a.1.n<b.1.n
 mm:∀g,g∈K↔g.1∈T.map (·.1)/\g.2=occ T g.1/\m<=g.2.length
noncomputable def zh6(P:Program)(w:World)(CC CK:Addr):Sp:=fun vs H Q _=>∃(c l:Addr)(ks ls:List Addr)(ss:List KN)(lk:Str)(tick:Int),vs=[.ref c,.str lk,.int tick]/\CAt CC CK H c l ks ls ss/\z6q ss/\zh5 ss/\(∀G,GOf (z1m ss lk tick (upl ss ks.length)) G->G.length<64)/\
 ∀(r:Addr)(R:List HR)(H':Hp),H r=none->H' r=some (.lst (R.map fun t=>V.ref t.1))->RowsC H H' R->HavOf (z1m ss lk tick (upl ss ks.length)) (ks.length/2+1) (R.map (·.2.1))->Same H H'->Q (.ref r) H'
theorem z8c(F:MDef K y0 "having" "Council.having" z3j ["self","lock","tick"])(T:Txt K mg y0 yb ya y6 y9 y8 y7)(yf:MHas P w K mg base CX0 1 y6 "live" ["self","tick"] (z7u y6))(yc:MHas P w K mg base CX0 1 y0 "up_keepers" ["self"] (z9t y0 y6)):MHas P w K mg base CX0 2 y0 "having" ["self","lock","tick"] (zh6 P w y0 y6):=by
 refine F.ok sc_Council_having (fun vs H Q E h=>?_) (fun f cdv A outer s H vs Q E hr h=>?_)
 .obtain⟨c,l,ks,ls,ss,lk,tick,rfl,_⟩:=h
  rfl
 .obtain⟨c,l,ks,ls,ss,lk,tick,rfl,hc,hsm,hnu,hfew,q⟩:=h
  have hu:=hr.units0
  have hu2:=z3n hr
  refine⟨_,(@za _ _ _ _ _ (@zk _ _ 3 _ _ _ _ sc_Council_having.nd rfl (Or.inr rfl) (@zjs _ _) rfl (Or.inl rfl)) (@za _ _ _ _ _ (@z1u _ _ _ _ _ _ _ _ x0m rfl (@z12 _ _ _ _ (@z4r _ _ _ _ _ _ _ _ _ _ _ yc T.cl_Council (hr.mono (by decide)) (pv 0) rfl)) (@z9b _ _ _ _ _ _ rfl (@z22 _ _ _ _ _ (@z15 _ _ 4 _ sc_Council_having.nd rfl (Or.inl rfl) (Or.inr rfl)) (@z22 _ _ _ _ _ (@z15 _ _ 5 _ sc_Council_having.nd rfl (Or.inl rfl) (Or.inr rfl)) z4q rfl) rfl) rfl rfl) (@zd _ _ _ (@z1u _ _ _ _ _ _ _ _ x0m rfl (@z12 _ _ _ _ (@z27 _ _ _ _ _ _ _ _ _ _ _ _ _ _ yf T.cl_Keeper (hr.mono (by decide)) (pv 5) (@z6 _ _ _ _ _ (pv 2) z9 rfl) rfl rfl rfl)) (@z15 _ _ 6 _ sc_Council_having.nd rfl (Or.inl rfl) (Or.inr rfl)) (@zd _ _ _ (@z11 _ _ _ _ _ _ _ _ (@zo _ _ _ _ _ _ _ _ z1f (@zi _ _ _ _ _ _ _ ix_tup (pv 6) z7 (fun _ _=>rfl)) (pv 1) (zm _)) (@zd _ _ _ (@zju _ _ _ _ _ _ _ _ _ hu2 (pv 3) (pv 6) (@zg _ _ _ _ _ _ _ _ zhr (@zid _ _ _ _ _ _ _ _ _ hu2 (pv 3) (pv 6) (@z1c _ _ _ _ z9) ⟨rfl,rfl,rfl,rfl⟩) (@z1c _ _ _ _ (@z6 _ _ _ _ _ (pv 4) z9 rfl))) rfl)) zp)) (by intro _;rfl))) (by intro _;rfl)) (@za _ _ _ _ _ (@z66 _ _ "note" (["self","places"]) ([0,3]) _ _ _ _ _ _ _ _ 7 _ _ _ rfl ⟨rfl,by decide+kernel,by decide+kernel,rfl,zv rfl,by decide+kernel,⟨⟨rfl,Or.inl rfl,rfl⟩,⟨⟨rfl,Or.inl rfl,rfl⟩,trivial⟩⟩⟩ sc_Council_having.nd rfl (Or.inl rfl) (@z12 _ _ _ _ (@zj _ _ _ _ _ _ _ _ _ (zd9 rfl) rfl T.b_sorted (by decide+kernel) (@z6 _ _ _ _ _ (pv 3) z9 rfl) (by decide) (by decide) rfl rfl)) (fun _ _ _ _=>(@z28 _ _ _ (@zo _ _ _ _ _ _ _ _ zc3 (@zj _ _ _ _ _ _ _ _ _ (zab (K:=K)) rfl T.b_len (by decide+kernel) (@z6 _ _ _ _ _ (@z9o _ P w _ _ _ _ _ hu2 (pv 2) (pv 0) (fun _ _=>rfl) rfl rfl) z9 rfl) (by decide) (by decide) rfl rfl) (@z8p _ K _ _ _ _ (pv 1) rfl rfl) (zm _)))) (fun _ _ _ _=>(pv 0)) rfl (by intro _;rfl) (Or.inr rfl)) (@zd _ _ _ (@zn _ _ _ _ (@z1z _ _ "note" (["places"]) ([3]) _ _ _ _ _ _ _ _ rfl ⟨rfl,by decide+kernel,by decide+kernel,rfl,zv rfl,by decide+kernel,⟨⟨rfl,Or.inl rfl,rfl⟩,trivial⟩⟩ (@z12 _ _ _ _ (pv 7)) (fun _ _ _ _=>z39) (fun _ _ _ _=>(@z1p _ _ _ _ _ (@z6 _ _ _ _ _ (@zi _ _ _ _ _ _ _ (z1e (K:=K)) (pv 0) z7 (fun _ _=>rfl)) (@z6 _ _ _ _ _ (@zi _ _ _ _ _ _ _ (z1e (K:=K)) (pv 0) z7 (fun _ _=>rfl)) (@z6 _ _ _ _ _ (@zi _ _ _ _ _ _ _ (z1e (K:=K)) (pv 0) z7 (fun _ _=>rfl)) (@z6 _ _ _ _ _ (@zi _ _ _ _ _ _ _ (z1e (K:=K)) (pv 0) z7 (fun _ _=>rfl)) (@z6 _ _ _ _ _ (@z9o _ P w _ _ _ _ _ hu2 (pv 1) (pv 0) (fun _ _=>rfl) rfl rfl) z9 rfl) rfl) rfl) rfl) rfl))) (by intro _;rfl))))))),?_⟩
  walk_at "rd"
  intro p hp
  have s1:=Same.upd (o:=dtb P w p []) hp
  have g1:upd H p (dtb P w p []) p=some (dtb P w p []):=z8
  generalize upd H p (dtb P w p [])=H1 at s1 g1⊢
  have hc1:=hc.mono s1
  obtain⟨dx,hob⟩:=hc1.ob
  refine⟨_,_,hob,z2l _ _ (by decide+kernel) (by decide+kernel),c,l,ks,ls,ss,rfl,hc1,fun r L H2 hL hr0 gr s2=>⟨r,rfl,⟨_,SqL.of gr⟩,?_⟩⟩
  have hsz:=hc.sz
  have hl0:=hL.len
  have g2:=s2 _ _ g1
  have nrp:r≠p:=fun e=>by rw[e,g1]at hr0;cases hr0
  have fr:∀{H':Hp}{b:Addr}{o:HO},But1 p H2 H'->H b=some o->H' b=some o:=fun{H' b o} b1 e=>b1 _ _ (s2 _ _ (s1 _ _ e)) (ze e hp)
  refine z1b (xs:=ptup L) (fun i σ H'=>∃(G:GL)(xs:BT)(v4 v5 v6 v7:Option V),σ=[some (V.ref c),some (V.str lk),some (V.int tick),some (V.ref p),v4,v5,v6,v7]/\H' p=some (dtb P w p xs)/\LenG H xs G (63*i)/\GOf (z1m ss lk tick ((upl ss ks.length).take i)) G/\GAt H' G xs/\But1 p H2 H') ⟨[],[],_,_,_,_,rfl,g2,⟨x03 _,fun g hg=>(by cases hg),fun z hz=>(by cases hz)⟩,GOf.nil,⟨rfl,fun i z g e=>by cases e⟩,fun b o e _=>e⟩ ?_ ?_ ?_
  .rintro i σ H'-⟨G,xs,v4,v5,v6,v7,-,-,-,-,-,b3⟩
   exact SqL.of (b3 _ _ gr nrp)
  .rintro Pv hP i x σ H' hx ⟨G,xs,v4,v5,v6,v7,rfl,gE,hE,hG,hGA,b3⟩
   obtain⟨y,hy,rfl⟩:=z6p hx
   walk_at "rd"
   have my:=x9 hy
   have sH:Same H H':=fun b o e=>fr b3 e
   have hty:=b3 _ _ (hL.tu y my) (fun e=>by have:=hL.tu y my;rw[e,g2]at this;cases this)
   obtain⟨s,l1,hu1,hl1,-,Ls,eL,hk⟩:=(hc.mono sH).kp y.2.1 y.2.2 (hL.at_ y my)
   obtain⟨⟨dk,lk',a1,a2⟩,hn,-⟩:=id hk
   have l62:Ls.length<=62:=by
    have:=hsm s (x9 hu1)
    rw[<-eL,x0]at this
    exact this
   have gi:(upl ss ks.length)[i]? =some y.2.1:=by rw[<-hL.mp,xc,hy];rfl
   have hil:i<L.length:=(xg.mp hy).1
   have wst:z1m ss lk tick ((upl ss ks.length).take (i+1))=z1m ss lk tick ((upl ss ks.length).take i)++z2m lk tick y.2.1 ((z17 tick Ls).map (·.2)):=by
    unfold z1m
    rw[List.take_succ,gi,List.flatMap_append]
    simp only[Option.toList_some,List.flatMap_cons,List.flatMap_nil,x0l,hu1]
    congr 1
    unfold z2m
    rw[z5b,eL]
    unfold z1g
    rw[x0j]
    simp
   refine⟨_,SqT.of hty,rfl,_,_,rfl,_,_,rfl,rfl,_,rfl,_,_,a1,z3u s.u s.t lk' (by decide+kernel) (by decide+kernel) (by decide+kernel),y.2.2,s.u,s.t,Ls,tick,rfl,hk,fun rn H3 hrn grn s3=>⟨rn,rfl,⟨_,SqL.of grn⟩,?_⟩⟩
   generalize z1m ss lk tick ((upl ss ks.length).take i)=W at hG wst
   have g3:=s3 _ _ gE
   have nrn:rn≠p:=fun e=>by rw[e,gE]at hrn;cases hrn
   have lls:(z17 tick Ls).length<=62:=xp (xj _ _) l62
   have hnl:NotesAt H3 (z17 tick Ls):=(hn.mono s3).sub fun q h=>(xi.mp h).1
   have b23:But1 p H2 H3:=fun b o e n=>s3 _ _ (b3 _ _ e n)
   refine z1b (xs:=refs (z17 tick Ls)) (fun jj σ H4=>∃(G:GL)(xs:BT)(v6 v7:Option V),σ=[some (V.ref c),some (V.str lk),some (V.int tick),some (V.ref p),some (V.int (((y.2.1:Nat):Int)+1)),some (V.ref y.2.2),v6,v7]/\H4 p=some (dtb P w p xs)/\LenG H xs G (63*i+jj)/\GOf (W++z2m lk tick y.2.1 (((z17 tick Ls).take jj).map (·.2))) G/\GAt H4 G xs/\But1 p H2 H4/\But1 p H3 H4) ⟨G,xs,_,_,rfl,g3,hE,by simpa[z2m,z1g]using hG,hGA.mono (fun b o e _=>s3 _ _ e),b23,fun b o e _=>e⟩ ?_ ?_ ?_
   .rintro jj σ H4-⟨G,xs,v6,v7,-,-,-,-,-,-,b4⟩
    exact SqL.of (b4 _ _ grn nrn)
   .rintro Pw hW jj x σ H4 hx ⟨G,xs,v6,v7,rfl,g4,l4,hG4,hA4,b24,b34⟩
    obtain⟨z,hz,rfl⟩:=z37 hx
    have mz:=x9 hz
    have ntp:=hnl.tu z mz
    have npz:z.1≠p:=fun e=>by rw[e,g3]at ntp;cases ntp
    have tz:=b34 _ _ ntp npz
    have hjj:jj<(z17 tick Ls).length:=(xg.mp hz).1
    have liv:tick<z.2.e:=x05 (xi.mp mz).2
    have stp:W++z2m lk tick y.2.1 (((z17 tick Ls).take (jj+1)).map (·.2))=(W++z2m lk tick y.2.1 (((z17 tick Ls).take jj).map (·.2)))++(if z.2.l=lk then[(z.2,y.2.1)] else[]):=by
     rw[z2d _ hz,zh4 liv,List.append_assoc]
    walk_at "rd"
    refine⟨_,_,_,_,rfl,rfl,SqT.of tz,zc (j:=2) rfl,rfl,?_⟩
    by_cases cl:z.2.l=lk
    rotate_left
    .rw[if_neg (by simpa using cl)]
     refine hW _ _ _ ⟨G,xs,_,_,rfl,g4,l4.mono (by omega),?_,hA4,b24,b34⟩
     rw[stp,if_neg cl,x0l]
     exact hG4
    rw[if_pos (xx (x0u V.str cl))]
    have sH4:Same H H4:=fun b o e=>fr b24 e
    have fin:∀(H5:Hp)(qq:Addr),H qq=none->Same H4 H5->(∀g∈G,g.1=z.2->H5 qq=some (.lst (zr (g.2++[y.2.1]))))->(z.2∉G.map (·.1)->H5 qq=some (.lst (zr [y.2.1])))->(∃ys,H5 qq=some (.lst ys))->
      ∃(a b q':Addr),V.ref qq=V.ref q'/\p=a/\z.1=b/\∃(k:List Key)(xs':BT),H5 a=some (dtb P w a xs')/\z3s H5 xs'/\TKey H5 b k/\xs'.length<sizeLine/\Pw (jj+1) [some (V.ref c),some (V.str lk),some (V.int tick),some (V.ref p),some (V.int (((y.2.1:Nat):Int)+1)),some (V.ref y.2.2),some (V.ref z.1),v7] (upd H5 a (dtb P w a (storedH xs' k b (.ref q')))):=fun H5 qq hq0 s5 h1 h2 h3=>by
     have hA5:=hA4.mono (fun b o e _=>s5 _ _ e)
     have tz5:=s5 _ _ tz
     have lx:xs.length<=63*i+jj:=by rw[hA4.ln];exact l4.1
     refine⟨p,z.1,qq,rfl,rfl,rfl,nkey z.2,xs,s5 _ _ g4,hA5.kat,⟨_,tz5,rfl⟩,xt (by omega:_<1000000) (zf (xk _)),hW _ _ _ ⟨putG G z.2 y.2.1,_,_,_,rfl,z8,(l4.put _ _ _ _ hq0).mono (by omega),?_,?_,?_,?_⟩⟩
     .rw[stp,if_pos cl]
      exact hG4.put _ _
     .exact(hA5.put tz5 h1 h2).mono fun b o e n=>by rw[zb (fun y=>by rw[y,s5 _ _ g4]at e;cases e;exact n _ rfl)];exact e
     .exact fun b o e n=>by rw[zb n];exact s5 _ _ (b24 _ _ e n)
     .exact fun b o e n=>by rw[zb n];exact s5 _ _ (b34 _ _ e n)
    refine⟨xs,g4,x03 _,fun pn hpn=>?_⟩
    have s5:=Same.upd (o:=.lst []) hpn
    have g5:upd H4 pn (.lst []) pn=some (.lst []):=z8
    generalize upd H4 pn (.lst [])=H5 at s5 g5⊢
    refine⟨nkey z.2,xs,s5 _ _ g4,(hA4.mono (fun b o e _=>s5 _ _ e)).kat,⟨_,s5 _ _ tz,rfl⟩,fun pp hpp=>?_,fun hno=>⟨by decide,fun pl hpl=>?_⟩⟩
    .obtain⟨i',z',g,ez,eg,gx,rfl⟩:=hA4.found hpp
     obtain⟨-,-,q0,d,e⟩:=hA4.at_ i' z' g ez eg
     refine⟨q0,d,by decide,fun pl hpl=>?_⟩
     have s6:=Same.upd (o:=.lst [V.int (((y.2.1:Nat):Int)+1)]) hpl
     have g6:upd H5 pl (.lst [V.int (((y.2.1:Nat):Int)+1)]) pl=some (.lst [V.int (((y.2.1:Nat):Int)+1)]):=z8
     generalize upd H5 pl (.lst [V.int (((y.2.1:Nat):Int)+1)])=H6 at s6 g6⊢
     have lg:=l4.2.1 g (x9 eg)
     refine⟨_,_,_,_,rfl,rfl,s6 _ _ (s5 _ _ e),g6,by rw[z1s];exact zf (by show _+1<=_;omega),fun pq hpq=>?_⟩
     refine fin _ pq (zu (sH4.trans (s5.trans s6)) hpq) ((s5.trans s6).trans (Same.upd hpq)) (fun g' hg' eg'=>?_) (fun n=>absurd (xw.mpr ⟨g,x9 eg,gx⟩) n) ⟨_,z8⟩
     have:g'=g:=by
      have e1:=hG4.oc g' hg'
      have e2:=hG4.oc g (x9 eg)
      rw[eg',<-gx]at e1
      exact Prod.ext (by rw[eg',gx]) (e1.trans e2.symm)
     rw[z8,this]
     simp[zr]
    .have s6:=Same.upd (o:=.lst [V.int (((y.2.1:Nat):Int)+1)]) hpl
     have g6:upd H5 pl (.lst [V.int (((y.2.1:Nat):Int)+1)]) pl=some (.lst [V.int (((y.2.1:Nat):Int)+1)]):=z8
     generalize upd H5 pl (.lst [V.int (((y.2.1:Nat):Int)+1)])=H6 at s6 g6⊢
     refine⟨_,_,_,_,rfl,rfl,s6 _ _ g5,g6,zf (by show 0+1<=_;decide),fun pq hpq=>?_⟩
     have nG:z.2∉G.map (·.1):=fun m=>by
      have:=hA4.is z.2
      rw[hno,xx m]at this
      cases this
     refine fin _ pq (zu (sH4.trans (s5.trans s6)) hpq) ((s5.trans s6).trans (Same.upd hpq)) (fun g' hg' eg'=>absurd (xw.mpr ⟨g',hg',eg'⟩) nG) (fun n=>?_) ⟨_,z8⟩
     rw[z8]
     rfl
   .rintro σ H4 ⟨G,xs,v6,v7,rfl,g4,l4,hG4,hA4,b24,b34⟩
    rw[z19,x02]at hG4
    rw[z19]at l4
    refine hP _ _ _ ⟨G,xs,_,_,_,_,rfl,g4,l4.mono (by omega),?_,hA4,b24⟩
    rw[wst]
    exact hG4
  .rintro σ H' ⟨G,xs,v4,v5,v6,v7,rfl,gE,hE,hG,hGA,b3⟩
   walk_at "rd"
   rw[z45,<-hL.take,x02,hL.mp]at hG
   have h64:=hfew G hG
   have gx:∀{i:Nat}{z:List Key×Addr×Value},xs[i]? =some z->∃g,G[i]? =some g:=fun{i z} e=>⟨_,x6 (show i<G.length by have:=(xg.mp e).1;have:=hGA.ln;omega)⟩
   have hinj:∀i j,i<xs.length->j<xs.length->(fun i=>((G[i]?).map (·.1.n)).getD 0) i=(fun i=>((G[i]?).map (·.1.n)).getD 0) j->i=j:=fun i j hi hj e=>by
    obtain⟨g1,e1⟩:=gx (x6 hi)
    obtain⟨g2,e2⟩:=gx (x6 hj)
    dsimp only at e
    rw[e1,e2]at e
    have e:g1.1.n=g2.1.n:=e
    obtain⟨s1,m1,n1⟩:=z4b ((hG.mm _).mp (xw.mpr ⟨_,x9 e1,rfl⟩))
    obtain⟨s2,m2,n2⟩:=z4b ((hG.mm _).mp (xw.mpr ⟨_,x9 e2,rfl⟩))
    have ex:=hnu s1 m1 s2 m2 _ n1 _ n2 e
    have hil2:i<(G.map (·.1)).length:=by rw[x0,<-hGA.ln];exact hi
    refine(List.getElem?_inj hil2 hG.nd).mp ?_
    rw[xc,xc,e1,e2]
    exact x0u some ex
   refine⟨xs,gE,by rw[hGA.ln];exact h64,fun i=>((G[i]?).map (·.1.n)).getD 0,fun i z ez=>?_,hinj,fun r5 p5 hr5 hp5 hs5=>⟨⟨_,SqL.of z8⟩,?_⟩⟩
   .obtain⟨g,eg⟩:=gx ez
    obtain⟨-,t,-⟩:=hGA.at_ i z g ez eg
    exact⟨_,by dsimp only;rw[eg];exact t⟩
   obtain⟨SG,eSG,hSG⟩:∃ SG:List (Addr×(Nt×List Nat)),(p5.map fun n=>((xs[n]?).map fun z=>V.ref z.2.1).getD .non)=SG.map (fun g=>V.ref g.1)/\SG.map (·.2)=p5.map (fun n=>G.getD n ⟨⟨0,"","",false,0⟩,[]⟩)/\∀ g∈SG,∃(i:Nat) (z:List Key×Addr×Value),xs[i]? =some z/\G[i]? =some g.2/\z.2.1=g.1:=by
    have hb:∀n∈p5,n<xs.length:=fun n hn=>by have:=(hp5.mem_iff (a:=n)).mp hn;rwa[x0s]at this
    clear hp5 hs5
    induction p5 with
    |nil=>exact⟨[],rfl,rfl,fun g hg=>by cases hg⟩
    |cons n p5 ih=>
     obtain⟨SG,a1,a2,a3⟩:=ih fun m hm=>hb m (x09 _ hm)
     obtain⟨z,ez⟩:∃z,xs[n]? =some z:=⟨_,x6 (hb n (x0c ..))⟩
     obtain⟨g,eg⟩:=gx ez
     refine⟨(z.2.1,g)::SG,?_,?_,fun g' hg'=>?_⟩
     .rw[x0h,x0h,a1,ez];rfl
     .rw[x0h,x0h,a2,xn,eg];rfl
     .rcases xo.mp hg' with rfl|hg'
      .exact⟨n,_,ez,eg,rfl⟩
      .exact a3 g' hg'
   rw[eSG]
   have lSG:SG.length<64:=by
    have:=x0u List.length hSG.1
    rw[x0,x0,hp5.length_eq,List.length_range]at this
    have:=hGA.ln
    omega
   have s6:=Same.upd (o:=.lst (SG.map fun g=>V.ref g.1)) hr5
   have g6:upd H' r5 (.lst (SG.map fun g=>V.ref g.1)) r5=some (.lst (SG.map fun g=>V.ref g.1)):=z8
   generalize upd H' r5 (.lst (SG.map fun g=>V.ref g.1))=H6 at s6 g6⊢
   have hA6:=hGA.mono (fun b o e _=>s6 _ _ e)
   have gE6:=s6 _ _ gE
   have sH6:Same H H6:=fun b o e=>s6 _ _ (fr b3 e)
   have hc6:=hc.mono sH6
   obtain⟨dx6,hob6⟩:=hc6.ob
   refine z1d (xs:=SG.map fun g=>V.ref g.1) (by rw[x0];exact zf (by omega)) (fun i acc H7=>H7=H6/\acc=((SG.take i).filter fun g=>decide (ks.length/2+1<=g.2.2.length)).map fun g=>V.ref g.1) ⟨rfl,rfl⟩ ?_ ?_ ?_ ?_
   .rintro i acc H7 ⟨-,rfl⟩
    rw[x0]
    exact xp (xj _ _) (by rw[x04];omega)
   .rintro i acc H7 ⟨rfl,-⟩
    exact SqL.of g6
   .rintro Nn i acc H7 x hN hx hi ⟨rfl,rfl⟩
    rw[xc]at hx
    obtain⟨g,hg,rfl⟩:=x08.mp hx
    walk_at "rd"
    obtain⟨i',z,ez,eg,e1⟩:=hSG.2 g (x9 hg)
    obtain⟨k1,t1,q0,d,e⟩:=hA6.at_ i' z _ ez eg
    have stp:=z1l (fun g:Addr×(Nt×List Nat)=>decide (ks.length/2+1<=g.2.2.length)) hg
    refine⟨q0,nkey g.2.1,xs,gE6,hA6.kat,⟨_,e1▸t1,rfl⟩,_,hA6.get hG.nd ez eg,d,_,.inl (SqL.of e),_,_,_,hob6,T.cl_Council,T.n_Council_most,_,zf6 _ _,_,rfl,?_⟩
    rw[z1s]
    by_cases cm:ks.length/2+1<=g.2.2.length
    .rw[if_pos (xx (by omega))]
     refine hN _ _ ⟨rfl,?_⟩
     rw[stp]
     simp[cm]
    .rw[if_neg (by simp;omega)]
     refine hN _ _ ⟨rfl,?_⟩
     rw[stp]
     simp[cm]
   .rintro acc H7 ⟨rfl,rfl⟩ pk hpk
    rw[x0,x02]
    have s8:=Same.upd (o:=.lst ((SG.filter fun g=>decide (ks.length/2+1<=g.2.2.length)).map fun g=>V.ref g.1)) hpk
    have g8:upd H7 pk (.lst ((SG.filter fun g=>decide (ks.length/2+1<=g.2.2.length)).map fun g=>V.ref g.1)) pk=some (.lst ((SG.filter fun g=>decide (ks.length/2+1<=g.2.2.length)).map fun g=>V.ref g.1)):=z8
    generalize upd H7 pk (.lst ((SG.filter fun g=>decide (ks.length/2+1<=g.2.2.length)).map fun g=>V.ref g.1))=H8 at s8 g8⊢
    have hK:∀g∈SG.filter (fun g=>decide (ks.length/2+1<=g.2.2.length)),g∈SG:=fun g hg=>(xi.mp hg).1
    have hKs:HavOf (z1m ss lk tick (upl ss ks.length)) (ks.length/2+1) ((SG.filter fun g=>decide (ks.length/2+1<=g.2.2.length)).map (·.2)):=by
     have nd5:p5.Nodup:=hp5.nodup_iff.mpr List.nodup_range
     have hb:∀n∈p5,n<G.length:=fun n hn=>by have:=(hp5.mem_iff (a:=n)).mp hn;rw[x0s]at this;have:=hGA.ln;omega
     have hmem:∀g,g∈SG.map (·.2)↔g∈G:=fun g=>by
      rw[hSG.1,xw]
      constructor
      .rintro⟨n,hn,rfl⟩
       rw[xn,x6 (hb n hn)]
       exact x1b _
      .intro hg
       obtain⟨n,hn,e⟩:=x12 hg
       refine⟨n,(hp5.mem_iff (a:=n)).mpr (x0s.mpr (by have:=hGA.ln;omega)),?_⟩
       rw[xn,x6 hn,e]
       rfl
     have hpw:(SG.map (·.2)).Pairwise fun a b=>a.1.n<b.1.n:=by
      rw[hSG.1,List.pairwise_map]
      refine(hs5.and nd5).imp_of_mem fun{a b} ha hb' h=>?_
      obtain⟨ga,e1⟩:∃g,G[a]? =some g:=⟨_,x6 (hb a ha)⟩
      obtain⟨gb,e2⟩:∃g,G[b]? =some g:=⟨_,x6 (hb b hb')⟩
      obtain⟨h1,h2⟩:=h
      dsimp only at h1
      rw[e1,e2]at h1
      have h1:ga.1.n<=gb.1.n:=h1
      rw[xn,xn,e1,e2]
      show ga.1.n<gb.1.n
      have ne:ga.1.n≠gb.1.n:=fun e=>h2 (hinj a b (by rw[hGA.ln];exact hb a ha) (by rw[hGA.ln];exact hb b hb') (by dsimp only;rw[e1,e2];exact e))
      omega
     rw[show(SG.filter fun g=>decide (ks.length/2+1<=g.2.2.length)).map (·.2)=(SG.map (·.2)).filter fun g=>decide (ks.length/2+1<=g.2.length) by rw[x19];rfl]
     refine⟨List.Pairwise.sublist x0k hpw,fun g=>?_⟩
     rw[xi,hmem,x10]
     constructor
     .rintro⟨m,l⟩
      exact⟨(hG.mm _).mp (xw.mpr ⟨g,m,rfl⟩),hG.oc g m,l⟩
     .rintro⟨m,o,l⟩
      obtain⟨g',hg',e⟩:=xw.mp ((hG.mm _).mpr m)
      have:g'=g:=Prod.ext e (by rw[hG.oc g' hg',o,e])
      exact⟨this▸hg',l⟩
    have lK:(SG.filter fun g=>decide (ks.length/2+1<=g.2.2.length)).length<64:=Nat.lt_of_le_of_lt (xj _ _) lSG
    generalize SG.filter (fun g=>decide (ks.length/2+1<=g.2.2.length))=K1 at g8 hK hKs lK⊢
    refine⟨pk,rfl,⟨_,SqL.of g8⟩,?_⟩
    refine z1d (xs:=K1.map fun g=>V.ref g.1) (by rw[x0];exact zf (by omega)) (fun i acc H9=>∃R:List HR,acc=R.map (fun t=>V.ref t.1)/\R.map (·.2.1)=(K1.take i).map (·.2)/\RowsC H H9 R/\Same H8 H9) ⟨[],rfl,rfl,fun t ht=>(by cases ht),Same.refl _⟩ ?_ ?_ ?_ ?_
    .rintro i acc H9 ⟨R,rfl,eR,-,-⟩
     have:=x0u List.length eR
     rw[x0,x0,x04]at this
     rw[x0]
     omega
    .rintro i acc H9 ⟨R,-,-,-,s9⟩
     exact SqL.of (s9 _ _ g8)
    .rintro Nn i acc H9 x hN hx hi ⟨R,rfl,eR,hR,s9⟩
     rw[xc]at hx
     obtain⟨g,hg,rfl⟩:=x08.mp hx
     walk_at "rd"
     obtain⟨i',z,ez,eg,e1⟩:=hSG.2 g (hK g (x9 hg))
     have hA9:=hA6.mono (fun b o e _=>s9 _ _ (s8 _ _ e))
     obtain⟨k1,t1,q0,d,e⟩:=hA9.at_ i' z _ ez eg
     rw[e1]at t1
     have hq0:H q0=none:=hE.2.2 z (x9 ez) q0 d
     refine⟨_,_,_,_,rfl,rfl,SqT.of t1,zc (j:=0) rfl,_,_,_,_,rfl,rfl,SqT.of t1,zc (j:=1) rfl,_,_,_,_,rfl,rfl,SqT.of t1,zc (j:=3) rfl,_,_,_,_,rfl,rfl,SqT.of t1,zc (j:=4) rfl,q0,nkey g.2.1,xs,s9 _ _ (s8 _ _ gE6),hA9.kat,⟨_,t1,rfl⟩,_,hA9.get hG.nd ez eg,d,zf (by decide),fun pn hpn=>?_⟩
     have sN:=Same.upd (o:=.tup [.int g.2.1.n,.str g.2.1.h,.bl g.2.1.sh,.int g.2.1.e,.ref q0]) hpn
     refine hN _ _ ⟨R++[(pn,g.2,q0)],by rw[x0b];rfl,?_,fun t ht=>?_,s9.trans sN⟩
     .rw[x0b,eR,z2d _ hg]
      rfl
     .rcases xz.mp ht with ht|ht
      .exact hR.mono sN t ht
      .rw[xm.mp ht]
       exact⟨z8,sN _ _ e,hq0⟩
    .rintro acc H9 ⟨R,rfl,eR,hR,s9⟩ pe hpe
     rw[x0,x02]at eR
     have sE:=Same.upd (o:=.lst (R.map fun t=>V.ref t.1)) hpe
     refine q pe R _ (zu (sH6.trans (s8.trans s9)) hpe) z8 (hR.mono sE) (eR▸hKs) (sH6.trans (s8.trans (s9.trans sE)))
theorem zh7{M:List Nt}(h:M.Pairwise fun a b=>a.n<b.n)(x:Nt):M.filter (fun y=>decide (y=x))=if x∈M then[x] else[]:=by
 induction h with
 |nil=>rfl
 |cons h1 _ ih=>
  rename_i a l _
  by_cases c:a=x
  .subst c
   rw[List.filter_cons_of_pos (by simp),x1s.mpr,if_pos (x0c ..)]
   intro y hy hh
   have:=h1 y hy
   rw[x05 hh]at this
   omega
  .rw[List.filter_cons_of_neg (by simpa using c),ih]
   by_cases m:x∈l
   .rw[if_pos m,if_pos (x09 _ m)]
   .rw[if_neg m,if_neg (fun z=>(xo.mp z).elim (fun z=>c z.symm) m)]
theorem zh8(T T':List (Nt×Nat))(x:Nt):occ (T++T') x=occ T x++occ T' x:=by unfold occ;rw[x1f,x0b]
theorem zja{N:List Nt}{lk:Str}{tick:Int}{j:Nat}{x:Nt}(hp:N.Pairwise fun a b=>a.n<b.n)(hl:x.l=lk):occ (z2m lk tick j N) x=if x∈z1g tick N then[j] else[]:=by
 unfold occ z2m
 rw[x19,List.map_map,x0j]
 have e:((z1g tick N).filter fun a=>(((fun t:Nt×Nat=>decide (t.1=x))∘fun x:Nt=>(x,j)) a&&decide (a.l=lk)))=(z1g tick N).filter fun a=>decide (a=x):=x1c fun a _=>by
  show(decide (a=x)&&decide (a.l=lk))=decide (a=x)
  by_cases c:a=x
  .subst c;simp[hl]
  .simp[c]
 have hp2:(z1g tick N).Pairwise fun a b=>a.n<b.n:=List.Pairwise.sublist x0k hp
 rw[e,zh7 hp2 x]
 split<;>rfl
theorem Rel.occ{S:Sv}{ss:List KN}{n:Nat}(h:Rel S ss n)(nu:zh5 ss){x:Nt}(hx:∃s∈ss,x∈s.N){lk:Str}(hl:x.l=lk):∀js:List Nat,(∀j∈js,j<n)->occ (z1m ss lk S.now js) x=js.filter (drAt ss x.n S.now)
 |[],_=>rfl
 |j::js,hj=>by
  have ih:=Rel.occ h nu hx hl js fun k hk=>hj k (x09 _ hk)
  have hjl:j<ss.length:=by rw[h.ln];exact hj j (x0c ..)
  have es:ss[j]? =some ss[j]:=x6 hjl
  have e1:z1m ss lk S.now (j::js)=z2m lk S.now j ss[j].N++z1m ss lk S.now js:=by unfold z1m;rw[List.flatMap_cons,es]
  have e2:drAt ss x.n S.now j=decide (x∈z1g S.now ss[j].N):=by
   unfold drAt
   rw[es]
   show hasN x.n S.now ss[j]=_
   unfold hasN
   rw[x18,List.any_eq_true,x10]
   constructor
   .rintro⟨y,hy,e⟩
    obtain⟨s,ms,mx⟩:=hx
    rw[<-nu _ (x1b hjl) s ms y (xi.mp hy).1 x mx (x05 e)]
    exact hy
   .intro m
    exact⟨x,m,xx rfl⟩
  rw[e1,zh8,zja (h.pw _ (x1b hjl)).1 hl,ih,List.filter_cons,e2]
  by_cases m:x∈z1g S.now ss[j].N
  .rw[if_pos m,if_pos (xx m)]
   rfl
  .rw[if_neg m,if_neg (by simpa using m)]
   rfl
theorem walkC_iff{ss:List KN}{lk:Str}{tick:Int}{js:List Nat}{x:Nt}:x∈(z1m ss lk tick js).map (·.1)↔∃j∈js,∃s,ss[j]? =some s/\x∈z1g tick s.N/\x.l=lk:=by
 unfold z1m
 constructor
 .intro h
  obtain⟨t,ht,rfl⟩:=xw.mp h
  obtain⟨j,mj,hj⟩:=List.mem_flatMap.mp ht
  cases e:ss[j]? with
  |none=>rw[e]at hj;cases hj
  |some s=>
   rw[e]at hj
   unfold z2m at hj
   obtain⟨x,hx,rfl⟩:=xw.mp hj
   exact⟨j,mj,s,e,(xi.mp hx).1,x05 (xi.mp hx).2⟩
 .rintro⟨j,mj,s,e,hx,hl⟩
  refine xw.mpr ⟨(x,j),List.mem_flatMap.mpr ⟨j,mj,?_⟩,rfl⟩
  rw[e]
  unfold z2m
  exact xw.mpr ⟨x,xi.mpr ⟨hx,xx hl⟩,rfl⟩
theorem Rel.live{S:Sv}{ss:List KN}{n:Nat}(h:Rel S ss n){j:Nat}{s:KN}(hs:ss[j]? =some s){x:Nt}:x∈z1g S.now s.N↔∃q∈S.N,q.2.k=j/\S.now<q.2.x.e/\q.2.x=x:=by
 rw[h.nt j s hs]
 constructor
 .intro m
  obtain⟨q,hq,rfl⟩:=xw.mp m
  obtain⟨mq,eq⟩:=xi.mp hq
  obtain⟨q0,m0,rfl⟩:=xw.mp mq
  rw[x07]at eq
  exact⟨q0,m0,x05 eq.1,x05 eq.2,rfl⟩
 .rintro⟨q,mq,ek,el,rfl⟩
  exact xw.mpr ⟨q.2,xi.mpr ⟨x13 mq,by rw[xx ek,xx el];rfl⟩,rfl⟩
theorem HavOf.one{T:List (Nt×Nat)}{m:Nat}{K K':List (Nt×List Nat)}(h:HavOf T m K)(h':HavOf T m K'):K=K':=by
 have nd:∀{K:List (Nt×List Nat)},K.Pairwise (fun a b=>a.1.n<b.1.n)->K.Nodup:=fun p=>p.imp fun{a b} l e=>by rw[e]at l;omega
 refine List.Perm.eq_of_pairwise (le:=fun a b:Nt×List Nat=>a.1.n<b.1.n) (fun a b _ _ h1 h2=>by omega) h.up h'.up ?_
 rw[List.perm_ext_iff_of_nodup (nd h.up) (nd h'.up)]
 intro g
 rw[h.mm,h'.mm]
theorem Inv13.num{ss:List KN}{n:Nat}{N:KL}{now:Int}{L:List Nt}{top:Int}(I:Inv13 ss n N now L top):zh5 ss:=fun s hs s' hs' x hx y hy e=>ze0 I.up (I.fr s hs x hx) (I.fr s' hs' y hy) e
structure HavTo(T:List (Nt×Nat))(m:Nat)(ns:List Int)(K:List (Nt×List Nat)):Prop where
 up:K.Pairwise fun a b=>a.1.n<b.1.n
 mm:∀g,g∈K↔g.1.n∈ns/\g.1∈T.map (·.1)/\g.2=occ T g.1/\m<=g.2.length
theorem HavTo.nil(T:List (Nt×Nat))(m:Nat):HavTo T m [] []:=⟨List.Pairwise.nil,fun g=>⟨fun h=>(by cases h),fun h=>(by cases h.1)⟩⟩
theorem HavTo.all{T:List (Nt×Nat)}{m:Nat}{ns:List Int}{K:List (Nt×List Nat)}(h:HavTo T m ns K)(ha:∀x∈T.map (·.1),x.n∈ns):HavOf T m K:=⟨h.up,fun g=>by rw[h.mm];exact⟨fun z=>z.2,fun z=>⟨ha _ z.1,z⟩⟩⟩
theorem HavTo.no{T:List (Nt×Nat)}{m:Nat}{ns:List Int}{K:List (Nt×List Nat)}(h:HavTo T m ns K)(a:Int)(ha:∀x∈T.map (·.1),x.n=a->¬ m<=(occ T x).length):HavTo T m (ns++[a]) K:=⟨h.up,fun g=>by
 rw[h.mm]
 constructor
 .exact fun z=>⟨x0t _ z.1,z.2⟩
 .rintro⟨z1,z2,z3,z4⟩
  rcases xz.mp z1 with y|y
  .exact⟨y,z2,z3,z4⟩
  .exact absurd (z3▸z4) (ha _ z2 (xm.mp y))⟩
theorem HavTo.yes{T:List (Nt×Nat)}{m:Nat}{ns:List Int}{K:List (Nt×List Nat)}(h:HavTo T m ns K)(x:Nt)(hx:x∈T.map (·.1))(hl:∀k∈ns,k<x.n)(hm:m<=(occ T x).length)(h1:∀y∈T.map (·.1),y.n=x.n->y=x):HavTo T m (ns++[x.n]) (K++[(x,occ T x)]):=⟨by
 rw[List.pairwise_append]
 refine⟨h.up,List.pairwise_singleton _ _,fun a ha b hb=>?_⟩
 rw[xm.mp hb]
 exact hl _ ((h.mm a).mp ha).1,fun g=>by
 rw[xz,xz,h.mm,xm,xm]
 constructor
 .rintro(z|rfl)
  .exact⟨.inl z.1,z.2⟩
  .exact⟨.inr rfl,hx,rfl,hm⟩
 .rintro⟨z1|z1,z2,z3,z4⟩
  .exact .inl ⟨z1,z2,z3,z4⟩
  .right
   have e:=h1 _ z2 z1
   exact Prod.ext e (by rw[z3,e])⟩
theorem ze2{α:Type}[DecidableEq α]:∀{A B:List α},A.Nodup->(∀x∈A,x∈B)->A.length<=B.length
 |[],_,_,_=>x03 _
 |a::A,B,h,s=>by
  obtain⟨h1,h2⟩:=List.nodup_cons.mp h
  have hb:=s a (x0c ..)
  have:=ze2 (B:=B.erase a) h2 fun x hx=>(List.mem_erase_of_ne (fun e=>by rw[e]at hx;exact h1 hx)).mpr (s x (x09 _ hx))
  rw[List.length_erase_of_mem hb]at this
  have:=List.length_pos_of_mem hb
  rw[x0o]
  omega
noncomputable def numL(lk:Str)(N:List Nk):List Int:=(N.filter fun q=>decide (q.x.l=lk)).map (·.x.n)
theorem zfj{lk:Str}{N:KL}{a:Int}(h:a∈numL lk (N.map (·.2))):∃q∈N,q.2.x.l=lk/\q.2.x.n=a:=by
 unfold numL at h
 obtain⟨q,hq,rfl⟩:=xw.mp h
 obtain⟨mq,e⟩:=xi.mp hq
 obtain⟨q0,m0,rfl⟩:=xw.mp mq
 exact⟨q0,m0,x05 e,rfl⟩
theorem zm9{lk:Str}{N:KL}{q:Addr×Nk}(hq:q∈N)(e:q.2.x.l=lk):q.2.x.n∈numL lk (N.map (·.2)):=xw.mpr ⟨q.2,xi.mpr ⟨x13 hq,xx e⟩,rfl⟩
theorem zli{ss:List KN}{n:Nat}{N:KL}{now:Int}{L:List Nt}{top:Int}(I:Inv13 ss n N now L top)(h:L.length<64)(lk:Str):(gAll (numL lk (N.map (·.2)))).length<64:=by
 refine Nat.lt_of_le_of_lt (ze2 (B:=L.map (·.n)) (z6f _) fun a ha=>?_) (by rw[x0];exact h)
 rw[z8z]at ha
 obtain⟨q,mq,-,rfl⟩:=zfj ha
 exact x13 (I.fq q mq)
theorem zke{S:Sv}{ss:List KN}{n:Nat}{L:List Nt}{top:Int}(h:Rel S ss n)(I:Inv13 ss n S.N S.now L top){lk:Str}{a:Int}(ha:a∈numL lk (S.N.map (·.2))):
  (∀x∈(z1m ss lk S.now (upl ss n)).map (·.1),x.n=a->(occ (z1m ss lk S.now (upl ss n)) x)=(upl ss n).filter (drAt ss a S.now))/\
  (∀q∈S.N.filter (fun q=>isDr a S.now S.us q.2),q.2.x.n=a/\q.2.x∈(z1m ss lk S.now (upl ss n)).map (·.1)):=by
 constructor
 .rintro x hx rfl
  obtain⟨j,mj,s,es,mx,hl⟩:=walkC_iff.mp hx
  exact h.occ I.num ⟨s,x9 es,(xi.mp mx).1⟩ hl _ fun j hj=>(z29 hj).1
 .intro q hq
  obtain⟨mq,dq⟩:=xi.mp hq
  unfold isDr at dq
  rw[x07,x07]at dq
  obtain⟨d1,d2,d3⟩:=dq
  have d1:=x05 d1
  have d2:=x05 d2
  refine⟨d1,?_⟩
  have kl:=h.kb q mq
  have hj:q.2.k<ss.length:=by rw[h.ln];exact kl
  have es:ss[q.2.k]? =some ss[q.2.k]:=x6 hj
  obtain⟨q0,m0,e0,e1⟩:=zfj ha
  have ex:q0.2.x=q.2.x:=ze0 I.up (I.fq q0 m0) (I.fq q mq) (by rw[e1,d1])
  refine walkC_iff.mpr ⟨q.2.k,xi.mpr ⟨x0s.mpr kl,?_⟩,_,es,(h.live es).mpr ⟨q,mq,rfl,d2,rfl⟩,by rw[<-ex];exact e0⟩
  unfold upAt
  rw[es]
  show ss[q.2.k].u=true
  rw[h.us,xn,xc,es]at d3
  exact d3
theorem zlj{S:Sv}{ss:List KN}{n:Nat}(h:Rel S ss n){lk:Str}{x:Nt}(hx:x∈(z1m ss lk S.now (upl ss n)).map (·.1)):x.n∈numL lk (S.N.map (·.2)):=by
 obtain⟨j,mj,s,es,mx,hl⟩:=walkC_iff.mp hx
 obtain⟨q,mq,-,-,rfl⟩:=(h.live es).mp mx
 exact zm9 mq hl
noncomputable def ze3(P:Program)(w:World)(K:PySem.W.Frag):Sp:=fun vs H Q _=>∃(d:Addr)(S:Sv)(u:Su)(lk:Str)(ss:List KN)(L:List Nt)(top:Int),vs=[.ref d,.str lk]/\StAt H d S u/\SayP S u/\Rel S ss u.n/\Inv13 ss u.n S.N S.now L top/\L.length<64/\
 ∀(r:Addr)(R:List HR)(H':Hp),H' r=some (.lst (R.map fun t=>V.ref t.1))->RowsC H H' R->HavOf (z1m ss lk S.now (upl ss u.n)) (u.n/2+1) (R.map (·.2.1))->Same H H'->Q (.ref r) H'
noncomputable def za4(D:KL):V:=match D.getLast? with|some q=>.ref q.1|none=>.non
theorem zax(F:Def K mg "_law_having" z4k ["_law_state","_law_lock"])(T:Txt K mg y0 yb ya y6 y9 y8 y7):Has P w K mg base 1 "_law_having" ["_law_state","_law_lock"] (ze3 P w K):=by
 refine F.ok sc__law_having (fun vs H Q E h=>?_) (fun f cdv A outer s H vs Q E hr h=>?_)
 .obtain⟨d,S,u,lk,ss,L,top,rfl,_⟩:=h
  rfl
 .obtain⟨d,S,u,lk,ss,L,top,rfl,hS,⟨hok,hun,hll,hn⟩,hR,I,hL,q⟩:=h
  have hkb:=hR.kb
  have h64:(gAll (numL lk (S.N.map (·.2)))).length<64:=zli I hL lk
  have hu:=hr.units0
  have hu2:=z3n hr
  refine⟨_,(@za _ _ _ _ _ (@zk _ _ 2 _ _ _ _ sc__law_having.nd rfl (Or.inl rfl) (@z1c _ _ _ _ z9) rfl (Or.inr rfl)) (@za _ _ _ _ _ (@z1u _ _ _ _ _ _ _ _ x0m rfl (@z12 _ _ _ _ (@zj _ _ _ _ _ _ _ _ _ (zbv rfl) rfl T.b_sorted (by decide+kernel) (@z6 _ _ _ _ _ (@z74 _ _ _ _ _ _ _ _ _ (zgp rfl) rfl T.b_set (by decide+kernel) (@z6 _ _ _ _ _ (@z1z _ _ "_law_note" (["_law_lock"]) ([1]) _ _ _ _ _ _ _ _ rfl ⟨rfl,by decide+kernel,by decide+kernel,rfl,zv rfl,by decide+kernel,⟨⟨rfl,Or.inl rfl,rfl⟩,trivial⟩⟩ (@z12 _ _ _ _ (@zx _ _ _ _ _ _ hu2 (pv 0) zl (fun _ _=>rfl))) (fun _ _ _ _=>(@z28 _ _ _ (@zo _ _ _ _ _ _ _ _ z1f (@zi _ _ _ _ _ _ _ (z1e (K:=K)) (pv 0) z7 (fun _ _=>rfl)) (pv 1) (zm _)))) (fun _ _ _ _=>(@zi _ _ _ _ _ _ _ (z1e (K:=K)) (pv 0) z7 (fun _ _=>rfl))) (by intro _;rfl)) z9 rfl) (by decide) (by decide) rfl rfl) z9 rfl) (by decide) (by decide) rfl rfl)) (@z15 _ _ 3 _ sc__law_having.nd rfl (Or.inl rfl) (Or.inr rfl)) (@za _ _ _ _ _ (@zk _ _ 4 _ _ _ _ sc__law_having.nd rfl (Or.inl rfl) (@z1c _ _ _ _ z9) rfl (Or.inr rfl)) (@za _ _ _ _ _ (@zk _ _ 5 _ _ _ _ sc__law_having.nd rfl (Or.inl rfl) zlp rfl (Or.inr rfl)) (@za _ _ _ _ _ (@z1u _ _ _ _ _ _ _ _ x0m rfl (@z12 _ _ _ _ (@zx _ _ _ _ _ _ hu2 (pv 0) zl (fun _ _=>rfl))) (@z15 _ _ 6 _ sc__law_having.nd rfl (Or.inl rfl) (Or.inr rfl)) (@zd _ _ _ (@z11 _ _ _ _ _ _ _ _ (PW.pt (@z2w _ _ _ _ _ _ _ (@zo _ _ _ _ _ _ _ _ z1f (@zi _ _ _ _ _ _ _ ix_tup (pv 6) z7 (fun _ _=>rfl)) (pv 3) (zm _)) (@z2w _ _ _ _ _ _ _ (@zo _ _ _ _ _ _ _ _ z7z (@zi _ _ _ _ _ _ _ ix_tup (pv 6) z7 (fun _ _=>rfl)) (@zx _ _ _ _ _ _ hu2 (pv 0) zl (fun _ _=>rfl)) (zm _)) (@z3v _ _ _ _ (@z1i _ _ _ (@zi _ _ _ _ _ _ _ ix_list (@zx _ _ _ _ _ _ hu2 (pv 0) zl (fun _ _=>rfl)) (@zg _ _ _ _ _ _ _ _ z2n (@zi _ _ _ _ _ _ _ ix_tup (pv 6) z7 (fun _ _=>rfl)) z7) (fun _ _=>rfl)) (by intro _;rfl)))))) (@za _ _ _ _ _ (@z1h _ _ _ _ (@z2c _ _ _ _ _ _ _ _ _ _ _ _ x0a x0d x0e z1r (pv 4) (@z6 _ _ _ _ _ (@zi _ _ _ _ _ _ _ ix_tup (pv 6) z7 (fun _ _=>rfl)) z9 rfl) rfl rfl rfl rfl rfl) rfl) (@zd _ _ _ (@zk _ _ 5 _ _ _ _ sc__law_having.nd rfl (Or.inl rfl) (pv 6) rfl (Or.inr rfl)))) zp)) (by intro _;rfl)) (@zd _ _ _ (@z11 _ _ _ _ _ _ _ _ (@zo _ _ _ _ _ _ _ _ z7z (@zg _ _ _ _ _ _ _ _ z5t z7 (@zj _ _ _ _ _ _ _ _ _ zq rfl T.b_len (by decide+kernel) (@z6 _ _ _ _ _ (pv 4) z9 rfl) (by decide) (by decide) rfl rfl)) (@zi _ _ _ _ _ _ _ ix_tup (@zx _ _ _ _ _ _ hu2 (pv 0) zl (fun _ _=>rfl)) z7 (fun _ _=>rfl)) (zm _)) (@zd _ _ _ (@z1h _ _ _ _ (@z2c _ _ _ _ _ _ _ _ _ _ _ _ x0a x0d x0e z1r (pv 2) (@z6 _ _ _ _ _ (@z1p _ _ _ _ _ (@z6 _ _ _ _ _ (pv 3) (@z6 _ _ _ _ _ (@zi _ _ _ _ _ _ _ ix_tup (pv 5) z7 (fun _ _=>rfl)) (@z6 _ _ _ _ _ (@zi _ _ _ _ _ _ _ ix_tup (pv 5) z7 (fun _ _=>rfl)) (@z6 _ _ _ _ _ (@zi _ _ _ _ _ _ _ ix_tup (pv 5) z7 (fun _ _=>rfl)) (@z6 _ _ _ _ _ (@zj _ _ _ _ _ _ _ _ _ z7e rfl T.b_sorted (by decide+kernel) (@z6 _ _ _ _ _ (pv 4) z9 rfl) (by decide) (by decide) rfl rfl) z9 rfl) rfl) rfl) rfl) rfl)) z9 rfl) rfl rfl rfl rfl rfl) rfl)) zp))))) (by intro _;rfl)) (@zd _ _ _ (@zn _ _ _ _ (pv 2))))),?_⟩
  walk_at "rd"
  refine⟨x03 _,fun pf hpf=>?_⟩
  have s1:=Same.upd (o:=.lst []) hpf
  have g1:upd H pf (.lst []) pf=some (.lst []):=z8
  generalize upd H pf (.lst [])=H1 at s1 g1⊢
  have hS1:=hS.mono s1
  refine⟨_,z56 hS1.st,_,rfl,⟨_,SqL.of hS1.gn⟩,?_⟩
  refine z1d (xs:=refk S.N) (by rw[z2v];exact zf (by omega)) (fun i acc H'=>H'=H1/\acc=(numL lk ((S.N.take i).map (·.2))).map V.int) ⟨rfl,rfl⟩ ?_ ?_ ?_ ?_
  .rintro i acc H' ⟨-,rfl⟩
   unfold numL
   rw[x0,x0]
   exact xp (xj _ _) (by rw[x0,x04];omega)
  .rintro i acc H' ⟨rfl,-⟩
   exact SqL.of hS1.gn
  .rintro Nn i acc H' x hN hx hi ⟨rfl,rfl⟩
   obtain⟨y,hy,rfl⟩:=z55 hx
   walk_at "rd"
   have ty:=hS1.kn y (x9 hy)
   have stp:numL lk ((S.N.take (i+1)).map (·.2))=numL lk ((S.N.take i).map (·.2))++(if y.2.x.l=lk then[y.2.x.n] else[]):=by
    unfold numL
    rw[z2d _ hy,x1f,x0b]
    by_cases h:y.2.x.l=lk<;>simp[h]
   refine⟨_,_,_,_,rfl,rfl,SqT.of ty,zc (j:=3) rfl,rfl,?_⟩
   by_cases h:y.2.x.l=lk
   .rw[if_pos (xx (x0u V.str h))]
    refine⟨_,_,_,_,rfl,rfl,SqT.of ty,zc (j:=1) rfl,hN _ _ ⟨rfl,?_⟩⟩
    rw[stp,if_pos h,x0b]
    rfl
   .rw[if_neg (by simpa using h)]
    refine hN _ _ ⟨rfl,?_⟩
    rw[stp,if_neg h,x0l]
  .rintro acc H' ⟨rfl,rfl⟩ pn hpn
   rw[z2v,x02]
   have s2:=Same.upd (o:=.lst ((numL lk (S.N.map (·.2))).map V.int)) hpn
   have g2:upd H' pn (.lst ((numL lk (S.N.map (·.2))).map V.int)) pn=some (.lst ((numL lk (S.N.map (·.2))).map V.int)):=z8
   generalize upd H' pn (.lst ((numL lk (S.N.map (·.2))).map V.int))=H2 at s2 g2⊢
   have nl:(numL lk (S.N.map (·.2))).length<=400:=by
    unfold numL
    rw[x0]
    exact xp (xj _ _) (by rw[x0];exact hn)
   refine⟨pn,rfl,_,SqL.of g2,Nat.lt_of_le_of_lt (Nat.succ_le_succ nl) (by decide),fun ds hds=>⟨_,z8,z6f _,h64,fun l5 ks5 hl5 hp5 hs5=>⟨⟨_,SqL.of z8⟩,?_⟩⟩⟩
   have s3:=Same.upd (o:=eso (intKind P w) ds (gAll (numL lk (S.N.map (·.2))))) hds
   have s4:=Same.upd (o:=.lst (ks5.map V.int)) hl5
   have nlp:l5≠pf:=fun e=>by have z:=s3 _ _ (s2 _ _ g1);rw[<-e,hl5]at z;cases z
   have g4:upd (upd H2 ds (eso (intKind P w) ds (gAll (numL lk (S.N.map (·.2)))))) l5 (.lst (ks5.map V.int)) l5=some (.lst (ks5.map V.int)):=z8
   generalize upd (upd H2 ds (eso (intKind P w) ds (gAll (numL lk (S.N.map (·.2)))))) l5 (.lst (ks5.map V.int))=H4 at s3 s4 g4⊢
   have s14:=s2.trans (s3.trans s4)
   have hpw:ks5.Pairwise (·<·):=(hs5.and (hp5.nodup_iff.mpr (z6f _))).imp fun{a b} h=>by omega
   have l5le:ks5.length<64:=by rw[hp5.length_eq];exact h64
   have s04:=s1.trans s14
   have gf4:=s14 _ _ g1
   refine z1b (xs:=ks5.map V.int) (fun i σ H'=>∃(R:List HR)(v3 v4 v5 v6:Option V),σ=[some (V.ref d),some (V.str lk),some (V.ref pf),v3,v4,v5,v6]/\H' pf=some (.lst (R.map fun t=>V.ref t.1))/\RowsC H H' R/\HavTo (z1m ss lk S.now (upl ss u.n)) (u.n/2+1) (ks5.take i) (R.map (·.2.1))/\R.length<=i/\(∀t∈R,t.2.2≠pf)/\But1 pf H4 H') ⟨[],_,_,_,_,rfl,gf4,(fun t ht=>by cases ht),HavTo.nil _ _,x03 _,(fun t ht=>by cases ht),fun b o e _=>e⟩ ?_ ?_ ?_
   .rintro i σ H'-⟨R,v3,v4,v5,v6,-,-,-,-,-,-,b4⟩
    exact SqL.of (b4 _ _ g4 nlp)
   .rintro Pv hP i x σ H' hx ⟨R,v3,v4,v5,v6,rfl,gf,hRows,hK,lR,nR,b4⟩
    rw[xc]at hx
    obtain⟨a,ea,rfl⟩:=x08.mp hx
    have hi5:=(xg.mp ea).1
    have sH:Same H H':=fun b o e=>b4 _ _ (s04 _ _ e) (ze e hpf)
    have hS':=hS.mono sH
    walk_at "rd"
    refine⟨x03 _,fun pb hpb=>?_⟩
    have s6:=Same.upd (o:=.lst []) hpb
    have g6:upd H' pb (.lst []) pb=some (.lst []):=z8
    generalize upd H' pb (.lst [])=H6 at s6 g6⊢
    have hS6:=hS'.mono s6
    have nfb:pf≠pb:=fun e=>by rw[e,hpb]at gf;cases gf
    refine⟨_,z56 hS6.st,_,rfl,⟨_,SqL.of hS6.gn⟩,?_⟩
    refine z1b (xs:=refk S.N) (fun i σ H7=>∃(v6:Option V),σ=[some (V.ref d),some (V.str lk),some (V.ref pf),some (V.int a),some (V.ref pb),some (za4 ((S.N.take i).filter fun q=>isDr a S.now S.us q.2)),v6]/\H7 pb=some (.lst ((((S.N.take i).filter fun q=>isDr a S.now S.us q.2).map fun q=>(q.2.k:Int)+1).map V.int))/\But1 pb H6 H7) ⟨_,rfl,g6,fun b o e _=>e⟩ ?_ ?_ ?_
    .rintro i σ H7-⟨v6,-,-,b7⟩
     exact SqL.of (b7 _ _ hS6.gn (ze hS'.gn hpb))
    .rintro Pv7 hP7 j x σ H7 hx ⟨v6,rfl,gb7,b7⟩
     obtain⟨y,hy,rfl⟩:=z55 hx
     have my:=x9 hy
     have hj:j<S.N.length:=(xg.mp hy).1
     have st1:=z1l (fun q:Addr×Nk=>isDr a S.now S.us q.2) hy
     have s7:Same H' H7:=fun b o e=>b7 _ _ (s6 _ _ e) (ze e hpb)
     have hS7:=hS'.mono s7
     have hy1:=hS7.kn y my
     have l1:((S.N.take j).filter fun q=>isDr a S.now S.us q.2).length<=400:=xp (xj _ _) (by rw[x04];omega)
     have no:isDr a S.now S.us y.2=false->Pv7 (j+1) [some (V.ref d),some (V.str lk),some (V.ref pf),some (V.int a),some (V.ref pb),some (za4 ((S.N.take j).filter fun q=>isDr a S.now S.us q.2)),some (V.ref y.1)] H7:=fun e=>by
      refine hP7 _ _ _ ⟨some (V.ref y.1),?_,?_,b7⟩
      .rw[st1,if_neg (by rw[e];exact xa),x0l]
      .rw[st1,if_neg (by rw[e];exact xa),x0l];exact gb7
     have hyk:y.2.k<S.us.length:=by have:=hkb y my;omega
     have gbk:(S.us.map V.bl)[y.2.k]? =some (.bl S.us[y.2.k]):=by rw[xc,x6 hyk];rfl
     have eb:S.us.getD y.2.k false=S.us[y.2.k]:=by rw[xn,x6 hyk];rfl
     walk_at "rd"
     refine⟨_,_,_,_,rfl,rfl,SqT.of hy1,zc (j:=1) rfl,rfl,?_⟩
     by_cases c1:y.2.x.n=a
     rotate_left
     .rw[if_neg (by simpa using c1)]
      exact no (by unfold isDr;simp[c1])
     rw[if_pos (xx (x0u V.int c1))]
     refine⟨_,_,_,_,rfl,rfl,SqT.of hy1,zc (j:=5) rfl,_,z30 hS7.st,_,rfl,_,rfl,?_⟩
     by_cases c2:S.now<y.2.x.e
     rotate_left
     .rw[if_neg (by simpa using c2)]
      exact no (by unfold isDr;simp[c2])
     rw[if_pos (xx c2)]
     refine⟨_,z7v hS7.st,_,_,_,_,rfl,rfl,SqT.of hy1,zc (j:=0) rfl,_,rfl,?_⟩
     rw[show((y.2.k:Int)+1)-1=(y.2.k:Int) by omega]
     refine⟨_,_,_,_,rfl,rfl,SqL.of hS7.gu,zc gbk,_,rfl,?_⟩
     cases c3:S.us[y.2.k]with
     |true=>
      rw[if_pos rfl]
      have e:isDr a S.now S.us y.2=true:=by unfold isDr;rw[eb,c3];simp[c1,c2]
      refine⟨.inl ⟨_,SqL.of gb7⟩,_,_,_,_,rfl,rfl,SqT.of hy1,zc (j:=0) rfl,_,_,_,rfl,rfl,gb7,z1k (by rw[x0,x0];omega),hP7 _ _ _ ⟨some (V.ref y.1),?_,?_,fun b o hb nb=>by rw[zb nb];exact b7 _ _ hb nb⟩⟩
      .rw[st1,if_pos e]
       unfold za4
       rw[List.getLast?_concat]
      .rw[z8,st1,if_pos e];simp
     |false=>
      rw[if_neg xa]
      exact no (by unfold isDr;rw[eb,c3];simp)
    .rintro σ H7 ⟨v6,rfl,gb7,b7⟩
     rw[z2v,x02]at gb7⊢
     have s7:Same H' H7:=fun b o e=>b7 _ _ (s6 _ _ e) (ze e hpb)
     have hS7:=hS'.mono s7
     have gf7:=s7 _ _ gf
     have ha:a∈numL lk (S.N.map (·.2)):=by rw[<-z8z,<-hp5.mem_iff];exact x9 ea
     obtain⟨stA,stB⟩:=zke hR I ha
     have pm:=hR.dr_perm a
     have dle:(S.N.filter fun q=>isDr a S.now S.us q.2).length<=400:=xp (xj _ _) hn
     have tk:=List.take_succ_eq_append_getElem (xg.mp ea).1
     walk_at "rd"
     refine⟨_,.inl (SqL.of gb7),.inl ⟨by decide,by decide⟩,_,z6r hS7.st,_,_,_,_,rfl,rfl,SqT.of hS7.su.tu,zc (j:=0) rfl,_,rfl,?_⟩
     rw[x0,x0]
     rcases Nat.lt_or_ge u.n (2*(S.N.filter fun q=>isDr a S.now S.us q.2).length) with cm|cm
     .rw[if_pos (xx (by omega))]
      obtain⟨D,y,eD⟩:∃D y,(S.N.filter fun q=>isDr a S.now S.us q.2)=D++[y]:=by
       cases h:(S.N.filter fun q=>isDr a S.now S.us q.2) with
       |nil=>rw[h]at cm;exact absurd cm (by simp)
       |cons z t=>exact⟨_,_,(List.dropLast_concat_getLast (List.cons_ne_nil z t)).symm⟩
      have my:y∈(S.N.filter fun q=>isDr a S.now S.us q.2):=by rw[eD];exact x01 _ (xm.mpr rfl)
      have ty:=hS7.kn y (xi.mp my).1
      obtain⟨ey,my2⟩:=stB y my
      have eo:=stA _ my2 ey
      have el:za4 (S.N.filter fun q=>isDr a S.now S.us q.2)=V.ref y.1:=by unfold za4;rw[eD,List.getLast?_concat]
      have h5:=hok.n5
      have ple:=pm.length_eq
      rw[x0]at ple
      have flt:((upl ss u.n).filter (drAt ss a S.now)).length<=5:=xp (xj _ _) (xp (z46 _ _) h5)
      rw[el]
      refine⟨.inl ⟨_,SqL.of gf7⟩,_,_,_,_,rfl,rfl,SqT.of ty,zc (j:=2) rfl,_,_,_,_,rfl,rfl,SqT.of ty,zc (j:=4) rfl,_,_,_,_,rfl,rfl,SqT.of ty,zc (j:=5) rfl,_,SqL.of gb7,by rw[x0];omega,fun l9 ks9 hl9 hp9 hs9=>⟨zf (by decide),fun p9 hp9'=>?_⟩⟩
      have e9:=hR.dropped a hp9 hs9
      rw[e9]at hp9'⊢
      have sA:=Same.upd (o:=.lst (zr ((upl ss u.n).filter (drAt ss a S.now)))) hl9
      have gA:upd H7 l9 (.lst (zr ((upl ss u.n).filter (drAt ss a S.now)))) l9=some (.lst (zr ((upl ss u.n).filter (drAt ss a S.now)))):=z8
      generalize upd H7 l9 (.lst (zr ((upl ss u.n).filter (drAt ss a S.now))))=HA at hp9' sA gA⊢
      have sB:=Same.upd (o:=.tup [V.int a,V.str y.2.x.h,V.bl y.2.x.sh,V.int y.2.x.e,V.ref l9]) hp9'
      have gB:upd HA p9 (.tup [V.int a,V.str y.2.x.h,V.bl y.2.x.sh,V.int y.2.x.e,V.ref l9]) p9=some (.tup [V.int a,V.str y.2.x.h,V.bl y.2.x.sh,V.int y.2.x.e,V.ref l9]):=z8
      generalize upd HA p9 (.tup [V.int a,V.str y.2.x.h,V.bl y.2.x.sh,V.int y.2.x.e,V.ref l9])=HB at sB gB⊢
      have s7B:=sA.trans sB
      have gfB:=s7B _ _ gf7
      have hl9H:H l9=none:=zu (sH.trans s7) hl9
      have n9f:l9≠pf:=fun z=>by rw[z,gf7]at hl9;cases hl9
      have np:∀b xs,HB b=some (.tup xs)->b≠pf:=fun b xs e z=>by rw[z,gfB]at e;cases e
      refine⟨_,_,_,rfl,rfl,gfB,z1k (by rw[x0];omega),hP _ _ _ ⟨R++[(p9,(y.2.x,occ (z1m ss lk S.now (upl ss u.n)) y.2.x),l9)],_,_,_,_,rfl,?_,fun t ht=>?_,?_,?_,fun t ht=>?_,fun b o e nb=>?_⟩⟩
      .rw[z8,x0b];rfl
      .rcases xz.mp ht with ht|ht
       .obtain⟨t1,t2,t3⟩:=hRows.mono (s7.trans s7B) t ht
        refine⟨by rw[zb (np _ _ t1)];exact t1,?_,t3⟩
        rw[zb (nR t ht)]
        exact t2
       .rw[xm.mp ht]
        refine⟨by rw[zb (np _ _ gB)];rw[gB,ey],?_,hl9H⟩
        show upd HB pf _ l9=some (.lst (zr (occ _ _)))
        rw[zb n9f,eo]
        exact sB _ _ gA
      .rw[tk,(xg.mp ea).2,x0b,<-ey]
       refine hK.yes y.2.x my2 (fun k hk=>?_) (by rw[eo];omega) fun z hz e=>?_
       .have:=hpw.sublist (List.take_sublist (i+1) ks5)
        rw[tk,(xg.mp ea).2,List.pairwise_append]at this
        rw[ey]
        exact this.2.2 k hk a (xm.mpr rfl)
       .obtain⟨s1,m1,n1⟩:=z4b hz
        obtain⟨s2,m2,n2⟩:=z4b my2
        exact I.num s1 m1 s2 m2 _ n1 _ n2 e
      .rw[x00]
       exact Nat.succ_le_succ lR
      .rcases xz.mp ht with ht|ht
       .exact nR t ht
       .rw[xm.mp ht]
        exact n9f
      .rw[zb nb]
       exact s7B _ _ (s7 _ _ (b4 _ _ e nb))
     .rw[if_neg (by simp;omega)]
      refine hP _ _ _ ⟨R,_,_,_,_,rfl,gf7,hRows.mono s7,?_,by omega,nR,fun b o e nb=>s7 _ _ (b4 _ _ e nb)⟩
      rw[tk,(xg.mp ea).2]
      refine hK.no a fun x hx ex=>?_
      rw[stA x hx ex]
      have ple:=pm.length_eq
      rw[x0]at ple
      omega
   .rintro σ H' ⟨R,v3,v4,v5,v6,rfl,gf,hRows,hK,lR,nR,b4⟩
    walk_at "rd"
    rw[x0,x02]at hK
    refine q pf R H' gf hRows (hK.all fun x hx=>?_) fun b o e=>b4 _ _ (s04 _ _ e) (ze e hpf)
    rw[hp5.mem_iff,z8z]
    exact zlj hR hx
theorem zfk{ss:List KN}{n:Nat}{N:KL}{now:Int}{L:List Nt}{top:Int}(I:Inv13 ss n N now L top)(h:L.length<=60){lk:Str}{tick:Int}{js:List Nat}{K:List Nt}(nd:K.Nodup)(hK:∀x∈K,x∈(z1m ss lk tick js).map (·.1)):K.length<=60:=by
 refine xp (ze2 nd fun x hx=>?_) h
 obtain⟨s,ms,mx⟩:=z4b (hK x hx)
 exact I.fr s ms x mx
structure Told(H H9:Hp)(r:Addr)(R:List HR)(ss:List KN)(n:Nat)(lk:Str)(now:Int):Prop where
 sm:Same H H9
 nw:H r=none
 li:H9 r=some (.lst (R.map fun t=>V.ref t.1))
 rw:RowsC H H9 R
 hv:HavOf (z1m ss lk now (upl ss n)) (n/2+1) (R.map (·.2.1))
 ln:R.length<=60
structure Cleared(H H9 H':Hp)(R:List HR):Prop where
 sm:Same H H'
 ls:∀t∈R,∃xs,H' t.2.2=some (.lst xs)
 keep:∀b o,H9 b=some o->(∀t∈R,b≠t.2.2)->H' b=some o
theorem Told.start{H H9:Hp}{r:Addr}{R:List HR}{ss:List KN}{n:Nat}{lk:Str}{now:Int}(h:Told H H9 r R ss n lk now):Cleared H H9 H9 R:=⟨h.sm,fun t ht=>⟨_,(h.rw t ht).2.1⟩,fun _ _ e _=>e⟩
theorem Told.nt{H H9:Hp}{r:Addr}{R:List HR}{ss:List KN}{n:Nat}{lk:Str}{now:Int}(h:Told H H9 r R ss n lk now):∀t∈R,∀t'∈R,t.1≠t'.2.2:=fun t ht t' ht' e=>by
 have a:=(h.rw t ht).1
 have b:=(h.rw t' ht').2.1
 rw[e,b]at a
 cases a
theorem Told.nr{H H9:Hp}{r:Addr}{R:List HR}{ss:List KN}{n:Nat}{lk:Str}{now:Int}(h:Told H H9 r R ss n lk now):∀t∈R,r≠t.2.2:=fun t ht e=>by
 have b:=(h.rw t ht).2.1
 obtain⟨j,hj⟩:=x1d ht
 have hm:=((h.hv.mm t.2.1).mp (x13 ht)).2.2
 rw[<-e,h.li]at b
 have b:=xq b
 injection b with b
 cases hR:R with
 |nil=>rw[hR]at ht;cases ht
 |cons t0 R'=>
  rw[hR]at b
  cases hl:t.2.1.2 with
  |nil=>rw[hl]at b;cases b
  |cons k l=>rw[hl]at b;unfold zr at b;rw[x0h,x0h]at b;injection b with b;cases b
theorem Cleared.put{H H9 H':Hp}{R:List HR}(h:Cleared H H9 H' R){t:HR}(ht:t∈R)(hf:H t.2.2=none):Cleared H H9 (upd H' t.2.2 (.lst [])) R:=⟨fun b o e=>by rw[zb (ze e hf)];exact h.sm _ _ e,fun t' ht'=>by
 by_cases c:t'.2.2=t.2.2
 .rw[c];exact⟨_,z8⟩
 .rw[zb c];exact h.ls t' ht',fun b o e n=>by rw[zb (n t ht)];exact h.keep _ _ e n⟩
theorem z8l{P:Program}{w:World}{K:PySem.W.Frag}{CC CK:Addr}{H:Hp}{c l:Addr}{ks ls:List Addr}{ss:List KN}{d:Addr}{S:Sv}{u:Su}{i:Nat}{lk:Str}{QQ:V->V->Hp->Prop}{E1 E2 E3:XK}(D:Day CC CK H c l ks ls ss d S u i)(hok:u.ok)(hi:i<=60)
  (q:∀(r:Addr)(R:List HR)(H9:Hp),Told H H9 r R ss u.n lk S.now->QQ (.ref r) (.bl true) H9):
  zh6 P w CC CK [.ref c,.str lk,.int S.now] H (fun x H1=>ze3 P w K [.ref d,.str lk] H1 (fun y H2=>z2q 3 [x,y] H2 (fun z H3=>QQ x z H3) E3) E2) E1:=by
 obtain⟨L,top,hL,I⟩:=D.iv
 have hL6:L.length<=60:=by omega
 refine⟨c,l,ks,ls,ss,lk,S.now,rfl,D.ca,fun s hs=>by have:=D.sb.nS s hs;omega,I.num,fun G hG=>?_,fun r R H1 hr0 gr hR hv s1=>?_⟩
 .have:=zfk I hL6 hG.nd fun x hx=>(hG.mm x).mp hx
  rw[x0]at this
  omega
 rw[D.kn]at hv
 have D1:=D.mono s1
 refine⟨d,S,u,lk,ss,L,top,rfl,D1.st,D1.say hok hi,D.rl,I,by omega,fun r2 R2 H2 gr2 hR2 hv2 s2=>?_⟩
 have eR:=hv.one hv2
 have lR:R.length<=60:=by
  have nd:((R.map (·.2.1)).map (·.1)).Nodup:=by
   have h:=hv.up
   rw[List.pairwise_map]at h
   rw[List.map_map,List.nodup_iff_pairwise_ne,List.pairwise_map]
   refine h.imp fun{a b} l e=>?_
   have e:a.2.1.1=b.2.1.1:=e
   rw[e]at l
   omega
  have:=zfk I hL6 nd fun x hx=>by
   obtain⟨g,hg,rfl⟩:=xw.mp hx
   exact((hv.mm g).mp hg).1
  rwa[x0,x0]at this
 have eL:=x0u List.length eR
 rw[x0,x0]at eL
 refine⟨_,_,rfl,.inr ⟨r,r2,_,_,rfl,rfl,.inl ⟨s2 _ _ gr,gr2⟩,by rw[x0,x0,eL],by rw[x0];omega,fun j x y hx hy=>?_⟩,fun H3 s3=>q r R H3 ⟨s1.trans (s2.trans s3),hr0,(s2.trans s3) _ _ gr,hR.mono (s2.trans s3),hv,lR⟩⟩
 rw[xc]at hx hy
 obtain⟨t,ht,rfl⟩:=x08.mp hx
 obtain⟨t2,ht2,rfl⟩:=x08.mp hy
 have et:t.2.1=t2.2.1:=by
  have:(R.map (·.2.1))[j]? =(R2.map (·.2.1))[j]? :=by rw[eR]
  rw[xc,xc,ht,ht2]at this
  exact xq this
 obtain⟨a1,a2,-⟩:=(hR.mono s2) t (x9 ht)
 obtain⟨b1,b2,-⟩:=hR2 t2 (x9 ht2)
 rw[<-et]at b1 b2
 have l5:t.2.1.2.length<=5:=by
  obtain⟨m1,m2,-⟩:=(hv.mm t.2.1).mp (x13 (x9 ht))
  obtain⟨j,mj,s,es,mx,hl⟩:=walkC_iff.mp m1
  rw[m2,D.rl.occ I.num ⟨s,x9 es,(xi.mp mx).1⟩ hl _ fun j hj=>(z29 hj).1]
  exact xp (xj _ _) (xp (z46 _ _) hok.n5)
 refine .inr ⟨t.1,t2.1,_,_,rfl,rfl,.inr ⟨a1,b1⟩,rfl,(show 5<=1000 by decide),fun k x y hx hy=>?_⟩
 match k,hx,hy with
 |0,hx,hy=>cases hx;cases hy;exact .inl ⟨rfl,.inl ⟨_,rfl⟩⟩
 |1,hx,hy=>cases hx;cases hy;exact .inl ⟨rfl,.inr (.inl ⟨_,rfl⟩)⟩
 |2,hx,hy=>cases hx;cases hy;exact .inl ⟨rfl,.inr (.inr ⟨_,rfl⟩)⟩
 |3,hx,hy=>cases hx;cases hy;exact .inl ⟨rfl,.inl ⟨_,rfl⟩⟩
 |4,hx,hy=>
  cases hx;cases hy
  exact z4o (.inl ⟨a2,b2⟩) (z5q _) (by rw[z1s];omega)
 |k+5,hx,hy=>cases hx
noncomputable def za5(ss:List KN)(n:Nat)(now:Int)(x:Nt):Prop:=maj n (drAt ss x.n now)/\∃s∈ss,x∈s.N
theorem zlk{S:Sv}{ss:List KN}{n:Nat}{L:List Nt}{top:Int}(h:Rel S ss n)(I:Inv13 ss n S.N S.now L top){lk:Str}{K:List (Nt×List Nat)}(hv:HavOf (z1m ss lk S.now (upl ss n)) (n/2+1) K){g:Nt×List Nat}(hg:g∈K):za5 ss n S.now g.1/\g.1.l=lk:=by
 obtain⟨m1,m2,m3⟩:=(hv.mm g).mp hg
 obtain⟨j,mj,s,es,mx,hl⟩:=walkC_iff.mp m1
 have hs:∃s∈ss,g.1∈s.N:=⟨s,x9 es,(xi.mp mx).1⟩
 refine⟨⟨?_,hs⟩,hl⟩
 rw[m2,h.occ I.num hs hl _ fun j hj=>(z29 hj).1]at m3
 have:((upl ss n).filter (drAt ss g.1.n S.now)).length<=((List.range n).filter (drAt ss g.1.n S.now)).length:=List.Sublist.length_le (List.Sublist.filter _ x0k)
 unfold maj
 omega
theorem zh9{ss:List KN}{n:Nat}{N:KL}{now:Int}{L:List Nt}{top:Int}(I:Inv13 ss n N now L top){x y:Nt}(hx:za5 ss n now x)(hy:za5 ss n now y)(hn:x.h≠y.h):(onl x.l y.l&& !(x.sh&&y.sh))=false:=by
 obtain⟨j,hj,p1,p2⟩:=zdz hx.1 hy.1
 have es:ss[j]? =some (ss[j]'(by rw[I.ln];exact hj)):=x6 _
 have ms:=x9 es
 have one:∀z:Nt,(∃s∈ss,z∈s.N)->drAt ss z.n now j=true->z∈(ss[j]'(by rw[I.ln];exact hj)).N/\now<z.e:=fun z hz e=>by
  unfold drAt at e
  rw[es]at e
  have e:hasN z.n now _=true:=e
  unfold hasN at e
  obtain⟨t,mt,et⟩:=List.any_eq_true.mp e
  obtain⟨mt,lt⟩:=xi.mp mt
  obtain⟨s,ms2,mz⟩:=hz
  have:=I.num _ ms s ms2 t mt z mz (x05 et)
  rw[<-this]
  exact⟨mt,x05 lt⟩
 obtain⟨x1,x2⟩:=one x hx.2 p1
 obtain⟨y1,y2⟩:=one y hy.2 p2
 exact I.wy _ ms x x1 y y1 x2 y2 hn
noncomputable def zko(H:Hp)(u:Su)(ss:List KN)(n:Nat)(now:Int)(RW:List (Addr×Nt)):Prop:=∀q∈RW,H q.1=some (.tup [.str q.2.l,.str q.2.h,.bl q.2.sh])/\q.2.l∈u.lks/\za5 ss n now q.2
noncomputable def spLaw(K:PySem.W.Frag):Sp:=fun vs H Q _=>∃(a:Addr)(ns:List Int),vs=[.ref a]/\SqL K H a (ns.map V.int)/\ns.length<=63/\∀H',Q (.bl true) H'
theorem zma(F:Def K mg "law" z86 ["_law_script"])(T:Txt K mg y0 yb ya y6 y9 y8 y7)(yn:KHas P w K mg base 3 y0 ["self","many"] (zf7 y0 y6))(yk:MHas P w K mg base CX0 2 y0 "having" ["self","lock","tick"] (zh6 P w y0 y6))(ye:Has P w K mg base 4 "_law_same" ["_law_found","_law_due"] (z2q 3))(y15:Has P w K mg base 3 "_law_setup" ["_law_script"] (zfa K))(yo:Has P w K mg base 2 "_law_way" ["_law_lock","_law_shared","_law_other","_law_other_shared"] (zdo))(y1e:Has P w K mg base 1 "_law_new" ["_law_setup_here"] (zkn))(yr:Has P w K mg base 1 "_law_having" ["_law_state","_law_lock"] (ze3 P w K))(ym:Has P w K mg base 9 "_law_council_deed" ["_law_council","_law_state","_law_cell","_law_k"] (zj8 y0 y6)):Has P w K mg base 10 "law" ["_law_script"] (spLaw K):=by
 refine F.ok sc_law (fun vs H Q E h=>?_) (fun f cdv A outer s H vs Q E hr h=>?_)
 .obtain⟨a,ns,rfl,_⟩:=h
  rfl
 .obtain⟨a,ns,rfl,ha,hns,q⟩:=h
  have hu:=hr.units0
  have hu2:=z3n hr
  refine⟨_,(@za _ _ _ _ _ (@zk _ _ 1 _ _ _ _ sc_law.nd rfl (Or.inl rfl) (@zw _ _ _ _ _ _ _ _ _ _ y15 (hr.mono (by decide)) rfl (@z6 _ _ _ _ _ (pv 0) z9 rfl) (by decide) rfl rfl) rfl (Or.inr rfl)) (@za _ _ _ _ _ (@zk _ _ 2 _ _ _ _ sc_law.nd rfl (Or.inl rfl) (@zl5 _ _ _ _ _ _ _ _ _ _ _ yn (hr.mono (by decide)) rfl T.g_Council (@z6 _ _ _ _ _ (@zi _ _ _ _ _ _ _ ix_tup (pv 1) z7 (fun _ _=>rfl)) z9 rfl) (by decide) rfl rfl) rfl (Or.inr rfl)) (@za _ _ _ _ _ (@zk _ _ 3 _ _ _ _ sc_law.nd rfl (Or.inl rfl) (@zw _ _ _ _ _ _ _ _ _ _ y1e (hr.mono (by decide)) rfl (@z6 _ _ _ _ _ (pv 1) z9 rfl) (by decide) rfl rfl) rfl (Or.inr rfl)) (@za _ _ _ _ _ (@z1u _ _ _ _ _ _ _ _ x0m rfl (@zhe _ _ _ _ _ _ _ rfl T.b_range (@z6 _ _ _ _ _ z7 (@z6 _ _ _ _ _ (@zj _ _ _ _ _ _ _ _ _ zq rfl T.b_len (by decide+kernel) (@z6 _ _ _ _ _ (pv 0) z9 rfl) (by decide) (by decide) rfl rfl) z9 rfl) rfl) rfl rfl) (@z15 _ _ 4 _ sc_law.nd rfl (Or.inl rfl) (Or.inr rfl)) (@za _ _ _ _ _ (@z11 _ _ _ _ _ _ _ _ (@z3l _ _ _ _ (@z1i _ _ _ (@zw _ _ _ _ _ _ _ _ _ _ ym (hr.mono (by decide)) rfl (@z6 _ _ _ _ _ (pv 2) (@z6 _ _ _ _ _ (pv 3) (@z6 _ _ _ _ _ (@zi _ _ _ _ _ _ _ ix_list (pv 0) (pv 4) (fun _ _=>rfl)) (@z6 _ _ _ _ _ (pv 4) z9 rfl) rfl) rfl) rfl) (by decide) rfl rfl) (by intro _;rfl))) (@zd _ _ _ (@zn _ _ _ _ z2b)) zp) (@za _ _ _ _ _ (@zk _ _ 5 _ _ _ _ sc_law.nd rfl (Or.inl rfl) (@zi _ _ _ _ _ _ _ ix_list (@zi _ _ _ _ _ _ _ ix_tup (pv 1) z7 (fun _ _=>rfl)) (@zg _ _ _ _ _ _ _ _ z14 (@zg _ _ _ _ _ _ _ _ z18 (@zg _ _ _ _ _ _ _ _ z1a (@zi _ _ _ _ _ _ _ ix_list (pv 0) (pv 4) (fun _ _=>rfl)) z7) (@zg _ _ _ _ _ _ _ _ z1a (pv 4) z7)) (@zj _ _ _ _ _ _ _ _ _ zq rfl T.b_len (by decide+kernel) (@z6 _ _ _ _ _ (@zi _ _ _ _ _ _ _ ix_tup (pv 1) z7 (fun _ _=>rfl)) z9 rfl) (by decide) (by decide) rfl rfl)) (fun _ _=>rfl)) rfl (Or.inr rfl)) (@za _ _ _ _ _ (@zk _ _ 6 _ _ _ _ sc_law.nd rfl (Or.inl rfl) (@z27 _ _ _ _ _ _ _ _ _ _ _ _ _ _ yk T.cl_Council (hr.mono (by decide)) (pv 2) (@z6 _ _ _ _ _ (pv 5) (@z6 _ _ _ _ _ (@zx _ _ _ _ _ _ hu2 (pv 3) zl (fun _ _=>rfl)) z9 rfl) rfl) rfl rfl rfl) rfl (Or.inr rfl)) (@za _ _ _ _ _ (@z11 _ _ _ _ _ _ _ _ (@z3l _ _ _ _ (@z1i _ _ _ (@zw _ _ _ _ _ _ _ _ _ _ ye (hr.mono (by decide)) rfl (@z6 _ _ _ _ _ (pv 6) (@z6 _ _ _ _ _ (@zw _ _ _ _ _ _ _ _ _ _ yr (hr.mono (by decide)) rfl (@z6 _ _ _ _ _ (pv 3) (@z6 _ _ _ _ _ (pv 5) z9 rfl) rfl) (by decide) rfl rfl) z9 rfl) rfl) (by decide) rfl rfl) (by intro _;rfl))) (@zd _ _ _ (@zn _ _ _ _ z2b)) zp) (@za _ _ _ _ _ (@z1u _ _ _ _ _ _ _ _ x0m rfl (@z12 _ _ _ _ (pv 6)) (@z15 _ _ 7 _ sc_law.nd rfl (Or.inl rfl) (Or.inr rfl)) (@zd _ _ _ (@z1h _ _ _ _ (@zhq _ _ _ _ _ _ _ _ _ x0a PySem.F.slot_list_clear PySem.F.type_list_clear zck (@zi _ _ _ _ _ _ _ ix_tup (pv 7) z7 (fun _ _=>rfl)) rfl rfl) rfl)) (by intro _;rfl)) (@zd _ _ _ (@z1h _ _ _ _ (@zhq _ _ _ _ _ _ _ _ _ x0a PySem.F.slot_list_clear PySem.F.type_list_clear zck (pv 6) rfl rfl) rfl))))))) (by intro _;rfl)) (@za _ _ _ _ _ (@zk _ _ 8 _ _ _ _ sc_law.nd rfl (Or.inl rfl) (@z1c _ _ _ _ z9) rfl (Or.inr rfl)) (@za _ _ _ _ _ (@z1u _ _ _ _ _ _ _ _ x0m rfl (@z12 _ _ _ _ (@zi _ _ _ _ _ _ _ ix_tup (pv 1) z7 (fun _ _=>rfl))) (@z15 _ _ 5 _ sc_law.nd rfl (Or.inl rfl) (Or.inr rfl)) (@za _ _ _ _ _ (@zk _ _ 6 _ _ _ _ sc_law.nd rfl (Or.inl rfl) (@z27 _ _ _ _ _ _ _ _ _ _ _ _ _ _ yk T.cl_Council (hr.mono (by decide)) (pv 2) (@z6 _ _ _ _ _ (pv 5) (@z6 _ _ _ _ _ (@zx _ _ _ _ _ _ hu2 (pv 3) zl (fun _ _=>rfl)) z9 rfl) rfl) rfl rfl rfl) rfl (Or.inr rfl)) (@za _ _ _ _ _ (@z11 _ _ _ _ _ _ _ _ (@z3l _ _ _ _ (@z1i _ _ _ (@zw _ _ _ _ _ _ _ _ _ _ ye (hr.mono (by decide)) rfl (@z6 _ _ _ _ _ (pv 6) (@z6 _ _ _ _ _ (@zw _ _ _ _ _ _ _ _ _ _ yr (hr.mono (by decide)) rfl (@z6 _ _ _ _ _ (pv 3) (@z6 _ _ _ _ _ (pv 5) z9 rfl) rfl) (by decide) rfl rfl) z9 rfl) rfl) (by decide) rfl rfl) (by intro _;rfl))) (@zd _ _ _ (@zn _ _ _ _ z2b)) zp) (@za _ _ _ _ _ (@z1u _ _ _ _ _ _ _ _ x0m rfl (@z12 _ _ _ _ (pv 6)) (@z15 _ _ 7 _ sc_law.nd rfl (Or.inl rfl) (Or.inr rfl)) (@zd _ _ _ (@z1u _ _ _ _ _ _ _ _ x0m rfl (@z12 _ _ _ _ (pv 8)) (@z15 _ _ 9 _ sc_law.nd rfl (Or.inl rfl) (Or.inr rfl)) (@zd _ _ _ (@z11 _ _ _ _ _ _ _ _ (PW.pt (@z2w _ _ _ _ _ _ _ (@zo _ _ _ _ _ _ _ _ z2j (@zi _ _ _ _ _ _ _ ix_tup (pv 9) z7 (fun _ _=>rfl)) (@zi _ _ _ _ _ _ _ ix_tup (pv 7) z7 (fun _ _=>rfl)) (zm _)) (@z3v _ _ _ _ (@z1i _ _ _ (@zw _ _ _ _ _ _ _ _ _ _ yo (hr.mono (by decide)) rfl (@z6 _ _ _ _ _ (@zi _ _ _ _ _ _ _ ix_tup (pv 9) z7 (fun _ _=>rfl)) (@z6 _ _ _ _ _ (@zi _ _ _ _ _ _ _ ix_tup (pv 9) z7 (fun _ _=>rfl)) (@z6 _ _ _ _ _ (pv 5) (@z6 _ _ _ _ _ (@zi _ _ _ _ _ _ _ ix_tup (pv 7) z7 (fun _ _=>rfl)) z9 rfl) rfl) rfl) rfl) (by decide) rfl rfl) (by intro _;rfl))))) (@zd _ _ _ (@zn _ _ _ _ z2b)) zp)) (by intro _;rfl))) (by intro _;rfl)) (@zd _ _ _ (@z1u _ _ _ _ _ _ _ _ x0m rfl (@z12 _ _ _ _ (pv 6)) (@z15 _ _ 7 _ sc_law.nd rfl (Or.inl rfl) (Or.inr rfl)) (@zd _ _ _ (@z1h _ _ _ _ (@z2c _ _ _ _ _ _ _ _ _ _ _ _ x0a x0d x0e z1r (pv 8) (@z6 _ _ _ _ _ (@z1p _ _ _ _ _ (@z6 _ _ _ _ _ (pv 5) (@z6 _ _ _ _ _ (@zi _ _ _ _ _ _ _ ix_tup (pv 7) z7 (fun _ _=>rfl)) (@z6 _ _ _ _ _ (@zi _ _ _ _ _ _ _ ix_tup (pv 7) z7 (fun _ _=>rfl)) z9 rfl) rfl) rfl)) z9 rfl) rfl rfl rfl rfl rfl) rfl)) (by intro _;rfl)))))) (by intro _;rfl)) (@zd _ _ _ (@zn _ _ _ _ z2b)))))))),?_⟩
  walk_at "rd"
  refine⟨a,ns,rfl,ha,hns,fun ps u H1 hS hok s1=>?_⟩
  have n5:=hok.n5
  have n1:=hok.n1
  have l1:=hok.l1
  have l10:=hok.l10
  refine⟨_,_,_,_,rfl,rfl,SqT.of hS.tu,zc (j:=0) rfl,fun c dx hc0 hdx ndx=>?_⟩
  refine⟨c,dx,u.n,rfl,by omega,z8,fun l ks ls H3 hkl hca hb hk0 hl0 hll0=>⟨rfl,?_⟩⟩
  have s13:Same H1 H3:=fun b o e=>hb b o (by rw[zb (ze e hc0),zb (ze e hdx)];exact e) (ze e hc0)
  refine⟨ps,u,rfl,hS.mono s13,hok,fun d S H4 st eps enow eus ets eN eC eL hd0 hl4 s4=>?_⟩
  have s14:=s13.trans s4
  have A4:AP K a d (ns.map V.int) H4 S:=AP.start (s1.seq ha) s14 (zu s13 hd0) (fun p hp=>zu s13 (hl4 p hp))
  have D4:Day y0 y6 H4 c l ks ls (z2z u.n) d S u 0:=by
   refine⟨hca.mono s4,st,zj9 eus ets eN,hkl,⟨by rw[eN];exact xk _,fun s hs=>?_,by rw[eC];exact xk _,by rw[eL];exact xk _,fun z hz=>by rw[eN]at hz;cases hz⟩,fun p hp=>⟨fun e=>?_,fun h=>?_⟩,zkc eN⟩
   .rw[List.eq_of_mem_replicate hs]
    exact xk _
   .have:=hl4 p hp
    rw[e,hca.li]at this;cases this
   .obtain⟨xs,z⟩:=hca.lsome h
    rw[hl4 p hp]at z;cases z
  refine⟨_,.inl A4.sq,_,_,⟨rfl,rfl⟩,⟨by decide,by decide,by rw[x0];omega,by rw[x0];omega⟩,?_⟩
  rw[x0]
  refine z5g (fun i σ H'=>∃(ls':List Addr)(ss':List KN)(S':Sv)(v4 v5 v6 v7 v8 v9:Option V),σ=[some (V.ref a),some (V.ref ps),some (V.ref c),some (V.ref d),v4,v5,v6,v7,v8,v9]/\Day y0 y6 H' c l ks ls' ss' d S' u i/\S'.ps=ps/\AP K a d (ns.map V.int) H' S') ⟨ls,_,S,none,none,none,none,none,none,rfl,D4,eps,A4⟩ ?_ ?_
  .rintro Pv hP i σ H' hi ⟨ls',ss',S',v4,v5,v6,v7,v8,v9,rfl,hD,eps',hA⟩
   have hi63:5+i<ns.length:=by omega
   have gc:(ns.map V.int)[5+i]? =some (.int ns[5+i]):=by rw[xc,x6 hi63];rfl
   generalize ns[5+i]=cell at gc
   have e5:(5:Int)+(i:Int)=((5+i:Nat):Int):=by omega
   walk_at "rd"
   simp only[e5]
   refine⟨_,_,_,_,rfl,rfl,hA.sq,zc gc,?_⟩
   refine⟨c,l,ks,ls',ss',d,S',u,i,cell,5+i,rfl,hD,hok,by omega,fun ls5 ss5 S5 H5 D5 ep5 l5 f5=>⟨true,rfl,?_⟩⟩
   rw[if_neg (by decide)]
   have A5:=hA.step hD.ca l5 f5
   have ep5':S5.ps=ps:=by rw[ep5,eps']
   have su5:=D5.st.su
   rw[ep5']at su5
   have n5':i+1<=60:=by omega
   have sP:=D5.say hok n5'
   have gls:∀j:Nat,(u.lks.map V.str)[j]? =(u.lks[j]?).map V.str:=fun j=>xc ..
   refine⟨_,_,_,_,rfl,rfl,SqT.of su5.tu,zc (j:=2) rfl,_,_,_,_,rfl,rfl,A5.sq,zc gc,_,rfl,cdiv (by decide) (by decide),cdiv (by decide) (by decide),_,_,_,_,rfl,rfl,SqT.of su5.tu,zc (j:=2) rfl,_,rfl,_,.inl (SqL.of su5.gl),by rw[x0];omega,?_⟩
   rw[x0]
   have h0:0<=(cell/3+((5+i:Nat):Int)/3)%(u.lks.length:Int):=Int.emod_nonneg _ (by omega)
   have h1:(cell/3+((5+i:Nat):Int)/3)%(u.lks.length:Int)<(u.lks.length:Int):=Int.emod_lt_of_pos _ (by omega)
   generalize(cell/3+((5+i:Nat):Int)/3)%(u.lks.length:Int)=ji at h0 h1⊢
   obtain⟨j,rfl⟩:=x0v h0
   have hj:j<u.lks.length:=by omega
   have elk:(u.lks.map V.str)[j]? =some (.str u.lks[j]):=by rw[gls,x6 hj];rfl
   generalize u.lks[j]=lk at elk
   obtain⟨dx5,hob⟩:=D5.ca.ob
   refine⟨_,_,_,_,rfl,rfl,SqL.of su5.gl,zc elk,_,_,hob,z2l _ _ (by decide+kernel) (by decide+kernel),_,z30 D5.st.st,?_⟩
   refine z8l (QQ:=fun x z H3=>∃c_1,z=V.bl c_1/\if(!c_1)=true then Q (V.bl false) H3 else _) D5 hok n5' fun r R H9 hT=>⟨true,rfl,?_⟩
   rw[if_neg (by decide)]
   refine⟨r,rfl,⟨_,SqL.of hT.li⟩,?_⟩
   refine z1b (xs:=R.map fun t=>V.ref t.1) (fun j σ H'=>∃v7:Option V,σ=[some (V.ref a),some (V.ref ps),some (V.ref c),some (V.ref d),some (V.int ((5+i:Nat):Int)),some (V.str lk),some (V.ref r),v7,v8,v9]/\Cleared H5 H9 H' R) ⟨_,rfl,hT.start⟩ ?_ ?_ ?_
   .rintro j σ H'-⟨v7,-,hC⟩
    exact SqL.of (hC.keep _ _ hT.li hT.nr)
   .rintro Pv7 hP7 j x σ H' hx ⟨v7,rfl,hC⟩
    rw[xc]at hx
    obtain⟨t,ht,rfl⟩:=x08.mp hx
    have mt:=x9 ht
    walk_at "rd"
    have tt:=hC.keep _ _ (hT.rw t mt).1 (hT.nt t mt)
    obtain⟨xs,tl⟩:=hC.ls t mt
    refine⟨_,_,_,_,rfl,rfl,SqT.of tt,zc (j:=4) rfl,.inl ⟨_,SqL.of tl⟩,_,_,rfl,rfl,tl,hP7 _ _ _ ⟨_,rfl,hC.put mt (hT.rw t mt).2.2⟩⟩
   .rintro σ H' ⟨v7,rfl,hC⟩
    walk_at "rd"
    have gr:=hC.keep _ _ hT.li hT.nr
    have sF:Same H5 (upd H' r (.lst [])):=fun b o e=>by rw[zb (ze e hT.nw)];exact hC.sm _ _ e
    exact⟨.inl ⟨_,SqL.of gr⟩,_,_,rfl,rfl,gr,hP _ _ _ ⟨ls5,ss5,S5,_,_,_,_,_,_,rfl,D5.mono sF,ep5',A5.mono sF⟩⟩
  .rintro σ H' ⟨ls',ss',S',v4,v5,v6,v7,v8,v9,rfl,hD,eps',hA⟩
   walk_at "rd"
   have hi60:(ns.length-5:Int).toNat<=60:=by omega
   generalize(ns.length-5:Int).toNat=i at hD hi60
   refine⟨x03 _,fun p hp=>?_⟩
   have sp:=Same.upd (o:=.lst []) hp
   have gp:upd H' p (.lst []) p=some (.lst []):=z8
   generalize upd H' p (.lst [])=H6 at sp gp⊢
   have D6:=hD.mono sp
   have su:=D6.st.su
   rw[eps']at su
   refine⟨_,_,_,_,rfl,rfl,SqT.of su.tu,zc (j:=2) rfl,_,rfl,⟨_,SqL.of su.gl⟩,?_⟩
   refine z1b (xs:=u.lks.map V.str) (fun j σ H7=>∃(RW:List (Addr×Nt))(v5 v6 v7 v9:Option V),σ=[some (V.ref a),some (V.ref ps),some (V.ref c),some (V.ref d),v4,v5,v6,v7,some (V.ref p),v9]/\Same H' H7/\H7 p=some (.lst (RW.map fun q=>V.ref q.1))/\zko H7 u ss' u.n S'.now RW/\RW.length<=60*j) ⟨[],_,_,_,_,rfl,sp,gp,(fun q hq=>by cases hq),x03 _⟩ ?_ ?_ ?_
   .rintro j σ H7-⟨RW,v5,v6,v7,v9,-,s7,-⟩
    have su7:=(hD.mono s7).st.su
    exact SqL.of su7.gl
   .rintro Pv hP j x σ H7 hx ⟨RW,v5,v6,v7,v9,rfl,s7,gp7,hRW,lRW⟩
    rw[xc]at hx
    obtain⟨lk,hlk,rfl⟩:=x08.mp hx
    have hj:j<u.lks.length:=(xg.mp hlk).1
    have mlk:=x9 hlk
    walk_at "rd"
    have D7:=hD.mono s7
    obtain⟨dx7,hob⟩:=D7.ca.ob
    refine⟨_,_,hob,z2l _ _ (by decide+kernel) (by decide+kernel),_,z30 D7.st.st,?_⟩
    refine z8l (QQ:=fun x z H3=>∃c_1,z=V.bl c_1/\if(!c_1)=true then Q (V.bl false) H3 else _) D7 hok hi60 fun r R H9 hT=>⟨true,rfl,?_⟩
    rw[if_neg (by decide)]
    obtain⟨L,top,hL,I⟩:=hD.iv
    have hR:∀t∈R,za5 ss' u.n S'.now t.2.1.1/\t.2.1.1.l=lk:=fun t ht=>zlk hD.rl I hT.hv (x13 ht)
    have gp9:=hT.sm _ _ gp7
    have nrp:r≠p:=fun e=>by have:=hT.nw;rw[e,gp7]at this;cases this
    refine⟨r,rfl,⟨_,SqL.of hT.li⟩,?_⟩
    refine z1b (xs:=R.map fun t=>V.ref t.1) (fun k σ Ha=>∃v7 v9:Option V,σ=[some (V.ref a),some (V.ref ps),some (V.ref c),some (V.ref d),v4,some (V.str lk),some (V.ref r),v7,some (V.ref p),v9]/\Same H9 Ha) ⟨_,_,rfl,Same.refl _⟩ ?_ ?_ ?_
    .rintro k σ Ha-⟨v7,v9,-,sa⟩
     exact SqL.of (sa _ _ hT.li)
    .rintro Pva hPa k x σ Ha hx ⟨v7,v9,rfl,sa⟩
     rw[xc]at hx
     obtain⟨t,ht,rfl⟩:=x08.mp hx
     have mt:=x9 ht
     walk_at "rd"
     have gpa:=sa _ _ gp9
     refine⟨⟨_,SqL.of gpa⟩,?_⟩
     refine z1b (xs:=RW.map fun q=>V.ref q.1) (fun m σ Hb=>∃v9:Option V,σ=[some (V.ref a),some (V.ref ps),some (V.ref c),some (V.ref d),v4,some (V.str lk),some (V.ref r),some (V.ref t.1),some (V.ref p),v9]/\Same H9 Hb) ⟨_,rfl,sa⟩ ?_ ?_ ?_
     .rintro m σ Hb-⟨v9,-,sb⟩
      exact SqL.of (sb _ _ gp9)
     .rintro Pvb hPb m x σ Hb hx ⟨v9,rfl,sb⟩
      rw[xc]at hx
      obtain⟨y,hy,rfl⟩:=x08.mp hx
      obtain⟨y1,y2,y3⟩:=hRW y (x9 hy)
      have y1:=sb _ _ (hT.sm _ _ y1)
      have t1:=sb _ _ (hT.rw t mt).1
      walk_at "rd"
      refine⟨_,_,_,_,rfl,rfl,SqT.of y1,zc (j:=1) rfl,_,_,_,_,rfl,rfl,SqT.of t1,zc (j:=1) rfl,rfl,?_⟩
      by_cases e:y.2.h=t.2.1.1.h
      .rw[if_neg (by rw[e];simp)]
       exact hPb _ _ _ ⟨_,rfl,sb⟩
      .rw[if_pos (by simpa using e)]
       have w1:=zh9 I y3 (hR t mt).1 e
       rw[(hR t mt).2]at w1
       have l1:=hok.ll _ y2
       have l2:=hok.ll _ mlk
       refine⟨_,_,_,_,rfl,rfl,SqT.of y1,zc (j:=0) rfl,_,_,_,_,rfl,rfl,SqT.of y1,zc (j:=2) rfl,_,_,_,_,rfl,rfl,SqT.of t1,zc (j:=2) rfl,_,_,_,_,rfl,by omega,by omega,fun Hc sc=>⟨_,rfl,?_⟩⟩
       rw[w1,if_neg xa]
       exact hPb _ _ _ ⟨_,rfl,sb.trans sc⟩
     .rintro σ Hb ⟨v9,rfl,sb⟩
      walk_at "rd"
      exact hPa _ _ _ ⟨_,_,rfl,sb⟩
    .rintro σ Ha ⟨v7,v9,rfl,sa⟩
     walk_at "rd"
     have sR:Same H7 Ha:=hT.sm.trans sa
     refine⟨⟨_,SqL.of (sa _ _ hT.li)⟩,?_⟩
     refine z1b (xs:=R.map fun t=>V.ref t.1) (fun k σ Hb=>∃(RW2:List (Addr×Nt))(v7:Option V),σ=[some (V.ref a),some (V.ref ps),some (V.ref c),some (V.ref d),v4,some (V.str lk),some (V.ref r),v7,some (V.ref p),v9]/\But1 p Ha Hb/\Hb p=some (.lst (RW2.map fun q=>V.ref q.1))/\zko Hb u ss' u.n S'.now RW2/\RW2.length<=RW.length+k) ⟨RW,_,rfl,(fun _ _ e _=>e),sR _ _ gp7,(fun q hq=>let⟨a1,a2⟩:=hRW q hq;⟨sR _ _ a1,a2⟩),xk _⟩ ?_ ?_ ?_
     .rintro k σ Hb-⟨RW2,v7,-,bb,-⟩
      exact SqL.of (bb _ _ (sa _ _ hT.li) nrp)
     .rintro Pvb hPb k x σ Hb hx ⟨RW2,v7,rfl,bb,gb,hRW2,lRW2⟩
      rw[xc]at hx
      obtain⟨t,ht,rfl⟩:=x08.mp hx
      have mt:=x9 ht
      have hk:k<R.length:=(xg.mp ht).1
      have lR:=hT.ln
      have t0:=sa _ _ (hT.rw t mt).1
      have t1:=bb _ _ t0 (fun e=>by rw[e,sR _ _ gp7]at t0;cases t0)
      walk_at "rd"
      refine⟨.inl ⟨_,SqL.of gb⟩,_,_,_,_,rfl,rfl,SqT.of t1,zc (j:=1) rfl,_,_,_,_,rfl,rfl,SqT.of t1,zc (j:=2) rfl,zf (by decide),fun pz hpz=>?_⟩
      have sz:=Same.upd (o:=.tup [V.str lk,V.str t.2.1.1.h,V.bl t.2.1.1.sh]) hpz
      have gz:upd Hb pz (.tup [V.str lk,V.str t.2.1.1.h,V.bl t.2.1.1.sh]) pz=some (.tup [V.str lk,V.str t.2.1.1.h,V.bl t.2.1.1.sh]):=z8
      generalize upd Hb pz (.tup [V.str lk,V.str t.2.1.1.h,V.bl t.2.1.1.sh])=Hc at sz gz⊢
      have gc:=sz _ _ gb
      have np:∀b xs,Hc b=some (.tup xs)->b≠p:=fun b xs e z=>by rw[z,gc]at e;cases e
      refine⟨_,_,_,rfl,rfl,gc,z1k (by rw[x0];omega),hPb _ _ _ ⟨RW2++[(pz,t.2.1.1)],_,rfl,fun b o e nb=>by rw[zb nb];exact sz _ _ (bb _ _ e nb),by rw[z8,x0b];rfl,fun z hz=>?_,by rw[x00];exact Nat.succ_le_succ lRW2⟩⟩
      rcases xz.mp hz with hz|hz
      .obtain⟨z1,z2⟩:=hRW2 z hz
       have z1:=sz _ _ z1
       exact⟨by rw[zb (np _ _ z1)];exact z1,z2⟩
      .rw[xm.mp hz]
       refine⟨?_,?_,(hR t mt).1⟩
       .show upd Hc p _ pz=some (.tup [.str t.2.1.1.l,_,_])
        rw[zb (np _ _ gz),(hR t mt).2]
        exact gz
       .show t.2.1.1.l∈u.lks
        rw[(hR t mt).2]
        exact mlk
     .rintro σ Hb ⟨RW2,v7,rfl,bb,gb,hRW2,lRW2⟩
      walk_at "rd"
      have lR:=hT.ln
      rw[x0]at lRW2
      exact hP _ _ _ ⟨RW2,_,_,_,_,rfl,fun b o e=>bb _ _ (sR _ _ (s7 _ _ e)) (ze e hp),gb,hRW2,by omega⟩
   .rintro σ H7 ⟨RW,v5,v6,v7,v9,rfl,s7,gp7,hRW,lRW⟩
    walk_at "rd"
    exact q _
end
theorem all_mk{l:PySem.W.OpenLaw}{w:World}{K:PySem.W.Frag}{h:Heap}{mg:Str->Option Value}{fa:Addr}(X:K.In h)(G:h.Ns mainGlobals mg)(hfa:mg "law"=some (.ref fa))
  {y0:Addr}
  {yb:Addr}
  {ya:Addr}
  {y6:Addr}
  {y9:Addr}
  {y8:Addr}
  {y7:Addr}
  (y_b_all:PySem.W.nsIn K mainGlobals "all"=some none)
  (y_b_bool:PySem.W.nsIn K mainGlobals "bool"=some none)
  (y_b_enumerate:PySem.W.nsIn K mainGlobals "enumerate"=some none)
  (y_b_int:PySem.W.nsIn K mainGlobals "int"=some none)
  (y_b_isinstance:PySem.W.nsIn K mainGlobals "isinstance"=some none)
  (y_b_len:PySem.W.nsIn K mainGlobals "len"=some none)
  (y_b_list:PySem.W.nsIn K mainGlobals "list"=some none)
  (y_b_max:PySem.W.nsIn K mainGlobals "max"=some none)
  (y_b_min:PySem.W.nsIn K mainGlobals "min"=some none)
  (y_b_range:PySem.W.nsIn K mainGlobals "range"=some none)
  (y_b_set:PySem.W.nsIn K mainGlobals "set"=some none)
  (y_b_sorted:PySem.W.nsIn K mainGlobals "sorted"=some none)
  (y_b_str:PySem.W.nsIn K mainGlobals "str"=some none)
  (y_b_tuple:PySem.W.nsIn K mainGlobals "tuple"=some none)
  (y_g_Council:PySem.W.nsIn K mainGlobals "Council"=some (some (.ref y0)))
  (y_g_Down:PySem.W.nsIn K mainGlobals "Down"=some (some (.ref yb)))
  (y_g_InTheWay:PySem.W.nsIn K mainGlobals "InTheWay"=some (some (.ref ya)))
  (y_g_Keeper:PySem.W.nsIn K mainGlobals "Keeper"=some (some (.ref y6)))
  (y_g_NotFree:PySem.W.nsIn K mainGlobals "NotFree"=some (some (.ref y9)))
  (y_g_OldNumber:PySem.W.nsIn K mainGlobals "OldNumber"=some (some (.ref y8)))
  (y_g_UnknownKeeper:PySem.W.nsIn K mainGlobals "UnknownKeeper"=some (some (.ref y7)))
  (y_pg_Council:PySem.W.plainGet K y0 Str.empty=true)
  (y_hd_Council:PySem.W.hasDictIn K y0=true)
  (y_po_Council:PySem.W.plainOver K y0=true)
  (y_sa_Council:PySem.W.findIn K (.ref y0) "__setattr__"=some (some (.builtin "object.__setattr__")))
  (y_n_Council_keepers:PySem.W.findIn K (.ref y0) "keepers"=some none)
  (y_n_Council_most:PySem.W.findIn K (.ref y0) "most"=some none)
  (y_pg_Keeper:PySem.W.plainGet K y6 Str.empty=true)
  (y_hd_Keeper:PySem.W.hasDictIn K y6=true)
  (y_po_Keeper:PySem.W.plainOver K y6=true)
  (y_sa_Keeper:PySem.W.findIn K (.ref y6) "__setattr__"=some (some (.builtin "object.__setattr__")))
  (y_n_Keeper_up:PySem.W.findIn K (.ref y6) "up"=some none)
  (y_n_Keeper_top:PySem.W.findIn K (.ref y6) "top"=some none)
  (y_n_Keeper_kept:PySem.W.findIn K (.ref y6) "kept"=some none)
  (y_x_Down:PySem.W.excIn K yb [.type "ValueError",.type "Exception",.type "BaseException",.type "object"] "ValueError.__new__"=true)
  (y_x_InTheWay:PySem.W.excIn K ya [.type "ValueError",.type "Exception",.type "BaseException",.type "object"] "ValueError.__new__"=true)
  (y_x_NotFree:PySem.W.excIn K y9 [.type "ValueError",.type "Exception",.type "BaseException",.type "object"] "ValueError.__new__"=true)
  (y_x_OldNumber:PySem.W.excIn K y8 [.type "ValueError",.type "Exception",.type "BaseException",.type "object"] "ValueError.__new__"=true)
  (y_x_UnknownKeeper:PySem.W.excIn K y7 [.type "ValueError",.type "Exception",.type "BaseException",.type "object"] "ValueError.__new__"=true)
  (y_sb_Down_NotFree:PySem.W.subIn K (.ref yb) (.ref y9)=some false)
  (y_sb_InTheWay_NotFree:PySem.W.subIn K (.ref ya) (.ref y9)=some false)
  (y_sb_NotFree_NotFree:PySem.W.subIn K (.ref y9) (.ref y9)=some true)
  (y_sb_OldNumber_NotFree:PySem.W.subIn K (.ref y8) (.ref y9)=some false)
  (y_sb_UnknownKeeper_NotFree:PySem.W.subIn K (.ref y7) (.ref y9)=some false)
  {f0:Addr} {d0:FuncData}
  (a0:W.nsIn K mainGlobals "within"=some (some (.ref f0)))
  (F0:Fun K "within" "within" z90 f0 d0)
  {f1:Addr} {d1:FuncData}
  (a1:W.nsIn K mainGlobals "on_line"=some (some (.ref f1)))
  (F1:Fun K "on_line" "on_line" z7o f1 d1)
  {f2:Addr} {d2:FuncData}
  (a2:W.nsIn K mainGlobals "in_way"=some (some (.ref f2)))
  (F2:Fun K "in_way" "in_way" z91 f2 d2)
  {f3:Addr} {d3:FuncData}
  (a3:W.findIn K (.ref y6) "__init__"=some (some (.ref f3))) (i3:W.isFn K (.ref f3)=true)
  (F3:Fun K "__init__" "Keeper.__init__" z3c f3 d3)
  {f4:Addr} {d4:FuncData}
  (a4:W.findIn K (.ref y6) "fall"=some (some (.ref f4))) (i4:W.isFn K (.ref f4)=true)
  (F4:Fun K "fall" "Keeper.fall" z4d f4 d4)
  {f5:Addr} {d5:FuncData}
  (a5:W.findIn K (.ref y6) "rise"=some (some (.ref f5))) (i5:W.isFn K (.ref f5)=true)
  (F5:Fun K "rise" "Keeper.rise" z4e f5 d5)
  {f6:Addr} {d6:FuncData}
  (a6:W.findIn K (.ref y6) "live"=some (some (.ref f6))) (i6:W.isFn K (.ref f6)=true)
  (F6:Fun K "live" "Keeper.live" z4f f6 d6)
  {f7:Addr} {d7:FuncData}
  (a7:W.findIn K (.ref y6) "names_in_way"=some (some (.ref f7))) (i7:W.isFn K (.ref f7)=true)
  (F7:Fun K "names_in_way" "Keeper.names_in_way" z2p f7 d7)
  {f8:Addr} {d8:FuncData}
  (a8:W.findIn K (.ref y6) "says_free"=some (some (.ref f8))) (i8:W.isFn K (.ref f8)=true)
  (F8:Fun K "says_free" "Keeper.says_free" z35 f8 d8)
  {f9:Addr} {d9:FuncData}
  (a9:W.findIn K (.ref y6) "take"=some (some (.ref f9))) (i9:W.isFn K (.ref f9)=true)
  (F9:Fun K "take" "Keeper.take" z4g f9 d9)
  {f10:Addr} {d10:FuncData}
  (a10:W.findIn K (.ref y6) "drop"=some (some (.ref f10))) (i10:W.isFn K (.ref f10)=true)
  (F10:Fun K "drop" "Keeper.drop" z4h f10 d10)
  {f11:Addr} {d11:FuncData}
  (a11:W.findIn K (.ref y0) "__init__"=some (some (.ref f11))) (i11:W.isFn K (.ref f11)=true)
  (F11:Fun K "__init__" "Council.__init__" z36 f11 d11)
  {f12:Addr} {d12:FuncData}
  (a12:W.findIn K (.ref y0) "keeper_at"=some (some (.ref f12))) (i12:W.isFn K (.ref f12)=true)
  (F12:Fun K "keeper_at" "Council.keeper_at" z32 f12 d12)
  {f13:Addr} {d13:FuncData}
  (a13:W.findIn K (.ref y0) "up_keepers"=some (some (.ref f13))) (i13:W.isFn K (.ref f13)=true)
  (F13:Fun K "up_keepers" "Council.up_keepers" z2t f13 d13)
  {f14:Addr} {d14:FuncData}
  (a14:W.findIn K (.ref y0) "fall"=some (some (.ref f14))) (i14:W.isFn K (.ref f14)=true)
  (F14:Fun K "fall" "Council.fall" z40 f14 d14)
  {f15:Addr} {d15:FuncData}
  (a15:W.findIn K (.ref y0) "rise"=some (some (.ref f15))) (i15:W.isFn K (.ref f15)=true)
  (F15:Fun K "rise" "Council.rise" z41 f15 d15)
  {f16:Addr} {d16:FuncData}
  (a16:W.findIn K (.ref y0) "notes"=some (some (.ref f16))) (i16:W.isFn K (.ref f16)=true)
  (F16:Fun K "notes" "Council.notes" z3t f16 d16)
  {f17:Addr} {d17:FuncData}
  (a17:W.findIn K (.ref y0) "sayers"=some (some (.ref f17))) (i17:W.isFn K (.ref f17)=true)
  (F17:Fun K "sayers" "Council.sayers" z3i f17 d17)
  {f18:Addr} {d18:FuncData}
  (a18:W.findIn K (.ref y0) "give"=some (some (.ref f18))) (i18:W.isFn K (.ref f18)=true)
  (F18:Fun K "give" "Council.give" z42 f18 d18)
  {f19:Addr} {d19:FuncData}
  (a19:W.findIn K (.ref y0) "drop"=some (some (.ref f19))) (i19:W.isFn K (.ref f19)=true)
  (F19:Fun K "drop" "Council.drop" z43 f19 d19)
  {f20:Addr} {d20:FuncData}
  (a20:W.findIn K (.ref y0) "having"=some (some (.ref f20))) (i20:W.isFn K (.ref f20)=true)
  (F20:Fun K "having" "Council.having" z3j f20 d20)
  {f21:Addr} {d21:FuncData}
  (a21:W.nsIn K mainGlobals "_law_at"=some (some (.ref f21)))
  (F21:Fun K "_law_at" "_law_at" z7p f21 d21)
  {f22:Addr} {d22:FuncData}
  (a22:W.nsIn K mainGlobals "_law_same"=some (some (.ref f22)))
  (F22:Fun K "_law_same" "_law_same" z2i f22 d22)
  {f23:Addr} {d23:FuncData}
  (a23:W.nsIn K mainGlobals "_law_name"=some (some (.ref f23)))
  (F23:Fun K "_law_name" "_law_name" z5j f23 d23)
  {f24:Addr} {d24:FuncData}
  (a24:W.nsIn K mainGlobals "_law_names"=some (some (.ref f24)))
  (F24:Fun K "_law_names" "_law_names" z50 f24 d24)
  {f25:Addr} {d25:FuncData}
  (a25:W.nsIn K mainGlobals "_law_locks"=some (some (.ref f25)))
  (F25:Fun K "_law_locks" "_law_locks" z51 f25 d25)
  {f26:Addr} {d26:FuncData}
  (a26:W.nsIn K mainGlobals "_law_some"=some (some (.ref f26)))
  (F26:Fun K "_law_some" "_law_some" z5k f26 d26)
  {f27:Addr} {d27:FuncData}
  (a27:W.nsIn K mainGlobals "_law_setup"=some (some (.ref f27)))
  (F27:Fun K "_law_setup" "_law_setup" z52 f27 d27)
  {f28:Addr} {d28:FuncData}
  (a28:W.nsIn K mainGlobals "_law_asked"=some (some (.ref f28)))
  (F28:Fun K "_law_asked" "_law_asked" z53 f28 d28)
  {f29:Addr} {d29:FuncData}
  (a29:W.nsIn K mainGlobals "_law_line"=some (some (.ref f29)))
  (F29:Fun K "_law_line" "_law_line" z5l f29 d29)
  {f30:Addr} {d30:FuncData}
  (a30:W.nsIn K mainGlobals "_law_way"=some (some (.ref f30)))
  (F30:Fun K "_law_way" "_law_way" z6g f30 d30)
  {f31:Addr} {d31:FuncData}
  (a31:W.nsIn K mainGlobals "_law_new"=some (some (.ref f31)))
  (F31:Fun K "_law_new" "_law_new" z6h f31 d31)
  {f32:Addr} {d32:FuncData}
  (a32:W.nsIn K mainGlobals "_law_naming"=some (some (.ref f32)))
  (F32:Fun K "_law_naming" "_law_naming" z4i f32 d32)
  {f33:Addr} {d33:FuncData}
  (a33:W.nsIn K mainGlobals "_law_ups"=some (some (.ref f33)))
  (F33:Fun K "_law_ups" "_law_ups" z6i f33 d33)
  {f34:Addr} {d34:FuncData}
  (a34:W.nsIn K mainGlobals "_law_sayers"=some (some (.ref f34)))
  (F34:Fun K "_law_sayers" "_law_sayers" z4j f34 d34)
  {f35:Addr} {d35:FuncData}
  (a35:W.nsIn K mainGlobals "_law_free"=some (some (.ref f35)))
  (F35:Fun K "_law_free" "_law_free" z5m f35 d35)
  {f36:Addr} {d36:FuncData}
  (a36:W.nsIn K mainGlobals "_law_give"=some (some (.ref f36)))
  (F36:Fun K "_law_give" "_law_give" z5n f36 d36)
  {f37:Addr} {d37:FuncData}
  (a37:W.nsIn K mainGlobals "_law_dropped"=some (some (.ref f37)))
  (F37:Fun K "_law_dropped" "_law_dropped" z44 f37 d37)
  {f38:Addr} {d38:FuncData}
  (a38:W.nsIn K mainGlobals "_law_having"=some (some (.ref f38)))
  (F38:Fun K "_law_having" "_law_having" z4k f38 d38)
  {f39:Addr} {d39:FuncData}
  (a39:W.nsIn K mainGlobals "_law_given"=some (some (.ref f39)))
  (F39:Fun K "_law_given" "_law_given" z54 f39 d39)
  {f40:Addr} {d40:FuncData}
  (a40:W.nsIn K mainGlobals "_law_council_deed"=some (some (.ref f40)))
  (F40:Fun K "_law_council_deed" "_law_council_deed" z33 f40 d40)
  {f41:Addr} {d41:FuncData}
  (a41:W.nsIn K mainGlobals "law"=some (some (.ref f41)))
  (F41:Fun K "law" "law" z86 f41 d41)
  (mk_Council:PySem.W.makesIn K y0=true) (kc_Council:PySem.W.keepIn K (.ref y0)=true)
  (mk_Keeper:PySem.W.makesIn K y6=true) (kc_Keeper:PySem.W.keepIn K (.ref y6)=true)
  :∃ fd:FuncData,(∀(s:Shared) (v:Value),BindsTo s fd ⟨[v],[]⟩ [("_law_script",v)])/\∀ base:Heap,K.In base->base.Ns mainGlobals mg->FnOk l.prog w K mg base CX0 10 fa fd ["_law_script"] (spLaw K):=by
 have e:=hfa.symm.trans (PySem.W.mg_of X G a41)
 cases e
 have T:Txt K mg y0 yb ya y6 y9 y8 y7:=⟨trivial,x0q X G y_b_all,x0q X G y_b_bool,x0q X G y_b_enumerate,x0q X G y_b_int,x0q X G y_b_isinstance,x0q X G y_b_len,x0q X G y_b_list,x0q X G y_b_max,x0q X G y_b_min,x0q X G y_b_range,x0q X G y_b_set,x0q X G y_b_sorted,x0q X G y_b_str,x0q X G y_b_tuple,PySem.W.mg_of X G y_g_Council,PySem.W.mg_of X G y_g_Down,PySem.W.mg_of X G y_g_InTheWay,PySem.W.mg_of X G y_g_Keeper,PySem.W.mg_of X G y_g_NotFree,PySem.W.mg_of X G y_g_OldNumber,PySem.W.mg_of X G y_g_UnknownKeeper,y_pg_Council,y_hd_Council,y_po_Council,y_sa_Council,y_n_Council_keepers,y_n_Council_most,y_pg_Keeper,y_hd_Keeper,y_po_Keeper,y_sa_Keeper,y_n_Keeper_up,y_n_Keeper_top,y_n_Keeper_kept,y_x_Down,y_x_InTheWay,y_x_NotFree,y_x_OldNumber,y_x_UnknownKeeper,y_sb_Down_NotFree,y_sb_InTheWay_NotFree,y_sb_NotFree_NotFree,y_sb_OldNumber_NotFree,y_sb_UnknownKeeper_NotFree⟩
 obtain⟨_,_,kV,dc,pm,an,cd,ct,_,rfl,_,_⟩:=id F41.ex
 have D22:Def K mg "_law_same" z2i ["_law_found","_law_due"]:=⟨_,_,F22,W.mg_of X G a22,F22.binds fun _ _ _ _ _ _ us hl=>match us,hl with|[_,_],_=>rfl⟩
 refine⟨W.fnOf "law" "law" (z3w z86) (z23 z86) (zh z86) .none kV dc pm an cd ct,fun s v=>.of_eq rfl,fun base _ _=>?_⟩
 have y1d:=zim (P:=l.prog) (w:=w) (base:=base) ⟨_,_,F0,W.mg_of X G a0,F0.binds fun _ _ _ _ _ _ us hl=>match us,hl with|[_,_],_=>rfl⟩ T
 have y1f:=zgt (P:=l.prog) (w:=w) (base:=base) ⟨_,_,F1,W.mg_of X G a1,F1.binds fun _ _ _ _ _ _ us hl=>match us,hl with|[_,_],_=>rfl⟩ T y1d
 have y1g:=zin (P:=l.prog) (w:=w) (base:=base) ⟨_,_,F2,W.mg_of X G a2,F2.binds fun _ _ _ _ _ _ us hl=>match us,hl with|[_,_,_,_],_=>rfl⟩ T y1f
 have yq:=z7t (P:=l.prog) (w:=w) (base:=base) ⟨_,_,F3,⟨mk_Keeper,a3,i3,kc_Keeper⟩,F3.binds fun _ _ _ _ _ _ us hl=>match us,hl with|[_],_=>rfl⟩ T
 have y13:=zap (P:=l.prog) (w:=w) (base:=base) ⟨_,_,F4,⟨a4,i4,F4.kp⟩,F4.binds fun _ _ _ _ _ _ us hl=>match us,hl with|[_],_=>rfl⟩ T
 have y10:=zaq (P:=l.prog) (w:=w) (base:=base) ⟨_,_,F5,⟨a5,i5,F5.kp⟩,F5.binds fun _ _ _ _ _ _ us hl=>match us,hl with|[_],_=>rfl⟩ T
 have yf:=zan (P:=l.prog) (w:=w) (base:=base) ⟨_,_,F6,⟨a6,i6,F6.kp⟩,F6.binds fun _ _ _ _ _ _ us hl=>match us,hl with|[_,_],_=>rfl⟩ T
 have yj:=z5p (P:=l.prog) (w:=w) (base:=base) ⟨_,_,F7,⟨a7,i7,F7.kp⟩,F7.binds fun _ _ _ _ _ _ us hl=>match us,hl with|[_,_,_,_,_],_=>rfl⟩ T y1g yf
 have yh:=z6z (P:=l.prog) (w:=w) (base:=base) ⟨_,_,F8,⟨a8,i8,F8.kp⟩,F8.binds fun _ _ _ _ _ _ us hl=>match us,hl with|[_,_,_,_,_],_=>rfl⟩ T yj
 have y14:=zao (P:=l.prog) (w:=w) (base:=base) ⟨_,_,F9,⟨a9,i9,F9.kp⟩,F9.binds fun _ _ _ _ _ _ us hl=>match us,hl with|[_,_,_,_,_,_,_],_=>rfl⟩ T yh
 have y11:=zaw (P:=l.prog) (w:=w) (base:=base) ⟨_,_,F10,⟨a10,i10,F10.kp⟩,F10.binds fun _ _ _ _ _ _ us hl=>match us,hl with|[_,_,_],_=>rfl⟩ T yf
 have yn:=z70 (P:=l.prog) (w:=w) (base:=base) ⟨_,_,F11,⟨mk_Council,a11,i11,kc_Council⟩,F11.binds fun _ _ _ _ _ _ us hl=>match us,hl with|[_,_],_=>rfl⟩ T yq
 have yd:=z6o (P:=l.prog) (w:=w) (base:=base) ⟨_,_,F12,⟨a12,i12,F12.kp⟩,F12.binds fun _ _ _ _ _ _ us hl=>match us,hl with|[_,_],_=>rfl⟩ T
 have yc:=z60 (P:=l.prog) (w:=w) (base:=base) ⟨_,_,F13,⟨a13,i13,F13.kp⟩,F13.binds fun _ _ _ _ _ _ us hl=>match us,hl with|[_],_=>rfl⟩ T
 have yz:=z9u (P:=l.prog) (w:=w) (base:=base) ⟨_,_,F14,⟨a14,i14,F14.kp⟩,F14.binds fun _ _ _ _ _ _ us hl=>match us,hl with|[_,_],_=>rfl⟩ T y13 yd
 have yx:=z9v (P:=l.prog) (w:=w) (base:=base) ⟨_,_,F15,⟨a15,i15,F15.kp⟩,F15.binds fun _ _ _ _ _ _ us hl=>match us,hl with|[_,_],_=>rfl⟩ T y10 yd
 have y1h:=z93 (P:=l.prog) (w:=w) (base:=base) ⟨_,_,F16,⟨a16,i16,F16.kp⟩,F16.binds fun _ _ _ _ _ _ us hl=>match us,hl with|[_,_,_],_=>rfl⟩ T yf yd
 have yt:=z8b (P:=l.prog) (w:=w) (base:=base) ⟨_,_,F17,⟨a17,i17,F17.kp⟩,F17.binds fun _ _ _ _ _ _ us hl=>match us,hl with|[_,_,_,_,_],_=>rfl⟩ T yh yc
 have yy:=z9w (P:=l.prog) (w:=w) (base:=base) ⟨_,_,F18,⟨a18,i18,F18.kp⟩,F18.binds fun _ _ _ _ _ _ us hl=>match us,hl with|[_,_,_,_,_,_],_=>rfl⟩ T y14 yd yc yt
 have yv:=za3 (P:=l.prog) (w:=w) (base:=base) ⟨_,_,F19,⟨a19,i19,F19.kp⟩,F19.binds fun _ _ _ _ _ _ us hl=>match us,hl with|[_,_,_],_=>rfl⟩ T y11 yc
 have yk:=z8c (P:=l.prog) (w:=w) (base:=base) ⟨_,_,F20,⟨a20,i20,F20.kp⟩,F20.binds fun _ _ _ _ _ _ us hl=>match us,hl with|[_,_,_],_=>rfl⟩ T yf yc
 have yi:=zgw (P:=l.prog) (w:=w) (base:=base) ⟨_,_,F21,W.mg_of X G a21,F21.binds fun _ _ _ _ _ _ us hl=>match us,hl with|[_,_],_=>rfl⟩ T
 have y1l:=zk5 (P:=l.prog) (w:=w) (base:=base) D22 T (zi0 D22)
 have y1k:=z94 (P:=l.prog) (w:=w) (base:=base) D22 T y1l
 have y1i:=zk6 (P:=l.prog) (w:=w) (base:=base) D22 T y1k
 have y1j:=zk7 (P:=l.prog) (w:=w) (base:=base) D22 T y1i
 have ye:Has l.prog w K mg base 4 "_law_same" ["_law_found","_law_due"] (z2q 3):=y1j
 have yl:=zdl (P:=l.prog) (w:=w) (base:=base) ⟨_,_,F23,W.mg_of X G a23,F23.binds fun _ _ _ _ _ _ us hl=>match us,hl with|[_,_],_=>rfl⟩ T
 have yu:=zby (P:=l.prog) (w:=w) (base:=base) ⟨_,_,F24,W.mg_of X G a24,F24.binds fun _ _ _ _ _ _ us hl=>match us,hl with|[_,_],_=>rfl⟩ T yl
 have y16:=zbz (P:=l.prog) (w:=w) (base:=base) ⟨_,_,F25,W.mg_of X G a25,F25.binds fun _ _ _ _ _ _ us hl=>match us,hl with|[_,_,_],_=>rfl⟩ T yl
 have y1c:=zdp (P:=l.prog) (w:=w) (base:=base) ⟨_,_,F26,W.mg_of X G a26,F26.binds fun _ _ _ _ _ _ us hl=>match us,hl with|[_,_],_=>rfl⟩ T
 have y15:=zc0 (P:=l.prog) (w:=w) (base:=base) ⟨_,_,F27,W.mg_of X G a27,F27.binds fun _ _ _ _ _ _ us hl=>match us,hl with|[_],_=>rfl⟩ T yi yu y16 y1c
 have y18:=zc2 (P:=l.prog) (w:=w) (base:=base) ⟨_,_,F28,W.mg_of X G a28,F28.binds fun _ _ _ _ _ _ us hl=>match us,hl with|[_,_,_],_=>rfl⟩ T
 have y1a:=zdm (P:=l.prog) (w:=w) (base:=base) ⟨_,_,F29,W.mg_of X G a29,F29.binds fun _ _ _ _ _ _ us hl=>match us,hl with|[_,_],_=>rfl⟩ T
 have yo:=zem (P:=l.prog) (w:=w) (base:=base) ⟨_,_,F30,W.mg_of X G a30,F30.binds fun _ _ _ _ _ _ us hl=>match us,hl with|[_,_,_,_],_=>rfl⟩ T y1a
 have y1e:=zeq (P:=l.prog) (w:=w) (base:=base) ⟨_,_,F31,W.mg_of X G a31,F31.binds fun _ _ _ _ _ _ us hl=>match us,hl with|[_],_=>rfl⟩ T
 have y12:=zau (P:=l.prog) (w:=w) (base:=base) ⟨_,_,F32,W.mg_of X G a32,F32.binds fun _ _ _ _ _ _ us hl=>match us,hl with|[_,_,_],_=>rfl⟩ T yo
 have yp:=zen (P:=l.prog) (w:=w) (base:=base) ⟨_,_,F33,W.mg_of X G a33,F33.binds fun _ _ _ _ _ _ us hl=>match us,hl with|[_],_=>rfl⟩ T
 have yg:=zav (P:=l.prog) (w:=w) (base:=base) ⟨_,_,F34,W.mg_of X G a34,F34.binds fun _ _ _ _ _ _ us hl=>match us,hl with|[_,_],_=>rfl⟩ T y12 yp
 have y1b:=zdw (P:=l.prog) (w:=w) (base:=base) ⟨_,_,F35,W.mg_of X G a35,F35.binds fun _ _ _ _ _ _ us hl=>match us,hl with|[_,_],_=>rfl⟩ T yg
 have y19:=zdy (P:=l.prog) (w:=w) (base:=base) ⟨_,_,F36,W.mg_of X G a36,F36.binds fun _ _ _ _ _ _ us hl=>match us,hl with|[_,_],_=>rfl⟩ T yp yg
 have yw:=za2 (P:=l.prog) (w:=w) (base:=base) ⟨_,_,F37,W.mg_of X G a37,F37.binds fun _ _ _ _ _ _ us hl=>match us,hl with|[_,_],_=>rfl⟩ T
 have yr:=zax (P:=l.prog) (w:=w) (base:=base) ⟨_,_,F38,W.mg_of X G a38,F38.binds fun _ _ _ _ _ _ us hl=>match us,hl with|[_,_],_=>rfl⟩ T
 have y17:=zc1 (P:=l.prog) (w:=w) (base:=base) ⟨_,_,F39,W.mg_of X G a39,F39.binds fun _ _ _ _ _ _ us hl=>match us,hl with|[_,_,_],_=>rfl⟩ T yy
 have ym:=z6t (P:=l.prog) (w:=w) (base:=base) ⟨_,_,F40,W.mg_of X G a40,F40.binds fun _ _ _ _ _ _ us hl=>match us,hl with|[_,_,_,_],_=>rfl⟩ T yz yx yv ye y18 yg y1b y19 yw y17
 have y1m:=zma (P:=l.prog) (w:=w) (base:=base) ⟨_,_,F41,W.mg_of X G a41,F41.binds fun _ _ _ _ _ _ us hl=>match us,hl with|[_],_=>rfl⟩ T yn yk ye y15 yo y1e yr ym
 exact Has.at y1m (PySem.W.mg_of X G a41) F41
end Fg
open PySem PySem.W PyProof.Rows
set_option maxRecDepth 100000 in
set_option maxHeartbeats 0 in
theorem PySem.Challenge.cw_fencegate_k13_council_having_holds : PySem.Challenge.rw_fencegate_k13_council_having.Holds := by
 w_on; o_law
 refine holds_open (r := PySem.Challenge.rw_fencegate_k13_council_having.row) (q := Fg.vw) (loose := []) (XP := XL Fg.vw []) (YP := (kHook Fg.kk Fg.ka Fg.ka_eq).says) (N := 12 + (1 + (3288 + 200)))
  Fg.left_ok (kHook Fg.kk Fg.ka Fg.ka_eq).of (kHook Fg.kk Fg.ka Fg.ka_eq).keeps (fun s e => xl_of s (Bool.and_eq_true_iff.mp e).1) XL.keeps
  (by rfl) (by rfl) (by rfl) (fun s e => recFacts_of (Bool.and_eq_true_iff.mp e).2) (by rfl) (by assumption) (by decide +kernel)
  ⟨rfl, rfl, rfl, rfl, rfl, by decide +kernel⟩ ?hw ?hc
 (case hw => w_witness2)
 k_fill
 refine L2.walk_ofK (l := PySem.Challenge.rw_fencegate_k13_council_having) (n := 63) (k := 10) (x := "_law_script") (CX := L2.CX0) (sp := fun K => Fg.spLaw K) rfl (by decide) rfl ⟨rfl, by decide, by decide⟩ (fun w h Y => PySem.W.kIn_of Y) ?F (fun K H a ns hl hO hS => ⟨a, ns, rfl, hS, hl, fun _ => rfl⟩) (fun _ _ _ _ z => z)
 case F =>
  intro w mg fa h KX G hmg
  refine' Fg.all_mk KX G hmg ?y_b_all ?y_b_bool ?y_b_enumerate ?y_b_int ?y_b_isinstance ?y_b_len ?y_b_list ?y_b_max ?y_b_min ?y_b_range ?y_b_set ?y_b_sorted ?y_b_str ?y_b_tuple ?y_g_Council ?y_g_Down ?y_g_InTheWay ?y_g_Keeper ?y_g_NotFree ?y_g_OldNumber ?y_g_UnknownKeeper ?y_pg_Council ?y_hd_Council ?y_po_Council ?y_sa_Council ?y_n_Council_keepers ?y_n_Council_most ?y_pg_Keeper ?y_hd_Keeper ?y_po_Keeper ?y_sa_Keeper ?y_n_Keeper_up ?y_n_Keeper_top ?y_n_Keeper_kept ?y_x_Down ?y_x_InTheWay ?y_x_NotFree ?y_x_OldNumber ?y_x_UnknownKeeper ?y_sb_Down_NotFree ?y_sb_InTheWay_NotFree ?y_sb_NotFree_NotFree ?y_sb_OldNumber_NotFree ?y_sb_UnknownKeeper_NotFree ?a0 ?F0 ?a1 ?F1 ?a2 ?F2 ?a3 ?i3 ?F3 ?a4 ?i4 ?F4 ?a5 ?i5 ?F5 ?a6 ?i6 ?F6 ?a7 ?i7 ?F7 ?a8 ?i8 ?F8 ?a9 ?i9 ?F9 ?a10 ?i10 ?F10 ?a11 ?i11 ?F11 ?a12 ?i12 ?F12 ?a13 ?i13 ?F13 ?a14 ?i14 ?F14 ?a15 ?i15 ?F15 ?a16 ?i16 ?F16 ?a17 ?i17 ?F17 ?a18 ?i18 ?F18 ?a19 ?i19 ?F19 ?a20 ?i20 ?F20 ?a21 ?F21 ?a22 ?F22 ?a23 ?F23 ?a24 ?F24 ?a25 ?F25 ?a26 ?F26 ?a27 ?F27 ?a28 ?F28 ?a29 ?F29 ?a30 ?F30 ?a31 ?F31 ?a32 ?F32 ?a33 ?F33 ?a34 ?F34 ?a35 ?F35 ?a36 ?F36 ?a37 ?F37 ?a38 ?F38 ?a39 ?F39 ?a40 ?F40 ?a41 ?F41 ?mk_Council ?kc_Council ?mk_Keeper ?kc_Keeper
  (case y_b_all => k_is)
  (case y_b_bool => k_is)
  (case y_b_enumerate => k_is)
  (case y_b_int => k_is)
  (case y_b_isinstance => k_is)
  (case y_b_len => k_is)
  (case y_b_list => k_is)
  (case y_b_max => k_is)
  (case y_b_min => k_is)
  (case y_b_range => k_is)
  (case y_b_set => k_is)
  (case y_b_sorted => k_is)
  (case y_b_str => k_is)
  (case y_b_tuple => k_is)
  (case y_g_Council => k_is)
  (case y_g_Down => k_is)
  (case y_g_InTheWay => k_is)
  (case y_g_Keeper => k_is)
  (case y_g_NotFree => k_is)
  (case y_g_OldNumber => k_is)
  (case y_g_UnknownKeeper => k_is)
  (case y_pg_Council => k_is)
  (case y_hd_Council => k_is)
  (case y_po_Council => k_is)
  (case y_sa_Council => k_is)
  (case y_n_Council_keepers => k_is)
  (case y_n_Council_most => k_is)
  (case y_pg_Keeper => k_is)
  (case y_hd_Keeper => k_is)
  (case y_po_Keeper => k_is)
  (case y_sa_Keeper => k_is)
  (case y_n_Keeper_up => k_is)
  (case y_n_Keeper_top => k_is)
  (case y_n_Keeper_kept => k_is)
  (case y_x_Down => k_exc)
  (case y_x_InTheWay => k_exc)
  (case y_x_NotFree => k_exc)
  (case y_x_OldNumber => k_exc)
  (case y_x_UnknownKeeper => k_exc)
  (case y_sb_Down_NotFree => k_is)
  (case y_sb_InTheWay_NotFree => k_is)
  (case y_sb_NotFree_NotFree => k_is)
  (case y_sb_OldNumber_NotFree => k_is)
  (case y_sb_UnknownKeeper_NotFree => k_is)
  (case a0 => k_is)
  (case F0 => (apply L2.fun_mk; k_is; k_is; k_is))
  (case a1 => k_is)
  (case F1 => (apply L2.fun_mk; k_is; k_is; k_is))
  (case a2 => k_is)
  (case F2 => (apply L2.fun_mk; k_is; k_is; k_is))
  (case a3 => k_is)
  (case i3 => k_is)
  (case F3 => (apply L2.fun_mk; k_is; k_is; k_is))
  (case a4 => k_is)
  (case i4 => k_is)
  (case F4 => (apply L2.fun_mk; k_is; k_is; k_is))
  (case a5 => k_is)
  (case i5 => k_is)
  (case F5 => (apply L2.fun_mk; k_is; k_is; k_is))
  (case a6 => k_is)
  (case i6 => k_is)
  (case F6 => (apply L2.fun_mk; k_is; k_is; k_is))
  (case a7 => k_is)
  (case i7 => k_is)
  (case F7 => (apply L2.fun_mk; k_is; k_is; k_is))
  (case a8 => k_is)
  (case i8 => k_is)
  (case F8 => (apply L2.fun_mk; k_is; k_is; k_is))
  (case a9 => k_is)
  (case i9 => k_is)
  (case F9 => (apply L2.fun_mk; k_is; k_is; k_is))
  (case a10 => k_is)
  (case i10 => k_is)
  (case F10 => (apply L2.fun_mk; k_is; k_is; k_is))
  (case a11 => k_is)
  (case i11 => k_is)
  (case F11 => (apply L2.fun_mk; k_is; k_is; k_is))
  (case a12 => k_is)
  (case i12 => k_is)
  (case F12 => (apply L2.fun_mk; k_is; k_is; k_is))
  (case a13 => k_is)
  (case i13 => k_is)
  (case F13 => (apply L2.fun_mk; k_is; k_is; k_is))
  (case a14 => k_is)
  (case i14 => k_is)
  (case F14 => (apply L2.fun_mk; k_is; k_is; k_is))
  (case a15 => k_is)
  (case i15 => k_is)
  (case F15 => (apply L2.fun_mk; k_is; k_is; k_is))
  (case a16 => k_is)
  (case i16 => k_is)
  (case F16 => (apply L2.fun_mk; k_is; k_is; k_is))
  (case a17 => k_is)
  (case i17 => k_is)
  (case F17 => (apply L2.fun_mk; k_is; k_is; k_is))
  (case a18 => k_is)
  (case i18 => k_is)
  (case F18 => (apply L2.fun_mk; k_is; k_is; k_is))
  (case a19 => k_is)
  (case i19 => k_is)
  (case F19 => (apply L2.fun_mk; k_is; k_is; k_is))
  (case a20 => k_is)
  (case i20 => k_is)
  (case F20 => (apply L2.fun_mk; k_is; k_is; k_is))
  (case a21 => k_is)
  (case F21 => (apply L2.fun_mk; k_is; k_is; k_is))
  (case a22 => k_is)
  (case F22 => (apply L2.fun_mk; k_is; k_is; k_is))
  (case a23 => k_is)
  (case F23 => (apply L2.fun_mk; k_is; k_is; k_is))
  (case a24 => k_is)
  (case F24 => (apply L2.fun_mk; k_is; k_is; k_is))
  (case a25 => k_is)
  (case F25 => (apply L2.fun_mk; k_is; k_is; k_is))
  (case a26 => k_is)
  (case F26 => (apply L2.fun_mk; k_is; k_is; k_is))
  (case a27 => k_is)
  (case F27 => (apply L2.fun_mk; k_is; k_is; k_is))
  (case a28 => k_is)
  (case F28 => (apply L2.fun_mk; k_is; k_is; k_is))
  (case a29 => k_is)
  (case F29 => (apply L2.fun_mk; k_is; k_is; k_is))
  (case a30 => k_is)
  (case F30 => (apply L2.fun_mk; k_is; k_is; k_is))
  (case a31 => k_is)
  (case F31 => (apply L2.fun_mk; k_is; k_is; k_is))
  (case a32 => k_is)
  (case F32 => (apply L2.fun_mk; k_is; k_is; k_is))
  (case a33 => k_is)
  (case F33 => (apply L2.fun_mk; k_is; k_is; k_is))
  (case a34 => k_is)
  (case F34 => (apply L2.fun_mk; k_is; k_is; k_is))
  (case a35 => k_is)
  (case F35 => (apply L2.fun_mk; k_is; k_is; k_is))
  (case a36 => k_is)
  (case F36 => (apply L2.fun_mk; k_is; k_is; k_is))
  (case a37 => k_is)
  (case F37 => (apply L2.fun_mk; k_is; k_is; k_is))
  (case a38 => k_is)
  (case F38 => (apply L2.fun_mk; k_is; k_is; k_is))
  (case a39 => k_is)
  (case F39 => (apply L2.fun_mk; k_is; k_is; k_is))
  (case a40 => k_is)
  (case F40 => (apply L2.fun_mk; k_is; k_is; k_is))
  (case a41 => k_is)
  (case F41 => (apply L2.fun_mk; k_is; k_is; k_is))
  (case mk_Council => k_is)
  (case kc_Council => k_is)
  (case mk_Keeper => k_is)
  (case kc_Keeper => k_is)
