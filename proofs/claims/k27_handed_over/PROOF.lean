import PyProof.Rows.All
import Wide.All
import OpenK.KLine
import OpenK.KOwn
import OpenK.KRaise
import OpenK.KDescr
import OpenK.KCall
import OpenK.KCls
import OpenK.KMake
import OpenK.KMore
import OpenK.Peek
import KE.KFromBytes
import KE.KIsAll
import KE.KItem
import KE.KxBytes
import Wide.FinOn
import PyProof.EqAt
import PyProof.EqKinds
import PyProof.NeKinds
import PyProof.TupleCall
import PyProof.ExcBaseAll.ValueError
import PyProof.NsDelKeeps
import Lean
import KE.KDictOf
import KE.KDictList
import KE.KDictSum
import KE.KPairComp
import KE.KMinKey
import KE.KNestM
import KE.KSortKey
import KE.KSortAsk
import KE.KSortTup
import KE.KLam
import PyProof.Rows.SortRev
import KE.KRevIter
import PySem.Challenge.RW_fencegate_k27_handed_over
set_option bootstrap.genMatcherCode false
local macro_rules|`(tactic|omega)=>`(tactic|lia)
set_option Elab.async false
set_option linter.all false
set_option maxRecDepth 100000
set_option maxHeartbeats 4000000
open List renaming length_map->x5,getElem?_eq_getElem->x8,mem_of_getElem?->xf,mem_singleton->xg,getElem?_map->xj,mem_cons->xk,getElem?_eq_some_iff->xl,getD_eq_getElem?_getD->xo,mem_cons_self->xp,length_append->xt,mem_map->xw,mem_cons_of_mem->xx,size_toArray->xy,mem_filter->xz,mem_append->x02,mem_append_right->x03,map_append->x04,length_filter_le->x06,length_take->x07,length_cons->x09,map_cons->x0a,take_of_length_le->x0d,take_length->x0h,nodup_cons->x0k,mem_range->x0l,getElem_of_mem->x0m,mem_append_left->x0p,getElem?_replicate->x0r,getElem?_append_left->x0u,pairwise_iff_getElem->x0w,map_map->x0x,take_succ->x16,getElem?_append_right->x19,lookup_cons->x1c,getElem?_eq_none->x1f,length_range->x1h,length_eq_zero_iff->x1i,append_nil->x1o,replicate_succ->x1u,length_singleton->x1w,foldl_cons->x21,filter_append->x23,ext_getElem?->x28,nodup_nil->x29,pairwise_map->x2a,nodup_append->x2b,take_succ_eq_append_getElem->x2c,take_append_drop->x2f,filter_cons->x2g,getElem?_set_ne->x2i,length_nil->x2n,map_congr_left->x2o,getElem?_set_self->x2p,filter_eq_nil_iff->x2q,sum_cons->x2s,all_eq_true->x2u,getElem_mem->x2v,mem_replicate->x2z
open PySem renaming wpAny_bind->x6,wpAny_pure->xh,wpAny_mono->x0e,wpAny_holding->x0t,wpAny_newObj_type->x10,mem_of_lookup->x13,wpAny_truthy_bool->x1a,codeAny_builtin->x1b,wpAny_call_entry->x1d,sizeLine_eq->x1v,wpAny_Call_Name_kw->x22,plainId_quiet->x25,wpAny_pyIter_list->x27,wpAny_callSpecial?_slot->x2l,wpAny_setField->x2w,tupleKind_room_in1->x2x,wpAny_tryCatch->x2y,wpAny_passesOwn->x30,codeAny_mono->x31
open PySem.Heap renaming get?_push_of_some->x9,lt_size->xn,get?_push_size->xr,size_push->x14,get?_update_other->x1q,get?_update_self->x1x,get?_none_of_le->x2h
open Nat renaming le_refl->xi,ne_of_lt->xu,lt_of_lt_of_le->x00,le_trans->x01,zero_le->x08,lt_irrefl->x0o,lt_succ_self->x0q,ne_of_gt->x17,lt_succ_of_lt->x1g,lt_of_le_of_lt->x1l,lt_trans->x1r,le_of_lt->x20,le_succ->x2r
open Bool renaming false_ne_true->xm,false_eq_true->x0g,and_eq_true->x0y,eq_iff_iff->x2d,false_and->x2j
open Option.some renaming inj->xq,injEq->x26
open Option renaming map_eq_some_iff->x0b,map_some->x18
open Array renaming length_toList->x0f,getElem?_eq_getElem->x0v,getElem?_toList->x2e
open PySem.Heap.SameBut renaming update->x0i
open PySem.PassesOwn renaming never->x0n
open Int renaming toNat_natCast->x0z
open PySem.Around renaming under_plainId->x15
open PySem.F renaming plainAttrs_list->x1j,plain_min_loop->x1s,slot_list_append->x1y,type_list_append->x1z
open PySem.Calls renaming spliced_cons->x1k
open PySem.Obj renaming data_mapFields->x1m
open PySem.W renaming kia_one->x1n,kia_tup->x1p
open True renaming intro->x1t
open PySem.Str renaming length_append->x2m
abbrev x05:=@decide_eq_true
abbrev x0c:=@of_decide_eq_true
abbrev x0j:=@decide_eq_false
abbrev x0s:=@decide_eq_true_eq
abbrev x12:=@congrArg
abbrev x1e:=@beq_eq_false_iff_ne
abbrev x24:=@decide_eq_false_iff_not
abbrev x2k:=@bne_self_eq_false
abbrev x2t:=@beq_self_eq_true
abbrev x32:=@if_false
section
namespace PySem.W
open PySem
noncomputable def kIns:List Obj->Nat->BT->BT
 |[],_,t=>t
 |o::r,i,t=>kIns r (i+1) (t.ins i o)
noncomputable def headSeen{α:Type}(p q:Program)(loose:List Str)(X:Shared->Bool)(obs:Shared->α)(w:World)(m0:Nat)(ann:Option Value)(n2:Nat)(t:Thread)(s:Shared):=
 ((topRun treeTable p w m0 ann n2 s t).bind fun s₁=>match staticsOk (importedModules p.main.body) (boot_heap w.params) s₁.heap&&namesBound p s₁.heap&&gensDone s₁&&laidKept (boot_heap w.params) s₁.heap with
  |true=>some s₁
  |false=>none).map fun s=>(openSeen q loose (importedModules p.main.body) X true s,obs s)
theorem left_of{α:Type}{p q:Program}{loose:List Str}{X:Shared->Bool}{obs:Shared->α}{val:World->α}{m0 np nb n1 n2:Nat}{ann:Option Value}{env:Env}{body:List Stmt}{code:Code}{pA pB pM fr:Pos}
  {sA:World->OsState->Shared} {sB:World->OsState->SharedT}
  (hb:∀w:World,(fencedOpening treeTable p w (np+(nb+(n1+n2)))).map (fun s=>(s.heap,s.gens,s.drawn,s.toks))=some (boot_heap w.params,#[],boot_drawn,boot_toks))
  (pre:∀w os,topGo treeTable p w m0 ann np ⟨boot_heap w.params,#[],boot_drawn,boot_toks,os⟩ (topStub p)=some (sA w os,⟨denote treeTable (.body (body++[]) env),code,pA,[topFrame fr]⟩))
  (blk:∀w os,segRun treeTable p w m0 ann 1 nb (sA w os) (blockOf (body++[]) env code pA [topFrame fr])=some (.next,(sB w os).abs,code,pB))
  (mid:∀w os,(segRunT treeTable p w m0 ann 1 n1 (sB w os) (piecesOf body env code pB [topFrame fr])).map (fun r=>(r.1,r.2.2.1,r.2.2.2,headSeen p q loose X obs w m0 ann n2 (restOf [] env code pM [topFrame fr]) r.2.1.abs))=some (.next,code,pM,some (openGood q loose,val w)))
  (sz:∀ w:World,(((boot_heap w.params).isNs mainGlobals&&(#[]:Array GenState).size==0),(boot_heap w.params).objs.size,(boot_heap w.params).nsMap mainGlobals "__annotations__")=(true,m0,ann)):
  LeftO p q loose X obs val (np+(nb+(n1+n2))):=fun w=>by
 obtain⟨⟨h,g,d,k,os⟩,hs,hv⟩:=x0b.mp (hb w)
 simp only[Prod.mk.injEq]at hv
 obtain⟨rfl,rfl,rfl,rfl⟩:=hv
 have R:=mid w os
 obtain⟨z1,z2,z3⟩:_/\_/\_:=by simpa only[Prod.mk.injEq]using sz w
 cases e:segRunT treeTable p w m0 ann 1 n1 (sB w os) (piecesOf body env code pB [topFrame fr]) with
 |none=>rw[e]at R;cases R
 |some r=>
  obtain⟨f,s',c,pp⟩:=r
  rw[e]at R
  have R2:=xq R
  simp only[Prod.mk.injEq]at R2
  obtain⟨rfl,rfl,rfl,R3⟩:=R2
  unfold headSeen at R3
  have M:=segRun_of e
  cases t:topRun treeTable p w m0 ann n2 s'.abs (restOf [] env c pp [topFrame fr]) with
  |none=>rw[t]at R3;cases R3
  |some r=>
   rw[t]at R3
   have G:=go_top (pre w os) (piece_block (blk w os) (piece_app M t))
   unfold openEnds
   rw[hs]
   show(topFrom treeTable p w _ _).map _=_
   unfold topFrom
   dsimp only
   rw[z1,z2,z3,G]
   exact R3
theorem zgw{σ τ α β A B C:Type}{o:Option σ}{k1:σ->A}{k2:σ->B}{k3:σ->C}{h:σ->Option τ}{g1:τ->α}{g2:τ->β}{a:A}{b:B}{c:C}{v1:α}{v2:β}
  (x:o.map (fun r=>(k1 r,k2 r,k3 r,(h r).map g1))=some (a,b,c,some v1)) (y:o.map (fun r=>(k1 r,k2 r,k3 r,(h r).map g2))=some (a,b,c,some v2)):
  o.map (fun r=>(k1 r,k2 r,k3 r,(h r).map fun s=>(g1 s,g2 s)))=some (a,b,c,some (v1,v2)):=by
 cases o with
 |none=>cases x
 |some r=>
  simp only[x18,x26,Prod.mk.injEq]at x y⊢
  obtain⟨x1,x2,x3,x4⟩:=x
  obtain⟨-,-,-,y4⟩:=y
  refine⟨x1,x2,x3,?_⟩
  cases e:h r with
  |none=>rw[e]at x4;cases x4
  |some t=>
   rw[e]at x4 y4
   simp only[x18,x26]at x4 y4⊢
   rw[x4,y4]
theorem zmw{σ τ α β A B C:Type}{o:Option σ}{k1:σ->A}{k2:σ->B}{k3:σ->C}{h:σ->Option τ}{g:τ->α}{F:τ->β}(φ:α->β)(e:∀s,F s=φ (g s)){a:A}{b:B}{c:C}{v:α}
  (x:o.map (fun r=>(k1 r,k2 r,k3 r,(h r).map g))=some (a,b,c,some v)):o.map (fun r=>(k1 r,k2 r,k3 r,(h r).map F))=some (a,b,c,some (φ v)):=by
 cases o with
 |none=>cases x
 |some r=>
  simp only[x18,x26,Prod.mk.injEq]at x⊢
  obtain⟨x1,x2,x3,x4⟩:=x
  refine⟨x1,x2,x3,?_⟩
  cases e2:h r with
  |none=>rw[e2]at x4;cases x4
  |some t=>
   rw[e2]at x4
   simp only[x18,x26]at x4⊢
   rw[e,x4]
end PySem.W
namespace Fg
open PySem PySem.W PyProof.Rows PySem.Calls
noncomputable def ktop(i:Nat):Stmt:=PySem.Challenge.pw_fencegate_k27_handed_over.main.body.getD i (.Pass ⟨0,0,0,0⟩)
noncomputable def zom(s:Stmt):Arguments:=match s with
 | .FunctionDef _ a _ _ _ _ _ _ _ _=>a
 |_=>{ posonlyargs:=[],args:=[],vararg:=none,kwonlyargs:=[],kw_defaults:=[],kwarg:=none,defaults:=[] }
noncomputable def zon(s:Stmt):List Stmt:=match s with
 | .FunctionDef _ _ b _ _ _ _ _ _ _=>b
 |_=>[]
noncomputable def znp(s:Stmt):Scope:=match s with
 | .FunctionDef _ _ _ _ _ _ sc _ _ _=>sc
 |_=>{ kind:=.function,names:=[],isGenerator:=false,isCoroutine:=false }
noncomputable def kcls(s:Stmt)(j:Nat):Stmt:=match s with
 | .ClassDef _ _ _ body _ _ _ _ _ _ _=>body.getD j (.Pass ⟨0,0,0,0⟩)
 |_=>.Pass ⟨0,0,0,0⟩
noncomputable def kS(x:String)(n:Nat):Value:=.str (Str.ofString x) n
noncomputable def kE(P:Params)(x:String)(n:Nat)(v:Value):DictEntry:=⟨PyData.keyHash P (Str.ofString x),kS x n,v⟩
noncomputable def kC(vs:Array Value):Obj:={ cls:=.type "code",data:=.fields vs }
noncomputable def kD(n q:String)(t l a r:Nat)(u v x:Value)(e:Nat):Obj:=kC #[kS n t,kS q (t+1),kS "/claim/cut.py" (t+2),.int l 0,.int a 0,.int 0 0,.int 0 0,.int 3 0,.ref r,.bool true,.int 181 0,.ref (r+1),.none,u,v,x,.int e 0,.int l 0,kS "/claim/cut.py" (e+1)]
noncomputable def kF(n q:String)(s:Stmt)(m:Value)(c:Addr):Obj:={ cls:=.type "function",data:=.func { name:=Str.ofString n,qualname:=Str.ofString q,params:=zom s,body:=.stmts (zon s),scope:=znp s,globals:=3,closure:=[],defaults:=.none,kwdefaults:=.none,pyModule:=m,code:=.ref c } }
noncomputable def kk:Params->PySem.W.Frag:=fun P=>(nat_lit 2,{ cls:=.none,data:=Data.dict #[] })::
 (nat_lit 3,{ cls:=.type "dict",data:=Data.dict #[kE P "__name__" 165 (kS "law_fencegate_k27_handed_over" 1313),kE P "__doc__" 166 (.none),kE P "__package__" 167 (.none),kE P "__loader__" 168 (.builtin "__main__.__loader__#opaque"),kE P "__spec__" 169 (.none),kE P "__annotations__" 170 (.ref 6),kE P "__builtins__" 171 (.ref 4),kE P "__file__" 173 (kS "/claim/cut.py" 172),kE P "__cached__" 174 (.none),kE P "_wall" 193 (.ref 21),kE P "GateError" 220 (.ref 38),kE P "BadSetup" 243 (.ref 58),kE P "UnknownHolder" 266 (.ref 77),kE P "UnknownLock" 289 (.ref 96),kE P "UnknownStore" 312 (.ref 115),kE P "UnknownKeeper" 335 (.ref 134),kE P "BadTime" 358 (.ref 153),kE P "Asleep" 381 (.ref 172),kE P "Waiting" 404 (.ref 191),kE P "Holding" 427 (.ref 210),kE P "NotShared" 450 (.ref 229),kE P "NotHeld" 473 (.ref 248),kE P "ReadersOnly" 496 (.ref 267),kE P "Down" 519 (.ref 286),kE P "OldNumber" 542 (.ref 305),kE P "InTheWay" 565 (.ref 324),kE P "NotFree" 588 (.ref 343),kE P "MOST_TIME" 592 (.int 1000 591),kE P "MOST_SIGNS" 594 (.int 8 593),kE P "MOST_NAMES" 596 (.int 4 595),kE P "NAME_SIGNS" 598 (kS "abcdefghijklmnopqrstuvwxyz0123456789" 597),kE P "good_name" 604 (.ref 350),kE P "good_path" 610 (.ref 355),kE P "within" 619 (.ref 362),kE P "on_line" 627 (.ref 369),kE P "in_way" 637 (.ref 376),kE P "Keeper" 721 (.ref 436),kE P "Council" 848 (.ref 531),kE P "Store" 897 (.ref 566),kE P "put_in" 907 (.ref 577),kE P "ahead" 913 (.ref 582),kE P "chain_of" 923 (.ref 589),kE P "ring_of" 932 (.ref 596),kE P "last_in_ring" 941 (.ref 603),kE P "MOST_KEEPERS" 945 (.int 5 944),kE P "MOST_HOLDERS" 947 (.int 8 946),kE P "MOST_LOCKS" 949 (.int 10 948),kE P "MOST_STORES" 951 (.int 4 950),kE P "all_differ" 960 (.ref 610),kE P "good_setup" 966 (.ref 615),kE P "check_time" 973 (.ref 622),kE P "World" 1312 (.ref 881),kE P "_law_at" 1322 (.ref 892),kE P "_law_same" 1328 (.ref 897),kE P "_law_name" 1343 (.ref 904),kE P "_law_names" 1349 (.ref 909),kE P "_law_plan" 1355 (.ref 914),kE P "law" 1361 (.ref 919)] 58 })::
 (nat_lit 349,kD "good_name" "good_name" 599 78 1 346 .none .none (.ref 348) 602)::
 (nat_lit 350,kF "good_name" "good_name" (ktop 24) (kS "fencegate.paths" 589) 349)::
 (nat_lit 354,kD "good_path" "good_path" 605 80 1 351 .none .none (.ref 353) 608)::
 (nat_lit 355,kF "good_path" "good_path" (ktop 25) (kS "fencegate.paths" 589) 354)::
 (nat_lit 361,kD "within" "within" 611 83 2 356 (.ref 358) (.ref 359) (.ref 360) 617)::
 (nat_lit 362,kF "within" "within" (ktop 26) (kS "fencegate.paths" 589) 361)::
 (nat_lit 368,kD "on_line" "on_line" 620 86 2 363 (.ref 365) (.ref 366) (.ref 367) 625)::
 (nat_lit 369,kF "on_line" "on_line" (ktop 27) (kS "fencegate.paths" 589) 368)::
 (nat_lit 375,kD "in_way" "in_way" 628 88 4 370 (.ref 372) (.ref 373) (.ref 374) 635)::
 (nat_lit 376,kF "in_way" "in_way" (ktop 28) (kS "fencegate.paths" 589) 375)::
 (nat_lit 389,kD "__init__" "Keeper.__init__" 652 93 1 384 (.ref 386) (.ref 387) (.ref 388) 656)::
 (nat_lit 390,kF "__init__" "Keeper.__init__" (kcls (ktop 30) 0) (kS "fencegate.keeper" 638) 389)::
 (nat_lit 408,kD "live" "Keeper.live" 673 104 2 405 .none .none (.ref 407) 676)::
 (nat_lit 409,kF "live" "Keeper.live" (kcls (ktop 30) 3) (kS "fencegate.keeper" 638) 408)::
 (nat_lit 413,kD "names_in_way" "Keeper.names_in_way" 679 107 5 410 .none .none (.ref 412) 682)::
 (nat_lit 414,kF "names_in_way" "Keeper.names_in_way" (kcls (ktop 30) 4) (kS "fencegate.keeper" 638) 413)::
 (nat_lit 420,kD "says_free" "Keeper.says_free" 685 111 5 415 (.ref 417) (.ref 418) (.ref 419) 693)::
 (nat_lit 421,kF "says_free" "Keeper.says_free" (kcls (ktop 30) 5) (kS "fencegate.keeper" 638) 420)::
 (nat_lit 425,kD "take" "Keeper.take" 696 114 7 422 .none .none (.ref 424) 699)::
 (nat_lit 426,kF "take" "Keeper.take" (kcls (ktop 30) 6) (kS "fencegate.keeper" 638) 425)::
 (nat_lit 435,{ cls:=.type "dict",data:=Data.dict #[kE P "__module__" 647 (kS "fencegate.keeper" 638),kE P "__firstlineno__" 651 (.int 91 650),kE P "__init__" 658 (.ref 390),kE P "fall" 665 (.ref 397),kE P "rise" 672 (.ref 404),kE P "live" 678 (.ref 409),kE P "names_in_way" 684 (.ref 414),kE P "says_free" 695 (.ref 421),kE P "take" 701 (.ref 426),kE P "drop" 710 (.ref 433),kE P "__static_attributes__" 714 (.ref 434),kE P "__dict__" 716 (.ref 437),kE P "__weakref__" 718 (.ref 438),kE P "__doc__" 719 (.none)] 4 })::
 (nat_lit 436,{ cls:=.type "type",data:=Data.cls { name:=Str.ofString "Keeper",bases:=[.type "object"],mro:=[.ref 436,.type "object"],ns:=435,qualname:=Str.ofString "Keeper" },slots:=#[none,none,some (kS "Keeper" 640),some (kS "Keeper" 648),some (.builtin "object.__new__"),some (.bool true)] })::
 (nat_lit 437,{ cls:=.type "getset_descriptor",data:=Data.fields #[kS "__dict__" 715,.ref 436,.builtin "function.__dict__",.builtin "function.__dict__#set"] })::
 (nat_lit 438,{ cls:=.type "getset_descriptor",data:=Data.fields #[kS "__weakref__" 717,.ref 436,.builtin "ExceptionGroup.__weakref__",.none] })::
 (nat_lit 451,kD "__init__" "Council.__init__" 736 130 2 448 .none .none (.ref 450) 739)::
 (nat_lit 452,kF "__init__" "Council.__init__" (kcls (ktop 32) 0) (kS "fencegate.council" 722) 451)::
 (nat_lit 458,kD "keeper_at" "Council.keeper_at" 742 134 2 453 (.ref 455) (.ref 456) (.ref 457) 747)::
 (nat_lit 459,kF "keeper_at" "Council.keeper_at" (kcls (ktop 32) 1) (kS "fencegate.council" 722) 458)::
 (nat_lit 463,kD "up_keepers" "Council.up_keepers" 750 139 1 460 .none .none (.ref 462) 753)::
 (nat_lit 464,kF "up_keepers" "Council.up_keepers" (kcls (ktop 32) 2) (kS "fencegate.council" 722) 463)::
 (nat_lit 496,kD "sayers" "Council.sayers" 788 154 5 493 .none .none (.ref 495) 791)::
 (nat_lit 497,kF "sayers" "Council.sayers" (kcls (ktop 32) 7) (kS "fencegate.council" 722) 496)::
 (nat_lit 501,kD "give" "Council.give" 794 157 6 498 .none .none (.ref 500) 797)::
 (nat_lit 502,kF "give" "Council.give" (kcls (ktop 32) 8) (kS "fencegate.council" 722) 501)::
 (nat_lit 513,kD "having" "Council.having" 809 169 3 510 .none .none (.ref 512) 812)::
 (nat_lit 514,kF "having" "Council.having" (kcls (ktop 32) 10) (kS "fencegate.council" 722) 513)::
 (nat_lit 527,kD "named" "Council.named" 824 181 5 522 (.ref 524) (.ref 525) (.ref 526) 836)::
 (nat_lit 528,kF "named" "Council.named" (kcls (ktop 32) 12) (kS "fencegate.council" 722) 527)::
 (nat_lit 530,{ cls:=.type "dict",data:=Data.dict #[kE P "__module__" 731 (kS "fencegate.council" 722),kE P "__firstlineno__" 735 (.int 128 734),kE P "__init__" 741 (.ref 452),kE P "keeper_at" 749 (.ref 459),kE P "up_keepers" 755 (.ref 464),kE P "fall" 763 (.ref 471),kE P "rise" 771 (.ref 478),kE P "ups" 778 (.ref 485),kE P "notes" 787 (.ref 492),kE P "sayers" 793 (.ref 497),kE P "give" 799 (.ref 502),kE P "drop" 808 (.ref 509),kE P "having" 814 (.ref 514),kE P "free_by" 823 (.ref 521),kE P "named" 838 (.ref 528),kE P "__static_attributes__" 841 (.ref 529),kE P "__dict__" 843 (.ref 532),kE P "__weakref__" 845 (.ref 533),kE P "__doc__" 846 (.none)] 4 })::
 (nat_lit 531,{ cls:=.type "type",data:=Data.cls { name:=Str.ofString "Council",bases:=[.type "object"],mro:=[.ref 531,.type "object"],ns:=530,qualname:=Str.ofString "Council" },slots:=#[none,none,some (kS "Council" 724),some (kS "Council" 732),some (.builtin "object.__new__"),some (.bool true)] })::
 (nat_lit 532,{ cls:=.type "getset_descriptor",data:=Data.fields #[kS "__dict__" 842,.ref 531,.builtin "function.__dict__",.builtin "function.__dict__#set"] })::
 (nat_lit 533,{ cls:=.type "getset_descriptor",data:=Data.fields #[kS "__weakref__" 844,.ref 531,.builtin "ExceptionGroup.__weakref__",.none] })::
 (nat_lit 548,kD "__init__" "Store.__init__" 863 190 1 543 (.ref 545) (.ref 546) (.ref 547) 867)::
 (nat_lit 549,kF "__init__" "Store.__init__" (kcls (ktop 34) 0) (kS "fencegate.store" 849) 548)::
 (nat_lit 565,{ cls:=.type "dict",data:=Data.dict #[kE P "__module__" 858 (kS "fencegate.store" 849),kE P "__firstlineno__" 862 (.int 188 861),kE P "__init__" 869 (.ref 549),kE P "take" 880 (.ref 556),kE P "taken" 887 (.ref 563),kE P "__static_attributes__" 890 (.ref 564),kE P "__dict__" 892 (.ref 567),kE P "__weakref__" 894 (.ref 568),kE P "__doc__" 895 (.none)] 4 })::
 (nat_lit 566,{ cls:=.type "type",data:=Data.cls { name:=Str.ofString "Store",bases:=[.type "object"],mro:=[.ref 566,.type "object"],ns:=565,qualname:=Str.ofString "Store" },slots:=#[none,none,some (kS "Store" 851),some (kS "Store" 859),some (.builtin "object.__new__"),some (.bool true)] })::
 (nat_lit 567,{ cls:=.type "getset_descriptor",data:=Data.fields #[kS "__dict__" 891,.ref 566,.builtin "function.__dict__",.builtin "function.__dict__#set"] })::
 (nat_lit 568,{ cls:=.type "getset_descriptor",data:=Data.fields #[kS "__weakref__" 893,.ref 566,.builtin "ExceptionGroup.__weakref__",.none] })::
 (nat_lit 576,kD "put_in" "put_in" 900 204 2 571 (.ref 573) (.ref 574) (.ref 575) 905)::
 (nat_lit 577,kF "put_in" "put_in" (ktop 36) (kS "fencegate.waiting" 898) 576)::
 (nat_lit 581,kD "ahead" "ahead" 908 206 2 578 .none .none (.ref 580) 911)::
 (nat_lit 582,kF "ahead" "ahead" (ktop 37) (kS "fencegate.waiting" 898) 581)::
 (nat_lit 588,kD "chain_of" "chain_of" 914 217 2 583 (.ref 585) (.ref 586) (.ref 587) 921)::
 (nat_lit 589,kF "chain_of" "chain_of" (ktop 38) (kS "fencegate.waiting" 898) 588)::
 (nat_lit 595,kD "ring_of" "ring_of" 924 224 2 590 (.ref 592) (.ref 593) (.ref 594) 930)::
 (nat_lit 596,kF "ring_of" "ring_of" (ktop 39) (kS "fencegate.waiting" 898) 595)::
 (nat_lit 602,kD "last_in_ring" "last_in_ring" 933 229 1 597 (.ref 599) (.ref 600) (.ref 601) 939)::
 (nat_lit 603,kF "last_in_ring" "last_in_ring" (ktop 40) (kS "fencegate.waiting" 898) 602)::
 (nat_lit 609,kD "all_differ" "all_differ" 952 239 3 604 (.ref 606) (.ref 607) (.ref 608) 958)::
 (nat_lit 610,kF "all_differ" "all_differ" (ktop 46) (kS "fencegate.world" 942) 609)::
 (nat_lit 614,kD "good_setup" "good_setup" 961 241 5 611 .none .none (.ref 613) 964)::
 (nat_lit 615,kF "good_setup" "good_setup" (ktop 47) (kS "fencegate.world" 942) 614)::
 (nat_lit 621,kD "check_time" "check_time" 967 243 1 616 (.ref 618) (.ref 619) (.ref 620) 971)::
 (nat_lit 622,kF "check_time" "check_time" (ktop 48) (kS "fencegate.world" 942) 621)::
 (nat_lit 633,kD "__init__" "World.__init__" 986 248 6 630 .none .none (.ref 632) 989)::
 (nat_lit 634,kF "__init__" "World.__init__" (kcls (ktop 49) 0) (kS "fencegate.world" 942) 633)::
 (nat_lit 640,kD "check_holder" "World.check_holder" 992 264 2 635 (.ref 637) (.ref 638) (.ref 639) 997)::
 (nat_lit 641,kF "check_holder" "World.check_holder" (kcls (ktop 49) 1) (kS "fencegate.world" 942) 640)::
 (nat_lit 647,kD "check_lock" "World.check_lock" 1000 268 2 642 (.ref 644) (.ref 645) (.ref 646) 1005)::
 (nat_lit 648,kF "check_lock" "World.check_lock" (kcls (ktop 49) 2) (kS "fencegate.world" 942) 647)::
 (nat_lit 661,kD "check_awake" "World.check_awake" 1016 276 2 656 (.ref 658) (.ref 659) (.ref 660) 1021)::
 (nat_lit 662,kF "check_awake" "World.check_awake" (kcls (ktop 49) 4) (kS "fencegate.world" 942) 661)::
 (nat_lit 675,kD "check_asking" "World.check_asking" 1033 284 5 670 (.ref 672) (.ref 673) (.ref 674) 1041)::
 (nat_lit 676,kF "check_asking" "World.check_asking" (kcls (ktop 49) 6) (kS "fencegate.world" 942) 675)::
 (nat_lit 682,kD "ask" "World.ask" 1044 296 5 677 (.ref 679) (.ref 680) (.ref 681) 1054)::
 (nat_lit 683,kF "ask" "World.ask" (kcls (ktop 49) 7) (kS "fencegate.world" 942) 682)::
 (nat_lit 689,kD "settle" "World.settle" 1057 309 1 684 (.ref 686) (.ref 687) (.ref 688) 1061)::
 (nat_lit 690,kF "settle" "World.settle" (kcls (ktop 49) 8) (kS "fencegate.world" 942) 689)::
 (nat_lit 696,kD "give_all" "World.give_all" 1064 314 1 691 (.ref 693) (.ref 694) (.ref 695) 1069)::
 (nat_lit 697,kF "give_all" "World.give_all" (kcls (ktop 49) 9) (kS "fencegate.world" 942) 696)::
 (nat_lit 703,kD "first_to_give" "World.first_to_give" 1072 320 1 698 (.ref 700) (.ref 701) (.ref 702) 1077)::
 (nat_lit 704,kF "first_to_give" "World.first_to_give" (kcls (ktop 49) 10) (kS "fencegate.world" 942) 703)::
 (nat_lit 710,kD "is_free" "World.is_free" 1080 326 2 705 (.ref 707) (.ref 708) (.ref 709) 1086)::
 (nat_lit 711,kF "is_free" "World.is_free" (kcls (ktop 49) 11) (kS "fencegate.world" 942) 710)::
 (nat_lit 717,kD "give_to" "World.give_to" 1089 330 2 712 (.ref 714) (.ref 715) (.ref 716) 1099)::
 (nat_lit 718,kF "give_to" "World.give_to" (kcls (ktop 49) 12) (kS "fencegate.world" 942) 717)::
 (nat_lit 722,kD "break_ring" "World.break_ring" 1102 341 1 719 .none .none (.ref 721) 1105)::
 (nat_lit 723,kF "break_ring" "World.break_ring" (kcls (ktop 49) 13) (kS "fencegate.world" 942) 722)::
 (nat_lit 727,kD "leave_row" "World.leave_row" 1108 351 2 724 .none .none (.ref 726) 1111)::
 (nat_lit 728,kF "leave_row" "World.leave_row" (kcls (ktop 49) 14) (kS "fencegate.world" 942) 727)::
 (nat_lit 734,kD "asking_of" "World.asking_of" 1114 354 2 729 (.ref 731) (.ref 732) (.ref 733) 1120)::
 (nat_lit 735,kF "asking_of" "World.asking_of" (kcls (ktop 49) 15) (kS "fencegate.world" 942) 734)::
 (nat_lit 741,kD "on_whom" "World.on_whom" 1123 360 2 736 (.ref 738) (.ref 739) (.ref 740) 1129)::
 (nat_lit 742,kF "on_whom" "World.on_whom" (kcls (ktop 49) 16) (kS "fencegate.world" 942) 741)::
 (nat_lit 804,kD "tick" "World.tick" 1204 404 2 799 (.ref 801) (.ref 802) (.ref 803) 1210)::
 (nat_lit 805,kF "tick" "World.tick" (kcls (ktop 49) 25) (kS "fencegate.world" 942) 804)::
 (nat_lit 816,kD "row" "World.row" 1219 416 1 811 (.ref 813) (.ref 814) (.ref 815) 1223)::
 (nat_lit 817,kF "row" "World.row" (kcls (ktop 49) 27) (kS "fencegate.world" 942) 816)::
 (nat_lit 828,kD "chain" "World.chain" 1234 422 2 825 .none .none (.ref 827) 1237)::
 (nat_lit 829,kF "chain" "World.chain" (kcls (ktop 49) 29) (kS "fencegate.world" 942) 828)::
 (nat_lit 835,kD "having" "World.having" 1240 426 2 830 (.ref 832) (.ref 833) (.ref 834) 1245)::
 (nat_lit 836,kF "having" "World.having" (kcls (ktop 49) 30) (kS "fencegate.world" 942) 835)::
 (nat_lit 877,kD "log" "World.log" 1286 446 1 872 (.ref 874) (.ref 875) (.ref 876) 1290)::
 (nat_lit 878,kF "log" "World.log" (kcls (ktop 49) 36) (kS "fencegate.world" 942) 877)::
 (nat_lit 880,{ cls:=.type "dict",data:=Data.dict #[kE P "__module__" 981 (kS "fencegate.world" 942),kE P "__firstlineno__" 985 (.int 246 984),kE P "__init__" 991 (.ref 634),kE P "check_holder" 999 (.ref 641),kE P "check_lock" 1007 (.ref 648),kE P "check_store" 1015 (.ref 655),kE P "check_awake" 1023 (.ref 662),kE P "check_carries" 1032 (.ref 669),kE P "check_asking" 1043 (.ref 676),kE P "ask" 1056 (.ref 683),kE P "settle" 1063 (.ref 690),kE P "give_all" 1071 (.ref 697),kE P "first_to_give" 1079 (.ref 704),kE P "is_free" 1088 (.ref 711),kE P "give_to" 1101 (.ref 718),kE P "break_ring" 1107 (.ref 723),kE P "leave_row" 1113 (.ref 728),kE P "asking_of" 1122 (.ref 735),kE P "on_whom" 1131 (.ref 742),kE P "back" 1140 (.ref 749),kE P "write" 1153 (.ref 756),kE P "pause" 1161 (.ref 763),kE P "wake" 1169 (.ref 770),kE P "became" 1177 (.ref 777),kE P "fall" 1185 (.ref 784),kE P "rise" 1193 (.ref 791),kE P "turned" 1203 (.ref 798),kE P "tick" 1212 (.ref 805),kE P "carried" 1218 (.ref 810),kE P "row" 1225 (.ref 817),kE P "waits_on" 1233 (.ref 824),kE P "chain" 1239 (.ref 829),kE P "having" 1247 (.ref 836),kE P "free_by" 1255 (.ref 843),kE P "notes" 1263 (.ref 850),kE P "ups" 1270 (.ref 857),kE P "sleepers" 1277 (.ref 864),kE P "taken" 1285 (.ref 871),kE P "log" 1292 (.ref 878),kE P "__static_attributes__" 1305 (.ref 879),kE P "__dict__" 1307 (.ref 882),kE P "__weakref__" 1309 (.ref 883),kE P "__doc__" 1310 (.none)] 4 })::
 (nat_lit 881,{ cls:=.type "type",data:=Data.cls { name:=Str.ofString "World",bases:=[.type "object"],mro:=[.ref 881,.type "object"],ns:=880,qualname:=Str.ofString "World" },slots:=#[none,none,some (kS "World" 974),some (kS "World" 982),some (.builtin "object.__new__"),some (.bool true)] })::
 (nat_lit 882,{ cls:=.type "getset_descriptor",data:=Data.fields #[kS "__dict__" 1306,.ref 881,.builtin "function.__dict__",.builtin "function.__dict__#set"] })::
 (nat_lit 883,{ cls:=.type "getset_descriptor",data:=Data.fields #[kS "__weakref__" 1308,.ref 881,.builtin "ExceptionGroup.__weakref__",.none] })::
 (nat_lit 891,kD "_law_at" "_law_at" 1315 449 2 886 (.ref 888) (.ref 889) (.ref 890) 1320)::
 (nat_lit 892,kF "_law_at" "_law_at" (ktop 51) (kS "law_fencegate_k27_handed_over" 1313) 891)::
 (nat_lit 896,kD "_law_same" "_law_same" 1323 453 2 893 .none .none (.ref 895) 1326)::
 (nat_lit 897,kF "_law_same" "_law_same" (ktop 52) (kS "law_fencegate_k27_handed_over" 1313) 896)::
 (nat_lit 903,kD "_law_name" "_law_name" 1329 463 2 898 (.ref 900) (.ref 901) (.ref 902) 1341)::
 (nat_lit 904,kF "_law_name" "_law_name" (ktop 53) (kS "law_fencegate_k27_handed_over" 1313) 903)::
 (nat_lit 908,kD "_law_names" "_law_names" 1344 479 2 905 .none .none (.ref 907) 1347)::
 (nat_lit 909,kF "_law_names" "_law_names" (ktop 54) (kS "law_fencegate_k27_handed_over" 1313) 908)::
 (nat_lit 913,kD "_law_plan" "_law_plan" 1350 481 3 910 .none .none (.ref 912) 1353)::
 (nat_lit 914,kF "_law_plan" "_law_plan" (ktop 55) (kS "law_fencegate_k27_handed_over" 1313) 913)::
 (nat_lit 918,kD "law" "law" 1356 493 1 915 .none .none (.ref 917) 1359)::
 (nat_lit 919,kF "law" "law" (ktop 56) (kS "law_fencegate_k27_handed_over" 1313) 918)::[]
noncomputable def ka:List Addr:=2::3::349::350::354::355::361::362::368::369::375::376::389::390::408::409::413::414::420::421::425::426::435::436::437::438::451::452::458::459::463::464::496::497::501::502::513::514::527::528::530::531::532::533::548::549::565::566::567::568::576::577::581::582::588::589::595::596::602::603::609::610::614::615::621::622::633::634::640::641::647::648::661::662::675::676::682::683::689::690::696::697::703::704::710::711::717::718::722::723::727::728::734::735::741::742::804::805::816::817::828::829::835::836::877::878::880::881::882::883::891::892::896::897::903::904::908::909::913::914::918::919::[]
noncomputable def vw:Program:={ PySem.Challenge.pw_fencegate_k27_handed_over with main:={ PySem.Challenge.pw_fencegate_k27_handed_over.main with body:=ktop 0::ktop 2::ktop 3::ktop 4::ktop 5::ktop 6::ktop 7::ktop 8::ktop 9::ktop 10::ktop 11::ktop 12::ktop 13::ktop 14::ktop 15::ktop 16::ktop 17::ktop 18::ktop 20::ktop 21::ktop 22::ktop 23::ktop 24::ktop 25::ktop 26::ktop 27::ktop 28::ktop 30::ktop 32::ktop 34::ktop 36::ktop 37::ktop 38::ktop 39::ktop 40::ktop 42::ktop 43::ktop 44::ktop 45::ktop 46::ktop 47::ktop 48::ktop 49::ktop 51::ktop 52::ktop 53::ktop 54::ktop 55::ktop 56::[] } }
theorem ka_eq(P:Params):ka=(kk P).map (·.1):=by kernel_rfl
noncomputable def kT(vs:Array Value):Obj:={ cls:=.type "tuple",data:=.seq vs }
noncomputable def hA(P:Params):List Obj:=PySem.W.boot_o_0 P::
 PySem.W.boot_o_1 P::
 PySem.W.boot_o_2 P::
 PySem.W.boot_o_3 P::
 PySem.W.boot_o_4 P::
 PySem.W.boot_o_5 P::
 PySem.W.boot_o_6 P::
 PySem.W.boot_o_7 P::
 PySem.W.boot_o_8 P::
 PySem.W.boot_o_9 P::
 PySem.W.boot_o_10 P::
 kT #[]::
 { cls:=.none,data:=Data.fields #[] }::
 kC #[kS "<module>" 182,kS "<module>" 183,kS "/claim/cut.py" 184,.int 1 0,.int 0 0,.int 0 0,.int 0 0,.int 0 0,.ref 11,.bool false,.int 181 0,.ref 12,.none,.none,.none,.none,.int 185 0,.int 1 0,kS "/claim/cut.py" 186]::
 { cls:=.type "frame",slots:=#[some (.ref 13),some (.ref 3),some (.ref 3),none,some (kS "__main__" 164),none,some (.ref 0)] }::[]
noncomputable def hB(P:Params):List Obj:=PySem.W.boot_o_0 P::
 PySem.W.boot_o_1 P::
 PySem.W.boot_o_2 P::
 PySem.W.boot_o_3 P::
 PySem.W.boot_o_4 P::
 PySem.W.boot_o_5 P::
 PySem.W.boot_o_6 P::
 PySem.W.boot_o_7 P::
 PySem.W.boot_o_8 P::
 PySem.W.boot_o_9 P::
 PySem.W.boot_o_10 P::
 kT #[]::
 { cls:=.none,data:=Data.fields #[] }::
 kC #[kS "<module>" 182,kS "<module>" 183,kS "/claim/cut.py" 184,.int 1 0,.int 0 0,.int 0 0,.int 0 0,.int 0 0,.ref 11,.bool false,.int 181 0,.ref 12,.none,.none,.none,.none,.int 185 0,.int 1 0,kS "/claim/cut.py" 186]::
 { cls:=.type "frame",slots:=#[some (.ref 13),some (.ref 3),some (.ref 3),none,some (kS "__main__" 164),none,some (.ref 0)] }::[]
noncomputable def kB(w:World)(os:OsState):PySem.W.SharedT:=⟨PySem.W.kIns (hB w.params) 0 .nil,15,{},#[],{},187,os⟩
noncomputable def kenv:Env:={ scope:=PySem.Challenge.pw_fencegate_k27_handed_over.main.scope,locals:=mainNs,globals:=mainNs,cells:=[],code:=Value.ref 13,frame:=some 14 }
noncomputable def kA(w:World)(os:OsState):Shared:=⟨Heap.mk (Array.mk (hA w.params)) {},#[],{},187,os⟩
theorem znq(w:World)(os:OsState):PySem.W.topGo treeTable PySem.Challenge.rw_fencegate_k27_handed_over.row.prog w 11 (some (Value.ref 6)) 12 ⟨PySem.W.boot_heap w.params,#[],PySem.W.boot_drawn,PySem.W.boot_toks,os⟩ (PySem.W.topStub PySem.Challenge.rw_fencegate_k27_handed_over.row.prog)=some (kA w os,⟨denote treeTable (.body (PySem.Challenge.pw_fencegate_k27_handed_over.main.body++[]) kenv),(Code.body (PySem.W.behindTheImports PySem.Challenge.pw_fencegate_k27_handed_over) kenv),⟨0,0,0,0⟩,[PySem.W.topFrame ⟨0,0,0,0⟩]⟩):=by kernel_rfl
theorem znr(w:World)(os:OsState):PySem.W.segRun treeTable PySem.Challenge.rw_fencegate_k27_handed_over.row.prog w 11 (some (Value.ref 6)) 1 1 (kA w os) (PySem.W.blockOf (PySem.Challenge.pw_fencegate_k27_handed_over.main.body++[]) kenv (Code.body (PySem.W.behindTheImports PySem.Challenge.pw_fencegate_k27_handed_over) kenv) ⟨0,0,0,0⟩ [PySem.W.topFrame ⟨0,0,0,0⟩])=some (.next,(kB w os).abs,(Code.body (PySem.W.behindTheImports PySem.Challenge.pw_fencegate_k27_handed_over) kenv),⟨0,0,0,0⟩):=by kernel_rfl
set_option maxHeartbeats 0 in
theorem zoo(w:World)(os:OsState):(PySem.W.Fast.tw10110043849684766642 PySem.W.Fast.tw14364793385576792824 PySem.Challenge.rw_fencegate_k27_handed_over.row.prog w 11 (some (Value.ref 6)) 1 7537 (kB w os) (PySem.W.piecesOf PySem.Challenge.pw_fencegate_k27_handed_over.main.body kenv (Code.body (PySem.W.behindTheImports PySem.Challenge.pw_fencegate_k27_handed_over) kenv) ⟨0,0,0,0⟩ [PySem.W.topFrame ⟨0,0,0,0⟩])).map (fun r=>(r.1,r.2.2.1,r.2.2.2,((PySem.W.Fast.tw14082659384304107361 PySem.W.Fast.tw14364793385576792824 PySem.Challenge.rw_fencegate_k27_handed_over.row.prog w 11 (some (Value.ref 6)) 200 r.2.1.abs (PySem.W.restOf [] kenv (Code.body (PySem.W.behindTheImports PySem.Challenge.pw_fencegate_k27_handed_over) kenv) ⟨493,0,516,132⟩ [PySem.W.topFrame ⟨0,0,0,0⟩])).bind fun s₁=>match PySem.W.staticsOk (importedModules PySem.Challenge.rw_fencegate_k27_handed_over.row.prog.main.body) (PySem.W.boot_heap w.params) s₁.heap&&PySem.W.namesBound PySem.Challenge.rw_fencegate_k27_handed_over.row.prog s₁.heap&&PySem.W.gensDone s₁&&PySem.W.laidKept (PySem.W.boot_heap w.params) s₁.heap with
  |true=>some s₁
  |false=>none).map (fun s=>(seen ((recsOf vw).map (·.name)) (ownsOf vw) [] { s with gens:=#[] },s.heap.bltView,s.heap.keysOk (looseW vw []) ((recsOf vw).map (·.name)) ((litsOf vw).map (·.1)) ((clssOf vw (looseW vw [])).map (·.name))&&s.heap.accountedOkI (importedModules PySem.Challenge.rw_fencegate_k27_handed_over.row.prog.main.body)&&s.heap.isNs mainGlobals&&s.heap.isNs builtinsNs&&tablesOk vw s.heap&&(PySem.W.xlAt vw [] s&&PySem.W.recOk (PySem.W.RowW.records (PySem.W.OpenRow.toRowW PySem.Challenge.rw_fencegate_k27_handed_over.row)) s)&&(if true then s.gens.size==0 else !leftWithCleanup s.gens),tabsOk vw s))))=some (.next,(Code.body (PySem.W.behindTheImports PySem.Challenge.pw_fencegate_k27_handed_over) kenv),⟨493,0,516,132⟩,some (expectedOf vw,bltViewBooted,true,true)):=by kernel_rfl
set_option maxHeartbeats 0 in
theorem zop(w:World)(os:OsState):(PySem.W.Fast.tw10110043849684766642 PySem.W.Fast.tw14364793385576792824 PySem.Challenge.rw_fencegate_k27_handed_over.row.prog w 11 (some (Value.ref 6)) 1 7537 (kB w os) (PySem.W.piecesOf PySem.Challenge.pw_fencegate_k27_handed_over.main.body kenv (Code.body (PySem.W.behindTheImports PySem.Challenge.pw_fencegate_k27_handed_over) kenv) ⟨0,0,0,0⟩ [PySem.W.topFrame ⟨0,0,0,0⟩])).map (fun r=>(r.1,r.2.2.1,r.2.2.2,((PySem.W.Fast.tw14082659384304107361 PySem.W.Fast.tw14364793385576792824 PySem.Challenge.rw_fencegate_k27_handed_over.row.prog w 11 (some (Value.ref 6)) 200 r.2.1.abs (PySem.W.restOf [] kenv (Code.body (PySem.W.behindTheImports PySem.Challenge.pw_fencegate_k27_handed_over) kenv) ⟨493,0,516,132⟩ [PySem.W.topFrame ⟨0,0,0,0⟩])).bind fun s₁=>match PySem.W.staticsOk (importedModules PySem.Challenge.rw_fencegate_k27_handed_over.row.prog.main.body) (PySem.W.boot_heap w.params) s₁.heap&&PySem.W.namesBound PySem.Challenge.rw_fencegate_k27_handed_over.row.prog s₁.heap&&PySem.W.gensDone s₁&&PySem.W.laidKept (PySem.W.boot_heap w.params) s₁.heap with
  |true=>some s₁
  |false=>none).map (fun s=>plainSeenE vw (looseW vw []) s)))=some (.next,(Code.body (PySem.W.behindTheImports PySem.Challenge.pw_fencegate_k27_handed_over) kenv),⟨493,0,516,132⟩,some (plainGoodE vw (looseW vw []))):=by kernel_rfl
set_option maxHeartbeats 0 in
theorem zoq(w:World)(os:OsState):(PySem.W.Fast.tw10110043849684766642 PySem.W.Fast.tw14364793385576792824 PySem.Challenge.rw_fencegate_k27_handed_over.row.prog w 11 (some (Value.ref 6)) 1 7537 (kB w os) (PySem.W.piecesOf PySem.Challenge.pw_fencegate_k27_handed_over.main.body kenv (Code.body (PySem.W.behindTheImports PySem.Challenge.pw_fencegate_k27_handed_over) kenv) ⟨0,0,0,0⟩ [PySem.W.topFrame ⟨0,0,0,0⟩])).map (fun r=>(r.1,r.2.2.1,r.2.2.2,((PySem.W.Fast.tw14082659384304107361 PySem.W.Fast.tw14364793385576792824 PySem.Challenge.rw_fencegate_k27_handed_over.row.prog w 11 (some (Value.ref 6)) 200 r.2.1.abs (PySem.W.restOf [] kenv (Code.body (PySem.W.behindTheImports PySem.Challenge.pw_fencegate_k27_handed_over) kenv) ⟨493,0,516,132⟩ [PySem.W.topFrame ⟨0,0,0,0⟩])).bind fun s₁=>match PySem.W.staticsOk (importedModules PySem.Challenge.rw_fencegate_k27_handed_over.row.prog.main.body) (PySem.W.boot_heap w.params) s₁.heap&&PySem.W.namesBound PySem.Challenge.rw_fencegate_k27_handed_over.row.prog s₁.heap&&PySem.W.gensDone s₁&&PySem.W.laidKept (PySem.W.boot_heap w.params) s₁.heap with
  |true=>some s₁
  |false=>none).map (fun s=>(pinSeenD vw (drecsOf vw) s,plainSeenD vw [] s,wideSeen vw s,clsSeenW vw [] s,(PySem.W.kmHook kk ka ka_eq [523,572,916]).obs s))))=some (.next,(Code.body (PySem.W.behindTheImports PySem.Challenge.pw_fencegate_k27_handed_over) kenv),⟨493,0,516,132⟩,some (pinGoodD (drecsOf vw),plainGoodD vw [],wideGood vw,clsGoodW vw [],(PySem.W.kmHook kk ka ka_eq [523,572,916]).val w)):=by kernel_rfl
theorem zmx(w:World):(((PySem.W.boot_heap w.params).isNs mainGlobals&&(#[]:Array GenState).size==0),(PySem.W.boot_heap w.params).objs.size,(PySem.W.boot_heap w.params).nsMap mainGlobals "__annotations__")=(true,11,(some (Value.ref 6))):=by kernel_rfl
theorem left_ok:PySem.W.LeftO PySem.Challenge.rw_fencegate_k27_handed_over.row.prog vw [] (fun s=>PySem.W.xlAt vw [] s&&PySem.W.recOk (PySem.W.RowW.records (PySem.W.OpenRow.toRowW PySem.Challenge.rw_fencegate_k27_handed_over.row)) s) (PySem.W.kmHook kk ka ka_eq [523,572,916]).obs (PySem.W.kmHook kk ka ka_eq [523,572,916]).val (12+(1+(7537+200))):=
 PySem.W.left_of (PySem.W.boot_open (p:=PySem.Challenge.rw_fencegate_k27_handed_over.row.prog) (N:=12+(1+(7537+200))) (by kernel_rfl) (by decide) (fun s=>by kernel_rfl)) znq znr
  (fun w os=>by
   unfold PySem.W.headSeen
   have x:=zgw (zgw (zoo w os) (zop w os)) (zoq w os)
   rw[<-PySem.W.Fast.te10110043849684766642,<-PySem.W.Fast.te14082659384304107361,<-PySem.W.Fast.te14364793385576792824]at x
   exact zmw (fun v=>((v.1.1.1,v.1.1.2.1,v.1.1.2.2.1,v.1.1.2.2.2,v.2.1,v.1.2,v.2.2.1,v.2.2.2.1,v.2.2.2.2.1),v.2.2.2.2.2)) (fun s=>rfl) x) zmx
set_option maxHeartbeats 0 in
theorem ws:PySem.Challenge.rw_fencegate_k27_handed_over.wellSaid=true:=by decide+kernel
end Fg
end
section
namespace L2
open PySem PySem.Spec PyProof.Rows
noncomputable abbrev Key:=Sum Int Str
noncomputable def z60:Key->Value->Bool
 | .inl k,v=>Value.isInt k v
 | .inr x,v=>Value.isStrOf x v
noncomputable def keyH(w:World):Key->Int
 | .inl k=>hashInt k
 | .inr x=>hashStr w x
theorem z1v:∀{k:Key}{v:Value},z60 k v=true->(∃i t,k=Sum.inl i/\v=Value.int i t)\/(∃x t,k=Sum.inr x/\v=Value.str x t)
 | .inl i,v,h=>by
  obtain⟨t,e⟩:=Value.isInt_shape (k:=i) (v:=v) h
  exact .inl ⟨i,t,rfl,e⟩
 | .inr x,v,h=>by
  obtain⟨t,e⟩:=Value.isStrOf_shape (x:=x) (v:=v) h
  exact .inr ⟨x,t,rfl,e⟩
theorem zck(i:Int)(t:Tok):z60 (.inl i) (.int i t)=true:=by simp[z60,Value.isInt]
theorem zcl(x:Str)(t:Tok):z60 (.inr x) (.str x t)=true:=by simp[z60,Value.isStrOf]
theorem zag(a b:Int):decide ((Sum.inl a:Key)=Sum.inl b)=(a==b):=by
 by_cases e:a=b
 .subst e;simp
 .have h:¬(Sum.inl a:Key)=Sum.inl b:=fun q=>e (Sum.inl.inj q)
  rw[x0j h]
  exact(x1e.mpr e).symm
theorem ziz(a b:Str):decide ((Sum.inr a:Key)=Sum.inr b)=decide (a=b):=by
 by_cases e:a=b
 .subst e;simp
 .have h:¬(Sum.inr a:Key)=Sum.inr b:=fun q=>e (Sum.inr.inj q)
  rw[x0j h,x0j e]
theorem ze7(a:Int)(b:Str):decide ((Sum.inl a:Key)=Sum.inr b)=false:=x0j (fun q=>nomatch q)
theorem ze8(a:Str)(b:Int):decide ((Sum.inr a:Key)=Sum.inl b)=false:=x0j (fun q=>nomatch q)
noncomputable def mixKind(prog:Program)(w:World):PySem.KeyKind prog w Key where
 is:=z60
 hash:=keyH w
 inj:=fun v a b ha hb=>by
  rcases z1v ha with⟨i,t,rfl,rfl⟩|⟨x,t,rfl,rfl⟩
  .rcases z1v hb with⟨j,u,rfl,e⟩|⟨y,u,rfl,e⟩
   .injection e with e1 _;rw[e1]
   .exact nomatch e
  .rcases z1v hb with⟨j,u,rfl,e⟩|⟨y,u,rfl,e⟩
   .exact nomatch e
   .injection e with e1 _;rw[e1]
 byValue:=fun k v h=>by
  rcases z1v h with⟨i,t,rfl,rfl⟩|⟨x,t,rfl,rfl⟩<;>rfl
 pyHash:=fun hv h=>by
  rcases z1v hv with⟨i,t,rfl,rfl⟩|⟨x,t,rfl,rfl⟩
  .exact wpAny_pyHash_int h
  .exact wpAny_pyHash_str h
 eqBool:=fun hu hv h=>by
  rcases z1v hu with⟨i,t,rfl,rfl⟩|⟨x,t,rfl,rfl⟩
  .rcases z1v hv with⟨j,u,rfl,rfl⟩|⟨y,u,rfl,rfl⟩
   .rw[zag]at h;exact wpAny_eqBool_int h
   .rw[ze7]at h;exact SeqAt.EqAt.int_str i t y u _ _ _ _ h
  .rcases z1v hv with⟨j,u,rfl,rfl⟩|⟨y,u,rfl,rfl⟩
   .rw[ze8]at h;exact SeqAt.EqAt.str_int x t j u _ _ _ _ h
   .rw[ziz]at h;exact wpAny_eqBool_str h
 «strs»:=fun k x t v h=>by
  rcases z1v h with⟨i,u,rfl,e⟩|⟨y,u,rfl,e⟩
  .exact nomatch e
  .injection e with e1 _
   subst e1
   cases v<;>rfl
theorem zgb(prog:Program)(w:World)(i:Int)(t:Tok):(mixKind prog w).is (.inl i) (.int i t)=true:=zck i t
theorem zgc(prog:Program)(w:World)(x:Str)(t:Tok):(mixKind prog w).is (.inr x) (.str x t)=true:=zcl x t
inductive V where
 |non|bl (b:Bool)|int (i:Int)|str (x:Str)|byt (b:Array UInt8)|flt (b:UInt64)|ref (a:Addr)|ty (n:String)
 deriving DecidableEq
noncomputable def RelV:V->Value->Prop
 | .non,u=>u=Value.none
 | .bl b,u=>u=Value.bool b
 | .int i,u=>∃t,u=Value.int i t
 | .str x,u=>∃t,u=Value.str x t
 | .byt b,u=>∃t,u=Value.bytes b t
 | .flt b,u=>∃t,u=Value.float b t
 | .ref a,u=>u=Value.ref a
 | .ty n,u=>u=Value.type n
noncomputable abbrev Vals:List V->List Value->Prop:=Paired RelV
theorem Vals.length{xs:List V}{us:List Value}(r:Vals xs us):xs.length=us.length:=Paired.length r
theorem Vals.get:∀{xs:List V}{us:List Value}{i:Nat}{x:V},Vals xs us->xs[i]? =some x->∃u,us[i]? =some u/\RelV x u
 |_,_,_,_,.nil,e=>by simp at e
 |_,_,0,_,.cons r _,e=>by simp at e;subst e;exact⟨_,rfl,r⟩
 |_,_,i+1,x,.cons _ t,e=>by
  obtain⟨u,h1,h2⟩:=Vals.get (i:=i) (x:=x) t (by simpa using e)
  exact⟨u,by simpa using h1,h2⟩
theorem Vals.append:∀{xs ys:List V}{us ws:List Value},Vals xs us->Vals ys ws->Vals (xs++ys) (us++ws)
 |_,_,_,_,.nil,s=>s
 |_,_,_,_,.cons r t,s=>.cons r (Vals.append t s)
theorem Vals.take:∀{xs:List V}{us:List Value}(n:Nat),Vals xs us->Vals (xs.take n) (us.take n)
 |_,_,0,_=>.nil
 |_,_,_+1,.nil=>.nil
 |_,_,n+1,.cons r t=>.cons r (Vals.take n t)
theorem Vals.drop:∀{xs:List V}{us:List Value}(n:Nat),Vals xs us->Vals (xs.drop n) (us.drop n)
 |_,_,0,r=>r
 |_,_,_+1,.nil=>.nil
 |_,_,n+1,.cons _ t=>Vals.drop n t
noncomputable def RelO:Option V->Option Value->Prop
 |some v,some u=>RelV v u
 |none,none=>True
 |_,_=>False
noncomputable def KV{κ:Type}:List (κ×V)->List (κ×Value)->Prop:=Paired fun(p:κ×V) (q:κ×Value)=>p.1=q.1/\RelV p.2 q.2
noncomputable def kV:Key->V
 | .inl i=>.int i
 | .inr x=>.str x
inductive HO where
 |lst (xs:List V)
 |tup (xs:List V)
 |dK (kvs:List (Key×V))|dT (kvs:List (List Key×V))
 |set (S:Int->Bool) (n:Nat)
 |ins (C dx:Addr) (fs:List (Str×V))
 |own (x:Addr)
 |xd (fs:List (Str×V))
 |met (f x:Addr)
 |rng (lo hi:Int)
 |frz (o:Obj) (u:HO)
 |tbl (ps:Array Value)
 |ext (φ:Heap->Prop)
noncomputable abbrev Hp:=Addr->Option HO
noncomputable def upd(H:Hp)(a:Addr)(o:HO):Hp:=fun b=>if b=a then some o else H b
theorem z9{H:Hp}{a:Addr}{o:HO}:upd H a o a=some o:=by unfold upd;rw[if_pos rfl]
theorem zc{H:Hp}{a b:Addr}{o:HO}(h:b≠a):upd H a o b=H b:=by unfold upd;rw[if_neg h]
theorem zor{H:Hp}{a b:Addr}{o u:HO}(h:H a=some o)(h':H b=some u)(d:o≠u):a≠b:=by
 intro e;subst e;rw[h]at h';exact d (xq h')
theorem zh{H:Hp}{a b:Addr}{o:HO}(h:H a=some o)(h':H b=none):a≠b:=by
 intro e;subst e;rw[h]at h';cases h'
section
variable (P:Program)(w:World)
noncomputable def ObjOk(H:Hp)(h:Heap)(a:Addr):HO->Prop
 | .lst xs=>xs.length<=sizeLine/\∃(its:List Value) (n:Nat),Vals xs its/\h.get? a=some { cls:=.type "list",data:=.seq its.toArray n }
 | .tup xs=>xs.length<=sizeLine/\∃its:List Value,Vals xs its/\IsTup h a its.toArray
 | .dK kvs=>kvs.length<=sizeLine/\(a==sysModules)=false/\∃vs,KV kvs vs/\h.DictOf (mixKind P w) a vs
 | .dT kvs=>kvs.length<=sizeLine/\(a==sysModules)=false/\∃xs:List (List Key×Addr×Value),
   Paired (fun(p:List Key×V) (q:List Key×Addr×Value)=>p.1=q.1/\H q.2.1=some (.tup (p.1.map kV))/\RelV p.2 q.2.2) kvs xs/\
   ∃o es ep,h.get? a=some o/\o.ExactDict/\o.data=.dict es ep/\es.toList=xs.map (entryOfKey (tupleKind (mixKind P w)))/\(xs.map (·.1)).Nodup
 | .set S n=>h.SetOf (intKind P w) a S n
 | .ins C dx fs=>H dx=some (.own a)/\fs.length<=1000/\dx≠a/\h.get? a=some (PySem.W.instObj C dx)/\
   ∃mA,h.Ns1 dx mA/\(∀f,RelO (fs.lookup f) (mA f))/\PySem.Within mA (fs.map (·.1))
 | .own _=>∃o,h.get? a=some o
 | .xd fs=>∃mA,h.Ns1 a mA/\∀f,RelO (fs.lookup f) (mA f)
 | .rng lo hi=>∃ t u v,h.get? a=some { cls:=.type "range",data:=.fields #[.int lo t,.int hi u,.int 1 v] }
 | .frz o u=>h.get? a=some o/\ObjOk H h a u
 | .tbl ps=>h.get? a=some { cls:=.none,data:=.fields ps }
 | .met f x=>h.get? a=some (PySem.W.methodObj (.ref f) (.ref x))
 | .ext φ=>φ h/\(∃o,h.get? a=some o)/\∀h1 h2:Heap,φ h1->(∀o,h1.get? a=some o->h2.get? a=some o)->φ h2
noncomputable def HOk(H:Hp)(h:Heap):Prop:=∀a o,H a=some o->ObjOk P w H h a o
end
section
variable {P:Program}{w:World}{H H':Hp}{h h':Heap}{a:Addr}{o:HO}
theorem ObjOk.lt(x:ObjOk P w H h a o):a<h.objs.size:=by
 cases o with
 |lst xs=>obtain⟨_,_,_,_,e⟩:=x;exact xn e
 |tup xs=>obtain⟨_,_,_,p⟩:=x;exact p.lt
 |dK kvs=>obtain⟨_,_,_,_,o,_,_,e,_⟩:=x;exact xn e
 |dT kvs=>obtain⟨_,_,_,_,o,_,_,e,_⟩:=x;exact xn e
 |set S n=>obtain⟨o,_,_,_,e,_⟩:=x;exact xn e
 |ins C dx fs=>obtain⟨_,_,_,e,_⟩:=x;exact xn e
 |own y=>obtain⟨_,e⟩:=x;exact xn e
 |xd fs=>obtain⟨_,⟨_,_,_,e,_⟩,_⟩:=x;exact xn e
 |rng lo hi=>obtain⟨_,_,_,e⟩:=x;exact xn e
 |frz ob u=>obtain⟨e,_⟩:=x;exact xn e
 |tbl ps=>exact xn (show h.get? a=some _ from x)
 |met f y=>exact xn (show h.get? a=some _ from x)
 |ext φ=>obtain⟨_,⟨_,e⟩,_⟩:=x;exact xn e
theorem Paired.mapP{α β:Type}{F G:α->β->Prop}:∀{l₁:List α}{l₂:List β},Paired F l₁ l₂->(∀a b,F a b->G a b)->Paired G l₁ l₂
 |_,_,.nil,_=>.nil
 |_,_,.cons r t,f=>.cons (f _ _ r) (Paired.mapP t f)
theorem ObjOk.stay(x:ObjOk P w H h a o)(k:∀b u,(b=a\/H b=some (.own a))->h.get? b=some u->h'.get? b=some u)
  (ho:∀b,H b=some (.own a)->H' b=some (.own a)) (ht:∀b xs,H b=some (.tup xs)->H' b=some (.tup xs)):ObjOk P w H' h' a o:=by
 induction o with
 |lst xs=>obtain⟨z,its,n,r,e⟩:=x;exact⟨z,its,n,r,k _ _ (.inl rfl) e⟩
 |tup xs=>obtain⟨z,its,r,ob,e,c⟩:=x;exact⟨z,its,r,ob,k _ _ (.inl rfl) e,c⟩
 |dK kvs=>obtain⟨z,y,vs,r,ob,es,ep,e,c⟩:=x;exact⟨z,y,vs,r,ob,es,ep,k _ _ (.inl rfl) e,c⟩
 |dT kvs=>
  obtain⟨z,y,xs,r,ob,es,ep,e,c⟩:=x
  exact⟨z,y,xs,Paired.mapP r fun p q z=>⟨z.1,ht _ _ z.2.1,z.2.2⟩,ob,es,ep,k _ _ (.inl rfl) e,c⟩
 |set S n=>obtain⟨ob,es,ep,t,e,c⟩:=x;exact⟨ob,es,ep,t,k _ _ (.inl rfl) e,c⟩
 |ins C dx fs=>
  obtain⟨d,z,ne,e,mA,⟨od,es,ep,e2,c⟩,r⟩:=x
  exact⟨ho _ d,z,ne,k _ _ (.inl rfl) e,mA,⟨od,es,ep,k _ _ (.inr d) e2,c⟩,r⟩
 |own y=>obtain⟨ob,e⟩:=x;exact⟨ob,k _ _ (.inl rfl) e⟩
 |xd fs=>obtain⟨mA,⟨od,es,ep,e,c⟩,r⟩:=x;exact⟨mA,⟨od,es,ep,k _ _ (.inl rfl) e,c⟩,r⟩
 |rng lo hi=>obtain⟨t,u,v,e⟩:=x;exact⟨t,u,v,k _ _ (.inl rfl) e⟩
 |frz ob u ih=>obtain⟨e,q⟩:=x;exact⟨k _ _ (.inl rfl) e,ih q⟩
 |tbl ps=>
  have e:h.get? a=some { cls:=.none,data:=.fields ps }:=x
  show h'.get? a=some { cls:=.none,data:=.fields ps }
  exact k a _ (.inl rfl) e
 |met f y=>
  have e:h.get? a=some (PySem.W.methodObj (.ref f) (.ref y)):=x
  show h'.get? a=some (PySem.W.methodObj (.ref f) (.ref y))
  exact k a _ (.inl rfl) e
 |ext φ=>obtain⟨p,⟨o,e⟩,st⟩:=x;exact⟨st _ _ p fun o q=>k _ _ (.inl rfl) q,⟨o,k _ _ (.inl rfl) e⟩,st⟩
theorem HOk.lt(x:HOk P w H h)(e:H a=some o):a<h.objs.size:=(x a o e).lt
theorem HOk.fresh(x:HOk P w H h)(e:h.objs.size<=a):H a=none:=by
 cases q:H a with
 |none=>rfl
 |some u=>exact absurd (x00 (x.lt q) e) (x0o _)
theorem HOk.kept(x:HOk P w H h)(k:∀b u,h.get? b=some u->h'.get? b=some u):HOk P w H h':=fun a o e=>
 (x a o e).stay (fun b u _ q=>k b u q) (fun _ q=>q) fun _ _ q=>q
theorem HOk.laid(x:HOk P w H h)(k:∀b u,h.get? b=some u->h'.get? b=some u)(hp:h.objs.size<=a)(new:ObjOk P w (upd H a o) h' a o):HOk P w (upd H a o) h':=fun b u e=>by
 have hn:=x.fresh hp
 by_cases hb:b=a
 .subst hb;rw[z9]at e;cases e;exact new
 .rw[zc hb]at e
  exact(x b u e).stay (fun c v _ q=>k c v q) (fun c q=>by rw[zc (zh q hn)];exact q) fun c xs q=>by rw[zc (zh q hn)];exact q
end
noncomputable def Rd(H:Hp)(a:Addr)(u:HO):Prop:=H a=some u\/∃o,H a=some (.frz o u)
theorem Rd.ok{P:Program}{w:World}{H:Hp}{h:Heap}{a:Addr}{u:HO}(r:Rd H a u)(x:HOk P w H h):ObjOk P w H h a u:=by
 rcases r with r|⟨o,r⟩
 .exact x a u r
 .obtain⟨_,q⟩:=x a _ r
  exact q
noncomputable def Mut:Option HO->Prop
 |some (.lst _)=>True
 |some (.dK _)=>True
 |some (.dT _)=>True
 |some (.set _ _)=>True
 |some (.ins _ _ _)=>True
 |some (.ext _)=>True
 |_=>False
section
variable {P:Program}{w:World}{H:Hp}{h h':Heap}{x e:Addr}{o':HO}
theorem HOk.write(ok:HOk P w H h)(mu:Mut (H x))(he:e=x\/H e=some (.own x))(k:∀b u,b≠e->h.get? b=some u->h'.get? b=some u)(heo:∃u,h'.get? e=some u)
  (new:ObjOk P w (upd H x o') h' x o'):HOk P w (upd H x o') h':=fun b u q=>by
 have nown:∀c y,H c=some (.own y)->c≠x:=fun c y r z=>by subst z;rw[r]at mu;exact mu
 have ntup:∀c xs,H c=some (.tup xs)->c≠x:=fun c xs r z=>by subst z;rw[r]at mu;exact mu
 by_cases hb:b=x
 .subst hb;rw[z9]at q;cases q;exact new
 .rw[zc hb]at q
  by_cases hbe:b=e
  .have q':H b=some (.own x):=by
    rcases he with z|z
    .exact absurd (hbe.trans z) hb
    .rw[hbe];exact z
   rw[q]at q';cases q'
   obtain⟨v,hv⟩:=heo
   exact⟨v,by rw[hbe];exact hv⟩
  .refine(ok b u q).stay (fun c v hc r=>k c v ?_ r) (fun c r=>by rw[zc (nown c b r)];exact r) fun c xs r=>by rw[zc (ntup c xs r)];exact r
   rcases hc with rfl|hc
   .exact hbe
   .rintro rfl
    rcases he with z|z
    .exact nown c b hc z
    .rw[hc]at z;cases z;exact hb rfl
end
structure Un(fs ex:List Addr)(H H':Hp)(h h':Heap):Prop where
 keep:∀b o,h.get? b=some o->H b=none->b∉fs->b∉ex->h'.get? b=some o
 slot:∀b o,h.get? b=some o->H b=none->b∈fs->b∉ex->∃sl,h'.get? b=some { o with slots:=sl }
 free:∀b o,h.get? b=some o->H b=none->b∉ex->H' b=none
 there:∀b o,h.get? b=some o->b∉ex->∃o',h'.get? b=some o'
 tups:∀b xs,H b=some (.tup xs)->H' b=some (.tup xs)
 frzs:∀b o u,H b=some (.frz o u)->H' b=some (.frz o u)
 tbls:∀b ps,H b=some (.tbl ps)->∃more,H' b=some (.tbl (ps++more))
section
variable {fs fs' ex ex':List Addr}{H H1 H2:Hp}{h h1 h2 h':Heap}{a x e:Addr}{o:HO}
theorem Un.any(u:Un fs ex H H1 h h1){b:Addr}{ob:Obj}(q:h.get? b=some ob)(n:H b=none)(hx:b∉ex):∃sl,h1.get? b=some { ob with slots:=sl }:=by
 by_cases hb:b∈fs
 .exact u.slot b ob q n hb hx
 .exact⟨ob.slots,u.keep b ob q n hb hx⟩
theorem Un.kept(k:∀b u,h.get? b=some u->h'.get? b=some u):Un fs ex H H h h':=
 ⟨fun b ob q _ _ _=>k b ob q,fun b ob q _ _ _=>⟨ob.slots,k b ob q⟩,fun _ _ _ n _=>n,fun b ob q _=>⟨ob,k b ob q⟩,fun _ _ q=>q,fun _ _ _ q=>q,fun _ ps q=>⟨#[],by rw[q];simp⟩⟩
theorem Un.refl:Un fs ex H H h h:=Un.kept fun _ _ q=>q
theorem Un.laid(k:∀b u,h.get? b=some u->h'.get? b=some u)(hp:h.objs.size<=a)(hn:H a=none):Un fs ex H (upd H a o) h h' where
 keep:=fun b u q _ _ _=>k b u q
 slot:=fun b u q _ _ _=>⟨u.slots,k b u q⟩
 free:=fun b u q n _=>by rw[zc (xu (x00 (xn q) hp))];exact n
 there:=fun b u q _=>⟨u,k b u q⟩
 tups:=fun b xs q=>by rw[zc (zh q hn)];exact q
 frzs:=fun b u xs q=>by rw[zc (zh q hn)];exact q
 tbls:=fun b ps q=>⟨#[],by rw[zc (zh q hn),q];simp⟩
theorem Un.write(mu:Mut (H x))(he:e=x\/H e=some (.own x))(k:∀b u,b≠e->h.get? b=some u->h'.get? b=some u)(heo:∃u,h'.get? e=some u):Un fs ex H (upd H x o) h h':=by
 have hx:∀b,H b=none->b≠x:=fun b n z=>by subst z;rw[n]at mu;exact mu
 have hb:∀b,H b=none->b≠e:=fun b n z=>by
  subst z
  rcases he with r|r
  .exact hx b n r
  .rw[n]at r;cases r
 have hm:∀b u,H b=some u->¬ Mut (some u)->b≠x:=fun b u q nm z=>by subst z;rw[q]at mu;exact nm mu
 refine⟨fun b u q n _ _=>k b u (hb b n) q,fun b u q n _ _=>⟨u.slots,k b u (hb b n) q⟩,fun b u q n _=>by rw[zc (hx b n)];exact n,fun b u q _=>?_,
  fun b xs q=>by rw[zc (hm b _ q fun z=>z)];exact q,fun b u xs q=>by rw[zc (hm b _ q fun z=>z)];exact q,fun b ps q=>⟨#[],by rw[zc (hm b _ q fun z=>z),q];simp⟩⟩
 by_cases hbe:b=e
 .subst hbe;exact heo
 .exact⟨u,k b u hbe q⟩
end
noncomputable def trk(h:Heap)(H:Hp):List Addr:=(List.range h.objs.size).filter fun a=>(H a).isSome
noncomputable def hidT(h:Heap)(H:Hp):Heap:=PySem.W.hideAll h (trk h H)
theorem zj0(h:Heap)(H:Hp):(hidT h H).objs.size=h.objs.size:=PySem.W.hideAll_size _ _
theorem zl7{h:Heap}{H:Hp}{b:Addr}{o:Obj}(e:h.get? b=some o)(n:H b=none):(hidT h H).get? b=some o:=
 PySem.W.hideAll_get _ e fun hm=>by
  have q:(H b).isSome=true:=(xz.mp hm).2
  rw[n]at q;simp at q
theorem zmy{h:Heap}{H:Hp}{b:Addr}{o:Obj}(e:(hidT h H).get? b=some o):h.get? b=some o/\H b=none:=by
 have e':h.get? b=some o:=PySem.W.of_hideAll (trk h H) e
 refine⟨e',?_⟩
 cases q:H b with
 |none=>rfl
 |some x=>
  have hm:b∈trk h H:=xz.mpr ⟨x0l.mpr (xn e'),by simp[q]⟩
  have z:(hidT h H).get? b=none:=PySem.W.hideAll_none (trk h H) hm
  rw[z]at e;cases e
noncomputable def z32(g h:Heap)(L:Addr):List (Addr×Obj):=(List.range h.objs.size).filterMap fun a=>if a=L\/(g.get? a).isSome=true then none else(h.get? a).map fun o=>(a,o)
theorem z66{g h:Heap}{L a:Addr}{o:Obj}(h1:a≠L)(h2:g.get? a=none)(h3:h.get? a=some o):(a,o)∈z32 g h L:=
 List.mem_filterMap.mpr ⟨a,x0l.mpr (xn h3),by simp[h1,h2,h3]⟩
theorem zbp{g h:Heap}{L:Addr}{p:Addr×Obj}(hp:p∈z32 g h L):p.1≠L/\g.get? p.1=none/\h.get? p.1=some p.2:=by
 obtain⟨b,_,e⟩:=List.mem_filterMap.mp hp
 split at e
 .cases e
 .rename_i hn
  cases q:h.get? b with
  |none=>rw[q]at e;simp at e
  |some u=>
   rw[q]at e
   simp only[x18,x26]at e
   subst e
   refine⟨fun z=>hn (.inl z),?_,q⟩
   show g.get? b=none
   cases r:g.get? b with
   |none=>rfl
   |some v=>exact(hn (.inr (by simp[r]))).elim
noncomputable def rest(g h:Heap)(L d:Addr):List (Addr×Obj):=(z32 g h L).filter fun p=>decide (p.1≠d)
theorem ze9{g h:Heap}{L:Addr}:News g L h (z32 g h L):=fun p hp=>let⟨a,b,c⟩:=zbp hp;⟨c,a,b⟩
structure Mod(K:PySem.W.Frag)(mg:Str->Option Value)(base:Heap):Prop where
 kin:K.In base
 glob:base.Ns mainGlobals mg
 blt:∃ mb,base.Ns builtinsNs mb/\∀ x:Str,x≠ "__name__"->mb x=bootBuiltins x
 nolimit:base.NoLimit
structure Cx where
 prog:Program
 w:World
 K:PySem.W.Frag
 mg:Str->Option Value
 base:Heap
 A:Around
 N:List Str
 s₀:Shared
 H₀:Hp
 env:Env
 outer:List Env
 stack:List Env
 ex:List Addr
 fn:Str->Bool
 calm:Bool
 pn:List (Addr×Obj)
 xe:Value->Shared->Prop
noncomputable def frs(l:List Env):List Addr:=l.filterMap (·.frame)
noncomputable abbrev Cx.fs(X:Cx):List Addr:=frs X.outer
noncomputable def Vis(sc:Scope)(x:Str):Prop:=sc.names.lookup x=some .local\/sc.names.lookup x=some .cell\/sc.names.lookup x=some .free
noncomputable def Loc(sc:Scope)(x:Str):Prop:=sc.names.lookup x=some .local\/sc.names.lookup x=some .cell
noncomputable def Look(env:Env)(h:Heap)(m:Str->Option Value)(x:Str)(u:Value):Prop:=
 (env.kindOf x=some .local/\m x=some u)\/((env.kindOf x=some .cell\/env.kindOf x=some .free)/\∃c,env.cells.lookup x=some c/\h.IsCell c (some u))
structure Cx.Ok(X:Cx):Prop where
 mod:Mod X.K X.mg X.base
 kind:X.env.scope.kind=.function
 glob:X.env.globals=mainGlobals
 blt:X.env.builtins=builtinsNs
 above:X.s₀.heap.objs.size<=X.env.locals
 inj:∀x y c,X.env.cells.lookup x=some c->X.env.cells.lookup y=some c->x=y
 has:∀x,(X.env.kindOf x=some .cell\/X.env.kindOf x=some .free)->∃c,X.env.cells.lookup x=some c
 cab:∀x c,X.fn x=true->X.env.cells.lookup x=some c->X.s₀.heap.objs.size<=c
 hd:X.calm=true->X.A.handled=none
 frames:X.A.frames=some X.stack
 stk:X.stack=X.outer\/(X.stack=X.env::X.outer/\X.env.frame=some X.env.locals)
 exf:∀b∈X.ex,b≠X.env.locals/\∀x c,X.env.cells.lookup x=some c->c≠b
 bs:∀b o,X.base.get? b=some o->X.s₀.heap.get? b=some o/\X.H₀ b=none
 bsz:X.base.objs.size<=X.s₀.heap.objs.size
 noex:∀b o,X.base.get? b=some o->b∉X.ex
 exfs:∀b∈X.ex,b∉X.fs
 funs:X.s₀.heap.FunFrames X.base X.outer
 frf:∀b∈X.fs,X.H₀ b=none
structure Inv(X:Cx)(pins:List (Addr×Obj))(σ:List (Option V))(H:Hp)(s:Shared):Prop where
 ok:X.Ok
 os:s.os=X.s₀.os
 bare:AllBare s.gens
 base:Un X.fs X.ex X.H₀ H X.s₀.heap s.heap
 loc:∃m,s.heap.Ns X.env.locals m/\∀(i:Nat)(x:Str)(v:V),X.N[i]? =some x->σ[i]? =some (some v)->Vis X.env.scope x->∃u,RelV v u/\Look X.env s.heap m x u
 cell:∀x c,X.env.cells.lookup x=some c->∃v,s.heap.IsCell c v
 free:H X.env.locals=none
 freeC:∀x c,X.env.cells.lookup x=some c->H c=none
 pin:∀p∈X.pn++pins,s.heap.get? p.1=some p.2/\H p.1=none/\p.1≠X.env.locals/\p.1∉X.fs/\∀v,p.2.data≠.cell v
 hok:HOk X.prog X.w H s.heap
 len:σ.length=X.N.length
section
variable {X:Cx}{pins:List (Addr×Obj)}{σ:List (Option V)}{H H':Hp}{s:Shared}{h':Heap}
theorem Cx.Ok.nofr(ok:X.Ok){b:Addr}{o:Obj}(e:X.base.get? b=some o):b∉X.fs:=fun hb=>by
 have:=(ok.funs.mem hb).1
 rw[e]at this;cases this
theorem Inv.bs(I:Inv X pins σ H s):∀b o,X.base.get? b=some o->s.heap.get? b=some o/\H b=none:=fun b o e=>
 ⟨I.base.keep b o (I.ok.bs b o e).1 (I.ok.bs b o e).2 (I.ok.nofr e) (I.ok.noex b o e),I.base.free b o (I.ok.bs b o e).1 (I.ok.bs b o e).2 (I.ok.noex b o e)⟩
theorem Inv.bk(I:Inv X pins σ H s):∀b o,X.base.get? b=some o->s.heap.get? b=some o:=fun b o e=>(I.bs b o e).1
theorem Inv.mod(I:Inv X pins σ H s):Mod X.K X.mg X.base:=I.ok.mod
theorem Inv.kIn(I:Inv X pins σ H s):X.K.In s.heap:=I.ok.mod.kin.keeps I.bk
theorem Inv.nolimit(I:Inv X pins σ H s):s.heap.NoLimit:=I.ok.mod.nolimit.keeps I.bk
theorem Inv.lt(I:Inv X pins σ H s):X.env.locals<s.heap.objs.size:=let⟨_,hn,_⟩:=I.loc;hn.lt
theorem Inv.sz(I:Inv X pins σ H s):X.s₀.heap.objs.size<=s.heap.objs.size:=x01 I.ok.above (x20 I.lt)
theorem Inv.nofs(I:Inv X pins σ H s){a:Addr}(h:s.heap.objs.size<=a):a∉X.fs:=fun hb=>by
 obtain⟨_,o,ho,_⟩:=I.ok.funs.mem hb
 exact absurd (x00 (xn ho) (x01 I.sz h)) (x0o _)
theorem Inv.cne(I:Inv X pins σ H s):∀x c,X.env.cells.lookup x=some c->c≠X.env.locals:=fun x c e z=>by
 obtain⟨v,o,ho,hd⟩:=I.cell x c e
 obtain⟨m,⟨o',es,ep,ho',hd',_⟩,_⟩:=I.loc
 rw[z,ho']at ho;cases ho;rw[hd']at hd;cases hd
theorem Inv.funs(I:Inv X pins σ H s):s.heap.FunFrames X.base X.outer:=by
 have all:∀(l:List Env),(∀b∈frs l,b∈X.fs)->X.s₀.heap.FunFrames X.base l->s.heap.FunFrames X.base l:=by
  intro l
  induction l with
  |nil=>intro _ _;trivial
  |cons env r ih=>
   intro hs hl
   obtain⟨hk,⟨L,o,hf,hn,ho,hd⟩,hr⟩:=hl
   have hL:L∈X.fs:=hs L (by unfold frs;rw[List.filterMap_cons,hf];exact xp)
   obtain⟨sl,e⟩:=I.base.slot L o ho (I.ok.frf L hL) hL fun z=>I.ok.exfs L z hL
   exact⟨hk,⟨L,_,hf,hn,e,hd⟩,ih (fun b hb=>hs b (by unfold frs;rw[List.filterMap_cons,hf];exact xx _ hb)) hr⟩
 exact all X.outer (fun _ hb=>hb) I.ok.funs
theorem Inv.stack(I:Inv X pins σ H s):s.heap.FunFrames X.base X.stack:=by
 rcases I.ok.stk with e|⟨e,hf⟩
 .rw[e];exact I.funs
 .rw[e]
  obtain⟨m,hn,_⟩:=I.loc
  refine .cons (by rw[I.ok.kind];decide) hf hn ?_ I.funs
  exact x2h (x01 I.ok.bsz I.ok.above)
theorem Inv.stkSub(I:Inv X pins σ H s):∀b∈frs X.stack,b∈X.env.locals::X.fs:=fun b hb=>by
 rcases I.ok.stk with e|⟨e,hf⟩
 .rw[e]at hb;exact xx _ hb
 .rw[e]at hb
  unfold frs at hb
  rw[List.filterMap_cons,hf]at hb
  exact hb
theorem Inv.stkFree(I:Inv X pins σ H s):∀b∈frs X.stack,H b=none:=fun b hb=>by
 rcases xk.mp (I.stkSub b hb) with e|hb
 .rw[e];exact I.free
 .obtain⟨_,o,ho,_⟩:=I.ok.funs.mem hb
  exact I.base.free b o ho (I.ok.frf b hb) fun z=>I.ok.exfs b z hb
theorem Inv.step{g':Array GenState}{t':Nat}{d':Drawn}{ch:List Addr}(I:Inv X pins σ H s)
  (hch:∀b∈ch,(b∈X.ex\/X.s₀.heap.objs.size<=b)/\b≠X.env.locals/\(∀x c,X.env.cells.lookup x=some c->c≠b)/\∀p∈X.pn++pins,p.1≠b)
  (keep:∀b o,b≠X.env.locals->b∉X.fs->b∉ch->s.heap.get? b=some o->H b=none->h'.get? b=some o)
  (slot:∀b o,b≠X.env.locals->b∈X.fs->b∉ch->s.heap.get? b=some o->H b=none->∃sl,h'.get? b=some { o with slots:=sl }) (free:∀b o,b∉ch->s.heap.get? b=some o->H b=none->H' b=none)
  (there:∀b o,b∉ch->s.heap.get? b=some o->∃o',h'.get? b=some o')
  (tups:∀b xs,H b=some (.tup xs)->H' b=some (.tup xs)) (frzs:∀b o u,H b=some (.frz o u)->H' b=some (.frz o u)) (tbls:∀b ps,H b=some (.tbl ps)->∃more,H' b=some (.tbl (ps++more)))
  (ns:∀m,s.heap.Ns X.env.locals m->h'.Ns X.env.locals m) (hok:HOk X.prog X.w H' h') (hg:AllBare g'):
  Inv X pins σ H' { s with heap:=h',gens:=g',drawn:=d',toks:=t' }:=by
 have neL:∀b o,X.s₀.heap.get? b=some o->b≠X.env.locals:=fun b o e=>xu (x00 (xn e) I.ok.above)
 have neC:∀b o,X.s₀.heap.get? b=some o->b∉X.ex->b∉ch:=fun b o e hx hb=>by
  rcases(hch b hb).1 with z|z
  .exact hx z
  .exact absurd (x00 (xn e) z) (x0o _)
 have cellK:∀x c,X.env.cells.lookup x=some c->∀v,s.heap.IsCell c v->h'.IsCell c v:=fun x c e v ⟨o,ho,hd⟩=>by
  have nch:c∉ch:=fun z=>(hch c z).2.2.1 x c e rfl
  by_cases hc:c∈X.fs
  .obtain⟨sl,q⟩:=slot c o (I.cne x c e) hc nch ho (I.freeC x c e)
   exact⟨_,q,hd⟩
  .exact⟨o,keep c o (I.cne x c e) hc nch ho (I.freeC x c e),hd⟩
 refine⟨I.ok,I.os,hg,⟨fun b o e n hb hx=>?_,fun b o e n hb hx=>?_,fun b o e n hx=>?_,fun b o e hx=>?_,fun b xs e=>tups b xs (I.base.tups b xs e),fun b o xs e=>frzs b o xs (I.base.frzs b o xs e),fun b ps e=>?_⟩,?_,fun x c e=>?_,?_,fun x c e=>?_,fun p hp=>?_,hok,I.len⟩
 .exact keep b o (neL b o e) hb (neC b o e hx) (I.base.keep b o e n hb hx) (I.base.free b o e n hx)
 .obtain⟨sl,e1⟩:=I.base.slot b o e n hb hx
  obtain⟨sl',e2⟩:=slot b _ (neL b o e) hb (neC b o e hx) e1 (I.base.free b o e n hx)
  exact⟨sl',e2⟩
 .obtain⟨o',e1⟩:=I.base.there b o e hx
  exact free b o' (neC b o e hx) e1 (I.base.free b o e n hx)
 .obtain⟨o',e1⟩:=I.base.there b o e hx
  exact there b o' (neC b o e hx) e1
 .obtain⟨m1,e1⟩:=I.base.tbls b ps e
  obtain⟨m2,e2⟩:=tbls b _ e1
  exact⟨m1++m2,by rw[e2,Array.append_assoc]⟩
 .obtain⟨m,hn,hl⟩:=I.loc
  refine⟨m,ns m hn,fun i x v e1 e2 e3=>?_⟩
  obtain⟨u,r,l⟩:=hl i x v e1 e2 e3
  refine⟨u,r,?_⟩
  rcases l with l|⟨k,c,e,z⟩
  .exact .inl l
  .exact .inr ⟨k,c,e,cellK x c e _ z⟩
 .obtain⟨v,z⟩:=I.cell x c e
  exact⟨v,cellK x c e v z⟩
 .obtain⟨m,⟨o,_,_,ho,_⟩,_⟩:=I.loc
  exact free _ o (fun z=>(hch _ z).2.1 rfl) ho I.free
 .obtain⟨v,o,ho,hd⟩:=I.cell x c e
  exact free c o (fun z=>(hch c z).2.2.1 x c e rfl) ho (I.freeC x c e)
 .obtain⟨e,n,ne,nf,d⟩:=I.pin p hp
  have nch:p.1∉ch:=fun z=>(hch p.1 z).2.2.2 p hp rfl
  exact⟨keep p.1 p.2 ne nf nch e n,free p.1 p.2 nch e n,ne,nf,d⟩
theorem Inv.un{t':Nat}(I:Inv X pins σ H s)(u:Un X.fs [] H H' s.heap h')(hok:HOk X.prog X.w H' h'):Inv X pins σ H' { s with heap:=h',toks:=t' }:=by
 obtain⟨m,⟨o,es,ep,ho,r⟩,_⟩:=id I.loc
 obtain⟨sl,hL⟩:=u.any ho I.free (by simp)
 exact I.step (g':=s.gens) (d':=s.drawn) (ch:=[]) (fun _ z=>nomatch z) (fun b o _ hb _ e n=>u.keep b o e n hb (by simp)) (fun b o _ hb _ e n=>u.slot b o e n hb (by simp)) (fun b o _ e n=>u.free b o e n (by simp)) (fun b o _ e=>u.there b o e (by simp)) u.tups u.frzs u.tbls (fun m' hm=>by
  obtain⟨o',es',ep',ho',r'⟩:=hm
  rw[ho]at ho';cases ho'
  exact⟨_,es',ep',hL,r'⟩) hok I.bare
theorem Inv.call{g':Array GenState}{t':Nat}{d':Drawn}{ch:List Addr}(I:Inv X pins σ H s)(u:Un (frs X.stack) ch H H' s.heap h')(hok:HOk X.prog X.w H' h')(hg:AllBare g')
  (hch:∀b∈ch,(b∈X.ex\/X.s₀.heap.objs.size<=b)/\b≠X.env.locals/\(∀x c,X.env.cells.lookup x=some c->c≠b)/\∀p∈X.pn++pins,p.1≠b):
  Inv X pins σ H' { s with heap:=h',gens:=g',drawn:=d',toks:=t' }:=by
 obtain⟨m,⟨o,es,ep,ho,r⟩,_⟩:=id I.loc
 obtain⟨sl,hL⟩:=u.any ho I.free fun z=>(hch _ z).2.1 rfl
 exact I.step (ch:=ch) hch (fun b o hL hb hc e n=>u.keep b o e n (fun z=>(xk.mp (I.stkSub b z)).elim hL hb) hc) (fun b o _ _ hc e n=>u.any e n hc) (fun b o hc e n=>u.free b o e n hc) (fun b o hc e=>u.there b o e hc) u.tups u.frzs u.tbls (fun m' hm=>by
  obtain⟨o',es',ep',ho',r'⟩:=hm
  rw[ho]at ho';cases ho'
  exact⟨_,es',ep',hL,r'⟩) hok hg
theorem Inv.turned{t':Nat}{it:Addr}(I:Inv X pins σ H s)(k:∀b o,b≠it->s.heap.get? b=some o->h'.get? b=some o)(hn:H it=none)(hL:it≠X.env.locals)
  (h1:it∈X.ex\/X.s₀.heap.objs.size<=it) (h2:∀x c,X.env.cells.lookup x=some c->c≠it) (h3:∀p∈X.pn++pins,p.1≠it):Inv X pins σ H { s with heap:=h',toks:=t' }:=by
 have nit:∀b u,H b=some u->b≠it:=fun b u e z=>by rw[z,hn]at e;cases e
 refine I.step (g':=s.gens) (d':=s.drawn) (ch:=[it]) (fun b hb=>?_) (fun b o _ _ hc e _=>k b o (fun z=>hc (by simp[z])) e) (fun b o _ _ hc e _=>⟨o.slots,k b o (fun z=>hc (by simp[z])) e⟩) (fun _ _ _ _ n=>n)
  (fun b o hc e=>⟨o,k b o (fun z=>hc (by simp[z])) e⟩) (fun _ _ e=>e) (fun _ _ _ e=>e) (fun b ps e=>⟨#[],by rw[e];simp⟩) (fun m hm=>?_) (fun b u e=>?_) I.bare
 .have e:b=it:=by simpa using hb
  subst e
  exact⟨h1,hL,h2,h3⟩
 .obtain⟨o,es,ep,ho,r⟩:=hm
  exact⟨o,es,ep,k _ o (Ne.symm hL) ho,r⟩
 .refine(I.hok b u e).stay (fun c v hc q=>k c v ?_ q) (fun _ q=>q) fun _ _ q=>q
  rcases hc with z|z
  .rw[z];exact nit b u e
  .exact nit c _ z
theorem Inv.tok(I:Inv X pins σ H s)(t:Nat):Inv X pins σ H { s with toks:=t }:=I.un (h':=s.heap) (t':=t) Un.refl I.hok
theorem Inv.kept{t':Nat}(I:Inv X pins σ H s)(k:∀b u,s.heap.get? b=some u->h'.get? b=some u):Inv X pins σ H { s with heap:=h',toks:=t' }:=I.un (Un.kept k) (I.hok.kept k)
theorem Inv.laid{a:Addr}{o:HO}{t':Nat}(I:Inv X pins σ H s)(k:∀b u,s.heap.get? b=some u->h'.get? b=some u)(hp:s.heap.objs.size<=a)(new:ObjOk X.prog X.w (upd H a o) h' a o):
  Inv X pins σ (upd H a o) { s with heap:=h',toks:=t' }:=I.un (Un.laid k hp (I.hok.fresh hp)) (I.hok.laid k hp new)
theorem Inv.write{x e:Addr}{o:HO}{t':Nat}(I:Inv X pins σ H s)(mu:Mut (H x))(he:e=x\/H e=some (.own x))(k:∀b u,b≠e->s.heap.get? b=some u->h'.get? b=some u)(heo:∃u,h'.get? e=some u)
  (new:ObjOk X.prog X.w (upd H x o) h' x o):Inv X pins σ (upd H x o) { s with heap:=h',toks:=t' }:=I.un (Un.write mu he k heo) (I.hok.write mu he k heo new)
theorem Inv.weak{σ':List (Option V)}(I:Inv X pins σ H s)(hl:σ'.length=σ.length)(w:∀(i:Nat) v,σ'[i]? =some (some v)->σ[i]? =some (some v)):Inv X pins σ' H s:=
 ⟨I.ok,I.os,I.bare,I.base,let⟨m,hn,hl'⟩:=I.loc;⟨m,hn,fun i x v e1 e2 e3=>hl' i x v e1 (w i v e2) e3⟩,I.cell,I.free,I.freeC,I.pin,I.hok,hl.trans I.len⟩
theorem Inv.pins_of{pins':List (Addr×Obj)}(I:Inv X pins σ H s)(h:∀p∈pins',s.heap.get? p.1=some p.2/\H p.1=none/\p.1≠X.env.locals/\p.1∉X.fs/\∀v,p.2.data≠.cell v):Inv X pins' σ H s:=
 ⟨I.ok,I.os,I.bare,I.base,I.loc,I.cell,I.free,I.freeC,fun p hp=>(x02.mp hp).elim (fun z=>I.pin p (x0p _ z)) (h p),I.hok,I.len⟩
theorem zea{N:List Str}(hN:N.Nodup){i j:Nat}{x:Str}(a:N[i]? =some x)(b:N[j]? =some x):i=j:=by
 obtain⟨h1,e1⟩:=xl.mp a
 obtain⟨h2,e2⟩:=xl.mp b
 exact(List.getElem_inj hN).mp (e1.trans e2.symm)
theorem zcm{M:Model}{A:Around}{E:Value->Shared->Prop}{i:Nat}{x:Str}{v:V}{u:Value}{Q:Unit->Shared->Prop}(I:Inv X pins σ H s)(hN:X.N.Nodup)(hi:X.N[i]? =some x)(hx:Loc X.env.scope x)(r:RelV v u)
  (h:∀s',Inv X pins (σ.set i (some v)) H s'->(∃a,Heap.SameBut a s.heap s'.heap/\(a=X.env.locals\/X.env.cells.lookup x=some a))->Q () s') (hf:X.fn x=true\/X.env.scope.names.lookup x=some .local:=by first|exact .inl rfl|exact .inr rfl|assumption):wpAny M A (storeName X.env x u) Q E s:=by
 obtain⟨m,hn,hl⟩:=id I.loc
 have hcls:(X.env.scope.kind== .class||(X.env.scope.kind== .module&&X.env.locals !=X.env.globals))=false:=by rw[I.ok.kind];rfl
 have hiσ:i<σ.length:=by rw[I.len];exact(xl.mp hi).1
 have cne:=I.cne
 have tracked:∀{a:Addr}{h':Heap},(∃o,s.heap.get? a=some o/\H a=none)->Heap.SameBut a s.heap h'->HOk X.prog X.w H h':=fun{a h'} ha hs b ob e=>by
  obtain⟨_,_,hfree⟩:=ha
  refine(I.hok b ob e).stay (fun c w' hc q=>(hs.2 c ?_).trans q) (fun _ q=>q) fun _ _ q=>q
  rintro rfl
  rcases hc with rfl|hc
  .rw[hfree]at e;cases e
  .rw[hfree]at hc;cases hc
 rcases hx with hk|hk
 .refine wpAny_storeName_local hk hn (fun h' hn' hs=>?_) hcls
  obtain⟨oL,_,_,hoL,_⟩:=id hn
  refine h _ ⟨I.ok,I.os,I.bare,⟨fun b o e n hb hx=>?_,fun b o e n hb hx=>?_,I.base.free,fun b o e hx=>?_,I.base.tups,I.base.frzs,I.base.tbls⟩,⟨_,hn',fun j y v' e1 e2 e3=>?_⟩,fun y c e=>?_,I.free,I.freeC,fun p hp=>?_,tracked ⟨oL,hoL,I.free⟩ hs,by simpa using I.len⟩ ⟨_,hs,.inl rfl⟩
  .exact(hs.2 b (xu (x00 (xn e) I.ok.above))).trans (I.base.keep b o e n hb hx)
  .obtain⟨sl,e1⟩:=I.base.slot b o e n hb hx
   exact⟨sl,(hs.2 b (xu (x00 (xn e) I.ok.above))).trans e1⟩
  .obtain⟨o',e1⟩:=I.base.there b o e hx
   exact⟨o',(hs.2 b (xu (x00 (xn e) I.ok.above))).trans e1⟩
  .by_cases hj:j=i
   .subst hj
    rw[hi]at e1;cases e1
    rw[x2p hiσ]at e2
    cases e2
    exact⟨u,r,.inl ⟨hk,by simp⟩⟩
   .rw[x2i (Ne.symm hj)]at e2
    obtain⟨u',r',q⟩:=hl j y v' e1 e2 e3
    refine⟨u',r',?_⟩
    rcases q with⟨k,e⟩|⟨k,c,e,z⟩
    .refine .inl ⟨k,?_⟩
     have:y≠x:=fun e=>hj (zea hN e1 (e▸hi))
     simp[this,e]
    .exact .inr ⟨k,c,e,z.sameBut hs (cne y c e)⟩
  .obtain⟨w',z⟩:=I.cell y c e
   exact⟨w',z.sameBut hs (cne y c e)⟩
  .obtain⟨e,n,ne,nf,d⟩:=I.pin p hp
   exact⟨(hs.2 p.1 ne).trans e,n,ne,nf,d⟩
 .have hfn:X.fn x=true:=by
   rcases hf with z|z
   .exact z
   .rw[z]at hk;cases hk
  obtain⟨c,hc⟩:=I.ok.has x (.inl hk)
  obtain⟨w',z⟩:=I.cell x c hc
  refine wpAny_storeName_cell I.ok.kind hk hc z (fun h' hc' hs=>?_)
  obtain⟨oc,hoc,hocd⟩:=id z
  refine h { s with heap:=h' } ⟨I.ok,I.os,I.bare,⟨fun b o e n hb hx=>?_,fun b o e n hb hx=>?_,I.base.free,fun b o e hx=>?_,I.base.tups,I.base.frzs,I.base.tbls⟩,⟨m,hn.sameBut hs (Ne.symm (cne x c hc)),fun j y v' e1 e2 e3=>?_⟩,fun y c' e=>?_,I.free,I.freeC,fun p hp=>?_,tracked ⟨oc,hoc,I.freeC x c hc⟩ hs,by simpa using I.len⟩ ⟨c,hs,.inr hc⟩
  .exact(hs.2 b (xu (x00 (xn e) (I.ok.cab x c hfn hc)))).trans (I.base.keep b o e n hb hx)
  .obtain⟨sl,e1⟩:=I.base.slot b o e n hb hx
   exact⟨sl,(hs.2 b (xu (x00 (xn e) (I.ok.cab x c hfn hc)))).trans e1⟩
  .obtain⟨o',e1⟩:=I.base.there b o e hx
   exact⟨o',(hs.2 b (xu (x00 (xn e) (I.ok.cab x c hfn hc)))).trans e1⟩
  .by_cases hj:j=i
   .subst hj
    rw[hi]at e1;cases e1
    rw[x2p hiσ]at e2
    cases e2
    exact⟨u,r,.inr ⟨.inl hk,c,hc,hc'⟩⟩
   .rw[x2i (Ne.symm hj)]at e2
    obtain⟨u',r',q⟩:=hl j y v' e1 e2 e3
    refine⟨u',r',?_⟩
    rcases q with q|⟨k,c',e,z'⟩
    .exact .inl q
    .refine .inr ⟨k,c',e,z'.sameBut hs ?_⟩
     rintro rfl
     exact hj (zea hN e1 (I.ok.inj _ _ _ e hc▸hi))
  .by_cases hcc:c'=c
   .subst hcc;exact⟨_,hc'⟩
   .obtain⟨w2,z2⟩:=I.cell y c' e
    exact⟨w2,z2.sameBut hs hcc⟩
  .obtain⟨e,n,ne,nf,d⟩:=I.pin p hp
   refine⟨(hs.2 p.1 ?_).trans e,n,ne,nf,d⟩
   intro q
   rw[q,hoc]at e
   have q':oc=p.2:=xq e
   exact d w' (by rw[<-q'];exact hocd)
theorem z9j{M:Model}{A:Around}{E:Value->Shared->Prop}{i:Nat}{x:Str}{v:V}{u:Value}{Q:Unit->Shared->Prop}(I:Inv X pins σ H s)(hN:X.N.Nodup)(hi:X.N[i]? =some x)(hx:Loc X.env.scope x)(r:RelV v u)
  (h:∀s',Inv X pins (σ.set i (some v)) H s'->Q () s') (hf:X.fn x=true\/X.env.scope.names.lookup x=some .local:=by first|exact .inl rfl|exact .inr rfl|assumption):wpAny M A (storeName X.env x u) Q E s:=
 zcm I hN hi hx r (fun s' I' _=>h s' I') hf
theorem Inv.call'{s':Shared}{ch:List Addr}(I:Inv X pins σ H s)(ho:s'.os=s.os)(u:Un (frs X.stack) ch H H' s.heap s'.heap)(hok:HOk X.prog X.w H' s'.heap)(hg:AllBare s'.gens)
  (hch:∀b∈ch,(b∈X.ex\/X.s₀.heap.objs.size<=b)/\b≠X.env.locals/\(∀x c,X.env.cells.lookup x=some c->c≠b)/\∀p∈X.pn++pins,p.1≠b):Inv X pins σ H' s':=by
 obtain⟨h',g',d',t',o'⟩:=s'
 have e:o'=s.os:=ho
 subst e
 exact I.call (g':=g') (t':=t') (d':=d') u hok hg hch
end
noncomputable abbrev XK:=Value->Option Addr->Hp->Prop
noncomputable abbrev St:=List (Option V)
noncomputable abbrev VK:=V->Hp->Prop
noncomputable abbrev TE:=St->Hp->VK->Prop
noncomputable abbrev TT:=St->Hp->(Bool->Hp->Prop)->Prop
noncomputable abbrev TA:=St->Hp->(List V->Hp->Prop)->Prop
structure Ends where
 nx:St->Hp->Prop
 rt:VK
 bk:St->Hp->Prop:=fun _ _=>False
 ct:St->Hp->Prop:=fun _ _=>False
noncomputable abbrev TS:=Ends->St->Hp->Prop
noncomputable def EP(X:Cx)(pins:List (Addr×Obj))(σ:St)(Q:VK)(u:Value)(s':Shared):Prop:=∃v H',Inv X pins σ H' s'/\RelV v u/\Q v H'
noncomputable def TP(X:Cx)(pins:List (Addr×Obj))(σ:St)(Q:Bool->Hp->Prop)(b:Bool)(s':Shared):Prop:=∃H',Inv X pins σ H' s'/\Q b H'
noncomputable def AP(X:Cx)(pins:List (Addr×Obj))(σ:St)(Q:List V->Hp->Prop)(us:List Value)(s':Shared):Prop:=∃vs H',Inv X pins σ H' s'/\Vals vs us/\Q vs H'
noncomputable def SP(X:Cx)(pins:List (Addr×Obj))(D:Ends)(f:Flow)(s':Shared):Prop:=
 match f with
 | .next=>∃σ' H',Inv X pins σ' H' s'/\D.nx σ' H'
 | .brk=>∃σ' H',Inv X pins σ' H' s'/\D.bk σ' H'
 | .cont=>∃σ' H',Inv X pins σ' H' s'/\D.ct σ' H'
 | .ret u=>∃v σ' H',Inv X pins σ' H' s'/\RelV v u/\D.rt v H'
noncomputable def PE(X:Cx)(e:Expr)(t:TE):Prop:=
 ∀(pins:List (Addr×Obj))(s:Shared)(σ:St)(H:Hp)(Q:VK),Inv X pins σ H s->t σ H Q->wpAny (model X.prog X.w) X.A (eval e X.env) (EP X pins σ Q) X.xe s
noncomputable def PT(X:Cx)(e:Expr)(t:TT):Prop:=
 ∀(pins:List (Addr×Obj))(s:Shared)(σ:St)(H:Hp)(Q:Bool->Hp->Prop),Inv X pins σ H s->t σ H Q->wpAny (model X.prog X.w) X.A (isTrue e X.env (eval e X.env)) (TP X pins σ Q) X.xe s
noncomputable def PW(X:Cx)(e:Expr)(t:TT):Prop:=
 ∀(whole:Sem Value)(pins:List (Addr×Obj))(s:Shared)(σ:St)(H:Hp)(Q:Bool->Hp->Prop),Inv X pins σ H s->t σ H Q->wpAny (model X.prog X.w) X.A (isTrue e X.env whole) (TP X pins σ Q) X.xe s
theorem PW.pt{X:Cx}{e:Expr}{t:TT}(h:PW X e t):PT X e t:=h _
noncomputable def PA(X:Cx)(es:List Expr)(t:TA):Prop:=
 ∀(pos:Pos)(pins:List (Addr×Obj))(s:Shared)(σ:St)(H:Hp)(Q:List V->Hp->Prop),Inv X pins σ H s->t σ H Q->wpAny (model X.prog X.w) X.A (spliced (backTo pos (starEach es X.env))) (AP X pins σ Q) X.xe s
noncomputable def PS(X:Cx)(st:Stmt)(t:TS):Prop:=
 ∀(pins:List (Addr×Obj))(s:Shared)(σ:St)(H:Hp)(D:Ends),Inv X pins σ H s->t D σ H->wpAny (model X.prog X.w) X.A (exec st X.env) (SP X pins D) X.xe s
noncomputable def PSs(X:Cx)(st:List Stmt)(t:TS):Prop:=
 ∀(pins:List (Addr×Obj))(s:Shared)(σ:St)(H:Hp)(D:Ends),Inv X pins σ H s->t D σ H->wpAny (model X.prog X.w) X.A (execs st X.env) (SP X pins D) X.xe s
theorem thn{α:Type}{t:Sem α}{Q Q':α->Shared->Prop}{M:Model}{A:Around}{E:Value->Shared->Prop}{s:Shared}(h:wpAny M A t Q E s)(hQ:∀a s,Q a s->Q' a s):wpAny M A t Q' E s:=x0e h hQ fun _ _ x=>x
section
variable {X:Cx}
noncomputable def tVar(i:Nat):TE:=fun σ H Q=>∃v,σ[i]? =some (some v)/\Q v H
noncomputable def tC(v:V):TE:=fun _ H Q=>Q v H
theorem zns{i:Nat}{x:Str}{pos:Pos}(hN:X.N[i]? =some x)(hv:Vis X.env.scope x)(hd:(x==("__debug__":Str))=false:=by decide)(hcd:(x==("__classdict__":Str))=false:=by decide):PE X (.Name x pos) (tVar i):=by
 intro pins s σ H Q I h
 obtain⟨v,e,h⟩:=h
 obtain⟨m,hn,hl⟩:=I.loc
 obtain⟨u,r,l⟩:=hl i x v hN e hv
 have fin:EP X pins σ Q u s:=⟨v,H,I,r,h⟩
 rcases l with⟨hk,hm⟩|⟨hk,c,hc,hcell⟩
 .exact wpAny_Name (wpAny_loadName_local I.ok.kind hk hn hm fin) hd
 .rcases hk with hk|hk
  .exact wpAny_Name (wpAny_loadName_cell I.ok.kind hk hc hcell fin) hd
  .exact wpAny_Name (wpAny_loadName_free I.ok.kind hk hc hcell fin hcd) hd
theorem zd{i j pos}:PE X (.Constant (.int i) j pos) (tC (.int i)):=fun _ _ _ H _ I h=>wpAny_Constant_int ⟨.int i,H,I.tok _,⟨_,rfl⟩,h⟩
theorem z3h{b j pos}:PE X (.Constant (.bool b) j pos) (tC (.bl b)):=fun _ _ _ H _ I h=>Constant_bool ⟨.bl b,H,I,rfl,h⟩
theorem zj1{j pos}:PE X (.Constant .none j pos) (tC .non):=fun _ _ _ H _ I h=>Constant_none ⟨.non,H,I,rfl,h⟩
theorem z1a{x j pos}:PE X (.Constant (.str x) j pos) (tC (.str x)):=fun _ _ _ H _ I h=>Calls.Constant_str ⟨.str x,H,I.tok _,⟨_,rfl⟩,h⟩
noncomputable def Gl(X:Cx)(x:Str):Prop:=X.env.kindOf x=some .globalImplicit
theorem z8q{E:Value->Shared->Prop}{pins:List (Addr×Obj)}{s:Shared}{σ:St}{H:Hp}{x:Str}{u:Value}{pos:Pos}{Q:Value->Shared->Prop}(I:Inv X pins σ H s)(hg:Gl X x)(hm:X.mg x=some u)(h:Q u s)
  (hd:(x==("__debug__":Str))=false:=by decide):wpAny (model X.prog X.w) X.A (eval (.Name x pos) X.env) Q E s:=
 Calls.Name_function_global I.ok.kind hg (Calls.loadGlobal_global (by rw[I.ok.glob];exact I.mod.glob.keeps I.bk) hm h) hd
theorem z57{E:Value->Shared->Prop}{pins:List (Addr×Obj)}{s:Shared}{σ:St}{H:Hp}{x:Str}{u:Value}{pos:Pos}{Q:Value->Shared->Prop}(I:Inv X pins σ H s)(hg:Gl X x)(hm:X.mg x=none)(hv:bootBuiltins x=some u)(h:Q u s)
  (hn:x≠ "__name__":=by decide) (hd:(x==("__debug__":Str))=false:=by decide):wpAny (model X.prog X.w) X.A (eval (.Name x pos) X.env) Q E s:=by
 obtain⟨mb,h1,h2⟩:=I.mod.blt
 exact Calls.Name_function_global I.ok.kind hg (Calls.loadGlobal_builtin (by rw[I.ok.glob];exact I.mod.glob.keeps I.bk) hm (by rw[I.ok.blt];exact h1.keeps I.bk) ((h2 x hn).trans hv) h) hd
theorem z3i{x:Str}{v:V}{u:Value}{pos:Pos}(hg:Gl X x)(hm:X.mg x=some u)(r:RelV v u)(hd:(x==("__debug__":Str))=false:=by decide):PE X (.Name x pos) (tC v):=
 fun _ _ _ H _ I h=>z8q I hg hm ⟨v,H,I,r,h⟩ hd
theorem z1e{x:Str}{v:V}{u:Value}{pos:Pos}(hg:Gl X x)(hm:X.mg x=none)(hv:bootBuiltins x=some u)(r:RelV v u)(hn:x≠ "__name__":=by decide)(hd:(x==("__debug__":Str))=false:=by decide):PE X (.Name x pos) (tC v):=
 fun _ _ _ H _ I h=>z57 I hg hm hv ⟨v,H,I,r,h⟩ hn hd
variable {a b:Expr}{ta tb:TE}{pos:Pos}
noncomputable def PC(X:Cx)(op:CmpOp)(a b:Expr)(t:TE):Prop:=
 ∀(pins:List (Addr×Obj))(s:Shared)(σ:St)(H:Hp)(Q:VK),Inv X pins σ H s->t σ H Q->
  wpAny (model X.prog X.w) X.A (eval a X.env) (fun v s₁=>wpAny (model X.prog X.w) X.A (eval b X.env) (fun u s₂=>wpAny (model X.prog X.w) X.A (compareOp op v u) (EP X pins σ Q) X.xe s₂) X.xe s₁) X.xe s
theorem z4n(b:Expr){op:CmpOp}(h:op≠.In)(h2:op≠.NotIn):behindInMarks op b=false:=by
 have e1:(op==CmpOp.In)=false:=by cases op<;>first|rfl|exact absurd rfl h
 have e2:(op==CmpOp.NotIn)=false:=by cases op<;>first|rfl|exact absurd rfl h2
 cases b<;>simp[behindInMarks,e1,e2]
noncomputable def zhl(ta:TE):TE:=fun σ H Q=>ta σ H fun x H1=>Q (.bl (!decide (x=.non))) H1
theorem RelV.none_iff{x:V}{v:Value}(r:RelV x v):(v==Value.none)=decide (x=.non):=by
 cases x with
 |non=>cases r;rfl
 |bl _=>cases r;rfl
 |int _=>obtain⟨t,rfl⟩:=r;rfl
 |str _=>obtain⟨t,rfl⟩:=r;rfl
 |byt _=>obtain⟨t,rfl⟩:=r;rfl
 |flt _=>obtain⟨t,rfl⟩:=r;rfl
 |ref _=>cases r;rfl
 |ty _=>cases r;rfl
theorem zgx{j pos'}(ha:PE X a ta):PC X .IsNot a (.Constant .none j pos') (zhl ta):=by
 intro pins s σ H Q I h
 refine thn (ha pins s σ H _ I h) fun v s1 ⟨x,H1,I1,r1,q1⟩=>?_
 exact Constant_none (isnot_none_gen ⟨.bl _,H1,I1,by rw[r1.none_iff];rfl,q1⟩)
noncomputable def tB(t:TE):TT:=fun σ H Q=>t σ H fun x H1=>∃c,x=.bl c/\Q c H1
theorem z7p{op:CmpOp}{t:TE}(h:PC X op a b t)(h1:behindInMarks op b=false:=by first|exact z4n _ (by decide) (by decide)|rfl):PT X (.Compare a [op] [b] pos) (tB t):=by
 intro pins s σ H Q I hw
 refine wpAny_isTrue_Compare1 (thn (h pins s σ H _ I hw) fun v s1 h1=>thn h1 fun u s2 h2=>thn h2 fun c s3 ⟨x,H1,I1,r1,q1⟩=>?_) h1
 obtain⟨d,rfl,q⟩:=q1
 cases r1
 exact x1a ⟨H1,I1,q⟩
theorem z21{e:Expr}{t:TE}(h:PE X e t)(he:∀whole,isTrue e X.env whole=(do let v<-whole;standAt e.pos;holding [v] (truthy v)):=by intro _;rfl):PT X e (tB t):=by
 intro pins s σ H Q I hw
 refine isTrue_plain (thn (h pins s σ H _ I hw) fun v s1 ⟨x,H1,I1,r1,q1⟩=>?_) (he _)
 obtain⟨d,rfl,q⟩:=q1
 cases r1
 exact x1a ⟨H1,I1,q⟩
variable {tA tB':TT}{rest:List Expr}
noncomputable def tAnd(t u:TT):TT:=fun σ H Q=>t σ H fun c H1=>if c=true then u σ H1 Q else Q false H1
noncomputable def tOr(t u:TT):TT:=fun σ H Q=>t σ H fun c H1=>if c=true then Q true H1 else u σ H1 Q
noncomputable def tNot(t:TT):TT:=fun σ H Q=>t σ H fun c H1=>Q (!c) H1
theorem z3j(ha:PT X a tA):PW X (.BoolOp .And [a] pos) tA:=by
 intro wh pins s σ H Q I h
 refine isTrue_and (thn (ha pins s σ H Q I h) fun c s1 e=>?_)
 cases c with
 |true=>exact isTrue_and_nil e
 |false=>exact e
theorem zeb(ha:PT X a tA):PW X (.BoolOp .Or [a] pos) tA:=by
 intro wh pins s σ H Q I h
 refine isTrue_or (thn (ha pins s σ H Q I h) fun c s1 e=>?_)
 cases c with
 |false=>exact isTrue_or_nil e
 |true=>exact e
theorem z3r(ha:PT X a tA)(hb:PW X (.BoolOp .And (b::rest) pos) tB'):PW X (.BoolOp .And (a::b::rest) pos) (tAnd tA tB'):=by
 intro wh pins s σ H Q I h
 refine isTrue_and (thn (ha pins s σ H _ I h) fun c s1 ⟨H1,I1,q1⟩=>?_)
 cases c with
 |true=>exact hb wh pins s1 σ H1 Q I1 q1
 |false=>exact⟨H1,I1,q1⟩
theorem zhm(ha:PT X a tA)(hb:PW X (.BoolOp .Or (b::rest) pos) tB'):PW X (.BoolOp .Or (a::b::rest) pos) (tOr tA tB'):=by
 intro wh pins s σ H Q I h
 refine isTrue_or (thn (ha pins s σ H _ I h) fun c s1 ⟨H1,I1,q1⟩=>?_)
 cases c with
 |true=>exact⟨H1,I1,q1⟩
 |false=>exact hb wh pins s1 σ H1 Q I1 q1
theorem z4b(ha:PT X a tA):PT X (.UnaryOp .Not a pos) (tNot tA):=by
 intro pins s σ H Q I h
 exact isTrue_not (ha pins s σ H (fun c H1=>Q (!c) H1) I h)
noncomputable def zhn(ta tb:TE):TE:=fun σ H Q=>ta σ H fun x H1=>∃c,x=.bl c/\if c=true then tb σ H1 Q else Q (.bl false) H1
noncomputable def tOrV(ta tb:TE):TE:=fun σ H Q=>ta σ H fun x H1=>∃c,x=.bl c/\if c=true then Q (.bl true) H1 else tb σ H1 Q
noncomputable def zho(ta:TE):TE:=fun σ H Q=>ta σ H fun x H1=>∃c,x=.bl c/\Q (.bl (!c)) H1
theorem z2q{op}{t:TE}(h:PE X a t):PE X (.BoolOp op [a] pos) t:=fun pins s σ H Q I hw=>BoolOp_one (h pins s σ H Q I hw)
theorem z2z(ha:PE X a ta)(hb:PE X (.BoolOp .And (b::rest) pos) tb):PE X (.BoolOp .And (a::b::rest) pos) (zhn ta tb):=by
 intro pins s σ H Q I h
 refine BoolOp_and (thn (ha pins s σ H _ I h) fun v s1 ⟨x,H1,I1,r1,q1⟩=>?_)
 obtain⟨c,rfl,q1⟩:=q1
 cases r1
 refine x1a ?_
 cases c with
 |true=>exact hb pins s1 σ H1 Q I1 q1
 |false=>exact⟨.bl false,H1,I1,rfl,q1⟩
theorem zos(ha:PE X a ta)(hb:PE X (.BoolOp .Or (b::rest) pos) tb):PE X (.BoolOp .Or (a::b::rest) pos) (tOrV ta tb):=by
 intro pins s σ H Q I h
 refine BoolOp_or (thn (ha pins s σ H _ I h) fun v s1 ⟨x,H1,I1,r1,q1⟩=>?_)
 obtain⟨c,rfl,q1⟩:=q1
 cases r1
 refine x1a ?_
 cases c with
 |false=>exact hb pins s1 σ H1 Q I1 q1
 |true=>exact⟨.bl true,H1,I1,rfl,q1⟩
theorem znt(ha:PE X a ta):PE X (.UnaryOp .Not a pos) (zho ta):=by
 intro pins s σ H Q I h
 refine UnaryOp_ (thn (ha pins s σ H _ I h) fun v s1 ⟨x,H1,I1,r1,q1⟩=>?_)
 obtain⟨c,rfl,q1⟩:=q1
 cases r1
 exact not_of (x1a ⟨.bl (!c),H1,I1,rfl,q1⟩)
end
end L2
namespace L2
open PySem PySem.Spec PyProof.Rows
noncomputable def SqL(K:PySem.W.Frag)(H:Hp)(a:Addr)(xs:List V):Prop:=
 Rd H a (.lst xs)\/
  ∃(o:Obj) (its:Array Value) (n:Nat),K.lookup a=some o/\o.cls=.type "list"/\o.dict=none/\o.data=.seq its n/\its.size<=sizeLine/\Vals xs its.toList
noncomputable def SqT(K:PySem.W.Frag)(H:Hp)(a:Addr)(xs:List V):Prop:=
 Rd H a (.tup xs)\/
  ∃(o:Obj) (its:Array Value) (n:Nat),K.lookup a=some o/\o.cls=.type "tuple"/\o.data=.seq its n/\its.size<=sizeLine/\Vals xs its.toList
noncomputable def absV:Value->Option V
 | .none=>some .non
 | .bool b=>some (.bl b)
 | .int i _=>some (.int i)
 | .str x _=>some (.str x)
 | .bytes b _=>some (.byt b)
 | .float b _=>some (.flt b)
 | .ref a=>some (.ref a)
 | .type n=>some (.ty n)
 |_=>none
theorem RelV.abs{x:V}{u:Value}(r:RelV x u):absV u=some x:=by
 cases x with
 |non=>cases r;rfl
 |bl _=>cases r;rfl
 |int _=>obtain⟨t,rfl⟩:=r;rfl
 |str _=>obtain⟨t,rfl⟩:=r;rfl
 |byt _=>obtain⟨t,rfl⟩:=r;rfl
 |flt _=>obtain⟨t,rfl⟩:=r;rfl
 |ref _=>cases r;rfl
 |ty _=>cases r;rfl
theorem RelV.inj{x y:V}{u:Value}(r:RelV x u)(q:RelV y u):x=y:=xq (r.abs.symm.trans q.abs)
theorem Vals.inj:∀{xs ys:List V}{us:List Value},Vals xs us->Vals ys us->xs=ys
 |_,_,_,.nil,.nil=>rfl
 |_,_,_,.cons r t,.cons r' t'=>by rw[r.inj r',Vals.inj t t']
section
variable {X:Cx}{pins:List (Addr×Obj)}{σ:St}{H:Hp}{s:Shared}{a:Addr}{xs ys:List V}
theorem SqL.of{K:PySem.W.Frag}(h:H a=some (.lst xs)):SqL K H a xs:=.inl (.inl h)
theorem SqT.of{K:PySem.W.Frag}(h:H a=some (.tup xs)):SqT K H a xs:=.inl (.inl h)
theorem Inv.list(I:Inv X pins σ H s)(h:SqL X.K H a xs):∃its:List Value,Vals xs its/\PlainL s.heap a its.toArray/\xs.length<=sizeLine:=by
 rcases h with h|⟨o,its,n,hk,hc,hd,hs,hz,r⟩
 .obtain⟨z,its,n,r,e⟩:=h.ok I.hok
  exact⟨its,r,⟨_,n,e,rfl,rfl,rfl⟩,z⟩
 .refine⟨its.toList,r,⟨o,n,I.kIn a o hk,hc,hd,by simpa using hs⟩,?_⟩
  have e:=r.length
  simp only[x0f]at e
  omega
theorem Inv.tuple(I:Inv X pins σ H s)(h:SqT X.K H a xs):∃its:List Value,Vals xs its/\IsTup s.heap a its.toArray/\xs.length<=sizeLine:=by
 rcases h with h|⟨o,its,n,hk,hc,hs,hz,r⟩
 .obtain⟨z,its,r,p⟩:=h.ok I.hok
  exact⟨its,r,p,z⟩
 .refine⟨its.toList,r,⟨o,I.kIn a o hk,hc,n,by simpa using hs⟩,?_⟩
  have e:=r.length
  simp only[x0f]at e
  omega
theorem Inv.list_inj(I:Inv X pins σ H s)(h:SqL X.K H a xs)(h':SqL X.K H a ys):xs=ys:=by
 obtain⟨its,r,⟨o,n,e,_,_,d⟩,_⟩:=I.list h
 obtain⟨its',r',⟨o',n',e',_,_,d'⟩,_⟩:=I.list h'
 rw[e]at e';cases e'
 rw[d]at d'
 injection d' with d1 _
 have:its=its':=by simpa using x12 Array.toList d1
 subst this
 exact r.inj r'
end
noncomputable abbrev Cx.wish(X:Cx)(E:Value->Shared->Prop):Cx:={ X with xe:=E }
noncomputable abbrev Cx.nox(X:Cx):Cx:=X.wish fun _ _=>False
theorem Cx.Ok.wish{X:Cx}(ok:X.Ok)(E:Value->Shared->Prop):(X.wish E).Ok:=
 ⟨ok.mod,ok.kind,ok.glob,ok.blt,ok.above,ok.inj,ok.has,ok.cab,ok.hd,ok.frames,ok.stk,ok.exf,ok.bs,ok.bsz,ok.noex,ok.exfs,ok.funs,ok.frf⟩
theorem Cx.Ok.unwish{X:Cx}{E:Value->Shared->Prop}(ok:(X.wish E).Ok):X.Ok:=
 ⟨ok.mod,ok.kind,ok.glob,ok.blt,ok.above,ok.inj,ok.has,ok.cab,ok.hd,ok.frames,ok.stk,ok.exf,ok.bs,ok.bsz,ok.noex,ok.exfs,ok.funs,ok.frf⟩
section
variable {X:Cx}{pins:List (Addr×Obj)}{σ:St}{H:Hp}{s:Shared}{E:Value->Shared->Prop}
theorem Inv.wish(I:Inv X pins σ H s)(E:Value->Shared->Prop):Inv (X.wish E) pins σ H s:=⟨I.ok.wish E,I.os,I.bare,I.base,I.loc,I.cell,I.free,I.freeC,I.pin,I.hok,I.len⟩
theorem Inv.unwish(I:Inv (X.wish E) pins σ H s):Inv X pins σ H s:=⟨I.ok.unwish,I.os,I.bare,I.base,I.loc,I.cell,I.free,I.freeC,I.pin,I.hok,I.len⟩
theorem SP.unwish{D:Ends}{f:Flow}{s':Shared}(h:SP (X.wish E) pins D f s'):SP X pins D f s':=by
 cases f with
 |next=>obtain⟨σ',H',I,q⟩:=h;exact⟨σ',H',I.unwish,q⟩
 |brk=>obtain⟨σ',H',I,q⟩:=h;exact⟨σ',H',I.unwish,q⟩
 |cont=>obtain⟨σ',H',I,q⟩:=h;exact⟨σ',H',I.unwish,q⟩
 |ret u=>obtain⟨v,σ',H',I,r,q⟩:=h;exact⟨v,σ',H',I.unwish,r,q⟩
theorem PSs.nox{st:List Stmt}{t:TS}(h:PSs X.nox st t):PSs X st t:=fun pins s σ H D I hw=>
 x0e (h pins s σ H D (I.wish _) hw) (fun _ _ q=>q.unwish) fun _ _ z=>False.elim z
end
section
variable {X:Cx}{st:Stmt}{rest:List Stmt}{t u:TS}{e:Expr}{te:TE}{pos:Pos}
noncomputable def zhp:TS:=fun D σ H=>D.nx σ H
noncomputable def tSeq(t u:TS):TS:=fun D σ H=>t { D with nx:=u D } σ H
theorem zv:PSs X [] zhp:=fun _ _ σ H _ I h=>wpAny_execs_nil ⟨σ,H,I,h⟩
theorem zb(h1:PS X st t)(h2:PSs X rest u):PSs X (st::rest) (tSeq t u):=by
 intro pins s σ H D I h
 refine wpAny_execs_cons (thn (h1 pins s σ H { D with nx:=u D } I h) fun f s1 q=>?_)
 cases f with
 |next=>
  obtain⟨σ',H',I',q⟩:=q
  exact h2 pins s1 σ' H' D I' q
 |ret v=>exact q
 |brk=>exact q
 |cont=>exact q
theorem ze(h1:PS X st t):PSs X [st] t:=by
 intro pins s σ H D I h
 refine wpAny_execs_cons (thn (h1 pins s σ H D I h) fun f s1 q=>?_)
 cases f with
 |next=>exact wpAny_execs_nil q
 |ret v=>exact q
 |brk=>exact q
 |cont=>exact q
theorem Inv.quiet{pins:List (Addr×Obj)}{σ:St}{H:Hp}{s:Shared}(I:Inv X pins σ H s):interactive X.env=false:=by simp[interactive,I.ok.kind]
noncomputable def zhq(te:TE):TS:=fun D σ H=>te σ H fun _ H1=>D.nx σ H1
theorem z1c(he:PE X e te)(hs:swapsWith e none pos.line X.env=pure false:=by rfl):PS X (.Expr e pos) (zhq te):=by
 intro pins s σ H D I h
 exact wpAny_Expr_any (thn (he pins s σ H _ I h) fun v s1 ⟨x,H1,I1,r1,q1⟩=>⟨σ,H1,I1,q1⟩) I.quiet hs
noncomputable def tRet(te:TE):TS:=fun D σ H=>te σ H D.rt
theorem zm(he:PE X e te):PS X (.Return (some e) pos) (tRet te):=by
 intro pins s σ H D I h
 exact wpAny_Return_some (thn (he pins s σ H _ I h) fun v s1 ⟨x,H1,I1,r1,q1⟩=>⟨x,σ,H1,I1,r1,q1⟩)
noncomputable def tIfS(c:TT)(t u:TS):TS:=fun D σ H=>c σ H fun b H1=>if b=true then t D σ H1 else u D σ H1
theorem z15{c:Expr}{a b:List Stmt}{tc:TT}(hc:PT X c tc)(ha:PSs X a t)(hb:PSs X b u):PS X (.If c a b pos) (tIfS tc t u):=by
 intro pins s σ H D I h
 refine wpAny_If (thn (hc pins s σ H _ I h) fun d s1 ⟨H1,I1,q1⟩=>?_)
 cases d with
 |true=>exact ha pins s1 σ H1 D I1 q1
 |false=>exact hb pins s1 σ H1 D I1 q1
noncomputable def zec:TS:=fun _ _ _=>False
theorem z23:PS X st zec:=fun _ _ _ _ _ _ h=>h.elim
end
noncomputable abbrev TG:=V->St->Hp->(St->Hp->Prop)->Prop
noncomputable abbrev TGs:=List V->St->Hp->(St->Hp->Prop)->Prop
noncomputable def PG(X:Cx)(target:Expr)(t:TG):Prop:=
 ∀(pins:List (Addr×Obj))(s:Shared)(σ:St)(H:Hp)(v:V)(u:Value)(Q:St->Hp->Prop),Inv X pins σ H s->RelV v u->t v σ H Q->
  wpAny (model X.prog X.w) X.A (assign target X.env u) (fun _ s'=>∃σ' H',Inv X pins σ' H' s'/\Q σ' H') X.xe s
noncomputable def PGs(X:Cx)(ts:List Expr)(t:TGs):Prop:=
 ∀(pins:List (Addr×Obj))(s:Shared)(σ:St)(H:Hp)(vs:List V)(us:List Value)(Q:St->Hp->Prop),Inv X pins σ H s->Vals vs us->t vs σ H Q->
  wpAny (model X.prog X.w) X.A (assignInOrder ((assignEach ts X.env).map (·.2)) us) (fun _ s'=>∃σ' H',Inv X pins σ' H' s'/\Q σ' H') X.xe s
section
variable {X:Cx}{pos:Pos}
noncomputable def zah(i:Nat):TG:=fun v σ H Q=>Q (σ.set i (some v)) H
theorem z1d{i:Nat}{x:Str}(hN:X.N.Nodup)(hi:X.N[i]? =some x)(hx:Loc X.env.scope x)(hf:X.fn x=true\/X.env.scope.names.lookup x=some .local:=by first|exact .inl rfl|exact .inr rfl|assumption):PG X (.Name x pos) (zah i):=by
 intro pins s σ H v u Q I r h
 exact wpAny_assign_Name (z9j I hN hi hx r (fun s' I'=>⟨_,H,I',h⟩) hf)
noncomputable def gNil:TGs:=fun vs σ H Q=>vs=[]/\Q σ H
noncomputable def zhr(t:TG)(u:TGs):TGs:=fun vs σ H Q=>∃v r,vs=v::r/\t v σ H fun σ' H'=>u r σ' H' Q
theorem z5i:PGs X [] gNil:=by
 intro pins s σ H vs us Q I r h
 obtain⟨e,h⟩:=h
 subst e
 cases r
 exact assignInOrder_nil ⟨σ,H,I,h⟩
theorem z2a{e:Expr}{es:List Expr}{t:TG}{u:TGs}(h1:PG X e t)(h2:PGs X es u)
  (hs:(assignEach (e::es) X.env).map (·.2)=assign e X.env::(assignEach es X.env).map (·.2):=by rfl):PGs X (e::es) (zhr t u):=by
 intro pins s σ H vs us Q I r h
 obtain⟨v,vr,e1,h⟩:=h
 subst e1
 cases r with
 |cons r rr=>
  rw[hs]
  refine assignInOrder_cons (thn (h1 pins s σ H _ _ _ I r h) fun _ s1 ⟨σ1,H1,I1,q1⟩=>?_)
  exact h2 pins s1 σ1 H1 _ _ Q I1 rr q1
noncomputable def gTup(K:PySem.W.Frag)(n:Nat)(t:TGs):TG:=fun v σ H Q=>∃a xs,v=.ref a/\SqT K H a xs/\xs.length=n/\t xs σ H Q
theorem zai{es:List Expr}{k:Nat}{t:TGs}{n:Nat}(hc:X.calm=true)(h:PGs X es t)
  (hn:(assignEach es X.env).length=n:=by rfl) (hst:(assignEach es X.env).findIdx? (·.1)=none:=by rfl):PG X (.Tuple es k pos) (gTup X.K n t):=by
 intro pins s σ H v u Q I r hw
 obtain⟨a,xs,e1,hq,hl,hw⟩:=hw
 subst e1
 cases r
 obtain⟨its,rv,ht,hz⟩:=I.tuple hq
 refine assign_Tuple_tuple (I.ok.hd hc) ht (by simp[hn,<-hl,rv.length]) hst fun h' hx=>?_
 have I1:Inv X pins σ H { s with heap:=h' }:=I.kept (t':=s.toks) fun b o e=>hx b o (xu (xn e)) e
 exact h pins _ σ H xs _ Q I1 (by simpa using rv) hw
noncomputable def tAsg(te:TE)(g:TG):TS:=fun D σ H=>te σ H fun x H1=>g x σ H1 D.nx
theorem zr{i:Nat}{x:Str}{e:Expr}{te:TE}{pos':Pos}(hN:X.N.Nodup)(hi:X.N[i]? =some x)(hx:Loc X.env.scope x)(he:PE X e te)(hs:swapsWith e (some (.Name x pos')) pos.line X.env=pure false:=by rfl)(hf:X.fn x=true\/X.env.scope.names.lookup x=some .local:=by first|exact .inl rfl|exact .inr rfl|assumption):
  PS X (.Assign [.Name x pos'] e pos) (tAsg te (zah i)):=by
 intro pins s σ H D I h
 refine wpAny_Assign_Name (thn (he pins s σ H _ I h) fun v s1 ⟨y,H1,I1,r1,q1⟩=>?_) hs
 exact z9j I1 hN hi hx r1 (fun s2 I2=>⟨_,H1,I2,q1⟩) hf
end
section
variable {X:Cx}{pos:Pos}
noncomputable def znu(c:TT)(tb:TS):TS:=fun D σ H=>∃W:Nat->St->Hp->Prop,(∃m,W m σ H)/\∀m σ H,W m σ H->
 c σ H fun b H1=>if b=true then∃N:St->Hp->Prop,(∀σ' H',N σ' H'->∃m',m'<m/\W m' σ' H')/\tb { D with nx:=N,ct:=N,bk:=D.nx } σ H1 else D.nx σ H1
theorem z9k{c:Expr}{body:List Stmt}{tc:TT}{tb:TS}(hp:PassesOwn (model X.prog X.w) X.A X.env X.xe)(hc:PT X c tc)(hb:PSs X body tb):PS X (.While c body [] pos) (znu tc tb):=by
 intro pins s σ H D I h
 obtain⟨W,⟨m0,w0⟩,turn⟩:=h
 refine wpAny_While (codeAny_whileLoop (fun n s'=>∃σ' H',Inv X pins σ' H' s'/\W n σ' H') ?_ m0 ⟨σ,H,I,w0⟩)
 rintro n s1 ⟨σ1,H1,I1,w1⟩
 refine x30 hp (thn (hc pins s1 σ1 H1 _ I1 (turn n σ1 H1 w1)) fun b s2 ⟨H2,I2,q2⟩=>?_)
 cases b with
 |true=>
  obtain⟨N,hN,q2⟩:=q2
  rw[if_pos rfl]
  refine x30 hp (thn (hb pins s2 σ1 H2 _ I2 q2) fun f s3 q3=>?_)
  cases f with
  |next=>
   obtain⟨σ3,H3,I3,n3⟩:=q3
   obtain⟨m',hm,w3⟩:=hN σ3 H3 n3
   exact⟨m',hm,σ3,H3,I3,w3⟩
  |cont=>
   obtain⟨σ3,H3,I3,n3⟩:=q3
   obtain⟨m',hm,w3⟩:=hN σ3 H3 n3
   exact⟨m',hm,σ3,H3,I3,w3⟩
  |brk=>exact q3
  |ret v=>exact q3
 |false=>
  rw[if_neg xm]
  exact wpAny_execs_nil ⟨σ1,H2,I2,q2⟩
end
structure It where
 go:Nat->Hp->Prop
 yld:Nat->Hp->V->Hp->Prop
 stop:Nat->Hp->Prop
noncomputable def FpOk(X:Cx)(pins:List (Addr×Obj))(H:Hp)(b:Addr):Prop:=
 H b=none/\b≠X.env.locals/\b∉X.fs/\(b∈X.ex\/X.s₀.heap.objs.size<=b)/\(∀x c,X.env.cells.lookup x=some c->c≠b)/\∀p∈X.pn++pins,p.1≠b
theorem Inv.fpOk{X:Cx}{pins:List (Addr×Obj)}{σ:St}{H H':Hp}{s:Shared}{b:Addr}(I:Inv X pins σ H s)(hb:s.heap.objs.size<=b)(hn:H' b=none):FpOk X pins H' b:=by
 refine⟨hn,x17 (x00 I.lt hb),I.nofs hb,.inr (x01 I.sz hb),fun x c e z=>?_,fun p hp z=>?_⟩
 .obtain⟨v,q⟩:=I.cell x c e
  exact absurd (x00 q.lt (by rw[z];exact hb)) (x0o _)
 .exact absurd (x00 (xn (I.pin p hp).1) (by rw[z];exact hb)) (x0o _)
structure Turn(P:Program)(w:World)(K:PySem.W.Frag)(tg:Expr)(J:It)(fp:List Addr)(it:Addr)(tn:Nat->Heap->Prop):Prop where
 mem:it∈fp
 obj:∀i h,tn i h->∀b∈fp,∃o,h.get? b=some o/\∀v,o.data≠.cell v
 keep:∀i h h',tn i h->(∀b∈fp,∀o,h.get? b=some o->h'.get? b=some o)->tn i h'
 item:∀(X:Cx),X.prog=P->X.w=w->X.K=K->X.calm=true->∀(i:Nat)(pins:List (Addr×Obj))(s:Shared)(σ:St)(H:Hp)(E:Value->Shared->Prop),Inv X pins σ H s->(∀b∈fp,FpOk X pins H b)->tn i s.heap->J.go i H->
  wpAny (model P w) X.A (pyNext (.ref it)) (fun r s1=>∃u,r=some u/\
   wpAny (model P w) X.A (letOwnedTupleGo tg (.ref it) u) (fun _ s2=>∃x H',Inv X pins σ H' s2/\RelV x u/\J.yld i H x H'/\tn (i+1) s2.heap/\∀b∈fp,H' b=none) E s1) E s
 done:∀(X:Cx),X.prog=P->X.w=w->X.K=K->X.calm=true->∀(i:Nat)(pins:List (Addr×Obj))(s:Shared)(σ:St)(H:Hp)(E:Value->Shared->Prop),Inv X pins σ H s->(∀b∈fp,FpOk X pins H b)->tn i s.heap->J.stop i H->
  wpAny (model P w) X.A (pyNext (.ref it)) (fun r s1=>r=none/\Inv X pins σ H s1) E s
 self:∀(A:Around)(i:Nat)(s:Shared)(Q:Value->Shared->Prop)(E:Value->Shared->Prop),tn i s.heap->Q (.ref it) s->wpAny (model P w) A (pyIter (.ref it)) Q E s
noncomputable abbrev TI:=St->Hp->(It->Hp->Prop)->Prop
noncomputable def PIE(X:Cx)(pins:List (Addr×Obj))(σ:St)(tg:Expr)(R:It->Hp->Prop)(itv:Value)(s2:Shared):Prop:=
 ∃(it:Addr)(fp:List Addr)(tn:Nat->Heap->Prop)(J:It)(H':Hp),itv=.ref it/\Inv X pins σ H' s2/\Turn X.prog X.w X.K tg J fp it tn/\tn 0 s2.heap/\(∀b∈fp,FpOk X pins H' b)/\R J H'
noncomputable def PI(X:Cx)(tg iter:Expr)(wi:TI):Prop:=
 ∀(pins:List (Addr×Obj))(s:Shared)(σ:St)(H:Hp)(R:It->Hp->Prop),Inv X pins σ H s->wi σ H R->
  wpAny (model X.prog X.w) X.A (eval iter X.env) (fun v s1=>wpAny (model X.prog X.w) X.A (pyIter v) (PIE X pins σ tg R) X.xe s1) X.xe s
theorem zaj{M:Model}{A:Around}{E:Value->Shared->Prop}{s:Shared}{tg:Expr}{it:Addr}{u:Value}{o:Obj}{n:String}{vs:Array Value}{Q:Unit->Shared->Prop}(ho:s.heap.get? it=some o)(hc:o.cls=.type n)(hd:o.data=.fields vs)
    (hn:["enumerate","zip","dict_itemiterator","dict_reverseitemiterator","odict_iterator","itertools.zip_longest","itertools.pairwise"].contains n=false) (hQ:Q () s):wpAny M A (letOwnedTupleGo tg (.ref it) u) Q E s:=by
  unfold letOwnedTupleGo
  cases tg<;>first
    |exact xh hQ
    |(cases u<;>first
        |exact xh hQ
        | (refine x6 (wpAny_load ho ?_)
           rw[hc,hd]
           show wpAny M A (if(["enumerate","zip","dict_itemiterator","dict_reverseitemiterator","odict_iterator","itertools.zip_longest","itertools.pairwise"].contains n&&vs[0]? ==some (rawInt _))=true then _ else _) Q E s
           rw[if_neg (by intro h;rw[hn,x2j]at h;cases h)]
           exact xh hQ))
noncomputable def Itl(K:PySem.W.Frag)(a:Addr):It:=
 ⟨fun i H=>∃xs x,SqL K H a xs/\xs[i]? =some x,fun i H x H'=>H'=H/\∀xs,SqL K H a xs->xs[i]? =some x,fun i H=>∃xs,SqL K H a xs/\xs.length<=i⟩
noncomputable def Itr(lo:Int)(n:Nat):It:=⟨fun i _=>i<n,fun i H x H'=>H'=H/\x=.int (lo+i),fun i _=>n<=i⟩
theorem zj2{P:Program}{w:World}{K:PySem.W.Frag}{tg:Expr}(a it:Addr):Turn P w K tg (Itl K a) [it] it (fun i h=>h.IsListIter it a i) where
 mem:=by simp
 obj:=fun i h st b hb=>by
  have e:b=it:=by simpa using hb
  subst e
  obtain⟨o,e,c,d⟩:=st
  exact⟨o,e,fun v z=>by rw[d]at z;cases z⟩
 keep:=fun i h h' st k=>st.at fun o e=>k it (by simp) o e
 item:=by
  intro X hP hw hK hc i pins s σ H E I hf st hg
  subst hP hw hK
  obtain⟨xs,x,hq,hx⟩:=hg
  obtain⟨its,rv,p,hz⟩:=I.list hq
  obtain⟨u,hu,ru⟩:=rv.get hx
  obtain⟨f0,f1,f2,f3,f4,f5⟩:=hf it (by simp)
  refine wpAny_pyNext_list_item st p.isList (x:=u) (by simpa using hu) fun h' st' sb=>?_
  have I1:Inv X pins σ H { s with heap:=h' }:=I.turned (t':=s.toks) (fun b o hb e=>(sb.2 b hb).trans e) f0 f1 f3 f4 f5
  obtain⟨o,e,c,d⟩:=id st'
  exact⟨u,rfl,zaj (s:={ s with heap:=h' }) e c d (by decide) ⟨x,H,I1,ru,⟨rfl,fun ys hy=>by rw[I.list_inj hy hq];exact hx⟩,st',fun b hb=>(hf b hb).1⟩⟩
 done:=by
  intro X hP hw hK hc i pins s σ H E I hf st hg
  subst hP hw hK
  obtain⟨xs,hq,hx⟩:=hg
  obtain⟨its,rv,p,hz⟩:=I.list hq
  obtain⟨f0,f1,f2,f3,f4,f5⟩:=hf it (by simp)
  have hl:=rv.length
  exact wpAny_pyNext_list_end (I.ok.hd hc) st p.isList (by simp;omega) fun h' eb=>⟨rfl,I.turned (t':=s.toks) (fun b o hb e=>eb b o hb e) f0 f1 f3 f4 f5⟩
 self:=fun _ _ _ _ _ st h=>wpAny_pyIter_listiter st h
theorem zht{P:Program}{w:World}{K:PySem.W.Frag}{tg:Expr}(it:Addr)(lo:Int)(n:Nat):Turn P w K tg (Itr lo n) [it] it (fun i h=>IsRangeIter h it (lo+(i:Nat)*1) ((n:Int)-(i:Nat)) 1) where
 mem:=by simp
 obj:=fun i h st b hb=>by
  have e:b=it:=by simpa using hb
  subst e
  exact⟨_,st,fun v z=>by
   have z':Data.fields _=Data.cell v:=z
   cases z'⟩
 keep:=fun i h h' st k=>k it (by simp) _ st
 item:=by
  intro X hP hw hK hc i pins s σ H E I hf st hg
  subst hP hw hK
  obtain⟨f0,f1,f2,f3,f4,f5⟩:=hf it (by simp)
  have W:=Walks.range (prog:=X.prog) (w:=X.w) (I.ok.hd hc) it lo 1 n
  refine W.item i s _ _ hg st fun v h' tk hv st' kk=>?_
  obtain⟨t,rfl⟩:=hv
  have I1:Inv X pins σ H { s with heap:=h',toks:=tk }:=I.turned (fun b o hb e=>kk b o (by simpa using hb) e) f0 f1 f3 f4 f5
  refine⟨_,rfl,zaj (s:={ s with heap:=h',toks:=tk }) (n:="range_iterator") st' rfl rfl (by decide) ⟨.int (lo+i),H,I1,⟨t,?_⟩,⟨rfl,rfl⟩,st',fun b hb=>(hf b hb).1⟩⟩
  rw[Int.mul_one]
 done:=by
  intro X hP hw hK hc i pins s σ H E I hf st hg
  subst hP hw hK
  obtain⟨f0,f1,f2,f3,f4,f5⟩:=hf it (by simp)
  exact wpAny_pyNext_range_end (I.ok.hd hc) st (by have:n<=i:=hg;omega) fun h' eb=>⟨rfl,I.turned (t':=s.toks) (fun b o hb e=>eb b o hb e) f0 f1 f3 f4 f5⟩
 self:=fun _ _ _ _ _ st h=>wpAny_pyIter_rangeiter st h
section
variable {X:Cx}{tg:Expr}
noncomputable def zdz(K:PySem.W.Frag)(tl:TE):TI:=fun σ H R=>tl σ H fun x H1=>∃a,x=.ref a/\(∃xs,SqL K H1 a xs)/\R (Itl K a) H1
theorem zy{l:Expr}{tl:TE}(hl:PE X l tl):PI X tg l (zdz X.K tl):=by
 intro pins s σ H R I h
 refine thn (hl pins s σ H _ I h) fun v s1 ⟨x,H1,I1,r1,q1⟩=>?_
 obtain⟨a,e,⟨xs,hq⟩,q⟩:=q1
 subst e
 cases r1
 obtain⟨its,rv,p,hz⟩:=I1.list hq
 refine x27 p.isList ?_
 refine⟨s1.heap.objs.size,[s1.heap.objs.size],_,_,H1,rfl,I1.kept (t':=s1.toks) fun b o e=>x9 _ e,zj2 a _,⟨_,xr _ rfl,rfl,rfl⟩,fun b hb=>?_,q⟩
 have e:b=s1.heap.objs.size:=by simpa using hb
 subst e
 exact I1.fpOk (xi _) (I1.hok.fresh (xi _))
theorem zl8{pins:List (Addr×Obj)}{σ:St}{H:Hp}{s:Shared}{R:It->Hp->Prop}{E:Value->Shared->Prop}{lo hi:Int}{t u v:Tok}{tk:Nat}(I:Inv X pins σ H s)(h1:-(2 ^ 62)<=lo)(h2:lo<2 ^ 62)(h3:-(2 ^ 62)<=hi)(h4:hi<2 ^ 62)
  (q:R (Itr lo (hi-lo).toNat) H):wpAny (model X.prog X.w) X.A (pyIter (.ref s.heap.objs.size)) (PIE X pins σ tg R) E { s with heap:=s.heap.push { cls:=.type "range",data:=.fields #[.int lo t,.int hi u,.int 1 v] },toks:=tk }:=by
 refine wpAny_pyIter_range (IsRange.new ..) (small_one h1 h2 h3 h4) ?_
 have I1:Inv X pins σ H { s with heap:=s.heap.push { cls:=.type "range",data:=.fields #[.int lo t,.int hi u,.int 1 v] },toks:=tk }:=I.kept fun b o e=>x9 _ e
 refine⟨(s.heap.push { cls:=.type "range",data:=.fields #[.int lo t,.int hi u,.int 1 v] }).objs.size,[(s.heap.push { cls:=.type "range",data:=.fields #[.int lo t,.int hi u,.int 1 v] }).objs.size],_,_,H,rfl,
  I1.kept (t':=tk) fun b o e=>x9 _ e,zht _ lo (hi-lo).toNat,?_,fun b hb=>?_,q⟩
 .have e1:lo+((0:Nat):Int)*1=lo:=by simp
  have e2:(((hi-lo).toNat:Nat):Int)-((0:Nat):Int)=Builtin.Range.rangeSize lo hi 1:=by rw[rangeSize_one];split<;>omega
  show IsRangeIter _ _ (lo+((0:Nat):Int)*1) ((((hi-lo).toNat:Nat):Int)-((0:Nat):Int)) 1
  rw[e1,e2]
  exact xr _ rfl
 .have e:b=(s.heap.push { cls:=.type "range",data:=.fields #[.int lo t,.int hi u,.int 1 v] }).objs.size:=by simpa using hb
  subst e
  exact I1.fpOk (xi _) (I1.hok.fresh (xi _))
noncomputable def zhu(ta:TA):TI:=fun σ H R=>ta σ H fun vs H1=>∃j:Int,vs=[.int j]/\ -(2 ^ 62)<=j/\j<2 ^ 62/\R (Itr 0 j.toNat) H1
theorem z2l{a:Expr}{ta:TA}{p pos:Pos}(hg:Gl X "range")(hm:X.mg "range"=none)(ha:PA X [a] ta)(hs:starEach [a] X.env=[(false,eval a X.env)]:=by rfl):PI X tg (.Call (.Name "range" p) [a] [] pos) (zhu ta):=by
 intro pins s σ H R I h
 refine Call_ (z57 I hg hm boot_range (PyProof.Rows.callWith_type1 (thn (ha pos pins s σ H _ I h) fun us s1 ⟨vs,H1,I1,r1,q1⟩=>?_) hs rfl))
 obtain⟨j,e,q1,q2,q⟩:=q1
 subst e
 cases r1 with
 |cons r rr=>
  cases rr
  obtain⟨t,rfl⟩:=r
  exact call_range_1 (zl8 I1 (by omega) (by omega) q1 q2 (by simpa using q))
noncomputable def tFor(wi:TI)(g:TG)(tb:TS):TS:=fun D σ H=>wi σ H fun J H1=>∃W:Nat->Nat->St->Hp->Prop,(∃m,W 0 m σ H1)/\∀i m σ H,W i m σ H->
 (J.stop i H/\D.nx σ H)\/(J.go i H/\∃N:St->Hp->Prop,(∀σ' H',N σ' H'->∃m',m'<m/\W (i+1) m' σ' H')/\∀x H',J.yld i H x H'->g x σ H' fun σ2 H2=>tb { D with nx:=N,ct:=N,bk:=D.nx } σ2 H2)
noncomputable def z5m(fp:List Addr)(h:Heap):List (Addr×Obj):=fp.filterMap fun b=>(h.get? b).map fun o=>(b,o)
theorem z3k{fp:List Addr}{h:Heap}{b:Addr}{o:Obj}(hb:b∈fp)(e:h.get? b=some o):(b,o)∈z5m fp h:=List.mem_filterMap.mpr ⟨b,hb,by rw[e];rfl⟩
theorem zj3{fp:List Addr}{h:Heap}{p:Addr×Obj}(hp:p∈z5m fp h):p.1∈fp/\h.get? p.1=some p.2:=by
 obtain⟨b,hb,e⟩:=List.mem_filterMap.mp hp
 cases q:h.get? b with
 |none=>rw[q]at e;cases e
 |some o=>
  rw[q]at e
  have e':(b,o)=p:=xq e
  subst e'
  exact⟨hb,q⟩
theorem Inv.pinned{pins:List (Addr×Obj)}{σ:St}{H:Hp}{s:Shared}{fp:List Addr}(I:Inv X pins σ H s)(hf:∀b∈fp,FpOk X pins H b)(ho:∀b∈fp,∃o,s.heap.get? b=some o/\∀v,o.data≠.cell v):Inv X (pins++z5m fp s.heap) σ H s:=
 I.pins_of fun p hp=>(x02.mp hp).elim (fun z=>I.pin p (x03 _ z)) fun z=>by
  obtain⟨hb,e⟩:=zj3 z
  obtain⟨f0,f1,f2,_⟩:=hf p.1 hb
  obtain⟨o,e',d⟩:=ho p.1 hb
  rw[e]at e';cases e'
  exact⟨e,f0,f1,f2,d⟩
theorem Inv.unpinned{pins pl:List (Addr×Obj)}{σ:St}{H:Hp}{s:Shared}(I:Inv X (pins++pl) σ H s):Inv X pins σ H s:=I.pins_of fun p hp=>I.pin p (x03 _ (x0p _ hp))
theorem z2f{iter:Expr}{body:List Stmt}{wi:TI}{g:TG}{tb:TS}{pos:Pos}(hp:PassesOwn (model X.prog X.w) X.A X.env X.xe)(hc:X.calm=true)(hi:PI X tg iter wi)(hg:PG X tg g)(hb:PSs X body tb)
  (hs:∀x,foldedSetIterable iter X.env x=pure x:=by intro _;rfl):PS X (.For tg iter body [] pos) (tFor wi g tb):=by
 intro pins s σ H D I h
 refine wpAny_For (thn (hi pins s σ H _ I h) fun v s1 h1=>thn h1 fun itv s2 h2=>?_) hs
 obtain⟨it,fp,tn,J,H2,e,I2,T,st2,f2,W,⟨m0,w0⟩,turn⟩:=h2
 subst e
 have stat:∀{H':Hp},(∀b∈fp,H' b=none)->∀b∈fp,FpOk X pins H' b:=fun hn b hb=>⟨hn b hb,(f2 b hb).2⟩
 refine codeAny_forLoop_any (fun n s'=>∃i σ' H',Inv X pins σ' H' s'/\tn i s'.heap/\(∀b∈fp,H' b=none)/\W i n σ' H') ?_ m0 ⟨0,σ,H2,I2,st2,fun b hb=>(f2 b hb).1,w0⟩
 rintro n s3 ⟨i,σ3,H3,I3,st3,fr3,w3⟩
 rcases turn i n σ3 H3 w3 with⟨stop,qn⟩|⟨go,N,hN,step⟩
 .refine x30 hp (thn (T.done X rfl rfl rfl hc i pins s3 σ3 H3 X.xe I3 (stat fr3) st3 stop) fun r s4 ⟨hr,I4⟩=>?_)
  subst hr
  exact wpAny_execs_nil ⟨σ3,H3,I4,qn⟩
 .refine x30 hp (thn (T.item X rfl rfl rfl hc i pins s3 σ3 H3 X.xe I3 (stat fr3) st3 go) fun r s4 ⟨u,hr,h4⟩=>?_)
  subst hr
  refine x30 hp (thn h4 fun _ s5 ⟨x,H5,I5,r5,y5,st5,fr5⟩=>?_)
  have I5':=I5.pinned (stat fr5) (T.obj _ _ st5)
  refine x30 hp (thn (hg _ s5 σ3 H5 x u _ I5' r5 (step x H5 y5)) fun _ s6 ⟨σ6,H6,I6,q6⟩=>?_)
  refine x30 hp (thn (hb _ s6 σ6 H6 _ I6 q6) fun f s7 q7=>?_)
  have again:∀{σ7:St}{H7:Hp},Inv X (pins++z5m fp s5.heap) σ7 H7 s7->N σ7 H7->∃m,m<n/\∃i σ' H',Inv X pins σ' H' s7/\tn i s7.heap/\(∀b∈fp,H' b=none)/\W i m σ' H':=fun{σ7 H7} I7 n7=>by
   obtain⟨m',hm,w7⟩:=hN σ7 H7 n7
   refine⟨m',hm,i+1,σ7,H7,I7.unpinned,T.keep _ _ _ st5 fun b hb o e=>(I7.pin (b,o) (x03 _ (x03 _ (z3k hb e)))).1,fun b hb=>?_,w7⟩
   obtain⟨o,e,d⟩:=T.obj _ _ st5 b hb
   exact(I7.pin (b,o) (x03 _ (x03 _ (z3k hb e)))).2.1
  cases f with
  |next=>obtain⟨σ7,H7,I7,n7⟩:=q7;exact again I7 n7
  |cont=>obtain⟨σ7,H7,I7,n7⟩:=q7;exact again I7 n7
  |brk=>obtain⟨σ7,H7,I7,q7⟩:=q7;exact⟨σ7,H7,I7.unpinned,q7⟩
  |ret v=>obtain⟨x7,σ7,H7,I7,r7,q7⟩:=q7;exact⟨x7,σ7,H7,I7.unpinned,r7,q7⟩
end
theorem zl9{K:PySem.W.Frag}{a:Addr}{xs:List V}{g:TG}{tb:TS}{D:Ends}{σ:St}{H:Hp}(Pv:Nat->St->Hp->Prop)(h0:Pv 0 σ H)(hl:∀i σ H,i<=xs.length->Pv i σ H->SqL K H a xs)
  (hs:∀i x σ H,xs[i]? =some x->Pv i σ H->g x σ H fun σ2 H2=>tb { D with nx:=Pv (i+1),ct:=Pv (i+1),bk:=D.nx } σ2 H2) (hd:∀σ H,Pv xs.length σ H->D.nx σ H):
  ∃W:Nat->Nat->St->Hp->Prop,(∃m,W 0 m σ H)/\∀i m σ H,W i m σ H->
   ((Itl K a).stop i H/\D.nx σ H)\/((Itl K a).go i H/\∃N:St->Hp->Prop,(∀σ' H',N σ' H'->∃m',m'<m/\W (i+1) m' σ' H')/\∀x H',(Itl K a).yld i H x H'->g x σ H' fun σ2 H2=>tb { D with nx:=N,ct:=N,bk:=D.nx } σ2 H2):=by
 refine⟨fun i m σ H=>m=xs.length-i/\i<=xs.length/\Pv i σ H,⟨xs.length,by simp,x08 _,h0⟩,?_⟩
 rintro i m σ H ⟨rfl,hi,p⟩
 have q:=hl i σ H hi p
 by_cases hlt:i<xs.length
 .refine .inr ⟨⟨xs,xs[i],q,by simp[hlt]⟩,Pv (i+1),fun σ' H' p'=>⟨xs.length-(i+1),by omega,rfl,hlt,p'⟩,fun x H' y=>?_⟩
  obtain⟨e,y⟩:=y
  subst e
  exact hs i x σ _ (y xs q) p
 .have e:i=xs.length:=by omega
  subst e
  exact .inl ⟨⟨xs,q,xi _⟩,hd σ H p⟩
theorem zj4{lo:Int}{n:Nat}{g:TG}{tb:TS}{D:Ends}{σ:St}{H:Hp}(Pv:Nat->St->Hp->Prop)(h0:Pv 0 σ H)
  (hs:∀i σ H,i<n->Pv i σ H->g (.int (lo+i)) σ H fun σ2 H2=>tb { D with nx:=Pv (i+1),ct:=Pv (i+1),bk:=D.nx } σ2 H2) (hd:∀σ H,Pv n σ H->D.nx σ H):
  ∃W:Nat->Nat->St->Hp->Prop,(∃m,W 0 m σ H)/\∀i m σ H,W i m σ H->
   ((Itr lo n).stop i H/\D.nx σ H)\/((Itr lo n).go i H/\∃N:St->Hp->Prop,(∀σ' H',N σ' H'->∃m',m'<m/\W (i+1) m' σ' H')/\∀x H',(Itr lo n).yld i H x H'->g x σ H' fun σ2 H2=>tb { D with nx:=N,ct:=N,bk:=D.nx } σ2 H2):=by
 refine⟨fun i m σ H=>m=n-i/\i<=n/\Pv i σ H,⟨n,by simp,x08 _,h0⟩,?_⟩
 rintro i m σ H ⟨rfl,hi,p⟩
 by_cases hlt:i<n
 .refine .inr ⟨hlt,Pv (i+1),fun σ' H' p'=>⟨n-(i+1),by omega,rfl,hlt,p'⟩,fun x H' y=>?_⟩
  obtain⟨e,y⟩:=y
  subst e y
  exact hs i σ _ hlt p
 .have e:i=n:=by omega
  subst e
  exact .inl ⟨xi _,hd σ H p⟩
noncomputable abbrev R2:=V->V->Hp->VK->Prop
noncomputable def OpR(X:Cx)(f:Value->Value->Sem Value)(r:R2):Prop:=
 ∀(pins:List (Addr×Obj))(s:Shared)(σ:St)(H:Hp)(x y:V)(v u:Value)(Q:VK),Inv X pins σ H s->RelV x v->RelV y u->r x y H Q->
  wpAny (model X.prog X.w) X.A (f v u) (EP X pins σ Q) X.xe s
noncomputable def UnR(X:Cx)(f:Value->Sem Value)(r:V->Hp->VK->Prop):Prop:=
 ∀(pins:List (Addr×Obj))(s:Shared)(σ:St)(H:Hp)(x:V)(v:Value)(Q:VK),Inv X pins σ H s->RelV x v->r x H Q->
  wpAny (model X.prog X.w) X.A (f v) (EP X pins σ Q) X.xe s
noncomputable def CallR(X:Cx)(f:Value)(r:List V->Hp->VK->Prop):Prop:=
 ∀(pins:List (Addr×Obj))(s:Shared)(σ:St)(H:Hp)(xs:List V)(us:List Value)(Q:VK),Inv X pins σ H s->Vals xs us->r xs H Q->
  wpAny (model X.prog X.w) X.A (call f us) (EP X pins σ Q) X.xe s
noncomputable def tOp(r:R2)(ta tb:TE):TE:=fun σ H Q=>ta σ H fun x H1=>tb σ H1 fun y H2=>r x y H2 Q
noncomputable def tUn(r:V->Hp->VK->Prop)(ta:TE):TE:=fun σ H Q=>ta σ H fun x H1=>r x H1 Q
noncomputable def rI(C:Int->Int->Prop)(g:Int->Int->V):R2:=fun x y H Q=>∃i j,x=.int i/\y=.int j/\C i j/\Q (g i j) H
noncomputable def rI0(g:Int->Int->V):R2:=fun x y H Q=>∃i j,x=.int i/\y=.int j/\Q (g i j) H
noncomputable def rU(g:Int->V):V->Hp->VK->Prop:=fun x H Q=>∃i,x=.int i/\Q (g i) H
section
variable {X:Cx}{a b c:Expr}{ta tb tc:TE}{pos:Pos}
theorem binT(ha:PE X a ta)(hb:PE X b tb){pins:List (Addr×Obj)}{s:Shared}{σ:St}{H:Hp}{R:V->V->Hp->Prop}(I:Inv X pins σ H s)
  (h:ta σ H fun x H1=>tb σ H1 fun y H2=>R x y H2) {Q:Value->Shared->Prop} {f:Value->Value->Sem Value}
  (hf:∀v u s2 x y H2,Inv X pins σ H2 s2->RelV x v->RelV y u->R x y H2->wpAny (model X.prog X.w) X.A (f v u) Q X.xe s2):
  wpAny (model X.prog X.w) X.A (eval a X.env) (fun v s₁=>wpAny (model X.prog X.w) X.A (eval b X.env) (fun u s₂=>wpAny (model X.prog X.w) X.A (f v u) Q X.xe s₂) X.xe s₁) X.xe s:=by
 refine thn (ha pins s σ H _ I h) fun v s1 ⟨x,H1,I1,r1,q1⟩=>?_
 refine thn (hb pins s1 σ H1 _ I1 q1) fun u s2 ⟨y,H2,I2,r2,q2⟩=>?_
 exact hf v u s2 x y H2 I2 r1 r2 q2
theorem zp{op:Operator}{r:R2}(ho:OpR X (binaryOp op) r)(ha:PE X a ta)(hb:PE X b tb):PE X (.BinOp a op b pos) (tOp r ta tb):=by
 intro pins s σ H Q I h
 exact wpAny_BinOp (binT ha hb I h fun v u s2 x y H2 I2 rx ry q=>ho pins s2 σ H2 x y v u Q I2 rx ry q)
theorem zot{op:UnaryOp}{r:V->Hp->VK->Prop}(ho:UnR X (unaryOp op) r)(ha:PE X a ta):PE X (.UnaryOp op a pos) (tUn r ta):=by
 intro pins s σ H Q I h
 exact UnaryOp_ (thn (ha pins s σ H _ I h) fun v s1 ⟨x,H1,I1,r1,q1⟩=>ho pins s1 σ H1 x v Q I1 r1 q1)
theorem opI{f:Value->Value->Sem Value}{C:Int->Int->Prop}{g:Int->Int->Int}
  (rule:∀(i j:Int)(t u:Tok)(s:Shared)(Q:Value->Shared->Prop)(E:Value->Shared->Prop),C i j->Q (.int (g i j) s.toks) { s with toks:=s.toks+1 }->wpAny (model X.prog X.w) X.A (f (.int i t) (.int j u)) Q E s):
  OpR X f (rI C fun i j=>.int (g i j)):=by
 intro pins s σ H x y v u Q I rx ry h
 obtain⟨i,j,rfl,rfl,hc,q⟩:=h
 obtain⟨t,rfl⟩:=rx
 obtain⟨t',rfl⟩:=ry
 exact rule i j t t' s _ _ hc ⟨.int (g i j),H,I.tok _,⟨_,rfl⟩,q⟩
theorem opI0{f:Value->Value->Sem Value}{g:Int->Int->Int}
  (rule:∀(i j:Int)(t u:Tok)(s:Shared)(Q:Value->Shared->Prop)(E:Value->Shared->Prop),Q (.int (g i j) s.toks) { s with toks:=s.toks+1 }->wpAny (model X.prog X.w) X.A (f (.int i t) (.int j u)) Q E s):
  OpR X f (rI0 fun i j=>.int (g i j)):=by
 intro pins s σ H x y v u Q I rx ry h
 obtain⟨i,j,rfl,rfl,q⟩:=h
 obtain⟨t,rfl⟩:=rx
 obtain⟨t',rfl⟩:=ry
 exact rule i j t t' s _ _ ⟨.int (g i j),H,I.tok _,⟨_,rfl⟩,q⟩
theorem opB0{f:Value->Value->Sem Value}{g:Int->Int->Bool}
  (rule:∀(i j:Int)(t u:Tok)(s:Shared)(Q:Value->Shared->Prop)(E:Value->Shared->Prop),Q (.bool (g i j)) s->wpAny (model X.prog X.w) X.A (f (.int i t) (.int j u)) Q E s):
  OpR X f (rI0 fun i j=>.bl (g i j)):=by
 intro pins s σ H x y v u Q I rx ry h
 obtain⟨i,j,rfl,rfl,q⟩:=h
 obtain⟨t,rfl⟩:=rx
 obtain⟨t',rfl⟩:=ry
 exact rule i j t t' s _ _ ⟨.bl (g i j),H,I,rfl,q⟩
noncomputable def CDiv(i j:Int):Prop:=0<j/\j<1073741824
noncomputable def CMul(i j:Int):Prop:=(-(2 ^ 64)<i/\i<2 ^ 64)\/(-(2 ^ 64)<j/\j<2 ^ 64)
theorem CMul.ok{i j:Int}(h:CMul i j):IntMulOk i j:=by
 rcases h with⟨h1,h2⟩|⟨h1,h2⟩
 .exact .of_left (intBits_le_64 h1 h2)
 .exact .of_right (intBits_le_64 h1 h2)
theorem z1m:OpR X (binaryOp .Add) (rI0 fun i j=>.int (i+j)):=opI0 fun _ _ _ _ _ _ _ q=>add_int q
theorem zj5:OpR X (binaryOp .Sub) (rI0 fun i j=>.int (i-j)):=opI0 fun _ _ _ _ _ _ _ q=>sub_int q
theorem zak:OpR X (binaryOp .Mult) (rI CMul fun i j=>.int (i*j)):=opI fun _ _ _ _ _ _ _ hc q=>mul_int q hc.ok
theorem z47:OpR X (binaryOp .FloorDiv) (rI CDiv fun i j=>.int (i/j)):=opI fun i j _ _ _ _ _ hc q=>by
 have h1:(0:Int)<j:=hc.1
 have h2:j<1073741824:=hc.2
 exact floordiv_int (by omega) (by rw[Int.fdiv_eq_ediv_of_nonneg i (by omega)];exact q) (.inl (PyProof.noPylong_small (by omega)))
theorem z2c:OpR X (binaryOp .Mod) (rI (fun _ j=>0<j) fun i j=>.int (i%j)):=opI fun i j _ _ _ _ _ hc q=>by
 have h1:(0:Int)<j:=hc
 exact mod_int' (by omega) (by rw[Int.fmod_eq_emod_of_nonneg i (by omega)];exact q)
theorem unI{f:Value->Sem Value}{g:Int->Int}
  (rule:∀(i:Int)(t:Tok)(s:Shared)(Q:Value->Shared->Prop)(E:Value->Shared->Prop),Q (.int (g i) s.toks) { s with toks:=s.toks+1 }->wpAny (model X.prog X.w) X.A (f (.int i t)) Q E s):
  UnR X f (rU fun i=>.int (g i)):=by
 intro pins s σ H x v Q I rx h
 obtain⟨i,rfl,q⟩:=h
 obtain⟨t,rfl⟩:=rx
 exact rule i t s _ _ ⟨.int (g i),H,I.tok _,⟨_,rfl⟩,q⟩
theorem znv:UnR X (unaryOp .USub) (rU fun i=>.int (-i)):=unI fun _ _ _ _ _ q=>neg_int q
end
noncomputable def scal:V->V->Bool
 | .non,.non=>true| .non,.int _=>true| .int _,.non=>true| .non,.bl _=>true| .bl _,.non=>true| .non,.str _=>true| .str _,.non=>true
 | .int _,.int _=>true| .bl _,.bl _=>true| .str _,.str _=>true| .byt _,.byt _=>true
 | .int _,.str _=>true| .str _,.int _=>true| .bl _,.str _=>true| .str _,.bl _=>true
 |_,_=>false
noncomputable def rEq:R2:=fun x y H Q=>scal x y=true/\Q (.bl (decide (x=y))) H
noncomputable def rNe:R2:=fun x y H Q=>scal x y=true/\Q (.bl (!decide (x=y))) H
theorem zgy{i j:Int}:decide (V.int i=V.int j)=(i==j):=by
 rw[x2d]
 simp
theorem zj6{i j:Bool}:decide (V.bl i=V.bl j)=(i==j):=by
 rw[x2d]
 simp
theorem zgz{i j:Str}:decide (V.str i=V.str j)=(i==j):=by
 rw[x2d]
 simp
theorem zh0{i j:Array UInt8}:decide (V.byt i=V.byt j)=(i.toList==j.toList):=by
 rw[x2d]
 cases i
 cases j
 simp
section
variable {X:Cx}{a b c:Expr}{ta tb tc:TE}{pos:Pos}
theorem z13{pins:List (Addr×Obj)}{σ:St}{H:Hp}{s:Shared}{Q:VK}{k k':Bool}(I:Inv X pins σ H s)(q:Q (.bl k) H)(e:k=k'):EP X pins σ Q (.bool k') s:=by
 subst e
 exact⟨.bl k,H,I,rfl,q⟩
theorem z29:OpR X (compareOp .Eq) rEq:=by
 intro pins s σ H x y v u Q I rx ry h
 obtain⟨hs,q⟩:=h
 cases x with
 |non=>
  cases rx
  cases y with
  |non=>cases ry;exact PySem.EqNone.eq_none_none (z13 I q (by simp))
  |bl j=>cases ry;exact PySem.EqNone.eq_none_bool (z13 I q (by simp))
  |int j=>obtain⟨t',rfl⟩:=ry;exact PySem.EqNone.eq_none_int (z13 I q (by simp))
  |str j=>obtain⟨t',rfl⟩:=ry;exact PySem.EqNone.eq_none_str (z13 I q (by simp))
  |_=>exact absurd (show false=true from hs) xm
 |bl i=>
  cases rx
  cases y with
  |non=>cases ry;exact PySem.EqNone.eq_bool_none (z13 I q (by simp))
  |bl j=>cases ry;exact eq_bool (z13 I q zj6)
  |str j=>obtain⟨t',rfl⟩:=ry;exact PySem.EqMixed.eq_bool_str (z13 I q (by simp))
  |_=>exact absurd (show false=true from hs) xm
 |int i=>
  obtain⟨t,rfl⟩:=rx
  cases y with
  |non=>cases ry;exact PySem.EqNone.eq_int_none (z13 I q (by simp))
  |int j=>obtain⟨t',rfl⟩:=ry;exact eq_int (z13 I q zgy)
  |str j=>obtain⟨t',rfl⟩:=ry;exact PySem.EqMixed.eq_int_str (z13 I q (by simp))
  |_=>exact absurd (show false=true from hs) xm
 |str i=>
  obtain⟨t,rfl⟩:=rx
  cases y with
  |non=>cases ry;exact PySem.EqNone.eq_str_none (z13 I q (by simp))
  |bl j=>cases ry;exact PySem.EqMixed.eq_str_bool (z13 I q (by simp))
  |int j=>obtain⟨t',rfl⟩:=ry;exact PySem.EqMixed.eq_str_int (z13 I q (by simp))
  |str j=>obtain⟨t',rfl⟩:=ry;exact eq_str (z13 I q zgz)
  |_=>exact absurd (show false=true from hs) xm
 |byt i=>
  obtain⟨t,rfl⟩:=rx
  cases y with
  |byt j=>obtain⟨t',rfl⟩:=ry;exact PySem.W.eq_bytes (z13 I q zh0)
  |_=>exact absurd (show false=true from hs) xm
 |_=>cases y<;>exact absurd (show false=true from hs) xm
theorem z50:OpR X (compareOp .NotEq) rNe:=by
 intro pins s σ H x y v u Q I rx ry h
 obtain⟨hs,q⟩:=h
 cases x with
 |non=>
  cases rx
  cases y with
  |non=>cases ry;exact PySem.EqNone.ne_none_none (z13 I q (by simp))
  |bl j=>cases ry;exact PySem.EqNone.ne_none_bool (z13 I q (by simp))
  |int j=>obtain⟨t',rfl⟩:=ry;exact PySem.EqNone.ne_none_int (z13 I q (by simp))
  |str j=>obtain⟨t',rfl⟩:=ry;exact PySem.EqNone.ne_none_str (z13 I q (by simp))
  |_=>exact absurd (show false=true from hs) xm
 |bl i=>
  cases rx
  cases y with
  |non=>cases ry;exact PySem.EqNone.ne_bool_none (z13 I q (by simp))
  |bl j=>cases ry;exact ne_bool (z13 I q (x12 not zj6))
  |str j=>obtain⟨t',rfl⟩:=ry;exact PySem.EqMixed.ne_bool_str (z13 I q (by simp))
  |_=>exact absurd (show false=true from hs) xm
 |int i=>
  obtain⟨t,rfl⟩:=rx
  cases y with
  |non=>cases ry;exact PySem.EqNone.ne_int_none (z13 I q (by simp))
  |int j=>obtain⟨t',rfl⟩:=ry;exact ne_int (z13 I q (x12 not zgy))
  |str j=>obtain⟨t',rfl⟩:=ry;exact PySem.EqMixed.ne_int_str (z13 I q (by simp))
  |_=>exact absurd (show false=true from hs) xm
 |str i=>
  obtain⟨t,rfl⟩:=rx
  cases y with
  |non=>cases ry;exact PySem.EqNone.ne_str_none (z13 I q (by simp))
  |bl j=>cases ry;exact PySem.EqMixed.ne_str_bool (z13 I q (by simp))
  |int j=>obtain⟨t',rfl⟩:=ry;exact PySem.EqMixed.ne_str_int (z13 I q (by simp))
  |str j=>obtain⟨t',rfl⟩:=ry;exact ne_str (z13 I q (x12 not zgz))
  |_=>exact absurd (show false=true from hs) xm
 |byt i=>
  obtain⟨t,rfl⟩:=rx
  cases y with
  |byt j=>obtain⟨t',rfl⟩:=ry;exact PySem.W.ne_bytes (z13 I q (x12 not zh0))
  |_=>exact absurd (show false=true from hs) xm
 |_=>cases y<;>exact absurd (show false=true from hs) xm
theorem zal:OpR X (compareOp .Lt) (rI0 fun i j=>.bl (decide (i<j))):=opB0 fun _ _ _ _ _ _ _ q=>lt_int q
theorem z36:OpR X (compareOp .LtE) (rI0 fun i j=>.bl (decide (i<=j))):=opB0 fun _ _ _ _ _ _ _ q=>le_int q
theorem zhv:OpR X (compareOp .Gt) (rI0 fun i j=>.bl (decide (j<i))):=opB0 fun _ _ _ _ _ _ _ q=>gt_int q
theorem zml:OpR X (compareOp .GtE) (rI0 fun i j=>.bl (decide (j<=i))):=opB0 fun _ _ _ _ _ _ _ q=>ge_int q
theorem zj7:OpR X (compareOp .In) (fun x y H Q=>∃i j,x=.str i/\y=.str j/\Q (.bl (!(Builtin.Str.occurrences j i 0 j.length 1).isEmpty)) H):=by
 intro pins s σ H x y v u Q I rx ry h
 obtain⟨i,j,rfl,rfl,q⟩:=h
 obtain⟨t,rfl⟩:=rx
 obtain⟨t',rfl⟩:=ry
 exact in_str (z13 I q rfl)
theorem zu(b:Expr){op:CmpOp}(h:op≠.In:=by decide)(h2:op≠.NotIn:=by decide):behindInMarks op b=false:=by
 have e1:(op==CmpOp.In)=false:=by cases op<;>first|rfl|exact absurd rfl h
 have e2:(op==CmpOp.NotIn)=false:=by cases op<;>first|rfl|exact absurd rfl h2
 cases b<;>simp[behindInMarks,e1,e2]
theorem z2d{op:CmpOp}{r:R2}(ho:OpR X (compareOp op) r)(ha:PE X a ta)(hb:PE X b tb)(hm:behindInMarks op b=false):PE X (.Compare a [op] [b] pos) (tOp r ta tb):=by
 intro pins s σ H Q I h
 exact wpAny_Compare1 (binT ha hb I h fun v u s2 x y H2 I2 rx ry q=>ho pins s2 σ H2 x y v u Q I2 rx ry q) hm
noncomputable def ze0(t:TE):TT:=fun σ H Q=>t σ H fun x H'=>∃k,x=.bl k/\Q k H'
theorem zq{op:CmpOp}{r:R2}(ho:OpR X (compareOp op) r)(ha:PE X a ta)(hb:PE X b tb)(hm:behindInMarks op b=false):PT X (.Compare a [op] [b] pos) (ze0 (tOp r ta tb)):=by
 intro pins s σ H Q I h
 refine wpAny_isTrue_Compare1 (thn (ha pins s σ H _ I h) fun v s1 ⟨x,H1,I1,r1,q1⟩=>thn (hb pins s1 σ H1 _ I1 q1) fun u s2 ⟨y,H2,I2,r2,q2⟩=>
  thn (ho pins s2 σ H2 x y v u _ I2 r1 r2 q2) fun c s3 ⟨z,H3,I3,r3,k,e,q3⟩=>?_) hm
 subst e
 cases r3
 exact x1a ⟨H3,I3,q3⟩
noncomputable def zam(r r':R2)(ta tb tc:TE):TE:=fun σ H Q=>ta σ H fun x H1=>tb σ H1 fun y H2=>r x y H2 fun z H3=>∃k,z=.bl k/\
 (if k=true then tc σ H3 fun w' H4=>r' y w' H4 Q else Q (.bl false) H3)
theorem z9l{op op':CmpOp}{r r':R2}(ho:OpR X (compareOp op) r)(ho':OpR X (compareOp op') r')(ha:PE X a ta)(hb:PE X b tb)(hc:PE X c tc)
  (hm:lastMarks [op,op'] [b,c]=false:=by with_unfolding_all rfl):PE X (.Compare a [op,op'] [b,c] pos) (zam r r' ta tb tc):=by
 intro pins s σ H Q I h
 refine Compare_chain (thn (ha pins s σ H _ I h) fun v s1 ⟨x,H1,I1,r1,q1⟩=>chain_link (thn (hb pins s1 σ H1 _ I1 q1) fun u s2 ⟨y,H2,I2,r2,q2⟩=>
  thn (ho pins s2 σ H2 x y v u _ I2 r1 r2 q2) fun d s3 ⟨z,H3,I3,r3,k,e,q3⟩=>?_)) hm
 subst e
 cases r3
 refine x1a ?_
 cases k with
 |false=>exact ite_ff ⟨.bl false,H3,I3,rfl,q3⟩
 |true=>exact ite_tt (chain_last (thn (hc pins s3 σ H3 _ I3 q3) fun w' s4 ⟨z',H4,I4,r4,q4⟩=>ho' pins s4 σ H4 y z' u w' Q I4 r2 r4 q4))
theorem zed{op op':CmpOp}{r r':R2}(ho:OpR X (compareOp op) r)(ho':OpR X (compareOp op') r')(ha:PE X a ta)(hb:PE X b tb)(hc:PE X c tc)
  (hm:lastMarks [op,op'] [b,c]=false:=by with_unfolding_all rfl):PT X (.Compare a [op,op'] [b,c] pos) (ze0 (zam r r' ta tb tc)):=by
 intro pins s σ H Q I h
 refine isTrue_chain (thn (ha pins s σ H _ I h) fun v s1 ⟨x,H1,I1,r1,q1⟩=>test_link (thn (hb pins s1 σ H1 _ I1 q1) fun u s2 ⟨y,H2,I2,r2,q2⟩=>
  thn (ho pins s2 σ H2 x y v u _ I2 r1 r2 q2) fun d s3 ⟨z,H3,I3,r3,k,e,q3⟩=>?_)) hm
 subst e
 cases r3
 refine x1a ?_
 cases k with
 |false=>
  obtain⟨k',e',q'⟩:=q3
  cases e'
  exact ite_ff ⟨H3,I3,q'⟩
 |true=>
  refine ite_tt (test_last (thn (hc pins s3 σ H3 _ I3 q3) fun w' s4 ⟨z',H4,I4,r4,q4⟩=>thn (ho' pins s4 σ H4 y z' u w' _ I4 r2 r4 q4) fun d' s5 ⟨z2,H5,I5,r5,k2,e2,q5⟩=>?_))
  subst e2
  cases r5
  exact x1a ⟨H5,I5,q5⟩
theorem z7q:(sizeLine:Nat)<2 ^ 63:=by rw[x1v];decide
theorem zan:OpR X (binaryOp .Add) (fun x y H Q=>∃i j,x=.str i/\y=.str j/\i.length+j.length<=sizeLine/\Q (.str (i++j)) H):=by
 intro pins s σ H x y v u Q I rx ry h
 obtain⟨i,j,rfl,rfl,hz,q⟩:=h
 obtain⟨t,rfl⟩:=rx
 obtain⟨t',rfl⟩:=ry
 exact add_str (fun t' tk=>⟨.str (i++j),H,I.tok _,⟨_,rfl⟩,q⟩) hz
theorem z2o{x:V}{us:List Value}(r:Vals [x] us):∃u,us=[u]/\RelV x u:=by
 cases r with
 |cons r1 r2=>cases r2;exact⟨_,rfl,r1⟩
theorem zmm{x y:V}{us:List Value}(r:Vals [x,y] us):∃u w',us=[u,w']/\RelV x u/\RelV y w':=by
 cases r with
 |cons r1 r2=>
  cases r2 with
  |cons r3 r4=>cases r4;exact⟨_,_,rfl,r1,r3⟩
end
end L2
namespace L2
open PySem PySem.Spec PyProof.Rows
structure ObjM(h:Heap)(x dx C:Addr)(mA:Str->Option Value):Prop where
 obj:h.get? x=some (PySem.W.instObj C dx)
 ns:h.Ns1 dx mA
 ne:dx≠x
theorem zj8{h:Heap}{dx:Addr}{mA:Str->Option Value}(n:h.Ns1 dx mA):∃od,h.get? dx=some od/\∀name,PySem.W.lookIn name od=some (mA name):=by
 obtain⟨o,es,ep,ho,hd,hk,_,hm⟩:=n
 refine⟨o,ho,fun name=>?_⟩
 have e:=hm name
 unfold nsFind findBy at e
 rw[<-Array.find?_toList]at e
 unfold PySem.W.lookIn
 rw[hd]
 dsimp only
 split
 .rename_i y q
  rw[q]at e
  exact x12 some e
 .rename_i q
  rw[q]at e
  have a:es.toList.any (·.refKey)=false:=by
   rw[List.any_eq_false]
   intro y hy
   obtain⟨z,t,hkey⟩:=hk y (Array.mem_toList_iff.mp hy)
   simp[DictEntry.refKey,hkey]
  have a':¬ es.toList.any (·.refKey)=true:=by rw[a];exact xm
  rw[if_neg a']
  exact x12 some e
theorem ObjM.look{h:Heap}{x dx C:Addr}{mA:Str->Option Value}(I:ObjM h x dx C mA):∃od,PySem.W.InstAt h x (PySem.W.instObj C dx) C (some od)/\∀name,PySem.W.lookIn name od=some (mA name):=
 let⟨od,ho,hl⟩:=zj8 I.ns
 ⟨od,⟨I.obj,rfl,rfl,ho⟩,hl⟩
section
variable {prog:Program}{w:World}{A:Around}{E:Value->Shared->Prop}{s:Shared}{K:PySem.W.Frag}{x dx C f:Addr}{mA:Str->Option Value}{name:Str}{v:Value}
theorem zmz{expr:Bool}{Q:Value->Shared->Prop}(X:K.In s.heap)(I:ObjM s.heap x dx C mA)(hg:PySem.W.plainGet K C name=true)(hh:PySem.W.hasDictIn K C=true)
  (ha:PySem.W.findIn K (.ref C) name=some none) (hv:mA name=some v) (hv':PySem.W.handedIn v=true) (h:Q v { s with toks:=s.toks+1 }):
  wpAny (model prog w) A (getAttr (.ref x) name expr) Q E s:=by
 obtain⟨od,J,hl⟩:=I.look
 exact PySem.W.get_value X J (PySem.W.plainGet_of hg).1 (PySem.W.findObj_own hh ha rfl (by rw[hl,hv])) hv' h
theorem zla{pl:Sem Bool}{Q:Value×List Value->Shared->Prop}(X:K.In s.heap)(I:ObjM s.heap x dx C mA)(hg:PySem.W.plainGet K C name=true)
  (hf:PySem.W.findIn K (.ref C) name=some (some (.ref f))) (ht:PySem.W.isFn K (.ref f)=true) (hv:mA name=none) (h:Q (.ref f,[.ref x]) s):
  wpAny (model prog w) A (getMethod (.ref x) name pl) Q E s:=by
 obtain⟨od,J,hl⟩:=I.look
 exact PySem.W.method_fn X J (PySem.W.plainGet_of hg).1 (PySem.W.plainGet_of hg).2 hf (beq_iff_eq.mp ht) (by show(PySem.W.lookIn name od).map (·.isSome)=some false;rw[hl,hv];rfl) h
theorem zn0{ns:List Str}{Q:Unit->Shared->Prop}(X:K.In s.heap)(I:ObjM s.heap x dx C mA)
  (hs:PySem.W.findIn K (.ref C) "__setattr__"=some (some (.builtin "object.__setattr__"))) (hp:PySem.W.plainOver K C=true) (ht:PySem.W.takerIn K C name=some none) (hh:PySem.W.hasDictIn K C=true)
  (hw:PySem.Within mA ns) (hsz:ns.length<=sizeLine)
  (h:∀h',ObjM h' x dx C (fun y=>if y=name then some v else mA y)->Heap.SameBut dx s.heap h'->Q () { s with heap:=h',toks:=s.toks+2 }):
  wpAny (model prog w) A (setAttr (.ref x) name v) Q E s:=by
 obtain⟨od,J,hl⟩:=I.look
 refine PySem.W.set_plain X J hs (PySem.W.osa_open (s:={ s with toks:=s.toks+1 }) (r:=none) X J hp ht fun b=>?_)
 obtain⟨cd,hc,hd'⟩:=PySem.W.any_some hh
 have hx:s.heap.get? x=some ⟨.ref C,some dx,.plain,#[]⟩:=I.obj
 refine x6 (xh (x6 (x6 (wpAny_loadPart hx (x6 (PySem.W.Looks.here (s:={ s with toks:=s.toks+1 }) (PySem.W.looks_clsIn X hc) ?_))))))
 rw[hd']
 refine xh (a:=some dx) (x6 (xh (x6 ?_)))
 refine wpAny_nsSet1 (s:={ s with toks:=s.toks+1 }) I.ns fun h' hn2 hs2=>?_
 obtain⟨oD,esD,epD,hoD,hdD,hcD⟩:=hn2.count (PySem.Within.cons name v hw)
 refine x6 (wpAny_lookBehind hoD (by rw[hdD];exact pastItsLine_dict (x01 hcD (by rw[x09];omega))) ?_)
 exact xh (h _ ⟨(hs2.2 _ (Ne.symm I.ne)).trans I.obj,hn2,I.ne⟩ hs2)
theorem zlb{R:Result->Shared->Prop}{vs:List Value}{kw:List (Str×Value)}(X:K.In s.heap)(hm:PySem.W.makesIn K C=true)
  (hi:PySem.W.findIn K (.ref C) "__init__"=some (some (.ref f))) (hf:PySem.W.typeIn K (.ref f)=some (.type "function"))
  (h:codeAny (model prog w) (A.under (.builtin "type.__call__" ⟨.ref C::vs,kw⟩)) (.call (.ref f) ⟨.ref (s.heap.objs.size+1)::vs,kw⟩) (PySem.W.InitBack (s.heap.objs.size+1) R)
   { s with heap:=(s.heap.push PySem.W.emptyDict).push (PySem.W.instObj C s.heap.objs.size) }):
  codeAny (model prog w) A (.call (.ref C) ⟨vs,kw⟩) R s:=by
 obtain⟨hh,g,d,t,os⟩:=s
 exact PySem.W.make_core (PySem.W.makes_of X hm) (PySem.W.looks_findIn X hi) (fun self=>PySem.W.bind_fn X self hf) (.inl rfl) h
end
noncomputable def putF(f:Str)(v:V):List (Str×V)->List (Str×V)
 |[]=>[(f,v)]
 |(g,x)::r=>if g=f then(g,v)::r else(g,x)::putF f v r
theorem z9a(f g:Str)(v:V):∀fs:List (Str×V),(putF f v fs).lookup g=if g=f then some v else fs.lookup g
 |[]=>by
  show List.lookup g [(f,v)]=_
  by_cases h:g=f
  .have hb:(g==f)=true:=beq_iff_eq.mpr h
   simp only[List.lookup,hb,if_pos h]
  .have hb:(g==f)=false:=x1e.mpr h
   simp only[List.lookup,hb,if_neg h]
 |(k,x)::r=>by
  have ih:=z9a f g v r
  rw[show putF f v ((k,x)::r)=(if k=f then(k,v)::r else(k,x)::putF f v r) from rfl]
  by_cases hk:k=f
  .rw[if_pos hk]
   by_cases h:g=k
   .have hb:(g==k)=true:=beq_iff_eq.mpr h
    simp only[List.lookup,hb,if_pos (h.trans hk)]
   .have hb:(g==k)=false:=x1e.mpr h
    simp only[List.lookup,hb,if_neg (fun e:g=f=>h (e.trans hk.symm))]
  .rw[if_neg hk]
   by_cases h:g=k
   .have hb:(g==k)=true:=beq_iff_eq.mpr h
    simp only[List.lookup,hb,if_neg (fun e:g=f=>hk (h.symm.trans e))]
   .have hb:(g==k)=false:=x1e.mpr h
    simp only[List.lookup,hb]
    exact ih
theorem z7r(f:Str)(v:V):∀fs:List (Str×V),f∈(putF f v fs).map (·.1)/\∀g,g∈fs.map (·.1)->g∈(putF f v fs).map (·.1)
 |[]=>⟨by simp[putF],fun g h=>by simp at h⟩
 |(k,x)::r=>by
  obtain⟨i1,i2⟩:=z7r f v r
  rw[show putF f v ((k,x)::r)=(if k=f then(k,v)::r else(k,x)::putF f v r) from rfl]
  by_cases hk:k=f
  .rw[if_pos hk]
   subst hk
   exact⟨by simp,fun g h=>by simpa using h⟩
  .rw[if_neg hk]
   refine⟨?_,fun g h=>?_⟩
   .rw[x0a]
    exact xx _ i1
   .rw[x0a]at h⊢
    rcases xk.mp h with e|e
    .exact xk.mpr (.inl e)
    .exact xx _ (i2 g e)
theorem z67(f:Str)(v:V):∀fs:List (Str×V),(putF f v fs).length<=fs.length+1
 |[]=>by simp[putF]
 |(k,x)::r=>by
  have ih:=z67 f v r
  rw[show putF f v ((k,x)::r)=(if k=f then(k,v)::r else(k,x)::putF f v r) from rfl]
  by_cases hk:k=f
  .rw[if_pos hk,x09,x09];omega
  .rw[if_neg hk,x09,x09];omega
theorem RelO.some_of{v:V}{o:Option Value}(r:RelO (some v) o):∃u,o=some u/\RelV v u:=by
 cases o with
 |none=>exact(show False from r).elim
 |some u=>exact⟨u,rfl,r⟩
theorem RelO.none_of{o:Option Value}(r:RelO none o):o=none:=by
 cases o with
 |none=>rfl
 |some u=>exact(show False from r).elim
theorem zj9{v:V}{u:Value}(r:RelV v u):PySem.W.handedIn u=true:=by
 cases v with
 |non=>cases(show u=Value.none from r);rfl
 |bl b=>cases(show u=Value.bool b from r);rfl
 |int i=>obtain⟨t,e⟩:=(show∃t,u=Value.int i t from r);cases e;rfl
 |str x=>obtain⟨t,e⟩:=(show∃t,u=Value.str x t from r);cases e;rfl
 |byt b=>obtain⟨t,e⟩:=(show∃t,u=Value.bytes b t from r);cases e;rfl
 |flt b=>obtain⟨t,e⟩:=(show∃t,u=Value.float b t from r);cases e;rfl
 |ref a=>cases(show u=Value.ref a from r);rfl
 |ty n=>cases(show u=Value.type n from r);rfl
section
variable {P:Program}{w:World}{H H':Hp}{h h':Heap}{a C dx:Addr}{fs fs':List (Str×V)}
theorem z6j(hok:HOk P w H h)(e:H a=some (.ins C dx fs)):∃mA,ObjM h a dx C mA/\(∀f,RelO (fs.lookup f) (mA f))/\PySem.Within mA (fs.map (·.1))/\fs.length<=1000/\H dx=some (.own a):=by
 obtain⟨d,z,ne,ob,mA,n,r,q⟩:=(show ObjOk P w H h a (.ins C dx fs) from hok a _ e)
 exact⟨mA,⟨ob,n,ne⟩,r,q,z,d⟩
end
structure Cls(K:PySem.W.Frag)(C:Addr):Prop where
 pg:PySem.W.plainGet K C Str.empty=true
 hd:PySem.W.hasDictIn K C=true
 po:PySem.W.plainOver K C=true
 sa:PySem.W.findIn K (.ref C) "__setattr__"=some (some (.builtin "object.__setattr__"))
theorem Cls.get{K:PySem.W.Frag}{C:Addr}(c:Cls K C)(f:Str):PySem.W.plainGet K C f=true:=c.pg
noncomputable def NoAttr(K:PySem.W.Frag)(C:Addr)(f:Str):Prop:=PySem.W.findIn K (.ref C) f=some none
theorem NoAttr.taker{K:PySem.W.Frag}{C:Addr}{f:Str}(n:NoAttr K C f):PySem.W.takerIn K C f=some none:=by
 unfold PySem.W.takerIn
 rw[show PySem.W.findIn K (.ref C) f=some none from n]
 rfl
structure Con(K:PySem.W.Frag)(C:Addr)(f:Str)(v:V)(u:Value):Prop where
 at_:PySem.W.findIn K (.ref C) f=some (some u)
 rel:RelV v u
 get:PySem.W.specialIn K u "__get__"=some none
 cp:PySem.W.copiedNames.contains f=false
structure Meth(K:PySem.W.Frag)(C:Addr)(m:Str)(f:Addr):Prop where
 at_:PySem.W.findIn K (.ref C) m=some (some (.ref f))
 fn:PySem.W.isFn K (.ref f)=true
 kp:PySem.W.keepIn K (.ref f)=true
section
variable {X:Cx}{pins:List (Addr×Obj)}{σ:St}{H:Hp}{s:Shared}{a C dx:Addr}{fs:List (Str×V)}{f:Str}{v:V}{A:Around}{E:Value->Shared->Prop}
theorem zao{b:Bool}{Q:Value->Shared->Prop}(I:Inv X pins σ H s)(e:H a=some (.ins C dx fs))(c:Cls X.K C)(n:NoAttr X.K C f)(l:fs.lookup f=some v)
  (h:∀u s',Inv X pins σ H s'->RelV v u->Q u s'):wpAny (model X.prog X.w) A (getAttr (.ref a) f b) Q E s:=by
 obtain⟨mA,O,r,_,_,_⟩:=z6j I.hok e
 obtain⟨u,hu,ru⟩:=RelO.some_of (v:=v) (o:=mA f) (by rw[<-l];exact r f)
 exact zmz I.kIn O (c.get f) c.hd n hu (zj9 ru) (h u _ (I.tok _) ru)
theorem zap{m:Str}{g:Addr}{pl:Sem Bool}{Q:Value×List Value->Shared->Prop}(I:Inv X pins σ H s)(e:H a=some (.ins C dx fs))(c:Cls X.K C)(k:Meth X.K C m g)(l:fs.lookup m=none)
  (h:Q (.ref g,[.ref a]) s):wpAny (model X.prog X.w) A (getMethod (.ref a) m pl) Q E s:=by
 obtain⟨mA,O,r,_,_,_⟩:=z6j I.hok e
 have hn:mA m=none:=RelO.none_of (by rw[<-l];exact r m)
 exact zla I.kIn O (c.get m) k.at_ k.fn hn h
theorem zaq{y:V}{u:Value}{Q:Unit->Shared->Prop}(I:Inv X pins σ H s)(e:H a=some (.ins C dx fs))(c:Cls X.K C)(n:NoAttr X.K C f)(hl:fs.length<1000)(ry:RelV y u)
  (h:∀s',Inv X pins σ (upd H a (.ins C dx (putF f y fs))) s'->Q () s'):wpAny (model X.prog X.w) A (setAttr (.ref a) f u) Q E s:=by
 obtain⟨mA,O,r,wi,_,ho⟩:=z6j I.hok e
 have hz:(fs.map (·.1)).length<=sizeLine:=by rw[x5,x1v];omega
 refine zn0 I.kIn O c.sa c.po n.taker c.hd wi hz fun h' O' sb=>h _ ?_
 have hd:∃o,h'.get? dx=some o:=let⟨o,_,_,e',_⟩:=O'.ns;⟨o,e'⟩
 refine I.write (x:=a) (e:=dx) (by rw[e];exact x1t) (.inr ho) (fun b q hb z=>(sb.2 b hb).trans z) hd ?_
 refine⟨by rw[zc O.ne];exact ho,?_,O.ne,O'.obj,_,O'.ns,fun g=>?_,fun g hg=>?_⟩
 .have:=z67 f y fs;omega
 .show RelO ((putF f y fs).lookup g) (if g=f then some u else mA g)
  rw[z9a]
  by_cases q:g=f
  .rw[if_pos q,if_pos q];exact ry
  .rw[if_neg q,if_neg q];exact r g
 .by_cases q:g=f
  .rw[q];exact(z7r f y fs).1
  .refine(z7r f y fs).2 g (wi g fun z=>hg ?_)
   show(if g=f then some u else mA g)=none
   rw[if_neg q];exact z
theorem Inv.made(I:Inv X pins σ H s):Inv X pins σ (upd (upd H s.heap.objs.size (.own (s.heap.objs.size+1))) (s.heap.objs.size+1) (.ins C s.heap.objs.size []))
  { s with heap:=(s.heap.push PySem.W.emptyDict).push (PySem.W.instObj C s.heap.objs.size) }:=by
 have e1:(s.heap.push PySem.W.emptyDict).get? s.heap.objs.size=some PySem.W.emptyDict:=xr s.heap rfl
 have e2:((s.heap.push PySem.W.emptyDict).push (PySem.W.instObj C s.heap.objs.size)).get? (s.heap.objs.size+1)=some (PySem.W.instObj C s.heap.objs.size):=by
  have:=xr (s.heap.push PySem.W.emptyDict) (o:=PySem.W.instObj C s.heap.objs.size) rfl
  rwa[x14]at this
 have e3:(s.heap.push PySem.W.emptyDict).Ns s.heap.objs.size (fun _=>none):=⟨PySem.W.emptyDict,#[],_,e1,rfl,(fun e he=>absurd he (by simp)),fun _=>rfl⟩
 have I1:=I.laid (a:=s.heap.objs.size) (o:=.own (s.heap.objs.size+1)) (h':=s.heap.push PySem.W.emptyDict) (t':=s.toks) (fun b u q=>x9 _ q) (xi _) ⟨_,e1⟩
 refine I1.laid (a:=s.heap.objs.size+1) (o:=.ins C s.heap.objs.size []) (t':=s.toks) (fun b u q=>x9 _ q) (Nat.le_of_eq (x14 _ _)) ?_
 have ne:s.heap.objs.size≠s.heap.objs.size+1:=xu (x0q _)
 refine⟨by rw[zc ne,z9],x08 _,ne,e2,fun _=>none,(Heap.Ns1.of_empty e3).at fun o q=>x9 _ q,fun _=>x1t,fun y hy=>absurd rfl hy⟩
theorem zn1{prog:Program}{w:World}{env:Env}{e:Expr}{f:Str}{pos:Pos}{s:Shared}{Q:Value->Shared->Prop}(hb:attributeBase e f env (eval e env)=eval e env)
  (h:wpAny (model prog w) A (eval e env) (fun o s₁=>wpAny (model prog w) A (getAttr o f true) Q E s₁) E s):wpAny (model prog w) A (eval (.Attribute e f pos) env) Q E s:=
 Attribute_any_ h (by rw[arm_eval_Attribute,hb])
end
noncomputable def tFld(K:PySem.W.Frag)(ta:TE)(f:Str):TE:=fun σ H Q=>ta σ H fun x H1=>∃a C dx fs v,x=.ref a/\H1 a=some (.ins C dx fs)/\Cls K C/\NoAttr K C f/\fs.lookup f=some v/\Q v H1
noncomputable def sFld(K:PySem.W.Frag)(ta tv:TE)(f:Str):TS:=fun D σ H=>tv σ H fun y H1=>ta σ H1 fun x H2=>∃a C dx fs,x=.ref a/\H2 a=some (.ins C dx fs)/\Cls K C/\NoAttr K C f/\fs.length<1000/\
 D.nx σ (upd H2 a (.ins C dx (putF f y fs)))
noncomputable def InOp(X:Cx)(op:Operator)(rd:V->V->Hp->VK->Prop):Prop:=
 ∀(pins:List (Addr×Obj))(s:Shared)(σ:St)(H:Hp)(x y:V)(u v:Value)(Q:VK),Inv X pins σ H s->RelV x u->RelV y v->rd x y H Q->wpAny (model X.prog X.w) X.A (inplaceOp op u v) (EP X pins σ Q) X.xe s
noncomputable def zbq(K:PySem.W.Frag)(ta tv:TE)(rd:V->V->Hp->VK->Prop)(f:Str):TS:=fun D σ H=>ta σ H fun x H1=>∃a C dx fs v,x=.ref a/\H1 a=some (.ins C dx fs)/\Cls K C/\NoAttr K C f/\fs.lookup f=some v/\
 tv σ H1 fun y H2=>rd v y H2 fun z H3=>∃dx' fs',H3 a=some (.ins C dx' fs')/\fs'.length<1000/\D.nx σ (upd H3 a (.ins C dx' (putF f z fs')))
section
variable {X:Cx}{o e value:Expr}{f:Str}{pos pos' tpos:Pos}{ta tv:TE}
theorem zo(he:PE X e ta)(hb:attributeBase e f X.env (eval e X.env)=eval e X.env):PE X (.Attribute e f pos) (tFld X.K ta f):=by
 intro pins s σ H Q I h
 refine zn1 hb (thn (he pins s σ H _ I h) fun u s1 ⟨x,H1,I1,rx,a,C,dx,fs,v,ex,ea,c,n,l,q⟩=>?_)
 subst ex
 obtain rfl:u=Value.ref a:=rx
 exact zao I1 ea c n l fun u' s2 I2 ru=>⟨v,H1,I2,ru,q⟩
theorem z1q(ha:PE X o ta)(hv:PE X value tv)(hs:swapsWith value (some (.Attribute o f pos')) pos.line X.env=pure false):PS X (.Assign [.Attribute o f pos'] value pos) (sFld X.K ta tv f):=by
 intro pins s σ H D I h
 refine plainObj_wpAny_Assign_Attribute (thn (hv pins s σ H _ I h) fun u s1 ⟨y,H1,I1,ry,q⟩=>thn (ha pins s1 σ H1 _ I1 q) fun ov s2 ⟨x,H2,I2,rx,a,C,dx,fs,ex,ea,c,n,l,q2⟩=>?_) hs
 subst ex
 obtain rfl:ov=Value.ref a:=rx
 exact zaq I2 ea c n l ry fun s3 I3=>⟨σ,_,I3,q2⟩
theorem zja{op:Operator}{rd:V->V->Hp->VK->Prop}(ha:PE X o ta)(hv:PE X value tv)(hop:InOp X op rd):PS X (.AugAssign (.Attribute o f tpos) op value pos) (zbq X.K ta tv rd f):=by
 intro pins s σ H D I h
 refine wpAny_AugAssign_AttributeAny (thn (ha pins s σ H _ I h) fun ov s1 ⟨x,H1,I1,rx,a,C,dx,fs,v,ex,ea,c,n,l,q⟩=>?_)
 subst ex
 obtain rfl:ov=Value.ref a:=rx
 refine zao I1 ea c n l fun u s2 I2 ru=>thn (hv pins s2 σ H1 _ I2 q) fun w3 s3 ⟨y,H2,I3,ry,q3⟩=>thn (hop pins s3 σ H2 v y u w3 _ I3 ru ry q3) fun w4 s4 ⟨z,H3,I4,rz,dx',fs',ea',l',q4⟩=>?_
 exact zaq I4 ea' c n l' rz fun s5 I5=>⟨σ,_,I5,q4⟩
noncomputable def rAdd:V->V->Hp->VK->Prop:=fun x y H Q=>∃i j,x=.int i/\y=.int j/\Q (.int (i+j)) H
theorem znw:InOp X .Add rAdd:=by
 rintro pins s σ H x y u v Q I rx ry ⟨i,j,rfl,rfl,q⟩
 obtain⟨t,rfl⟩:=(show∃t,u=Value.int i t from rx)
 obtain⟨t',rfl⟩:=(show∃t',v=Value.int j t' from ry)
 exact PyProof.Rows.iadd_int ⟨.int (i+j),H,I.tok _,⟨_,rfl⟩,q⟩
end
section
variable {X:Cx}{pins:List (Addr×Obj)}{σ:St}{H:Hp}{s:Shared}{A:Around}{E:Value->Shared->Prop}{Q:Value->Shared->Prop}{c:Value}{b:Bool}
inductive TyOf (K:PySem.W.Frag)(H:Hp):V->Value->Prop where
 |non:TyOf K H .non (.type "NoneType")
 |bl (x:Bool):TyOf K H (.bl x) (.type "bool")
 |int (i:Int):TyOf K H (.int i) (.type "int")
 |str (x:Str):TyOf K H (.str x) (.type "str")
 |flt (x:UInt64):TyOf K H (.flt x) (.type "float")
 |lst {a:Addr} {xs:List V} (e:H a=some (.lst xs)):TyOf K H (.ref a) (.type "list")
 |frz {a:Addr} {o:Obj} {xs:List V} (e:H a=some (.frz o (.lst xs))):TyOf K H (.ref a) (.type "list")
 |tup {a:Addr} {xs:List V} (e:H a=some (.tup xs)):TyOf K H (.ref a) (.type "tuple")
 |dK {a:Addr} {kvs:List (Key×V)} (e:H a=some (.dK kvs)):TyOf K H (.ref a) (.type "dict")
 |dT {a:Addr} {kvs:List (List Key×V)} (e:H a=some (.dT kvs)):TyOf K H (.ref a) (.type "dict")
 | ins {a C dx:Addr} {fs:List (Str×V)} (e:H a=some (.ins C dx fs)) (cl:Cls K C) (ha:PySem.W.findIn K (.ref C) "__class__"=some (some (.builtin "object.__class__")))
   (hn:PySem.W.specialIn K (.builtin "object.__class__") "__get__"=some (some (.builtin "getset_descriptor.__get__"))) (htk:PySem.W.takesIn K (.builtin "object.__class__")=some true)
   (hm:PySem.W.mroIn K C (.type "object")=some true):TyOf K H (.ref a) (.ref C)
theorem zjb{x:V}{u t:Value}(I:Inv X pins σ H s)(rx:RelV x u)(ty:TyOf X.K H x t)(e:PySem.W.kitOne X.K t c=some b)(h:∀tk,Q (.bool b) { s with toks:=tk }):
  wpAny (model X.prog X.w) A (call (.builtin "isinstance") [u,c]) Q E s:=by
 cases ty with
 |non=>cases(show u=Value.none from rx);exact x1n PySem.W.kitx_none I.kIn x1t e (fun z=>nomatch z) h
 |bl y=>cases(show u=Value.bool y from rx);exact x1n PySem.W.kitx_bool I.kIn x1t e (fun z=>nomatch z) h
 |int i=>obtain⟨t,q⟩:=(show∃t,u=Value.int i t from rx);cases q;exact x1n PySem.W.kitx_int I.kIn x1t e (fun z=>nomatch z) h
 |str y=>obtain⟨t,q⟩:=(show∃t,u=Value.str y t from rx);cases q;exact x1n PySem.W.kitx_str I.kIn x1t e (fun z=>nomatch z) h
 |flt y=>obtain⟨t,q⟩:=(show∃t,u=Value.float y t from rx);cases q;exact x1n PySem.W.kitx_float I.kIn x1t e (fun z=>nomatch z) h
 |@lst a xs ea=>
  cases(show u=Value.ref a from rx)
  obtain⟨_,_,n,_,h1⟩:=(show ObjOk X.prog X.w H s.heap a (.lst xs) from I.hok a _ ea)
  exact x1n PySem.W.kitx_list I.kIn ⟨_,h1,rfl⟩ e (fun z=>nomatch z) h
 |@frz a ob xs ea=>
  cases(show u=Value.ref a from rx)
  obtain⟨_,_,_,n,_,h1⟩:=(show ObjOk X.prog X.w H s.heap a (.frz ob (.lst xs)) from I.hok a _ ea)
  exact x1n PySem.W.kitx_list I.kIn ⟨_,h1,rfl⟩ e (fun z=>nomatch z) h
 |@tup a xs ea=>
  cases(show u=Value.ref a from rx)
  obtain⟨_,_,_,p⟩:=(show ObjOk X.prog X.w H s.heap a (.tup xs) from I.hok a _ ea)
  obtain⟨o,h1,h2,_⟩:=p
  exact x1n PySem.W.kitx_tuple I.kIn ⟨o,h1,h2⟩ e (fun z=>nomatch z) h
 |@dK a kvs ea=>
  cases(show u=Value.ref a from rx)
  obtain⟨_,_,vs,_,p⟩:=(show ObjOk X.prog X.w H s.heap a (.dK kvs) from I.hok a _ ea)
  obtain⟨o,es,ep,h1,h2,_⟩:=p
  exact x1n PySem.W.kitx_dict I.kIn ⟨o,h1,h2.1⟩ e (fun z=>nomatch z) h
 |@dT a kvs ea=>
  cases(show u=Value.ref a from rx)
  obtain⟨_,_,xs,_,o,es,ep,h1,h2,_⟩:=(show ObjOk X.prog X.w H s.heap a (.dT kvs) from I.hok a _ ea)
  exact x1n PySem.W.kitx_dict I.kIn ⟨o,h1,h2.1⟩ e (fun z=>nomatch z) h
 |@ins a C dx fs ea cl ha hn htk hm=>
  cases(show u=Value.ref a from rx)
  obtain⟨mA,O,_⟩:=z6j I.hok ea
  obtain⟨od,J,_⟩:=O.look
  exact x1n (PySem.W.kitx_own (cl.get _) cl.hd ha hn htk hm) I.kIn J e (fun z=>nomatch z) h
end
end L2
namespace L2
open PySem PySem.Spec PyProof.Rows
structure Room(k:Nat)(A:Around):Prop where
 hd:A.handled=none
 dp:A.depth+3*k+5<recursionLimit
 un:A.units+16*k+200<cLine
theorem Room.mono{j k:Nat}{A:Around}(r:Room k A)(h:j<=k):Room j A:=⟨r.hd,by have:=r.dp;omega,by have:=r.un;omega⟩
theorem Room.deeper{k:Nat}{A:Around}(r:Room (k+1) A)(env:Env):Room k (A.deeper env):=
 ⟨r.hd,by have:=r.dp;show A.depth+1+3*k+5<_;omega,by have:=r.un;show A.units+3+16*k+200<_;omega⟩
theorem Room.in1{k:Nat}{A:Around}(r:Room (k+1) A):Room k A.in1:=
 ⟨r.hd,by have:=r.dp;show A.depth+3*k+5<_;omega,by have:=r.un;show A.units+1+16*k+200<_;omega⟩
theorem zhw{A:Around}{C:Addr}{us:List Value}{kw:List (Str×Value)}:(A.under (.builtin "type.__call__" ⟨.ref C::us,kw⟩)).depth=A.depth+1:=by
 first|rfl|simp[Around.under,Code.weight,Code.isCreation,Code.isGuard,Code.isCaller,Code.frames,Code.isFrame,guardIds]
theorem zhx{A:Around}{C:Addr}{us:List Value}{kw:List (Str×Value)}:(A.under (.builtin "type.__call__" ⟨.ref C::us,kw⟩)).units=A.units+1:=by
 first|rfl|simp[Around.under,Code.cUnits,Code.frames,Code.isFrame]
theorem Room.make{k:Nat}{A:Around}(r:Room (k+1) A)(C:Addr)(us:List Value)(kw:List (Str×Value)):Room k (A.under (.builtin "type.__call__" ⟨.ref C::us,kw⟩)):=
 ⟨r.hd,by have:=r.dp;rw[zhw];omega,by have:=r.un;rw[zhx];omega⟩
theorem Room.depth{k:Nat}{A:Around}(r:Room k A):A.depth<recursionLimit:=by have:=r.dp;omega
theorem Room.units{k:Nat}{A:Around}(r:Room k A):A.units+64<cLine:=by have:=r.un;omega
theorem Room.units0{k:Nat}{A:Around}(r:Room k A):A.units<cLine:=by have:=r.un;omega
noncomputable def tNil:TA:=fun _ H Q=>Q [] H
noncomputable def ze1(ta:TE)(tr:TA):TA:=fun σ H Q=>ta σ H fun x H1=>tr σ H1 fun xs H2=>Q (x::xs) H2
section
variable {X:Cx}{e:Expr}{es:List Expr}{te:TE}{t:TA}{pos:Pos}
theorem za:PA X [] tNil:=fun _ _ _ _ H Q I h=>Calls.spliced_nil ⟨[],H,I,.nil,h⟩
theorem z8(ha:PE X e te)(hr:PA X es t)(hs:starEach (e::es) X.env=(false,eval e X.env)::starEach es X.env:=by rfl):PA X (e::es) (ze1 te t):=by
 intro pos pins s σ H Q I h
 rw[hs]
 show wpAny _ _ (spliced ((false,eval e X.env)::backTo pos (starEach es X.env))) _ _ s
 refine x1k (thn (ha pins s σ H _ I h) fun u s1 ⟨x,H1,I1,r1,q1⟩=>?_)
 exact thn (hr pos pins s1 σ H1 _ I1 q1) fun us s2 ⟨xs,H2,I2,r2,q2⟩=>⟨x::xs,H2,I2,.cons r1 r2,q2⟩
noncomputable def tTup(t:TA):TE:=fun σ H Q=>t σ H fun xs H1=>xs.length<=sizeLine/\∀p,H1 p=none->Q (.ref p) (upd H1 p (.tup xs))
noncomputable def tLst(t:TA):TE:=fun σ H Q=>t σ H fun xs H1=>xs.length<=sizeLine/\∀p,H1 p=none->Q (.ref p) (upd H1 p (.lst xs))
theorem z1n{x1}(h:PA X es t):PE X (.Tuple es x1 pos) (tTup t):=by
 intro pins s σ H Q I hq
 refine wpAny_Tuple_spliced (thn (h pos pins s σ H _ I hq) fun us s1 ⟨xs,H1,I1,r,z,q⟩=>⟨by rw[<-r.length];exact z,?_⟩)
 have hf:H1 s1.heap.objs.size=none:=I1.hok.fresh (xi _)
 refine⟨.ref s1.heap.objs.size,upd H1 s1.heap.objs.size (.tup xs),I1.laid (t':=s1.toks) (fun b u e=>x9 _ e) (xi _) ?_,rfl,q _ hf⟩
 exact⟨z,us,r,⟨_,xr _ rfl,rfl,_,rfl⟩⟩
theorem z1r(h:PA X es t):PE X (.List es pos) (tLst t):=by
 intro pins s σ H Q I hq
 refine wpAny_List_spliced (thn (h pos pins s σ H _ I hq) fun us s1 ⟨xs,H1,I1,r,z,q⟩=>⟨by rw[<-r.length];exact z,?_⟩)
 have hf:H1 s1.heap.objs.size=none:=I1.hok.fresh (xi _)
 refine⟨.ref s1.heap.objs.size,upd H1 s1.heap.objs.size (.lst xs),I1.laid (t':=s1.toks) (fun b u e=>x9 _ e) (xi _) ?_,rfl,q _ hf⟩
 exact⟨z,us,0,r,xr _ rfl⟩
end
noncomputable abbrev Sp:=List V->Hp->VK->XK->Prop
noncomputable abbrev CXT:=List Env->Hp->Shared->XK->Value->Shared->Prop
structure Env0(P:Program)(w:World)(K:PySem.W.Frag)(mg:Str->Option Value)(base:Heap)(A:Around)(outer:List Env)(s:Shared)(H:Hp):Prop where
 frames:A.frames=some outer
 mod:Mod K mg base
 bs:∀b o,base.get? b=some o->s.heap.get? b=some o/\H b=none
 bsz:base.objs.size<=s.heap.objs.size
 funs:s.heap.FunFrames base outer
 frf:∀b∈frs outer,H b=none
 hok:HOk P w H s.heap
 bare:AllBare s.gens
noncomputable def CE(outer:List Env)(P:Program)(w:World)(H:Hp)(s:Shared)(Q:VK)(u:Value)(s':Shared):Prop:=
 ∃v H',s'.os=s.os/\AllBare s'.gens/\Un (frs outer) [] H H' s.heap s'.heap/\HOk P w H' s'.heap/\RelV v u/\Q v H'
noncomputable def CR(CX:CXT)(outer:List Env)(P:Program)(w:World)(H:Hp)(s:Shared)(Q:VK)(E:XK)(r:Result)(s':Shared):Prop:=
 match r with
 | .ok (.ret u)=>CE outer P w H s Q u s'
 | .ok _=>False
 | .error e=>CX outer H s E e s'
structure FnOk(P:Program)(w:World)(K:PySem.W.Frag)(mg:Str->Option Value)(base:Heap)(CX:CXT)(k:Nat)(f:Addr)(fd:FuncData)(ps:List Str)(sp:Sp):Prop where
 len:∀vs H Q E,sp vs H Q E->vs.length=ps.length
 run:∀(A:Around)(outer:List Env)(s:Shared)(H:Hp)(args:Args)(us:List Value)(vs:List V)(Q:VK)(E:XK),Room k A->Env0 P w K mg base A outer s H->BindsTo s fd args (ps.zip us)->Vals vs us->sp vs H Q E->
  codeAny (model P w) A (.call (.ref f) args) (CR CX outer P w H s Q E) s
theorem Env0.make{P:Program}{w:World}{K:PySem.W.Frag}{mg:Str->Option Value}{base:Heap}{A:Around}{outer:List Env}{s:Shared}{H:Hp}(e:Env0 P w K mg base A outer s H)(C:Addr)(us:List Value)(kw:List (Str×Value)):
  Env0 P w K mg base (A.under (.builtin "type.__call__" ⟨.ref C::us,kw⟩)) outer s H:=⟨by first|exact e.frames|(simpa[Around.under,Code.envs,Code.isFrame,pushEnvs]using e.frames),e.mod,e.bs,e.bsz,e.funs,e.frf,e.hok,e.bare⟩
section
variable {X:Cx}{pins:List (Addr×Obj)}{σ:St}{H:Hp}{s s':Shared}
theorem Inv.env0(I:Inv X pins σ H s):Env0 X.prog X.w X.K X.mg X.base X.A X.stack s H:=
 ⟨I.ok.frames,I.ok.mod,I.bs,x01 I.ok.bsz I.sz,I.stack,I.stkFree,I.hok,I.bare⟩
theorem Inv.after{Q:VK}{u:Value}(I:Inv X pins σ H s)(h:CE X.stack X.prog X.w H s Q u s'):EP X pins σ Q u s':=by
 obtain⟨v,H',os,bare,un,hok,r,q⟩:=h
 obtain⟨hh,g,d,t,os'⟩:=s'
 obtain rfl:os'=s.os:=os
 exact⟨v,H',I.call (h':=hh) (g':=g) (d':=d) (t':=t) (ch:=[]) un hok bare (fun b z=>absurd z (by simp)),r,q⟩
end
noncomputable def ze2(sp:Sp)(dvs:List V)(E:XK)(t:TA):TE:=fun σ H Q=>t σ H fun vs H1=>sp (vs++dvs) H1 Q E
noncomputable def z8r(C:Addr)(m:Str)(sp:Sp)(dvs:List V)(E:XK)(ta:TE)(t:TA):TE:=fun σ H Q=>ta σ H fun x H1=>∃a dx fs,x=.ref a/\H1 a=some (.ins C dx fs)/\fs.lookup m=none/\
 t σ H1 fun vs H2=>sp (x::(vs++dvs)) H2 Q E
noncomputable def z8s(C:Addr)(sp:Sp)(dvs:List V)(E:XK)(t:TA):TE:=fun σ H Q=>t σ H fun vs H1=>∀x dx,H1 x=none->H1 dx=none->dx≠x->
 sp (.ref x::(vs++dvs)) (upd (upd H1 dx (.own x)) x (.ins C dx [])) (fun v H2=>v=.non/\Q (.ref x) H2) E
noncomputable def Binds(K:PySem.W.Frag)(fd:FuncData)(ps:List Str)(ds:List Value):Prop:=
 ∀(s:Shared)(us:List Value),K.In s.heap->(us++ds).length=ps.length->BindsTo s fd ⟨us,[]⟩ (ps.zip (us++ds))
theorem Binds.all{K:PySem.W.Frag}{fd:FuncData}{ps:List Str}(h:∀us:List Value,us.length=ps.length->bindArgs fd ⟨us,[]⟩=pure (ps.zip us)):Binds K fd ps []:=fun s us _ hl=>by
 rw[x1o]at hl⊢
 exact .of_eq (h us hl)
noncomputable def z58(CX:CXT)(X:Cx)(E:XK):Prop:=∀(pins:List (Addr×Obj))(σ:St)(H:Hp)(s:Shared)(e:Value)(s':Shared),Inv X pins σ H s->CX X.stack H s E e s'->X.xe e s'
section
variable {X:Cx}{CX:CXT}{k:Nat}{f C:Addr}{fd:FuncData}{ps:List Str}{sp:Sp}{dvs:List V}{ds:List Value}{E:XK}{x m:Str}{p pos apos:Pos}{e o:Expr}{es:List Expr}{ta:TE}{t:TA}
theorem zee{pins:List (Addr×Obj)}{σ:St}{H:Hp}{s:Shared}{Q:VK}{us:List Value}{vs:List V}(F:FnOk X.prog X.w X.K X.mg X.base CX k f fd ps sp)(hr:Room k X.A)(hb:Binds X.K fd ps ds)(hd:Vals dvs ds)(hx:z58 CX X E)
  (I:Inv X pins σ H s) (r:Vals vs us) (h:sp (vs++dvs) H Q E):wpAny (model X.prog X.w) X.A (call (.ref f) us) (EP X pins σ Q) X.xe s:=by
 have r2:Vals (vs++dvs) (us++ds):=r.append hd
 have hl:(us++ds).length=ps.length:=by rw[<-r2.length];exact F.len _ _ _ _ h
 refine wpAny_call (x31 (F.run X.A X.stack s H ⟨us,[]⟩ (us++ds) (vs++dvs) Q E hr I.env0 (hb s us I.kIn hl) r2 h) fun r s' hq=>?_)
 cases r with
 |error e=>exact hx pins σ H s e s' I hq
 |ok fl=>
  cases fl with
  |ret u=>exact I.after hq
  |next=>exact False.elim hq
  |brk=>exact False.elim hq
  |cont=>exact False.elim hq
theorem zn2(F:FnOk X.prog X.w X.K X.mg X.base CX k f fd ps sp)(hr:Room k X.A)(hg:Gl X x)(hm:X.mg x=some (.ref f))(hk:PySem.W.keepIn X.K (.ref f)=true)(hb:Binds X.K fd ps ds)(hd:Vals dvs ds)(hx:z58 CX X E)
  (ha:PA X (e::es) t) (hdb:(x==("__debug__":Str))=false:=by decide) (he:starEach (e::es) X.env=(false,eval e X.env)::starEach es X.env:=by rfl) (hpl:(backTo pos (starEach es X.env)).any (·.1)=false:=by rfl):
  PE X (.Call (.Name x p) (e::es) [] pos) (ze2 sp dvs E t):=by
 intro pins s σ H Q I h
 refine x22 (z8q I hg hm ?_ hdb)
 refine PySem.W.callWith_K (h₀:=X.base) I.ok.mod.kin hk (thn (ha pos pins s σ H _ I h) fun us s1 ⟨vs,H1,I1,r,q⟩=>⟨I1.kIn,?_⟩) he hpl
 exact zee F hr hb hd hx I1 r q
theorem zn3{pl:Sem Bool}(he:PE X o ta)(c:Cls X.K C)(hm:Meth X.K C m f)(F:FnOk X.prog X.w X.K X.mg X.base CX k f fd ps sp)(hr:Room k X.A)(hb:Binds X.K fd ps ds)(hd:Vals dvs ds)(hx:z58 CX X E)(ha:PA X (e::es) t)
  (hst:starEach (e::es) X.env=(false,eval e X.env)::starEach es X.env:=by rfl) (hpl:(backTo pos (starEach es X.env)).any (·.1)=false:=by rfl)
  (ht:eval (.Call (.Attribute o m apos) (e::es) [] pos) X.env=(do
   let ov<-eval o X.env
   standAt apos.atName
   let (f,first)<-holding [ov] (getMethod ov m pl)
   callWith pos f first (backTo pos (starEach (e::es) X.env)) (backToKw pos (keywordEach [] X.env))):=by rfl):
  PE X (.Call (.Attribute o m apos) (e::es) [] pos) (z8r C m sp dvs E ta t):=by
 intro pins s σ H Q I h
 refine PySem.W.methodCall_KW (pl:=pl) (thn (he pins s σ H _ I h) fun u s1 ⟨x,H1,I1,rx,a,dx,fs,ex,ea,l,q⟩=>?_) ht
 subst ex
 obtain rfl:u=Value.ref a:=rx
 refine zap I1 ea c hm l ?_
 refine PySem.W.callWith_K (first:=[.ref a]) (h₀:=X.base) I.ok.mod.kin hm.kp (thn (ha pos pins s1 σ H1 _ I1 q) fun us s2 ⟨vs,H2,I2,r,q2⟩=>⟨I2.kIn,?_⟩) hst hpl
 exact zee (us:=.ref a::us) (vs:=.ref a::vs) F hr hb hd hx I2 (.cons rfl r) q2
theorem zlc{pl:Sem Bool}(he:PE X o ta)(c:Cls X.K C)(hm:Meth X.K C m f)(F:FnOk X.prog X.w X.K X.mg X.base CX k f fd ps sp)(hr:Room k X.A)(hb:Binds X.K fd ps ds)(hd:Vals dvs ds)(hx:z58 CX X E)
  (ht:eval (.Call (.Attribute o m apos) [] [] pos) X.env=(do
   let ov<-eval o X.env
   standAt apos.atName
   let (f,first)<-holding [ov] (getMethod ov m pl)
   callWith pos f first (backTo pos (starEach [] X.env)) (backToKw pos (keywordEach [] X.env))):=by rfl):
  PE X (.Call (.Attribute o m apos) [] [] pos) (z8r C m sp dvs E ta tNil):=by
 intro pins s σ H Q I h
 refine PySem.W.methodCall_KW (pl:=pl) (thn (he pins s σ H _ I h) fun u s1 ⟨x,H1,I1,rx,a,dx,fs,ex,ea,l,q⟩=>?_) ht
 subst ex
 obtain rfl:u=Value.ref a:=rx
 refine zap I1 ea c hm l ?_
 exact PySem.W.callWith_K0 (first:=[.ref a]) I1.kIn hm.kp (zee (us:=[.ref a]) (vs:=[.ref a]) F hr hb hd hx I1 (.cons rfl .nil) q)
structure Mk(K:PySem.W.Frag)(C f:Addr):Prop where
 makes:PySem.W.makesIn K C=true
 init:PySem.W.findIn K (.ref C) "__init__"=some (some (.ref f))
 fn:PySem.W.isFn K (.ref f)=true
 kp:PySem.W.keepIn K (.ref C)=true
theorem zef{pins:List (Addr×Obj)}{σ:St}{H:Hp}{s:Shared}{Q:VK}{us:List Value}{vs:List V}(M:Mk X.K C f)(F:FnOk X.prog X.w X.K X.mg X.base CX k f fd ps sp)(hr:Room (k+1) X.A)(hb:Binds X.K fd ps ds)(hd:Vals dvs ds)
  (hx:z58 CX X E) (I:Inv X pins σ H s) (r:Vals vs us)
  (h:∀x dx,H x=none->H dx=none->dx≠x->sp (.ref x::(vs++dvs)) (upd (upd H dx (.own x)) x (.ins C dx [])) (fun v H2=>v=.non/\Q (.ref x) H2) E):
  wpAny (model X.prog X.w) X.A (call (.ref C) us) (EP X pins σ Q) X.xe s:=by
 have hq:=h (s.heap.objs.size+1) s.heap.objs.size (I.hok.fresh (x2r _)) (I.hok.fresh (xi _)) (xu (x0q _))
 have I2:=Inv.made (C:=C) I
 have r2:Vals (V.ref (s.heap.objs.size+1)::(vs++dvs)) (Value.ref (s.heap.objs.size+1)::(us++ds)):=.cons rfl (r.append hd)
 have hl:(Value.ref (s.heap.objs.size+1)::us++ds).length=ps.length:=by
  have e:=r2.length
  rw[F.len _ _ _ _ hq]at e
  exact e.symm
 refine wpAny_call (zlb (f:=f) I.kIn M.makes M.init (beq_iff_eq.mp M.fn) (x31 (F.run _ X.stack _ _ ⟨Value.ref (s.heap.objs.size+1)::us,[]⟩ (Value.ref (s.heap.objs.size+1)::(us++ds)) _ _ E (hr.make C us [])
  (I2.env0.make C us []) (hb _ (Value.ref (s.heap.objs.size+1)::us) I2.kIn hl) r2 hq) fun r s' hq'=>?_))
 cases r with
 |error e=>exact hx pins σ _ _ e s' I2 hq'
 |ok fl=>
  cases fl with
  |ret u=>
   obtain⟨v,H',I3,rv,ev,q3⟩:=I2.after hq'
   subst ev
   exact⟨rv,⟨V.ref (s.heap.objs.size+1),H',I3,rfl,q3⟩⟩
  |next=>exact False.elim hq'
  |brk=>exact False.elim hq'
  |cont=>exact False.elim hq'
theorem zn4(M:Mk X.K C f)(F:FnOk X.prog X.w X.K X.mg X.base CX k f fd ps sp)(hr:Room (k+1) X.A)(hg:Gl X x)(hm:X.mg x=some (.ref C))(hb:Binds X.K fd ps ds)(hd:Vals dvs ds)(hx:z58 CX X E)
  (ha:PA X (e::es) t) (hdb:(x==("__debug__":Str))=false:=by decide) (he:starEach (e::es) X.env=(false,eval e X.env)::starEach es X.env:=by rfl) (hpl:(backTo pos (starEach es X.env)).any (·.1)=false:=by rfl):
  PE X (.Call (.Name x p) (e::es) [] pos) (z8s C sp dvs E t):=by
 intro pins s σ H Q I h
 refine x22 (z8q I hg hm ?_ hdb)
 refine PySem.W.callWith_K (h₀:=X.base) I.ok.mod.kin M.kp (thn (ha pos pins s σ H _ I h) fun us s1 ⟨vs,H1,I1,r,q⟩=>⟨I1.kIn,?_⟩) he hpl
 exact zef M F hr hb hd hx I1 r q
theorem zld(M:Mk X.K C f)(F:FnOk X.prog X.w X.K X.mg X.base CX k f fd ps sp)(hr:Room (k+1) X.A)(hg:Gl X x)(hm:X.mg x=some (.ref C))(hb:Binds X.K fd ps ds)(hd:Vals dvs ds)(hx:z58 CX X E)
  (hdb:(x==("__debug__":Str))=false:=by decide):PE X (.Call (.Name x p) [] [] pos) (z8s C sp dvs E tNil):=by
 intro pins s σ H Q I h
 refine x22 (z8q I hg hm ?_ hdb)
 exact PySem.W.callWith_K0 I.kIn M.kp (zef (us:=[]) M F hr hb hd hx I .nil h)
end
noncomputable def PK(X:Cx)(kws:List Keyword)(t:TA):Prop:=
 ∀(pos:Pos)(pins:List (Addr×Obj))(s:Shared)(σ:St)(H:Hp)(Q:List V->Hp->Prop),Inv X pins σ H s->t σ H Q->wpAny (model X.prog X.w) X.A (evalAll ((backToKw pos (keywordEach kws X.env)).map (·.2))) (AP X pins σ Q) X.xe s
section
variable {X:Cx}{CX:CXT}{k:Nat}{f C:Addr}{fd:FuncData}{ps ks:List Str}{sp:Sp}{E:XK}{x m:Str}{p pos apos kpos:Pos}{e o:Expr}{es:List Expr}{kws:List Keyword}{te ta:TE}{t tk:TA}{nm:Option Str}
theorem znx:PK X [] tNil:=fun _ _ _ _ H Q I h=>wpAny_evalAll_nil ⟨[],H,I,.nil,h⟩
theorem zn5(ha:PE X e te)(hr:PK X kws t):PK X (⟨nm,e,kpos⟩::kws) (ze1 te t):=by
 intro pos pins s σ H Q I h
 show wpAny _ _ (evalAll ((do let v<-eval e X.env;standAt pos;pure v)::(backToKw pos (keywordEach kws X.env)).map (·.2))) _ _ s
 refine wpAny_evalAll_cons (x6 (thn (ha pins s σ H _ I h) fun u s1 ⟨x,H1,I1,r1,q1⟩=>x6 (wpAny_standAt (xh ?_))))
 exact thn (hr pos pins s1 σ H1 _ I1 q1) fun us s2 ⟨xs,H2,I2,r2,q2⟩=>⟨x::xs,H2,I2,.cons r1 r2,q2⟩
structure KBinds(K:PySem.W.Frag)(fd:FuncData)(ps ks:List Str)(g:List Value->List Value->List Value)(gV:List V->List V->List V):Prop where
 to:∀(s:Shared)(us ws:List Value),K.In s.heap->(g us ws).length=ps.length->BindsTo s fd ⟨us,ks.zip ws⟩ (ps.zip (g us ws))
 rel:∀{vs:List V}{us:List Value}{zs:List V}{ws:List Value},Vals vs us->Vals zs ws->Vals (gV vs zs) (g us ws)
variable {g:List Value->List Value->List Value}{gV:List V->List V->List V}
end
structure FnScope(N P:List Str)(sc:Scope):Prop where
 kind:sc.kind=.function
 co:sc.isCoroutine=false
 gen:sc.isGenerator=false
 nd:N.Nodup
 pre:N.take P.length=P
 par:∀x∈P,sc.names.lookup x=some .local\/sc.names.lookup x=some .cell
 nofree:∀y∈sc.names,y.2≠.free
theorem zcn{kindOf:Str->Option NameKind}{x:Str}:∀{binds:List (Str×Value)}{m:Str->Option Value},(∀v,(x,v)∉binds)->bindL kindOf binds m x=m x
 |[],_,_=>rfl
 |(n,v)::r,m,h=>by
  unfold bindL
  rw[zcn fun w hw=>h w (xx _ hw)]
  split
  .have:x≠n:=by rintro rfl;exact h v xp
   simp[this]
  .rfl
theorem zco{kindOf:Str->Option NameKind}{x:Str}:∀{binds:List (Str×Value)}{m:Str->Option Value},(∀v,(x,v)∉binds)->bindC kindOf binds m x=m x
 |[],_,_=>rfl
 |(n,v)::r,m,h=>by
  unfold bindC
  rw[zco fun w hw=>h w (xx _ hw)]
  split
  .rfl
  .have:x≠n:=by rintro rfl;exact h v xp
   simp[this]
theorem zcp{kindOf:Str->Option NameKind}{x:Str}{v:Value}:∀{P:List Str}{vs:List Value}{i:Nat}{m:Str->Option Value},P.Nodup->P[i]? =some x->vs[i]? =some v->kindOf x=some .local->
  bindL kindOf (P.zip vs) m x=some v
 |[],_,_,_,_,h,_,_=>by simp at h
 |_::_,[],_,_,_,_,h,_=>by simp at h
 |p::P,w::vs,0,m,nd,h1,h2,hk=>by
  simp at h1 h2;subst h1;subst h2
  show bindL kindOf ((p,w)::P.zip vs) m p=_
  unfold bindL
  rw[zcn fun v hv=>(x0k.mp nd).1 (List.of_mem_zip hv).1,if_pos hk]
  simp
 |p::P,w::vs,i+1,m,nd,h1,h2,hk=>by
  show bindL kindOf ((p,w)::P.zip vs) m x=_
  unfold bindL
  exact zcp (i:=i) (x0k.mp nd).2 (by simpa using h1) (by simpa using h2) hk
theorem zcq{kindOf:Str->Option NameKind}{x:Str}{v:Value}:∀{P:List Str}{vs:List Value}{i:Nat}{m:Str->Option Value},P.Nodup->P[i]? =some x->vs[i]? =some v->kindOf x≠some .local->
  bindC kindOf (P.zip vs) m x=some v
 |[],_,_,_,_,h,_,_=>by simp at h
 |_::_,[],_,_,_,_,h,_=>by simp at h
 |p::P,w::vs,0,m,nd,h1,h2,hk=>by
  simp at h1 h2;subst h1;subst h2
  show bindC kindOf ((p,w)::P.zip vs) m p=_
  unfold bindC
  rw[zco fun v hv=>(x0k.mp nd).1 (List.of_mem_zip hv).1,if_neg hk]
  simp
 |p::P,w::vs,i+1,m,nd,h1,h2,hk=>by
  show bindC kindOf ((p,w)::P.zip vs) m x=_
  unfold bindC
  exact zcq (i:=i) (x0k.mp nd).2 (by simpa using h1) (by simpa using h2) hk
noncomputable def start(N:List Str)(vs:List V):St:=vs.map some++List.replicate (N.length-vs.length) none
noncomputable def cxOf(CX:CXT)(P:Program)(w:World)(K:PySem.W.Frag)(mg:Str->Option Value)(base:Heap)(N:List Str)(qual:Str)(scope:Scope)(f:Addr)(cd:Value)(A:Around)(outer:List Env)(s:Shared)(H:Hp)(E:XK):Cx where
 prog:=P
 w:=w
 K:=K
 mg:=mg
 base:=base
 A:=A.deeper (envOfC qual scope s.heap.objs.size f cd)
 N:=N
 s₀:=s
 H₀:=H
 env:=envOfC qual scope s.heap.objs.size f cd
 outer:=outer
 stack:=envOfC qual scope s.heap.objs.size f cd::outer
 ex:=[]
 calm:=true
 fn:=fun _=>true
 pn:=[]
 xe:=fun e s'=>wpAny (model P w) (A.deeper (envOfC qual scope s.heap.objs.size f cd)) (leaving (envOfC qual scope s.heap.objs.size f cd) e) (fun _ s''=>CX outer H s E e s'') (fun e' s''=>CX outer H s E e' s'') s'
theorem zeg{sc:Scope}{n:Nat}{x:Str}(h:sc.names.lookup x=some .cell):∃c,(cellsFrom n sc.names []).lookup x=some c:=by
 have q:=PySem.W.cellsFrom_some sc.names n [] (.inl h)
 exact Option.isSome_iff_exists.mp q
theorem zjc{CX:CXT}{P:Program}{w:World}{K:PySem.W.Frag}{mg:Str->Option Value}{base:Heap}{N ps:List Str}{qual:Str}{scope:Scope}{f:Addr}{cd:Value}{A:Around}{outer:List Env}{s s1:Shared}{H:Hp}{E:XK}{us:List Value}{vs:List V}
  (S:FnScope N ps scope) (hd:A.handled=none) (e0:Env0 P w K mg base A outer s H) (hl:vs.length=ps.length) (r:Vals vs us)
  (x:InCallC s s.heap.objs.size (bindL (envOfC qual scope s.heap.objs.size f cd).kindOf (ps.zip us) fun _=>none) (cellsFrom (s.heap.objs.size+1) scope.names []) (bindC (envOfC qual scope s.heap.objs.size f cd).kindOf (ps.zip us) fun _=>none) s1):
  Inv (cxOf CX P w K mg base N qual scope f cd A outer s H E) [] (start N vs) H s1:=by
 have hpl:ps.length<=N.length:=by have:=x12 List.length S.pre;rw[x07]at this;omega
 obtain⟨h1,tk,rfl,hk⟩:=x.done
 have noA:∀b:Addr,b∉(cxOf CX P w K mg base N qual scope f cd A outer s H E).ex:=fun b z=>absurd (show b∈([]:List Addr) from z) (by simp)
 refine⟨⟨e0.mod,S.kind,rfl,rfl,xi _,fun y z c h1 h2=>?_,fun y hy=>?_,fun y c _ h=>?_,fun _=>hd,Around.frames_deeper e0.frames,.inr ⟨rfl,rfl⟩,fun b z=>absurd z (noA b),e0.bs,e0.bsz,fun b _ _=>noA b,fun b z=>absurd z (noA b),e0.funs,e0.frf⟩,
  rfl,e0.bare,Un.kept hk,⟨_,x.toInCall.ns,fun i y v h1 h2 h3=>?_⟩,fun y c h=>⟨_,x.cell y c h⟩,e0.hok.fresh (xi _),fun y c h=>?_,fun p hp=>absurd (show p∈([]:List (Addr×Obj)) from hp) (by simp),e0.hok.kept hk,?_⟩
 .exact name_of_addr x.apart (x13 h1) (x13 h2)
 .have hy:scope.names.lookup y=some .cell\/scope.names.lookup y=some .free:=hy
  rcases hy with hy|hy
  .exact zeg hy
  .exact absurd rfl (S.nofree _ (x13 hy))
 .exact x20 (x.above y c (x13 h))
 .have hi:i<vs.length:=by
   unfold start at h2
   by_cases hi:i<vs.length
   .exact hi
   .rw[x19 (by simpa using hi)]at h2
    rw[x0r]at h2
    split at h2<;>cases h2
  have ha:vs[i]? =some v:=by
   unfold start at h2
   rw[x0u (by simpa using hi),xj]at h2
   cases e:vs[i]? with
   |none=>rw[e]at h2;cases h2
   |some a=>rw[e]at h2;cases h2;rfl
  obtain⟨u,hu,rv⟩:=r.get ha
  have hp:ps[i]? =some y:=by
   rw[<-S.pre,List.getElem?_take_of_lt (by omega)];exact h1
  have ndP:ps.Nodup:=by rw[<-S.pre];exact S.nd.sublist (List.take_sublist _ _)
  refine⟨u,rv,?_⟩
  rcases S.par y (xf hp) with k|k
  .exact .inl ⟨k,zcp ndP hp hu k⟩
  .obtain⟨c,e⟩:=zeg (n:=s.heap.objs.size+1) k
   refine .inr ⟨.inl k,c,e,?_⟩
   have q:=x.cell y c e
   rw[zcq ndP hp hu (by show scope.names.lookup y≠_;rw[k];decide)]at q
   exact q
 .exact e0.hok.fresh (x20 (x.above y c (x13 h)))
 .unfold start
  show _=N.length
  rw[xt,x5,List.length_replicate]
  omega
theorem zhy{CX:CXT}{P:Program}{w:World}{K:PySem.W.Frag}{mg:Str->Option Value}{base:Heap}{k:Nat}{f:Addr}{name qual:Str}{params:Arguments}{body:List Stmt}{scope:Scope}{dV kV doc pm cdv ct oc:Value}{an od:Option Addr}
  {osl:Array (Option Value)} {N ps:List Str} {sp:Sp} (lk:K.lookup f=some ⟨oc,od,.func (PySem.W.fnOf name qual params body scope dV kV doc pm an cdv ct),osl⟩) (hcd:PySem.W.codeIn K cdv qual=true) (S:FnScope N ps scope)
  (len:∀vs H Q E,sp vs H Q E->vs.length=ps.length)
  (hbody:∀(A:Around)(outer:List Env)(s:Shared)(H:Hp)(vs:List V)(Q:VK)(E:XK),Room k (A.deeper (envOfC qual scope s.heap.objs.size f cdv))->sp vs H Q E->
   ∃t,PSs (cxOf CX P w K mg base N qual scope f cdv A outer s H E) body t/\t { nx:=fun _ H'=>Q .non H',rt:=Q } (start N vs) H):
  FnOk P w K mg base CX (k+1) f (PySem.W.fnOf name qual params body scope dV kV doc pm an cdv ct) ps sp:=by
 refine⟨len,fun A outer s H args us vs Q E hr e0 hb r hsp=>?_⟩
 have hl:=len _ _ _ _ hsp
 have KX:K.In s.heap:=e0.mod.kin.keeps fun b o e=>(e0.bs b o e).1
 have lim:s.heap.NoLimit:=e0.mod.nolimit.keeps fun b o e=>(e0.bs b o e).1
 have hkind:∀y∈ps.zip us,scope.names.lookup y.1=some .local\/(scope.names.lookup y.1=some .cell/\((cellsFrom (s.heap.objs.size+1) scope.names []).lookup y.1).isSome=true):=fun⟨n,v⟩ hy=>by
  rcases S.par n (List.of_mem_zip hy).1 with q|q
  .exact .inl q
  .exact .inr ⟨q,PySem.W.cellsFrom_some _ _ _ (.inl q)⟩
 refine codeAny_call_function hr.depth (KX _ _ lk) rfl S.co S.gen rfl (PySem.W.codeRec_of KX hcd) (hb _ _ _ _ ?_)
 refine wpAny_newFunctionEnv_cells S.kind hkind fun env he s1 x=>?_
 subst he
 refine⟨lim.keeps x.toInCall.keep,codeAny_func ?_⟩
 obtain⟨t,ht,hq⟩:=hbody A outer s H vs Q E (hr.deeper _) hsp
 have I:Inv (cxOf CX P w K mg base N qual scope f cdv A outer s H E) [] (start N vs) H s1:=zjc S hr.hd e0 hl r x
 refine x0e (ht [] s1 (start N vs) H _ I hq) (fun fl s' hs=>?_) fun e s' hs=>hs
 have fin:∀{σ':St}{H':Hp}{v:V}{u:Value},Inv (cxOf CX P w K mg base N qual scope f cdv A outer s H E) [] σ' H' s'->RelV v u->Q v H'->CE outer P w H s Q u s':=
  fun{σ' H' v u} J rv q=>⟨v,H',J.os,J.bare,J.base,J.hok,rv,q⟩
 cases fl with
 |ret u=>
  obtain⟨v,σ',H',J,rv,q⟩:=hs
  exact fin J rv q
 |next=>
  obtain⟨σ',H',J,q⟩:=hs
  exact fin (v:=V.non) (u:=Value.none) J rfl q
 |brk=>
  obtain⟨_,_,_,q⟩:=hs
  exact False.elim q
 |cont=>
  obtain⟨_,_,_,q⟩:=hs
  exact False.elim q
section
variable {X:Cx}{x:Str}{p pos:Pos}{e:Expr}{es:List Expr}{t:TA}{id T:String}{r:List V->Hp->VK->Prop}
noncomputable def tCB(r:List V->Hp->VK->Prop)(t:TA):TE:=fun σ H Q=>t σ H fun vs H1=>r vs H1 Q
theorem zj(hc:CallR X (.builtin id) r)(hg:Gl X x)(hm:X.mg x=none)(hv:bootBuiltins x=some (.builtin id))(ha:PA X (e::es) t)(hn:x≠ "__name__":=by decide)(hdb:(x==("__debug__":Str))=false:=by decide)
  (he:starEach (e::es) X.env=(false,eval e X.env)::starEach es X.env:=by rfl) (hpl:(backTo pos (starEach es X.env)).any (·.1)=false:=by rfl):PE X (.Call (.Name x p) (e::es) [] pos) (tCB r t):=by
 intro pins s σ H Q I h
 refine x22 (z57 I hg hm hv ?_ hn hdb)
 exact PyProof.Rows.callWith_builtin1 (thn (ha pos pins s σ H _ I h) fun us s1 ⟨vs,H1,I1,r1,q1⟩=>hc pins s1 σ H1 vs us Q I1 r1 q1) he hpl
theorem z1l(hc:CallR X (.type T) r)(hg:Gl X x)(hm:X.mg x=none)(hv:bootBuiltins x=some (.type T))(ha:PA X (e::es) t)(hn:x≠ "__name__":=by decide)(hdb:(x==("__debug__":Str))=false:=by decide)
  (he:starEach (e::es) X.env=(false,eval e X.env)::starEach es X.env:=by rfl) (hpl:(backTo pos (starEach es X.env)).any (·.1)=false:=by rfl):PE X (.Call (.Name x p) (e::es) [] pos) (tCB r t):=by
 intro pins s σ H Q I h
 refine x22 (z57 I hg hm hv ?_ hn hdb)
 exact PyProof.Rows.callWith_type1 (thn (ha pos pins s σ H _ I h) fun us s1 ⟨vs,H1,I1,r1,q1⟩=>hc pins s1 σ H1 vs us Q I1 r1 q1) he hpl
end
end L2
namespace HT
open PySem PyProof.Rows
section
open PySem.SeqAt
open PySem.AutoSeq1 (wpAny_loadPart')
open PySem.MeetsSeq PySem.MeetsSeq2 PySem.MeetsSeq3
end
section
variable {prog:Program}{w:World}{A:Around}{E:Value->Shared->Prop}{s:Shared}
noncomputable def sIx(n d:Nat):Option Int->Nat
 |none=>d
 |some v=>if v<0 then(v+(n:Int)).toNat else min v.toNat n
theorem sIx_nat(n d k:Nat):sIx n d (some (k:Int))=min k n:=by
 show(if(k:Int)<0 then((k:Int)+(n:Int)).toNat else min (k:Int).toNat n)=min k n
 rw[if_neg (by omega),x0z]
end
end HT
namespace L2
open PySem PySem.Spec PyProof.Rows
noncomputable abbrev TO:=St->Hp->(Option Int->Hp->Prop)->Prop
noncomputable def PO(X:Cx)(e:Option Expr)(t:TO):Prop:=
 ∀(pins:List (Addr×Obj))(s:Shared)(σ:St)(H:Hp)(Q:Option Int->Hp->Prop),Inv X pins σ H s->t σ H Q->
  wpAny (model X.prog X.w) X.A (evalPart e X.env) (fun u s'=>∃o H',Inv X pins σ H' s'/\IsPart u o/\Q o H') X.xe s
noncomputable def zbr:TO:=fun _ H Q=>Q none H
noncomputable def zhz(t:TE):TO:=fun σ H Q=>t σ H fun x H1=>∃i,x=.int i/\Q (some i) H1
section
variable {X:Cx}{e:Expr}{te:TE}{lo hi:Option Expr}{tl th:TO}{pos p2:Pos}
theorem z4o:PO X none zbr:=by
 intro pins s σ H Q I h
 rw[evalPart_none]
 exact xh ⟨none,H,I,.none,h⟩
theorem z4p(h:PE X e te):PO X (some e) (zhz te):=by
 intro pins s σ H Q I hw
 rw[evalPart_some]
 refine thn (h pins s σ H _ I hw) fun u s1 ⟨x,H1,I1,r1,q1⟩=>?_
 obtain⟨i,rfl,q⟩:=q1
 obtain⟨t,rfl⟩:=r1
 exact⟨some i,H1,I1,.int i t,q⟩
noncomputable def SlR(X:Cx)(r:V->Option Int->Option Int->Hp->VK->Prop):Prop:=
 ∀(pins:List (Addr×Obj))(s:Shared)(σ:St)(H:Hp)(x:V)(v vl vu:Value)(lo hi:Option Int)(sl:Addr)(Q:VK),Inv X pins σ H s->RelV x v->s.heap.IsSliceOf sl vl vu .none->IsPart vl lo->IsPart vu hi->r x lo hi H Q->
  ∃ T id,typeLookup (.type T) "__getitem__"=pure (some (.builtin id))/\s.TypeIs v T/\wpAny (model X.prog X.w) X.A (getItem v (.ref sl)) (EP X pins σ Q) X.xe s
noncomputable def tSl(r:V->Option Int->Option Int->Hp->VK->Prop)(te:TE)(tl th:TO):TE:=fun σ H Q=>te σ H fun x H1=>tl σ H1 fun l H2=>th σ H2 fun u H3=>r x l u H3 Q
theorem z41{r:V->Option Int->Option Int->Hp->VK->Prop}(hr:SlR X r)(he:PE X e te)(hl:PO X lo tl)(hu:PO X hi th):PE X (.Subscript e (.Slice lo hi none p2) pos) (tSl r te tl th):=by
 intro pins s σ H Q I h
 refine Subscript_ (thn (he pins s σ H _ I h) fun v s1 ⟨x,H1,I1,r1,q1⟩=>?_)
 refine wpAny_Slice (thn (hl pins s1 σ H1 _ I1 q1) fun vl s2 ⟨l,H2,I2,pl,q2⟩=>thn (hu pins s2 σ H2 _ I2 q2) fun vu s3 ⟨u,H3,I3,pu,q3⟩=>?_)
 rw[evalPart_none]
 refine xh ?_
 have I4:Inv X pins σ H3 { s3 with heap:=s3.heap.push { cls:=.type "slice",data:=.fields #[vl,vu,.none] } }:=I3.kept (t':=s3.toks) fun b ob q=>x9 _ q
 obtain⟨T,id,hT,ht,hg⟩:=hr pins { s3 with heap:=s3.heap.push { cls:=.type "slice",data:=.fields #[vl,vu,.none] } } σ H3 x v vl vu l u s3.heap.objs.size Q I4 r1 (Heap.IsSliceOf.new ..) pl pu q3
 show wpAny (model X.prog X.w) X.A (subscriptTail e (.Slice lo hi none p2) v (.ref s3.heap.objs.size)) (EP X pins σ Q) X.xe { s3 with heap:=s3.heap.push { cls:=.type "slice",data:=.fields #[vl,vu,.none] } }
 exact tail_any (ops:=[.ref s3.heap.objs.size,v]) ht hT hg (by with_unfolding_all rfl)
noncomputable def cutV(xs:List V)(lo hi:Option Int):List V:=(xs.drop (HT.sIx xs.length 0 lo)).take (HT.sIx xs.length xs.length hi-HT.sIx xs.length 0 lo)
theorem zgd(xs:List V)(lo hi:Option Int):(cutV xs lo hi).length<=xs.length:=by
 unfold cutV
 rw[x07,List.length_drop]
 omega
end
end L2
namespace L2
open PySem PySem.Spec PyProof.Rows
noncomputable def ixN(n:Nat)(i:Int):Option Nat:=if 0<=i then(if i<n then some i.toNat else none) else if-(n:Int)<=i then some (i+n).toNat else none
noncomputable def atI{α:Type}(xs:List α)(i:Int):Option α:=(ixN xs.length i).bind fun j=>xs[j]?
theorem zn6{n:Nat}{i:Int}{j:Nat}(h:ixN n i=some j):seqIndex? i n=some j/\j<n/\ -(n:Int)<=i/\i<n:=by
 unfold ixN at h
 by_cases h0:0<=i
 .rw[if_pos h0]at h
  by_cases h1:i<n
  .rw[if_pos h1]at h
   have e:i.toNat=j:=xq h
   exact⟨by rw[seqIndex_of h0 h1,e],by omega,by omega,h1⟩
  .rw[if_neg h1]at h;cases h
 .rw[if_neg h0]at h
  by_cases h1:-(n:Int)<=i
  .rw[if_pos h1]at h
   have e:(i+n).toNat=j:=xq h
   exact⟨by rw[seqIndex_neg (by omega) h1,e],by omega,h1,by omega⟩
  .rw[if_neg h1]at h;cases h
theorem zbs{α:Type}{xs:List α}{i:Int}{v:α}(h:atI xs i=some v):∃j,seqIndex? i xs.length=some j/\xs[j]? =some v/\j<xs.length/\ -(xs.length:Int)<=i/\i<xs.length:=by
 unfold atI at h
 cases e:ixN xs.length i with
 |none=>rw[e]at h;cases h
 |some j=>
  rw[e]at h
  obtain⟨h1,h2,h3,h4⟩:=zn6 e
  exact⟨j,h1,h,h2,h3,h4⟩
theorem zi{α:Type}{xs:List α}{j:Nat}{v:α}(h:xs[j]? =some v):atI xs (j:Int)=some v:=by
 have hj:j<xs.length:=(xl.mp h).1
 have e:ixN xs.length (j:Int)=some j:=by
  unfold ixN
  rw[if_pos (by omega),if_pos (by omega)];simp
 unfold atI;rw[e];exact h
theorem zle{α:Type}(xs:List α)(v:α):atI (xs++[v]) (-1)=some v:=by
 have hl:(xs++[v]).length=xs.length+1:=by simp
 have e:ixN (xs++[v]).length (-1)=some xs.length:=by
  unfold ixN
  rw[hl,if_neg (by decide),if_pos (by omega)]
  congr 1
  omega
 unfold atI
 rw[e]
 show(xs++[v])[xs.length]? =some v
 simp
noncomputable def zn7(b:Expr):Prop:=∀o i,subscripted b false o i=operate [o,i] (getItem o i)
noncomputable def IxR(X:Cx)(r:R2):Prop:=
 ∀(value slice:Expr)(pins:List (Addr×Obj))(s:Shared)(σ:St)(H:Hp)(x y:V)(v u:Value)(Q:VK),Inv X pins σ H s->RelV x v->RelV y u->r x y H Q->
  subscripted slice false v u=operate [v,u] (getItem v u)->wpAny (model X.prog X.w) X.A (subscriptTail value slice v u) (EP X pins σ Q) X.xe s
noncomputable def MtR(X:Cx)(id:String)(r:V->List V->Hp->VK->Prop):Prop:=
 ∀(pins:List (Addr×Obj))(s:Shared)(σ:St)(H:Hp)(x:V)(xs:List V)(v:Value)(us:List Value)(Q:VK),Inv X pins σ H s->RelV x v->Vals xs us->r x xs H Q->
  wpAny (model X.prog X.w) X.A (call (.builtin id) (v::us)) (EP X pins σ Q) X.xe s
section
variable {X:Cx}{a b:Expr}{ta tb:TE}{pos:Pos}
theorem IxR.or{r r':R2}(h:IxR X r)(h':IxR X r'):IxR X (fun x y H Q=>r x y H Q\/r' x y H Q):=by
 intro value slice pins s σ H x y v u Q I rx ry q hs
 rcases q with q|q
 .exact h value slice pins s σ H x y v u Q I rx ry q hs
 .exact h' value slice pins s σ H x y v u Q I rx ry q hs
theorem zl{r:R2}(hr:IxR X r)(ha:PE X a ta)(hb:PE X b tb)(hs:zn7 b):PE X (.Subscript a b pos) (tOp r ta tb):=by
 intro pins s σ H Q I h
 exact Subscript_ (binT ha hb I h fun v u s2 x y H2 I2 rx ry q=>hr a b pins s2 σ H2 x y v u Q I2 rx ry q (hs _ _))
noncomputable def rIxL(K:PySem.W.Frag):R2:=fun x y H Q=>∃p xs i v,x=.ref p/\y=.int i/\SqL K H p xs/\atI xs i=some v/\Q v H
noncomputable def rIxT(K:PySem.W.Frag):R2:=fun x y H Q=>∃p xs i v,x=.ref p/\y=.int i/\SqT K H p xs/\atI xs i=some v/\Q v H
noncomputable def rIxS:R2:=fun x y H Q=>∃z i c,x=.str z/\y=.int i/\z.length<=sizeLine/\atI z.cps.toList i=some c/\Q (.str ⟨#[c]⟩) H
theorem ix_list:IxR X (rIxL X.K):=by
 intro value slice pins s σ H x y v u Q I rx ry h hs
 obtain⟨p,xs,i,z,rfl,rfl,hq,he,q⟩:=h
 cases rx
 obtain⟨t,rfl⟩:=ry
 obtain⟨its,r,pl,hz⟩:=I.list hq
 obtain⟨j,h1,h2,h3,h4,h5⟩:=zbs he
 obtain⟨w,ew,rw'⟩:=r.get h2
 have hl:=r.length
 have hn:=z7q
 have fin:EP X pins σ Q w s:=⟨z,H,I,rw',q⟩
 by_cases h0:0<=i
 .have hj:i.toNat=j:=by
   rw[seqIndex_of h0 h5]at h1
   exact xq h1
  exact item_listR pl.isList h0 (by omega) (by rw[hj];simpa using ew) fin hs
 .have hj:(i+(its.toArray.size:Int)).toNat=j:=by
   rw[seqIndex_neg (by omega) h4]at h1
   rw[xy,<-hl]
   exact xq h1
  exact subscriptTail_builtinR (x:=w) pl.isList.typeIs slot_list_getitem.lookup
   (wpAny_getItem_list_neg (Q:=fun r s'=>r=w/\EP X pins σ Q r s') pl.isList (by omega) (by rw[xy]<;>omega) (by omega) (by rw[hj];simpa using ew) ⟨rfl,fin⟩) hs
theorem ix_tup:IxR X (rIxT X.K):=by
 intro value slice pins s σ H x y v u Q I rx ry h hs
 obtain⟨p,xs,i,z,rfl,rfl,hq,he,q⟩:=h
 cases rx
 obtain⟨t,rfl⟩:=ry
 obtain⟨its,r,pl,hz⟩:=I.tuple hq
 obtain⟨j,h1,h2,h3,h4,h5⟩:=zbs he
 obtain⟨w,ew,rw'⟩:=r.get h2
 have hl:=r.length
 have hn:=z7q
 have fin:EP X pins σ Q w s:=⟨z,H,I,rw',q⟩
 exact subscriptTail_builtinR (x:=w) pl.typeIs slot_tuple_getitem.lookup
  (getItem_tuple (j:=j) (Q:=fun r s'=>r=w/\EP X pins σ Q r s') pl (by omega) (by omega) (by rw[xy,<-hl];exact h1) (by simpa using ew) ⟨rfl,fin⟩) hs
theorem zar:IxR X rIxS:=by
 intro value slice pins s σ H x y v u Q I rx ry h hs
 obtain⟨z,i,c,rfl,rfl,hz,he,q⟩:=h
 obtain⟨t,rfl⟩:=rx
 obtain⟨t',rfl⟩:=ry
 obtain⟨j,h1,h2,h3,h4,h5⟩:=zbs he
 have hl:z.cps.toList.length=z.length:=by simp[Str.length]
 rw[hl]at h1 h4 h5
 have hn:=z7q
 exact tail_any (typeIs_str s z t) slot_str_getitem.lookup (getItem_str (c:=c) (by
  have e1:decide (i< -(2 ^ 63:Int))=false:=x0j (by omega)
  have e2:decide (i>=2 ^ 63)=false:=x0j (by omega)
  rw[e1,e2,Bool.or_false]) (by rw[h1];simpa using h2) ⟨.str ⟨#[c]⟩,H,I.tok _,⟨_,rfl⟩,q⟩) hs
noncomputable def rIx(K:PySem.W.Frag):R2:=fun x y H Q=>rIxL K x y H Q\/rIxT K x y H Q\/rIxS x y H Q
theorem zny:IxR X (rIx X.K):=ix_list.or (ix_tup.or zar)
theorem zeh(lo hi:Option Int)(n:Nat):(sliceBounds lo hi none n).1=((HT.sIx n 0 lo:Nat):Int)/\(sliceBounds lo hi none n).2.1=((HT.sIx n n hi:Nat):Int)/\(sliceBounds lo hi none n).2.2=1:=by
 refine⟨?_,?_,rfl⟩
 .cases lo with
  |none=>simp[sliceBounds,HT.sIx]
  |some i=>
   simp only[sliceBounds,HT.sIx,Option.getD_none,show(1:Int)>0 by decide,if_true]
   by_cases h:i<0
   .simp only[h,if_true]<;>omega
   .simp only[h,x32]<;>omega
 .cases hi with
  |none=>simp[sliceBounds,HT.sIx]
  |some i=>
   simp only[sliceBounds,HT.sIx,Option.getD_none,show(1:Int)>0 by decide,if_true]
   by_cases h:i<0
   .simp only[h,if_true]<;>omega
   .simp only[h,x32]<;>omega
theorem zdh(its:List Value)(lo hi:Option Int):slicePick its.toArray lo hi none=((its.drop (HT.sIx its.length 0 lo)).take (HT.sIx its.length its.length hi-HT.sIx its.length 0 lo)).toArray:=by
 obtain⟨h1,h2,h3⟩:=zeh lo hi its.toArray.size
 unfold slicePick
 rw[h1,h2,h3]
 simp only[sliceRange_one,pick_run,xy]<;>rfl
noncomputable def rSlL(K:PySem.W.Frag):V->Option Int->Option Int->Hp->VK->Prop:=fun x lo hi H Q=>∃a xs,x=.ref a/\SqL K H a xs/\∀p,H p=none->Q (.ref p) (upd H p (.lst (cutV xs lo hi)))
theorem z5j:SlR X (rSlL X.K):=by
 intro pins s σ H x v vl vu lo hi sl Q I rx hs pl pu h
 obtain⟨a,xs,rfl,hx,q⟩:=h
 cases rx
 obtain⟨its,r,ht,hz⟩:=I.list hx
 have hlen:=r.length
 refine⟨"list",_,slot_list_getitem.lookup,ht.isList.typeIs,?_⟩
 refine wpAny_getItem_list_slice ht.isList hs pl pu .none (by simp) ?_ (by rw[xy]<;>omega)
 rw[zdh,<-hlen]
 refine⟨.ref s.heap.objs.size,_,I.laid (t':=s.toks) (o:=.lst (cutV xs lo hi)) (fun b ob q=>x9 _ q) (xi _) ?_,rfl,q _ (I.hok.fresh (xi _))⟩
 exact⟨x01 (zgd xs lo hi) hz,_,0,(r.drop (HT.sIx xs.length 0 lo)).take (HT.sIx xs.length xs.length hi-HT.sIx xs.length 0 lo),xr _ rfl⟩
noncomputable def z2j:V->Bool
 | .non=>true
 | .bl _=>true
 | .int _=>true
 | .str _=>true
 |_=>false
noncomputable def eqV:V->V->Bool
 | .non,.non=>true
 | .bl a,.bl b=>a==b
 | .bl a,.int b=>(if a then 1 else 0)==b
 | .int a,.bl b=>a==(if b then 1 else 0)
 | .int a,.int b=>a==b
 | .str a,.str b=>a==b
 |_,_=>false
theorem zjd{A:Around}{s:Shared}{y x:V}{u v:Value}(ry:RelV y u)(rx:RelV x v)(fy:z2j y=true)(fx:z2j x=true):SeqAt.EqAt A s u v (eqV y x):=by
 cases y with
 |non=>
  cases ry
  cases x with
  |non=>cases rx;exact SeqAt.EqAt.same _
  |bl b=>cases rx;exact SeqAt.EqAt.none_bool b
  |int b=>obtain⟨t,rfl⟩:=rx;exact SeqAt.EqAt.none_int b t
  |str b=>obtain⟨t,rfl⟩:=rx;exact SeqAt.EqAt.none_str b t
  |_=>exact absurd (show false=true from fx) xm
 |bl a=>
  cases ry
  cases x with
  |non=>cases rx;exact SeqAt.EqAt.bool_none a
  |bl b=>cases rx;exact SeqAt.EqAt.bool_bool a b
  |int b=>obtain⟨t,rfl⟩:=rx;exact SeqAt.EqAt.bool_int a b t
  |str b=>obtain⟨t,rfl⟩:=rx;exact SeqAt.EqAt.bool_str a b t
  |_=>exact absurd (show false=true from fx) xm
 |int a=>
  obtain⟨t',rfl⟩:=ry
  cases x with
  |non=>cases rx;exact SeqAt.EqAt.int_none a t'
  |bl b=>cases rx;exact SeqAt.EqAt.int_bool a t' b
  |int b=>obtain⟨t,rfl⟩:=rx;exact SeqAt.EqAt.int_int a t' b t
  |str b=>obtain⟨t,rfl⟩:=rx;exact SeqAt.EqAt.int_str a t' b t
  |_=>exact absurd (show false=true from fx) xm
 |str a=>
  obtain⟨t',rfl⟩:=ry
  cases x with
  |non=>cases rx;exact SeqAt.EqAt.str_none a t'
  |bl b=>cases rx;exact SeqAt.EqAt.str_bool a t' b
  |int b=>obtain⟨t,rfl⟩:=rx;exact SeqAt.EqAt.str_int a t' b t
  |str b=>obtain⟨t,rfl⟩:=rx;exact SeqAt.EqAt.str_str a t' b t
  |_=>exact absurd (show false=true from fx) xm
 |_=>exact absurd (show false=true from fy) xm
noncomputable def eqU(x:V)(u:Value):Bool:=match u with
 | .none=>eqV .non x
 | .bool b=>eqV (.bl b) x
 | .int i _=>eqV (.int i) x
 | .str z _=>eqV (.str z) x
 |_=>false
theorem zei{x y:V}{u:Value}(r:RelV y u)(f:z2j y=true):eqU x u=eqV y x:=by
 cases y with
 |non=>cases r;rfl
 |bl b=>cases r;rfl
 |int i=>obtain⟨t,rfl⟩:=r;rfl
 |str z=>obtain⟨t,rfl⟩:=r;rfl
 |_=>exact absurd (show false=true from f) xm
theorem z6k{x:V}:∀{xs:List V}{us:List Value},Vals xs us->xs.all z2j=true->us.any (eqU x)=xs.any fun y=>eqV y x
 |_,_,.nil,_=>rfl
 |y::xs,u::us,.cons r t,f=>by
  rw[List.all_cons,x0y]at f
  rw[List.any_cons,List.any_cons,zei r f.1,z6k t f.2]
theorem z4q{A:Around}{s:Shared}{x:V}{v:Value}(rx:RelV x v)(fx:z2j x=true):∀{xs:List V}{us:List Value},Vals xs us->xs.all z2j=true->∀u∈us,SeqAt.EqAt A s u v (eqU x u)
 |_,_,.nil,_=>fun u hu=>by cases hu
 |y::xs,u::us,.cons r t,f=>fun u' hu=>by
  rw[List.all_cons,x0y]at f
  rcases xk.mp hu with rfl|hu
  .rw[zei r f.1];exact zjd r rx f.1 fx
  .exact z4q rx fx t f.2 u' hu
noncomputable def inV(x:V)(xs:List V):Bool:=xs.any fun y=>eqV y x
noncomputable def rIn(K:PySem.W.Frag)(neg:Bool):R2:=fun x y H Q=>∃p xs,y=.ref p/\(SqL K H p xs\/SqT K H p xs)/\z2j x=true/\xs.all z2j=true/\Q (.bl (if neg then !inV x xs else inV x xs)) H
theorem zje:OpR X (compareOp .In) (rIn X.K false):=by
 intro pins s σ H x y v u Q I rx ry h
 obtain⟨p,xs,rfl,hq,fx,fs,q⟩:=h
 cases ry
 rcases hq with hq|hq
 .obtain⟨its,r,pl,hz⟩:=I.list hq
  refine SeqAt.in_listAt (eqU x) pl.isList (fun w hw=>z4q rx fx r fs w (by simpa using hw)) ⟨.bl _,H,I,rfl,?_⟩
  rw[show its.toArray.any (eqU x)=its.any (eqU x) by simp,z6k r fs]
  exact q
 .obtain⟨its,r,pl,hz⟩:=I.tuple hq
  refine SeqAt.in_tupleAt (eqU x) pl (fun w hw=>z4q rx fx r fs w (by simpa using hw)) ⟨.bl _,H,I,rfl,?_⟩
  rw[show its.toArray.any (eqU x)=its.any (eqU x) by simp,z6k r fs]
  exact q
theorem z2r:OpR X (compareOp .NotIn) (rIn X.K true):=by
 intro pins s σ H x y v u Q I rx ry h
 obtain⟨p,xs,rfl,hq,fx,fs,q⟩:=h
 cases ry
 rcases hq with hq|hq
 .obtain⟨its,r,pl,hz⟩:=I.list hq
  refine SeqAt.notIn_listAt (eqU x) pl.isList (fun w hw=>z4q rx fx r fs w (by simpa using hw)) ⟨.bl _,H,I,rfl,?_⟩
  rw[show its.toArray.any (eqU x)=its.any (eqU x) by simp,z6k r fs]
  exact q
 .obtain⟨its,r,pl,hz⟩:=I.tuple hq
  refine SeqAt.notIn_tupleAt (eqU x) pl (fun w hw=>z4q rx fx r fs w (by simpa using hw)) ⟨.bl _,H,I,rfl,?_⟩
  rw[show its.toArray.any (eqU x)=its.any (eqU x) by simp,z6k r fs]
  exact q
theorem z10:CallR X (.builtin "len") (fun xs H Q=>∃ p ys,xs=[.ref p]/\(SqL X.K H p ys\/SqT X.K H p ys)/\Q (.int ys.length) H):=by
 intro pins s σ H xs us Q I r h
 obtain⟨p,ys,rfl,hq,q⟩:=h
 obtain⟨u,rfl,rx⟩:=z2o r
 cases rx
 have hn:=z7q
 rcases hq with hq|hq
 .obtain⟨its,r',pl,hz⟩:=I.list hq
  have hlen:=r'.length
  exact Calls.call_len_list pl.isList (by simp only[xy]<;>omega) ⟨.int ys.length,H,I.tok _,⟨s.toks+1,by rw[xy,hlen]⟩,q⟩
 .obtain⟨its,r',pl,hz⟩:=I.tuple hq
  have hlen:=r'.length
  exact len_tuple pl (by simp only[xy]<;>omega) ⟨.int ys.length,H,I.tok _,⟨s.toks+1,by rw[xy,hlen]⟩,q⟩
theorem zej:CallR X (.builtin "len") (fun xs H Q=>∃ z,xs=[.str z]/\z.length<=sizeLine/\Q (.int z.length) H):=by
 intro pins s σ H xs us Q I r h
 obtain⟨z,rfl,hz,q⟩:=h
 obtain⟨u,rfl,t,rfl⟩:=z2o r
 have hn:=z7q
 exact len_str (by omega) ⟨.int z.length,H,I.tok _,⟨_,rfl⟩,q⟩
theorem z2g:CallR X (.type "list") (fun xs H Q=>∃ p ys,xs=[.ref p]/\(SqL X.K H p ys\/SqT X.K H p ys)/\∀ l,H l=none->Q (.ref l) (upd H l (.lst ys))):=by
 intro pins s σ H xs us Q I r h
 obtain⟨p,ys,rfl,hq,q⟩:=h
 obtain⟨u,rfl,rx⟩:=z2o r
 cases rx
 have fin:∀(its:List Value),Vals ys its->ys.length<=sizeLine->∀(h':Heap)(c':Nat),(∀b o',s.heap.get? b=some o'->h'.get? b=some o')->
   h'.get? s.heap.objs.size=some { cls:=.type "list",dict:=none,data:=.seq its.toArray c',slots:=#[] }->EP X pins σ Q (.ref s.heap.objs.size) { s with heap:=h' }:=fun its r' hz h' c' kp e=>
  ⟨.ref s.heap.objs.size,_,I.laid (t':=s.toks) kp (xi _) (show ObjOk X.prog X.w _ h' _ (.lst ys) from⟨hz,its,c',r',e⟩),rfl,q _ (I.hok.fresh (xi _))⟩
 rcases hq with hq|hq
 .obtain⟨its,r',pl,hz⟩:=I.list hq
  have hlen:=r'.length
  obtain⟨o,ho,hc,n,hd⟩:=pl.isList
  exact call_list_seq p (.inl rfl) ho hc hd (fun h' c' kp e=>fin its r' hz h' c' kp e) (by simp only[xy]<;>omega)
 .obtain⟨its,r',pl,hz⟩:=I.tuple hq
  have hlen:=r'.length
  obtain⟨o,ho,hc,n,hd⟩:=pl
  exact call_list_seq p (.inr rfl) ho hc hd (fun h' c' kp e=>fin its r' hz h' c' kp e) (by simp only[xy]<;>omega)
theorem z5a:CallR X (.type "tuple") (fun xs H Q=>∃ p ys,xs=[.ref p]/\((SqL X.K H p ys/\∀ l,H l=none->Q (.ref l) (upd H l (.tup ys)))\/(SqT X.K H p ys/\Q (.ref p) H))):=by
 intro pins s σ H xs us Q I r h
 obtain⟨p,ys,rfl,h⟩:=h
 obtain⟨u,rfl,rx⟩:=z2o r
 cases rx
 rcases h with⟨hq,q⟩|⟨hq,q⟩
 .obtain⟨its,r',pl,hz⟩:=I.list hq
  have hlen:=r'.length
  refine call_tuple_list pl.isList (fun h' kp=>?_) (by simp only[xy]<;>omega)
  have I1:Inv X pins σ H { s with heap:=h' }:=I.kept (t':=s.toks) kp
  have I2:Inv X pins σ (upd H h'.objs.size (.tup ys)) { s with heap:=h'.push { cls:=.type "tuple",data:=.seq its.toArray } }:=
   I1.laid (t':=s.toks) (fun b o e=>x9 _ e) (xi _) (show ObjOk X.prog X.w _ _ _ (.tup ys) from⟨hz,its,r',IsTup.new _ _⟩)
  exact⟨.ref h'.objs.size,_,I2,rfl,q _ (I1.hok.fresh (xi _))⟩
 .obtain⟨its,r',pl,hz⟩:=I.tuple hq
  exact call_tuple_same pl ⟨.ref p,H,I,rfl,q⟩
noncomputable def tyV(K:PySem.W.Frag)(T:String)(x:V)(H:Hp):Prop:=match x with
 | .str _=>T="str"
 | .int _=>T="int"
 | .ref p=>(T="list"/\∃ xs,SqL K H p xs)\/(T="tuple"/\∃ o,K.lookup p=some o/\o.cls=.type "tuple"/\o.dict=none)\/
   (T="dict"/\((∃ kvs,H p=some (.dK kvs))\/∃ kvs,H p=some (.dT kvs)))\/(T="set"/\∃ S n,H p=some (.set S n))
 |_=>False
theorem znz{pins:List (Addr×Obj)}{σ:St}{H:Hp}{s:Shared}{T:String}{x:V}{v:Value}(I:Inv X pins σ H s)(r:RelV x v)(ty:tyV X.K T x H):
  s.TypeIs v T/\∀a,v=.ref a->∃ob,s.heap.get? a=some ob/\ob.dict=none:=by
 cases x with
 |str z=>
  obtain⟨t,rfl⟩:=r
  cases(show T="str" from ty)
  exact⟨typeIs_str s z t,fun _ e=>nomatch e⟩
 |int i=>
  obtain⟨t,rfl⟩:=r
  cases(show T="int" from ty)
  exact⟨typeIs_int s i t,fun _ e=>nomatch e⟩
 |ref p=>
  cases r
  rcases ty with⟨rfl,xs,hq⟩|⟨rfl,o,hk,hc,hd⟩|⟨rfl,hk⟩|⟨rfl,S,n,hk⟩
  .obtain⟨its,_,pl,_⟩:=I.list hq
   refine⟨pl.isList.typeIs,fun a e=>?_⟩
   cases e
   obtain⟨o,n,e,c,hd,_⟩:=pl
   exact⟨o,e,hd⟩
  .refine⟨⟨o,I.kIn p o hk,hc⟩,fun a e=>?_⟩
   cases e
   exact⟨o,I.kIn _ o hk,hd⟩
  .have z:∃o,s.heap.get? p=some o/\o.ExactDict:=by
    rcases hk with⟨kvs,hk⟩|⟨kvs,hk⟩
    .obtain⟨_,_,_,_,o,_,_,e,ex,_⟩:=I.hok p _ hk
     exact⟨o,e,ex⟩
    .obtain⟨_,_,_,_,o,_,_,e,ex,_⟩:=I.hok p _ hk
     exact⟨o,e,ex⟩
   obtain⟨o,e,ex⟩:=z
   refine⟨⟨o,e,ex.1⟩,fun a e2=>?_⟩
   cases e2
   exact⟨o,e,ex.2.1⟩
  .obtain⟨o,_,_,_,e,ex,_⟩:=I.hok p _ hk
   refine⟨⟨o,e,ex.1⟩,fun a e2=>?_⟩
   cases e2
   exact⟨o,e,ex.2.1⟩
 |_=>exact False.elim ty
noncomputable def tBM(K:PySem.W.Frag)(T:String)(r:V->List V->Hp->VK->Prop)(to:TE)(t:TA):TE:=fun σ H Q=>to σ H fun x H1=>tyV K T x H1/\t σ H1 fun xs H2=>r x xs H2 Q
variable {o e:Expr}{es:List Expr}{to:TE}{t:TA}{name:Str}{apos cpos:Pos}{T id:String}{r:V->List V->Hp->VK->Prop}
theorem z51(pa:PlainAttrs T)(slot:Slot T name id)(hty:typeOf (.builtin id)=pure (.type "method_descriptor"))(hm:MtR X id r)(ho:PE X o to)(ha:PA X (e::es) t)
  (hbase:attributeBase o name X.env (eval o X.env)=eval o X.env:=by rfl)
  (hfew:((backTo cpos (starEach (e::es) X.env)).all (fun x=>!x.1)&&(backToKw cpos (keywordEach [] X.env)).all (fun x=>x.1.isSome)
   &&decide ((e::es).length+([]:List Keyword).length+(if([]:List Keyword).isEmpty then 0 else 1)<30))=true:=by rfl)
  (hline:(apos.endLine==cpos.line)=true:=by rfl) (hs:starEach (e::es) X.env=(false,eval e X.env)::starEach es X.env:=by rfl) (hplain:(backTo cpos (starEach es X.env)).any (·.1)=false:=by rfl):
  PE X (.Call (.Attribute o name apos) (e::es) [] cpos) (tBM X.K T r to t):=by
 intro pins s σ H Q I h
 refine wpAny_Call_method_late hbase hfew hline rfl (thn (ho pins s σ H _ I h) fun v s1 ⟨x,H1,I1,r1,ty,q1⟩=>?_)
 obtain⟨h1,h2⟩:=znz I1 r1 ty
 refine⟨T,id,pa,slot,hty,h1,h2,?_⟩
 have hA:=ha cpos pins s1 σ H1 _ I1 q1
 rw[hs]at hA⊢
 refine Calls.callWith_builtin (by show(false||(backTo cpos (starEach es X.env)).any (·.1))=false;rw[hplain]<;>rfl) (Calls.evalArgs_plain ?_)
 exact thn hA fun us s2 ⟨vs,H2,I2,r2,q2⟩=>hm pins s2 σ H2 x vs v us Q I2 r1 r2 q2
end
end L2
namespace L2
open PySem PySem.Spec PyProof.Rows
noncomputable def MtM(X:Cx)(id:String)(r:V->List V->Hp->VK->Prop):Prop:=
 ∀(pins:List (Addr×Obj))(s:Shared)(σ:St)(H:Hp)(x:V)(xs:List V)(v:Value)(us:List Value)(Q:VK),Inv X pins σ H s->RelV x v->Vals xs us->r x xs H Q->
  wpAny (model X.prog X.w) X.A (call (.builtin id) (v::us)) (EP X pins σ Q) X.xe s
theorem Vals.one:∀{x:V}{us:List Value},Vals [x] us->∃u,us=[u]/\RelV x u
 |_,_,.cons r .nil=>⟨_,rfl,r⟩
theorem Vals.two:∀{x y:V}{us:List Value},Vals [x,y] us->∃u v,us=[u,v]/\RelV x u/\RelV y v
 |_,_,_,.cons r (.cons q .nil)=>⟨_,_,rfl,r,q⟩
theorem Vals.rep{xs:List V}{us:List Value}(h:Vals xs us):∀k:Nat,Vals (List.replicate k xs).flatten (List.replicate k us).flatten
 |0=>.nil
 |k+1=>by
  rw[x1u,x1u,List.flatten_cons,List.flatten_cons]
  exact Vals.append h (Vals.rep h k)
theorem zcr(its:List Value):∀(k:Nat)(acc:List Value),
  List.foldl (fun x1 x2=>x1++x2) acc.toArray (List.replicate k its.toArray)=(acc++(List.replicate k its).flatten).toArray
 |0,acc=>by simp
 |k+1,acc=>by
  have e:acc.toArray++its.toArray=(acc++its).toArray:=by simp
  have e2:(acc++its)++(List.replicate k its).flatten=acc++(List.replicate (k+1) its).flatten:=by
   rw[x1u,List.flatten_cons,List.append_assoc]
  rw[<-e2,<-zcr its k (acc++its),<-e,x1u,x21]
section
variable {X:Cx}{pins:List (Addr×Obj)}{σ:St}{H:Hp}{s:Shared}{l b:Addr}{xs ys zs:List V}
theorem Inv.lset{its its':List Value}{n:Nat}{f:Array Value->Array Value}{t':Nat}(I:Inv X pins σ H s)(hH:H l=some (.lst xs))
  (e:s.heap.get? l=some { cls:=.type "list",data:=.seq its.toArray n }) (hf:f its.toArray=its'.toArray) (hv:Vals ys its') (hz:ys.length<=sizeLine):
  Inv X pins σ (upd H l (.lst ys)) { s with heap:=s.heap.update l (Obj.mapSeq f),toks:=t' }:=by
 have q:=PySem.IsL.update e f
 rw[hf]at q
 refine I.write (x:=l) (e:=l) (by rw[hH];exact trivial) (.inl rfl) (fun b' u hb hu=>(x1q s.heap (Obj.mapSeq f) (Ne.symm hb)).trans hu) ⟨_,q⟩ ?_
 exact⟨hz,its',_,hv,q⟩
theorem Inv.lnew{its:List Value}{t':Nat}(I:Inv X pins σ H s)(hv:Vals ys its)(hz:ys.length<=sizeLine):
  Inv X pins σ (upd H s.heap.objs.size (.lst ys)) { s with heap:=s.heap.push { cls:=.type "list",data:=.seq its.toArray },toks:=t' }:=
 I.laid (fun _ _ q=>x9 _ q) (xi _) ⟨hz,its,0,hv,xr _ rfl⟩
theorem Inv.fresh(I:Inv X pins σ H s):H s.heap.objs.size=none:=I.hok.fresh (xi _)
theorem Inv.lstM(I:Inv X pins σ H s)(hH:H l=some (.lst xs)):xs.length<=sizeLine/\∃(its:List Value) (n:Nat),Vals xs its/\xs.length=its.length/\s.heap.get? l=some { cls:=.type "list",data:=.seq its.toArray n }:=by
 obtain⟨z,its,n,r,e⟩:=I.hok l _ hH
 exact⟨z,its,n,r,r.length,e⟩
theorem zlf{n:Nat}(h:n<=sizeLine):Builtin.List.listTooLong n=false:=by
 unfold Builtin.List.listTooLong
 exact x0j (by omega)
end
section
variable {X:Cx}
noncomputable def zn8:V->List V->Hp->VK->Prop:=fun x vs H Q=>∃l xs y,x=.ref l/\vs=[y]/\H l=some (.lst xs)/\xs.length<sizeLine/\Q .non (upd H l (.lst (xs++[y])))
theorem z48:MtM X "list.append" zn8:=by
 intro pins s σ H x vs v us Q I rx rv h
 obtain⟨l,xs,y,rfl,rfl,hH,hz,q⟩:=h
 cases rx
 obtain⟨u,rfl,ru⟩:=rv.one
 obtain⟨z,its,n,r,hl,e⟩:=I.lstM hH
 refine call_meets F.slot_list_append ⟨_,e,rfl⟩ F.entry_list_append (F.args_list_append_2 _ _) (PySem.list_append l its.toArray n u (by rw[xy];omega)) ⟨e,?_⟩
 refine⟨.non,_,I.lset (its':=its++[u]) hH e (by simp) (r.append (.cons ru .nil)) ?_,rfl,q⟩
 rw[xt,x1w]
 omega
noncomputable def rCat:R2:=fun x y H Q=>∃l b xs zs,x=.ref l/\y=.ref b/\H l=some (.lst xs)/\H b=some (.lst zs)/\xs.length+zs.length<=sizeLine/\∀p,H p=none->Q (.ref p) (upd H p (.lst (xs++zs)))
theorem z7s:OpR X (binaryOp .Add) rCat:=by
 intro pins s σ H x y v u Q I rx ry h
 obtain⟨l,b,xs,zs,rfl,rfl,hH,hB,hz,q⟩:=h
 cases rx
 cases ry
 obtain⟨z,its,n,r,hl,e⟩:=I.lstM hH
 obtain⟨z2,its2,n2,r2,hl2,e2⟩:=I.lstM hB
 refine PySem.P.add_list e e2 ?_ (by rw[xy,xy];omega)
 have ea:its.toArray++its2.toArray=(its++its2).toArray:=by simp
 rw[ea]
 exact⟨.ref _,_,I.lnew (t':=s.toks) (r.append r2) (by rw[xt];omega),rfl,q _ I.fresh⟩
noncomputable def rRep:R2:=fun x y H Q=>∃l k xs,x=.ref l/\y=.int k/\H l=some (.lst xs)/\ -(2 ^ 63)<=k/\k<2 ^ 63/\xs.length*k.toNat<=sizeLine/\
 ∀p,H p=none->Q (.ref p) (upd H p (.lst (List.replicate k.toNat xs).flatten))
theorem zn9{α:Type}(xs:List α)(k:Nat):(List.replicate k xs).flatten.length=k*xs.length:=by
 induction k with
 |zero=>simp
 |succ k ih=>rw[x1u,List.flatten_cons,xt,ih,Nat.succ_mul,Nat.add_comm]
theorem zo0:OpR X (binaryOp .Mult) rRep:=by
 intro pins s σ H x y v u Q I rx ry h
 obtain⟨l,k,xs,rfl,rfl,hH,h1,h2,hz,q⟩:=h
 cases rx
 obtain⟨t,rfl⟩:=ry
 obtain⟨z,its,n,r,hl,e⟩:=I.lstM hH
 have hlen:its.toArray.size*k.toNat<=sizeLine:=by rw[xy,<-hl];exact hz
 have hcap:¬ its.toArray.size*k.toNat>(2 ^ 63-1)/8:=by
  have:(sizeLine:Nat)<=(2 ^ 63-1)/8:=by decide
  omega
 have hfit:¬(!Builtin.List.listFitsIndex k)=true:=by
  rw[fitsIndex_both h1 h2]
  exact xm
 have hlong:¬ Builtin.List.listTooLong (its.toArray.size*k.toNat)=true:=by
  rw[zlf hlen]
  exact xm
 have hnew:List.foldl (fun x1 x2=>x1++x2) #[] (List.replicate (if its.toArray.isEmpty=true then 0 else k.toNat) its.toArray)=(List.replicate k.toNat its).flatten.toArray:=by
  have f0:∀m:Nat,List.foldl (fun x1 x2=>x1++x2) #[] (List.replicate m its.toArray)=(List.replicate m its).flatten.toArray:=fun m=>by
   have:=zcr its m []
   rw[List.nil_append]at this
   exact this
  rw[f0]
  cases its with
  |nil=>simp
  |cons a r'=>rw[if_neg (by simp)]
 refine wpAny_binaryOp_repeat_ref (T:="list") (U:="int") (by decide) ⟨_,e,rfl⟩ (fun s'=>typeIs_int s' k t) noFill_list_mul F.fills_int_mul F.slot_int_rmul repeat_list F.slot_int_index.lookup
  (call_meets F.slot_int_rmul (typeIs_int s k t) F.entry_int_rmul (F.args_int_rmul_2 _ _) (int___rmul___int_list k t l its.toArray n)
   ⟨e,rfl,⟨_,e,rfl⟩,call_meets F.slot_list_mul ⟨_,e,rfl⟩ F.entry_list_mul (F.args_list_mul_2 _ _) (AutoListH.list___mul___list_int_3 l its.toArray n k t hfit hcap hlong) ⟨e,?_⟩⟩)
 rw[hnew]
 exact⟨.ref _,_,I.lnew (t':=s.toks) (r.rep k.toNat) (by rw[zn9,Nat.mul_comm];exact hz),rfl,q _ I.fresh⟩
end
section
variable {prog:Program}{w:World}{A:Around}{E:Value->Shared->Prop}{s:Shared}
end
section
variable {X:Cx}
end
end L2
namespace Att
open PySem PySem.W PySem.Calls PyProof.Rows
theorem zas{P:Params}{h:Heap}:∀(ns:List Int)(vs:List Value),WellAll P h vs (ns.map WData.int)->IntsAre vs ns:=by
 intro ns
 induction ns with
 |nil=>
  intro vs w
  rw[List.map_nil]at w
  cases w
  exact .nil
 |cons n ns ih=>
  intro vs w
  rw[x0a]at w
  cases w with
  |cons a b=>
   cases a
   exact .cons _ _ (ih _ b)
theorem zjf{l:OpenLaw}{n:Nat}(hn:l.most=some n){P:Params}{h:Heap}{args:List WData}{vals:List Value}
  (hpre:l.row.toRowW.claim.pre args=true) (hwl:WellAll P h vals args):
  ∃ a vs ns,vals=[Value.ref a]/\args=[WData.list (ns.map WData.int)]/\h.get? a=some { cls:=.type "list",data:=.seq vs.toArray }/\IntsAre vs ns/\ns.length<=n:=by
 have hsh:WShape.hasAll [] args [.list .int]=true:=(pre_splitW hpre).1
 have hc:l.pre.holds [] { args:=args }=true:=(pre_splitW hpre).2
 obtain⟨d,r,rfl,h1,h2⟩:=hasAllW_cons hsh
 obtain rfl:=hasAllW_nil h2
 obtain⟨xs,rfl,h3⟩:=hasW_list h1
 obtain⟨ns,rfl⟩:=items_int h3
 have hlen:ns.length<=n:=by
  unfold OpenLaw.pre at hc
  have h4:(WTm.not (.lt (.lit (.int (n:Int))) (.len (.arg 0)))).holds [] { args:=[.list (ns.map .int)] }=true:=by
   have h4:=(holds_andW hc).1
   rw[hn]at h4
   exact h4
  have h5:=condW_of h4 (w_not (w_lt w_lit (w_len_list (w_arg rfl))))
  rw[x5]at h5
  refine Nat.le_of_not_lt fun q=>?_
  have q':(n:Int)<((ns.length:Nat):Int):=by omega
  first
   |(rw[x05 q']at h5;exact absurd h5 (by decide))
   |(simp at h5;omega)
 cases hwl with
 |cons w1 w2=>
  cases w2
  cases w1 with
  |list ho hall=>exact⟨_,_,ns,rfl,rfl,ho,zas ns _ hall,hlen⟩
theorem zjg(l:OpenLaw)(args:List WData):l.row.toRowW.claim.post args (.bool true) args=true:=
 postW_of (r:=l.row.toRowW) (X:=(true==true))
  (show WShape.has [] (.bool true) .bool=true by first|rfl|decide|simp[WShape.has,WShape.arms,WShape.armsAll])
  (show(WTm.eq .res (.lit (.bool true))).value [] { args:=args,res:=some (.bool true),after:=args }=some (.bool (true==true)) from w_eq_bool (w_res rfl) w_lit) rfl
theorem attach_call{l:OpenLaw}{n:Nat}{q:Program}{loose:List Str}{XP:(Str->Option Value)->Heap->Prop}{YP:World->Heap->Prop}{d:DefRec}
  (hn:l.most=some n) (hdf:d.params.defaults=[])
  (call:∀(w:World)(s₀ s₁:Shared)(mg mb:Str->Option Value)(fa:Addr)(o:Obj)(pm cd doc:Value)(a:Addr)(vs:List Value)(ns:List Int),
   Ground q loose [] XP w s₀ mg mb s₁.heap->YP w s₁.heap->
   s₁.heap.get? fa=some o->o.data=.func (docDef d.name d.params d.body d.scope pm cd doc)->s₁.heap.CodeRec cd d.name->mg d.name=some (.ref fa)->
   s₁.heap.get? a=some { cls:=.type "list",data:=.seq vs.toArray }->IntsAre vs ns->ns.length<=n->s₁.gens= #[]->
   codeAny (model l.prog w) callerA (.call (.ref fa) ⟨[.ref a],[]⟩) (fun r s'=>r=.ok (.ret (.bool true))/\OldK s₁.heap s'.heap/\s'.os=s₁.os/\AllBare s'.gens) s₁):
  WalkO q loose XP YP l.row.toRowW d [] (fun f vs=>PySem.call f vs):=by
 intro w s₀ s₁ mg mb G Y fa o pm cd doc dV kV ho hd hcd hD hmg hg args vals as hpre hlay hrd hwl hlo
 obtain rfl:dV=.none:=Dflts.none hD hdf
 obtain rfl:kV=.none:=Dflts.noKw hD
 obtain⟨a,vs,ns,rfl,rfl,hobj,hints,hlen⟩:=zjf hn hpre hwl
 refine enter_call (x31 (call w s₀ s₁ mg mb fa o pm cd doc a vs ns G Y ho (fd_plain hd) hcd hmg hobj hints hlen hg) fun r s' hq=>?_)
 obtain⟨rfl,h2,h3,h4⟩:=hq
 exact⟨.inl ⟨.bool true,.bool true,[],rfl,fun _=>rfl,.bool true,zjg l _,fun _=>⟨List.Pairwise.nil,fun _ hm=>(nomatch hm)⟩⟩,h2,h3,h4⟩
section
variable {prog:Program}{w:World}{A:Around}{E:Value->Shared->Prop}{s:Shared}{K:Frag}
end
end Att
namespace L2
open PySem PySem.Spec PyProof.Rows
theorem zcs:∀{vs:List Value}{ns:List Int},IntsAre vs ns->Vals (ns.map V.int) vs
 |_,_,.nil=>.nil
 |_,_,.cons n t h=>.cons ⟨t,rfl⟩ (zcs h)
noncomputable def z12(s:Stmt)(j:Nat):Stmt:=match s with
 | .ClassDef _ _ _ body _ _ _ _ _ _ _=>body.getD j (.Pass ⟨0,0,0,0⟩)
 |_=>.Pass ⟨0,0,0,0⟩
noncomputable def z24(s:Stmt):Arguments:=match s with
 | .FunctionDef _ a _ _ _ _ _ _ _ _=>a
 |_=>{ posonlyargs:=[],args:=[],vararg:=none,kwonlyargs:=[],kw_defaults:=[],kwarg:=none,defaults:=[] }
noncomputable def z1j(s:Stmt):List Stmt:=match s with
 | .FunctionDef _ _ b _ _ _ _ _ _ _=>b
 |_=>[]
noncomputable def zg(s:Stmt):Scope:=match s with
 | .FunctionDef _ _ _ _ _ _ sc _ _ _=>sc
 |_=>{ kind:=.function,names:=[],isGenerator:=false,isCoroutine:=false }
noncomputable abbrev CX0:CXT:=fun _ _ _ _ _ _=>False
noncomputable abbrev E0:XK:=fun _ _ _=>False
theorem zat{X:Cx}:z58 CX0 X E0:=fun _ _ _ _ _ _ _ h=>h.elim
structure Fun(K:PySem.W.Frag)(x qual:Str)(st:Stmt)(f:Addr)(fd:FuncData):Prop where
 ex:∃(oc:Value)(od:Option Addr)(kV doc pm:Value)(an:Option Addr)(cdv ct:Value)(osl:Array (Option Value)),
  fd=PySem.W.fnOf x qual (z24 st) (z1j st) (zg st) .none kV doc pm an cdv ct/\K.lookup f=some ⟨oc,od,.func fd,osl⟩/\PySem.W.codeIn K cdv qual=true
 kp:PySem.W.keepIn K (.ref f)=true
section
variable {P:Program}{w:World}{K:PySem.W.Frag}{mg:Str->Option Value}{base:Heap}
theorem Fun.ok{x qual:Str}{st:Stmt}{f:Addr}{fd:FuncData}{N ps:List Str}{k:Nat}{sp:Sp}(F:Fun K x qual st f fd)(S:FnScope N ps (zg st))(len:∀vs H Q E,sp vs H Q E->vs.length=ps.length)
  (hbody:∀(cdv:Value)(A:Around)(outer:List Env)(s:Shared)(H:Hp)(vs:List V)(Q:VK)(E:XK),Room k (A.deeper (envOfC qual (zg st) s.heap.objs.size f cdv))->sp vs H Q E->
   ∃t,PSs (cxOf CX0 P w K mg base N qual (zg st) f cdv A outer s H E).nox (z1j st) t/\t { nx:=fun _ H'=>Q .non H',rt:=Q } (start N vs) H):FnOk P w K mg base CX0 (k+1) f fd ps sp:=by
 obtain⟨oc,od,kV,doc,pm,an,cdv,ct,osl,rfl,lk,hcd⟩:=F.ex
 refine zhy lk hcd S len fun A outer s H vs Q E hr hsp=>?_
 obtain⟨t,h,q⟩:=hbody cdv A outer s H vs Q E hr hsp
 exact⟨t,h.nox,q⟩
theorem Fun.binds{x qual:Str}{st:Stmt}{f:Addr}{fd:FuncData}{ps:List Str}(F:Fun K x qual st f fd)
  (h:∀(kV doc pm:Value)(an:Option Addr)(cdv ct:Value)(us:List Value),us.length=ps.length->bindArgs (PySem.W.fnOf x qual (z24 st) (z1j st) (zg st) .none kV doc pm an cdv ct) ⟨us,[]⟩=pure (ps.zip us)):Binds K fd ps []:=by
 obtain⟨oc,od,kV,doc,pm,an,cdv,ct,osl,rfl,lk,hcd⟩:=F.ex
 exact .all (h kV doc pm an cdv ct)
theorem z6l{x qual:Str}{st:Stmt}{f:Addr}{oc:Value}{od an:Option Addr}{osl:Array (Option Value)}{kV doc pm cdv ct:Value}(l:K.lookup f=some ⟨oc,od,.func (PySem.W.fnOf x qual (z24 st) (z1j st) (zg st) .none kV doc pm an cdv ct),osl⟩)
  (c:PySem.W.codeIn K cdv qual=true) (k:PySem.W.keepIn K (.ref f)=true):Fun K x qual st f (PySem.W.fnOf x qual (z24 st) (z1j st) (zg st) .none kV doc pm an cdv ct):=⟨⟨oc,od,kV,doc,pm,an,cdv,ct,osl,rfl,l,c⟩,k⟩
end
theorem z3l{A:Around}{k:Nat}(hr:Room k A):A.units+1<cLine:=x1l (Nat.add_le_add_left (by decide:1<=64) _) hr.units
theorem z7t{n:Nat}(h:n<=1000):n<sizeLine:=x1l h (by decide)
section
variable {X:Cx}
theorem pv(i:Nat){x:Str}{pos:Pos}(hN:X.N[i]? =some x:=by rfl)(hv:Vis X.env.scope x:=by first|exact Or.inl rfl|exact Or.inr (Or.inl rfl)|exact Or.inr (Or.inr rfl))(hd:(x==("__debug__":Str))=false:=by decide)
  (hcd:(x==("__classdict__":Str))=false:=by decide):PE X (.Name x pos) (tVar i):=zns hN hv hd hcd
end
theorem ite2{c A B:Prop}[Decidable c](h1:c->A)(h2:¬ c->B):if c then A else B:=by
 by_cases h:c
 .rw[if_pos h]
  exact h1 h
 .rw[if_neg h]
  exact h2 h
noncomputable def Same(H H':Hp):Prop:=∀b o,H b=some o->H' b=some o
theorem Same.refl(H:Hp):Same H H:=fun _ _ h=>h
theorem Same.trans{H H1 H2:Hp}(a:Same H H1)(b:Same H1 H2):Same H H2:=fun c o h=>b c o (a c o h)
theorem Same.seq{K:PySem.W.Frag}{H H':Hp}{a:Addr}{xs:List V}(e:Same H H')(h:SqL K H a xs):SqL K H' a xs:=by
 rcases h with(h|⟨o,h⟩)|h
 .exact .inl (.inl (e _ _ h))
 .exact .inl (.inr ⟨o,e _ _ h⟩)
 .exact .inr h
noncomputable def Its(z:Str):It:=⟨fun i _=>i<z.cps.size,fun i H x H'=>H'=H/\∃c,z.cps[i]? =some c/\x=.str ⟨#[c]⟩,fun i _=>z.cps.size<=i⟩
theorem zi0{P:Program}{w:World}{K:PySem.W.Frag}{tg:Expr}(it:Addr)(z:Str)(t:Tok):Turn P w K tg (Its z) [it] it (fun i h=>h.IsStrIter it "str_ascii_iterator" z t i) where
 mem:=by simp
 obj:=fun i h st b hb=>by
  have e:b=it:=by simpa using hb
  subst e
  obtain⟨o,e,c,d⟩:=st
  exact⟨o,e,fun v q=>by rw[d]at q;cases q⟩
 keep:=fun i h h' st k=>by
  obtain⟨o,e,r⟩:=st
  exact⟨o,k it (by simp) o e,r⟩
 item:=by
  intro X hP hw hK hc i pins s σ H E I hf st hg
  subst hP hw hK
  obtain⟨f0,f1,f2,f3,f4,f5⟩:=hf it (by simp)
  have hg:i<z.cps.size:=hg
  refine wpAny_pyNext_ascii_item st (c:=z.cps[i]) (by simp[hg]) fun h' st' sb=>?_
  have I1:Inv X pins σ H { s with heap:=h',toks:=s.toks+1 }:=I.turned (fun b o hb e=>(sb.2 b hb).trans e) f0 f1 f3 f4 f5
  obtain⟨o,e,c,d⟩:=id st'
  exact⟨_,rfl,zaj (s:={ s with heap:=h',toks:=s.toks+1 }) e c d (by decide) ⟨.str ⟨#[z.cps[i]]⟩,H,I1,⟨_,rfl⟩,⟨rfl,_,by simp[hg],rfl⟩,st',fun b hb=>(hf b hb).1⟩⟩
 done:=by
  intro X hP hw hK hc i pins s σ H E I hf st hg
  subst hP hw hK
  obtain⟨f0,f1,f2,f3,f4,f5⟩:=hf it (by simp)
  have hg:z.cps.size<=i:=hg
  exact wpAny_pyNext_ascii_end (I.ok.hd hc) st (by simp[hg]) fun h' eb=>⟨rfl,I.turned (t':=s.toks) (fun b o hb e=>eb b o hb e) f0 f1 f3 f4 f5⟩
 self:=fun _ _ _ _ _ st h=>wpAny_pyIter_striter_ascii st h
theorem zjh{P:Program}{w:World}{K:PySem.W.Frag}{tg:Expr}(it:Addr)(z:Str)(t:Tok):Turn P w K tg (Its z) [it] it (fun i h=>h.IsStrIter it "str_iterator" z t i) where
 mem:=by simp
 obj:=fun i h st b hb=>by
  have e:b=it:=by simpa using hb
  subst e
  obtain⟨o,e,c,d⟩:=st
  exact⟨o,e,fun v q=>by rw[d]at q;cases q⟩
 keep:=fun i h h' st k=>by
  obtain⟨o,e,r⟩:=st
  exact⟨o,k it (by simp) o e,r⟩
 item:=by
  intro X hP hw hK hc i pins s σ H E I hf st hg
  subst hP hw hK
  obtain⟨f0,f1,f2,f3,f4,f5⟩:=hf it (by simp)
  have hg:i<z.cps.size:=hg
  refine wpAny_pyNext_wide_item st (c:=z.cps[i]) (by simp[hg]) fun h' st' sb=>?_
  have I1:Inv X pins σ H { s with heap:=h',toks:=s.toks+1 }:=I.turned (fun b o hb e=>(sb.2 b hb).trans e) f0 f1 f3 f4 f5
  obtain⟨o,e,c,d⟩:=id st'
  exact⟨_,rfl,zaj (s:={ s with heap:=h',toks:=s.toks+1 }) e c d (by decide) ⟨.str ⟨#[z.cps[i]]⟩,H,I1,⟨_,rfl⟩,⟨rfl,_,by simp[hg],rfl⟩,st',fun b hb=>(hf b hb).1⟩⟩
 done:=by
  intro X hP hw hK hc i pins s σ H E I hf st hg
  subst hP hw hK
  obtain⟨f0,f1,f2,f3,f4,f5⟩:=hf it (by simp)
  have hg:z.cps.size<=i:=hg
  exact wpAny_pyNext_wide_end (I.ok.hd hc) st (by simp[hg]) fun h' eb=>⟨rfl,I.turned (t':=s.toks) (fun b o hb e=>eb b o hb e) f0 f1 f3 f4 f5⟩
 self:=fun _ _ _ _ _ st h=>wpAny_pyIter_striter_wide st h
section
variable {X:Cx}{tg:Expr}
noncomputable def iStr(tl:TE):TI:=fun σ H R=>tl σ H fun x H1=>∃z,x=.str z/\R (Its z) H1
theorem zo1{l:Expr}{tl:TE}(hl:PE X l tl):PI X tg l (iStr tl):=by
 intro pins s σ H R I h
 refine thn (hl pins s σ H _ I h) fun v s1 ⟨x,H1,I1,r1,q1⟩=>?_
 obtain⟨z,e,q⟩:=q1
 subst e
 obtain⟨t,rfl⟩:=r1
 cases ha:z.cps.all (·<128)
 .refine wpAny_pyIter_wide ha ?_
  refine⟨s1.heap.objs.size,[s1.heap.objs.size],_,_,H1,rfl,I1.kept (t':=s1.toks) fun b o e=>x9 _ e,zjh _ z t,⟨_,xr _ rfl,rfl,rfl⟩,fun b hb=>?_,q⟩
  have e:b=s1.heap.objs.size:=by simpa using hb
  subst e
  exact I1.fpOk (xi _) (I1.hok.fresh (xi _))
 .refine wpAny_pyIter_ascii ha ?_
  refine⟨s1.heap.objs.size,[s1.heap.objs.size],_,_,H1,rfl,I1.kept (t':=s1.toks) fun b o e=>x9 _ e,zi0 _ z t,⟨_,xr _ rfl,rfl,rfl⟩,fun b hb=>?_,q⟩
  have e:b=s1.heap.objs.size:=by simpa using hb
  subst e
  exact I1.fpOk (xi _) (I1.hok.fresh (xi _))
end
noncomputable def z22(env:Env):List (Str×NameKind)->List (Str×Addr)->List (Str×Addr)
 |[],cs=>cs
 |(n,k)::r,cs=>z22 env r (if k== .free then(n,(env.cells.lookup n).getD 0)::cs else cs)
theorem z5f{sc:Scope}{env:Env}(h:∀y∈sc.names,y.2=.free->∃c,env.cells.lookup y.1=some c):closureFor sc env=pure (z22 env sc.names []):=by
 have go:∀(names:List (Str×NameKind))(cs:List (Str×Addr)),(∀y∈names,y.2=.free->∃c,env.cells.lookup y.1=some c)->
   (forIn names cs fun(x:Str×NameKind) (r:List (Str×Addr))=>(if(x.2== .free)=true then(do let a<-cellOf env x.1;pure (ForInStep.yield ((x.1,a)::r))) else pure (ForInStep.yield r):Sem (ForInStep (List (Str×Addr)))))=(pure (z22 env names cs):Sem (List (Str×Addr))):=by
  intro names
  induction names with
  |nil=>intro cs _;rfl
  |cons y r ih=>
   intro cs hy
   obtain⟨n,k⟩:=y
   rw[List.forIn_cons]
   have hr:∀z∈r,z.2=.free->∃c,env.cells.lookup z.1=some c:=fun z hz=>hy z (xx _ hz)
   by_cases hk:k=.free
   .subst hk
    obtain⟨c,hc⟩:=hy (n,.free) xp rfl
    have hc':env.cells.lookup n=some c:=hc
    simp only[x2t,if_true,z22,hc',Option.getD_some,cellOf]
    exact ih ((n,c)::cs) hr
   .have hb:(k==NameKind.free)=false:=by simpa using hk
    simp only[hb,x0g,x32,z22]
    exact ih cs hr
 unfold closureFor
 show(forIn sc.names [] (fun(x:Str×NameKind) (r:List (Str×Addr))=>(if(x.2== .free)=true then(do let a<-cellOf env x.1;pure (ForInStep.yield ((x.1,a)::r))) else pure (ForInStep.yield r):Sem (ForInStep (List (Str×Addr)))))>>=fun cs=>pure cs)=_
 rw[go sc.names [] h]
 rfl
theorem z5g{env:Env}:∀{names:List (Str×NameKind)}{cs:List (Str×Addr)}{x:Str}{c:Addr},(∀y∈names,y.2=.free->∃c,env.cells.lookup y.1=some c)->(∀y d,cs.lookup y=some d->env.cells.lookup y=some d)->
  (z22 env names cs).lookup x=some c->env.cells.lookup x=some c
 |[],cs,x,c,_,hcs,h=>hcs x c h
 |(n,k)::r,cs,x,c,hy,hcs,h=>by
  refine z5g (names:=r) (fun z hz=>hy z (xx _ hz)) ?_ h
  intro y d e
  by_cases hk:(k==NameKind.free)=true
  .rw[if_pos hk,x1c]at e
   obtain⟨c',hc'⟩:=hy (n,k) xp (by simpa using hk)
   have hc':env.cells.lookup n=some c':=hc'
   cases hyn:y==n with
   |true=>
    rw[hyn]at e
    have:y=n:=by simpa using hyn
    subst this
    simp only[hc',Option.getD_some]at e
    rw[hc'];exact e
   |false=>
    rw[hyn]at e
    exact hcs y d e
  .rw[if_neg hk]at e
   exact hcs y d e
theorem z9b{env:Env}:∀{names:List (Str×NameKind)}{cs:List (Str×Addr)}{x:Str},(∃c,cs.lookup x=some c)->∃c,(z22 env names cs).lookup x=some c
 |[],cs,x,h=>h
 |(n,k)::r,cs,x,h=>by
  refine z9b (names:=r) ?_
  split
  .rw[x1c]
   cases hxn:x==n with
   |true=>exact⟨_,rfl⟩
   |false=>exact h
  .exact h
theorem z3m{env:Env}:∀{names:List (Str×NameKind)}{cs:List (Str×Addr)}{x:Str},(x,NameKind.free)∈names->∃c,(z22 env names cs).lookup x=some c
 |[],_,_,h=>by simp at h
 |(n,k)::r,cs,x,h=>by
  rcases xk.mp h with e|h
  .cases e
   refine z9b (names:=r) ?_
   rw[if_pos (by rfl),x1c]
   rw[show(n==n)=true by simp]
   exact⟨_,rfl⟩
  .exact z3m (names:=r) h
theorem z52{env:Env}{sc:Scope}{x:Str}{k:NameKind}(h:(relabel sc env).names.lookup x=some k)(hk:k=.cell\/k=.free)(hc:∀y∈sc.names,y.2≠.cell):(x,NameKind.free)∈sc.names:=by
 have hm:=x13 h
 unfold relabel at hm
 obtain⟨⟨n,k'⟩,hn,e⟩:=xw.mp hm
 by_cases hf:(k'==NameKind.free&&env.scope.kind== .function&&env.kindOf n==some .cell)=true
 .have e':(n,NameKind.cell)=(x,k):=by
   have:=e
   simp only[hf,if_true]at this
   exact this
  injection e' with e1 e2
  subst e1
  have hk':k'=.free:=by
   rw[x0y,x0y]at hf
   simpa using hf.1.1
  rw[hk']at hn
  exact hn
 .have e':(n,k')=(x,k):=by
   have:=e
   simp only[hf,x32]at this
   exact this
  injection e' with e1 e2
  subst e1 e2
  rcases hk with z|z
  .exact absurd z (hc _ hn)
  .rw[z]at hn;exact hn
noncomputable abbrev z11(X:Cx)(sc:Scope)(N:List Str)(s:Shared)(H:Hp)(C:Addr)(fp:List Addr):Cx:=
 { X with N:=N,s₀:=s,H₀:=H,env:=compEnvC sc (z22 X.env sc.names []) C X.env,outer:=X.stack,stack:=X.stack,ex:=fp,fn:=fun _=>false,pn:=[],xe:=fun _ _=>False }
noncomputable def CapOk(X:Cx)(sc:Scope):List Str->List Nat->Prop
 |[],[]=>True
 |y::r,j::js=>(X.N[j]? =some y/\(X.env.kindOf y=some .cell\/X.env.kindOf y=some .free)/\sc.names.lookup y=some .free)/\CapOk X sc r js
 |_,_=>False
theorem CapOk.len{X:Cx}{sc:Scope}:∀{cap:List Str}{js:List Nat},CapOk X sc cap js->cap.length=js.length
 |[],[],_=>rfl
 |_::_,_::_,h=>x12 (·+1) (CapOk.len h.2)
 |[],_::_,h=>h.elim
 |_::_,[],h=>h.elim
theorem CapOk.get{X:Cx}{sc:Scope}:∀{cap:List Str}{js:List Nat}{i:Nat}{y:Str},CapOk X sc cap js->cap[i]? =some y->∃j,js[i]? =some j/\X.N[j]? =some y/\(X.env.kindOf y=some .cell\/X.env.kindOf y=some .free)/\sc.names.lookup y=some .free
 |[],[],_,_,_,e=>by simp at e
 |y::_,j::_,0,_,h,e=>by
  simp at e;subst e
  exact⟨j,rfl,h.1⟩
 |_::r,_::js,i+1,y,h,e=>by
  obtain⟨j,e1,e2⟩:=CapOk.get (i:=i) h.2 (by simpa using e)
  exact⟨j,by simpa using e1,e2⟩
 |[],_::_,_,_,h,_=>h.elim
 |_::_,[],_,_,h,_=>h.elim
noncomputable def capt(σ:St)(js:List Nat):St:=js.map fun j=>(σ[j]?).join
structure CompScope(X:Cx)(sc:Scope)(x:Str)(cap:List Str)(js:List Nat):Prop where
 kind:sc.kind=.function
 nocell:∀y∈sc.names,y.2≠.cell
 names:∀y∈sc.names,y.2=.local->sc.names.lookup y.1=some .local
 own:sc.names.lookup x=some .local
 free:∀y∈sc.names,y.2=.free->X.env.kindOf y.1=some .cell\/X.env.kindOf y.1=some .free
 nd:(x::cap).Nodup
 caps:CapOk X sc cap js
section
variable {X:Cx}{sc:Scope}{x:Str}{cap:List Str}{js:List Nat}{pins:List (Addr×Obj)}{σ:St}{H:Hp}{s:Shared}
theorem CompScope.cells(S:CompScope X sc x cap js)(I:Inv X pins σ H s):∀y∈sc.names,y.2=.free->∃c,X.env.cells.lookup y.1=some c:=fun y hy hf=>I.ok.has y.1 (S.free y hy hf)
theorem CompScope.sub(S:CompScope X sc x cap js)(I:Inv X pins σ H s){y:Str}{c:Addr}(h:(z22 X.env sc.names []).lookup y=some c):X.env.cells.lookup y=some c:=
 z5g (S.cells I) (fun _ _ e=>by simp at e) h
theorem zi1{s4:Shared}{h4:Heap}{t4:Nat}{fp:List Addr}{C:Addr}{v:Option V}{m:Str->Option Value}(S:CompScope X sc x cap js)(I:Inv X pins σ H s)(hfp:∀b∈fp,FpOk X pins H b)(hlt:∀b∈fp,b<s.heap.objs.size)
  (hC:s.heap.objs.size<=C) (hn:h4.Ns C m) (k:∀b o,s.heap.get? b=some o->h4.get? b=some o):
  Inv (z11 X sc (x::cap) s H C fp) [] (none::capt σ js) H { s with heap:=h4,toks:=t4 }:=by
 have nf:∀b∈frs X.stack,b<s.heap.objs.size:=fun b hb=>by
  obtain⟨_,o,ho,_⟩:=I.stack.mem hb
  exact xn ho
 refine⟨⟨I.ok.mod,S.kind,I.ok.glob,I.ok.blt,hC,fun y z c h1 h2=>I.ok.inj y z c (S.sub I h1) (S.sub I h2),fun y hy=>?_,fun y c h=>absurd h xm,I.ok.hd,I.ok.frames,.inl rfl,fun b hb=>⟨xu (x00 (hlt b hb) hC),fun y c e=>(hfp b hb).2.2.2.2.1 y c (S.sub I e)⟩,I.bs,
   x01 I.ok.bsz I.sz,fun b o e hb=>?_,fun b hb z=>?_,I.stack,I.stkFree⟩,rfl,I.bare,Un.kept k,⟨m,hn,fun i y v' h1 h2 h3=>?_⟩,fun y c e=>?_,I.hok.fresh hC,fun y c e=>I.freeC y c (S.sub I e),fun p hp=>absurd (show p∈([]:List (Addr×Obj)) from hp) (by simp),I.hok.kept k,?_⟩
 .exact z3m (by
   rcases hy with z|z
   .exact z52 z (.inl rfl) S.nocell
   .exact z52 z (.inr rfl) S.nocell)
 .rcases(hfp b hb).2.2.2.1 with z|z
  .exact I.ok.noex b o e z
  .exact absurd (x00 (xn e) (x01 I.ok.bsz z)) (x0o _)
 .rcases xk.mp (I.stkSub b z) with q|q
  .exact(hfp b hb).2.1 q
  .exact(hfp b hb).2.2.1 q
 .cases i with
  |zero=>exact absurd (show(none:Option V)=some v' from xq h2) (by simp)
  |succ i=>
   have e1:cap[i]? =some y:=by simpa using h1
   obtain⟨j,q1,q2,q3,q4⟩:=S.caps.get e1
   have e2:(capt σ js)[i]? =some (some v'):=by simpa using h2
   have e3:σ[j]? =some (some v'):=by
    unfold capt at e2
    rw[xj,q1,x18]at e2
    have e4:(σ[j]?).join=some v':=xq e2
    cases q:σ[j]? with
    |none=>rw[q]at e4;cases e4
    |some w=>rw[q]at e4;exact x12 some e4
   have vis:Vis X.env.scope y:=by
    rcases q3 with q3|q3
    .exact .inr (.inl q3)
    .exact .inr (.inr q3)
   obtain⟨mX,hnX,hl⟩:=I.loc
   obtain⟨u,ru,lk⟩:=hl j y v' q2 e3 vis
   refine⟨u,ru,.inr ?_⟩
   rcases lk with⟨hk,_⟩|⟨hk,c,hc,hcell⟩
   .rcases q3 with q3|q3
    .rw[q3]at hk;cases hk
    .rw[q3]at hk;cases hk
   .obtain⟨c',hc'⟩:=z3m (env:=X.env) (cs:=[]) (x13 q4)
    have:=S.sub I hc'
    rw[hc]at this
    cases this
    obtain⟨o,ho,hd⟩:=hcell
    refine⟨?_,c,hc',⟨o,k c o ho,hd⟩⟩
    rcases h3 with z|z|z
    .exfalso
     have hz:=x13 z
     obtain⟨⟨n,k'⟩,hn',en⟩:=xw.mp hz
     by_cases hf:(k'==NameKind.free&&X.env.scope.kind== .function&&X.env.kindOf n==some .cell)=true
     .simp only[hf,if_true]at en
      cases en
     .simp only[hf,x32]at en
      cases en
      have:=S.names _ hn' rfl
      rw[q4]at this
      cases this
    .exact .inl z
    .exact .inr z
 .obtain⟨v',o,ho,hd⟩:=I.cell y c (S.sub I e)
  exact⟨v',o,k c o ho,hd⟩
 .show(none::capt σ js).length=(x::cap).length
  unfold capt
  rw[x09,x09,x5,S.caps.len]
theorem z9m{sB:Shared}{hB:Heap}{fp:List Addr}{C D:Addr}{HB:Hp}{σB:St}{pinsB:List (Addr×Obj)}{acc:List V}{its:List Value}{n:Nat}
  (I:Inv X pins σ H s) (hfp:∀b∈fp,FpOk X pins H b) (IB:Inv (z11 X sc (x::cap) s H C fp) pinsB σB HB sB) (hC:s.heap.objs.size<=C) (hD:s.heap.objs.size<=D) (hDC:D≠C) (hHD:HB D=none)
  (hd:sB.heap.get? D=some { cls:=.type "list",data:=.seq its.toArray n }) (rv:Vals acc its) (hz:acc.length<=sizeLine) (sb:∀ b o,b≠C->sB.heap.get? b=some o->hB.get? b=some o):
  Inv X pins σ (upd HB D (.lst acc)) { sB with heap:=hB }:=by
 have u:=IB.base
 have hdB:=sb D _ hDC hd
 have ltD:∀b o,s.heap.get? b=some o->b≠D:=fun b o e=>xu (x00 (xn e) hD)
 have ltC:∀b o,s.heap.get? b=some o->b≠C:=fun b o e=>xu (x00 (xn e) hC)
 refine I.call' (ch:=fp) IB.os ⟨fun b o e n hb hx=>sb b o (ltC b o e) (u.keep b o e n hb hx),fun b o e n hb hx=>?_,fun b o e n hx=>by rw[zc (ltD b o e)];exact u.free b o e n hx,fun b o e hx=>?_,
  fun b xs e=>by rw[zc (zh (u.tups b xs e) hHD)];exact u.tups b xs e,fun b o xs e=>by rw[zc (zh (u.frzs b o xs e) hHD)];exact u.frzs b o xs e,fun b ps e=>?_⟩ ?_ IB.bare fun b hb=>?_
 .obtain⟨sl,q⟩:=u.slot b o e n hb hx
  exact⟨sl,sb b _ (ltC b o e) q⟩
 .obtain⟨o',q⟩:=u.there b o e hx
  exact⟨o',sb b _ (ltC b o e) q⟩
 .obtain⟨m1,q⟩:=u.tbls b ps e
  exact⟨m1,by rw[zc (zh q hHD)];exact q⟩
 .intro a o e
  by_cases ha:a=D
  .subst ha
   rw[z9]at e
   cases e
   exact⟨hz,its,n,rv,hdB⟩
  .rw[zc ha]at e
   refine(IB.hok a o e).stay (fun b w' hb q=>sb b w' (fun z=>?_) q) (fun b q=>by rw[zc (zh q hHD)];exact q) fun b xs q=>by rw[zc (zh q hHD)];exact q
   have fC:HB C=none:=IB.free
   rcases hb with hb|hb
   .rw[z]at hb;rw[<-hb,fC]at e;cases e
   .rw[z,fC]at hb;cases hb
 .obtain⟨f0,f1,f2,f3,f4,f5⟩:=hfp b hb
  exact⟨f3,f1,f4,f5⟩
end
end L2
end
section
namespace L2
open PySem PySem.Spec PyProof.Rows
noncomputable def PIf(X:Cx)(ifs:List Expr)(t:TT):Prop:=
 ∀(pins:List (Addr×Obj))(s:Shared)(σ:St)(H:Hp)(Q:Bool->Hp->Prop),Inv X pins σ H s->t σ H Q->
  wpAny (model X.prog X.w) X.A (forIn ifs true fun c r=>if r=true then do let ok<-isTrue c X.env (eval c X.env);pure (ForInStep.yield ok) else pure (ForInStep.yield r)) (TP X pins σ Q) X.xe s
noncomputable def tYes:TT:=fun _ H Q=>Q true H
theorem z1o{X:Cx}:PIf X [] tYes:=fun _ _ _ H _ I h=>xh ⟨H,I,h⟩
theorem z2k{X:Cx}{c:Expr}{tc:TT}(h:PT X c tc):PIf X [c] tc:=by
 intro pins s σ H Q I hw
 simp only[List.forIn_cons,List.forIn_nil,if_true]
 refine x6 (x6 (thn (h pins s σ H Q I hw) fun b s1 q=>?_))
 exact xh (xh q)
noncomputable def z3a(J:It)(tc:TT)(te:TE)(js:List Nat)(σ:St)(H1:Hp)(Q:VK):Prop:=
 ∃W:Nat->Nat->List V->Hp->Prop,(∃m,W 0 m [] H1)/\∀i m acc H,W i m acc H->
  (J.stop i H/\∀p,H p=none->Q (.ref p) (upd H p (.lst acc)))\/
  (J.go i H/\acc.length<sizeLine/\∀x H',J.yld i H x H'->tc (some x::capt σ js) H' fun b H2=>
   if b=true then te (some x::capt σ js) H2 fun v H3=>∃m',m'<m/\W (i+1) m' (acc++[v]) H3 else∃m',m'<m/\W (i+1) m' acc H2)
noncomputable def zi2(wi:TI)(tc:TT)(te:TE)(js:List Nat):TE:=fun σ H Q=>wi σ H fun J H1=>z3a J tc te js σ H1 Q
theorem z9c{prog:Program}{w:World}{A:Around}{R:Result->Shared->Prop}{s:Shared}{elt target iter:Expr}{ifs:List Expr}{scope:Scope}{pos:Pos}{it acc:Value}{env:Env}(I:Nat->Shared->Prop)
  (turn:∀n s,I n s->wpAny (model prog w) A (pyNext it) (fun r s₁=>match r with
   |none=>R (.ok .next) s₁
   | some v=>wpAny (model prog w) A (letOwnedTupleGo target it v) (fun _ s₀=>wpAny (model prog w) A (assign target env v) (fun _ s₂=>
     wpAny (model prog w) A (forIn ifs true fun c r=>if r=true then do let ok<-isTrue c env (eval c env);pure (ForInStep.yield ok) else pure (ForInStep.yield r)) (fun ok s₃=>
      if ok=true then wpAny (model prog w) A (eval elt env) (fun x s₄=>
       wpAny (model prog w) A (call (.builtin "list.append") [acc,x]) (fun _ s₅=>∃ m,m<n/\I m s₅) (fun _ _=>False) s₄) (fun _ _=>False) s₃
      else∃m,m<n/\I m s₃) (fun _ _=>False) s₂) (fun _ _=>False) s₀) (fun _ _=>False) s₁) (fun _ _=>False) s)
  (n:Nat) (h:I n s):
  codeAny (model prog w) A (.compLoop (.ListComp elt [⟨target,iter,ifs,0⟩] scope pos) 0 it acc env) R s:=by
 refine codeAny_loop rfl I (fun n s hI=>?_) n h
 show wpAny _ A ((compTurn (.ListComp elt [⟨target,iter,ifs,0⟩] scope pos) 0 it acc env).onRaise (fun x=>do noteFrame x env;theTreesLotGoes x)) _ _ s
 refine wpAny_noted (x0e (E:=fun _ _=>False) ?_ (fun _ _ q=>q) fun _ _ z=>z.elim)
 rw[compTurn_list]
 refine x6 (wpAny_standAt (x6 (x0e (turn n s hI) (fun r s₁ h₁=>?_) fun _ _ h'=>h')))
 cases r with
 |none=>exact xh h₁
 |some v=>
  refine x6 (x0e h₁ (fun _ s₀ h₀=>?_) fun _ _ h'=>h')
  refine x6 (x0e h₀ (fun _ s₂ h₂=>x6 (x0e h₂ (fun ok s₃ h₃=>?_) fun _ _ h'=>h')) fun _ _ h'=>h')
  cases ok with
  |false=>exact xh ⟨rfl,h₃⟩
  |true=>
   exact x6 (x6 (x0e h₃ (fun x s₄ h₄=>x6 (x0e h₄ (fun _ s₅ h₅=>xh (xh ⟨rfl,h₅⟩)) fun _ _ h'=>h')) fun _ _ h'=>h'))
section
variable {X:Cx}{sc:Scope}{x:Str}{cap:List Str}{js:List Nat}{pins:List (Addr×Obj)}{σ:St}{H:Hp}{s:Shared}{elt iter:Expr}{ifs:List Expr}{px pos:Pos}{tc:TT}{te:TE}
theorem zau{J:It}{it:Addr}{fp:List Addr}{tn:Nat->Heap->Prop}{Q:VK}{E:Value->Shared->Prop}{RR:Value->Addr->Result->Shared->Prop}(S:CompScope X sc x cap js)(hcalm:X.calm=true)
  (hc:∀s H C fp,PIf (z11 X sc (x::cap) s H C fp) ifs tc) (he:∀s H C fp,PE (z11 X sc (x::cap) s H C fp) elt te)
  (I:Inv X pins σ H s) (T:Turn X.prog X.w X.K (.Name x px) J fp it tn) (st:tn 0 s.heap) (hfp:∀b∈fp,FpOk X pins H b) (go:z3a J tc te js σ H Q)
  (hRR:∀ D C HB sB σB acc its n,s.heap.objs.size<=D->s.heap.objs.size<=C->D≠C->Inv (z11 X sc (x::cap) s H C fp) [] σB HB sB->HB D=none->sB.heap.get? D=some { cls:=.type "list",data:=.seq (its:List Value).toArray n }->Vals acc its->acc.length<=sizeLine->
   (∀p,HB p=none->Q (.ref p) (upd HB p (.lst acc)))->RR (.ref D) C (.ok .next) sB):
  wpAny (model X.prog X.w) X.A (newList []) (fun acc s₃=>wpAny (model X.prog X.w) X.A (newFunctionEnv sc X.env.globals (z22 X.env sc.names []) [] X.env.qual none .none (some X.env)) (fun cenv s₄=>
   codeAny (model X.prog X.w) X.A (.compStart (.ListComp elt [⟨.Name x px,iter,ifs,0⟩] sc pos) 0 (.ref it) acc { cenv with scope:=relabel sc X.env }) (RR acc cenv.locals) s₄) E s₃) E s:=by
 refine x10 (wpAny_newFunctionEnv S.nocell (by intro y hy;simp at hy) (fun h₁ hns₁ hsb₁=>?_) S.kind)
 dsimp only at hns₁ hsb₁⊢
 generalize hH2:s.heap.push { cls:=.type "list",dict:=none,data:=.seq ([]:List Value).toArray }=H2 at hns₁ hsb₁⊢
 have hCs:H2.objs.size=s.heap.objs.size+1:=by rw[<-hH2,x14]
 have hDC:s.heap.objs.size≠H2.objs.size:=by rw[hCs];exact xu (x0q _)
 have hCle:s.heap.objs.size<=H2.objs.size:=by rw[hCs];exact x2r _
 have below:∀b,b<s.heap.objs.size->b≠H2.objs.size:=fun b hb=>by rw[hCs];exact xu (x1g hb)
 have old:∀b o,s.heap.get? b=some o->h₁.get? b=some o:=fun b o e=>hsb₁.extBut b o (below b (xn e)) (x9 _ (hH2▸x9 _ e))
 have hacc:h₁.get? s.heap.objs.size=some { cls:=.type "list",data:=.seq ([]:List Value).toArray 0 }:=hsb₁.extBut _ _ hDC (x9 _ (hH2▸xr _ rfl))
 have hlt:∀b∈fp,b<s.heap.objs.size:=fun b hb=>by
  obtain⟨o,e,_⟩:=T.obj _ _ st b hb
  exact xn e
 have hlocal:(relabel sc X.env).names.lookup x=some .local:=lookup_relabel_local S.own
 obtain⟨W,⟨m0,w0⟩,turn⟩:=go
 have nD:∀b∈fp,b≠s.heap.objs.size:=fun b hb=>xu (hlt b hb)
 have nfs:s.heap.objs.size∉frs X.stack:=fun z=>by
  obtain⟨_,o,ho,_⟩:=I.stack.mem z
  exact absurd (xn ho) (x0o _)
 have ncl:∀y c,(z22 X.env sc.names []).lookup y=some c->c≠s.heap.objs.size:=fun y c e=>by
  obtain⟨v,o,ho,_⟩:=I.cell y c (S.sub I e)
  exact xu (xn ho)
 have loop:∀s₃:Shared,s₃={ s with heap:=h₁,toks:=s.toks+([]:List (Str×Value)).length }->
   codeAny (model X.prog X.w) X.A (.compLoop (.ListComp elt [⟨.Name x px,iter,ifs,0⟩] sc pos) 0 (.ref it) (.ref s.heap.objs.size) (compEnvC sc (z22 X.env sc.names []) H2.objs.size X.env))
    (RR (.ref s.heap.objs.size) H2.objs.size) s₃:=by
  rintro s₃ rfl
  have I0:Inv (z11 X sc (x::cap) s H H2.objs.size fp) [] (none::capt σ js) H { s with heap:=h₁,toks:=s.toks+([]:List (Str×Value)).length }:=zi1 (v:=none) S I hfp hlt hCle hns₁ old (s4:=s)
  refine z9c (fun n s'=>∃i H' acc its k,Inv (z11 X sc (x::cap) s H H2.objs.size fp) [] (none::capt σ js) H' s'/\tn i s'.heap/\(∀b∈fp,H' b=none)/\H' s.heap.objs.size=none/\
    s'.heap.get? s.heap.objs.size=some { cls:=.type "list",data:=.seq (its:List Value).toArray k }/\Vals acc its/\acc.length<=sizeLine/\W i n acc H') ?_ m0
   ⟨0,H,[],[],0,I0,T.keep _ _ _ st fun b _ o e=>old b o e,fun b hb=>(hfp b hb).1,I.hok.fresh (xi _),hacc,.nil,x08 _,w0⟩
  rintro n s3 ⟨i,H3,acc,its,kk,I3,st3,fr3,fD3,d3,r3,z3,w3⟩
  have fpY:∀{H':Hp}{pl:List (Addr×Obj)},(∀b∈fp,H' b=none)->(∀p∈pl,p.1=s.heap.objs.size)->∀b∈fp,FpOk (z11 X sc (x::cap) s H H2.objs.size fp) pl H' b:=fun{H' pl} hn hp b hb=>
   ⟨hn b hb,below b (hlt b hb),fun z=>by
    rcases xk.mp (I.stkSub b z) with q|q
    .exact(hfp b hb).2.1 q
    .exact(hfp b hb).2.2.1 q,.inl hb,fun y c e=>(hfp b hb).2.2.2.2.1 y c (S.sub I e),fun p hp'=>by
    rw[hp p hp']
    exact Ne.symm (nD b hb)⟩
  have pin3:Inv (z11 X sc (x::cap) s H H2.objs.size fp) [(s.heap.objs.size,{ cls:=.type "list",data:=.seq its.toArray kk })] (none::capt σ js) H3 s3:=I3.pins_of fun p hp=>by
   have e:p=(s.heap.objs.size,{ cls:=.type "list",data:=.seq its.toArray kk }):=by simpa using hp
   subst e
   exact⟨d3,fD3,hDC,nfs,fun v z=>by cases z⟩
  have onlyD:∀ p∈[(s.heap.objs.size,({ cls:=.type "list",data:=.seq its.toArray kk }:Obj))],p.1=s.heap.objs.size:=fun p hp=>by
   have e:p=(s.heap.objs.size,{ cls:=.type "list",data:=.seq its.toArray kk }):=by simpa using hp
   rw[e]
  rcases turn i n acc H3 w3 with⟨stop,qn⟩|⟨gon,hlen,step⟩
  .refine x0e (T.done (z11 X sc (x::cap) s H H2.objs.size fp) rfl rfl rfl hcalm i _ s3 _ H3 (fun _ _=>False) pin3 (fpY fr3 onlyD) st3 stop) (fun r s4 hr=>?_) fun _ _ z=>z.elim
   obtain⟨hr,I4⟩:=hr
   subst hr
   have d4:=(I4.pin _ (x03 _ xp)).1
   exact hRR _ _ H3 s4 _ acc its kk (xi _) hCle hDC (I4.pins_of fun p hp=>by simp at hp) fD3 d4 r3 z3 qn
  .refine x0e (T.item (z11 X sc (x::cap) s H H2.objs.size fp) rfl rfl rfl hcalm i _ s3 _ H3 (fun _ _=>False) pin3 (fpY fr3 onlyD) st3 gon) (fun r s4 hr=>?_) fun _ _ z=>z.elim
   obtain⟨u,hr,h4⟩:=hr
   subst hr
   dsimp only
   refine x0e h4 (fun _ s5 h5=>?_) fun _ _ z=>z.elim
   obtain⟨xv,H5,I5,r5,y5,st5,fr5⟩:=h5
   have I5':=I5.pinned (fpY fr5 onlyD) (T.obj _ _ st5)
   refine wpAny_assign_Name (z9j (X:=z11 X sc (x::cap) s H H2.objs.size fp) I5' S.nd (i:=0) rfl (.inl hlocal) r5 (fun s6 I6=>?_) (.inr hlocal))
   have I6':Inv (z11 X sc (x::cap) s H H2.objs.size fp) ([(s.heap.objs.size,{ cls:=.type "list",data:=.seq its.toArray kk })]++z5m fp s5.heap) (some xv::capt σ js) H5 s6:=I6
   refine x0e (hc s H H2.objs.size fp _ s6 _ H5 _ I6' (step xv H5 y5)) (fun b s7 q7=>?_) fun _ _ z=>z.elim
   obtain⟨H7,I7,q7⟩:=q7
   have weak:∀{pl:List (Addr×Obj)}{HH:Hp}{ss:Shared},Inv (z11 X sc (x::cap) s H H2.objs.size fp) pl (some xv::capt σ js) HH ss->Inv (z11 X sc (x::cap) s H H2.objs.size fp) pl (none::capt σ js) HH ss:=fun J=>J.weak rfl fun k v e=>by
    cases k with
    |zero=>exact absurd (xq e) (by simp)
    |succ k=>simpa using e
   have back:∀{HH:Hp} {ss:Shared},Inv (z11 X sc (x::cap) s H H2.objs.size fp) ([(s.heap.objs.size,{ cls:=.type "list",data:=.seq its.toArray kk })]++z5m fp s5.heap) (some xv::capt σ js) HH ss->
     tn (i+1) ss.heap/\(∀ b∈fp,HH b=none)/\HH s.heap.objs.size=none/\ss.heap.get? s.heap.objs.size=some { cls:=.type "list",data:=.seq its.toArray kk }:=fun{HH ss} K=>by
    refine⟨T.keep _ _ _ st5 fun b hb o e=>(K.pin (b,o) (x03 _ (x03 _ (z3k hb e)))).1,fun b hb=>?_,?_,?_⟩
    .obtain⟨o,e,d⟩:=T.obj _ _ st5 b hb
     exact(K.pin (b,o) (x03 _ (x03 _ (z3k hb e)))).2.1
    .exact(K.pin _ (x03 _ (x0p _ xp))).2.1
    .exact(K.pin _ (x03 _ (x0p _ xp))).1
   cases b with
   |false=>
    rw[if_neg xm]at q7⊢
    obtain⟨m',hm,w7⟩:=q7
    obtain⟨b1,b2,b3,b4⟩:=back I7
    exact⟨m',hm,i+1,H7,acc,its,kk,(weak I7).pins_of fun p hp=>by simp at hp,b1,b2,b3,b4,r3,z3,w7⟩
   |true=>
    rw[if_pos rfl]at q7⊢
    refine x0e (he s H H2.objs.size fp _ s7 _ H7 _ I7 q7) (fun u8 s8 q8=>?_) fun _ _ z=>z.elim
    obtain⟨v8,H8,I8,r8,m',hm,w8⟩:=q8
    obtain⟨b1,b2,b3,b4⟩:=back I8
    have hl3:=r3.length
    refine call_meets F.slot_list_append ⟨_,b4,rfl⟩ F.entry_list_append (F.args_list_append_2 _ _) (PySem.list_append s.heap.objs.size its.toArray kk u8 (by rw[xy];omega)) ⟨b4,?_⟩
    have q:=PySem.IsL.update b4 (·.push u8)
    obtain⟨n',q'⟩:∃ n',(s8.heap.update s.heap.objs.size (Obj.mapSeq (·.push u8))).get? s.heap.objs.size=some { cls:=.type "list",data:=.seq (its++[u8]).toArray n' }:=by
     rw[show(its++[u8]).toArray=its.toArray.push u8 by simp]
     exact⟨_,q⟩
    refine⟨m',hm,i+1,H8,acc++[v8],its++[u8],_,?_,T.keep _ _ _ b1 fun b hb o e=>(x1q s8.heap _ (Ne.symm (nD b hb))).trans e,b2,b3,q',r3.append (.cons r8 .nil),by rw[xt,x1w];omega,w8⟩
    exact Inv.turned (X:=z11 X sc (x::cap) s H H2.objs.size fp) (it:=s.heap.objs.size) ((weak I8).pins_of (pins':=[]) fun p hp=>by simp at hp) (fun b o hb e=>(x1q s8.heap _ (Ne.symm hb)).trans e) b3 hDC (.inr (xi _)) ncl (fun p hp=>absurd (show p∈([]:List (Addr×Obj)) from hp) (by simp))
 exact codeAny_compStart_list (loop _ rfl) (T.self _ 0 _ _ _ (T.keep _ _ _ st fun b _ o e=>old b o e) (loop _ rfl))
theorem z1k{wi:TI}(hcalm:X.calm=true)(S:CompScope X sc x cap js)(hi:PI X (.Name x px) iter wi)(hc:∀s H C fp,PIf (z11 X sc (x::cap) s H C fp) ifs tc)(he:∀s H C fp,PE (z11 X sc (x::cap) s H C fp) elt te)
  (hs:∀x,foldedSetIterable iter X.env x=pure x:=by intro _;rfl):PE X (.ListComp elt [⟨.Name x px,iter,ifs,0⟩] sc pos) (zi2 wi tc te js):=by
 intro pins s σ H Q I h
 rw[eval_ListComp]
 refine wpAny_comprehension_free (use:=none) rfl hs (z5f (S.cells I)) S.kind S.names (thn (hi pins s σ H _ I h) fun v s1 h1=>thn h1 fun itv s2 h2=>?_)
 obtain⟨it,fp,tn,J,H2,e,I2,T,st2,f2,go⟩:=h2
 subst e
 refine zau S hcalm hc he I2 T st2 f2 go fun D C HB sB σB acc its n hD hC hDC IB hHD hd rv hz q=>?_
 obtain⟨m,hn,_⟩:=IB.loc
 exact⟨m,hn,fun h' sb=>⟨.ref D,upd HB D (.lst acc),z9m (sc:=sc) (x:=x) (cap:=cap) I2 f2 IB hC hD hDC hHD hd rv hz fun b o hb e=>sb.extBut b o hb e,rfl,q D hHD⟩⟩
theorem z2m{wi:TI}{i:Nat}{y:Str}{py spos:Pos}(hcalm:X.calm=true)(S:CompScope X sc x cap js)(hN:X.N.Nodup)(hi':X.N[i]? =some y)(hx:Loc X.env.scope y)(hi:PI X (.Name x px) iter wi)(hc:∀s H C fp,PIf (z11 X sc (x::cap) s H C fp) ifs tc)(he:∀s H C fp,PE (z11 X sc (x::cap) s H C fp) elt te)
  (hsw:swapsWith (.ListComp elt [⟨.Name x px,iter,ifs,0⟩] sc pos) (some (.Name y py)) spos.line X.env=pure true:=by rfl) (hs:∀x,foldedSetIterable iter X.env x=pure x:=by intro _;rfl)
  (hf:X.fn y=true\/X.env.scope.names.lookup y=some .local:=by first|exact .inl rfl|exact .inr rfl|assumption):PS X (.Assign [.Name y py] (.ListComp elt [⟨.Name x px,iter,ifs,0⟩] sc pos) spos) (tAsg (zi2 wi tc te js) (zah i)):=by
 intro pins s σ H D I h
 rw[exec_Assign_Name_used _ _ _ _ hsw]
 refine x6 (wpAny_standAt (x6 ?_))
 show wpAny _ X.A (do let _<-comprehension (.ListComp elt [⟨.Name x px,iter,ifs,0⟩] sc pos) sc X.env _ (newList []) false (eval iter X.env) (some (assign (.Name y py) X.env))) _ _ s
 refine x6 (x0e (wpAny_comprehension_free (use:=some (assign (.Name y py) X.env)) (Q:=fun _ s'=>SP X pins D .next s') rfl hs (z5f (S.cells I)) S.kind S.names (thn (hi pins s σ H _ I h) fun v s1 h1=>thn h1 fun itv s2 h2=>?_)) (fun _ s' hq=>xh (xh hq)) fun _ _ e=>e)
 obtain⟨it,fp,tn,J,H2,e,I2,T,st2,f2,go⟩:=h2
 subst e
 refine zau S hcalm hc he I2 T st2 f2 go fun D' C HB sB σB acc its n hD hC hDC IB hHD hd rv hz q=>?_
 obtain⟨m,hn,_⟩:=IB.loc
 have IE:Inv X pins σ (upd HB D' (.lst acc)) sB:=z9m (hB:=sB.heap) (sc:=sc) (x:=x) (cap:=cap) I2 f2 IB hC hD hDC hHD hd rv hz fun b o hb e=>e
 refine wpAny_assign_Name (zcm IE hN hi' hx (v:=.ref D') rfl (fun s3 I3 hsb=>?_) hf)
 obtain⟨a,sba,ha⟩:=hsb
 have aC:C≠a:=by
  rcases ha with z|z
  .rw[z];exact x17 (x00 I2.lt hC)
  .obtain⟨v,o,ho,_⟩:=I2.cell y a z
   exact x17 (x00 (xn ho) hC)
 refine⟨m,hn.sameBut sba aC,fun h' sb=>?_⟩
 refine⟨σ.set i (some (.ref D')),upd HB D' (.lst acc),I3.turned (it:=C) (t':=s3.toks) (fun b o hb e=>sb.extBut b o hb e) (by rw[zc (Ne.symm hDC)];exact IB.free) (x17 (x00 I2.lt hC)) (.inr (x01 I2.sz hC)) (fun y' c e=>?_) (fun p hp=>?_),q D' hHD⟩
 .obtain⟨v,o,ho,_⟩:=I2.cell y' c e
  exact xu (x00 (xn ho) hC)
 .exact xu (x00 (xn (I2.pin p hp).1) hC)
end
end L2
end
section
namespace L2
open PySem PySem.Spec PyProof.Rows
noncomputable def eqVs:List V->List V->Bool
 |[],[]=>true
 |x::xs,y::ys=>eqV x y&&eqVs xs ys
 |_,_=>false
theorem z9n:∀{xs ys:List V},xs.length≠ys.length->eqVs xs ys=false
 |[],[],h=>absurd rfl h
 |[],_::_,_=>rfl
 |_::_,[],_=>rfl
 |x::xs,y::ys,h=>by
  show(eqV x y&&eqVs xs ys)=false
  rw[z9n (xs:=xs) (ys:=ys) (fun e=>h (by simp[e])),Bool.and_false]
theorem z6v:∀{xs ys:List V},xs.length=ys.length->(List.range xs.length).all (fun j=>eqV (xs.getD j .non) (ys.getD j .non))=eqVs xs ys
 |[],[],_=>rfl
 |[],_::_,h=>by simp at h
 |_::_,[],h=>by simp at h
 |x::xs,y::ys,h=>by
  have ih:=z6v (xs:=xs) (ys:=ys) (by simpa using h)
  show(List.range (xs.length+1)).all _=(eqV x y&&eqVs xs ys)
  rw[List.range_succ_eq_map,List.all_cons,List.all_map,<-ih]
  rfl
theorem z9o:∀(as bs:List Str),eqVs (as.map V.str) (bs.map V.str)=decide (as=bs)
 |[],[]=>rfl
 |[],_::_=>rfl
 |_::_,[]=>rfl
 |a::as,b::bs=>by
  show(eqV (.str a) (.str b)&&eqVs (as.map V.str) (bs.map V.str))=_
  rw[z9o as bs]
  show((a==b)&&decide (as=bs))=_
  rw[x2d]
  simp
theorem zct{A:Around}{s:Shared}{xs ys:List V}{us ws:List Value}(rx:Vals xs us)(ry:Vals ys ws)(fx:xs.all z2j=true)(fy:ys.all z2j=true)(j:Nat)(h1:j<us.toArray.size)(h2:j<ws.toArray.size):
  SeqAt.EqAt A s us.toArray[j] ws.toArray[j] (eqV (xs.getD j .non) (ys.getD j .non)):=by
 have l1:=rx.length
 have l2:=ry.length
 rw[xy]at h1 h2
 have e1:xs[j]? =some (xs.getD j .non):=by rw[xo,x8 (by omega)];rfl
 have e2:ys[j]? =some (ys.getD j .non):=by rw[xo,x8 (by omega)];rfl
 obtain⟨u,q1,r1⟩:=rx.get e1
 obtain⟨w,q2,r2⟩:=ry.get e2
 have t1:us.toArray[j]=u:=by
  rw[List.getElem_toArray]
  rw[x8 h1]at q1
  exact xq q1
 have t2:ws.toArray[j]=w:=by
  rw[List.getElem_toArray]
  rw[x8 h2]at q2
  exact xq q2
 rw[t1,t2]
 exact zjd r1 r2 (x2u.mp fx _ (xf e1)) (x2u.mp fy _ (xf e2))
noncomputable def rEqL(K:PySem.W.Frag)(neg:Bool):R2:=fun x y H Q=>∃p q xs ys,x=.ref p/\y=.ref q/\SqL K H p xs/\SqL K H q ys/\xs.all z2j=true/\ys.all z2j=true/\Q (.bl (if neg then !eqVs xs ys else eqVs xs ys)) H
noncomputable def rEqT(K:PySem.W.Frag)(neg:Bool):R2:=fun x y H Q=>∃p q xs ys,x=.ref p/\y=.ref q/\SqT K H p xs/\SqT K H q ys/\xs.all z2j=true/\ys.all z2j=true/\Q (.bl (if neg then !eqVs xs ys else eqVs xs ys)) H
section
variable {X:Cx}
theorem zo2(hu:X.A.units<cLine):OpR X (compareOp .Eq) (rEqL X.K false):=by
 intro pins s σ H x y v u Q I rx ry h
 obtain⟨p,q,xs,ys,rfl,rfl,hp,hq,fx,fy,hQ⟩:=h
 cases rx
 cases ry
 obtain⟨us,r1,p1,_⟩:=I.list hp
 obtain⟨ws,r2,p2,_⟩:=I.list hq
 have l1:=r1.length
 have l2:=r2.length
 by_cases hl:xs.length=ys.length
 .refine SeqAt.eq_listAt (e:=fun j=>eqV (xs.getD j .non) (ys.getD j .non)) p1.isList p2.isList (by rw[xy,xy];omega) hu (fun j h1 h2=>zct r1 r2 fx fy j h1 h2) (z13 I hQ ?_)
  rw[xy,<-l1,z6v hl]
  rfl
 .refine SeqAt.eq_list_lengthsAt p1.isList p2.isList (by simp only[xy,bne_iff_ne];omega) hu (z13 I hQ ?_)
  rw[z9n hl]
  rfl
theorem zna{xs ys:List V}:((List.range (min xs.length ys.length)).all (fun j=>eqV (xs.getD j .non) (ys.getD j .non))&&xs.length==ys.length)=eqVs xs ys:=by
 by_cases hl:xs.length=ys.length
 .rw[<-hl,Nat.min_self,z6v hl]
  simp
 .rw[z9n hl]
  simp[hl]
theorem zo3(hu:X.A.units<cLine):OpR X (compareOp .NotEq) (rEqT X.K true):=by
 intro pins s σ H x y v u Q I rx ry h
 obtain⟨p,q,xs,ys,rfl,rfl,hp,hq,fx,fy,hQ⟩:=h
 cases rx
 cases ry
 obtain⟨us,r1,p1,_⟩:=I.tuple hp
 obtain⟨ws,r2,p2,_⟩:=I.tuple hq
 have l1:=r1.length
 have l2:=r2.length
 refine SeqAt.RcNeAt.tuples (e:=fun j=>eqV (xs.getD j .non) (ys.getD j .non)) p1 p2 hu (fun j h1 h2=>zct r1 r2 fx fy j h1 h2) _ _ _ _ (z13 I hQ ?_)
 rw[xy,xy,<-l1,<-l2,zna]
 rfl
theorem zo4:SlR X (fun x lo hi H Q=>∃z,x=.str z/\z.length<=sizeLine/\Q (.str (Txt.slice z lo hi)) H):=by
 intro pins s σ H x v vl vu lo hi sl Q I rx hs pl pu h
 obtain⟨z,rfl,hz,q⟩:=h
 obtain⟨t,rfl⟩:=rx
 refine⟨"str",_,F.slot_str_getitem.lookup,typeIs_str _ _ _,?_⟩
 have fin:∀t' k,EP X pins σ Q (.str (Txt.slice z lo hi) t') { s with toks:=k }:=fun t' k=>⟨.str _,H,I.tok _,⟨_,rfl⟩,q⟩
 obtain⟨o,h1,h2,h3⟩:=hs
 cases pl with
 |none=>
  cases pu with
  |none=>exact wpAny_getItem_str_slice (l:=none) (u:=none) (st:=none) ⟨o,h1,h2,h3⟩ rfl (post_val_or_str ⟨x01 (Txt.slice_le z none none) hz,fin⟩)
  |int j u=>exact wpAny_getItem_str_slice (l:=none) (u:=some (j,u)) (st:=none) ⟨o,h1,h2,h3⟩ rfl (post_val_or_str ⟨x01 (Txt.slice_le z none (some j)) hz,fin⟩)
 |int i u'=>
  cases pu with
  |none=>exact wpAny_getItem_str_slice (l:=some (i,u')) (u:=none) (st:=none) ⟨o,h1,h2,h3⟩ rfl (post_val_or_str ⟨x01 (Txt.slice_le z (some i) none) hz,fin⟩)
  |int j u=>exact wpAny_getItem_str_slice (l:=some (i,u')) (u:=some (j,u)) (st:=none) ⟨o,h1,h2,h3⟩ rfl (post_val_or_str ⟨x01 (Txt.slice_le z (some i) (some j)) hz,fin⟩)
theorem zcu:∀(l:List (Str×Tok)),Vals ((l.map (·.1)).map V.str) (strValues l)
 |[]=>.nil
 |(x,t)::r=>.cons ⟨t,rfl⟩ (zcu r)
noncomputable def zji:V->List V->Hp->VK->Prop:=fun x vs H Q=>∃z y,x=.str z/\vs=[.str y]/\y.length=1/\z.length+2<=sizeLine/\∀p,H p=none->Q (.ref p) (upd H p (.lst ((Txt.split z y).map V.str)))
theorem z9p:MtR X "str.split" zji:=by
 intro pins s σ H x vs v us Q I rx rv h
 obtain⟨z,y,rfl,rfl,hy,hz,q⟩:=h
 obtain⟨t,rfl⟩:=rx
 obtain⟨u,rfl,t',rfl⟩:=rv.one
 have hn:(Builtin.Str.partsBetween z (Builtin.Str.occurrences z y 0 z.length (z.length+1)) y.length).length<=sizeLine:=by
  have e1:=StrLaws.occ_length_le z y 0 z.length (z.length+1)
  rw[length_partsBetween];omega
 have hy0:(y.length==0)=false:=by rw[hy];rfl
 have fin:∀(l:List (Str×Tok)) (tk:Nat),l.map (·.1)=Txt.split z y->(Txt.split z y).length<=sizeLine->EP X pins σ Q (.ref s.heap.objs.size) { s with toks:=tk,heap:=s.heap.push { cls:=.type "list",data:=.seq (strValues l).toArray } }:=fun l tk e hl=>by
  refine⟨.ref s.heap.objs.size,_,I.lnew (t':=tk) (ys:=(Txt.split z y).map V.str) ?_ (by rw[x5];exact hl),rfl,q _ I.fresh⟩
  rw[<-e]
  exact zcu l
 cases h1:(decide (z.length<y.length)||decide (Builtin.Str.strKind z<Builtin.Str.strKind y))
 .cases hf:(Builtin.Str.occurrences z y 0 z.length (z.length+1)).isEmpty
  .have e:Txt.split z y=Builtin.Str.partsBetween z (Builtin.Str.occurrences z y 0 z.length (z.length+1)) y.length:=(if_neg (ne_true_of_eq_false h1)).trans (if_neg (ne_true_of_eq_false hf))
   refine call_meets F.slot_str_split (typeIs_str _ _ _) F.entry_str_split (F.args_str_split_2 _ _) (meets_str_split_sep z y t t' h1 hy0 hf (by omega) hn) ?_
   show wants _ _ _ { s with toks:=_,heap:=s.heap.push { cls:=.type "list",data:=.seq (strsFrom s.toks (Builtin.Str.partsBetween z (Builtin.Str.occurrences z y 0 z.length (z.length+1)) y.length)).toArray } }
   rw[strsFrom_eq]
   exact fin (numbered s.toks _) _ ((numbered_texts _ _).trans e.symm) (by rw[e];exact hn)
  .have e:Txt.split z y=[z]:=(if_neg (ne_true_of_eq_false h1)).trans (if_pos hf)
   exact call_meets F.slot_str_split (typeIs_str _ _ _) F.entry_str_split (F.args_str_split_2 _ _) (meets_str_split_not_found z y t t' h1 hy0 hf) (fin [(z,t)] s.toks e.symm (by rw[e];show 1<=sizeLine;decide))
 .have e:Txt.split z y=[z]:=if_pos h1
  exact call_meets F.slot_str_split (typeIs_str _ _ _) F.entry_str_split (F.args_str_split_2 _ _) (meets_str_split_cannot_occur z y t t' h1) (fin [(z,t)] s.toks e.symm (by rw[e];show 1<=sizeLine;decide))
theorem zcv:∀bs:List Bool,(List.range bs.length).all (fun j=>bs.getD j true)=bs.all id
 |[]=>rfl
 |b::bs=>by
  show(List.range (bs.length+1)).all _=_
  rw[List.range_succ_eq_map,List.all_cons,List.all_map,List.all_cons]
  show(b&&(List.range bs.length).all fun j=>bs.getD j true)=_
  rw[zcv bs]
  rfl
theorem z26(hc:X.calm=true):CallR X (.builtin "all") (fun xs H Q=>∃ p bs,xs=[.ref p]/\SqL X.K H p ((bs:List Bool).map V.bl)/\Q (.bl (bs.all id)) H):=by
  intro pins s σ H xs us Q I r h
  obtain⟨p,bs,rfl,hp,q⟩:=h
  obtain⟨u,rfl,ru⟩:=z2o r
  cases ru
  obtain⟨its,r1,p1,_⟩:=I.list hp
  have hl:=r1.length
  rw[x5]at hl
  refine call_all_walk (x27 p1.isList ?_)
  obtain⟨ol,n,hol,hcl,hdl,hsl⟩:=id p1
  have hne:p≠s.heap.objs.size:=xu (xn hol)
  refine⟨s.heap.objs.size,[s.heap.objs.size,p],[s.heap.objs.size],its.toArray.size,_,_,fun j=>bs.getD j true,rfl,Walks.list (by exact I.ok.hd hc) s.heap.objs.size p hne its.toArray,
    ⟨⟨_,xr _ rfl,rfl,rfl⟩,⟨ol,x9 _ hol,hcl,n,hsl⟩⟩,?_,fun h' tk k=>?_⟩
  · intro j v s' Q' E' hv hq
    have hv:its.toArray[j]? =some v:=hv
    have e0:its[j]? =some v:=by simpa using hv
    have hj:j<its.length:=(xl.mp e0).1
    have e1:(bs.map V.bl)[j]? =some (V.bl (bs.getD j true)):=by
      rw[xj,xo,x8 (by omega)]
      rfl
    obtain⟨w,q1,rw'⟩:=r1.get e1
    rw[e0]at q1
    cases q1
    cases rw'
    exact x1a hq
  . have e:(List.range its.toArray.size).all (fun j=>bs.getD j true)=bs.all id:=by
      rw[xy,<-hl]
      exact zcv bs
    rw[e]
    have I2:Inv X pins σ H { s with heap:=h',toks:=tk }:=by
     refine I.kept (t':=tk) (h':=h') fun b o e=>k b o ?_ (x9 _ e)
     intro z
     have:b=s.heap.objs.size:=by simpa using z
     exact absurd (xn e) (by rw[this];exact x0o _)
    exact⟨.bl _,H,I2,rfl,q⟩
theorem z1f:CallR X (.builtin "isinstance") (fun xs H Q=>∃ x c t b,xs=[x,.ty c]/\TyOf X.K H x t/\PySem.W.kitOne X.K t (.type c)=some b/\Q (.bl b) H):=by
 intro pins s σ H xs us Q I r h
 obtain⟨x,c,t,b,rfl,ty,e,q⟩:=h
 obtain⟨u,w',rfl,r1,r2⟩:=zmm r
 cases r2
 exact zjb I r1 ty e fun tk=>⟨.bl b,H,I.tok _,rfl,q⟩
end
theorem z7d(K:PySem.W.Frag):PySem.W.kitOne K (.type "bool") (.type "bool")=some true:=by with_unfolding_all rfl
theorem z7u(K:PySem.W.Frag):PySem.W.kitOne K (.type "int") (.type "bool")=some false:=by with_unfolding_all rfl
noncomputable def Def(K:PySem.W.Frag)(mg:Str->Option Value)(x:Str)(st:Stmt)(ps:List Str):Prop:=∃f fd,Fun K x x st f fd/\mg x=some (.ref f)/\Binds K fd ps []
noncomputable def Has(P:Program)(w:World)(K:PySem.W.Frag)(mg:Str->Option Value)(base:Heap)(k:Nat)(x:Str)(ps:List Str)(sp:Sp):Prop:=
 ∃f fd,FnOk P w K mg base CX0 k f fd ps sp/\mg x=some (.ref f)/\PySem.W.keepIn K (.ref f)=true/\Binds K fd ps []/\∃oc od osl,K.lookup f=some ⟨oc,od,.func fd,osl⟩
theorem Def.ok{P:Program}{w:World}{K:PySem.W.Frag}{mg:Str->Option Value}{base:Heap}{x:Str}{st:Stmt}{N ps:List Str}{k:Nat}{sp:Sp}(D:Def K mg x st ps)(S:FnScope N ps (zg st))(len:∀vs H Q E,sp vs H Q E->vs.length=ps.length)
  (hbody:∀(f:Addr)(cdv:Value)(A:Around)(outer:List Env)(s:Shared)(H:Hp)(vs:List V)(Q:VK)(E:XK),Room k (A.deeper (envOfC x (zg st) s.heap.objs.size f cdv))->sp vs H Q E->
   ∃t,PSs (cxOf CX0 P w K mg base N x (zg st) f cdv A outer s H E).nox (z1j st) t/\t { nx:=fun _ H'=>Q .non H',rt:=Q } (start N vs) H):Has P w K mg base (k+1) x ps sp:=by
 obtain⟨f,fd,F,hm,hb⟩:=D
 exact⟨f,fd,F.ok S len (fun cdv A outer s H vs Q E hr h=>hbody f cdv A outer s H vs Q E hr h),hm,F.kp,hb,by
  obtain⟨oc,od,kV,doc,pm,an,cdv,ct,osl,rfl,lk,hcd⟩:=F.ex
  exact⟨oc,od,osl,lk⟩⟩
section
variable {X:Cx}{k:Nat}{x:Str}{ps:List Str}{sp:Sp}{e:Expr}{es:List Expr}{t:TA}{p pos:Pos}
theorem z17(G:Has X.prog X.w X.K X.mg X.base k x ps sp)(hr:Room k X.A)(hg:Gl X x)(ha:PA X (e::es) t)(hdb:(x==("__debug__":Str))=false:=by decide)(he:starEach (e::es) X.env=(false,eval e X.env)::starEach es X.env:=by rfl)(hpl:(backTo pos (starEach es X.env)).any (·.1)=false:=by rfl):
  PE X (.Call (.Name x p) (e::es) [] pos) (ze2 sp [] E0 t):=by
 obtain⟨f,fd,F,hm,hk,hb,_⟩:=G
 exact zn2 F hr hg hm hk hb .nil zat ha hdb he hpl
end
noncomputable def z3w(H:Hp)(Q:VK)(v:V):Prop:=∀H',Same H H'->Q v H'
theorem Has.at{P:Program}{w:World}{K:PySem.W.Frag}{mg:Str->Option Value}{base:Heap}{k:Nat}{x:Str}{ps:List Str}{sp:Sp}{st:Stmt}{f:Addr}{fd:FuncData}(G:Has P w K mg base k x ps sp)(hm:mg x=some (.ref f))(F:Fun K x x st f fd):FnOk P w K mg base CX0 k f fd ps sp:=by
 obtain⟨f',fd',FO,hm',hk,hb,oc',od',osl',lk'⟩:=G
 have e:=hm'.symm.trans hm
 cases e
 obtain⟨oc,od,kV,doc,pm,an,cdv,ct,osl,rfl,lk,hcd⟩:=F.ex
 rw[lk]at lk'
 have e2:=xq lk'
 injection e2 with _ _ e3 _
 injection e3 with e4
 rw[e4]
 exact FO
theorem zi3{n:Nat}(h:n<=1000000):n+2<=sizeLine:=by rw[x1v];omega
theorem zf{n:Nat}(h:n<=1000000):n<=sizeLine:=by rw[x1v];omega
theorem zbt{z y:Str}{H:Hp}{Q:VK}(hy:y.length=1)(hz:z.length<=1000000)(h:∀p,H p=none->Q (.ref p) (upd H p (.lst ((Txt.split z y).map V.str)))):zji (.str z) [.str y] H Q:=
 ⟨z,y,rfl,rfl,hy,zi3 hz,h⟩
theorem z1w(l:List Str):(l.map V.str).all z2j=true:=by
 rw[x2u]
 intro x hx
 obtain⟨a,_,rfl⟩:=xw.mp hx
 rfl
theorem zav(xs:List V)(n:Nat):cutV xs none (some (n:Int))=xs.take n:=by
 have e:HT.sIx xs.length xs.length (some (n:Int))=min n xs.length:=by
  unfold HT.sIx
  simp
  try omega
 have e0:HT.sIx xs.length 0 none=0:=rfl
 unfold cutV
 rw[e,e0]
 simp
theorem Same.upd{H:Hp}{p:Addr}{o:HO}(h:H p=none):Same H (upd H p o):=fun b u e=>by
 rw[zc (zh e h)]
 exact e
noncomputable def ze3(J:It)(g:TG)(tb:TS)(D:Ends)(σ:St)(H:Hp):Prop:=∃W:Nat->Nat->St->Hp->Prop,(∃m,W 0 m σ H)/\∀i m σ H,W i m σ H->
 (J.stop i H/\D.nx σ H)\/(J.go i H/\∃N:St->Hp->Prop,(∀σ' H',N σ' H'->∃m',m'<m/\W (i+1) m' σ' H')/\∀x H',J.yld i H x H'->g x σ H' fun σ2 H2=>tb { D with nx:=N,ct:=N,bk:=D.nx } σ2 H2)
theorem zek(wi:TI)(g:TG)(tb:TS)(D:Ends)(σ:St)(H:Hp):tFor wi g tb D σ H=wi σ H fun J H1=>ze3 J g tb D σ H1:=rfl
theorem zcw(ta:TA)(σ:St)(H:Hp)(R:It->Hp->Prop):zhu ta σ H R=ta σ H fun vs H1=>∃j:Int,vs=[.int j]/\(-(2 ^ 62)<=j/\j<2 ^ 62)/\R (Itr 0 j.toNat) H1:=by
 unfold zhu
 simp only[and_assoc]
theorem z53{lo:Int}{n:Nat}{g:TG}{tb:TS}{D:Ends}{σ:St}{H:Hp}(sp:Nat->St->Hp->Prop)(h0:sp 0 σ H)
  (hs:∀(Pv:Nat->St->Hp->Prop),(∀i σ H,sp i σ H->Pv i σ H)->∀i σ H,i<n->sp i σ H->g (.int (lo+i)) σ H fun σ2 H2=>tb { D with nx:=Pv (i+1),ct:=Pv (i+1),bk:=D.nx } σ2 H2) (hd:∀σ H,sp n σ H->D.nx σ H):ze3 (Itr lo n) g tb D σ H:=
 zj4 sp h0 (hs sp fun _ _ _ h=>h) hd
theorem z1x{K:PySem.W.Frag}{a:Addr}{xs:List V}{g:TG}{tb:TS}{D:Ends}{σ:St}{H:Hp}(sp:Nat->St->Hp->Prop)(h0:sp 0 σ H)(hl:∀i σ H,i<=xs.length->sp i σ H->SqL K H a xs)
  (hs:∀(Pv:Nat->St->Hp->Prop),(∀i σ H,sp i σ H->Pv i σ H)->∀i x σ H,xs[i]? =some x->sp i σ H->g x σ H fun σ2 H2=>tb { D with nx:=Pv (i+1),ct:=Pv (i+1),bk:=D.nx } σ2 H2) (hd:∀σ H,sp xs.length σ H->D.nx σ H):ze3 (Itl K a) g tb D σ H:=
 zl9 sp h0 hl (hs sp fun _ _ _ h=>h) hd
theorem zcx(wi:TI)(tc:TT)(te:TE)(js:List Nat)(σ:St)(H:Hp)(Q:VK):zi2 wi tc te js σ H Q=wi σ H fun J H1=>z3a J tc te js σ H1 Q:=rfl
noncomputable def Nx(n:Nat)(Pv:Nat->List V->Hp->Prop)(i:Nat)(acc:List V)(H:Hp):Prop:=∃m',m'<n-i/\m'=n-(i+1)/\i+1<=n/\Pv (i+1) acc H
theorem nx{n:Nat}{Pv:Nat->List V->Hp->Prop}{i:Nat}{acc:List V}{H:Hp}(hi:i<n)(h:Pv (i+1) acc H):Nx n Pv i acc H:=⟨n-(i+1),by omega,rfl,hi,h⟩
theorem z6w{J:It}{tc:TT}{te:TE}{js:List Nat}{σ:St}{H1:Hp}{Q:VK}(n:Nat)(hn:n<=sizeLine)(Pv:Nat->List V->Hp->Prop)(h0:Pv 0 [] H1)(hlen:∀i acc H,Pv i acc H->acc.length<=i)
  (hgo:∀i acc H,i<n->Pv i acc H->J.go i H) (hstop:∀acc H,Pv n acc H->J.stop n H)
  (hs:∀i acc H x H',i<n->Pv i acc H->J.yld i H x H'->tc (some x::capt σ js) H' fun b H2=>if b=true then te (some x::capt σ js) H2 fun v H3=>Nx n Pv i (acc++[v]) H3 else Nx n Pv i acc H2)
  (hd:∀acc H,Pv n acc H->∀p,H p=none->Q (.ref p) (upd H p (.lst acc))):z3a J tc te js σ H1 Q:=by
 refine⟨fun i m acc H=>m=n-i/\i<=n/\Pv i acc H,⟨n,by simp,x08 _,h0⟩,?_⟩
 rintro i m acc H ⟨rfl,hi,p⟩
 by_cases hlt:i<n
 .exact .inr ⟨hgo i acc H hlt p,by have:=hlen i acc H p;omega,fun x H' y=>hs i acc H x H' hlt p y⟩
 .have e:i=n:=by omega
  subst e
  exact .inl ⟨hstop acc H p,hd acc H p⟩
theorem zge{z:Str}{tc:TT}{te:TE}{js:List Nat}{σ:St}{H1:Hp}{Q:VK}(hn:z.cps.size<=sizeLine)(Pv:Nat->List V->Hp->Prop)(h0:Pv 0 [] H1)(hlen:∀i acc H,Pv i acc H->acc.length<=i)
  (hs:∀i acc H c,z.cps[i]? =some c->i<z.cps.size->Pv i acc H->tc (some (.str ⟨#[c]⟩)::capt σ js) H fun b H2=>if b=true then te (some (.str ⟨#[c]⟩)::capt σ js) H2 fun v H3=>Nx z.cps.size Pv i (acc++[v]) H3 else Nx z.cps.size Pv i acc H2)
  (hd:∀acc H,Pv z.cps.size acc H->∀p,H p=none->Q (.ref p) (upd H p (.lst acc))):z3a (Its z) tc te js σ H1 Q:=by
 refine z6w z.cps.size hn Pv h0 hlen (fun i acc H hi p=>hi) (fun acc H p=>xi _) (fun i acc H x H' hi p y=>?_) hd
 obtain⟨e,c,hc,y⟩:=y
 subst e y
 exact hs i acc H' c hc hi p
theorem zdi{lo:Int}{n:Nat}{tc:TT}{te:TE}{js:List Nat}{σ:St}{H1:Hp}{Q:VK}(hn:n<=sizeLine)(Pv:Nat->List V->Hp->Prop)(h0:Pv 0 [] H1)(hlen:∀i acc H,Pv i acc H->acc.length<=i)
  (hs:∀i acc H,i<n->Pv i acc H->tc (some (.int (lo+i))::capt σ js) H fun b H2=>if b=true then te (some (.int (lo+i))::capt σ js) H2 fun v H3=>Nx n Pv i (acc++[v]) H3 else Nx n Pv i acc H2)
  (hd:∀acc H,Pv n acc H->∀p,H p=none->Q (.ref p) (upd H p (.lst acc))):z3a (Itr lo n) tc te js σ H1 Q:=by
 refine z6w n hn Pv h0 hlen (fun i acc H hi p=>hi) (fun acc H p=>xi _) (fun i acc H x H' hi p y=>?_) hd
 obtain⟨e,y⟩:=y
 subst e y
 exact hs i acc H' hi p
theorem zel{K:PySem.W.Frag}{a:Addr}{xs:List V}{tc:TT}{te:TE}{js:List Nat}{σ:St}{H1:Hp}{Q:VK}(hn:xs.length<=sizeLine)(Pv:Nat->List V->Hp->Prop)(h0:Pv 0 [] H1)(hlen:∀i acc H,Pv i acc H->acc.length<=i)(hl:∀i acc H,Pv i acc H->SqL K H a xs)
  (hs:∀i acc H x,xs[i]? =some x->i<xs.length->Pv i acc H->tc (some x::capt σ js) H fun b H2=>if b=true then te (some x::capt σ js) H2 fun v H3=>Nx xs.length Pv i (acc++[v]) H3 else Nx xs.length Pv i acc H2)
  (hd:∀acc H,Pv xs.length acc H->∀p,H p=none->Q (.ref p) (upd H p (.lst acc))):z3a (Itl K a) tc te js σ H1 Q:=by
 refine z6w xs.length hn Pv h0 hlen (fun i acc H hi p=>⟨xs,xs[i],hl i acc H p,by simp[hi]⟩) (fun acc H p=>⟨xs,hl _ acc H p,xi _⟩) (fun i acc H x H' hi p y=>?_) hd
 obtain⟨e,y⟩:=y
 subst e
 exact hs i acc H' x (y xs (hl i acc H' p)) hi p
theorem zi4{z:Str}{tc:TT}{te:TE}{js:List Nat}{σ:St}{H1:Hp}{Q:VK}(hn:z.cps.size<=sizeLine)(sp:Nat->List V->Hp->Prop)(h0:sp 0 [] H1)(hlen:∀i acc H,sp i acc H->acc.length<=i)
  (hs:∀(Nt:List V->Hp->Prop) i acc H c,(∀acc H,sp (i+1) acc H->Nt acc H)->z.cps[i]? =some c->i<z.cps.size->sp i acc H->tc (some (.str ⟨#[c]⟩)::capt σ js) H fun b H2=>if b=true then te (some (.str ⟨#[c]⟩)::capt σ js) H2 fun v H3=>Nt (acc++[v]) H3 else Nt acc H2)
  (hd:∀acc H,sp z.cps.size acc H->∀p,H p=none->Q (.ref p) (upd H p (.lst acc))):z3a (Its z) tc te js σ H1 Q:=
 zge hn sp h0 hlen (fun i acc H c hc hi p=>hs (Nx z.cps.size sp i) i acc H c (fun _ _ h=>nx hi h) hc hi p) hd
theorem z4c{lo:Int}{n:Nat}{tc:TT}{te:TE}{js:List Nat}{σ:St}{H1:Hp}{Q:VK}(hn:n<=sizeLine)(sp:Nat->List V->Hp->Prop)(h0:sp 0 [] H1)(hlen:∀i acc H,sp i acc H->acc.length<=i)
  (hs:∀(Nt:List V->Hp->Prop) i acc H,(∀acc H,sp (i+1) acc H->Nt acc H)->i<n->sp i acc H->tc (some (.int (lo+i))::capt σ js) H fun b H2=>if b=true then te (some (.int (lo+i))::capt σ js) H2 fun v H3=>Nt (acc++[v]) H3 else Nt acc H2)
  (hd:∀acc H,sp n acc H->∀p,H p=none->Q (.ref p) (upd H p (.lst acc))):z3a (Itr lo n) tc te js σ H1 Q:=
 zdi hn sp h0 hlen (fun i acc H hi p=>hs (Nx n sp i) i acc H (fun _ _ h=>nx hi h) hi p) hd
theorem z14{K:PySem.W.Frag}{a:Addr}{xs:List V}{tc:TT}{te:TE}{js:List Nat}{σ:St}{H1:Hp}{Q:VK}(hn:xs.length<=sizeLine)(sp:Nat->List V->Hp->Prop)(h0:sp 0 [] H1)(hlen:∀i acc H,sp i acc H->acc.length<=i)(hl:∀i acc H,sp i acc H->SqL K H a xs)
  (hs:∀(Nt:List V->Hp->Prop) i acc H x,(∀acc H,sp (i+1) acc H->Nt acc H)->xs[i]? =some x->i<xs.length->sp i acc H->tc (some x::capt σ js) H fun b H2=>if b=true then te (some x::capt σ js) H2 fun v H3=>Nt (acc++[v]) H3 else Nt acc H2)
  (hd:∀acc H,sp xs.length acc H->∀p,H p=none->Q (.ref p) (upd H p (.lst acc))):z3a (Itl K a) tc te js σ H1 Q:=
 zel hn sp h0 hlen hl (fun i acc H x hx hi p=>hs (Nx xs.length sp i) i acc H x (fun _ _ h=>nx hi h) hx hi p) hd
noncomputable def tCut(t u:TS):TS:=fun D σ H=>∃Mid:St->Hp->Prop,t { D with nx:=Mid } σ H/\∀σ H,Mid σ H->u D σ H
theorem z8t{X:Cx}{st:Stmt}{rest:List Stmt}{t u:TS}(h1:PS X st t)(h2:PSs X rest u):PSs X (st::rest) (tCut t u):=by
 intro pins s σ H D I ⟨Mid,h,hm⟩
 refine wpAny_execs_cons (thn (h1 pins s σ H { D with nx:=Mid } I h) fun f s1 q=>?_)
 cases f with
 |next=>
  obtain⟨σ',H',I',q⟩:=q
  exact h2 pins s1 σ' H' D I' (hm σ' H' q)
 |ret v=>exact q
 |brk=>exact q
 |cont=>exact q
theorem zou{t u:TS}{D:Ends}{σ:St}{H:Hp}(sp:St->Hp->Prop)(h1:∀Mid:St->Hp->Prop,(∀σ H,sp σ H->Mid σ H)->t { D with nx:=Mid } σ H)(h2:∀σ H,sp σ H->u D σ H):tCut t u D σ H:=⟨sp,h1 sp fun _ _ h=>h,h2⟩
theorem cdiv{i j:Int}(h1:0<j)(h2:j<1073741824):CDiv i j:=⟨h1,h2⟩
noncomputable def zo5(dn cn:List (Str×NameKind)):Bool:=cn.all fun y=>(y.2 != .free)||(dn.lookup y.1==some .cell)||(dn.lookup y.1==some .free)
theorem zn{X:Cx}{sc:Scope}(h:zo5 X.env.scope.names sc.names=true):∀y∈sc.names,y.2=.free->X.env.kindOf y.1=some .cell\/X.env.kindOf y.1=some .free:=by
 intro y hy hf
 have:=x2u.mp h y hy
 rw[hf]at this
 simp at this
 exact this
section
variable {P:Program}{w:World}{K:PySem.W.Frag}{mg:Str->Option Value}{base:Heap}{N:List Str}{qual:Str}{sc:Scope}{f:Addr}{cd:Value}{A:Around}{outer:List Env}{s:Shared}{H:Hp}{E:XK}
end
section
variable {X:Cx}{E:XK}{x:Str}{C:Addr}{np cpos pos:Pos}{e:Expr}{es:List Expr}{t:TA}{bmB:List Value}{B nid iid:String}
end
noncomputable def MDef(K:PySem.W.Frag)(C:Addr)(m qual:Str)(st:Stmt)(ps:List Str):Prop:=∃f fd,Fun K m qual st f fd/\Meth K C m f/\Binds K fd ps []
noncomputable def MHas(P:Program)(w:World)(K:PySem.W.Frag)(mg:Str->Option Value)(base:Heap)(CX:CXT)(k:Nat)(C:Addr)(m:Str)(ps:List Str)(sp:Sp):Prop:=
 ∃f fd,FnOk P w K mg base CX k f fd ps sp/\Meth K C m f/\Binds K fd ps []
section
variable {P:Program}{w:World}{K:PySem.W.Frag}{mg:Str->Option Value}{base:Heap}
theorem MDef.ok{C:Addr}{m qual:Str}{st:Stmt}{N ps:List Str}{k:Nat}{sp:Sp}(D:MDef K C m qual st ps)(S:FnScope N ps (zg st))(len:∀vs H Q E,sp vs H Q E->vs.length=ps.length)
  (hbody:∀(f:Addr)(cdv:Value)(A:Around)(outer:List Env)(s:Shared)(H:Hp)(vs:List V)(Q:VK)(E:XK),Room k (A.deeper (envOfC qual (zg st) s.heap.objs.size f cdv))->sp vs H Q E->
   ∃t,PSs (cxOf CX0 P w K mg base N qual (zg st) f cdv A outer s H E).nox (z1j st) t/\t { nx:=fun _ H'=>Q .non H',rt:=Q } (start N vs) H):MHas P w K mg base CX0 (k+1) C m ps sp:=by
 obtain⟨f,fd,F,hm,hb⟩:=D
 exact⟨f,fd,F.ok S len (fun cdv A outer s H vs Q E hr h=>hbody f cdv A outer s H vs Q E hr h),hm,hb⟩
end
section
variable {X:Cx}{k:Nat}{C:Addr}{m:Str}{ps:List Str}{sp:Sp}{o e:Expr}{es:List Expr}{ta:TE}{t:TA}{apos pos:Pos}
theorem z16{pl:Sem Bool}(G:MHas X.prog X.w X.K X.mg X.base CX0 k C m ps sp)(c:Cls X.K C)(hr:Room k X.A)(he:PE X o ta)(ha:PA X (e::es) t)
  (hst:starEach (e::es) X.env=(false,eval e X.env)::starEach es X.env:=by rfl) (hpl:(backTo pos (starEach es X.env)).any (·.1)=false:=by rfl)
  (ht:eval (.Call (.Attribute o m apos) (e::es) [] pos) X.env=(do
   let ov<-eval o X.env
   standAt apos.atName
   let (f,first)<-holding [ov] (getMethod ov m pl)
   callWith pos f first (backTo pos (starEach (e::es) X.env)) (backToKw pos (keywordEach [] X.env))):=by rfl):
  PE X (.Call (.Attribute o m apos) (e::es) [] pos) (z8r C m sp [] E0 ta t):=by
 obtain⟨f,fd,F,hm,hb⟩:=G
 exact zn3 he c hm F hr hb .nil zat ha hst hpl ht
theorem z2e{pl:Sem Bool}(G:MHas X.prog X.w X.K X.mg X.base CX0 k C m ps sp)(c:Cls X.K C)(hr:Room k X.A)(he:PE X o ta)
  (ht:eval (.Call (.Attribute o m apos) [] [] pos) X.env=(do
   let ov<-eval o X.env
   standAt apos.atName
   let (f,first)<-holding [ov] (getMethod ov m pl)
   callWith pos f first (backTo pos (starEach [] X.env)) (backToKw pos (keywordEach [] X.env))):=by rfl):
  PE X (.Call (.Attribute o m apos) [] [] pos) (z8r C m sp [] E0 ta tNil):=by
 obtain⟨f,fd,F,hm,hb⟩:=G
 exact zlc he c hm F hr hb .nil zat ht
end
noncomputable def Mine(X:Cx)(pins:List (Addr×Obj))(b:Addr):Prop:=(∃o,X.s₀.heap.get? b=some o)\/b=X.env.locals\/(∃y,X.env.cells.lookup y=some b)\/∃p∈X.pn++pins,p.1=b
structure Fly(X:Cx)(pins:List (Addr×Obj))(σ:St)(H:Hp)(s:Shared)(x C t:Addr)(B:Heap):Prop where
 inv:Inv X pins σ H s
 fly:Heap.FlyingW B X.stack x (.ref C) (.ref t) s.heap
 tr:∀b u,H b=some u->∃o,B.get? b=some o
 mine:∀b,Mine X pins b->b∈frs X.stack\/∃o,B.get? b=some o
noncomputable def XP(X:Cx)(pins:List (Addr×Obj))(σ:St)(Ex:XK)(ev:Value)(s':Shared):Prop:=∃x C t B H',ev=.ref x/\Fly X pins σ H' s' x C t B/\Ex (.ref C) none H'
noncomputable abbrev TEX:=St->Hp->VK->XK->Prop
section
variable {X:Cx}{k:Nat}{C:Addr}{m:Str}{ps:List Str}{sp:Sp}{o e:Expr}{es:List Expr}{ta:TE}{t:TA}{tx:TEX}{apos pos:Pos}
end
end L2
end
section
namespace L2
open PySem PySem.Spec PyProof.Rows
section
variable {X:Cx}
theorem zi5:OpR X (binaryOp .Mult) (fun x y H Q=>∃z n,x=.str z/\y=.int n/\MulOk z n/\Q (.str (Txt.mul z n)) H):=by
 intro pins s σ H x y v u Q I rx ry h
 obtain⟨z,n,rfl,rfl,hok,q⟩:=h
 obtain⟨t,rfl⟩:=rx
 obtain⟨t',rfl⟩:=ry
 exact SB.mul hok fun t2 k=>⟨.str _,H,I.tok _,⟨_,rfl⟩,q⟩
theorem zlg(hu:X.A.units<cLine):OpR X (compareOp .Eq) (fun x y H Q=>∃p q xs,x=.ref p/\y=.ref q/\SqL X.K H p xs/\SqL X.K H q []/\Q (.bl xs.isEmpty) H):=by
 intro pins s σ H x y v u Q I rx ry h
 obtain⟨p,q,xs,rfl,rfl,hp,hq,hQ⟩:=h
 cases rx
 cases ry
 obtain⟨us,r1,p1,_⟩:=I.list hp
 obtain⟨ws,r2,p2,_⟩:=I.list hq
 have l1:=r1.length
 cases r2
 cases xs with
 |nil=>
  cases r1
  exact SeqAt.eq_listAt (e:=fun _=>true) p1.isList p2.isList rfl hu (fun j h1 h2=>absurd h1 (Nat.not_lt_zero _)) (z13 I hQ rfl)
 |cons a xs=>exact SeqAt.eq_list_lengthsAt p1.isList p2.isList (by simp only[xy,bne_iff_ne];rw[<-l1];simp) hu (z13 I hQ rfl)
theorem zem(hu:X.A.units<cLine):OpR X (compareOp .NotEq) (fun x y H Q=>∃p q xs,x=.ref p/\y=.ref q/\SqL X.K H p xs/\SqL X.K H q []/\Q (.bl (!xs.isEmpty)) H):=by
 intro pins s σ H x y v u Q I rx ry h
 obtain⟨p,q,xs,rfl,rfl,hp,hq,hQ⟩:=h
 cases rx
 cases ry
 obtain⟨us,r1,p1,_⟩:=I.list hp
 obtain⟨ws,r2,p2,_⟩:=I.list hq
 have l1:=r1.length
 cases r2
 cases xs with
 |nil=>
  cases r1
  exact SeqAt.RcNeAt.lists (e:=fun _=>true) p1.isList p2.isList rfl hu (fun j h1 h2=>absurd h1 (Nat.not_lt_zero _)) _ _ _ _ (z13 I hQ rfl)
 |cons a xs=>exact SeqAt.RcNeAt.lists_lengths p1.isList p2.isList (by simp only[xy,bne_iff_ne];rw[<-l1];simp) hu _ _ _ _ (z13 I hQ rfl)
theorem zi6{A:Around}{E:Value->Shared->Prop}{Q:Value->Shared->Prop}{pins:List (Addr×Obj)}{σ:St}{H:Hp}{s:Shared}{x:V}{u t:Value}{tp:Addr}{its:List Value}{b:Bool}(I:Inv X pins σ H s)(rx:RelV x u)(ty:TyOf X.K H x t)(ht:IsTup s.heap tp its.toArray)
  (e:PySem.W.kitAny X.K t its=some b) (h:∀ tk,Q (.bool b) { s with toks:=tk }):wpAny (model X.prog X.w) A (call (.builtin "isinstance") [u,.ref tp]) Q E s:=by
 obtain⟨⟨c0,dd,dt,sl⟩,e0,hc0,n0,hd0⟩:=ht
 simp only at hc0 hd0
 subst hc0 hd0
 cases ty with
 |non=>cases(show u=Value.none from rx);exact x1p PySem.W.kitx_none I.kIn x1t e0 e (fun z=>nomatch z) h
 |bl y=>cases(show u=Value.bool y from rx);exact x1p PySem.W.kitx_bool I.kIn x1t e0 e (fun z=>nomatch z) h
 |int i=>obtain⟨t,q⟩:=(show∃t,u=Value.int i t from rx);cases q;exact x1p PySem.W.kitx_int I.kIn x1t e0 e (fun z=>nomatch z) h
 |str y=>obtain⟨t,q⟩:=(show∃t,u=Value.str y t from rx);cases q;exact x1p PySem.W.kitx_str I.kIn x1t e0 e (fun z=>nomatch z) h
 |flt y=>obtain⟨t,q⟩:=(show∃t,u=Value.float y t from rx);cases q;exact x1p PySem.W.kitx_float I.kIn x1t e0 e (fun z=>nomatch z) h
 |@lst a xs ea=>
  cases(show u=Value.ref a from rx)
  obtain⟨_,_,n,_,h1⟩:=(show ObjOk X.prog X.w H s.heap a (.lst xs) from I.hok a _ ea)
  exact x1p PySem.W.kitx_list I.kIn ⟨_,h1,rfl⟩ e0 e (fun z=>nomatch z) h
 |@tup a xs ea=>
  cases(show u=Value.ref a from rx)
  obtain⟨_,_,_,p⟩:=(show ObjOk X.prog X.w H s.heap a (.tup xs) from I.hok a _ ea)
  obtain⟨o,h1,h2,_⟩:=p
  exact x1p PySem.W.kitx_tuple I.kIn ⟨o,h1,h2⟩ e0 e (fun z=>nomatch z) h
 |@frz a ob xs ea=>
  cases(show u=Value.ref a from rx)
  obtain⟨_,_,_,n,_,h1⟩:=(show ObjOk X.prog X.w H s.heap a (.frz ob (.lst xs)) from I.hok a _ ea)
  exact x1p PySem.W.kitx_list I.kIn ⟨_,h1,rfl⟩ e0 e (fun z=>nomatch z) h
 |@dK a kvs ea=>
  cases(show u=Value.ref a from rx)
  obtain⟨_,_,vs,_,p⟩:=(show ObjOk X.prog X.w H s.heap a (.dK kvs) from I.hok a _ ea)
  obtain⟨o,es,ep,h1,h2,_⟩:=p
  exact x1p PySem.W.kitx_dict I.kIn ⟨o,h1,h2.1⟩ e0 e (fun z=>nomatch z) h
 |@dT a kvs ea=>
  cases(show u=Value.ref a from rx)
  obtain⟨_,_,xs,_,o,es,ep,h1,h2,_⟩:=(show ObjOk X.prog X.w H s.heap a (.dT kvs) from I.hok a _ ea)
  exact x1p PySem.W.kitx_dict I.kIn ⟨o,h1,h2.1⟩ e0 e (fun z=>nomatch z) h
 |@ins a C dx fs ea cl ha hn htk hm=>
  cases(show u=Value.ref a from rx)
  obtain⟨mA,O,_⟩:=z6j I.hok ea
  obtain⟨od,J,_⟩:=O.look
  exact x1p (PySem.W.kitx_own (cl.get _) cl.hd ha hn htk hm) I.kIn J e0 e (fun z=>nomatch z) h
theorem zcy:CallR X (.builtin "isinstance") (fun xs H Q=>∃ x p c d t b,xs=[x,.ref p]/\SqT X.K H p [.ty c,.ty d]/\TyOf X.K H x t/\PySem.W.kitAny X.K t [.type c,.type d]=some b/\Q (.bl b) H):=by
 intro pins s σ H xs us Q I r h
 obtain⟨x,p,c,d,t,b,rfl,hp,ty,e,q⟩:=h
 obtain⟨u,w',rfl,r1,r2⟩:=zmm r
 cases r2
 obtain⟨its,rv,pl,_⟩:=I.tuple hp
 obtain⟨u1,u2,rfl,q1,q2⟩:=rv.two
 cases q1
 cases q2
 exact zi6 I r1 ty pl e fun tk=>⟨.bl b,H,I.tok _,rfl,q⟩
noncomputable def KHas(P:Program)(w:World)(K:PySem.W.Frag)(mg:Str->Option Value)(base:Heap)(k:Nat)(C:Addr)(ps:List Str)(sp:Sp):Prop:=
 ∃f fd,FnOk P w K mg base CX0 k f fd ps sp/\Mk K C f/\Binds K fd ps []
theorem zh1{k:Nat}{C:Addr}{x:Str}{ps:List Str}{sp:Sp}{p pos:Pos}(G:KHas X.prog X.w X.K X.mg X.base k C ps sp)(hr:Room (k+1) X.A)(hg:Gl X x)(hm:X.mg x=some (.ref C))(hdb:(x==("__debug__":Str))=false:=by decide):PE X (.Call (.Name x p) [] [] pos) (z8s C sp [] E0 tNil):=by
 obtain⟨f,fd,F,M,hb⟩:=G
 exact zld M F hr hg hm hb .nil zat hdb
end
noncomputable def KDef(K:PySem.W.Frag)(C:Addr)(qual:Str)(st:Stmt)(ps:List Str):Prop:=∃ f fd,Fun K "__init__" qual st f fd/\Mk K C f/\Binds K fd ps []
theorem KDef.ok{P:Program}{w:World}{K:PySem.W.Frag}{mg:Str->Option Value}{base:Heap}{C:Addr}{qual:Str}{st:Stmt}{N ps:List Str}{k:Nat}{sp:Sp}(D:KDef K C qual st ps)(S:FnScope N ps (zg st))(len:∀vs H Q E,sp vs H Q E->vs.length=ps.length)
  (hbody:∀(f:Addr)(cdv:Value)(A:Around)(outer:List Env)(s:Shared)(H:Hp)(vs:List V)(Q:VK)(E:XK),Room k (A.deeper (envOfC qual (zg st) s.heap.objs.size f cdv))->sp vs H Q E->
   ∃t,PSs (cxOf CX0 P w K mg base N qual (zg st) f cdv A outer s H E).nox (z1j st) t/\t { nx:=fun _ H'=>Q .non H',rt:=Q } (start N vs) H):KHas P w K mg base (k+1) C ps sp:=by
 obtain⟨f,fd,F,hm,hb⟩:=D
 exact⟨f,fd,F.ok S len (fun cdv A outer s H vs Q E hr h=>hbody f cdv A outer s H vs Q E hr h),hm,hb⟩
noncomputable def zh2:Sp:=fun _ _ _ _=>False
theorem zjj{P:Program}{w:World}{K:PySem.W.Frag}{mg:Str->Option Value}{base:Heap}{x:Str}{st:Stmt}{ps:List Str}{k:Nat}(D:Def K mg x st ps):Has P w K mg base k x ps zh2:=by
 obtain⟨f,fd,F,hm,hb⟩:=D
 refine⟨f,fd,⟨fun _ _ _ _ h=>h.elim,fun _ _ _ _ _ _ _ _ _ _ _ _ _ h=>h.elim⟩,hm,F.kp,hb,?_⟩
 obtain⟨oc,od,kV,doc,pm,an,cdv,ct,osl,rfl,lk,hcd⟩:=F.ex
 exact⟨oc,od,osl,lk⟩
theorem z7e(K:PySem.W.Frag):PySem.W.kitOne K (.type "list") (.type "list")=some true:=by with_unfolding_all rfl
theorem z3b(K:PySem.W.Frag):PySem.W.kitOne K (.type "int") (.type "int")=some true/\PySem.W.kitOne K (.type "bool") (.type "int")=some true/\PySem.W.kitOne K (.type "str") (.type "int")=some false/\PySem.W.kitOne K (.type "str") (.type "str")=some true/\PySem.W.kitOne K (.type "int") (.type "str")=some false/\
  PySem.W.kitOne K (.type "str") (.type "bool")=some false/\PySem.W.kitOne K (.type "tuple") (.type "tuple")=some true/\PySem.W.kitOne K (.type "tuple") (.type "list")=some false/\PySem.W.kitOne K (.type "list") (.type "tuple")=some false:=by
 refine⟨?_,?_,?_,?_,?_,?_,?_,?_,?_⟩<;>with_unfolding_all rfl
theorem z6m(K:PySem.W.Frag):PySem.W.kitAny K (.type "int") [.type "list",.type "tuple"]=some false/\PySem.W.kitAny K (.type "bool") [.type "list",.type "tuple"]=some false/\PySem.W.kitAny K (.type "str") [.type "list",.type "tuple"]=some false/\
  PySem.W.kitAny K (.type "list") [.type "list",.type "tuple"]=some true/\PySem.W.kitAny K (.type "tuple") [.type "list",.type "tuple"]=some true:=by
 refine⟨?_,?_,?_,?_,?_⟩<;>with_unfolding_all rfl
section
variable {X:Cx}{K:PySem.W.Frag}
theorem z1b(h:X.K=K:=by rfl):IxR X (rIxT K):=h▸ix_tup
theorem z6x(h:X.K=K:=by rfl):IxR X (rIx K):=h▸zny
theorem zlh(hu:X.A.units<cLine)(h:X.K=K:=by rfl):OpR X (compareOp .NotEq) (rEqT K true):=h▸zo3 hu
theorem zgf(h:X.K=K:=by rfl):OpR X (compareOp .In) (rIn K false):=h▸zje
theorem zbu(h:X.K=K:=by rfl):OpR X (compareOp .NotIn) (rIn K true):=h▸z2r
theorem zbv(h:X.K=K:=by rfl):CallR X (.builtin "len") (fun xs H Q=>∃ p ys,xs=[.ref p]/\(SqL K H p ys\/SqT K H p ys)/\Q (.int ys.length) H):=h▸z10
theorem z9q{e:Expr}{ta:TE}{f:Str}{pos:Pos}(he:PE X e ta)(hb:attributeBase e f X.env (eval e X.env)=eval e X.env)(h:X.K=K:=by rfl):PE X (.Attribute e f pos) (tFld K ta f):=h▸zo he hb
end
end L2
end
section
namespace L2
open PySem PySem.Spec PyProof.Rows
section
variable {X:Cx}
theorem zjk(hc:X.calm=true):CallR X (.builtin "max") (fun xs H Q=>∃ p ns,xs=[.ref p]/\SqL X.K H p ((ns:List Int).map V.int)/\ns≠[]/\∀ m∈ns,(∀ x∈ns,x<=m)->Q (.int m) H):=by
  intro pins s σ H xs us Q I r h
  obtain⟨p,ns,rfl,hp,hne0,q⟩:=h
  obtain⟨u,rfl,ru⟩:=z2o r
  cases ru
  obtain⟨its,r1,p1,_⟩:=I.list hp
  have hl:=r1.length
  rw[x5]at hl
  refine call_max_walk (x27 p1.isList ?_)
  obtain⟨ol,n,hol,hcl,hdl,hsl⟩:=id p1
  have hne:p≠s.heap.objs.size:=xu (xn hol)
  have hlt:p<s.heap.objs.size:=xn hol
  have hpos:0<ns.length:=by cases ns with|nil=>exact absurd rfl hne0|cons a b=>simp
  refine⟨s.heap.objs.size,[s.heap.objs.size,p],[s.heap.objs.size],its.toArray.size,_,_,fun i j=>decide (ns.getD i 0>ns.getD j 0),rfl,Walks.list (by exact I.ok.hd hc) s.heap.objs.size p hne its.toArray,
    ⟨⟨_,xr _ rfl,rfl,rfl⟩,⟨ol,x9 _ hol,hcl,n,hsl⟩⟩,fun b hb=>?_,by rw[xy];omega,CmpOf.ints_gt (fun i=>ns.getD i 0) ?_,fun v h' tk hP k=>?_⟩
  · show b<(s.heap.push _).objs.size
    rw[x14]
    rcases xk.mp hb with rfl|hb
    . exact x0q _
    · rcases xk.mp hb with rfl|hb
      . exact x1g hlt
      . cases hb
  · intro j v hv
    have hv:its.toArray[j]? =some v:=hv
    have e0:its[j]? =some v:=by simpa using hv
    have hj:j<its.length:=(xl.mp e0).1
    have e1:(ns.map V.int)[j]? =some (V.int (ns.getD j 0)):=by
      rw[xj,xo,x8 (by omega)]
      rfl
    obtain⟨w,q1,rw'⟩:=r1.get e1
    rw[e0]at q1
    cases q1
    exact rw'
  · have hP:its.toArray[argBest (fun i j=>decide (ns.getD i 0>ns.getD j 0)) (its.toArray.size-1)]? =some v:=hP
    obtain⟨b1,b2⟩:=argBest_gt (fun i=>ns.getD i 0) (its.toArray.size-1)
    rw[xy,<-hl]at b1 b2 hP
    generalize argBest (fun i j=>decide (ns.getD i 0>ns.getD j 0)) (ns.length-1)=a at b1 b2 hP
    have e0:its[a]? =some v:=by simpa using hP
    have ha:a<ns.length:=by omega
    have e1:(ns.map V.int)[a]? =some (V.int (ns.getD a 0)):=by
      rw[xj,xo,x8 ha]
      rfl
    obtain⟨w,q1,rw'⟩:=r1.get e1
    rw[e0]at q1
    cases q1
    have I2:Inv X pins σ H { s with heap:=h',toks:=tk }:=by
     refine I.kept (t':=tk) (h':=h') fun b o e=>k b o ?_ (x9 _ e)
     intro z
     have:b=s.heap.objs.size:=by simpa using z
     exact absurd (xn e) (by rw[this];exact x0o _)
    refine⟨.int _,H,I2,rw',q _ ?_ ?_⟩
    · rw[xo,x8 ha]
      exact x2v ha
    · intro x hx
      obtain⟨j,hj,rfl⟩:=x0m hx
      have:=b2 j (by omega)
      have e:ns.getD j 0=ns[j]:=by rw[xo,x8 hj];rfl
      rw[e]at this
      exact this
end
end L2
end
section
namespace PySem
open Sem (wp)
open AutoSeq1 (wpAny_loadPart')
theorem zgg(a:Value)(t:Tok):checkTypeCall "enumerate" ⟨[a],[(Str.ofString "start",.int 1 t)]⟩=pure ():=by kernel_rfl
theorem zjl(a:Value)(t:Tok):checkBuiltinCall "enumerate.__new__" ⟨[.type "enumerate",a],[(Str.ofString "start",.int 1 t)]⟩=pure ():=by kernel_rfl
theorem zi7(obj a:Value)(t:Tok):argsOk "object.__init__" ⟨[obj,a],[(Str.ofString "start",.int 1 t)]⟩:=by unfold argsOk;kernel_rfl
theorem zi8(l:Addr)(o:Obj)(items:Array Value)(t:Tok):
  Meets (Builtin.«enumerate.__new__» ⟨[.type "enumerate",.ref l],[(Str.ofString "start",.int 1 t)]⟩) (fun _ R s=>s.heap.get? l=some o/\s.heap.IsList l items/\
   R (.ok (.ret (.ref (s.heap.push { cls:=.type "list_iterator",data:=.fields #[.ref l,.int 0 0] }).objs.size)))
    { s with heap:=(s.heap.push { cls:=.type "list_iterator",data:=.fields #[.ref l,.int 0 0] }).push { cls:=.type "enumerate",data:=.fields #[.none,.bool false,.ref s.heap.objs.size,rawInt 1,.none,.none] } }):=
 .of_wp fun prog w A R s h=>by
  obtain⟨h0,g0,d0,t0,o0⟩:=s
  obtain⟨ho,hL,h⟩:=h
  have hsub:=sub_enumerate
  wp_walk using wpAny_loadPart' ho
  refine wpAny_stack_any fun stk=>?_
  refine xh ?_
  split
  .rename_i c _ _ _ _ _
   generalize(c==Value.type "enumerate")=b
   cases b<;>(wp_walk using wpAny_loadPart' ho,x27 hL;exact⟨_,rfl,h⟩)
  .wp_walk using wpAny_loadPart' ho,x27 hL
   exact⟨_,rfl,h⟩
end PySem
end
section
namespace PySem
open Sem (wp)
theorem zi9{prog:Program}{w:World}{A:Around}{E:Value->Shared->Prop}{s:Shared}{l:Addr}{items:Array Value}{t:Tok}{Q:Value->Shared->Prop}(hL:s.heap.IsList l items)
  (h:∀h',IsEnum h' (s.heap.objs.size+1) s.heap.objs.size 1 .none->h'.IsListIter s.heap.objs.size l 0->h'.objs.size=s.heap.objs.size+2->
   (∀b o,s.heap.get? b=some o->h'.get? b=some o)->Q (.ref (s.heap.objs.size+1)) { s with heap:=h' }):
  wpAny (model prog w) A (call (.type "enumerate") [.ref l] [(Str.ofString "start",.int 1 t)]) Q E s:=by
 have ft:=F.called_enumerate
 obtain⟨c,tl,hmro⟩:=ft.mro
 have f1:=ft.made
 have f2:=ft.sub
 have f3:=ft.notType
 have f4:=ft.canCreate
 have f5:=zgg (.ref l) t
 obtain⟨o,ho,_⟩:=id hL
 refine wpAny_call (codeAny_of_tree ?_)
 show wpAny _ _ (callAny (.type "enumerate") _) _ _ _
 refine xh ⟨Code.quiet_builtin _ (by decide+kernel),?_⟩
 refine x1b F.entry_type_call ?_
 rw[Around.under_plain (weight_type_call_type "enumerate" _ _) (units_type_call_type "enumerate" _ _)]
 repeat (any_goals (first|assumption|wp_step))
 have hz:(s.heap.push { cls:=.type "list_iterator",data:=.fields #[.ref l,.int 0 0] }).objs.size=s.heap.objs.size+1:=x14 ..
 have he:IsEnum ((s.heap.push { cls:=.type "list_iterator",data:=.fields #[.ref l,.int 0 0] }).push { cls:=.type "enumerate",data:=.fields #[.none,.bool false,.ref s.heap.objs.size,rawInt 1,.none,.none] }) (s.heap.objs.size+1) s.heap.objs.size 1 .none:=by
  rw[<-hz]
  exact xr _ rfl
 have hi:((s.heap.push { cls:=.type "list_iterator",data:=.fields #[.ref l,.int 0 0] }).push { cls:=.type "enumerate",data:=.fields #[.none,.bool false,.ref s.heap.objs.size,rawInt 1,.none,.none] }).IsListIter s.heap.objs.size l 0:=
  ⟨_,x9 _ (xr _ rfl),rfl,rfl⟩
 have hsz:((s.heap.push { cls:=.type "list_iterator",data:=.fields #[.ref l,.int 0 0] }).push { cls:=.type "enumerate",data:=.fields #[.none,.bool false,.ref s.heap.objs.size,rawInt 1,.none,.none] }).objs.size=s.heap.objs.size+2:=by
  rw[x14,hz]
 have hq:=h _ he hi hsz fun b o x=>x9 _ (x9 _ x)
 have hN:wants (fun v s1=>v=Value.ref (s.heap.objs.size+1)/\s1={ s with heap:=(s.heap.push { cls:=.type "list_iterator",data:=.fields #[.ref l,.int 0 0] }).push { cls:=.type "enumerate",data:=.fields #[.none,.bool false,.ref s.heap.objs.size,rawInt 1,.none,.none] } }) E (.ok (.ret (.ref (s.heap.push { cls:=.type "list_iterator",data:=.fields #[.ref l,.int 0 0] }).objs.size)))
   { s with heap:=(s.heap.push { cls:=.type "list_iterator",data:=.fields #[.ref l,.int 0 0] }).push { cls:=.type "enumerate",data:=.fields #[.none,.bool false,.ref s.heap.objs.size,rawInt 1,.none,.none] } }:=by
  rw[hz]
  exact⟨rfl,rfl⟩
 have hM:=zi8 l o items t prog w A.in1 _ s ⟨ho,hL,hN⟩
 generalize(s.heap.push { cls:=.type "list_iterator",data:=.fields #[.ref l,.int 0 0] }).push { cls:=.type "enumerate",data:=.fields #[.none,.bool false,.ref s.heap.objs.size,rawInt 1,.none,.none] }=h9 at he hi hsz hq hM
 have hT:({ s with heap:=h9 }:Shared).TypeIs (.ref (s.heap.objs.size+1)) "enumerate":=⟨_,he,rfl⟩
 have hli:=ft.init.lookup
 have hbi:=ft.init.bind (.ref (s.heap.objs.size+1))
 refine x31 (codeAny_call_builtin (R:=wants (fun v s1=>v=.ref (s.heap.objs.size+1)/\s1={ s with heap:=h9 }) E) ft.plain F.entry_enumerate_new
  (wpAny_of_eq (zjl _ t) hM)) fun r s1 hr=>?_
 cases r with
 |error e=>exact hr
 |ok fl=>
  cases fl with
  |ret v=>
   obtain⟨rfl,rfl⟩:=hr
   dsimp only
   have hx:(some "enumerate.__new__" !=some "object.__new__")=true:=by decide
   repeat (any_goals (first|assumption|wp_step))
   refine codeAny_call_builtin ft.init.plain F.entry_object_init (ft.init.check _ _ _ _ _ _ _ _ hT (zi7 _ _ t) ?_)
   unfold Builtin.«object.__init__»
   repeat (any_goals (first|assumption|wp_step))
  |_=>exact hr.elim
end PySem
end
section
namespace PySem.W
open PySem PySem.Spec PySem.Calls PyProof.Rows
open Builtin Builtin.Getset_descriptor
section
variable {prog:Program}{w:World}{A:Around}{E:Value->Shared->Prop}{s:Shared}{K:Frag}{x C:Addr}{R:Result->Shared->Prop}
structure ErrCls(K:Frag)(C:Addr):Prop where
 ga:findIn K (.ref C) "__getattribute__"=some (some (.builtin "BaseException.__getattribute__"))
 no:findIn K (.ref C) "__getattr__"=some none
 cl:findIn K (.ref C) "__class__"=some (some (.builtin "object.__class__"))
 sp:specialIn K (.builtin "object.__class__") "__get__"=some (some (.builtin "getset_descriptor.__get__"))
 tk:takesIn K (.builtin "object.__class__")=some true
 mo:mroIn K C (.type "object")=some true
 mb:mroIn K C (.type "BaseException")=some true
end
end PySem.W
namespace L2
open PySem PySem.Spec PyProof.Rows
section
variable {X:Cx}
theorem Inv.also{pins:List (Addr×Obj)}{σ:St}{H:Hp}{s:Shared}{x:Addr}{o:HO}(I:Inv X pins σ H s)(hx:H x=none)(hm:¬ Mine X pins x)(ok:ObjOk X.prog X.w (upd H x o) s.heap x o):Inv X pins σ (upd H x o) s:=by
 have nb:∀b u,H b=some u->b≠x:=fun b u e z=>by rw[z,hx]at e;cases e
 refine⟨I.ok,I.os,I.bare,⟨I.base.keep,I.base.slot,fun b ob e n hb=>?_,I.base.there,fun b ys e=>?_,fun b ob u e=>?_,fun b ps e=>?_⟩,I.loc,I.cell,?_,fun y c e=>?_,fun p hp=>?_,fun b ob e=>?_,I.len⟩
 .have:b≠x:=fun z=>hm (.inl ⟨ob,z▸e⟩)
  rw[zc this]
  exact I.base.free b ob e n hb
 .have q:=I.base.tups b ys e
  rw[zc (nb _ _ q)]
  exact q
 .have q:=I.base.frzs b ob u e
  rw[zc (nb _ _ q)]
  exact q
 .obtain⟨more,q⟩:=I.base.tbls b ps e
  exact⟨more,by rw[zc (nb _ _ q)];exact q⟩
 .have:X.env.locals≠x:=fun z=>hm (.inr (.inl z.symm))
  rw[zc this]
  exact I.free
 .have:c≠x:=fun z=>hm (.inr (.inr (.inl ⟨y,z▸e⟩)))
  rw[zc this]
  exact I.freeC y c e
 .obtain⟨a1,a2,a3⟩:=I.pin p hp
  have:p.1≠x:=fun z=>hm (.inr (.inr (.inr ⟨p,hp,z⟩)))
  exact⟨a1,by rw[zc this];exact a2,a3⟩
 .by_cases hb:b=x
  .subst hb
   rw[z9]at e
   cases e
   exact ok
  .rw[zc hb]at e
   refine(I.hok b ob e).stay (fun _ _ _ q=>q) (fun c q=>?_) fun c ys q=>?_
   .rw[zc (nb _ _ q)];exact q
   .rw[zc (nb _ _ q)];exact q
end
end L2
end
section
namespace PySem
theorem Draws.late{prog:Program}{w:World}{A:Around}{it:Addr}{fp:List Addr}{n:Nat}{P:Nat->Value->Prop}{St:Nat->Heap->Prop}(D:Draws prog w A it fp n P St):
  Draws prog w A it fp (n+1) (fun i x=>P (i-1) x) (fun i h=>1<=i/\St (i-1) h) where
 live:=fun i h st=>D.live _ _ st.2
 frame:=fun i h h' st k=>⟨st.1,D.frame _ _ _ st.2 k⟩
 item:=fun i s Q E hi st hQ=>D.item (i-1) s Q E (by have:=st.1;omega) st.2 fun x h' tk hP hs hb=>hQ x h' tk hP ⟨by omega,by
  have e:i-1+1=i+1-1:=by have:=st.1;omega
  rw[<-e];exact hs⟩ hb
 done:=fun s Q E st hE=>D.done s Q E st.2 hE
end PySem
namespace L2
open PySem PySem.Spec PyProof.Rows
theorem Inv.turned2{X:Cx}{pins:List (Addr×Obj)}{σ:St}{H:Hp}{s:Shared}{h':Heap}{t':Nat}{e it:Addr}(I:Inv X pins σ H s)(k:∀b o,b≠e->b≠it->s.heap.get? b=some o->h'.get? b=some o)(fe:FpOk X pins H e)(fi:FpOk X pins H it):Inv X pins σ H { s with heap:=h',toks:=t' }:=by
 obtain⟨e0,e1,_,e3,e4,e5⟩:=fe
 obtain⟨i0,i1,_,i3,i4,i5⟩:=fi
 have ne:∀b u,H b=some u->b≠e:=fun b u q z=>by rw[z,e0]at q;cases q
 have ni:∀b u,H b=some u->b≠it:=fun b u q z=>by rw[z,i0]at q;cases q
 have kc:∀b o,b∉[e,it]->s.heap.get? b=some o->h'.get? b=some o:=fun b o hc q=>k b o (fun z=>hc (by simp[z])) (fun z=>hc (by simp[z])) q
 refine I.step (g':=s.gens) (d':=s.drawn) (ch:=[e,it]) (fun b hb=>?_) (fun b o _ _ hc q _=>kc b o hc q) (fun b o _ _ hc q _=>⟨o.slots,kc b o hc q⟩) (fun _ _ _ _ n=>n)
  (fun b o hc q=>⟨o,kc b o hc q⟩) (fun _ _ q=>q) (fun _ _ _ q=>q) (fun b ps q=>⟨#[],by rw[q];simp⟩) (fun m hm=>?_) (fun b u q=>?_) I.bare
 .rcases xk.mp hb with z|z
  .subst z;exact⟨e3,e1,e4,e5⟩
  .have z:b=it:=by simpa using z
   subst z;exact⟨i3,i1,i4,i5⟩
 .obtain⟨o,es,ep,ho,r⟩:=hm
  exact⟨o,es,ep,k _ o (Ne.symm e1) (Ne.symm i1) ho,r⟩
 .refine(I.hok b u q).stay (fun c v hc z=>k c v ?_ ?_ z) (fun _ z=>z) fun _ _ z=>z
  .rcases hc with y|y
   .rw[y];exact ne b u q
   .exact ne c _ y
  .rcases hc with y|y
   .rw[y];exact ni b u q
   .exact ni c _ y
noncomputable def Ite(K:PySem.W.Frag)(a:Addr):It:=
 ⟨fun i H=>∃xs x,SqL K H a xs/\xs[i]? =some x,fun i H x H'=>∃T v,x=.ref T/\H T=none/\H'=upd H T (.tup [.int ((i:Int)+1),v])/\∀xs,SqL K H a xs->xs[i]? =some v,fun i H=>∃xs,SqL K H a xs/\xs.length<=i⟩
theorem zli{X:Cx}{pins:List (Addr×Obj)}{σ:St}{H:Hp}{s:Shared}(I:Inv X pins σ H s){T:Addr}(hT:s.heap.objs.size<=T):¬ Mine X pins T:=by
 intro hm
 rcases hm with⟨o,e⟩|e|⟨y,e⟩|⟨p,hp,e⟩
 .exact absurd (x00 (xn e) (x01 I.sz hT)) (x0o _)
 .rw[e]at hT
  exact absurd (x00 I.lt hT) (x0o _)
 .obtain⟨v,q⟩:=I.cell y T e
  exact absurd (x00 q.lt hT) (x0o _)
 .have:=xn (I.pin p hp).1
  rw[e]at this
  exact absurd (x00 this hT) (x0o _)
theorem zjm{P:Program}{w:World}{K:PySem.W.Frag}{els:List Expr}{x1}{tp:Pos}(a e it:Addr)(hne:e≠it):Turn P w K (.Tuple els x1 tp) (Ite K a) [e,it] e (fun i h=>(∃old,IsEnum h e it (((i+1:Nat)):Int) old)/\h.IsListIter it a i) where
 mem:=by simp
 obj:=fun i h st b hb=>by
  obtain⟨⟨old,he⟩,o,ho,hc,hd⟩:=st
  rcases xk.mp hb with z|z
  .subst z
   exact⟨_,he,fun v z=>by cases z⟩
  .have z:b=it:=by simpa using z
   subst z
   exact⟨o,ho,fun v z=>by rw[hd]at z;cases z⟩
 keep:=fun i h h' st k=>by
  obtain⟨⟨old,he⟩,hl⟩:=st
  exact⟨⟨old,k e (by simp) _ he⟩,hl.at fun o q=>k it (by simp) o q⟩
 item:=by
  intro X hP hw hK hc i pins s σ H E I hf st hg
  subst hP hw hK
  obtain⟨xs,x,hq,hx⟩:=hg
  obtain⟨its,rv,p,hz⟩:=I.list hq
  obtain⟨⟨old,he⟩,hl⟩:=st
  obtain⟨u,hu,ru⟩:=rv.get hx
  have hlen:=rv.length
  have hi:i<its.length:=(xl.mp hu).1
  have fe:=hf e (by simp)
  have fi:=hf it (by simp)
  have nai:a≠it:=fun z=>by
   obtain⟨o,ho,hcc,_⟩:=hl
   obtain⟨o2,n2,ho2,hc2,_⟩:=p
   rw[<-z,ho2]at ho
   cases ho
   rw[hc2]at hcc
   injection hcc with y
   exact absurd y (by decide)
  have nae:e≠a:=fun z=>by
   obtain⟨o2,n2,ho2,hc2,_⟩:=p
   rw[<-z,he]at ho2
   cases ho2
   have y:Value.type "enumerate"=Value.type "list":=hc2
   injection y with y
   exact absurd y (by decide)
  have D:=(Draws.list (prog:=X.prog) (w:=X.w) (A:=X.A.in1) (by exact I.ok.hd hc) it a nai its.toArray).late
  refine wpAny_pyNext_enum_itemD D he (i:=i+1) ⟨by omega,hl,p.isList⟩ (by rw[xy];omega) hne (by simp[hne,nae]) fun v h' tk hP ho hs hT hsz hk=>?_
  have hv:v=u:=by
   have:its.toArray[i+1-1]? =some v:=hP
   have e0:its[i]? =some v:=by simpa using this
   rw[hu]at e0
   exact(xq e0).symm
  subst hv
  refine⟨_,rfl,?_⟩
  have I1:Inv X pins σ H { s with heap:=h',toks:=tk+1 }:=I.turned2 (fun b o n1 n2 q=>hk b o n1 n2 q) fe fi
  refine wpAny_letOwnedTupleGo_enum (s:={ s with heap:=h',toks:=tk+1 }) ho fun h2 he2 hs2=>?_
  obtain⟨f0,f1,f2,f3,f4,f5⟩:=fe
  have I2:Inv X pins σ H { s with heap:=h2,toks:=tk+1 }:=I1.turned (t':=tk+1) (fun b o hb q=>(hs2.2 b hb).trans q) f0 f1 f3 f4 f5
  have hTe:s.heap.objs.size≠e:=x17 (xn he)
  have hT2:h2.get? s.heap.objs.size=some { cls:=.type "tuple",data:=.seq #[.int (((i+1:Nat)):Int) tk,v] }:=(hs2.2 _ hTe).trans hT
  have hn0:H s.heap.objs.size=none:=I.fresh
  have hm:¬ Mine X pins s.heap.objs.size:=zli I (xi _)
  have e1:(((i+1:Nat)):Int)=(i:Int)+1:=by omega
  have ok:ObjOk X.prog X.w (upd H s.heap.objs.size (.tup [.int ((i:Int)+1),x])) h2 s.heap.objs.size (.tup [.int ((i:Int)+1),x]):=by
   refine⟨zf (by show 2<=1000000;decide),[.int (((i+1:Nat)):Int) tk,v],.cons ⟨tk,by rw[e1]⟩ (.cons ru .nil),_,hT2,rfl,_,rfl⟩
  refine⟨.ref s.heap.objs.size,_,I2.also hn0 hm ok,rfl,⟨_,x,rfl,hn0,rfl,fun ys hy=>by rw[I.list_inj hy hq];exact hx⟩,⟨⟨v,?_⟩,?_⟩,fun b hb=>?_⟩
  .exact he2
  .exact hs.2.1.at fun o q=>(hs2.2 it (Ne.symm hne)).trans q
  .have nb:b≠s.heap.objs.size:=by
    obtain⟨o,q⟩:∃o,s.heap.get? b=some o:=by
     rcases xk.mp hb with z|z
     .exact⟨_,z▸he⟩
     .have z:b=it:=by simpa using z
      obtain⟨o,q,_⟩:=hl
      exact⟨o,z▸q⟩
    exact xu (xn q)
   rw[zc nb]
   exact(hf b hb).1
 done:=by
  intro X hP hw hK hc i pins s σ H E I hf st hg
  subst hP hw hK
  obtain⟨xs,hq,hx⟩:=hg
  obtain⟨its,rv,p,hz⟩:=I.list hq
  obtain⟨⟨old,he⟩,hl⟩:=st
  have hlen:=rv.length
  have fi:=hf it (by simp)
  have D:Draws X.prog X.w X.A.in1 it [it,a] (i+1) (fun _ _=>False) (fun j h=>j=i+1/\h.IsListIter it a i/\h.IsList a its.toArray):={
   live:=fun j h st=>(let⟨o,ho,_⟩:=st.2.1;⟨o,ho⟩)
   frame:=fun j h h' st k=>⟨st.1,st.2.1.at fun o q=>k it (by simp) o q,st.2.2.at fun o q=>k a (by simp) o q⟩
   item:=fun j s Q E hj st _=>absurd st.1 (by omega)
   done:=fun s Q E st hE=>wpAny_nextOf_list_end (by exact I.ok.hd hc) st.2.1 st.2.2 (by simp;omega) hE }
  obtain⟨f0,f1,f2,f3,f4,f5⟩:=fi
  exact wpAny_pyNext_enum_endD D he ⟨rfl,hl,p.isList⟩ fun h' hx=>⟨rfl,I.turned (t':=s.toks) (fun b o hb q=>hx b o hb q) f0 f1 f3 f4 f5⟩
 self:=fun _ _ _ _ _ st h=>by
  obtain⟨⟨old,he⟩,_⟩:=st
  exact wpAny_pyIter_enum he h
section
variable {X:Cx}
theorem z9r{M:Model}{A:Around}{E:Value->Shared->Prop}{s:Shared}{pos:Pos}{T:String}{args:List (Bool×Sem Value)}{keywords:List (Option Str×Sem Value)}{Q:Value->Shared->Prop}
  (hp:args.any (·.1)=false) (hk:keywords.any (·.1.isNone)=false)
  (h:wpAny M A (evalArgs (.type T) true args keywords) (fun b s1=>wpAny M A (call (.type T) ([]++b.pos) b.kw) Q E s1) E s):wpAny M A (callWith pos (.type T) [] args keywords) Q E s:=by
 unfold callWith
 refine x6 (x0t ?_)
 refine x0e h (fun b s1 h1=>?_) fun _ _ z=>z
 refine x6 (wpAny_standAt ?_)
 simp only[hp,hk,Bool.or_false]
 refine x6 (xh ?_)
 refine x6 (x0e h1 (fun r s2 hr=>?_) fun _ _ z=>z)
 exact x6 (x0t (wpAny_point (xh hr)))
noncomputable def zmn(K:PySem.W.Frag)(ta tk:TA):TI:=fun σ H R=>ta σ H fun vs H1=>tk σ H1 fun ws H2=>∃a xs,vs=[.ref a]/\ws=[.int 1]/\SqL K H2 a xs/\R (Ite K a) H2
theorem zbw:bootBuiltins "enumerate"=some (.type "enumerate"):=by decide+kernel
theorem zlj{els:List Expr}{x1}{tp:Pos}{a c:Expr}{ta tk:TA}{p pos kp:Pos}(hg:Gl X "enumerate")(hm:X.mg "enumerate"=none)(ha:PA X [a] ta)(hk:PK X [⟨some (Str.ofString "start"),c,kp⟩] tk)
  (he:backTo pos (starEach [a] X.env)=(false,eval a X.env)::backTo pos (starEach [] X.env):=by rfl) (hpl:(backTo pos (starEach [a] X.env)).any (·.1)=false:=by rfl):PI X (.Tuple els x1 tp) (.Call (.Name "enumerate" p) [a] [⟨some (Str.ofString "start"),c,kp⟩] pos) (zmn X.K ta tk):=by
 intro pins s σ H R I h
 refine x22 (z57 I hg hm zbw ?_)
 refine z9r hpl (by rfl) ?_
 rw[he]
 refine evalArgs_kwB (by rfl) ?_
 rw[<-he]
 refine thn (ha pos pins s σ H _ I h) fun us s1 ⟨vs,H1,I1,r1,q1⟩=>?_
 refine thn (hk pos pins s1 σ H1 _ I1 q1) fun ws s2 ⟨zs,H2,I2,r2,q2⟩=>?_
 obtain⟨b,xs,e1,e2,hq,q⟩:=q2
 subst e1 e2
 obtain⟨u,rfl,ru⟩:=r1.one
 cases ru
 obtain⟨u2,rfl,ru2⟩:=r2.one
 obtain⟨t,rfl⟩:=ru2
 obtain⟨its,rv,pl,hz⟩:=I2.list hq
 refine zi9 pl.isList fun h9 he9 hi9 hsz9 hk9=>?_
 refine wpAny_pyIter_enum (s:={ s2 with heap:=h9 }) he9 ?_
 have hne:s2.heap.objs.size+1≠s2.heap.objs.size:=Nat.succ_ne_self _
 refine⟨s2.heap.objs.size+1,[s2.heap.objs.size+1,s2.heap.objs.size],_,_,H2,rfl,I2.kept (t':=s2.toks) hk9,zjm b _ _ hne,⟨⟨_,he9⟩,hi9⟩,fun d hd=>?_,q⟩
 rcases xk.mp hd with z|z
 .subst z
  exact I2.fpOk (x2r _) (I2.hok.fresh (x2r _))
 .have z:d=s2.heap.objs.size:=by simpa using z
  subst z
  exact I2.fpOk (xi _) (I2.hok.fresh (xi _))
end
end L2
end
section
namespace L2
open PySem PySem.Spec PyProof.Rows
structure CompScope2(X:Cx)(sc:Scope)(x y2:Str)(cap:List Str)(js:List Nat):Prop where
 kind:sc.kind=.function
 nocell:∀y∈sc.names,y.2≠.cell
 names:∀y∈sc.names,y.2=.local->sc.names.lookup y.1=some .local
 own:sc.names.lookup x=some .local
 own2:sc.names.lookup y2=some .local
 free:∀y∈sc.names,y.2=.free->X.env.kindOf y.1=some .cell\/X.env.kindOf y.1=some .free
 nd:(x::y2::cap).Nodup
 caps:CapOk X sc cap js
section
variable {X:Cx}{sc:Scope}{x y2:Str}{cap:List Str}{js:List Nat}{pins:List (Addr×Obj)}{σ:St}{H:Hp}{s:Shared}
theorem CompScope2.cells(S:CompScope2 X sc x y2 cap js)(I:Inv X pins σ H s):∀y∈sc.names,y.2=.free->∃c,X.env.cells.lookup y.1=some c:=fun y hy hf=>I.ok.has y.1 (S.free y hy hf)
theorem CompScope2.sub(S:CompScope2 X sc x y2 cap js)(I:Inv X pins σ H s){y:Str}{c:Addr}(h:(z22 X.env sc.names []).lookup y=some c):X.env.cells.lookup y=some c:=
 z5g (S.cells I) (fun _ _ e=>by simp at e) h
theorem zgh{s4:Shared}{h4:Heap}{t4:Nat}{fp:List Addr}{C:Addr}{v:Option V}{m:Str->Option Value}(S:CompScope2 X sc x y2 cap js)(I:Inv X pins σ H s)(hfp:∀b∈fp,FpOk X pins H b)(hlt:∀b∈fp,b<s.heap.objs.size)
    (hC:s.heap.objs.size<=C) (hn:h4.Ns C m) (k:∀b o,s.heap.get? b=some o->h4.get? b=some o):
    Inv (z11 X sc (x::y2::cap) s H C fp) [] (none::none::capt σ js) H { s with heap:=h4,toks:=t4 }:=by
  have nf:∀b∈frs X.stack,b<s.heap.objs.size:=fun b hb=>by
    obtain⟨_,o,ho,_⟩:=I.stack.mem hb
    exact xn ho
  refine⟨⟨I.ok.mod,S.kind,I.ok.glob,I.ok.blt,hC,fun y z c h1 h2=>I.ok.inj y z c (S.sub I h1) (S.sub I h2),fun y hy=>?_,fun y c h=>absurd h xm,I.ok.hd,I.ok.frames,.inl rfl,fun b hb=>⟨xu (x00 (hlt b hb) hC),fun y c e=>(hfp b hb).2.2.2.2.1 y c (S.sub I e)⟩,I.bs,
      x01 I.ok.bsz I.sz,fun b o e hb=>?_,fun b hb z=>?_,I.stack,I.stkFree⟩,rfl,I.bare,Un.kept k,⟨m,hn,fun i y v' h1 h2 h3=>?_⟩,fun y c e=>?_,I.hok.fresh hC,fun y c e=>I.freeC y c (S.sub I e),fun p hp=>absurd (show p∈([]:List (Addr×Obj)) from hp) (by simp),I.hok.kept k,?_⟩
  . exact z3m (by
      rcases hy with z|z
      . exact z52 z (.inl rfl) S.nocell
      . exact z52 z (.inr rfl) S.nocell)
  · rcases(hfp b hb).2.2.2.1 with z|z
    . exact I.ok.noex b o e z
    . exact absurd (x00 (xn e) (x01 I.ok.bsz z)) (x0o _)
  · rcases xk.mp (I.stkSub b z) with q|q
    . exact(hfp b hb).2.1 q
    . exact(hfp b hb).2.2.1 q
  · cases i with
    |zero=>exact absurd (show(none:Option V)=some v' from xq h2) (by simp)
    |succ i=>
     cases i with
     |zero=>exact absurd (show(none:Option V)=some v' from xq h2) (by simp)
     |succ i=>
      have e1:cap[i]? =some y:=by simpa using h1
      obtain⟨j,q1,q2,q3,q4⟩:=S.caps.get e1
      have e2:(capt σ js)[i]? =some (some v'):=by simpa using h2
      have e3:σ[j]? =some (some v'):=by
        unfold capt at e2
        rw[xj,q1,x18]at e2
        have e4:(σ[j]?).join=some v':=xq e2
        cases q:σ[j]? with
        |none=>rw[q]at e4;cases e4
        |some w=>rw[q]at e4;exact x12 some e4
      have vis:Vis X.env.scope y:=by
        rcases q3 with q3|q3
        . exact .inr (.inl q3)
        . exact .inr (.inr q3)
      obtain⟨mX,hnX,hl⟩:=I.loc
      obtain⟨u,ru,lk⟩:=hl j y v' q2 e3 vis
      refine⟨u,ru,.inr ?_⟩
      rcases lk with⟨hk,_⟩|⟨hk,c,hc,hcell⟩
      · rcases q3 with q3|q3
        . rw[q3]at hk;cases hk
        . rw[q3]at hk;cases hk
      · obtain⟨c',hc'⟩:=z3m (env:=X.env) (cs:=[]) (x13 q4)
        have:=S.sub I hc'
        rw[hc]at this
        cases this
        obtain⟨o,ho,hd⟩:=hcell
        refine⟨?_,c,hc',⟨o,k c o ho,hd⟩⟩
        rcases h3 with z|z|z
        · exfalso
          have hz:=x13 z
          obtain⟨⟨n,k'⟩,hn',en⟩:=xw.mp hz
          by_cases hf:(k'==NameKind.free&&X.env.scope.kind== .function&&X.env.kindOf n==some .cell)=true
          · simp only[hf,if_true]at en
            cases en
          · simp only[hf,x32]at en
            cases en
            have:=S.names _ hn' rfl
            rw[q4]at this
            cases this
        . exact .inl z
        . exact .inr z
  · obtain⟨v',o,ho,hd⟩:=I.cell y c (S.sub I e)
    exact⟨v',o,k c o ho,hd⟩
  · show(none::none::capt σ js).length=(x::y2::cap).length
    unfold capt
    rw[x09,x09,x09,x09,x5,S.caps.len]
end
noncomputable def z5k(J:It)(g2:TG)(tc:TT)(te:TE)(js:List Nat)(σ:St)(H1:Hp)(Q:VK):Prop:=
 ∃W:Nat->Nat->List V->Hp->Prop,(∃m,W 0 m [] H1)/\∀i m acc H,W i m acc H->
  (J.stop i H/\∀p,H p=none->Q (.ref p) (upd H p (.lst acc)))\/
  (J.go i H/\acc.length<sizeLine/\∀x H',J.yld i H x H'->g2 x (none::none::capt σ js) H' fun σ2 H4=>(∃a b,σ2=a::b::capt σ js)/\tc σ2 H4 fun b H2=>
   if b=true then te σ2 H2 fun v H3=>∃m',m'<m/\W (i+1) m' (acc++[v]) H3 else∃m',m'<m/\W (i+1) m' acc H2)
noncomputable def zjn(wi:TI)(g2:TG)(tc:TT)(te:TE)(js:List Nat):TE:=fun σ H Q=>wi σ H fun J H1=>z5k J g2 tc te js σ H1 Q
section
variable {X:Cx}{sc:Scope}{x y2:Str}{cap:List Str}{js:List Nat}{pins:List (Addr×Obj)}{σ:St}{H:Hp}{s:Shared}{elt iter tg:Expr}{g2:TG}{ifs:List Expr}{px pos:Pos}{tc:TT}{te:TE}
theorem zgi{J:It}{it:Addr}{fp:List Addr}{tn:Nat->Heap->Prop}{Q:VK}{E:Value->Shared->Prop}{RR:Value->Addr->Result->Shared->Prop}(S:CompScope2 X sc x y2 cap js)(hgt:∀s H C fp,PG (z11 X sc (x::y2::cap) s H C fp) tg g2)(hcalm:X.calm=true)
  (hc:∀s H C fp,PIf (z11 X sc (x::y2::cap) s H C fp) ifs tc) (he:∀s H C fp,PE (z11 X sc (x::y2::cap) s H C fp) elt te)
  (I:Inv X pins σ H s) (T:Turn X.prog X.w X.K tg J fp it tn) (st:tn 0 s.heap) (hfp:∀b∈fp,FpOk X pins H b) (go:z5k J g2 tc te js σ H Q)
  (hRR:∀ D C HB sB σB acc its n,s.heap.objs.size<=D->s.heap.objs.size<=C->D≠C->Inv (z11 X sc (x::y2::cap) s H C fp) [] σB HB sB->HB D=none->sB.heap.get? D=some { cls:=.type "list",data:=.seq (its:List Value).toArray n }->Vals acc its->acc.length<=sizeLine->
   (∀p,HB p=none->Q (.ref p) (upd HB p (.lst acc)))->RR (.ref D) C (.ok .next) sB):
  wpAny (model X.prog X.w) X.A (newList []) (fun acc s₃=>wpAny (model X.prog X.w) X.A (newFunctionEnv sc X.env.globals (z22 X.env sc.names []) [] X.env.qual none .none (some X.env)) (fun cenv s₄=>
   codeAny (model X.prog X.w) X.A (.compStart (.ListComp elt [⟨tg,iter,ifs,0⟩] sc pos) 0 (.ref it) acc { cenv with scope:=relabel sc X.env }) (RR acc cenv.locals) s₄) E s₃) E s:=by
 refine x10 (wpAny_newFunctionEnv S.nocell (by intro y hy;simp at hy) (fun h₁ hns₁ hsb₁=>?_) S.kind)
 dsimp only at hns₁ hsb₁⊢
 generalize hH2:s.heap.push { cls:=.type "list",dict:=none,data:=.seq ([]:List Value).toArray }=H2 at hns₁ hsb₁⊢
 have hCs:H2.objs.size=s.heap.objs.size+1:=by rw[<-hH2,x14]
 have hDC:s.heap.objs.size≠H2.objs.size:=by rw[hCs];exact xu (x0q _)
 have hCle:s.heap.objs.size<=H2.objs.size:=by rw[hCs];exact x2r _
 have below:∀b,b<s.heap.objs.size->b≠H2.objs.size:=fun b hb=>by rw[hCs];exact xu (x1g hb)
 have old:∀b o,s.heap.get? b=some o->h₁.get? b=some o:=fun b o e=>hsb₁.extBut b o (below b (xn e)) (x9 _ (hH2▸x9 _ e))
 have hacc:h₁.get? s.heap.objs.size=some { cls:=.type "list",data:=.seq ([]:List Value).toArray 0 }:=hsb₁.extBut _ _ hDC (x9 _ (hH2▸xr _ rfl))
 have hlt:∀b∈fp,b<s.heap.objs.size:=fun b hb=>by
  obtain⟨o,e,_⟩:=T.obj _ _ st b hb
  exact xn e
 obtain⟨W,⟨m0,w0⟩,turn⟩:=go
 have nD:∀b∈fp,b≠s.heap.objs.size:=fun b hb=>xu (hlt b hb)
 have nfs:s.heap.objs.size∉frs X.stack:=fun z=>by
  obtain⟨_,o,ho,_⟩:=I.stack.mem z
  exact absurd (xn ho) (x0o _)
 have ncl:∀y c,(z22 X.env sc.names []).lookup y=some c->c≠s.heap.objs.size:=fun y c e=>by
  obtain⟨v,o,ho,_⟩:=I.cell y c (S.sub I e)
  exact xu (xn ho)
 have loop:∀s₃:Shared,s₃={ s with heap:=h₁,toks:=s.toks+([]:List (Str×Value)).length }->
   codeAny (model X.prog X.w) X.A (.compLoop (.ListComp elt [⟨tg,iter,ifs,0⟩] sc pos) 0 (.ref it) (.ref s.heap.objs.size) (compEnvC sc (z22 X.env sc.names []) H2.objs.size X.env))
    (RR (.ref s.heap.objs.size) H2.objs.size) s₃:=by
  rintro s₃ rfl
  have I0:Inv (z11 X sc (x::y2::cap) s H H2.objs.size fp) [] (none::none::capt σ js) H { s with heap:=h₁,toks:=s.toks+([]:List (Str×Value)).length }:=zgh (v:=none) S I hfp hlt hCle hns₁ old (s4:=s)
  refine z9c (fun n s'=>∃i H' acc its k,Inv (z11 X sc (x::y2::cap) s H H2.objs.size fp) [] (none::none::capt σ js) H' s'/\tn i s'.heap/\(∀b∈fp,H' b=none)/\H' s.heap.objs.size=none/\
    s'.heap.get? s.heap.objs.size=some { cls:=.type "list",data:=.seq (its:List Value).toArray k }/\Vals acc its/\acc.length<=sizeLine/\W i n acc H') ?_ m0
   ⟨0,H,[],[],0,I0,T.keep _ _ _ st fun b _ o e=>old b o e,fun b hb=>(hfp b hb).1,I.hok.fresh (xi _),hacc,.nil,x08 _,w0⟩
  rintro n s3 ⟨i,H3,acc,its,kk,I3,st3,fr3,fD3,d3,r3,z3,w3⟩
  have fpY:∀{H':Hp}{pl:List (Addr×Obj)},(∀b∈fp,H' b=none)->(∀p∈pl,p.1=s.heap.objs.size)->∀b∈fp,FpOk (z11 X sc (x::y2::cap) s H H2.objs.size fp) pl H' b:=fun{H' pl} hn hp b hb=>
   ⟨hn b hb,below b (hlt b hb),fun z=>by
    rcases xk.mp (I.stkSub b z) with q|q
    .exact(hfp b hb).2.1 q
    .exact(hfp b hb).2.2.1 q,.inl hb,fun y c e=>(hfp b hb).2.2.2.2.1 y c (S.sub I e),fun p hp'=>by
    rw[hp p hp']
    exact Ne.symm (nD b hb)⟩
  have pin3:Inv (z11 X sc (x::y2::cap) s H H2.objs.size fp) [(s.heap.objs.size,{ cls:=.type "list",data:=.seq its.toArray kk })] (none::none::capt σ js) H3 s3:=I3.pins_of fun p hp=>by
   have e:p=(s.heap.objs.size,{ cls:=.type "list",data:=.seq its.toArray kk }):=by simpa using hp
   subst e
   exact⟨d3,fD3,hDC,nfs,fun v z=>by cases z⟩
  have onlyD:∀ p∈[(s.heap.objs.size,({ cls:=.type "list",data:=.seq its.toArray kk }:Obj))],p.1=s.heap.objs.size:=fun p hp=>by
   have e:p=(s.heap.objs.size,{ cls:=.type "list",data:=.seq its.toArray kk }):=by simpa using hp
   rw[e]
  rcases turn i n acc H3 w3 with⟨stop,qn⟩|⟨gon,hlen,step⟩
  .refine x0e (T.done (z11 X sc (x::y2::cap) s H H2.objs.size fp) rfl rfl rfl hcalm i _ s3 _ H3 (fun _ _=>False) pin3 (fpY fr3 onlyD) st3 stop) (fun r s4 hr=>?_) fun _ _ z=>z.elim
   obtain⟨hr,I4⟩:=hr
   subst hr
   have d4:=(I4.pin _ (x03 _ xp)).1
   exact hRR _ _ H3 s4 _ acc its kk (xi _) hCle hDC (I4.pins_of fun p hp=>by simp at hp) fD3 d4 r3 z3 qn
  .refine x0e (T.item (z11 X sc (x::y2::cap) s H H2.objs.size fp) rfl rfl rfl hcalm i _ s3 _ H3 (fun _ _=>False) pin3 (fpY fr3 onlyD) st3 gon) (fun r s4 hr=>?_) fun _ _ z=>z.elim
   obtain⟨u,hr,h4⟩:=hr
   subst hr
   dsimp only
   refine x0e h4 (fun _ s5 h5=>?_) fun _ _ z=>z.elim
   obtain⟨xv,H5,I5,r5,y5,st5,fr5⟩:=h5
   have I5':=I5.pinned (fpY fr5 onlyD) (T.obj _ _ st5)
   refine x0e (hgt s H H2.objs.size fp _ s5 _ H5 _ _ _ I5' r5 (step xv H5 y5)) (fun _ s6 q6=>?_) fun _ _ z=>z.elim
   obtain⟨σ6,H6,I6',⟨va,vb,e6⟩,q6⟩:=q6
   subst e6
   refine x0e (hc s H H2.objs.size fp _ s6 _ H6 _ I6' q6) (fun b s7 q7=>?_) fun _ _ z=>z.elim
   obtain⟨H7,I7,q7⟩:=q7
   have weak:∀{pl:List (Addr×Obj)}{HH:Hp}{ss:Shared},Inv (z11 X sc (x::y2::cap) s H H2.objs.size fp) pl (va::vb::capt σ js) HH ss->Inv (z11 X sc (x::y2::cap) s H H2.objs.size fp) pl (none::none::capt σ js) HH ss:=fun J=>J.weak rfl fun k v e=>by
    cases k with
    |zero=>exact absurd (xq e) (by simp)
    |succ k=>
     cases k with
     |zero=>exact absurd (xq e) (by simp)
     |succ k=>simpa using e
   have back:∀{HH:Hp} {ss:Shared},Inv (z11 X sc (x::y2::cap) s H H2.objs.size fp) ([(s.heap.objs.size,{ cls:=.type "list",data:=.seq its.toArray kk })]++z5m fp s5.heap) (va::vb::capt σ js) HH ss->
     tn (i+1) ss.heap/\(∀ b∈fp,HH b=none)/\HH s.heap.objs.size=none/\ss.heap.get? s.heap.objs.size=some { cls:=.type "list",data:=.seq its.toArray kk }:=fun{HH ss} K=>by
    refine⟨T.keep _ _ _ st5 fun b hb o e=>(K.pin (b,o) (x03 _ (x03 _ (z3k hb e)))).1,fun b hb=>?_,?_,?_⟩
    .obtain⟨o,e,d⟩:=T.obj _ _ st5 b hb
     exact(K.pin (b,o) (x03 _ (x03 _ (z3k hb e)))).2.1
    .exact(K.pin _ (x03 _ (x0p _ xp))).2.1
    .exact(K.pin _ (x03 _ (x0p _ xp))).1
   cases b with
   |false=>
    rw[if_neg xm]at q7⊢
    obtain⟨m',hm,w7⟩:=q7
    obtain⟨b1,b2,b3,b4⟩:=back I7
    exact⟨m',hm,i+1,H7,acc,its,kk,(weak I7).pins_of fun p hp=>by simp at hp,b1,b2,b3,b4,r3,z3,w7⟩
   |true=>
    rw[if_pos rfl]at q7⊢
    refine x0e (he s H H2.objs.size fp _ s7 _ H7 _ I7 q7) (fun u8 s8 q8=>?_) fun _ _ z=>z.elim
    obtain⟨v8,H8,I8,r8,m',hm,w8⟩:=q8
    obtain⟨b1,b2,b3,b4⟩:=back I8
    have hl3:=r3.length
    refine call_meets F.slot_list_append ⟨_,b4,rfl⟩ F.entry_list_append (F.args_list_append_2 _ _) (PySem.list_append s.heap.objs.size its.toArray kk u8 (by rw[xy];omega)) ⟨b4,?_⟩
    have q:=PySem.IsL.update b4 (·.push u8)
    obtain⟨n',q'⟩:∃ n',(s8.heap.update s.heap.objs.size (Obj.mapSeq (·.push u8))).get? s.heap.objs.size=some { cls:=.type "list",data:=.seq (its++[u8]).toArray n' }:=by
     rw[show(its++[u8]).toArray=its.toArray.push u8 by simp]
     exact⟨_,q⟩
    refine⟨m',hm,i+1,H8,acc++[v8],its++[u8],_,?_,T.keep _ _ _ b1 fun b hb o e=>(x1q s8.heap _ (Ne.symm (nD b hb))).trans e,b2,b3,q',r3.append (.cons r8 .nil),by rw[xt,x1w];omega,w8⟩
    exact Inv.turned (X:=z11 X sc (x::y2::cap) s H H2.objs.size fp) (it:=s.heap.objs.size) ((weak I8).pins_of (pins':=[]) fun p hp=>by simp at hp) (fun b o hb e=>(x1q s8.heap _ (Ne.symm hb)).trans e) b3 hDC (.inr (xi _)) ncl (fun p hp=>absurd (show p∈([]:List (Addr×Obj)) from hp) (by simp))
 exact codeAny_compStart_list (loop _ rfl) (T.self _ 0 _ _ _ (T.keep _ _ _ st fun b _ o e=>old b o e) (loop _ rfl))
theorem z9s{wi:TI}(hcalm:X.calm=true)(S:CompScope2 X sc x y2 cap js)(hgt:∀s H C fp,PG (z11 X sc (x::y2::cap) s H C fp) tg g2)(hi:PI X tg iter wi)(hc:∀s H C fp,PIf (z11 X sc (x::y2::cap) s H C fp) ifs tc)(he:∀s H C fp,PE (z11 X sc (x::y2::cap) s H C fp) elt te)
  (hs:∀x,foldedSetIterable iter X.env x=pure x:=by intro _;rfl):PE X (.ListComp elt [⟨tg,iter,ifs,0⟩] sc pos) (zjn wi g2 tc te js):=by
 intro pins s σ H Q I h
 rw[eval_ListComp]
 refine wpAny_comprehension_free (use:=none) rfl hs (z5f (S.cells I)) S.kind S.names (thn (hi pins s σ H _ I h) fun v s1 h1=>thn h1 fun itv s2 h2=>?_)
 obtain⟨it,fp,tn,J,H2,e,I2,T,st2,f2,go⟩:=h2
 subst e
 refine zgi S hgt hcalm hc he I2 T st2 f2 go fun D C HB sB σB acc its n hD hC hDC IB hHD hd rv hz q=>?_
 obtain⟨m,hn,_⟩:=IB.loc
 exact⟨m,hn,fun h' sb=>⟨.ref D,upd HB D (.lst acc),z9m (sc:=sc) (x:=x) (cap:=y2::cap) I2 f2 IB hC hD hDC hHD hd rv hz fun b o hb e=>sb.extBut b o hb e,rfl,q D hHD⟩⟩
end
end L2
end
section
namespace L2
open PySem PySem.Spec PyProof.Rows
theorem zaw(wi:TI)(g2:TG)(tc:TT)(te:TE)(js:List Nat)(σ:St)(H:Hp)(Q:VK):zjn wi g2 tc te js σ H Q=wi σ H fun J H1=>z5k J g2 tc te js σ H1 Q:=rfl
theorem zcz(K:PySem.W.Frag)(ta tk:TA)(σ:St)(H:Hp)(R:It->Hp->Prop):zmn K ta tk σ H R=ta σ H fun vs H1=>tk σ H1 fun ws H2=>∃a xs,vs=[.ref a]/\ws=[.int 1]/\SqL K H2 a xs/\R (Ite K a) H2:=rfl
section
variable {J:It}{K:PySem.W.Frag}{a:Addr}{xs:List V}{g2:TG}{tc:TT}{te:TE}{js:List Nat}{σ:St}{H1:Hp}{Q:VK}
theorem z9d(n:Nat)(hn:n<=sizeLine)(Pv:Nat->List V->Hp->Prop)(h0:Pv 0 [] H1)(hlen:∀i acc H,Pv i acc H->acc.length<=i)
  (hgo:∀i acc H,i<n->Pv i acc H->J.go i H) (hstop:∀acc H,Pv n acc H->J.stop n H)
  (hs:∀i acc H x H',i<n->Pv i acc H->J.yld i H x H'->g2 x (none::none::capt σ js) H' fun σ2 H4=>(∃a b,σ2=a::b::capt σ js)/\tc σ2 H4 fun b H2=>if b=true then te σ2 H2 fun v H3=>Nx n Pv i (acc++[v]) H3 else Nx n Pv i acc H2)
  (hd:∀acc H,Pv n acc H->∀p,H p=none->Q (.ref p) (upd H p (.lst acc))):z5k J g2 tc te js σ H1 Q:=by
 refine⟨fun i m acc H=>m=n-i/\i<=n/\Pv i acc H,⟨n,by simp,x08 _,h0⟩,?_⟩
 rintro i m acc H ⟨rfl,hi,p⟩
 by_cases hlt:i<n
 .exact .inr ⟨hgo i acc H hlt p,by have:=hlen i acc H p;omega,fun x H' y=>hs i acc H x H' hlt p y⟩
 .have e:i=n:=by omega
  subst e
  exact .inl ⟨hstop acc H p,hd acc H p⟩
theorem z7v(hn:xs.length<=sizeLine)(sp:Nat->List V->Hp->Prop)(h0:sp 0 [] H1)(hlen:∀i acc H,sp i acc H->acc.length<=i)(hl:∀i acc H,sp i acc H->SqL K H a xs)
  (hs:∀(Nt:List V->Hp->Prop) i acc H x,(∀acc H,sp (i+1) acc H->Nt acc H)->xs[i]? =some x->i<xs.length->sp i acc H->g2 x (none::none::capt σ js) H fun σ2 H4=>(∃a b,σ2=a::b::capt σ js)/\tc σ2 H4 fun b H2=>if b=true then te σ2 H2 fun v H3=>Nt (acc++[v]) H3 else Nt acc H2)
  (hd:∀acc H,sp xs.length acc H->∀p,H p=none->Q (.ref p) (upd H p (.lst acc))):z5k (Itl K a) g2 tc te js σ H1 Q:=by
 refine z9d xs.length hn sp h0 hlen (fun i acc H hi p=>⟨xs,xs[i],hl i acc H p,by simp[hi]⟩) (fun acc H p=>⟨xs,hl _ acc H p,xi _⟩) (fun i acc H x H' hi p y=>?_) hd
 obtain⟨e,y⟩:=y
 subst e
 exact hs (Nx xs.length sp i) i acc H' x (fun _ _ h=>nx hi h) (y xs (hl i acc H' p)) hi p
theorem zen(hn:xs.length<=sizeLine)(sp:Nat->List V->Hp->Prop)(h0:sp 0 [] H1)(hlen:∀i acc H,sp i acc H->acc.length<=i)(hl:∀i acc H,sp i acc H->SqL K H a xs)
  (hs:∀(Nt:List V->Hp->Prop) i acc H x T,(∀acc H,sp (i+1) acc H->Nt acc H)->xs[i]? =some x->i<xs.length->sp i acc H->H T=none->g2 (.ref T) (none::none::capt σ js) (upd H T (.tup [.int ((i:Int)+1),x])) fun σ2 H4=>(∃a b,σ2=a::b::capt σ js)/\tc σ2 H4 fun b H2=>if b=true then te σ2 H2 fun v H3=>Nt (acc++[v]) H3 else Nt acc H2)
  (hd:∀acc H,sp xs.length acc H->∀p,H p=none->Q (.ref p) (upd H p (.lst acc))):z5k (Ite K a) g2 tc te js σ H1 Q:=by
 refine z9d xs.length hn sp h0 hlen (fun i acc H hi p=>⟨xs,xs[i],hl i acc H p,by simp[hi]⟩) (fun acc H p=>⟨xs,hl _ acc H p,xi _⟩) (fun i acc H x H' hi p y=>?_) hd
 obtain⟨T,v,rfl,hT,rfl,y⟩:=y
 exact hs (Nx xs.length sp i) i acc H v T (fun _ _ h=>nx hi h) (y xs (hl i acc H p)) hi p hT
end
section
variable {X:Cx}{k:Nat}{C:Addr}{m:Str}{ps:List Str}{sp:Sp}{o e:Expr}{es:List Expr}{ta:TE}{t:TA}{apos pos:Pos}{E:XK}
end
theorem z7w{X:Cx}{K:PySem.W.Frag}{pos:Pos}{es:List Expr}{k:Nat}{t:TGs}(hc:X.calm=true)(h:PGs X es t)(hn:(assignEach es X.env).length=2:=by rfl)(hst:(assignEach es X.env).findIdx? (·.1)=none:=by rfl)(hK:X.K=K:=by rfl):PG X (.Tuple es k pos) (gTup K 2 t):=hK▸zai hc h hn hst
theorem zh3{X:Cx}{k:Nat}{C:Addr}{x:Str}{ps:List Str}{sp:Sp}{p pos:Pos}{e:Expr}{es:List Expr}{t:TA}(G:KHas X.prog X.w X.K X.mg X.base k C ps sp)(hr:Room (k+1) X.A)(hg:Gl X x)(hm:X.mg x=some (.ref C))(ha:PA X (e::es) t)(hdb:(x==("__debug__":Str))=false:=by decide)
  (he:starEach (e::es) X.env=(false,eval e X.env)::starEach es X.env:=by rfl) (hpl:(backTo pos (starEach es X.env)).any (·.1)=false:=by rfl):PE X (.Call (.Name x p) (e::es) [] pos) (z8s C sp [] E0 t):=by
 obtain⟨f,fd,F,M,hb⟩:=G
 exact zn4 M F hr hg hm hb .nil zat ha hdb he hpl
section
variable {X:Cx}
end
end L2
end
section
namespace L2
open PySem PySem.Spec PyProof.Rows
section
variable {X:Cx}
end
section
variable {X:Cx}
end
end L2
end
section
namespace L2
open PySem PySem.Spec PyProof.Rows
section
variable {X:Cx}
end
end L2
end
section
namespace L2
open PySem PySem.Spec PyProof.Rows
section
variable {X:Cx}
end
end L2
end
section
namespace L2
open PySem PySem.Spec PyProof.Rows
section
variable {X:Cx}
end
end L2
end
section
namespace PySem
open PyProof.Rows (StrsAre)
theorem zh4(t:SetTable)(j:Nat):(t.put j).1.led=t.led/\(t.put j).1.plain=t.plain:=by
 unfold SetTable.put;exact⟨rfl,rfl⟩
theorem zia(t:SetTable)(es:Array (Int×Value))(h:Int)(x:Value):
  (layNew t es h x).2.1.led=t.led/\(t.plain=false->(layNew t es h x).2.1.plain=false):=by
 unfold layNew
 split
 .dsimp only
  unfold SetTable.orStandIn
  split
  .exact⟨(zh4 t _).1,fun p=>(zh4 t _).2.trans p⟩
  .exact⟨rfl,fun _=>rfl⟩
 .exact⟨rfl,fun _=>rfl⟩
theorem zlk{mask finger moves:Nat}{led plain:Bool}{hs:Array Int}{r:SetTable×Array Nat}
  (e:SetTable.laid mask finger moves led plain hs=some r):r.1.led=led/\r.1.plain=plain:=by
 unfold SetTable.laid at e
 simp only[Option.bind_eq_bind,Option.bind_eq_some_iff,x26,Option.pure_def]at e
 obtain⟨o,_,rfl⟩:=e
 exact⟨rfl,rfl⟩
theorem zeo(t:SetTable)(es:Array (Int×Value))(n:Nat):
  (relayAll t es n).2.1.led=t.led/\(t.plain=false->(relayAll t es n).2.1.plain=false):=by
 unfold relayAll
 split
 .rename_i e
  dsimp only
  split
  .unfold SetTable.relaid at e
   have:=zlk e
   exact⟨this.1,fun p=>this.2.trans p⟩
  .exact⟨rfl,fun _=>rfl⟩
 .exact⟨rfl,fun _=>rfl⟩
section
variable {prog:Program}{w:World}{A:Around}{E:Value->Shared->Prop}{s:Shared}
end
section
variable {prog:Program}{w:World}{A:Around}{R:Result->Shared->Prop}{I:Addr}
variable {fp wr:List Addr}{G:Array GenState->Array GenState->Prop}{P:Nat->Value->Prop}{St:Nat->Shared->Prop}
end
noncomputable abbrev z3n(w:World):Bool:=!(w.params.followText "set-order")
section
variable {prog:Program}{w:World}{A:Around}{E:Value->Shared->Prop}{s:Shared}
noncomputable abbrev z2b(led:Bool):Obj:={ cls:=.type "set",dict:=none,data:=.set #[] 0 (.fresh 0 0 led) }
theorem zgj(a:Value){Q₁:Value->Shared->Prop}
  (h:Q₁ (.ref s.heap.objs.size) { s with heap:=s.heap.push (z2b (z3n w)) }):
  codeAny (model prog w) A (.call (.builtin "set.__new__") ⟨[.type "set",a],[]⟩) (wants Q₁ E) s:=by
 refine codeAny_of_tree ?_
 have c:=F.newCall_set_1 a
 show wpAny _ A.in1 (checkBuiltinCall "set.__new__" ⟨[.type "set",a],[]⟩>>=fun _=>again (.builtin "set.__new__" ⟨[.type "set",a],[]⟩)) _ _ s
 refine x6 (wpAny_of_eq c (xh ⟨x25 F.plain_set_new _,?_⟩))
 refine x1b F.entry_set_new ?_
 rw[x15 F.plain_set_new _]
 unfold Builtin.«set.__new__» Builtin.Frozenset.newClass
 have sub:=sub_set_self
 obtain⟨hp,g,d,tk,os⟩:=s
 dsimp only
 wp_walk
 refine wpAny_askSetting (xh ?_)
 dsimp only
 simp only[newObj]
 refine x6 (wpAny_alloc (xh ?_))
 exact xh h
end
end PySem
end
section
namespace PySem
open PyProof.Rows (StrsAre)
section
variable {prog:Program}{w:World}{A:Around}{E:Value->Shared->Prop}{s:Shared}
end
end PySem
end
section
namespace PySem
open PyProof.Rows (StrsAre)
section
variable {prog:Program}{w:World}{A:Around}{E:Value->Shared->Prop}
theorem zep{src:Source}{n:Nat}{Q:Nat->Shared->Prop}{s:Shared}(hn:n≠0)
  (h:∀i,i<n->Q i { s with drawn:=s.drawn.bump src }):wpAny (model prog w) A (choose src n) Q E s:=by
 intro Γ p hA
 exact⟨hn,h _ (Nat.mod_lt _ (Nat.pos_of_ne_zero hn))⟩
theorem z5b{α:Type}:∀(l:List α)(i:Nat)(h:i<l.length),List.Perm (l[i]::l.eraseIdx i) l
 |x::l,0,h=>by simp
 |x::l,i+1,h=>by
  have:=z5b l i (by simpa using h)
  simp only[List.getElem_cons_succ,List.eraseIdx_cons_succ]
  exact(List.Perm.swap ..).trans (this.cons x)
theorem zdj{α:Type}:drawOrder 0 ([]:List α)=pure []:=by rw[drawOrder]
theorem zax{α:Type}(n:Nat):∀(xs:List α){Q:List α->Shared->Prop}{s:Shared},xs.length=n->
  (∀ys d,List.Perm ys xs->Q ys { s with drawn:=d })->wpAny (model prog w) A (drawOrder n xs) Q E s:=by
 induction n with
 |zero=>
  intro xs Q s hl h
  have e:=x1i.mp hl
  subst e
  rw[zdj]
  exact xh (h [] s.drawn .nil)
 |succ n ih=>
  intro xs Q s hl h
  cases xs with
  |nil=>cases hl
  |cons x xs=>
   rw[drawOrder]
   case x_2=>intro z;cases z
   refine x6 (zep (by simp) fun i hi=>?_)
   rw[x8 hi]
   dsimp only
   refine x6 (ih _ (by rw[List.length_eraseIdx_of_lt hi];omega) fun ys d pr=>?_)
   exact xh (h _ d ((pr.cons _).trans (z5b _ _ hi)))
theorem z9e{α:Type}(next:Nat->Nat):∀(fuel k:Nat)(left:List α)(out:Array α),left.length=fuel->
  (pickOrder.go next fuel k left out).toList.Perm (out.toList++left)
 |0,k,left,out,h=>by
  rw[x1i.mp h];unfold pickOrder.go;simp
 |fuel+1,k,left,out,h=>by
  unfold pickOrder.go
  have hi:next k%left.length<left.length:=Nat.mod_lt _ (by omega)
  rw[x8 hi]
  dsimp only
  refine(z9e next fuel _ _ _ (by rw[List.length_eraseIdx_of_lt hi];omega)).trans ?_
  rw[Array.toList_push,List.append_assoc]
  exact(z5b _ _ hi).append_left _
theorem z4r{α:Type}(next:Nat->Nat)(xs:Array α):(pickOrder next xs).toList.Perm xs.toList:=by
 have:=z9e next xs.size 0 xs.toList #[] (by simp)
 simpa[pickOrder]using this
end
end PySem
end
section
namespace PySem
open PyProof.Rows (StrsAre)
theorem zdk:entryFor table "set.__iter__"=some Builtin.«frozenset.__iter__»:=
 entryFor_alias (id':="frozenset.__iter__") (by kernel_rfl) rfl (by decide+kernel) (by kernel_rfl)
theorem zeq(v:Value):argsOk "set.__iter__" ⟨[v],[]⟩:=by unfold argsOk;kernel_rfl
theorem slot_setNext:Slot "set_iterator" "__next__" "set_iterator.__next__":=by
 refine .of (owner:="set_iterator") (n:="__next__") ?_ ?_ ?_ ?_ ?_ ?_
 .rw[typeLookup_type,builtinLookup_eq_fast];kernel_rfl
 .decide+kernel
 .decide+kernel
 .decide+kernel
 .first
   |exact .inl (by decide+kernel)
   |exact .inr (by decide+kernel)
 .rw[isSubtype_type];kernel_rfl
theorem z5n:Slot "set_iterator" "__iter__" "set_iterator.__iter__":=by
 refine .of (owner:="set_iterator") (n:="__iter__") ?_ ?_ ?_ ?_ ?_ ?_
 .rw[typeLookup_type,builtinLookup_eq_fast];kernel_rfl
 .decide+kernel
 .decide+kernel
 .decide+kernel
 .first
   |exact .inl (by decide+kernel)
   |exact .inr (by decide+kernel)
 .rw[isSubtype_type];kernel_rfl
theorem z3x:entryFor table "set_iterator.__next__"=some Builtin.«set_iterator.__next__»:=by
 refine entryFor_of_tree ?_
 kernel_rfl
theorem z4d(v:Value):argsOk "set_iterator.__next__" ⟨[v],[]⟩:=by unfold argsOk;kernel_rfl
section
variable {prog:Program}{w:World}{A:Around}{E:Value->Shared->Prop}{s:Shared}
theorem z2u{Q:Bool->Shared->Prop}(h:Q (w.params.followText "set-order") s):
  wpAny (model prog w) A setsByText Q E s:=by
 unfold setsByText
 exact x6 (wpAny_askSetting (xh h))
noncomputable abbrev z1t(first:Value)(i:Nat)(a:Addr)(n ep:Nat):Obj:=
 { cls:=.type "set_iterator",data:=.fields #[first,.int i 0,.ref a,.int n 0,.int ep 0] }
theorem zib{a:Addr}{o:Obj}{es:Array (Int×Value)}{ep:Nat}{t:SetTable}{Q:Value->Shared->Prop}
  (ho:s.heap.get? a=some o) (hx:o.ExactSet) (hd:o.data=.set es ep t) (hf:t.fits es.size=true) (hb:es.size<scanBound)
  (hdrawn:w.params.followText "set-order"=false->t.plain=false->es.size>1->∀(ps:List Nat) d,ps.Perm (List.range es.size)->
   Q (.ref (s.heap.objs.size+1)) { s with
    heap:=(s.heap.push { cls:=.type "tuple",data:=.seq (ps.map fun(i:Nat)=>rawInt i).toArray }).push (z1t (.ref s.heap.objs.size) 0 a es.size ep),drawn:=d })
  (hplace:(w.params.followText "set-order"=true\/t.plain=true\/es.size<=1)->
   Q (.ref s.heap.objs.size) { s with heap:=s.heap.push (z1t (.int 0 0) 0 a es.size ep) }):
  wpAny (model prog w) A (pyIter (.ref a)) Q E s:=by
 have ty:s.TypeIs (.ref a) "set":=⟨o,ho,hx.1⟩
 refine wpAny_pyIter_slot ty F.slot_set_iter (x1d F.slot_set_iter ty zdk ?_ (zeq _))
 unfold Builtin.«frozenset.__iter__» Builtin.Frozenset.slot0 slotArgs
 simp only[List.isEmpty_nil,Bool.not_true,x0g,↓reduceIte,bind_assoc,x2n,x2k]
 unfold Builtin.Frozenset.addrOf Builtin.Frozenset.sizeOf setDrawn
 refine x6 (xh ?_)
 dsimp only
 refine x6 (xh ?_)
 refine x6 (x6 (wpAny_setEntries_of ho hd hf (xh ?_)))
 refine x6 (x6 (wpAny_setState_of ho hd hf ?_))
 dsimp only
 refine x6 (z2u (xh ?_))
 have look:=slot_setNext.lookup
 by_cases c:(!w.params.followText "set-order" &&(!t.plain&&decide (es.size>1)))=true
 .refine(?_:wpAny _ _ (if(!w.params.followText "set-order" &&(!t.plain&&decide (es.size>1)))=true then _ else _) _ _ _)
  rw[if_pos c]
  simp only[x0y,Bool.not_eq_true',x0s]at c
  refine x6 (zax _ _ (by simp) fun ps d pr=>?_)
  unfold newTuple
  refine x6 (x10 ?_ (by
   have l:=fits_of_scanBound hb
   have z:=pr.length_eq
   simp only[x1h]at z
   show _<=sizeLine
   simp only[xy,x5]
   omega))
  refine x6 (wpAny_setEpoch_of (x9 _ ho) hd hf ?_)
  unfold newFields
  refine x6 (x10 (xh ⟨_,rfl,"set_iterator",_,⟨_,xr _ rfl,rfl⟩,look,?_⟩))
  have:=hdrawn c.1 c.2.1 c.2.2 ps d pr
  rw[x14]
  exact this
 .refine(?_:wpAny _ _ (if(!w.params.followText "set-order" &&(!t.plain&&decide (es.size>1)))=true then _ else _) _ _ _)
  rw[if_neg c]
  refine x6 (xh ?_)
  refine x6 (wpAny_setEpoch_of ho hd hf ?_)
  unfold newFields
  refine x6 (x10 (xh ⟨_,rfl,"set_iterator",_,⟨_,xr _ rfl,rfl⟩,look,?_⟩))
  refine hplace ?_
  cases hb:w.params.followText "set-order" with
  |true=>exact .inl rfl
  |false=>
   cases hp:t.plain with
   |true=>exact .inr (.inl rfl)
   |false=>
    refine .inr (.inr ?_)
    rw[hb,hp]at c;simp at c;omega
noncomputable def SetIterAt(h:Heap)(I:Addr)(first:Value)(i:Nat)(a:Addr)(n ep:Nat):Prop:=
 ∃ o,h.get? I=some o/\o.cls=.type "set_iterator"/\o.data=.fields #[first,.int i 0,.ref a,.int n 0,.int ep 0]
theorem zdl{I T a:Addr}{i:Nat}{o oT:Obj}{es:Array (Int×Value)}{ep:Nat}{t:SetTable}{ps:List Nat}{nT:Nat}{Q:Option Value->Shared->Prop}
  (ho:s.heap.get? a=some o) (hd:o.data=.set es ep t) (hf:t.fits es.size=true)
  (hi:SetIterAt s.heap I (.ref T) i a es.size ep) (gT:s.heap.get? T=some oT) (dT:oT.data=.seq (ps.map fun(i:Nat)=>rawInt i).toArray nT)
  {p:Nat} {e:Int×Value} (hp:ps[i]? =some p) (he:es[p]? =some e)
  (h:∀h',SetIterAt h' I (.ref T) (i+1) a es.size ep->Heap.SameBut I s.heap h'->Q (some e.2) { s with heap:=h' }):
  wpAny (model prog w) A (pyNext (.ref I)) Q E s:=by
 obtain⟨oI,gI,cI,dI⟩:=hi
 have ty:s.TypeIs (.ref I) "set_iterator":=⟨oI,gI,cI⟩
 unfold pyNext
 refine x6 (wpAny_attempt (x2l (name:=Str.ofString "__next__") ty slot_setNext
  (x1d slot_setNext ty z3x ?_ (z4d _))))
 unfold Builtin.«set_iterator.__next__» slotArgs
 simp only[List.isEmpty_nil,Bool.not_true,x0g,↓reduceIte,bind_assoc,x2n,x2k]
 refine x6 (xh ?_)
 dsimp only
 refine x6 (wpAny_fieldsOf gI dI ?_)
 dsimp only
 refine x6 (wpAny_setEntries_of ho hd hf ?_)
 rw[if_neg (show¬((((es.size:Nat):Int) !=((es.size:Nat):Int))=true) by simp)]
 refine x6 (wpAny_seqItems gT dT ?_)
 have look:(ps.map fun(i:Nat)=>rawInt i).toArray[(↑i:Int).toNat]? =some (.int p 0):=by
  simp[hp,rawInt]
 dsimp only
 rw[look]
 dsimp only
 unfold setNextDrawn
 refine x6 (x6 (wpAny_setState_of ho hd hf ?_))
 dsimp only
 rw[if_neg (show¬((ep !=(↑ep:Int).toNat)=true) by simp)]
 have look2:es[(↑p:Int).toNat]? =some e:=by simpa using he
 rw[look2]
 dsimp only
 refine xh ?_
 refine x6 (x2w gI dI (by simp) (xh ⟨e.2,rfl,xh (h _ ?_ (x0i ..))⟩))
 refine⟨_,x1x _ gI (Obj.isFreed_of_fields (x1m dI _)),(Obj.cls_mapFields ..).trans cI,?_⟩
 rw[x1m dI]
 simp[rawInt]
end
end PySem
end
section
namespace PySem
open PyProof.Rows (StrsAre)
section
variable {prog:Program}{w:World}{A:Around}{E:Value->Shared->Prop}{s:Shared}
theorem z8z{I T a:Addr}{i:Nat}{o oT:Obj}{es:Array (Int×Value)}{ep:Nat}{t:SetTable}{ps:List Nat}{nT:Nat}{Q:Option Value->Shared->Prop}
  (hh:A.handled=none) (ho:s.heap.get? a=some o) (hd:o.data=.set es ep t) (hf:t.fits es.size=true)
  (hi:SetIterAt s.heap I (.ref T) i a es.size ep) (gT:s.heap.get? T=some oT) (dT:oT.data=.seq (ps.map fun(i:Nat)=>rawInt i).toArray nT)
  (hp:ps[i]? =none) (h:∀h',Heap.ExtBut I s.heap h'->Q none { s with heap:=h' }):
  wpAny (model prog w) A (pyNext (.ref I)) Q E s:=by
 obtain⟨oI,gI,cI,dI⟩:=hi
 have ty:s.TypeIs (.ref I) "set_iterator":=⟨oI,gI,cI⟩
 unfold pyNext
 refine x6 (wpAny_attempt (x2l (name:=Str.ofString "__next__") ty slot_setNext
  (x1d slot_setNext ty z3x ?_ (z4d _))))
 unfold Builtin.«set_iterator.__next__» slotArgs
 simp only[List.isEmpty_nil,Bool.not_true,x0g,↓reduceIte,bind_assoc,x2n,x2k]
 refine x6 (xh ?_)
 dsimp only
 refine x6 (wpAny_fieldsOf gI dI ?_)
 dsimp only
 refine x6 (wpAny_setEntries_of ho hd hf ?_)
 rw[if_neg (show¬((((es.size:Nat):Int) !=((es.size:Nat):Int))=true) by simp)]
 refine x6 (wpAny_seqItems gT dT ?_)
 have look:(ps.map fun(i:Nat)=>rawInt i).toArray[(↑i:Int).toNat]? =none:=by
  simp at hp;simp[hp]
 dsimp only
 rw[look]
 dsimp only
 refine x6 (x2w gI dI (by simp) ?_)
 have g2:=x1x (Obj.mapFields (·.setIfInBounds 0 (rawInt 0))) gI (Obj.isFreed_of_fields (x1m dI _))
 refine x6 (x2w g2 (x1m dI _) (by simp) ?_)
 refine x6 ?_
 simp only[newExc,newTuple]
 refine x6 (x10 ?_ (by size_fits))
 refine x6 (m:=firstArgMember _ _) (wpAny_of_eq (a:=Value.none) (by simp only[firstArgMember];rfl) ?_)
 refine x10 ?_ (by size_fits)
 simp only[raiseNew]
 refine x6 (wpAny_handled ?_)
 rw[show A.in1.handled=none from hh]
 refine x6 (xh (wpAny_throw ?_))
 refine x6 (wpAny_isInstance (T:="StopIteration") (b:=true) ⟨_,xr _ rfl,rfl⟩ isSubtype_stop ?_)
 exact xh (h _ ((((x0i ..).trans (x0i ..)).extBut.push _).push _))
theorem z7x{a:Addr}{o:Obj}{es:Array (Int×Value)}{ep:Nat}{t:SetTable}{slot i:Nat}{Q:Option (Value×Nat)->Shared->Prop}
  (hw:w.params.followText "set-order"=true) (ho:s.heap.get? a=some o) (hd:o.data=.set es ep t) (hf:t.fits es.size=true)
  (h:Q (((pickOrder (w.params.setOrder a ep) es)[i]?).map fun e=>(e.2,slot)) s):wpAny (model prog w) A (setNext a slot i ep) Q E s:=by
 unfold setNext
 refine x6 (wpAny_setState_of ho hd hf ?_)
 dsimp only
 refine x6 (z2u ?_)
 rw[hw]
 simp only[↓reduceIte,x2k,x0g]
 unfold setWalk
 refine x6 (x6 (wpAny_setState_of ho hd hf ?_))
 dsimp only
 refine x6 (z2u ?_)
 rw[hw]
 simp only[↓reduceIte]
 refine x6 (wpAny_askSetting (xh ?_))
 exact xh h
end
end PySem
end
section
namespace PySem
open PyProof.Rows (StrsAre)
section
variable {prog:Program}{w:World}{A:Around}{E:Value->Shared->Prop}{s:Shared}
theorem z7y{I a:Addr}{slot i next:Nat}{x:Value}{o:Obj}{es:Array (Int×Value)}{ep:Nat}{t:SetTable}{Q:Option Value->Shared->Prop}
  (ho:s.heap.get? a=some o) (hd:o.data=.set es ep t) (hf:t.fits es.size=true)
  (hi:SetIterAt s.heap I (.int slot 0) i a es.size ep)
  (hs:∀(A:Around)(E:Value->Shared->Prop)(Q:Option (Value×Nat)->Shared->Prop),Q (some (x,next)) s->wpAny (model prog w) A (setNext a slot i ep) Q E s)
  (h:∀h',SetIterAt h' I (.int next 0) (i+1) a es.size ep->Heap.SameBut I s.heap h'->Q (some x) { s with heap:=h' }):
  wpAny (model prog w) A (pyNext (.ref I)) Q E s:=by
 obtain⟨oI,gI,cI,dI⟩:=hi
 have ty:s.TypeIs (.ref I) "set_iterator":=⟨oI,gI,cI⟩
 unfold pyNext
 refine x6 (wpAny_attempt (x2l (name:=Str.ofString "__next__") ty slot_setNext
  (x1d slot_setNext ty z3x ?_ (z4d _))))
 unfold Builtin.«set_iterator.__next__» slotArgs
 simp only[List.isEmpty_nil,Bool.not_true,x0g,↓reduceIte,bind_assoc,x2n,x2k]
 refine x6 (xh ?_)
 dsimp only
 refine x6 (wpAny_fieldsOf gI dI ?_)
 dsimp only
 refine x6 (wpAny_setEntries_of ho hd hf ?_)
 rw[if_neg (show¬((((es.size:Nat):Int) !=((es.size:Nat):Int))=true) by simp)]
 simp only[x0z]
 refine x6 (hs _ _ _ ?_)
 dsimp only
 refine x6 (x2w gI dI (by simp) ?_)
 have d2:=x1m dI (·.setIfInBounds 0 (rawInt next))
 have g2:=x1x (Obj.mapFields (·.setIfInBounds 0 (rawInt next))) gI (Obj.isFreed_of_fields d2)
 refine x6 (x2w g2 d2 (by simp) (xh ⟨x,rfl,xh (h _ ?_ ((x0i ..).trans (x0i ..)))⟩))
 refine⟨_,x1x _ g2 (Obj.isFreed_of_fields (x1m d2 _)),?_,?_⟩
 .exact(Obj.cls_mapFields ..).trans ((Obj.cls_mapFields ..).trans cI)
 .rw[x1m d2]
  simp[rawInt]
theorem z5o{I a:Addr}{slot i:Nat}{o:Obj}{es:Array (Int×Value)}{ep:Nat}{t:SetTable}{Q:Option Value->Shared->Prop}
  (hh:A.handled=none) (ho:s.heap.get? a=some o) (hd:o.data=.set es ep t) (hf:t.fits es.size=true)
  (hi:SetIterAt s.heap I (.int slot 0) i a es.size ep)
  (hs:∀(A:Around)(E:Value->Shared->Prop)(Q:Option (Value×Nat)->Shared->Prop),Q none s->wpAny (model prog w) A (setNext a slot i ep) Q E s)
  (h:∀h',Heap.ExtBut I s.heap h'->Q none { s with heap:=h' }):
  wpAny (model prog w) A (pyNext (.ref I)) Q E s:=by
 obtain⟨oI,gI,cI,dI⟩:=hi
 have ty:s.TypeIs (.ref I) "set_iterator":=⟨oI,gI,cI⟩
 unfold pyNext
 refine x6 (wpAny_attempt (x2l (name:=Str.ofString "__next__") ty slot_setNext
  (x1d slot_setNext ty z3x ?_ (z4d _))))
 unfold Builtin.«set_iterator.__next__» slotArgs
 simp only[List.isEmpty_nil,Bool.not_true,x0g,↓reduceIte,bind_assoc,x2n,x2k]
 refine x6 (xh ?_)
 dsimp only
 refine x6 (wpAny_fieldsOf gI dI ?_)
 dsimp only
 refine x6 (wpAny_setEntries_of ho hd hf ?_)
 rw[if_neg (show¬((((es.size:Nat):Int) !=((es.size:Nat):Int))=true) by simp)]
 simp only[x0z]
 refine x6 (hs _ _ _ ?_)
 dsimp only
 refine x6 (x2w gI dI (by simp) ?_)
 refine x6 ?_
 simp only[newExc,newTuple]
 refine x6 (x10 ?_ (by size_fits))
 refine x6 (m:=firstArgMember _ _) (wpAny_of_eq (a:=Value.none) (by simp only[firstArgMember];rfl) ?_)
 refine x10 ?_ (by size_fits)
 simp only[raiseNew]
 refine x6 (wpAny_handled ?_)
 rw[show A.in1.handled=none from hh]
 refine x6 (xh (wpAny_throw ?_))
 refine x6 (wpAny_isInstance (T:="StopIteration") (b:=true) ⟨_,xr _ rfl,rfl⟩ isSubtype_stop ?_)
 exact xh (h _ (((x0i ..).extBut.push _).push _))
end
end PySem
end
section
namespace PySem
open PyProof.Rows (StrsAre)
theorem z90:entryFor table "set_iterator.__iter__"=some Builtin.«dict_keyiterator.__iter__»:=
 entryFor_alias (id':="dict_keyiterator.__iter__") (by kernel_rfl) rfl (by decide+kernel) (by kernel_rfl)
theorem z9t(v:Value):argsOk "set_iterator.__iter__" ⟨[v],[]⟩:=by unfold argsOk;kernel_rfl
section
variable {prog:Program}{w:World}{A:Around}{E:Value->Shared->Prop}{s:Shared}
theorem z5p{I a:Addr}{first:Value}{i n ep:Nat}{Q:Value->Shared->Prop}(hi:SetIterAt s.heap I first i a n ep)
  (h:Q (.ref I) s):wpAny (model prog w) A (pyIter (.ref I)) Q E s:=by
 obtain⟨o,g,c,d⟩:=hi
 have ty:s.TypeIs (.ref I) "set_iterator":=⟨o,g,c⟩
 refine wpAny_pyIter_slot ty z5n (x1d z5n ty z90 ?_ (z9t _))
 show wpAny _ _ (ret (.ref I)) _ _ s
 exact xh ⟨_,rfl,"set_iterator",_,ty,slot_setNext.lookup,h⟩
theorem SetIterAt.keep{h h':Heap}{I a:Addr}{first:Value}{i n ep:Nat}(t:SetIterAt h I first i a n ep)
  (e:∀o,h.get? I=some o->h'.get? I=some o):SetIterAt h' I first i a n ep:=by
 obtain⟨o,g,r⟩:=t
 exact⟨o,e o g,r⟩
theorem zgk(hh:A.handled=none){I T a:Addr}{o oT:Obj}{es:Array (Int×Value)}{ep:Nat}{t:SetTable}{ps:List Nat}{nT:Nat}
  (hd:o.data=.set es ep t) (hf:t.fits es.size=true) (dT:oT.data=.seq (ps.map fun(i:Nat)=>rawInt i).toArray nT)
  (hI:a≠I) (hT:T≠I) (pr:ps.Perm (List.range es.size)):
  WalksS prog w A I [I,a,T] [I] (fun x y=>x=y) es.size (fun i v=>∃p e,ps[i]? =some p/\es[p]? =some e/\v=e.2)
   (fun i s=>SetIterAt s.heap I (.ref T) i a es.size ep/\s.heap.get? a=some o/\s.heap.get? T=some oT) where
 sub:=fun b hb=>by simp at hb;simp[hb]
 grefl:=fun _=>rfl
 gtrans:=fun _ _ _ p q=>p.trans q
 frame:=fun i s h' tk st _ k=>⟨st.1.keep (k I (by simp)),k a (by simp) _ st.2.1,k T (by simp) _ st.2.2⟩
 item:=fun i s Q E lt st hQ=>by
  have len:ps.length=es.size:=by simpa using pr.length_eq
  have hp:ps[i]? =some ps[i]:=x8 (by omega)
  have mem:ps[i]<es.size:=x0l.mp (pr.mem_iff.mp (x2v _))
  have he:es[ps[i]]? =some es[ps[i]]:=x0v mem
  refine zdl st.2.1 hd hf st.1 st.2.2 dT hp he fun h' si sb=>?_
  refine hQ _ _ ⟨_,_,hp,he,rfl⟩ ⟨si,?_,?_⟩ ⟨fun b o' hb e=>?_,rfl,rfl,rfl,xi _⟩
  .exact(sb.2 a hI).trans st.2.1
  .exact(sb.2 T hT).trans st.2.2
  .exact(sb.2 b (by simpa using hb)).trans e
 done:=fun s Q E st hQ=>by
  have len:ps.length=es.size:=by simpa using pr.length_eq
  refine z8z hh st.2.1 hd hf st.1 st.2.2 dT (x1f (by omega)) fun h' xb=>?_
  exact hQ _ ⟨fun b o' hb e=>xb b o' (by simpa using hb) e,rfl,rfl,rfl,xi _⟩
 self:=fun i s Q E st h=>z5p st.1 h
theorem zic(hh:A.handled=none)(hw:w.params.followText "set-order"=true){I a:Addr}{o:Obj}{es:Array (Int×Value)}{ep:Nat}{t:SetTable}
  (hd:o.data=.set es ep t) (hf:t.fits es.size=true) (hI:a≠I):
  WalksS prog w A I [I,a] [I] (fun x y=>x=y) es.size (fun i v=>∃e,(pickOrder (w.params.setOrder a ep) es)[i]? =some e/\v=e.2)
   (fun i s=>SetIterAt s.heap I (.int (0:Nat) 0) i a es.size ep/\s.heap.get? a=some o) where
 sub:=fun b hb=>by simp at hb;simp[hb]
 grefl:=fun _=>rfl
 gtrans:=fun _ _ _ p q=>p.trans q
 frame:=fun i s h' tk st _ k=>⟨st.1.keep (k I (by simp)),k a (by simp) _ st.2⟩
 item:=fun i s Q E lt st hQ=>by
  have len:(pickOrder (w.params.setOrder a ep) es).size=es.size:=by
   rw[<-x0f,(z4r _ _).length_eq,x0f]
  have he:(pickOrder (w.params.setOrder a ep) es)[i]? =some (pickOrder (w.params.setOrder a ep) es)[i]:=x0v (by omega)
  refine z7y (next:=0) (x:=(pickOrder (w.params.setOrder a ep) es)[i].2) st.2 hd hf st.1 (fun A' E' Q' q=>z7x hw st.2 hd hf (by rw[he];exact q)) fun h' si sb=>?_
  refine hQ _ _ ⟨_,he,rfl⟩ ⟨si,(sb.2 a hI).trans st.2⟩ ⟨fun b o' hb e=>?_,rfl,rfl,rfl,xi _⟩
  exact(sb.2 b (by simpa using hb)).trans e
 done:=fun s Q E st hQ=>by
  have len:(pickOrder (w.params.setOrder a ep) es).size=es.size:=by
   rw[<-x0f,(z4r _ _).length_eq,x0f]
  have he:(pickOrder (w.params.setOrder a ep) es)[es.size]? =none:=Array.getElem?_eq_none (by omega)
  refine z5o hh st.2 hd hf st.1 (fun A' E' Q' q=>z7x hw st.2 hd hf (by rw[he];exact q)) fun h' xb=>?_
  exact hQ _ ⟨fun b o' hb e=>xb b o' (by simpa using hb) e,rfl,rfl,rfl,xi _⟩
 self:=fun i s Q E st h=>z5p st.1 h
end
end PySem
end
section
namespace PySem
open PyProof.Rows (StrsAre)
section
variable {prog:Program}{w:World}{A:Around}{E:Value->Shared->Prop}{s:Shared}
theorem zay{t:SetTable}{n:Nat}(h:t.fits n=true):t.place.size=n:=by
 unfold SetTable.fits at h
 simp only[x0y,beq_iff_eq]at h
 exact h.1
end
end PySem
end
section
namespace PySem
open PyProof.Rows (StrsAre)
section
variable {prog:Program}{w:World}{A:Around}{E:Value->Shared->Prop}{s:Shared}
theorem zll{a:Addr}{Q:Bool->Shared->Prop}(ty:s.TypeIs (.ref a) "set")(h:Q false s):
  wpAny (model prog w) A (Builtin.List.listLengthHint (.ref a)) Q E s:=by
 unfold Builtin.List.listLengthHint
 refine x6 (wpAny_specialOf ty F.slot_set_len.lookup ?_)
 generalize e:("set.__len__":String)=id
 wp_delta
 have sp:splitId id=some ("set","__len__"):=by subst e;decide+kernel
 rw[sp]
 subst e
 refine x6 (wpAny_isInstance (b:=true) ty sub_set_self ?_)
 refine wpAny_ite_split (fun z=>absurd z (by decide)) (fun _=>?_)
 refine wpAny_ite_split (fun _=>?_) (fun z=>absurd (by decide+kernel) z)
 exact x6 (wpAny_typeOf ty (xh h))
theorem z4e{R:Result->Shared->Prop}{a I S:Addr}{fp:List Addr}{n c:Nat}{P:Nat->Value->Prop}{St:Nat->Shared->Prop}{res:Value}{b:Bool}
  (W:WalksS prog w A.in1 I fp [I] (fun x y=>x=y) n P St) (hn:n<=sizeLine) (hS:S∉fp) (st:St 0 s)
  (gS:s.heap.get? S=some { cls:=.type "list",data:=.seq #[] c }) (ty:s.TypeIs (.ref a) "set")
  (hR:∀ s' acc c',Moved (S::[I]) (fun x y=>x=y) s s'->s'.heap.get? S=some { cls:=.type "list",dict:=none,data:=.seq acc c',slots:=#[] }->ItemsOf P acc n->R (.ok (.ret res)) s'):
  wpAny (model prog w) A.in1 (do
   let room<-holding [.ref I] (Builtin.List.listLengthHint (.ref a))
   if(room||b)=true then do
    rule "list.extend.makes-room"
    Builtin.List.listTouch (.ref S)
    again (.builtin "list.extend.loop" ⟨[.ref S,.ref I,res],[]⟩)
   else again (.builtin "list.extend.loop" ⟨[.ref S,.ref I,res],[]⟩))
   (fun fin s'=>match fin with| .done f=>R (.ok f) s'| .again c'=>c'.quiet=true/\codeAny (model prog w) A c' R s') (fun e s'=>R (.error e) s') s:=by
 refine x6 (x0t (zll ty ?_))
 refine wpAny_ite_split (fun _=>?_) (fun _=>xh ⟨x25 F.plain_extend_loop _,codeAny_extend_loopS W hn S hS res n 0 _ #[] c rfl (x08 _) st gS (ItemsOf.nil _) hR⟩)
 refine x6 (wpAny_rule ?_)
 refine x6 ?_
 show wpAny _ _ (updateSeq S (·.push .none)>>=fun _=>updateSeq S (·.pop)) _ _ _
 refine x6 (wpAny_updateSeq gS rfl ?_)
 have g2:=x1x (Obj.mapSeq (·.push Value.none)) gS rfl
 refine wpAny_updateSeq (hz:=by seq_fits) g2 rfl ?_
 have g3:=x1x (Obj.mapSeq (·.pop)) g2 rfl
 have oth:∀q o,q≠S->s.heap.get? q=some o->((s.heap.update S (Obj.mapSeq (·.push Value.none))).update S (Obj.mapSeq (·.pop))).get? q=some o:=
  fun q o hq e=>(x1q _ _ (Ne.symm hq)).trans ((x1q _ _ (Ne.symm hq)).trans e)
 refine xh ⟨x25 F.plain_extend_loop _,codeAny_extend_loopS W hn S hS res n 0 _ _ _ rfl (x08 _) ?_ g3 (ItemsOf.nil _) fun s' acc c' mv g ii=>?_⟩
 .exact W.frame 0 s _ s.toks st (xi _) fun q hq o e=>oth q o (fun z=>hS (z▸hq)) e
 .refine hR s' acc c' (Moved.trans W.gtrans ((Moved.refl W.grefl).then_heap (xi _) fun q o hq e=>?_) mv) g ii
  exact oth q o (fun z=>hq (z▸.head _)) e
end
end PySem
end
section
namespace PySem
open PyProof.Rows (StrsAre)
theorem z9f{α:Type}[BEq α][LawfulBEq α]:∀(D ks:List α),D.Nodup->(∀x∈D,x∈ks)->ks.length=D.length->ks.Perm D
 |[],ks,_,_,h=>by rw[x1i.mp h]
 |x::D,ks,nd,sub,h=>by
  have xin:=sub x (.head _)
  have pe:=List.perm_cons_erase xin
  refine pe.trans ((z9f D (ks.erase x) (x0k.mp nd).2 (fun y hy=>?_) ?_).cons x)
  .have ne:y≠x:=fun e=>(x0k.mp nd).1 (e▸hy)
   exact(List.mem_erase_of_ne ne).mpr (sub y (.tail _ hy))
  .have:=pe.length_eq
   simp only[x09]at this h
   omega
theorem zjo{P:Nat->Value->Prop}{L:List (Int×Value)}{acc:Array Value}(h:ItemsOf P acc L.length)
  (hP:∀i v,P i v->∃e,L[i]? =some e/\v=e.2):acc.toList=L.map (·.2):=by
 apply x28
 intro i
 by_cases lt:i<L.length
 .have lt':i<acc.size:=by rw[h.1];exact lt
  obtain⟨e,he,hv⟩:=hP i acc[i] (h.2 i acc[i] (x0v lt'))
  rw[x2e,x0v lt',xj,he,hv]
  rfl
 .rw[x1f (by rw[x0f,h.1];omega),x1f (by rw[x5];omega)]
section
variable {prog:Program}{w:World}{A:Around}{E:Value->Shared->Prop}{s:Shared}
end
end PySem
end
section
namespace PySem
open PyProof.Rows (StrsAre)
section
variable {prog:Program}{w:World}{A:Around}{E:Value->Shared->Prop}{s:Shared}
end
end PySem
end
section
namespace PySem
open PyProof.Rows
section
variable {prog:Program}{w:World}{A:Around}{E:Value->Shared->Prop}{s:Shared}
end
end PySem
end
section
namespace L2
open PySem PySem.Spec PyProof.Rows
theorem zh5:∀{ss:List Str}{us:List Value},Vals (ss.map V.str) us->StrsAre us ss
 |[],_,h=>by cases h;exact .nil
 |s::ss,_,h=>by
  cases h with
  |cons h1 t=>
   obtain⟨k,rfl⟩:=h1
   exact .cons s k (zh5 t)
theorem z8u:∀{us:List Value}{ss:List Str},StrsAre us ss->Vals (ss.map V.str) us
 |_,_,.nil=>.nil
 |_,_,.cons y t r=>.cons ⟨t,rfl⟩ (z8u r)
theorem zgl{P:Program}{w:World}{H:Hp}{h:Heap}{a:Addr}{o:HO}(x:ObjOk P w H h a o):∃u,h.get? a=some u:=by
 cases o with
 |lst xs=>obtain⟨_,_,_,_,e⟩:=x;exact⟨_,e⟩
 |tup xs=>obtain⟨_,_,_,_,e,_⟩:=x;exact⟨_,e⟩
 |dK kvs=>obtain⟨_,_,_,_,_,_,_,e,_⟩:=x;exact⟨_,e⟩
 |dT kvs=>obtain⟨_,_,_,_,_,_,_,e,_⟩:=x;exact⟨_,e⟩
 |set S n=>obtain⟨_,_,_,_,e,_⟩:=x;exact⟨_,e⟩
 |ins C dx fs=>obtain⟨_,_,_,e,_⟩:=x;exact⟨_,e⟩
 |own y=>obtain⟨_,e⟩:=x;exact⟨_,e⟩
 |xd fs=>obtain⟨_,⟨_,_,_,e,_⟩,_⟩:=x;exact⟨_,e⟩
 |rng lo hi=>obtain⟨_,_,_,e⟩:=x;exact⟨_,e⟩
 |frz ob u=>obtain⟨e,_⟩:=x;exact⟨_,e⟩
 |tbl ps=>exact⟨_,show h.get? a=some _ from x⟩
 |met f y=>exact⟨_,show h.get? a=some _ from x⟩
 |ext φ=>obtain⟨_,⟨_,e⟩,_⟩:=x;exact⟨_,e⟩
section
variable {X:Cx}
end
end L2
end
section
namespace L2
open PySem PySem.Spec PyProof.Rows
section
variable {X:Cx}
end
end L2
end
section
namespace L2
open PySem PySem.Spec PyProof.Rows
section
variable {X:Cx}
end
section
variable {X:Cx}{sc:Scope}{x y2:Str}{cap:List Str}{js:List Nat}{tg elt iter:Expr}{ifs:List Expr}{g2:TG}{tc:TT}{te:TE}{pos:Pos}
end
end L2
end
section
namespace L2
open PySem PySem.Spec PyProof.Rows
section
variable {X:Cx}
end
end L2
end
section
namespace L2
open PySem PySem.Spec PyProof.Rows
section
variable {X:Cx}
end
end L2
end
section
namespace PySem
open Sem (wp)
open AutoSeq1 (wpAny_loadPart')
end PySem
end
section
namespace L2
open PySem PySem.Spec PyProof.Rows
section
variable {X:Cx}
end
end L2
end
section
namespace L2
open PySem PySem.Spec PyProof.Rows
section
variable (P:Program)(w:World)
end
section
variable {P:Program}{w:World}{H H':Hp}{h h':Heap}{a:Addr}{o:HO}
end
section
variable {P:Program}{w:World}{H:Hp}{h h':Heap}{x e:Addr}{o':HO}
end
section
variable {fs fs' ex ex':List Addr}{H H1 H2:Hp}{h h1 h2 h':Heap}{a x e:Addr}{o:HO}
end
end L2
namespace L2
open PySem PySem.Spec PyProof.Rows
section
variable {X:Cx}{pins:List (Addr×Obj)}{σ:List (Option V)}{H H':Hp}{s:Shared}{h':Heap}
end
end L2
namespace L2
open PySem PySem.Spec PyProof.Rows
section
variable {X:Cx}
variable {a b:Expr}{ta tb:TE}{pos:Pos}
variable {tA tB':TT}{rest:List Expr}
end
end L2
namespace L2
open PySem PySem.Spec PyProof.Rows
section
variable {X:Cx}{pins:List (Addr×Obj)}{σ:St}{H:Hp}{s:Shared}{a:Addr}{xs ys:List V}
end
section
variable {X:Cx}{pins:List (Addr×Obj)}{σ:St}{H:Hp}{s:Shared}{E:Value->Shared->Prop}
end
section
variable {X:Cx}{st:Stmt}{rest:List Stmt}{t u:TS}{e:Expr}{te:TE}{pos:Pos}
end
section
variable {X:Cx}{pos:Pos}
end
section
variable {X:Cx}{pos:Pos}
end
end L2
namespace L2
open PySem PySem.Spec PyProof.Rows
section
variable {X:Cx}{tg:Expr}
end
end L2
namespace L2
open PySem PySem.Spec PyProof.Rows
section
variable {X:Cx}{a b c:Expr}{ta tb tc:TE}{pos:Pos}
end
section
variable {X:Cx}{a b c:Expr}{ta tb tc:TE}{pos:Pos}
end
end L2
namespace L2
open PySem PySem.Spec PyProof.Rows
section
variable {prog:Program}{w:World}{A:Around}{E:Value->Shared->Prop}{s:Shared}{K:PySem.W.Frag}{x dx C f:Addr}{mA:Str->Option Value}{name:Str}{v:Value}
end
section
variable {P:Program}{w:World}{H H':Hp}{h h':Heap}{a C dx:Addr}{fs fs':List (Str×V)}
end
section
variable {X:Cx}{pins:List (Addr×Obj)}{σ:St}{H:Hp}{s:Shared}{a C dx:Addr}{fs:List (Str×V)}{f:Str}{v:V}{A:Around}{E:Value->Shared->Prop}
end
section
variable {X:Cx}{o e value:Expr}{f:Str}{pos pos' tpos:Pos}{ta tv:TE}
end
section
variable {X:Cx}{pins:List (Addr×Obj)}{σ:St}{H:Hp}{s:Shared}{A:Around}{E:Value->Shared->Prop}{Q:Value->Shared->Prop}{c:Value}{b:Bool}
end
end L2
namespace L2
open PySem PySem.Spec PyProof.Rows
section
variable {X:Cx}{e:Expr}{es:List Expr}{te:TE}{t:TA}{pos:Pos}
end
section
variable {X:Cx}{pins:List (Addr×Obj)}{σ:St}{H:Hp}{s s':Shared}
end
section
variable {X:Cx}{CX:CXT}{k:Nat}{f C:Addr}{fd:FuncData}{ps:List Str}{sp:Sp}{dvs:List V}{ds:List Value}{E:XK}{x m:Str}{p pos apos:Pos}{e o:Expr}{es:List Expr}{ta:TE}{t:TA}
end
section
variable {X:Cx}{CX:CXT}{k:Nat}{f C:Addr}{fd:FuncData}{ps ks:List Str}{sp:Sp}{E:XK}{x m:Str}{p pos apos kpos:Pos}{e o:Expr}{es:List Expr}{kws:List Keyword}{te ta:TE}{t tk:TA}{nm:Option Str}
variable {g:List Value->List Value->List Value}{gV:List V->List V->List V}
end
end L2
namespace L2
open PySem PySem.Spec PyProof.Rows
section
variable {X:Cx}{x:Str}{p pos:Pos}{e:Expr}{es:List Expr}{t:TA}{id T:String}{r:List V->Hp->VK->Prop}
end
end L2
namespace L2
open PySem PySem.Spec PyProof.Rows
section
variable {κ:Type}[DecidableEq κ]
noncomputable def valV(kvs:List (κ×V))(k:κ):Option V:=(kvs.find? fun kv=>decide (kv.1=k)).map (·.2)
noncomputable def putK(kvs:List (κ×V))(k:κ)(v:V):List (κ×V):=
 if(kvs.any fun kv=>decide (kv.1=k))=true then kvs.map (fun kv=>if kv.1=k then(kv.1,v) else kv) else kvs++[(k,v)]
theorem z2h{p:κ×V}{r:List (κ×V)}{k:κ}(e:p.1=k):valV (p::r) k=some p.2:=by simp[valV,List.find?_cons,e]
theorem z2i{p:κ×V}{r:List (κ×V)}{k:κ}(e:¬ p.1=k):valV (p::r) k=valV r k:=by simp[valV,List.find?_cons,e]
theorem z4s(k:κ):∀kvs:List (κ×V),(kvs.any fun kv=>decide (kv.1=k))=(valV kvs k).isSome
 |[]=>rfl
 |p::r=>by
  rw[List.any_cons]
  by_cases e:p.1=k
  .simp only[z2h e,x05 e,Bool.true_or,Option.isSome_some]
  .rw[z2i e,x0j e,Bool.false_or];exact z4s k r
theorem zer(k j:κ)(y:V):∀kvs:List (κ×V),valV (kvs.map fun kv=>if kv.1=k then(kv.1,y) else kv) j=(valV kvs j).map fun x=>if j=k then y else x
 |[]=>rfl
 |p::r=>by
  have ih:=zer k j y r
  rw[x0a]
  by_cases h:p.1=k
  .rw[if_pos h]
   by_cases e:p.1=j
   .rw[z2h (p:=(p.1,y)) e,z2h e,x18,if_pos (e.symm.trans h)]
   .rw[z2i (p:=(p.1,y)) e,z2i e,ih]
  .rw[if_neg h]
   by_cases e:p.1=j
   .rw[z2h (p:=p) e,z2h e,x18,if_neg (fun z=>h (e.trans z))]
   .rw[z2i (p:=p) e,z2i e,ih]
theorem zd0(k j:κ)(y:V):∀kvs:List (κ×V),valV kvs k=none->valV (kvs++[(k,y)]) j=if j=k then some y else valV kvs j
 |[],_=>by
  by_cases e:k=j
  .rw[if_pos e.symm];exact z2h (p:=(k,y)) e
  .rw[if_neg (fun z=>e z.symm)];exact z2i (p:=(k,y)) e
 |p::r,hn=>by
  rw[List.cons_append]
  have hk:¬ p.1=k:=fun z=>by rw[z2h z]at hn;cases hn
  rw[z2i hk]at hn
  have ih:=zd0 k j y r hn
  by_cases e:p.1=j
  .rw[z2h e,z2h e,if_neg (fun z=>hk (e.trans z))]
  .rw[z2i e,z2i e,ih]
theorem z6y(kvs:List (κ×V))(k j:κ)(y:V):valV (putK kvs k y) j=if j=k then some y else valV kvs j:=by
 unfold putK
 by_cases a:(kvs.any fun kv=>decide (kv.1=k))=true
 .rw[if_pos a,zer]
  rw[z4s]at a
  by_cases e:j=k
  .obtain⟨x,hx⟩:=Option.isSome_iff_exists.mp a
   rw[if_pos e,e,hx,x18,if_pos rfl]
  .rw[if_neg e]
   cases valV kvs j with
   |none=>rfl
   |some x=>rw[x18,if_neg e]
 .rw[if_neg a]
  refine zd0 k j y kvs ?_
  rw[z4s]at a
  cases q:valV kvs k with
  |none=>rfl
  |some x=>rw[q]at a;exact(a rfl).elim
theorem z68(kvs:List (κ×V))(k:κ)(v:V):(putK kvs k v).length<=kvs.length+1:=by
 unfold putK
 split
 .rw[x5];omega
 .rw[xt,x09,x2n];omega
theorem RelO.isSome_eq{o:Option V}{u:Option Value}(r:RelO o u):o.isSome=u.isSome:=by
 cases o with
 |none=>cases u with
  |none=>rfl
  |some _=>exact(show False from r).elim
 |some _=>cases u with
  |none=>exact(show False from r).elim
  |some _=>rfl
theorem RelO.getD{o:Option V}{u:Option Value}{d:V}{d':Value}(r:RelO o u)(rd:RelV d d'):RelV (o.getD d) (u.getD d'):=by
 cases o with
 |none=>cases u with
  |none=>exact rd
  |some _=>exact(show False from r).elim
 |some _=>cases u with
  |none=>exact(show False from r).elim
  |some _=>exact r
theorem KV.val{kvs:List (κ×V)}{vs:List (κ×Value)}(r:KV kvs vs)(k:κ):RelO (valV kvs k) (valueAt vs k):=by
 unfold KV at r
 induction r with
 |nil=>exact x1t
 |@cons p q ps qs h t ih=>
  obtain⟨h1,h2⟩:=h
  by_cases e:p.1=k
  .have e':q.1=k:=h1.symm.trans e
   have b:valueAt (q::qs) k=some q.2:=by simp[valueAt,List.find?_cons,e']
   rw[z2h e,b];exact h2
  .have e':¬ q.1=k:=fun z=>e (h1.trans z)
   have b:valueAt (q::qs) k=valueAt qs k:=by simp[valueAt,List.find?_cons,e']
   rw[z2i e,b];exact ih
theorem KV.any{kvs:List (κ×V)}{vs:List (κ×Value)}(r:KV kvs vs)(k:κ):(kvs.any fun kv=>decide (kv.1=k))=vs.any fun kv=>decide (kv.1=k):=by
 unfold KV at r
 induction r with
 |nil=>rfl
 |cons h t ih=>rw[List.any_cons,List.any_cons,ih,h.1]
theorem KV.repl{kvs:List (κ×V)}{vs:List (κ×Value)}(r:KV kvs vs)(k:κ){y:V}{u:Value}(ry:RelV y u):
  KV (kvs.map fun kv=>if kv.1=k then(kv.1,y) else kv) (vs.map fun kv=>if kv.1=k then(kv.1,u) else kv):=by
 unfold KV at r⊢
 induction r with
 |nil=>exact .nil
 |@cons p q ps qs h t ih=>
  rw[x0a,x0a]
  refine .cons ?_ ih
  obtain⟨h1,h2⟩:=h
  by_cases e:p.1=k
  .rw[if_pos e,if_pos (h1.symm.trans e)];exact⟨h1,ry⟩
  .rw[if_neg e,if_neg (fun z=>e (h1.trans z))];exact⟨h1,h2⟩
theorem KV.put{kvs:List (κ×V)}{vs:List (κ×Value)}(r:KV kvs vs)(k:κ){y:V}{u:Value}(ry:RelV y u):KV (putK kvs k y) (stored vs k u):=by
 unfold putK stored
 rw[r.any k]
 by_cases e:(vs.any fun kv=>decide (kv.1=k))=true
 .rw[if_pos e,if_pos e];exact r.repl k ry
 .rw[if_neg e,if_neg e];exact Paired.snoc r ⟨rfl,ry⟩
theorem KV.length{kvs:List (κ×V)}{vs:List (κ×Value)}(r:KV kvs vs):kvs.length=vs.length:=Paired.length r
end
theorem kV_is{P:Program}{w:World}{k:Key}{u:Value}(r:RelV (kV k) u):(mixKind P w).is k u=true:=by
 cases k with
 |inl i=>obtain⟨t,e⟩:=(show∃t,u=Value.int i t from r);subst e;exact zgb P w i t
 |inr x=>obtain⟨t,e⟩:=(show∃t,u=Value.str x t from r);subst e;exact zgc P w x t
theorem zd1{P:Program}{w:World}:∀{ks:List Key}{us:List Value},Vals (ks.map kV) us->ItemsAre (mixKind P w) ks us
 |[],_,r=>by rw[List.map_nil]at r;cases r;exact .nil
 |k::ks,_,r=>by
  rw[x0a]at r
  cases r with
  |cons h t=>exact .cons (kV_is h) (zd1 t)
noncomputable abbrev KT(H:Hp):List (List Key×V)->List (List Key×Addr×Value)->Prop:=Paired fun p q=>p.1=q.1/\H q.2.1=some (.tup (p.1.map kV))/\RelV p.2 q.2.2
theorem KT.val{H:Hp}{kvs:List (List Key×V)}{xs:List (List Key×Addr×Value)}(r:KT H kvs xs)(k:List Key):RelO (valV kvs k) ((atKey xs k).map (·.2)):=by
 induction r with
 |nil=>exact x1t
 |@cons p q ps qs h t ih=>
  obtain⟨h1,_,h2⟩:=h
  by_cases e:p.1=k
  .have e':q.1=k:=h1.symm.trans e
   have b:atKey (q::qs) k=some q.2:=by simp[atKey,List.find?_cons,e']
   rw[z2h e,b];exact h2
  .have e':¬ q.1=k:=fun z=>e (h1.trans z)
   have b:atKey (q::qs) k=atKey qs k:=by simp[atKey,List.find?_cons,e']
   rw[z2i e,b];exact ih
theorem KT.repl{H:Hp}{kvs:List (List Key×V)}{xs:List (List Key×Addr×Value)}(r:KT H kvs xs)(k:List Key){y:V}{u:Value}(ry:RelV y u):
  KT H (kvs.map fun kv=>if kv.1=k then(kv.1,y) else kv) (xs.map (putAt k u)):=by
 induction r with
 |nil=>exact .nil
 |@cons p q ps qs h t ih=>
  rw[x0a,x0a]
  refine .cons ?_ ih
  obtain⟨h1,h2,h3⟩:=h
  unfold putAt
  by_cases e:p.1=k
  .rw[if_pos e,if_pos (h1.symm.trans e)];exact⟨h1,h2,ry⟩
  .rw[if_neg e,if_neg (fun z=>e (h1.trans z))];exact⟨h1,h2,h3⟩
theorem KT.put{H:Hp}{kvs:List (List Key×V)}{xs:List (List Key×Addr×Value)}(r:KT H kvs xs)(k:List Key){b:Addr}{y:V}{u:Value}(hb:H b=some (.tup (k.map kV)))(ry:RelV y u):
  KT H (putK kvs k y) (storedH xs k b u):=by
 have e:(kvs.any fun kv=>decide (kv.1=k))=(atKey xs k).isSome:=by
  rw[z4s,(r.val k).isSome_eq,Option.isSome_map]
 unfold putK storedH
 rw[e]
 by_cases q:(atKey xs k).isSome=true
 .rw[if_pos q,if_pos q];exact r.repl k ry
 .rw[if_neg q,if_neg q];exact Paired.snoc r ⟨rfl,hb,ry⟩
theorem KT.keeps{H H':Hp}{kvs:List (List Key×V)}{xs:List (List Key×Addr×Value)}(r:KT H kvs xs)(ht:∀b ys,H b=some (.tup ys)->H' b=some (.tup ys)):KT H' kvs xs:=
 Paired.mapP r fun _ _ z=>⟨z.1,ht _ _ z.2.1,z.2.2⟩
section
variable {P:Program}{w:World}{H:Hp}{h:Heap}{a:Addr}
theorem zmp{u:HO}(ok:HOk P w H h)(e:Rd H a u):ObjOk P w H h a u:=e.ok ok
theorem ze4{kvs:List (Key×V)}(ok:HOk P w H h)(e:Rd H a (.dK kvs)):kvs.length<=sizeLine/\(a==sysModules)=false/\∃vs,KV kvs vs/\h.DictOf (mixKind P w) a vs:=
 show ObjOk P w H h a (.dK kvs) from zmp ok e
theorem zid{kvs:List (Key×V)}(ok:HOk P w H h)(e:H a=some (.dK kvs)):kvs.length<=sizeLine/\(a==sysModules)=false/\∃vs,KV kvs vs/\h.DictOf (mixKind P w) a vs:=ze4 ok (.inl e)
theorem zaz{ks:List Key}(ok:HOk P w H h)(e:H a=some (.tup (ks.map kV))):(tupleKind (mixKind P w)).is h ks a:=by
 obtain⟨_,its,r,o,h1,h2,n,h3⟩:=(show ObjOk P w H h a (.tup (ks.map kV)) from ok a _ e)
 exact⟨o,its.toArray,n,h1,h2,h3,by simpa using zd1 r⟩
theorem ze5{kvs:List (List Key×V)}(ok:HOk P w H h)(e:Rd H a (.dT kvs)):kvs.length<=sizeLine/\(a==sysModules)=false/\
  ∃xs,KT H kvs xs/\h.DictOfH (tupleKind (mixKind P w)) a xs:=by
 obtain⟨z,y,xs,r,o,es,ep,h1,h2,h3,h4,h5⟩:=(show ObjOk P w H h a (.dT kvs) from zmp ok e)
 refine⟨z,y,xs,r,o,es,ep,h1,h2,h3,h4,fun x hx=>?_,h5⟩
 have all:∀{l:List (List Key×V)}{m:List (List Key×Addr×Value)},KT H l m->∀x∈m,(tupleKind (mixKind P w)).is h x.1 x.2.1:=by
  intro l m q
  induction q with
  |nil=>intro x hx;exact nomatch hx
  |@cons p q ps qs hq t ih=>
   intro x hx
   rcases xk.mp hx with e|hx
   .subst e
    exact zaz ok (by rw[<-hq.1];exact hq.2.1)
   .exact ih x hx
 exact all r x hx
theorem zov{kvs:List (List Key×V)}(ok:HOk P w H h)(e:H a=some (.dT kvs)):kvs.length<=sizeLine/\(a==sysModules)=false/\
  ∃xs,KT H kvs xs/\h.DictOfH (tupleKind (mixKind P w)) a xs:=ze5 ok (.inl e)
end
noncomputable def DGet(H:Hp)(a:Addr)(y:V)(r:Option V):Prop:=
 (∃kvs k,Rd H a (.dK kvs)/\y=kV k/\r=valV kvs k)\/∃kvs k b,Rd H a (.dT kvs)/\y=.ref b/\H b=some (.tup (k.map kV))/\r=valV kvs k
noncomputable def DPut(H:Hp)(a:Addr)(y v:V)(H':Hp):Prop:=
 (∃kvs k,H a=some (.dK kvs)/\y=kV k/\kvs.length<sizeLine/\H'=upd H a (.dK (putK kvs k v)))\/
 ∃kvs k b,H a=some (.dT kvs)/\y=.ref b/\H b=some (.tup (k.map kV))/\kvs.length<sizeLine/\H'=upd H a (.dT (putK kvs k v))
theorem DGet.k{H:Hp}{a:Addr}{kvs:List (Key×V)}{k:Key}(e:H a=some (.dK kvs)):DGet H a (kV k) (valV kvs k):=.inl ⟨kvs,k,.inl e,rfl,rfl⟩
theorem DGet.t{H:Hp}{a b:Addr}{kvs:List (List Key×V)}{k:List Key}(e:H a=some (.dT kvs))(eb:H b=some (.tup (k.map kV))):DGet H a (.ref b) (valV kvs k):=.inr ⟨kvs,k,b,.inl e,rfl,eb,rfl⟩
theorem DPut.k{H:Hp}{a:Addr}{kvs:List (Key×V)}{k:Key}{v:V}(e:H a=some (.dK kvs))(hl:kvs.length<sizeLine):DPut H a (kV k) v (upd H a (.dK (putK kvs k v))):=.inl ⟨kvs,k,e,rfl,hl,rfl⟩
theorem DPut.t{H:Hp}{a b:Addr}{kvs:List (List Key×V)}{k:List Key}{v:V}(e:H a=some (.dT kvs))(eb:H b=some (.tup (k.map kV)))(hl:kvs.length<sizeLine):
  DPut H a (.ref b) v (upd H a (.dT (putK kvs k v))):=.inr ⟨kvs,k,b,e,rfl,eb,hl,rfl⟩
section
variable {X:Cx}{pins:List (Addr×Obj)}{σ:St}{H:Hp}{s:Shared}{a:Addr}{y v:V}{u r:Value}{o:Option V}{A:Around}{E:Value->Shared->Prop}
theorem Inv.big(I:Inv X pins σ H s):sysModules<s.heap.objs.size:=by
 have h:mainGlobals<s.heap.objs.size:=(I.mod.glob.keeps I.bk).lt
 exact x1r (by decide) h
theorem d_in{Q:Value->Shared->Prop}(hu:A.units+1<cLine)(I:Inv X pins σ H s)(g:DGet H a y o)(ry:RelV y u)(h:∀s',Inv X pins σ H s'->Q (.bool o.isSome) s'):
  wpAny (model X.prog X.w) A (compareOp .In u (.ref a)) Q E s:=by
 rcases g with⟨kvs,k,e,ey,l⟩|⟨kvs,k,b,e,ey,eb,l⟩
 .subst ey
  obtain⟨z,hd,vs,rel,dd⟩:=ze4 I.hok e
  refine wpAny_in_of (kV_is ry) hd dd.mapOf ?_
  rw[<-(rel.val k).isSome_eq,<-l]
  exact h _ (I.tok _)
 .subst ey
  cases(show u=Value.ref b from ry)
  obtain⟨z,hd,xs,rel,dd⟩:=ze5 I.hok e
  refine wpAny_in_heap (x2x hu) (zaz I.hok eb) hd dd ?_
  have q:=(rel.val k).isSome_eq
  rw[Option.isSome_map]at q
  rw[<-q,<-l]
  exact h _ (I.tok _)
theorem zbx{h':Heap}{t':Nat}{ob:HO}(I:Inv X pins σ H s)(mu:Mut (H a))(hs:Heap.SameBut a s.heap h')(he:∃q,h'.get? a=some q)(new:ObjOk X.prog X.w (upd H a ob) h' a ob):
  Inv X pins σ (upd H a ob) { s with heap:=h',toks:=t' }:=
 I.write (x:=a) (e:=a) mu (.inl rfl) (fun b q hb z=>(hs.2 b hb).trans z) he new
theorem zjp{P:Program}{w:World}{H':Hp}{h':Heap}{kvs:List (Key×V)}{vs:List (Key×Value)}(z:kvs.length<=sizeLine)(hd:(a==sysModules)=false)(rel:KV kvs vs)(dd:h'.DictOf (mixKind P w) a vs):
  ObjOk P w H' h' a (.dK kvs):=⟨z,hd,vs,rel,dd⟩
theorem zjq{H':Hp}{Q:Unit->Shared->Prop}(hu:A.units+1<cLine)(I:Inv X pins σ H s)(g:DPut H a y v H')(ry:RelV y u)(rv:RelV v r)(h:∀s',Inv X pins σ H' s'->Q () s'):
  wpAny (model X.prog X.w) A (setItem (.ref a) u r) Q E s:=by
 rcases g with⟨kvs,k,e,ey,l,eH⟩|⟨kvs,k,b,e,ey,eb,l,eH⟩
 .subst ey eH
  obtain⟨z,hd,vs,rel,dd⟩:=zid I.hok e
  have hz:vs.length<=sizeLine:=by rw[<-rel.length];exact z
  have hl:(putK kvs k v).length<=sizeLine:=by have:=z68 kvs k v;omega
  refine wpAny_setItem_pairs (hsz:=hz) (kV_is ry) dd fun h' dd' hs=>h _ ?_
  have he:∃q,h'.get? a=some q:=let⟨q,_,_,hq,_⟩:=dd';⟨q,hq⟩
  exact zbx I (by rw[e];exact x1t) hs he (zjp hl hd (rel.put k rv) dd')
 .subst ey eH
  cases(show u=Value.ref b from ry)
  obtain⟨z,hd,xs,rel,dd⟩:=zov I.hok e
  have hz:xs.length<=sizeLine:=by rw[<-Paired.length rel];exact z
  have hl:(putK kvs k v).length<=sizeLine:=by have:=z68 kvs k v;omega
  refine wpAny_setItem_heap (hsz:=hz) (x2x hu) (zaz I.hok eb) dd fun h' dd' hs=>h _ ?_
  obtain⟨q,es,ep,hq,h2,h3,h4,_,h5⟩:=dd'
  refine zbx I (by rw[e];exact x1t) hs ⟨q,hq⟩ ⟨hl,hd,_,(rel.put k eb rv).keeps fun c ys ec=>?_,q,es,ep,hq,h2,h3,h4,h5⟩
  rw[zc (zor ec e (fun z=>nomatch z))]
  exact ec
end
section
variable {X:Cx}{pins:List (Addr×Obj)}{σ:St}{H:Hp}{s:Shared}{a:Addr}{kvs:List (Key×V)}{k:Key}{u:Value}{A:Around}{E:Value->Shared->Prop}
end
noncomputable def NoSl(i:Expr):Prop:=∀ov iv,subscripted i false ov iv=operate [ov,iv] (getItem ov iv)
theorem subD_of{prog:Program}{w:World}{A:Around}{E:Value->Shared->Prop}{s:Shared}{env:Env}{value slice:Expr}{pos:Pos}{T id:String}{Q:Value->Shared->Prop}
  (hl:typeLookup (.type T) "__getitem__"=pure (some (.builtin id))) (hs:NoSl slice)
  (h:wpAny (model prog w) A (eval value env) (fun o s₁=>wpAny (model prog w) A (eval slice env) (fun i s₂=>s₂.TypeIs o T/\wpAny (model prog w) A (getItem o i) Q E s₂) E s₁) E s):
  wpAny (model prog w) A (eval (.Subscript value slice pos) env) Q E s:=by
 refine Subscript_ (x0e h (fun o s₁ h₁=>x0e h₁ (fun i s₂ h₂=>?_) fun _ _ x=>x) fun _ _ x=>x)
 obtain⟨hT,h₂⟩:=h₂
 unfold subscriptTail
 refine x6 ?_
 rw[getitemInPython_of_ne hT.not_modules]
 refine x6 (wpAny_specialOf hT hl ?_)
 have fin:wpAny (model prog w) A (subscripted slice false o i) (fun r s₃=>wpAny (model prog w) A (letTemporaryGo value o r>>=fun _=>pure r) Q E s₃) E s₂:=by
  rw[hs o i]
  exact wpAny_operating (x0e h₂ (fun r s₃ h₃=>x6 (wpAny_letTemporaryGo (xh h₃))) fun _ _ x=>x)
 first
  |exact xh (x6 fin)
  |exact x6 (xh (x6 fin))
  |exact x6 fin
noncomputable def tDIn(ty td:TE):TE:=fun σ H Q=>ty σ H fun y H1=>td σ H1 fun x H2=>∃a o,x=.ref a/\DGet H2 a y o/\Q (.bl o.isSome) H2
noncomputable def zie(td ty tv:TE):TS:=fun D σ H=>tv σ H fun v H1=>td σ H1 fun x H2=>ty σ H2 fun y H3=>∃a H4,x=.ref a/\DPut H3 a y v H4/\D.nx σ H4
section
variable {X:Cx}{o i e value:Expr}{pos pos' tpos:Pos}{td ty tv:TE}
theorem zes(hu:X.A.units+1<cLine)(hi:PE X i ty)(ho:PE X o td):PC X .In i o (tDIn ty td):=by
 intro pins s σ H Q I h
 refine thn (hi pins s σ H _ I h) fun iv s1 ⟨y,H1,I1,ry,q1⟩=>thn (ho pins s1 σ H1 _ I1 q1) fun u s2 ⟨x,H2,I2,rx,a,ov,ex,g,q2⟩=>?_
 subst ex
 obtain rfl:u=Value.ref a:=rx
 exact d_in hu I2 g ry fun s3 I3=>⟨.bl ov.isSome,H2,I3,rfl,q2⟩
theorem zby(hu:X.A.units+1<cLine)(ho:PE X o td)(hi:PE X i ty)(hv:PE X value tv)(hs:swapsWith value (some (.Subscript o i pos')) pos.line X.env=pure false):
  PS X (.Assign [.Subscript o i pos'] value pos) (zie td ty tv):=by
 intro pins s σ H D I h
 refine wpAny_Assign_Subscript (thn (hv pins s σ H _ I h) fun r s1 ⟨v,H1,I1,rv,q1⟩=>thn (ho pins s1 σ H1 _ I1 q1) fun u s2 ⟨x,H2,I2,rx,q2⟩=>thn (hi pins s2 σ H2 _ I2 q2) fun iv s3 ⟨y,H3,I3,ry,a,H4,ex,g,q3⟩=>?_) hs
 subst ex
 obtain rfl:u=Value.ref a:=rx
 exact zjq hu I3 g ry rv fun s4 I4=>⟨σ,H4,I4,q3⟩
end
theorem zlm{P:Program}{w:World}{H:Hp}(h:Heap)(hb:sysModules<h.objs.size):ObjOk P w H (h.push { cls:=.type "dict",data:=.dict #[] }) h.objs.size (.dK []):=
 ⟨x08 _,x1e.mpr (Ne.symm (xu hb)),[],.nil,Heap.DictOf.new h⟩
theorem zln{P:Program}{w:World}{H:Hp}(h:Heap)(hb:sysModules<h.objs.size):ObjOk P w H (h.push { cls:=.type "dict",data:=.dict #[] }) h.objs.size (.dT []):=
 ⟨x08 _,x1e.mpr (Ne.symm (xu hb)),[],.nil,_,#[],0,xr _ rfl,⟨rfl,rfl,rfl⟩,rfl,rfl,x29⟩
noncomputable def zet:TE:=fun _ H Q=>∀p,H p=none->Q (.ref p) (upd H p (.dK []))
noncomputable def zeu:TE:=fun _ H Q=>∀p,H p=none->Q (.ref p) (upd H p (.dT []))
section
variable {X:Cx}{pos:Pos}
theorem z9u:PE X (.Dict [] [] pos) zet:=fun pins s σ H Q I h=>
 wpAny_Dict_empty ⟨.ref s.heap.objs.size,_,I.laid (a:=s.heap.objs.size) (o:=.dK []) (t':=s.toks) (fun _ _ q=>x9 _ q) (xi _) (zlm s.heap I.big),rfl,h _ (I.hok.fresh (xi _))⟩
theorem zlo:PE X (.Dict [] [] pos) zeu:=fun pins s σ H Q I h=>
 wpAny_Dict_empty ⟨.ref s.heap.objs.size,_,I.laid (a:=s.heap.objs.size) (o:=.dT []) (t':=s.toks) (fun _ _ q=>x9 _ q) (xi _) (zln s.heap I.big),rfl,h _ (I.hok.fresh (xi _))⟩
end
noncomputable def z30(kvs more:List (Key×V)):List (Key×V):=more.foldl (fun acc kv=>putK acc kv.1 kv.2) kvs
theorem KV.merge:∀{more:List (Key×V)}{rs:List (Key×Value)}{kvs:List (Key×V)}{vs:List (Key×Value)},KV more rs->KV kvs vs->KV (z30 kvs more) (merged vs rs):=by
 intro more rs kvs vs r
 unfold KV at r
 induction r generalizing kvs vs with
 |nil=>intro q;exact q
 |@cons p q ps qs h t ih=>
  intro r0
  have e:KV (putK kvs p.1 p.2) (stored vs q.1 q.2):=by
   have:=r0.put p.1 h.2
   rw[<-h.1];exact this
  exact ih e
theorem z7f:∀(more kvs:List (Key×V)),(z30 kvs more).length<=kvs.length+more.length
 |[],kvs=>by show kvs.length<=kvs.length+0;omega
 |p::r,kvs=>by
  have h1:=z7f r (putK kvs p.1 p.2)
  have h2:=z68 kvs p.1 p.2
  show(z30 (putK kvs p.1 p.2) r).length<=_
  rw[x09];omega
structure M1(X:Cx)(o:Expr)(m:Str)(apos:Pos)(e:Expr)(cpos:Pos):Prop where
 base:attributeBase o m X.env (eval o X.env)=eval o X.env
 few:((backTo cpos (starEach [e] X.env)).all (fun x=>!x.1)&&(backToKw cpos (keywordEach [] X.env)).all (fun x=>x.1.isSome)
  &&decide (([e]:List Expr).length+([]:List Keyword).length+(if([]:List Keyword).isEmpty then 0 else 1)<30))=true
 line:(apos.endLine==cpos.line)=true
 trees:backTo cpos (starEach [e] X.env)=[(false,eval e X.env)]
structure M2(X:Cx)(o:Expr)(m:Str)(apos:Pos)(e f:Expr)(cpos:Pos):Prop where
 base:attributeBase o m X.env (eval o X.env)=eval o X.env
 few:((backTo cpos (starEach [e,f] X.env)).all (fun x=>!x.1)&&(backToKw cpos (keywordEach [] X.env)).all (fun x=>x.1.isSome)
  &&decide (([e,f]:List Expr).length+([]:List Keyword).length+(if([]:List Keyword).isEmpty then 0 else 1)<30))=true
 line:(apos.endLine==cpos.line)=true
 trees:backTo cpos (starEach [e,f] X.env)=[(false,eval e X.env),(false,eval f X.env)]
noncomputable def IsD(H:Hp)(a:Addr):Prop:=(∃kvs,Rd H a (.dK kvs))\/∃kvs,Rd H a (.dT kvs)
theorem zo6{X:Cx}{pins:List (Addr×Obj)}{σ:St}{H:Hp}{s:Shared}{a:Addr}(I:Inv X pins σ H s)(d:IsD H a):
  s.TypeIs (.ref a) "dict"/\(∀ b,Value.ref a=.ref b->∃ ob,s.heap.get? b=some ob/\ob.dict=none)/\(a==sysModules)=false:=by
 rcases d with⟨kvs,e⟩|⟨kvs,e⟩
 .obtain⟨_,hd,vs,_,dd⟩:=ze4 I.hok e
  refine⟨dd.typeIs,fun b q=>?_,hd⟩
  cases q
  obtain⟨ob,_,_,h1,h2,_⟩:=dd
  exact⟨ob,h1,h2.2.1⟩
 .obtain⟨_,hd,xs,_,dd⟩:=ze5 I.hok e
  refine⟨dd.typeIs,fun b q=>?_,hd⟩
  cases q
  obtain⟨ob,_,_,h1,h2,_⟩:=dd
  exact⟨ob,h1,h2.2.1⟩
section
variable {X:Cx}{pins:List (Addr×Obj)}{σ:St}{H:Hp}{s:Shared}{a:Addr}{y d:V}{u r:Value}{o:Option V}{A:Around}{E:Value->Shared->Prop}
theorem zo7{Q:Value->Shared->Prop}(hu:A.units+1<cLine)(I:Inv X pins σ H s)(g:DGet H a y o)(ry:RelV y u)(rd:RelV d r)(h:∀w' s',Inv X pins σ H s'->RelV (o.getD d) w'->Q w' s'):
  wpAny (model X.prog X.w) A (call (.builtin "dict.get") [.ref a,u,r]) Q E s:=by
 rcases g with⟨kvs,k,e,ey,l⟩|⟨kvs,k,b,e,ey,eb,l⟩
 .subst ey
  obtain⟨z,hd,vs,rel,dd⟩:=ze4 I.hok e
  refine call_meetsIn PySem.F.slot_dict_get dd.typeIs PySem.F.entry_dict_get (PySem.F.args_dict_get_3 _ _ _) (meets_dict_get_default (mixKind X.prog X.w) a (kV_is ry) hd r) ⟨_,dd.mapOf,h _ _ (I.tok _) ?_⟩
  rw[l]
  exact(rel.val k).getD rd
 .subst ey
  cases(show u=Value.ref b from ry)
  obtain⟨z,hd,xs,rel,dd⟩:=ze5 I.hok e
  refine call_meetsIn PySem.F.slot_dict_get dd.typeIs PySem.F.entry_dict_get (PySem.F.args_dict_get_3 _ _ _) (meetsH_dict_get_default (tupleKind (mixKind X.prog X.w)) a b hd r) ⟨x2x hu,k,xs,zaz I.hok eb,dd,h _ _ (I.tok _) ?_⟩
  rw[l]
  exact(rel.val k).getD rd
end
noncomputable def zev(td ty tx:TE):TE:=fun σ H Q=>td σ H fun x H1=>∃a,x=.ref a/\IsD H1 a/\ty σ H1 fun y H2=>tx σ H2 fun z H3=>∃o,DGet H3 a y o/\Q (o.getD z) H3
section
variable {X:Cx}{o e f:Expr}{apos cpos:Pos}{td ty tx:TE}
theorem z9v(hu:X.A.units+1<cLine)(ho:PE X o td)(he:PE X e ty)(hf:PE X f tx)(m:M2 X o "get" apos e f cpos):PE X (.Call (.Attribute o "get" apos) [e,f] [] cpos) (zev td ty tx):=by
 intro pins s σ H Q I h
 refine wpAny_Call_method m.base m.few m.line PySem.F.plainAttrs_dict PySem.F.slot_dict_get PySem.F.type_dict_get (thn (ho pins s σ H _ I h) fun u s1 ⟨x,H1,I1,rx,a,ex,d,q1⟩=>?_)
 subst ex
 obtain rfl:u=Value.ref a:=rx
 obtain⟨t1,t2,_⟩:=zo6 I1 d
 refine⟨t1,t2,?_⟩
 rw[m.trees]
 refine Calls.callWith_builtin rfl (Calls.evalArgs_plain (x1k (thn (he pins s1 σ H1 _ I1 q1) fun iv s2 ⟨y,H2,I2,ry,q2⟩=>
  x1k (thn (hf pins s2 σ H2 _ I2 q2) fun fv s3 ⟨z,H3,I3,rz,ov,g,q3⟩=>Calls.spliced_nil ?_))))
 exact zo7 hu I3 g ry rz fun w' s4 I4 rw'=>⟨_,H3,I4,rw',q3⟩
end
section
variable {X:Cx}{pins:List (Addr×Obj)}{σ:St}{H:Hp}{s:Shared}{a:Addr}{kvs:List (Key×V)}{A:Around}{E:Value->Shared->Prop}
end
section
variable {X:Cx}{pins:List (Addr×Obj)}{σ:St}{H:Hp}{s:Shared}{a:Addr}{y:V}{u:Value}{A:Around}{E:Value->Shared->Prop}
end
end L2
namespace Att
open PySem PySem.W PySem.Calls PyProof.Rows
section
variable {prog:Program}{w:World}{A:Around}{E:Value->Shared->Prop}{s:Shared}{K:Frag}
end
end Att
namespace L2
open PySem PySem.Spec PyProof.Rows
section
variable {P:Program}{w:World}{K:PySem.W.Frag}{mg:Str->Option Value}{base:Heap}
end
section
variable {X:Cx}
end
section
variable {κ:Type}[DecidableEq κ]
theorem zlp{kvs:List (κ×V)}{k:κ}(h:valV kvs k=none):¬ k∈kvs.map (·.1):=by
 intro m
 obtain⟨p,hp,e⟩:=xw.mp m
 have q:(kvs.any fun kv=>decide (kv.1=k))=true:=List.any_eq_true.mpr ⟨p,hp,x05 e⟩
 rw[z4s,h]at q
 exact absurd q (by simp)
theorem znc{kvs:List (κ×V)}{k:κ}{v:V}(h:valV kvs k=some v):k∈kvs.map (·.1):=by
 have q:(kvs.any fun kv=>decide (kv.1=k))=true:=by
  rw[z4s,h]
  all_goals rfl
 obtain⟨p,hp,e⟩:=List.any_eq_true.mp q
 exact xw.mpr ⟨p,hp,x0c e⟩
end
end L2
end
section
namespace L2
open PySem PySem.Spec PyProof.Rows
section
variable {X:Cx}
theorem zew:CallR X (.builtin "sorted") (fun xs H Q=>∃ p ss,xs=[.ref p]/\SqL X.K H p ((ss:List Str).map V.str)/\ss.length<64/\∀ l ks,H l=none->ks.Perm ss->sortedS ks=true->Q (.ref l) (upd H l (.lst ((ks:List Str).map V.str)))):=by
 intro pins s σ H xs us Q I r h
 obtain⟨p,ss,rfl,hp,h64,q⟩:=h
 obtain⟨u,rfl,ru⟩:=z2o r
 cases ru
 obtain⟨its,r1,pl,hz⟩:=I.list hp
 have hl:=r1.length
 rw[x5]at hl
 refine sorted_strs pl.isList (zh5 r1) (by omega) fun out ss' a1 a2 a3=>?_
 obtain⟨e,he⟩:=sortedAll_at s.heap its out
 have zz:(ss'.map V.str).length<=sizeLine:=by
  rw[x5,a2.length_eq];exact x01 (x20 h64) (by decide)
 exact⟨.ref _,_,I.laid (a:=s.heap.objs.size+1) (o:=.lst (ss'.map V.str)) (t':=s.toks) (fun _ _=>sortedAll_old) (x2r _) ⟨zz,out.toList,e,z8u a1,he⟩,rfl,q _ _ (I.hok.fresh (x2r _)) a2 a3⟩
end
theorem zd2{P:Program}{w:World}:∀{D:List Str}{kvs:List (Key×V)}{vs:List (Key×Value)},KV kvs vs->kvs.map (·.1)=D.map Sum.inr->∀{us:List Value},us.length=vs.length->
  (∀(j:Nat)(v:Value),us[j]? =some v->∃(k:Key)(x:Value),vs[j]? =some (k,x)/\(mixKind P w).is k v=true)->StrsAre us D
 |[],[],_,r,_,us,hl,_=>by
  cases r
  cases us with
  |nil=>exact .nil
  |cons _ _=>simp at hl
 |_::_,[],_,_,e,_,_,_=>by simp at e
 |[],_::_,_,_,e,_,_,_=>by simp at e
 |d::D,p::kvs,vs,r,e,us,hl,h=>by
  cases r with
  |@cons _ q _ vs h1 t=>
   cases us with
   |nil=>simp at hl
   |cons u us=>
    obtain⟨k,x,e1,e2⟩:=h 0 u rfl
    simp only[List.getElem?_cons_zero,x26]at e1
    subst e1
    simp only[x0a,List.cons.injEq]at e
    obtain⟨e3,e4⟩:=e
    have e5:k=Sum.inr d:=by rw[<-e3];exact h1.1.symm
    subst e5
    obtain⟨tk,rfl⟩:∃tk,u=.str d tk:=Value.isStrOf_shape e2
    refine .cons d tk (zd2 (P:=P) (w:=w) t e4 (by simpa using hl) fun j v hj=>?_)
    simpa using h (j+1) v (by simpa using hj)
section
variable {X:Cx}
theorem zif(hc:X.calm=true):CallR X (.type "list") (fun xs H Q=>∃ a kvs D,xs=[.ref a]/\H a=some (.dK kvs)/\kvs.map (·.1)=D.map Sum.inr/\∀ l,H l=none->Q (.ref l) (upd H l (.lst ((D:List Str).map V.str)))):=by
 intro pins s σ H xs us Q I r h
 obtain⟨a,kvs,D,rfl,ha,hD,q⟩:=h
 obtain⟨u,rfl,ru⟩:=z2o r
 cases ru
 obtain⟨z,hd,vs,rel,dd⟩:=zid I.hok ha
 obtain⟨ep,da⟩:=dd.dictAt
 have hcount:kvs.length=D.length:=by rw[<-x5 (f:=(·.1)),hD,x5]
 refine PySem.W.kdl_call (PySem.W.kdl_dict (knd:=mixKind X.prog X.w) (kvs:=vs) (ep:=ep) hd) (I.ok.hd hc) da (by rw[<-rel.length];exact z) fun h' tk acc c hk hg ii=>?_
 have t1:StrsAre acc.toList D:=zd2 (P:=X.prog) (w:=X.w) rel hD (by rw[x0f];exact ii.1) fun j v e=>ii.2 j v (by rw[<-x2e];exact e)
 refine⟨.ref s.heap.objs.size,_,I.laid (a:=s.heap.objs.size) (o:=.lst (D.map V.str)) (t':=tk) hk (xi _) ⟨by rw[x5,<-hcount];exact z,_,c,z8u t1,by simpa using hg⟩,rfl,q _ (I.hok.fresh (xi _))⟩
end
section
variable {X:Cx}{tg:Expr}
end
end L2
end
section
namespace L2
open PySem PySem.Spec PyProof.Rows
noncomputable def keyB(k:Key)(v:Value):Bool:=match v with
 | .bool b=>decide (k=.inl (if b=true then 1 else 0))
 |v=>z60 k v
theorem z1y{k:Key}{v:Value}(h:keyB k v=true):(∃i t,k=Sum.inl i/\v=Value.int i t)\/(∃x t,k=Sum.inr x/\v=Value.str x t)\/∃b:Bool,k=Sum.inl (if b=true then 1 else 0)/\v=Value.bool b:=by
  cases v with
  |bool b=>exact .inr (.inr ⟨b,x0c h,rfl⟩)
  | _ => rcases z1v (k:=k) h with h|h
         . exact .inl h
         . exact .inr (.inl h)
section
variable {prog:Program}{w:World}{A:Around}{E:Value->Shared->Prop}{s:Shared}
theorem zgm{b:Bool}{Q:Int->Shared->Prop}(h:Q (hashInt (if b=true then 1 else 0)) { s with toks:=s.toks+1 }):
  wpAny (model prog w) A (pyHash (.bool b)) Q E s:=by
 have hr:=rawHash_range (if b=true then 1 else 0)
 have hT:s.TypeIs (.bool b) "bool":=rfl
 unfold pyHash
 have hv:[Value.bool b].any Value.onHeap=false:=rfl
 refine x6 ?_
 rw[cRoomFor,if_neg (by rw[hv];exact xm)];refine xh ?_
 refine x6 (wpAny_specialOf hT F.slot_bool_hash.lookup ?_)
 show wpAny _ _ (if(some (Value.builtin "int.__hash__")==some Value.none)=true then _ else _) Q E s
 rw[if_neg (by rw[beq_builtin_none];exact xm)]
 refine x6 (wpAny_specialOf hT F.slot_bool_hash.lookup ?_)
 show wpAny _ _ (callSpecialIfBoundUnlessNone? (.bool b) "__hash__" _>>=_) Q E s
 refine x6 (wpAny_callSpecialIfBoundUnlessNone?_slot hT F.slot_bool_hash
  (x1d F.slot_bool_hash hT entry_int_hash
   (show wpAny _ _ (do ret (<-mkInt (rawHash (if b=true then 1 else 0)))) _ _ s from wpAny_ret_mkInt ?_) (args_int_hash _)))
 show wpAny _ _ (if(decide (-(2:Int) ^ 63<=rawHash (if b=true then 1 else 0))&&decide (rawHash (if b=true then 1 else 0)<2 ^ 63))=true then _ else _) Q E _
 rw[if_pos (by rw[x05 hr.1,x05 hr.2];rfl)]
 exact xh h
end
theorem znd{a b:Bool}:decide ((Sum.inl (if a=true then(1:Int) else 0):Key)=Sum.inl (if b=true then 1 else 0))=(a==b):=by
 cases a<;>cases b<;>rfl
noncomputable def z6z(prog:Program)(w:World):PySem.KeyKind prog w Key where
 is:=keyB
 hash:=keyH w
 inj:=fun v a b ha hb=>by
  rcases z1y ha with⟨i,t,rfl,rfl⟩|⟨x,t,rfl,rfl⟩|⟨p,rfl,rfl⟩
  .rcases z1y hb with⟨j,u,rfl,e⟩|⟨y,u,rfl,e⟩|⟨q,rfl,e⟩
   .injection e with e1 _;rw[e1]
   .exact nomatch e
   .exact nomatch e
  .rcases z1y hb with⟨j,u,rfl,e⟩|⟨y,u,rfl,e⟩|⟨q,rfl,e⟩
   .exact nomatch e
   .injection e with e1 _;rw[e1]
   .exact nomatch e
  .rcases z1y hb with⟨j,u,rfl,e⟩|⟨y,u,rfl,e⟩|⟨q,rfl,e⟩
   .exact nomatch e
   .exact nomatch e
   .injection e with e1;rw[e1]
 byValue:=fun k v h=>by
  rcases z1y h with⟨i,t,rfl,rfl⟩|⟨x,t,rfl,rfl⟩|⟨p,rfl,rfl⟩<;>rfl
 pyHash:=fun hv h=>by
  rcases z1y hv with⟨i,t,rfl,rfl⟩|⟨x,t,rfl,rfl⟩|⟨p,rfl,rfl⟩
  .exact wpAny_pyHash_int h
  .exact wpAny_pyHash_str h
  .exact zgm h
 eqBool:=fun hu hv h=>by
  rcases z1y hu with⟨i,t,rfl,rfl⟩|⟨x,t,rfl,rfl⟩|⟨p,rfl,rfl⟩
  .rcases z1y hv with⟨j,u,rfl,rfl⟩|⟨y,u,rfl,rfl⟩|⟨q,rfl,rfl⟩
   .rw[zag]at h;exact wpAny_eqBool_int h
   .rw[ze7]at h;exact SeqAt.EqAt.int_str i t y u _ _ _ _ h
   .rw[zag]at h;exact SeqAt.EqAt.int_bool i t q _ _ _ _ h
  .rcases z1y hv with⟨j,u,rfl,rfl⟩|⟨y,u,rfl,rfl⟩|⟨q,rfl,rfl⟩
   .rw[ze8]at h;exact SeqAt.EqAt.str_int x t j u _ _ _ _ h
   .rw[ziz]at h;exact wpAny_eqBool_str h
   .rw[ze8]at h;exact SeqAt.EqAt.str_bool x t q _ _ _ _ h
  .rcases z1y hv with⟨j,u,rfl,rfl⟩|⟨y,u,rfl,rfl⟩|⟨q,rfl,rfl⟩
   .rw[zag]at h;exact SeqAt.EqAt.bool_int p j u _ _ _ _ h
   .rw[ze7]at h;exact SeqAt.EqAt.bool_str p y u _ _ _ _ h
   .rw[znd]at h;exact SeqAt.EqAt.bool_bool p q _ _ _ _ h
 «strs»:=fun k x t v h=>by
  rcases z1y h with⟨i,u,rfl,e⟩|⟨y,u,rfl,e⟩|⟨q,rfl,e⟩
  .exact nomatch e
  .injection e with e1 _
   subst e1
   cases v<;>first|rfl|simp[keyB,z60,Value.isStrOf,Value.isStr]
  .exact nomatch e
noncomputable def kB:V->Option Key
 | .int i=>some (.inl i)
 | .str x=>some (.inr x)
 | .bl b=>some (.inl (if b=true then 1 else 0))
 |_=>none
theorem zow{P:Program}{w:World}{k:Key}{v:V}{u:Value}(e:kB v=some k)(r:RelV v u):(z6z P w).is k u=true:=by
 cases v with
 |int i=>obtain⟨t,rfl⟩:=(show∃t,u=Value.int i t from r);cases e;exact zck i t
 |str x=>obtain⟨t,rfl⟩:=(show∃t,u=Value.str x t from r);cases e;exact zcl x t
 |bl b=>obtain rfl:=(show u=Value.bool b from r);cases e;exact x05 rfl
 |_=>cases e
theorem zjr{P:Program}{w:World}:∀{ks:List Key}{vs:List V}{us:List Value},Vals vs us->vs.map kB=ks.map some->ItemsAre (z6z P w) ks us
 |[],[],_,r,_=>by cases r;exact .nil
 |[],_::_,_,_,e=>by simp at e
 |_::_,[],_,_,e=>by simp at e
 |k::ks,v::vs,_,r,e=>by
  cases r with
  |cons h t=>
   rw[x0a,x0a]at e
   injection e with e1 e2
   exact .cons (zow e1 h) (zjr t e2)
noncomputable def TKey(H:Hp)(b:Addr)(k:List Key):Prop:=∃vs:List V,H b=some (.tup vs)/\vs.map kB=k.map some
noncomputable abbrev BT:=List (List Key×Addr×Value)
noncomputable def z4f(H:Hp)(xs:BT):Prop:=∀z∈xs,TKey H z.2.1 z.1
noncomputable def dtb(P:Program)(w:World)(a:Addr)(xs:BT):HO:=.ext fun h=>xs.length<=sizeLine/\(a==sysModules)=false/\∃o es ep,h.get? a=some o/\o.ExactDict/\o.data=.dict es ep/\es.toList=xs.map (entryOfKey (tupleKind (z6z P w)))/\(xs.map (·.1)).Nodup
section
variable {P:Program}{w:World}{H:Hp}{h:Heap}{a b:Addr}{xs:BT}{k:List Key}
theorem z5h(ok:HOk P w H h)(e:TKey H b k):(tupleKind (z6z P w)).is h k b:=by
 obtain⟨vs,e,m⟩:=e
 obtain⟨_,its,r,o,h1,h2,n,h3⟩:=(show ObjOk P w H h b (.tup vs) from ok b _ e)
 exact⟨o,its.toArray,n,h1,h2,h3,by simpa using zjr r m⟩
theorem zjs(z:xs.length<=sizeLine)(hd:(a==sysModules)=false){o:Obj}{es:Array DictEntry}{ep:Nat}(ho:h.get? a=some o)(hx:o.ExactDict)(hd2:o.data=.dict es ep)(he:es.toList=xs.map (entryOfKey (tupleKind (z6z P w))))(nd:(xs.map (·.1)).Nodup):ObjOk P w H h a (dtb P w a xs):=
 ⟨⟨z,hd,o,es,ep,ho,hx,hd2,he,nd⟩,⟨o,ho⟩,fun h1 h2 t k=>let⟨z,hd,o,es,ep,ho,r⟩:=t;⟨z,hd,o,es,ep,k _ ho,r⟩⟩
theorem zex(ok:HOk P w H h)(e:H a=some (dtb P w a xs))(hk:z4f H xs):xs.length<=sizeLine/\(a==sysModules)=false/\h.DictOfH (tupleKind (z6z P w)) a xs:=by
 obtain⟨⟨z,hd,o,es,ep,ho,hx,h3,h4,h5⟩,-,-⟩:=(show ObjOk P w H h a (dtb P w a xs) from ok a _ e)
 exact⟨z,hd,o,es,ep,ho,hx,h3,h4,fun x hx=>z5h ok (hk x hx),h5⟩
theorem zjt(h:Heap)(hb:sysModules<h.objs.size):ObjOk P w H (h.push { cls:=.type "dict",data:=.dict #[] }) h.objs.size (dtb P w h.objs.size []):=
 zjs (x08 _) (x1e.mpr (Ne.symm (xu hb))) (xr _ rfl) ⟨rfl,rfl,rfl⟩ rfl rfl x29
theorem stored_len(xs:BT)(k:List Key)(b:Addr)(u:Value):(storedH xs k b u).length<=xs.length+1:=by
 unfold storedH
 split
 .rw[x5];omega
 .rw[xt];exact xi _
end
section
variable {X:Cx}{pins:List (Addr×Obj)}{σ:St}{H:Hp}{s:Shared}{a b q:Addr}{k:List Key}{xs:BT}{A:Around}{E:Value->Shared->Prop}
theorem zju{Q:Value->Shared->Prop}(hu:A.units+1<cLine)(I:Inv X pins σ H s)(e:H a=some (dtb X.prog X.w a xs))(hk:z4f H xs)(eb:TKey H b k){p:Addr×Value}(hp:atKey xs k=some p)(h:∀s',Inv X pins σ H s'->Q p.2 s'):
  wpAny (model X.prog X.w) A (getItem (.ref a) (.ref b)) Q E s:=by
 obtain⟨z,hd,dd⟩:=zex I.hok e hk
 exact wpAny_getItem_heap (x2x hu) (z5h I.hok eb) dd hp (h _ (I.tok _))
theorem zjv{Q:Unit->Shared->Prop}(hu:A.units+1<cLine)(I:Inv X pins σ H s)(e:H a=some (dtb X.prog X.w a xs))(hk:z4f H xs)(eb:TKey H b k)(l:xs.length<sizeLine)(u:Value)(h:∀s',Inv X pins σ (upd H a (dtb X.prog X.w a (storedH xs k b u))) s'->Q () s'):
  wpAny (model X.prog X.w) A (setItem (.ref a) (.ref b) u) Q E s:=by
 obtain⟨z,hd,dd⟩:=zex I.hok e hk
 have hl:(storedH xs k b u).length<=sizeLine:=by have:=stored_len xs k b u;omega
 refine wpAny_setItem_heap (hsz:=z) (x2x hu) (z5h I.hok eb) dd fun h' dd' hs=>h _ ?_
 obtain⟨o,es,ep,ho,h2,h3,h4,_,h5⟩:=dd'
 exact zbx I (by rw[e];exact x1t) hs ⟨o,ho⟩ (zjs hl hd ho h2 h3 h4 h5)
theorem zo8{r:Value}{Q:Value->Shared->Prop}(hu:A.units+1<cLine)(I:Inv X pins σ H s)(e:H a=some (dtb X.prog X.w a xs))(hk:z4f H xs)(eb:TKey H b k)(h:∀s',Inv X pins σ H s'->Q (((atKey xs k).map (·.2)).getD r) s'):
  wpAny (model X.prog X.w) A (call (.builtin "dict.get") [.ref a,.ref b,r]) Q E s:=by
 obtain⟨z,hd,dd⟩:=zex I.hok e hk
 exact call_meetsIn PySem.F.slot_dict_get dd.typeIs PySem.F.entry_dict_get (PySem.F.args_dict_get_3 _ _ _) (meetsH_dict_get_default (tupleKind (z6z X.prog X.w)) a b hd r) ⟨x2x hu,k,xs,z5h I.hok eb,dd,h _ (I.tok _)⟩
theorem zey(I:Inv X pins σ H s)(e:H a=some (dtb X.prog X.w a xs)):s.TypeIs (.ref a) "dict"/\∀ b,Value.ref a=.ref b->∃ ob,s.heap.get? b=some ob/\ob.dict=none:=by
 obtain⟨⟨z,hd,o,es,ep,ho,hx,h3,h4,h5⟩,-,-⟩:=(show ObjOk X.prog X.w H s.heap a (dtb X.prog X.w a xs) from I.hok a _ e)
 exact⟨⟨o,ho,hx.1⟩,fun b e=>by injection e with e;subst e;exact⟨o,ho,hx.2.1⟩⟩
end
noncomputable def zez(P:Program)(w:World):TE:=fun _ H Q=>∀p,H p=none->Q (.ref p) (upd H p (dtb P w p []))
noncomputable def zb0(P:Program)(w:World)(td ty:TE):TE:=fun σ H Q=>td σ H fun x H1=>ty σ H1 fun y H2=>∃(a b q:Addr)(k:List Key)(xs:BT)(p:Addr×Value),x=.ref a/\y=.ref b/\H2 a=some (dtb P w a xs)/\z4f H2 xs/\TKey H2 b k/\atKey xs k=some p/\p.2=.ref q/\Q (.ref q) H2
noncomputable def zbz(P:Program)(w:World)(td ty tx:TE):TE:=fun σ H Q=>td σ H fun x H1=>∃(a:Addr)(xs:BT),x=.ref a/\H1 a=some (dtb P w a xs)/\ty σ H1 fun y H2=>tx σ H2 fun z H3=>∃(b q:Addr)(k:List Key)(xs:BT),y=.ref b/\z=.ref q/\H3 a=some (dtb P w a xs)/\z4f H3 xs/\TKey H3 b k/\
 (∀p,atKey xs k=some p->∃q',p.2=.ref q'/\Q (.ref q') H3)/\(atKey xs k=none->Q (.ref q) H3)
noncomputable def zf0(P:Program)(w:World)(td ty tv:TE):TS:=fun D σ H=>tv σ H fun v H1=>td σ H1 fun x H2=>ty σ H2 fun y H3=>∃(a b q:Addr)(k:List Key)(xs:BT),v=.ref q/\x=.ref a/\y=.ref b/\H3 a=some (dtb P w a xs)/\z4f H3 xs/\TKey H3 b k/\xs.length<sizeLine/\D.nx σ (upd H3 a (dtb P w a (storedH xs k b (.ref q))))
section
variable {X:Cx}{o i e f value:Expr}{pos pos' apos cpos:Pos}{td ty tv tx:TE}
theorem zlq:PE X (.Dict [] [] pos) (zez X.prog X.w):=fun pins s σ H Q I h=>
 wpAny_Dict_empty ⟨.ref s.heap.objs.size,_,I.laid (a:=s.heap.objs.size) (o:=dtb X.prog X.w s.heap.objs.size []) (t':=s.toks) (fun _ _ q=>x9 _ q) (xi _) (zjt s.heap I.big),rfl,h _ (I.hok.fresh (xi _))⟩
theorem zlr(hu:X.A.units+1<cLine)(ho:PE X o td)(hi:PE X i ty)(hs:NoSl i):PE X (.Subscript o i pos) (zb0 X.prog X.w td ty):=by
 intro pins s σ H Q I h
 refine subD_of PySem.F.slot_dict_getitem.lookup hs (thn (ho pins s σ H _ I h) fun u s1 ⟨x,H1,I1,rx,q1⟩=>thn (hi pins s1 σ H1 _ I1 q1) fun iv s2 ⟨y,H2,I2,ry,a,b,q,k,xs,p,ex,ey,g,hk,eb,hp,hq,q2⟩=>?_)
 subst ex ey
 obtain rfl:u=Value.ref a:=rx
 obtain rfl:iv=Value.ref b:=ry
 exact⟨(zey I2 g).1,zju hu I2 g hk eb hp fun s3 I3=>⟨.ref q,H2,I3,hq,q2⟩⟩
theorem zjw(hu:X.A.units+1<cLine)(ho:PE X o td)(he:PE X e ty)(hf:PE X f tx)(m:M2 X o "get" apos e f cpos):PE X (.Call (.Attribute o "get" apos) [e,f] [] cpos) (zbz X.prog X.w td ty tx):=by
 intro pins s σ H Q I h
 refine wpAny_Call_method m.base m.few m.line PySem.F.plainAttrs_dict PySem.F.slot_dict_get PySem.F.type_dict_get (thn (ho pins s σ H _ I h) fun u s1 ⟨x,H1,I1,rx,a,xs0,ex,d,q1⟩=>?_)
 subst ex
 obtain rfl:u=Value.ref a:=rx
 obtain⟨t1,t2⟩:=zey I1 d
 refine⟨t1,t2,?_⟩
 rw[m.trees]
 refine Calls.callWith_builtin rfl (Calls.evalArgs_plain (x1k (thn (he pins s1 σ H1 _ I1 q1) fun iv s2 ⟨y,H2,I2,ry,q2⟩=>
  x1k (thn (hf pins s2 σ H2 _ I2 q2) fun fv s3 ⟨z,H3,I3,rz,b,q,k,xs,ey,ez,g,hk,eb,q3,q4⟩=>Calls.spliced_nil ?_))))
 subst ey ez
 obtain rfl:iv=Value.ref b:=ry
 obtain rfl:fv=Value.ref q:=rz
 refine zo8 hu I3 g hk eb fun s4 I4=>?_
 cases ea:atKey xs k with
 |none=>exact⟨.ref q,H3,I4,rfl,q4 ea⟩
 |some p=>
  obtain⟨q',hq,qq⟩:=q3 p ea
  exact⟨.ref q',H3,I4,hq,qq⟩
theorem zls(hu:X.A.units+1<cLine)(ho:PE X o td)(hi:PE X i ty)(hv:PE X value tv)(hs:swapsWith value (some (.Subscript o i pos')) pos.line X.env=pure false):
  PS X (.Assign [.Subscript o i pos'] value pos) (zf0 X.prog X.w td ty tv):=by
 intro pins s σ H D I h
 refine wpAny_Assign_Subscript (thn (hv pins s σ H _ I h) fun r s1 ⟨v,H1,I1,rv,q1⟩=>thn (ho pins s1 σ H1 _ I1 q1) fun u s2 ⟨x,H2,I2,rx,q2⟩=>thn (hi pins s2 σ H2 _ I2 q2) fun iv s3 ⟨y,H3,I3,ry,a,b,q,k,xs,ev,ex,ey,g,hk,eb,l,q3⟩=>?_) hs
 subst ev ex ey
 obtain rfl:r=Value.ref q:=rv
 obtain rfl:u=Value.ref a:=rx
 obtain rfl:iv=Value.ref b:=ry
 exact zjv hu I3 g hk eb l _ fun s4 I4=>⟨σ,_,I4,q3⟩
end
end L2
end
section
namespace PySem
open PySem.W PySem.Spec PyProof.Rows PySem.Calls
noncomputable def Heap.RawAt(h:Heap)(a:Addr)(es:Array DictEntry)(ep:Nat):Prop:=∃o,h.get? a=some o/\o.ExactDict/\o.data=.dict es ep
theorem Heap.RawAt.keep{h h':Heap}{a:Addr}{es:Array DictEntry}{ep:Nat}(x:h.RawAt a es ep)(k:∀o,h.get? a=some o->h'.get? a=some o):h'.RawAt a es ep:=let⟨o,e,r⟩:=x;⟨o,k o e,r⟩
theorem Heap.RawAt.typeIs{s:Shared}{a:Addr}{es:Array DictEntry}{ep:Nat}(x:s.heap.RawAt a es ep):s.TypeIs (.ref a) "dict":=let⟨o,e,r,_⟩:=x;⟨o,e,r.1⟩
section
variable {prog:Program}{w:World}{A:Around}{E:Value->Shared->Prop}{s:Shared}{it d:Addr}{i ep:Nat}{es:Array DictEntry}
theorem zf1{Q:Option Value->Shared->Prop}(hh:A.handled=none)(hit:s.heap.IsKeyIter it d i es.size ep)(hm:s.heap.RawAt d es ep)
  (item:∀e,es[i]? =some e->∀h',h'.IsKeyIter it d (i+1) es.size ep->Heap.SameBut it s.heap h'->Q (some e.key) { s with heap:=h' })
  (stop:es[i]? =none->∀h',Heap.ExtBut it s.heap h'->Q none { s with heap:=h' }):wpAny (model prog w) A (pyNext (.ref it)) Q E s:=by
 obtain⟨o,ho,hc,hd⟩:=id hit
 obtain⟨od,hod,-,hdd⟩:=hm
 have hT:=hit.typeIs
 have hq:Builtin.Dict_items.ownsTuple "dict_keyiterator"=false:=by decide
 unfold pyNext
 refine x6 (wpAny_attempt (x2l (name:=Str.ofString "__next__") hT F.slot_dict_keyiterator_next
  (x1d F.slot_dict_keyiterator_next hT F.entry_dict_keyiterator_next ?_ (F.args_dict_keyiterator_next_1 _))))
 refine x6 (xh (x6 (x6 ?_)))
 first|refine x6 (wpAny_typeNameOfWhole_keyiter hT (xh ?_))|refine x6 (wpAny_typeNameOf_keyiter hT (xh ?_))
 refine x6 (wpAny_fieldsOf ho hd ?_)
 simp only[hq,x0g,x32]
 refine wpAny_ite ?_
 rw[if_neg (show¬((Value.ref d==Value.none)=true) from xm)]
 refine x6 (xh (x6 (wpAny_dictEntries hod hdd ?_)))
 rw[if_neg (by simp)]
 refine x6 (xh (x6 (wpAny_dictEpoch hod hdd ?_)))
 rw[if_neg (by simp)]
 refine xh ?_
 simp only[show¬((i:Int)<0) from by omega,x32,x0z]
 cases e:es[i]? with
 |some x=>
  simp only[]
  refine x6 ?_
  first|refine x6 (wpAny_typeNameOfWhole_keyiter hT (xh ?_))|refine x6 (wpAny_typeNameOf_keyiter hT (xh ?_))
  refine x6 (wpAny_isOneOf_keyiter hT ?_)
  have hs:=x0i (h:=s.heap) (a:=it) (f:=Obj.mapFields (·.setIfInBounds 1 (rawInt ((i:Int)+1))))
  have hn:(s.heap.update it (Obj.mapFields (·.setIfInBounds 1 (rawInt ((i:Int)+1))))).IsKeyIter it d (i+1) es.size ep:=
   ⟨_,x1x _ ho (Obj.isFreed_of_fields (x1m hd _)),(Obj.cls_mapFields ..).trans hc,by rw[x1m hd];simp[rawInt]⟩
  show wpAny _ _ (setField (.ref it) 1 (rawInt ((i:Int)+1))>>=_) _ _ s
  refine x6 (x2w ho hd (by simp) ?_)
  generalize s.heap.update it _=h' at hs hn⊢
  refine x6 (x0t (x6 (wpAny_isOneOf_keyiter (s:={ s with heap:=h' }) hn.typeIs ?_)))
  show wpAny _ _ (pure x.key) _ _ _
  exact xh (xh ⟨_,rfl,xh (item x e h' hn hs)⟩)
 |none=>
  simp only[]
  refine x6 ?_
  first|refine x6 (wpAny_typeNameOfWhole_keyiter hT (xh ?_))|refine x6 (wpAny_typeNameOf_keyiter hT (xh ?_))
  have hs:=x0i (h:=s.heap) (a:=it) (f:=Obj.mapFields (·.setIfInBounds 0 Value.none))
  show wpAny _ _ (setField (.ref it) 0 .none>>=_) _ _ s
  refine x6 (x2w ho hd (by simp) ?_)
  generalize s.heap.update it _=h' at hs⊢
  refine x6 ?_
  simp only[newExc,newTuple,raiseNew]
  refine x6 (x10 ?_ (by size_fits))
  refine x6 (m:=firstArgMember _ _) (wpAny_of_eq (a:=Value.none) (by first|rfl|(simp only[firstArgMember];rfl)) (x10 ?_ (by size_fits)))
  refine x6 (wpAny_handled ?_)
  rw[show A.in1.handled=none from hh]
  refine x6 (xh (wpAny_throw ?_))
  refine x6 (wpAny_isInstance (T:="StopIteration") (b:=true) ⟨_,xr _ rfl,rfl⟩ isSubtype_stop ?_)
  exact xh (stop e _ ((hs.extBut.push _).push _))
theorem zlt{Q:Value->Shared->Prop}(hd:(d==sysModules)=false)(hm:s.heap.RawAt d es ep)
  (h:Q (.ref s.heap.objs.size) { s with heap:=s.heap.push { cls:=.type "dict_keyiterator",data:=.fields #[.ref d,.int 0 0,.int es.size 0,.int ep 0] } }):
  wpAny (model prog w) A (pyIter (.ref d)) Q E s:=by
 have hT:=hm.typeIs
 obtain⟨o,ho,-,hdat⟩:=hm
 refine wpAny_pyIter_slot hT F.slot_dict_iter (x1d F.slot_dict_iter hT F.entry_dict_iter ?_ (F.args_dict_iter_1 _))
 unfold Builtin.«dict.__iter__» Builtin.Dict.dictSlotNone
 refine x6 (x6 (wpAny_notOrdered_dict hT (xh ?_)))
 show wpAny _ _ (Builtin.Dict.showsAll d>>=_) _ _ s
 unfold Builtin.Dict.showsAll
 rw[if_neg (by rw[hd];exact xm)]
 refine x6 (xh (x6 (wpAny_dictEntries ho hdat (x6 (wpAny_dictEpoch ho hdat ?_)))))
 refine x6 (x10 (xh ⟨_,rfl,"dict_keyiterator",_,⟨_,xr _ rfl,rfl⟩,F.slot_dict_keyiterator_next.lookup,?_⟩))
 simpa[rawInt]using h
theorem zjx(hh:A.handled=none)(I:Addr)(hne:d≠I):
  Walks prog w A I [I,d] [I] es.size (fun i v=>∃e,es[i]? =some e/\v=e.key) (fun i h=>h.IsKeyIter I d i es.size ep/\h.RawAt d es ep) where
 sub:=fun b hb=>by simp at hb;simp[hb]
 frame:=fun _ _ _ st hk=>⟨st.1.at fun o e=>hk I (by simp) o e,st.2.keep fun o e=>hk d (by simp) o e⟩
 item:=fun i s Q E hi st hQ=>zf1 hh st.1 st.2 (fun e he h' hit' hs=>hQ e.key h' s.toks ⟨e,he,rfl⟩ ⟨hit',st.2.keep fun o z=>(hs.2 d hne).trans z⟩ fun b o hb z=>(hs.2 b fun q=>hb (by simp[q])).trans z) fun e=>by
  rw[x0v hi]at e;cases e
 done:=fun s Q E st hQ=>zf1 hh st.1 st.2 (fun e he=>by rw[Array.getElem?_eq_none (xi _)]at he;cases he) fun _ h' he=>hQ h' s.toks fun b o hb z=>he b o (fun q=>hb (by simp[q])) z
 self:=fun _ _ _ _ st hQ=>wpAny_pyIter_keyiter st.1 hQ
theorem zne(lo:(d==sysModules)=false):PySem.W.KdlSrc prog w "dict" d d es.size (fun i v=>∃ e,es[i]? =some e/\v=e.key) (fun h=>h.RawAt d es ep) where
 type:=fun _ hm=>hm.typeIs
 there:=fun _ hm=>let⟨_,ho,_⟩:=hm;⟨xn ho,xn ho⟩
 keep:=fun _ _ hm hk=>hm.keep fun o e=>hk d (.inl rfl) o e
 notList:=by decide
 notTuple:=by decide
 hint:=fun _ _ _ _ hm hq=>PySem.W.kdl_hint_dict hm.typeIs hq
 iter:=fun _ s hh hm=>⟨_,_,(fun _ _ hq=>zlt lo hm hq),zjx hh _ (xu (let⟨_,ho,_⟩:=hm;xn ho)),⟨⟨_,xr _ rfl,rfl,rfl⟩,hm.keep fun o e=>x9 _ e⟩⟩
end
end PySem
end
section
namespace PySem
open PySem.W PySem.Spec PyProof.Rows
section
variable {prog:Program}{w:World}{A:Around}{E:Value->Shared->Prop}{s:Shared}
theorem zf2{n qual x:Str}{params:Arguments}{body:Expr}{scope:Scope}{pm ctv v:Value}{c' f:Addr}{cl:List (Str×Addr)}{Q:Value->Shared->Prop}(hroom:A.depth<recursionLimit)
  (ho:s.heap.get? f=some (kla_obj n qual params body scope cl pm c' ctv)) (hcd:s.heap.CodeRec (.ref c') qual) (hlim:s.heap.NoLimit)
  (hb:bindArgs (kla_fn n qual params body scope cl pm (.ref c') ctv) ⟨[v],[]⟩=pure [(x,v)])
  (hco:scope.isCoroutine=false) (hgen:scope.isGenerator=false) (hk:scope.kind=.function) (hcell:∀y∈scope.names,y.2≠.cell) (hloc:scope.names.lookup x=some .local)
  (h:∀h₁,h₁.Ns s.heap.objs.size (fun y=>[(x,v)].reverse.lookup y)->(∀b o,s.heap.get? b=some o->h₁.get? b=some o)->
   wpAny (model prog w) (A.deeper (newEnv scope s.heap.objs.size mainGlobals cl (qual++ ".<locals>.") (some f) (.ref c') none builtinsNs)) (eval body (newEnv scope s.heap.objs.size mainGlobals cl (qual++ ".<locals>.") (some f) (.ref c') none builtinsNs)) Q (fun _ _=>False) { s with heap:=h₁,toks:=s.toks+1 }):
  wpAny (model prog w) A (call (.ref f) [v]) Q E s:=by
 refine wpAny_call (kla_callFunE hroom ho rfl hco hgen rfl hcd ?_)
 rw[hb]
 refine xh (wpAny_newFunctionEnv hcell (fun y hy=>?_) (fun h₁ hns hsb=>⟨hlim.fresh _ hsb,?_⟩) hk)
 .rw[xg.mp hy];exact hloc
 .have hk₁:∀b o,s.heap.get? b=some o->h₁.get? b=some o:=fun b o e=>hsb.extBut b o (xu (xn e)) (x9 _ e)
  exact kla_codeExpr (x0e (h h₁ hns hk₁) (fun v s' hq=>hq) fun _ _ z=>z.elim)
end
end PySem
namespace L2
open PySem PySem.W PySem.Spec PyProof.Rows
noncomputable def z3y(c':Addr)(qual:Str):HO:=.ext fun h=>h.CodeRec (.ref c') qual
theorem zlu{P:Program}{w:World}{H:Hp}{h:Heap}{c':Addr}{qual:Str}(C:h.CodeRec (.ref c') qual):ObjOk P w H h c' (z3y c' qual):=by
 refine⟨C,?_,fun h1 h2 x k=>?_⟩
 .obtain⟨c,o,vs,t,e,g,_⟩:=C
  cases e
  exact⟨o,g⟩
 .obtain⟨c,o,vs,t,e,g,r⟩:=x
  cases e
  exact⟨_,o,vs,t,rfl,k o g,r⟩
noncomputable def TbOk(H:Hp)(Pt:Addr)(pos:Pos)(qual:Str):Prop:=H Pt=some (.tbl #[])\/∃c',H Pt=some (.tbl #[rawInt pos.line,rawInt pos.col,.ref c'])/\H c'=some (z3y c' qual)
theorem TbOk.some{H:Hp}{Pt:Addr}{pos:Pos}{qual:Str}(h:TbOk H Pt pos qual):∃ps,H Pt=some (.tbl ps):=by
 rcases h with h|⟨c',h,_⟩
 .exact⟨_,h⟩
 .exact⟨_,h⟩
theorem TbOk.mono{H H':Hp}{Pt:Addr}{pos:Pos}{qual:Str}(h:TbOk H Pt pos qual)(s:Same H H'):TbOk H' Pt pos qual:=by
 rcases h with h|⟨c',h,h2⟩
 .exact .inl (s _ _ h)
 .exact .inr ⟨c',s _ _ h,s _ _ h2⟩
theorem zlv(pos:Pos)(c':Addr):codeAmong pos (#[rawInt pos.line,rawInt pos.col,.ref c']:Array Value).toList=some (.ref c'):=by
 simp[codeAmong,rawInt]
section
variable {X:Cx}{pins:List (Addr×Obj)}{σ:St}{H:Hp}{s:Shared}{c Pt:Addr}{pos:Pos}{params:Arguments}{body:Expr}{scope:Scope}
theorem zf3{cl:List (Str×Addr)}{Q:Value->Shared->Prop}(I:Inv X pins σ H s)(hcode:X.env.code=.ref c)(hC:codeHdIn X.K c Pt=true)(BA:X.base.BuiltinsAt X.mg Pt)(hT:TbOk H Pt pos (X.env.qual++ "<lambda>"))
  (hdef:defaultsOf params X.env=([],[])) (hcl:closureFor scope X.env=pure cl)
  (h:∀(f c':Addr) (ctv pm:Value) (H':Hp) (s':Shared),Inv X pins σ H' s'->s'.heap.get? f=some (kla_obj "<lambda>" (X.env.qual++ "<lambda>") params body scope cl pm c' ctv)->s'.heap.CodeRec (.ref c') (X.env.qual++ "<lambda>")->
   TbOk H' Pt pos (X.env.qual++ "<lambda>")->(∀ b o,H b=some o->b≠Pt->H' b=some o)->H' f=none->Q (.ref f) s'):
  wpAny (model X.prog X.w) X.A (eval (.Lambda params body scope pos) X.env) Q X.xe s:=by
 refine kla_eval hdef ?_
 have hg:s.heap.Ns mainGlobals X.mg:=by
  obtain⟨o,es,ep,e,r⟩:=I.mod.glob
  exact⟨o,es,ep,I.bk _ _ e,r⟩
 have CH:=codeHd_of_K I.kIn hC
 have hb:s.heap.BuiltinsAt X.mg Pt:=by
  obtain⟨bm,o,b1,b2,b3,b4,b5,b6⟩:=BA
  exact⟨bm,o,b1,b2,b3,b4,I.bk _ _ b5,b6⟩
 have hgP:mainGlobals≠Pt:=fun z=>by
  obtain⟨o,es,ep,e,r⟩:=I.mod.glob
  have:=(I.bs _ _ e).2
  obtain⟨ps,hp⟩:=hT.some
  rw[z,hp]at this
  cases this
 rcases hT with hT|⟨c',hT,hc'⟩
 .have hP:s.heap.get? Pt=some (tabObj #[]):=I.hok Pt _ hT
  refine kla_makeFunction hcl I.ok.glob hg hcode CH hP trivial rfl hgP hb fun c' ctv h' tk hx hge hlt hrec htb=>?_
  have hc0:H c'=none:=I.hok.fresh hge
  have ncP:c'≠Pt:=fun z=>by rw[z,hT]at hc0;cases hc0
  have hf0:H h'.objs.size=none:=I.hok.fresh (x01 hge (x20 hlt))
  have kp:∀(ob:Obj)(b:Addr)(o:Obj),b≠Pt->s.heap.get? b=some o->(h'.push ob).get? b=some o:=fun ob b o nb e=>x9 _ (hx b o nb e)
  have htb':h'.get? Pt=some (tabObj #[rawInt pos.line,rawInt pos.col,.ref c']):=by simpa using htb
  refine h h'.objs.size c' ctv _ (upd (upd H c' (z3y c' (X.env.qual++ "<lambda>"))) Pt (.tbl #[rawInt pos.line,rawInt pos.col,.ref c'])) _ (I.un (t':=tk) ⟨fun b o e n _ _=>?_,fun b o e n _ _=>⟨o.slots,?_⟩,fun b o e n _=>?_,fun b o e _=>?_,fun b xs e=>?_,fun b o u e=>?_,fun b ps e=>?_⟩ ?_) (xr _ rfl) (hrec.keeps fun b o e=>x9 _ e) (.inr ⟨c',z9,?_⟩) (fun b o e nb=>?_) ?_
  .exact kp _ b o (fun z=>by rw[z,hT]at n;cases n) e
  .exact kp _ b o (fun z=>by rw[z,hT]at n;cases n) e
  .rw[zc (fun z=>by rw[z,hT]at n;cases n),zc (xu (x00 (xn e) hge))]
   exact n
  .by_cases z:b=Pt
   .rw[z];exact⟨_,x9 _ htb'⟩
   .exact⟨o,kp _ b o z e⟩
  .rw[zc (fun z=>by rw[z,hT]at e;cases e),zc (zh e hc0)];exact e
  .rw[zc (fun z=>by rw[z,hT]at e;cases e),zc (zh e hc0)];exact e
  .by_cases z:b=Pt
   .subst z
    rw[hT]at e
    cases e
    exact⟨#[rawInt pos.line,rawInt pos.col,.ref c'],by rw[z9];simp⟩
   .exact⟨#[],by rw[zc z,zc (zh e hc0),e];simp⟩
  .intro b u e
   by_cases z:b=Pt
   .subst z
    rw[z9]at e
    cases e
    exact x9 _ htb'
   .rw[zc z]at e
    by_cases z2:b=c'
    .subst z2
     rw[z9]at e
     cases e
     exact zlu (hrec.keeps fun b o e=>x9 _ e)
    .rw[zc z2]at e
     refine(I.hok b u e).stay (fun d v hd q=>kp _ d v ?_ q) (fun d q=>?_) fun d xs q=>?_
     .rintro rfl
      rcases hd with hd|hd
      .exact z hd.symm
      .rw[hT]at hd;cases hd
     .rw[zc (fun y=>by rw[y,hT]at q;cases q),zc (zh q hc0)];exact q
     .rw[zc (fun y=>by rw[y,hT]at q;cases q),zc (zh q hc0)];exact q
  .rw[zc ncP,z9]
  .rw[zc nb,zc (zh e hc0)];exact e
  .rw[zc (fun z=>by rw[z,hT]at hf0;cases hf0),zc (x17 hlt)];exact hf0
 .have hP:s.heap.get? Pt=some (tabObj #[rawInt pos.line,rawInt pos.col,.ref c']):=I.hok Pt _ hT
  obtain⟨C,-,-⟩:=(show ObjOk X.prog X.w H s.heap c' (z3y c' (X.env.qual++ "<lambda>")) from I.hok c' _ hc')
  refine kla_makeFunctionHit hcl I.ok.glob hg hcode CH hP trivial (zlv pos c') hb fun ctv h' tk hk hsz=>?_
  have k2:∀(ob:Obj)(b:Addr)(o:Obj),s.heap.get? b=some o->(h'.push ob).get? b=some o:=fun ob b o e=>x9 _ (hk b o e)
  exact h h'.objs.size c' ctv _ H _ (I.kept (t':=tk) (k2 _)) (xr _ rfl) (C.keeps (k2 _)) (.inr ⟨c',hT,hc'⟩) (fun b o e _=>e) (I.hok.fresh hsz)
end
end L2
end
section
namespace PySem
open PySem.W PySem.Spec PyProof.Rows
structure LamX(x:Str)(params:Arguments)(scope:Scope):Prop where
 bind:∀(qual:Str) (body:Expr) (pm cdv ctv v:Value),bindArgs (kla_fn "<lambda>" qual params body scope [] pm cdv ctv) ⟨[v],[]⟩=pure [(x,v)]
 co:scope.isCoroutine=false
 gen:scope.isGenerator=false
 kind:scope.kind=.function
 cell:∀y∈scope.names,y.2≠.cell
 loc:scope.names.lookup x=some .local
 db:(x==("__debug__":Str))=false
section
variable {prog:Program}{w:World}{A:Around}{E:Value->Shared->Prop}{s:Shared}
end
end PySem
namespace L2
open PySem PySem.W PySem.Spec PyProof.Rows
section
variable {X:Cx}{pins:List (Addr×Obj)}{σ:St}{H:Hp}{s:Shared}
theorem z70{g h h':Heap}{L:Addr}{m:Str->Option Value}{own:List (Addr×Obj)}(k:∀b o,g.get? b=some o->h.get? b=some o)(F:Fr g L h' m)(N:News g L h' (z32 g h L++own)):∀b o,b≠L->h.get? b=some o->h'.get? b=some o:=fun b o nb e=>by
 cases q:g.get? b with
 |some u=>
  have:=k b u q
  rw[e]at this;cases this
  exact F.keep b _ q
 |none=>exact(N (b,o) (x0p _ (z66 nb q e))).1
noncomputable def But1(a:Addr)(H H':Hp):Prop:=∀b o,H b=some o->b≠a->H' b=some o
end
end L2
end
section
namespace L2
open PySem PySem.Spec PyProof.Rows
structure OnlyT(ts:List Addr)(H:Hp):Prop where
 all:∀b u,H b=some u->(b∈ts/\u=.tbl #[])\/∃o xs,u=.frz o (.lst xs)
 tab:∀t∈ts,H t=some (.tbl #[])
noncomputable def z7z(ts:List Addr)(a:Addr)(o:HO):Hp:=fun b=>if b∈ts then some (.tbl #[]) else if b=a then some o else none
theorem zo9{h h':Heap}(k:∀b o,h.get? b=some o->h'.get? b=some o\/(isCodeTable h b/\o=PySem.W.tabObj #[]/\∃more,h'.get? b=some (PySem.W.tabObj more))):OldK h h':=by
 refine⟨fun b o e=>?_,fun b o e=>?_⟩
 .rcases k b o e with z|⟨z1,rfl,more,z2⟩
  .exact .inl z
  .exact .inr (.inl ⟨z1,rfl,#[],more,rfl,by rw[z2];simp[PySem.W.tabObj]⟩)
 .rcases k b o e with z|⟨_,_,more,z⟩
  .exact⟨_,z⟩
  .exact⟨_,z⟩
section
variable {P:Program}{w:World}{K:PySem.W.Frag}{mg mb:Str->Option Value}{k:Nat}{fa a:Addr}{fd:FuncData}{x:Str}{sp:Sp}{s₁:Shared}{vs:List Value}{ns:List Int}{ts:List Addr}
theorem lawT(KX:K.In s₁.heap)(gl:s₁.heap.Ns mainGlobals mg)(bl:s₁.heap.Ns builtinsNs mb)(bb:∀ x:Str,x≠ "__name__"->mb x=bootBuiltins x)(lim:s₁.heap.NoLimit)(gn:s₁.gens= #[])
  (sc:s₁.heap.get? a=some { cls:=.type "list",data:=.seq vs.toArray }) (hi:IntsAre vs ns) (hl:ns.length<=sizeLine) (hr:Room k callerA)
  (tabs:∀t∈ts,s₁.heap.get? t=some (PySem.W.tabObj #[])) (codes:∀t∈ts,∃c,PySem.W.codeHdIn K c t=true) (notK:∀t∈ts,K.lookup t=none)
  (bm:∃ bm ob,mg "__builtins__"=some (.ref bm)/\bm≠builtinsNs/\s₁.heap.get? bm=some ob/\ob.cls=.type "module"/\ob.dict=some builtinsNs/\ob.data=.plain)
  (F:∀base:Heap,K.In base->base.Ns mainGlobals mg->(∀t∈ts,base.BuiltinsAt mg t)->FnOk P w K mg base CX0 k fa fd [x] sp) (bind:∀(s:Shared)(u:Value),BindsTo s fd ⟨[u],[]⟩ [(x,u)])
  (hsp:∀H:Hp,OnlyT ts H->SqL K H a (ns.map V.int)->sp [.ref a] H (fun v _=>v=.bl true) fun _ _ _=>False):
  codeAny (model P w) callerA (.call (.ref fa) ⟨[.ref a],[]⟩) (fun r s'=>r=.ok (.ret (.bool true))/\OldK s₁.heap s'.heap/\s'.os=s₁.os/\AllBare s'.gens) s₁:=by
 have rv:=zcs hi
 have lv:=hi.length
 have ant:a∉ts:=fun z=>by have:=tabs a z;rw[sc]at this;cases this
 have main:∀H:Hp,OnlyT ts H->SqL K H a (ns.map V.int)->HOk P w H s₁.heap->(∀b u,H b=some u->K.lookup b=none/\(b=a\/b∈ts))->
   codeAny (model P w) callerA (.call (.ref fa) ⟨[.ref a],[]⟩) (fun r s'=>r=.ok (.ret (.bool true))/\OldK s₁.heap s'.heap/\s'.os=s₁.os/\AllBare s'.gens) s₁:=by
  intro H only seq hok lone
  have untracked:∀{b:Addr}{o:Obj},s₁.heap.get? b=some o->(∀i n,o.data≠.seq i n)->(∀i,o.data≠.fields i)->H b=none:=fun{b o} e n1 n2=>by
   cases q:H b with
   |none=>rfl
   |some u=>
    rcases(lone b u q).2 with z|z
    .rw[z,sc]at e;cases e;exact(n1 _ _ rfl).elim
    .have:=tabs b z;rw[e]at this;cases this;exact(n2 _ rfl).elim
  have inB:∀{b:Addr}{o:Obj},s₁.heap.get? b=some o->H b=none->(hidT s₁.heap H).get? b=some o:=fun e n=>zl7 e n
  have nsB:∀{b:Addr}{m:Str->Option Value},s₁.heap.Ns b m->(hidT s₁.heap H).Ns b m:=fun{b m} ⟨o,es,ep,e,d,r⟩=>
   ⟨o,es,ep,inB e (untracked e (fun i n z=>by rw[d]at z;cases z) fun i z=>by rw[d]at z;cases z),d,r⟩
  have kB:K.In (hidT s₁.heap H):=fun b o e=>inB (KX b o e) (by
   cases q:H b with
   |none=>rfl
   |some u=>rw[(lone b u q).1]at e;cases e)
  have bB:∀t∈ts,(hidT s₁.heap H).BuiltinsAt mg t:=fun t ht=>by
   obtain⟨m,ob,b1,b2,b3,b4,b5,b6⟩:=bm
   refine⟨m,ob,b1,b2,fun z=>?_,fun z=>?_,inB b3 (untracked b3 (fun i n z=>by rw[b6]at z;cases z) fun i z=>by rw[b6]at z;cases z),b4,b5,b6⟩
   .obtain⟨o,es,ep,e,d,_⟩:=gl
    rw[<-z,b3]at e;cases e;rw[b6]at d;cases d
   .have:=tabs t ht;rw[<-z,b3]at this;cases this;cases b6
  have M:Mod K mg (hidT s₁.heap H):=⟨kB,nsB gl,⟨mb,nsB bl,bb⟩,let⟨mc,h1,h2⟩:=lim;⟨mc,nsB h1,h2⟩⟩
  have E:Env0 P w K mg (hidT s₁.heap H) callerA [] s₁ H:=⟨rfl,M,fun b o e=>zmy e,Nat.le_of_eq (zj0 _ _),trivial,(fun b hb=>by cases hb),hok,.of_eq gn⟩
  refine x31 ((F _ kB (nsB gl) bB).run callerA [] s₁ H ⟨[.ref a],[]⟩ [.ref a] [.ref a] _ _ hr E (bind s₁ (.ref a)) (.cons rfl .nil) (hsp H only seq)) fun r s' h=>?_
  cases r with
  |error e=>exact False.elim h
  |ok fl=>
   cases fl with
   |next=>exact False.elim h
   |brk=>exact False.elim h
   |cont=>exact False.elim h
   |ret u=>
    obtain⟨v,H',os,bare,un,hok',r',q⟩:=h
    have q':v=.bl true:=q
    subst q'
    obtain rfl:u=Value.bool true:=r'
    refine⟨rfl,zo9 fun b o e=>?_,os,bare⟩
    cases q:H b with
    |none=>exact .inl (un.keep b o e q (fun z=>by cases z) (fun z=>by cases z))
    |some u=>
     rcases only.all b u q with⟨z,rfl⟩|⟨ob,xs,rfl⟩
     .obtain⟨more,h2⟩:=un.tbls b _ q
      have h3:s'.heap.get? b=some (PySem.W.tabObj (#[]++more)):=hok' b _ h2
      have h4:=tabs b z
      rw[e]at h4
      obtain⟨c,hc⟩:=codes b z
      obtain⟨oc,vs',_,_,_,_,_,_,_,g1,g2,g3,g4,_⟩:=PySem.W.codeHd_of_K KX hc
      exact .inr ⟨⟨c,oc,vs',g1,g2,g3,g4⟩,xq h4,_,h3⟩
     .have h2:=un.frzs b ob _ q
      obtain⟨e1,_⟩:=hok b _ q
      obtain⟨e2,_⟩:=hok' b _ h2
      rw[e]at e1
      cases e1
      exact .inl e2
 by_cases hk:K.lookup a=none
 .have sa:z7z ts a (HO.frz { cls:=.type "list",data:=.seq vs.toArray } (.lst (ns.map V.int))) a=some (.frz { cls:=.type "list",data:=.seq vs.toArray } (.lst (ns.map V.int))):=by
   unfold z7z
   rw[if_neg ant,if_pos rfl]
  have cs:∀ b u,z7z ts a (HO.frz { cls:=.type "list",data:=.seq vs.toArray } (.lst (ns.map V.int))) b=some u->(b∈ts/\u=.tbl #[])\/(b=a/\u=.frz { cls:=.type "list",data:=.seq vs.toArray } (.lst (ns.map V.int))):=fun b u e=>by
   unfold z7z at e
   split at e
   .rename_i z;cases e;exact .inl ⟨z,rfl⟩
   .split at e
    .rename_i z;cases e;exact .inr ⟨z,rfl⟩
    .cases e
  refine main (z7z ts a (HO.frz { cls:=.type "list",data:=.seq vs.toArray } (.lst (ns.map V.int)))) ⟨fun b u e=>?_,fun t ht=>if_pos ht⟩ (.inl (.inr ⟨_,sa⟩)) (fun b u e=>?_) fun b u e=>?_
  .rcases cs b u e with z|⟨_,z⟩
   .exact .inl z
   .exact .inr ⟨_,_,z⟩
  .rcases cs b u e with⟨z,rfl⟩|⟨rfl,rfl⟩
   .exact tabs b z
   .exact⟨sc,by rw[x5];exact hl,vs,_,rv,sc⟩
  .rcases cs b u e with⟨z,_⟩|⟨rfl,_⟩
   .exact⟨notK b z,.inr z⟩
   .exact⟨hk,.inl rfl⟩
 .cases hk':K.lookup a with
  |none=>exact absurd hk' hk
  |some o=>
   have e:=KX a o hk'
   rw[sc]at e
   cases e
   have cs:∀b u,(fun b=>if b∈ts then some (HO.tbl #[]) else none:Hp) b=some u->b∈ts/\u=.tbl #[]:=fun b u e=>by
    dsimp only at e
    split at e
    .rename_i z;cases e;exact⟨z,rfl⟩
    .cases e
   refine main _ ⟨fun b u e=>.inl (cs b u e),fun t ht=>if_pos ht⟩ (.inr ⟨_,vs.toArray,_,hk',rfl,rfl,rfl,by rw[xy,lv];exact hl,by simpa using rv⟩) (fun b u e=>?_) fun b u e=>?_
   .obtain⟨z,rfl⟩:=cs b u e
    exact tabs b z
   .exact⟨notK b (cs b u e).1,.inr (cs b u e).1⟩
end
end L2
end
section
namespace L2
open PySem PySem.Spec PyProof.Rows
noncomputable def DefC(K:PySem.W.Frag)(mg:Str->Option Value)(x:Str)(st:Stmt)(ps:List Str)(c:Addr):Prop:=
 ∃(f:Addr)(oc:Value)(od:Option Addr)(kV doc pm:Value)(an:Option Addr)(ct:Value)(osl:Array (Option Value)),K.lookup f=some ⟨oc,od,.func (PySem.W.fnOf x x (z24 st) (z1j st) (zg st) .none kV doc pm an (.ref c) ct),osl⟩/\
  PySem.W.codeIn K (.ref c) x=true/\PySem.W.keepIn K (.ref f)=true/\mg x=some (.ref f)/\Binds K (PySem.W.fnOf x x (z24 st) (z1j st) (zg st) .none kV doc pm an (.ref c) ct) ps []
theorem DefC.ok{P:Program}{w:World}{K:PySem.W.Frag}{mg:Str->Option Value}{base:Heap}{x:Str}{st:Stmt}{N ps:List Str}{k:Nat}{sp:Sp}{c:Addr}(D:DefC K mg x st ps c)(S:FnScope N ps (zg st))(len:∀vs H Q E,sp vs H Q E->vs.length=ps.length)
  (hbody:∀(f:Addr)(A:Around)(outer:List Env)(s:Shared)(H:Hp)(vs:List V)(Q:VK)(E:XK),Room k (A.deeper (envOfC x (zg st) s.heap.objs.size f (.ref c)))->sp vs H Q E->
   ∃t,PSs (cxOf CX0 P w K mg base N x (zg st) f (.ref c) A outer s H E).nox (z1j st) t/\t { nx:=fun _ H'=>Q .non H',rt:=Q } (start N vs) H):Has P w K mg base (k+1) x ps sp:=by
 obtain⟨f,oc,od,kV,doc,pm,an,ct,osl,lk,hcd,kp,hm,hb⟩:=D
 refine⟨f,_,zhy lk hcd S len fun A outer s H vs Q E hr hsp=>?_,hm,kp,hb,oc,od,osl,lk⟩
 obtain⟨t,h,q⟩:=hbody f A outer s H vs Q E hr hsp
 exact⟨t,h.nox,q⟩
noncomputable def zf4(vs:Array Value):Bool:=(match vs.getD 18 .none with| .str _ _=>true|_=>false)&&(match vs.getD 7 .none with| .int _ _=>true|_=>false)&&
 (match vs.getD 9 .none with| .bool _=>true|_=>false)&&(match vs.getD 10 .none with| .int _ _=>true|_=>false)
theorem codeHd_mk{K:PySem.W.Frag}{c t:Addr}{od:Option Addr}{vs:Array Value}{sl:Array (Option Value)}(e:K.lookup c=some ⟨.type "code",od,.fields vs,sl⟩)(h:vs[11]? =some (.ref t))(r:zf4 vs=true)(n:(c !=t)=true):PySem.W.codeHdIn K c t=true:=by
 unfold zf4 at r
 simp only[x0y]at r
 unfold PySem.W.codeHdIn
 simp only[e,h]
 simp only[x2t,Bool.true_and,x0y]
 exact⟨⟨⟨⟨r.1.1.1,r.1.1.2⟩,r.1.2⟩,r.2⟩,n⟩
theorem walk_ofT{l:PySem.W.OpenLaw}{n k:Nat}{q:Program}{loose:List Str}{XP:(Str->Option Value)->Heap->Prop}{YP:World->Heap->Prop}{d:DefRec}{K:Params->PySem.W.Frag}{ts:List Addr}{sp:List Addr->PySem.W.Frag->Sp}{x:Str}
  (hn:l.most=some n) (hn2:n<=sizeLine) (hdf:d.params.defaults=[]) (hr:Room k callerA)
  (hY:∀(w:World)(h:Heap),YP w h->(K w.params).In h/\∀t∈ts,h.get? t=some (PySem.W.tabObj #[]))
  (F:∀(w:World)(mg:Str->Option Value)(fa:Addr)(h:Heap),(K w.params).In h->h.Ns mainGlobals mg->mg d.name=some (.ref fa)->
   (∀t∈ts,(∃c,PySem.W.codeHdIn (K w.params) c t=true)/\(K w.params).lookup t=none)/\
   ∃fd:FuncData,(∀(s:Shared)(u:Value),BindsTo s fd ⟨[u],[]⟩ [(x,u)])/\
    ∀base:Heap,(K w.params).In base->base.Ns mainGlobals mg->(∀t∈ts,base.BuiltinsAt mg t)->FnOk l.prog w (K w.params) mg base CX0 k fa fd [x] (sp ts (K w.params)))
  (hsp:∀(K:PySem.W.Frag)(H:Hp)(a:Addr)(ns:List Int),ns.length<=n->OnlyT ts H->SqL K H a (ns.map V.int)->sp ts K [.ref a] H (fun v _=>v=.bl true) fun _ _ _=>False):
  PySem.W.WalkO q loose XP YP l.row.toRowW d [] (fun f vs=>PySem.call f vs):=by
 refine Att.attach_call hn hdf fun w s₀ s₁ mg mb fa o pm cd doc a vs ns G Y ho hd hcd hmg hobj hints hlen hg=>?_
 obtain⟨KX,TX⟩:=hY w _ Y
 obtain⟨ht,fd,hb,hF⟩:=F w mg fa _ KX G.T.g hmg
 exact lawT KX G.T.g G.T.b G.T.builtins G.T.nolimit hg hobj hints (x01 hlen hn2) hr TX (fun t h=>(ht t h).1) (fun t h=>(ht t h).2) G.T.bmain hF hb fun H hO hS=>hsp (K w.params) H a ns hlen hO hS
end L2
end
section
namespace PySem.W
open PySem PyProof.Rows
noncomputable def KasT.run{α:Type}(lt:Nat->Nat->Bool):KasT α->α
 | .ret a=>a
 | .ask i j k=>(k (lt i j)).run lt
theorem KasT.run_bind{α β:Type}(lt:Nat->Nat->Bool)(f:α->KasT β):∀t:KasT α,(t.bind f).run lt=(f (t.run lt)).run lt
 | .ret _=>rfl
 | .ask i j k=>KasT.run_bind lt f (k (lt i j))
section
variable {lt:Nat->Nat->Bool}(tr:∀a b c,lt b a=false->lt c b=false->lt c a=false)(asy:∀a b,lt a b=true->lt b a=false)
noncomputable def at'(p:Array Nat)(i:Nat):Nat:=p.getD i 0
noncomputable def Asc(lt:Nat->Nat->Bool)(p:Array Nat)(m:Nat):Prop:=∀a b,a<b->b<m->lt (at' p b) (at' p a)=false
noncomputable def Dsc(lt:Nat->Nat->Bool)(p:Array Nat)(m:Nat):Prop:=∀a b,a<b->b<m->lt (at' p a) (at' p b)=false
noncomputable def Eqs(lt:Nat->Nat->Bool)(p:Array Nat)(i j:Nat):Prop:=∀a b,i<=a->a<j->i<=b->b<j->lt (at' p a) (at' p b)=false
include asy in
theorem irr(x:Nat):lt x x=false:=by
 cases h:lt x x with
 |false=>rfl
 |true=>exact(asy x x h).symm.trans h |>.symm▸rfl
include tr asy in
theorem zoa{p:Array Nat}{n:Nat}(h1:1<=n)(h:Asc lt p n)(c:lt (at' p n) (at' p (n-1))=false):Asc lt p (n+1):=by
 intro a b hab hb
 by_cases hbn:b<n
 .exact h a b hab hbn
 .have e:b=n:=by omega
  subst e
  by_cases ha:a=b-1
  .subst ha;exact c
  .exact tr _ _ _ (h a (b-1) (by omega) (by omega)) c
include tr asy in
theorem zc0(p:Array Nat):∀(f n:Nat),1<=n->Asc lt p n->Asc lt p ((kas_asc p f n).run lt)/\n<=(kas_asc p f n).run lt/\(kas_asc p f n).run lt<=n+f/\
  ((kas_asc p f n).run lt<n+f->lt (at' p ((kas_asc p f n).run lt)) (at' p ((kas_asc p f n).run lt-1))=true)
 |0,n,h1,h=>⟨h,xi _,xi _,fun z=>absurd z (x0o _)⟩
 |f+1,n,h1,h=>by
  cases c:lt (at' p n) (at' p (n-1)) with
  |true=>
   have e:(kas_asc p (f+1) n).run lt=n:=by
    show KasT.run lt (if lt (at' p n) (at' p (n-1))=true then _ else _)=n
    rw[if_pos c];rfl
   rw[e]
   exact⟨h,xi _,by omega,fun _=>c⟩
  |false=>
   have e:(kas_asc p (f+1) n).run lt=(kas_asc p f (n+1)).run lt:=by
    show KasT.run lt (if lt (at' p n) (at' p (n-1))=true then _ else _)=_
    rw[if_neg (by rw[c];exact xm)]
   rw[e]
   obtain⟨a1,a2,a3,a4⟩:=zc0 p f (n+1) (by omega) (zoa tr asy h1 h c)
   exact⟨a1,by omega,by omega,fun z=>a4 (by omega)⟩
theorem z3s{p:Array Nat}{i j:Nat}(hj:j<=p.size)(k:Nat):at' (kas_rev p i j) k=if i<=k/\k<j then at' p (i+j-1-k) else at' p k:=by
 unfold at' kas_rev
 have h:=getElem?_mirror_all (xs:=p) (i:=i) hj k
 simp only[Array.getD_eq_getD_getElem?,h]
 split<;>rfl
theorem z5q(p:Array Nat)(i j:Nat):(kas_rev p i j).Perm p:=mirror_perm _ _ _ _
theorem z9w(p:Array Nat)(i j:Nat):(kas_rev p i j).size=p.size:=mirror_size _ _ _ _
theorem zh6{p:Array Nat}{i n:Nat}(hn:n<=p.size)(h:Dsc lt p n)(e:Eqs lt p i n):Dsc lt (kas_rev p i n) n:=by
 intro a b hab hb
 rw[z3s hn,z3s hn]
 by_cases ha:i<=a/\a<n<;>by_cases hb':i<=b/\b<n
 .rw[if_pos ha,if_pos hb']
  exact e _ _ (by omega) (by omega) (by omega) (by omega)
 .omega
 .rw[if_neg ha,if_pos hb']
  exact h _ _ (by omega) (by omega)
 .rw[if_neg ha,if_neg hb']
  exact h _ _ hab hb
theorem znf{p:Array Nat}{n:Nat}(hn:n<=p.size)(h:Dsc lt p n):Asc lt (kas_rev p 0 n) n:=by
 intro a b hab hb
 rw[z3s hn,z3s hn,if_pos ⟨x08 _,hb⟩,if_pos ⟨x08 _,by omega⟩]
 exact h _ _ (by omega) (by omega)
include tr asy in
theorem z80{p:Array Nat}{n:Nat}(h1:1<=n)(h:Dsc lt p n)(c:lt (at' p (n-1)) (at' p n)=false):Dsc lt p (n+1):=by
 intro a b hab hb
 by_cases hbn:b<n
 .exact h a b hab hbn
 .have e:b=n:=by omega
  subst e
  by_cases ha:a=b-1
  .subst ha;exact c
  .exact tr _ _ _ c (h a (b-1) (by omega) (by omega))
structure DR(lt:Nat->Nat->Bool)(p0:Array Nat)(lo hi:Nat)(r:Array Nat×Nat×Nat):Prop where
 d:Dsc lt r.1 r.2.1
 e:Eqs lt r.1 (r.2.1-(r.2.2+1)) r.2.1
 q:r.2.2<r.2.1
 lo:lo<=r.2.1
 hi:r.2.1<=hi
 pm:r.1.Perm p0
include tr asy in
theorem z71:∀(f:Nat)(p:Array Nat)(n q:Nat),1<=n->q<n->n+f<=p.size->Dsc lt p n->Eqs lt p (n-(q+1)) n->DR lt p n (n+f) ((kas_desc f p n q).run lt)
 |0,p,n,q,h1,hq,hs,hd,he=>⟨hd,he,hq,xi _,xi _,Array.Perm.refl _⟩
 |f+1,p,n,q,h1,hq,hs,hd,he=>by
  have one:∀p':Array Nat,Eqs lt p' (n+1-(0+1)) (n+1):=fun p' a b a1 a2 b1 b2=>by
   have ea:a=n:=by omega
   have eb:b=n:=by omega
   rw[ea,eb];exact irr asy _
  cases c:lt (at' p n) (at' p (n-1)) with
  |true=>
   by_cases q0:q>0
   .have e:(kas_desc (f+1) p n q).run lt=(kas_desc f (kas_rev p (n-(q+1)) n) (n+1) 0).run lt:=by
     show KasT.run lt (if lt (at' p n) (at' p (n-1))=true then _ else _)=_
     rw[if_pos c,if_pos q0]
    rw[e]
    have up:Dsc lt (kas_rev p (n-(q+1)) n) (n+1):=by
     refine z80 tr asy h1 (zh6 (by omega) hd he) ?_
     rw[z3s (by omega),z3s (by omega),if_pos (by omega),if_neg (by omega)]
     have e1:=he (n-(q+1)+n-1-(n-1)) (n-1) (by omega) (by omega) (by omega) (by omega)
     exact tr _ _ _ (asy _ _ c) e1
    obtain⟨a1,a2,a3,a4,a5,a6⟩:=z71 f (kas_rev p (n-(q+1)) n) (n+1) 0 (by omega) (by omega) (by rw[z9w];omega) up (one _)
    exact⟨a1,a2,a3,by omega,by omega,a6.trans (z5q _ _ _)⟩
   .have e:(kas_desc (f+1) p n q).run lt=(kas_desc f p (n+1) 0).run lt:=by
     show KasT.run lt (if lt (at' p n) (at' p (n-1))=true then _ else _)=_
     rw[if_pos c,if_neg q0]
    rw[e]
    obtain⟨a1,a2,a3,a4,a5,a6⟩:=z71 f p (n+1) 0 (by omega) (by omega) (by omega) (z80 tr asy h1 hd (asy _ _ c)) (one _)
    exact⟨a1,a2,a3,by omega,by omega,a6⟩
  |false=>
   cases d:lt (at' p (n-1)) (at' p n) with
   |true=>
    have e:(kas_desc (f+1) p n q).run lt=(p,n,q):=by
     show KasT.run lt (if lt (at' p n) (at' p (n-1))=true then _ else _)=_
     rw[if_neg (by rw[c];exact xm)]
     show KasT.run lt (if lt (at' p (n-1)) (at' p n)=true then _ else _)=_
     rw[if_pos d];rfl
    rw[e]
    exact⟨hd,he,hq,xi _,by show n<=_;omega,Array.Perm.refl _⟩
   |false=>
    have e:(kas_desc (f+1) p n q).run lt=(kas_desc f p (n+1) (q+1)).run lt:=by
     show KasT.run lt (if lt (at' p n) (at' p (n-1))=true then _ else _)=_
     rw[if_neg (by rw[c];exact xm)]
     show KasT.run lt (if lt (at' p (n-1)) (at' p n)=true then _ else _)=_
     rw[if_neg (by rw[d];exact xm)]
    rw[e]
    have eq:Eqs lt p (n+1-(q+1+1)) (n+1):=by
     intro a b a1 a2 b1 b2
     by_cases ha:a<n<;>by_cases hb:b<n
     .exact he a b (by omega) ha (by omega) hb
     .have eb:b=n:=by omega
      rw[eb]
      exact tr _ _ _ d (he a (n-1) (by omega) ha (by omega) (by omega))
     .have ea:a=n:=by omega
      rw[ea]
      exact tr _ _ _ (he (n-1) b (by omega) (by omega) (by omega) hb) c
     .have ea:a=n:=by omega
      have eb:b=n:=by omega
      rw[ea,eb];exact irr asy _
    obtain⟨a1,a2,a3,a4,a5,a6⟩:=z71 f p (n+1) (q+1) (by omega) (by omega) (by omega) (z80 tr asy h1 hd d) eq
    exact⟨a1,a2,a3,by omega,by omega,a6⟩
structure CR(lt:Nat->Nat->Bool)(p0:Array Nat)(nrem:Nat)(r:Nat×Array Nat):Prop where
 a:Asc lt r.2 r.1
 lo:1<=r.1
 hi:r.1<=nrem
 pm:r.2.Perm p0
include tr asy in
theorem zd3{p:Array Nat}{n nrem:Nat}(h1:1<=n)(hn:n<=nrem)(hs:nrem<=p.size)(hd:Dsc lt p n):CR lt p nrem ((kas_tail3 n nrem p).run lt):=by
 unfold kas_tail3
 rw[KasT.run_bind]
 obtain⟨a1,a2,a3,a4⟩:=zc0 tr asy (kas_rev p 0 n) (nrem-n) n h1 (znf (by omega) hd)
 exact⟨a1,by show 1<=KasT.run lt _;omega,by show KasT.run lt _<=nrem;omega,z5q _ _ _⟩
include tr asy in
theorem z81{p:Array Nat}{n nrem:Nat}(h1:1<=n)(hn:n<nrem)(hs:nrem<=p.size)(hd:Dsc lt p (n+1)):CR lt p nrem ((kas_descPart n nrem p).run lt):=by
 unfold kas_descPart
 rw[KasT.run_bind]
 have one:Eqs lt p (n+1-(0+1)) (n+1):=fun a b a1 a2 b1 b2=>by
  have ea:a=n:=by omega
  have eb:b=n:=by omega
  rw[ea,eb];exact irr asy _
 obtain⟨d1,d2,d3,d4,d5,d6⟩:=z71 tr asy (nrem-(n+1)) p (n+1) 0 (by omega) (by omega) (by omega) hd one
 generalize KasT.run lt (kas_desc (nrem-(n+1)) p (n+1) 0)=r at d1 d2 d3 d4 d5 d6
 have sz:r.1.size=p.size:=d6.size_eq
 by_cases q0:r.2.2>0
 .rw[if_pos q0]
  obtain⟨a1,a2,a3,a4⟩:=zd3 tr asy (p:=kas_rev r.1 (r.2.1-(r.2.2+1)) r.2.1) (n:=r.2.1) (nrem:=nrem) (by omega) (by omega) (by rw[z9w];omega) (zh6 (by omega) d1 d2)
  exact⟨a1,a2,a3,(a4.trans (z5q _ _ _)).trans d6⟩
 .rw[if_neg q0]
  obtain⟨a1,a2,a3,a4⟩:=zd3 tr asy (p:=r.1) (n:=r.2.1) (nrem:=nrem) (by omega) (by omega) (by omega) d1
  exact⟨a1,a2,a3,a4.trans d6⟩
include tr asy in
theorem zjy{p:Array Nat}{nrem:Nat}(h1:1<=nrem)(hs:nrem<=p.size):CR lt p nrem ((kas_count nrem p).run lt):=by
 unfold kas_count
 rw[KasT.run_bind]
 obtain⟨a1,a2,a3,a4⟩:=zc0 tr asy p (nrem-1) 1 (xi _) (fun a b x y=>by omega)
 generalize KasT.run lt (kas_asc p (nrem-1) 1)=n at a1 a2 a3 a4
 by_cases e:(n==nrem)=true
 .rw[if_pos e]
  have e:=eq_of_beq e
  exact⟨a1,a2,by show n<=nrem;omega,Array.Perm.refl _⟩
 .rw[if_neg e]
  have ne:n≠nrem:=fun z=>e (by rw[z];exact x2t _)
  have c:=a4 (by omega)
  by_cases n1:n>1
  .rw[if_pos n1]
   show CR lt p nrem (KasT.run lt (if lt (at' p 0) (at' p (n-1))=true then _ else _))
   cases d:lt (at' p 0) (at' p (n-1)) with
   |true=>
    rw[if_pos rfl]
    exact⟨a1,a2,by show n<=nrem;omega,Array.Perm.refl _⟩
   |false=>
    rw[if_neg xm]
    have le1:∀x,x<n->lt (at' p (n-1)) (at' p x)=false:=fun x hx=>by
     by_cases z:x=n-1
     .rw[z];exact irr asy _
     .exact a1 x (n-1) (by omega) (by omega)
    have le0:∀y,y<n->lt (at' p y) (at' p 0)=false:=fun y hy=>by
     by_cases z:y=0
     .rw[z];exact irr asy _
     .exact a1 0 y (by omega) hy
    have all:∀x y,x<n->y<n->lt (at' p y) (at' p x)=false:=fun x y hx hy=>tr _ _ _ (tr _ _ _ (le1 x hx) d) (le0 y hy)
    have D:Dsc lt (kas_rev p 0 n) n:=fun a b hab hb=>by
     rw[z3s (by omega),z3s (by omega),if_pos (by omega),if_pos (by omega)]
     exact all _ _ (by omega) (by omega)
    have D1:Dsc lt (kas_rev p 0 n) (n+1):=by
     refine z80 tr asy (by omega) D ?_
     rw[z3s (by omega),z3s (by omega),if_pos (by omega),if_neg (by omega)]
     exact tr _ _ _ (asy _ _ c) (all (n-1) (0+n-1-(n-1)) (by omega) (by omega))
    obtain⟨b1,b2,b3,b4⟩:=z81 tr asy (p:=kas_rev p 0 n) (n:=n) (nrem:=nrem) a2 (by omega) (by rw[z9w];omega) D1
    exact⟨b1,b2,b3,b4.trans (z5q _ _ _)⟩
  .rw[if_neg n1]
   refine z81 tr asy a2 (by omega) hs (z80 tr asy a2 (fun a b x y=>by omega) (asy _ _ c))
include tr asy in
theorem z82(p:Array Nat)(k:Nat)(hk:Asc lt p k):∀(f l r:Nat),l<=r->r<=k->r<=l+f->(∀a,a<l->lt (at' p k) (at' p a)=false)->(∀a,r<=a->a<k->lt (at' p k) (at' p a)=true)->
  (kas_place p k f l r).run lt<=k/\(∀a,a<(kas_place p k f l r).run lt->lt (at' p k) (at' p a)=false)/\(∀a,(kas_place p k f l r).run lt<=a->a<k->lt (at' p k) (at' p a)=true)
 |0,l,r,hlr,hrk,hf,h1,h2=>by
  have e:l=r:=by omega
  subst e
  exact⟨hrk,h1,h2⟩
 |f+1,l,r,hlr,hrk,hf,h1,h2=>by
  unfold kas_place
  by_cases g:l>=r
  .rw[if_pos g]
   have e:l=r:=by omega
   subst e
   exact⟨hrk,h1,h2⟩
  .rw[if_neg g]
   have mid:l<=(l+r)/2/\(l+r)/2<r:=by omega
   generalize(l+r)/2=m at mid
   show(KasT.run lt (if lt (at' p k) (at' p m)=true then _ else _))<=k/\(∀a,a<(KasT.run lt (if lt (at' p k) (at' p m)=true then _ else _))->_)/\(∀a,(KasT.run lt (if lt (at' p k) (at' p m)=true then _ else _))<=a->_)
   cases c:lt (at' p k) (at' p m) with
   |true=>
    simp only[if_true]
    refine z82 p k hk f l m mid.1 (by omega) (by omega) h1 fun a ha hak=>?_
    cases z:lt (at' p k) (at' p a) with
    |true=>rfl
    |false=>
     have y:lt (at' p k) (at' p m)=false:=by
      by_cases ea:a=m
      .rw[<-ea];exact z
      .exact tr _ _ _ (hk m a (by omega) hak) z
     rw[c]at y;cases y
   |false=>
    simp only[x0g,x32]
    refine z82 p k hk f (m+1) r (by omega) hrk (by omega) (fun a ha=>?_) h2
    by_cases ea:a=m
    .rw[ea];exact c
    .exact tr _ _ _ (hk a m (by omega) (by omega)) c
theorem zd4{p:Array Nat}{k l:Nat}(hk:k<p.size)(hl:l<=k)(i:Nat):at' (bubble p k (k-l)) i=if i=l then at' p k else if l<i/\i<=k then at' p (i-1) else at' p i:=by
 unfold at'
 have h:=getElem?_bubble (xs:=p) hk (k-l) (by omega) i
 have e:k-(k-l)=l:=by omega
 rw[e]at h
 simp only[Array.getD_eq_getD_getElem?,h]
 repeat' split
 all_goals rfl
include tr asy in
theorem zh7:∀(f:Nat)(p:Array Nat)(k:Nat),k+f<=p.size->Asc lt p k->Asc lt ((kas_bin f p k).run lt) (k+f)/\((kas_bin f p k).run lt).Perm p
 |0,p,k,hs,h=>⟨h,Array.Perm.refl _⟩
 |f+1,p,k,hs,h=>by
  have e:(kas_bin (f+1) p k).run lt=(kas_bin f (bubble p k (k-(kas_place p k k 0 k).run lt)) (k+1)).run lt:=KasT.run_bind lt _ _
  rw[e]
  obtain⟨b1,b2,b3⟩:=z82 tr asy p k h k 0 k (x08 _) (xi _) (by omega) (fun a ha=>by omega) (fun a ha hb=>by omega)
  generalize(kas_place p k k 0 k).run lt=l at b1 b2 b3
  have A1:Asc lt (bubble p k (k-l)) (k+1):=by
   intro a b hab hb
   rw[zd4 (by omega) b1,zd4 (by omega) b1]
   by_cases c1:b=l
   .rw[if_pos c1,if_neg (by omega),if_neg (by omega)]
    exact b2 a (by omega)
   .rw[if_neg c1]
    by_cases c2:l<b/\b<=k
    .rw[if_pos c2]
     by_cases c3:a=l
     .rw[if_pos c3]
      exact asy _ _ (b3 (b-1) (by omega) (by omega))
     .rw[if_neg c3]
      by_cases c4:l<a/\a<=k
      .rw[if_pos c4]
       exact h (a-1) (b-1) (by omega) (by omega)
      .rw[if_neg c4]
       exact h a (b-1) (by omega) (by omega)
    .rw[if_neg c2,if_neg (by omega),if_neg (by omega)]
     exact h a b hab (by omega)
  have sz:(bubble p k (k-l)).size=p.size:=bubble_size _ _ _
  obtain⟨c1,c2⟩:=zh7 f (bubble p k (k-l)) (k+1) (by rw[sz];omega) A1
  have e2:k+1+f=k+(f+1):=by omega
  rw[e2]at c1
  exact⟨c1,c2.trans (bubble_perm _ _ _)⟩
include tr asy in
theorem zf5{n:Nat}(h1:1<=n):Asc lt ((kas_sort n).run lt) n/\((kas_sort n).run lt).Perm (List.toArray (List.range n)):=by
 unfold kas_sort
 rw[KasT.run_bind]
 have sz:(List.toArray (List.range n)).size=n:=by simp
 obtain⟨a1,a2,a3,a4⟩:=zjy tr asy (p:=List.toArray (List.range n)) (nrem:=n) h1 (by omega)
 generalize KasT.run lt (kas_count n (List.toArray (List.range n)))=r at a1 a2 a3 a4
 have sr:r.2.size=n:=by rw[a4.size_eq,sz]
 by_cases c:r.1<n
 .rw[if_pos c]
  have e:max r.1 1=r.1:=by omega
  rw[e]
  obtain⟨b1,b2⟩:=zh7 tr asy (n-r.1) r.2 r.1 (by omega) a1
  have e2:r.1+(n-r.1)=n:=by omega
  rw[e2]at b1
  exact⟨b1,b2.trans a4⟩
 .rw[if_neg c]
  have e:r.1=n:=by omega
  rw[e]at a1
  exact⟨a1,a4⟩
end
end PySem.W
end
section
namespace PySem
open PySem.W PySem.Spec PyProof.Rows
section
variable {prog:Program}{w:World}{A:Around}{E:Value->Shared->Prop}{s:Shared}
noncomputable def z49(s:Shared)(u1 u2 v:Value)(s':Shared):Prop:=∃ p h' tk,v=.ref p/\s'={ s with heap:=h',toks:=tk }/\(∀ b o,s.heap.get? b=some o->h'.get? b=some o)/\s.heap.get? p=none/\h'.get? p=some { cls:=.type "tuple",data:=.seq #[u1,u2] }
theorem zlw{qual x:Str}{params:Arguments}{scope:Scope}{pm ctv u1 u2:Value}{c' f a:Addr}{i j:Nat}{k k2 x1:Nat}{p1 p2 p3 p4 p5 p6 p7:Pos}{its:Array Value}(L:LamX x params scope)(hroom:A.depth<recursionLimit)
  (ho:s.heap.get? f=some (kla_obj "<lambda>" qual params (.Tuple [.Subscript (.Name x p1) (.Constant (.int (i:Int)) k p2) p3,.Subscript (.Name x p4) (.Constant (.int (j:Int)) k2 p5) p6] x1 p7) scope [] pm c' ctv)) (hcd:s.heap.CodeRec (.ref c') qual) (hlim:s.heap.NoLimit)
  (ht:IsTup s.heap a its) (hi:its[i]? =some u1) (hj:its[j]? =some u2) (hz:its.size<2 ^ 62):
  wpAny (model prog w) A (call (.ref f) [.ref a]) (z49 s u1 u2) E s:=by
 refine zf2 hroom ho hcd hlim (L.bind _ _ _ _ _ _) L.co L.gen L.kind L.cell L.loc fun h₁ hns hk=>?_
 have hm:(fun y=>[(x,(Value.ref a))].reverse.lookup y) x=some (.ref a):=by simp
 have htup:IsTup h₁ a its:=by
  obtain⟨o,e,r⟩:=ht
  exact⟨o,hk _ _ e,r⟩
 have item:∀(i:Nat)(u:Value)(k:Nat)(p1 p2 p3:Pos)(tk:Nat)(Q':Value->Shared->Prop),its[i]? =some u->(∀tk',Q' u { s with heap:=h₁,toks:=tk' })->
   wpAny (model prog w) (A.deeper (newEnv scope s.heap.objs.size mainGlobals [] (qual++ ".<locals>.") (some f) (.ref c') none builtinsNs)) (eval (.Subscript (.Name x p1) (.Constant (.int (i:Int)) k p2) p3) (newEnv scope s.heap.objs.size mainGlobals [] (qual++ ".<locals>.") (some f) (.ref c') none builtinsNs)) Q' (fun _ _=>False) { s with heap:=h₁,toks:=tk }:=by
  intro i u k p1 p2 p3 tk Q' hi q
  have hil:i<its.size:=(Array.getElem?_eq_some_iff.mp hi).1
  refine Subscript_ (wpAny_Name (wpAny_loadName_local L.kind L.loc hns hm (wpAny_Constant_int ?_)) L.db)
  refine subscriptTail_builtinR (x:=u) (s:={ s with heap:=h₁,toks:=tk+1 }) (show Shared.TypeIs _ _ _ from htup.typeIs) slot_tuple_getitem.lookup (getItem_tuple (j:=i) htup (by omega) (by omega) ?_ hi ⟨rfl,q _⟩)
  exact seqIndex_of (by omega) (by omega)
 refine wpAny_Tuple_spliced ?_
 refine x1k (item i u1 k p1 p2 p3 _ _ hi fun tk1=>x1k (item j u2 k2 p4 p5 p6 _ _ hj fun tk2=>Calls.spliced_nil ⟨?_,?_⟩))
 .show 2<=sizeLine
  decide
 .refine⟨h₁.objs.size,_,tk2,rfl,rfl,fun b o e=>x9 _ (hk b o e),?_,xr _ rfl⟩
  cases e:s.heap.get? h₁.objs.size with
  |none=>rfl
  |some o=>exact absurd (xn (hk _ _ e)) (x0o _)
end
end PySem
end
section
namespace PySem.W
open PySem PyProof.Rows
noncomputable def KasT.asks{α:Type}(B:Nat->Prop)(R:α->Prop):KasT α->Prop
 | .ret a=>R a
 | .ask i j k=>B i/\B j/\∀b,(k b).asks B R
theorem KasT.asks_bind{α β:Type}{B:Nat->Prop}{R:α->Prop}{R':β->Prop}{f:α->KasT β}(hf:∀a,R a->(f a).asks B R'):∀t:KasT α,t.asks B R->(t.bind f).asks B R'
 | .ret a,h=>hf a h
 | .ask i j k,h=>⟨h.1,h.2.1,fun b=>KasT.asks_bind hf (k b) (h.2.2 b)⟩
theorem KasT.wp_asks{α:Type}{cmp:Nat->Nat->(Bool->Shared->Prop)->Shared->Prop}{lt:Nat->Nat->Bool}{B:Nat->Prop}{R:α->Prop}{I:Shared->Prop}(hc:∀i j K s,B i->B j->I s->(∀s',I s'->K (lt i j) s')->cmp i j K s){Q:α->Shared->Prop}:
  ∀(t:KasT α)(s:Shared),t.asks B R->I s->(∀s',I s'->Q (t.run lt) s')->t.kasWp cmp Q s
 | .ret a,s,_,hi,h=>h s hi
 | .ask i j k,s,ha,hi,h=>hc i j _ s ha.1 ha.2.1 hi fun s' hi'=>KasT.wp_asks hc (k (lt i j)) s' (ha.2.2 _) hi' h
section
variable {B:Nat->Prop}
noncomputable def InAll(B:Nat->Prop)(p:Array Nat):Prop:=∀i,B (p.getD i 0)
theorem InAll.zero{p:Array Nat}(h:InAll B p):B 0:=by
 have:=h p.size
 simpa[Array.getD]using this
theorem InAll.perm{p q:Array Nat}(h:InAll B p)(e:q.Perm p):InAll B q:=fun i=>by
 by_cases hi:i<q.size
 .have e1:q.getD i 0=q[i]:=by simp[Array.getD,hi]
  rw[e1]
  have hm:q[i]∈p:=(e.mem_iff).mp (Array.getElem_mem hi)
  obtain⟨k,hk,ek⟩:=Array.getElem_of_mem hm
  have:=h k
  rw[<-ek]
  simpa[Array.getD,hk]using this
 .have e1:q.getD i 0=0:=by simp[Array.getD,hi]
  rw[e1]
  exact h.zero
theorem InAll.rev{p:Array Nat}(h:InAll B p)(i j:Nat):InAll B (kas_rev p i j):=h.perm (z5q _ _ _)
theorem z9x{p:Array Nat}(h:InAll B p):∀f n,(kas_asc p f n).asks B fun _=>True
 |0,n=>trivial
 |f+1,n=>⟨h _,h _,fun b=>by
  cases b with
  |true=>exact trivial
  |false=>exact z9x h f (n+1)⟩
theorem z61:∀(f:Nat)(p:Array Nat)(n q:Nat),InAll B p->(kas_desc f p n q).asks B fun r=>InAll B r.1
 |0,p,n,q,h=>h
 |f+1,p,n,q,h=>⟨h _,h _,fun b=>by
  cases b with
  |true=>
   show KasT.asks B _ (if q>0 then _ else _)
   split
   .exact z61 f _ _ _ (h.rev _ _)
   .exact z61 f _ _ _ h
  |false=>
   refine⟨h _,h _,fun d=>?_⟩
   cases d with
   |true=>exact h
   |false=>exact z61 f _ _ _ h⟩
theorem zb1{n nrem:Nat}{p:Array Nat}(h:InAll B p):(kas_tail3 n nrem p).asks B fun r=>InAll B r.2:=by
 unfold kas_tail3
 exact KasT.asks_bind (R:=fun _=>True) (R':=fun r:Nat×Array Nat=>InAll B r.2) (f:=fun m=>.ret (m,kas_rev p 0 n)) (fun m _=>h.rev _ _) _ (z9x (h.rev _ _) _ _)
theorem z7g{n nrem:Nat}{p:Array Nat}(h:InAll B p):(kas_descPart n nrem p).asks B fun r=>InAll B r.2:=by
 refine KasT.asks_bind (fun r hr=>?_) _ (z61 _ p _ _ h)
 split
 .exact zb1 (InAll.rev hr _ _)
 .exact zb1 hr
theorem zig{nrem:Nat}{p:Array Nat}(h:InAll B p):(kas_count nrem p).asks B fun r=>InAll B r.2:=by
 refine KasT.asks_bind (R:=fun _=>True) (fun n _=>?_) _ (z9x h _ _)
 split
 .exact h
 .split
  .refine⟨h _,h _,fun c=>?_⟩
   cases c with
   |true=>exact h
   |false=>exact z7g (h.rev _ _)
  .exact z7g h
theorem z72{p:Array Nat}{k:Nat}(h:InAll B p):∀f l r,(kas_place p k f l r).asks B fun _=>True
 |0,l,r=>trivial
 |f+1,l,r=>by
  unfold kas_place
  split
  .exact trivial
  .refine⟨h _,h _,fun c=>?_⟩
   cases c with
   |true=>exact z72 h f _ _
   |false=>exact z72 h f _ _
theorem zf6:∀(f:Nat)(p:Array Nat)(k:Nat),InAll B p->(kas_bin f p k).asks B fun r=>InAll B r
 |0,p,k,h=>h
 |f+1,p,k,h=>KasT.asks_bind (R:=fun _=>True) (fun l _=>zf6 f _ _ (h.perm (bubble_perm _ _ _))) _ (z72 h _ _ _)
theorem zd5{n:Nat}(h1:1<=n):(kas_sort n).asks (fun i=>i<n) fun _=>True:=by
 have h0:InAll (fun i=>i<n) (List.toArray (List.range n)):=fun i=>by
  by_cases hi:i<n
  .simp[Array.getD,hi]
  .simp[Array.getD,hi];omega
 refine KasT.asks_bind (fun r hr=>?_) _ (zig h0)
 split
 .have:=zf6 (B:=fun i=>i<n) (n-max r.1 1) r.2 (max r.1 1) hr
  have tr:∀t:KasT (Array Nat),t.asks (fun i=>i<n) (fun r=>InAll (fun i=>i<n) r)->t.asks (fun i=>i<n) fun _=>True:=by
   intro t
   induction t with
   |ret a=>exact fun _=>trivial
   |ask i j k ih=>exact fun z=>⟨z.1,z.2.1,fun b=>ih b (z.2.2 b)⟩
  exact tr _ this
 .exact trivial
end
end PySem.W
end
section
namespace PySem
open PySem.W PySem.Spec PyProof.Rows
noncomputable def zx(a:Int)(b:Str)(c:Int)(d:Str):Bool:=decide (a<c)||(decide (a=c)&&decide (b.cps.toList<d.cps.toList))
noncomputable abbrev z37(u v:Value):Obj:={ cls:=.type "tuple",data:=.seq #[u,v] }
section
variable {prog:Program}{w:World}{A:Around}{E:Value->Shared->Prop}{s:Shared}
theorem zob{x y:Addr}{a c:Int}{t u:Tok}{b d:Str}{t2 u2:Tok}{Q:Bool->Shared->Prop}(hx:s.heap.get? x=some (z37 (.int a t) (.str b t2)))(hy:s.heap.get? y=some (z37 (.int c u) (.str d u2)))
  (h:Q (zx a b c d) s):wpAny (model prog w) A (keyLt' (tuples' true) (.ref x) (.ref y)) Q E s:=by
 refine kat_lt hx rfl hy rfl ?_
 refine kat_cons (wpAny_eqBool_int (kat_go (fun e=>kat_yes ?_) fun e=>kat_no (oneLt_int ?_)))
 .have e:a=c:=eq_of_beq e
  refine kat_cons (wpAny_eqBool_str (kat_go (fun e2=>kat_yes (kat_nil ?_)) fun e2=>kat_no (kat_one _ _ (lt_str ?_))))
  .have e2:b=d:=x0c e2
   have:zx a b c d=decide (2<2):=by
    unfold zx
    subst e e2
    have:¬(b.cps.toList<b.cps.toList):=List.lt_irrefl _
    simp[this]
   rw[this]at h
   exact h
  .have:zx a b c d=decide (b.cps.toList<d.cps.toList):=by
    unfold zx
    subst e
    simp
   rw[this]at h
   exact h
 .have e:a≠c:=fun z=>by rw[z,x2t]at e;cases e
  have:zx a b c d=decide (a<c):=by
   unfold zx
   simp[e]
  rw[this]at h
  exact h
theorem zd6(a b c:Int)(x y z:Str)(h1:zx b y a x=false)(h2:zx c z b y=false):zx c z a x=false:=by
 unfold zx at*
 simp only[Bool.or_eq_false_iff,Bool.and_eq_false_iff,x24]at*
 obtain⟨h1,h1'⟩:=h1
 obtain⟨h2,h2'⟩:=h2
 refine⟨by omega,?_⟩
 by_cases e:c=a
 .right
  have e1:b=a:=by omega
  have e2:c=b:=by omega
  have k1:=h1'.resolve_left (fun n=>n e1)
  have k2:=h2'.resolve_left (fun n=>n e2)
  rw[List.not_lt]at*
  exact List.le_trans k1 k2
 .exact .inl e
theorem zb2(a b:Int)(x y:Str)(h:zx a x b y=true):zx b y a x=false:=by
 unfold zx at*
 simp only[Bool.or_eq_true,x0y,x0s,Bool.or_eq_false_iff,Bool.and_eq_false_iff,x24]at*
 rcases h with h|⟨h,h'⟩
 .exact⟨by omega,.inl (by omega)⟩
 .exact⟨by omega,.inr (List.lt_asymm h')⟩
theorem z83{h₀:Heap}{L kS D:Addr}{m:Str->Option Value}{f:Value}{e1:Nat}{s0:Shared}{news:List (Addr×Obj)}{all:List Value}{kf:Nat->Int}{sf:Nat->Str}{Fin:List Value->Nat->Shared->Prop}
  (turn:∀(n:Nat)(v:Value),all[n]? =some v->∀(h:Heap)(tk:Nat),Fr h₀ L h m->News h₀ L h news->wpAny (model prog w) A (call f [v]) (fun k s'=>∃t t2,z49 { s0 with heap:=h,toks:=tk } (.int (kf n) t) (.str (sf n) t2) k s') (fun _ _=>False) { s0 with heap:=h,toks:=tk })
  (fin:∀(ks:List Value) (e:Nat) (own:List (Addr×Obj)) (h:Heap) (tk:Nat),ks.length=all.length->Fr h₀ L h m->News h₀ L h ((kS,seqObj "list" (List.toArray ks) e)::(D,seqObj "list" #[] e1)::(own++news))->(∀ q∈(D,seqObj "list" #[] e1)::(own++news),q.1≠kS)->(∀ q∈own,q.1≠D)->
   (∀n,n<ks.length->∃p t t2,ks[n]? =some (.ref p)/\(p,z37 (.int (kf n) t) (.str (sf n) t2))∈own)->Fin ks e { s0 with heap:=h,toks:=tk }):
  ∀(r ks:List Value) (e:Nat) (own:List (Addr×Obj)) (h:Heap) (tk:Nat),ks.length+r.length=all.length->(∀ j,r[j]? =all[ks.length+j]?)->Fr h₀ L h m->News h₀ L h ((kS,seqObj "list" (List.toArray ks) e)::(D,seqObj "list" #[] e1)::(own++news))->(∀ q∈(D,seqObj "list" #[] e1)::(own++news),q.1≠kS)->(∀ q∈own,q.1≠D)->
   (∀n,n<ks.length->∃p t t2,ks[n]? =some (.ref p)/\(p,z37 (.int (kf n) t) (.str (sf n) t2))∈own)->KatKeys prog w A h₀ L m kS f Fin r ks e { s0 with heap:=h,toks:=tk }
 |[],ks,e,own,h,tk,hl,hr,F,N,nk,nd,hk=>KatKeys.nil (fin ks e own h tk (by simpa using hl) F N nk nd hk)
 |v::r,ks,e,own,h,tk,hl,hr,F,N,nk,nd,hk=>by
  have hv:all[ks.length]? =some v:=by have:=hr 0;simpa using this.symm
  have N0:News h₀ L h news:=fun q hq=>N q (.tail _ (.tail _ (x03 _ hq)))
  refine KatKeys.cons (x0e (turn ks.length v hv h tk F N0) (fun k s' hq=>?_) fun _ _ z=>z)
  obtain⟨t,t2,p,h',tk',rfl,rfl,keep,hp,ho⟩:=hq
  have hp:h.get? p=none:=hp
  have keep:∀b o,h.get? b=some o->h'.get? b=some o:=keep
  have F':=F.kept keep
  have pL:p≠L:=fun z=>by
   obtain⟨o,es,ep,g,_⟩:=F.ns
   rw[z,g]at hp;cases hp
  have p0:h₀.get? p=none:=by
   cases z:h₀.get? p with
   |none=>rfl
   |some o=>rw[F.keep p o z]at hp;cases hp
  have nN:∀ q∈(kS,seqObj "list" (List.toArray ks) e)::(D,seqObj "list" #[] e1)::(own++news),q.1≠p:=fun q hq z=>by
   have:=(N q hq).1
   rw[z,hp]at this
   cases this
  have pk:p≠kS:=fun z=>nN _ (.head _) z.symm
  have N':News h₀ L h' ((kS,seqObj "list" (List.toArray ks) e)::(D,seqObj "list" #[] e1)::(((p,z37 (.int (kf ks.length) t) (.str (sf ks.length) t2))::own)++news)):=fun q hq=>by
   rcases xk.mp hq with rfl|hq
   .exact N.grown keep _ (.head _)
   .rcases xk.mp hq with rfl|hq
    .exact N.grown keep _ (.tail _ (.head _))
    .rcases x02.mp hq with hq|hq
     .rcases xk.mp hq with rfl|hq
      .exact⟨ho,pL,p0⟩
      .exact N.grown keep _ (.tail _ (.tail _ (x0p _ hq)))
     .exact N.grown keep _ (.tail _ (.tail _ (x03 _ hq)))
  have nk':∀ q∈(D,seqObj "list" #[] e1)::(((p,z37 (.int (kf ks.length) t) (.str (sf ks.length) t2))::own)++news),q.1≠kS:=fun q hq=>by
   rcases xk.mp hq with rfl|hq
   .exact nk _ (.head _)
   .rcases x02.mp hq with hq|hq
    .rcases xk.mp hq with rfl|hq
     .exact pk
     .exact nk _ (.tail _ (x0p _ hq))
    .exact nk _ (.tail _ (x03 _ hq))
  have nd':∀q∈(p,z37 (.int (kf ks.length) t) (.str (sf ks.length) t2))::own,q.1≠D:=fun q hq=>by
   rcases xk.mp hq with rfl|hq
   .exact fun z=>nN _ (.tail _ (.head _)) z.symm
   .exact nd q hq
  refine KatBack.intro F' N' (.head nk') fun h2 c F2 N2=>?_
  refine z83 turn fin r (ks++[.ref p]) c _ h2 tk' (by simp at hl⊢;omega) (fun j=>?_) F2 N2 nk' nd' fun n hn=>?_
  .have:=hr (j+1)
   rw[List.getElem?_cons_succ]at this
   rw[this,xt,x1w]
   congr 1
   omega
  .rw[xt,x1w]at hn
   by_cases e':n<ks.length
   .obtain⟨p',a,b,k1,k2⟩:=hk n e'
    exact⟨p',a,b,by rw[x0u e'];exact k1,.tail _ k2⟩
   .have en:n=ks.length:=by omega
    subst en
    exact⟨p,t,t2,by simp,.head _⟩
end
end PySem
end
section
namespace PySem
open PySem.W PySem.Spec PyProof.Rows
theorem zd7{h:Heap}:∀{ks:List Value},(∀v∈ks,∃p a b t t2,v=.ref p/\h.get? p=some (z37 (.int a t) (.str b t2)))->∃fs,KatTups h ks fs/\fs.length=ks.length/\∀v∈fs,∃a t,v=Value.int a t
 |[],_=>⟨[],KatTups.nil,rfl,fun v hv=>by cases hv⟩
 |k::ks,H=>by
  obtain⟨p,a,b,t,t2,rfl,ho⟩:=H k (.head _)
  obtain⟨fs,r,hl,hf⟩:=zd7 (ks:=ks) fun v hv=>H v (.tail _ hv)
  refine⟨.int a t::fs,KatTups.cons ho rfl rfl rfl r,by simp[hl],fun v hv=>?_⟩
  rcases xk.mp hv with rfl|hv
  .exact⟨a,t,rfl⟩
  .exact hf v hv
section
variable {prog:Program}{w:World}{A:Around}{E:Value->Shared->Prop}{s:Shared}
theorem zf7{h₀:Heap}{L l f:Addr}{m:Str->Option Value}{news:List (Addr×Obj)}{vs:List Value}{kf:Nat->Int}{sf:Nat->Str}{Q:Value->Shared->Prop}(F:Fr h₀ L s.heap m)(N:News h₀ L s.heap news)(hl:s.heap.IsList l vs.toArray)(h2:2<=vs.length)(h64:vs.length<64)
  (turn:∀(n:Nat)(v:Value),vs[n]? =some v->∀(h:Heap)(tk:Nat),Fr h₀ L h m->News h₀ L h news->wpAny (model prog w) A.in1.in1 (call (.ref f) [v]) (fun k s'=>∃t t2,z49 { s with heap:=h,toks:=tk } (.int (kf n) t) (.str (sf n) t2) k s') (fun _ _=>False) { s with heap:=h,toks:=tk })
  (h:∀(D:Addr) (h':Heap) (tk c:Nat) (p:List Nat),p.Perm (List.range vs.length)->p.Pairwise (fun a b=>zx (kf b) (sf b) (kf a) (sf a)=false)->(∀ q∈news,q.1<D)->Fr h₀ L h' m->News h₀ L h' ((D,seqObj "list" (List.toArray (p.map fun i=>vs.getD i Value.none)) c)::news)->Q (.ref D) { s with heap:=h',toks:=tk }):
  wpAny (model prog w) A (call (.builtin "sorted") [.ref l] [(Str.ofString "key",.ref f)]) Q E s:=by
 refine kat_sortedK (b:=false) (f:=.ref f) F N hl h2 h64 (ksk_s1 _ _) (fun x=>ksk_l1 _ _) (fun x=>ksk_t1 f x) fun D kS e1 h' F' N' hDk hlt=>?_
 have nk0:∀ q∈(D,seqObj "list" #[] e1)::([]++news),q.1≠kS:=fun q hq=>by
  rcases xk.mp hq with rfl|hq
  .exact xu hDk
  .exact xu (x1r (hlt q hq) hDk)
 refine z83 (all:=vs) (kf:=kf) (sf:=sf) (D:=D) (e1:=e1) (s0:=s) (news:=news) turn (fun ks e own h1 tk hkl F1 N1 nk nd hk=>?_) vs [] 0 [] h' s.toks (by simp) (fun j=>by simp) F' N' nk0 (fun q hq=>by cases hq) (fun n hn=>by cases hn)
 have obj:∀n,n<ks.length->∃p t t2,ks[n]? =some (.ref p)/\h1.get? p=some (z37 (.int (kf n) t) (.str (sf n) t2)):=fun n hn=>by
  obtain⟨p,t,t2,k1,k2⟩:=hk n hn
  exact⟨p,t,t2,k1,(N1 _ (.tail _ (.tail _ (x0p _ k2)))).1⟩
 obtain⟨fs,tf,lf,hf⟩:=zd7 (h:=h1) (ks:=ks) fun v hv=>by
  obtain⟨n,hn⟩:=List.getElem?_of_mem hv
  obtain⟨p,t,t2,k1,k2⟩:=obj n (xl.mp hn).1
  rw[hn]at k1
  exact⟨p,_,_,t,t2,xq k1,k2⟩
 refine kat_kind (T:=.type "int") tf (by omega) (fun v hv=>?_) (by rfl) ?_
 .obtain⟨a,t,rfl⟩:=hf v hv
  exact Looks.of_pure rfl
 have eR:∀{α:Type}(x:List α),katRev false x=x:=fun x=>rfl
 refine KasT.wp_asks (R:=fun _=>True) (lt:=fun i j=>zx (kf i) (sf i) (kf j) (sf j)) (B:=fun i=>i<vs.length) (I:=fun s'=>s'={ s with heap:=h1,toks:=tk }) (fun i j K' s' hi hj e' hK=>?_) _ _ (zd5 (by omega)) rfl fun s' e'=>?_
 .subst e'
  obtain⟨p,t,t2,k1,k2⟩:=obj i (by omega)
  obtain⟨p',t',t2',k1',k2'⟩:=obj j (by omega)
  show wpAny _ _ (keyLt' (tuples' true) ((katRev false ks).getD i Value.none) ((katRev false ks).getD j Value.none)) _ _ _
  rw[eR,xo,xo,k1,k1']
  exact zob k2 k2' (hK _ rfl)
 .subst e'
  have rs:=zf5 (lt:=fun i j=>zx (kf i) (sf i) (kf j) (sf j)) (fun a b c h1 h2=>zd6 _ _ _ _ _ _ h1 h2) (fun a b h=>zb2 _ _ _ _ h) (n:=vs.length) (by omega)
  generalize(kas_sort vs.length).run (fun i j=>zx (kf i) (sf i) (kf j) (sf j))=p at rs
  obtain⟨asc,perm⟩:=rs
  have psz:p.size=vs.length:=by rw[perm.size_eq];simp
  have nd2:∀q∈own++news,q.1≠D:=fun q hq=>by
   rcases x02.mp hq with hq|hq
   .exact nd q hq
   .exact xu (hlt q hq)
  refine KatFin.intro F1 N1 (.head nk) fun h3 c F3 N3=>KasFin.intro F3 N3 (.tail (x17 hDk) (.head nd2)) fun h4 c4 F4 N4=>?_
  refine h D h4 tk c4 p.toList ?_ ?_ hlt F4 fun q hq=>?_
  .have:=Array.perm_iff_toList_perm.mp perm
   simpa using this
  .rw[x0w]
   intro i j hi hj hij
   have hi':i<p.size:=by simpa using hi
   have hj':j<p.size:=by simpa using hj
   have:=asc i j hij (by omega)
   unfold at' at this
   simpa[Array.getD,hi',hj']using this
  .rcases xk.mp hq with rfl|hq
   .exact N4 _ (.tail _ (.head _))
   .exact N4 _ (.tail _ (.tail _ (x03 _ hq)))
end
end PySem
end
section
namespace PySem
open PySem.W PySem.Spec PyProof.Rows
section
variable {prog:Program}{w:World}{A:Around}{E:Value->Shared->Prop}{s:Shared}
theorem zjz(κ:SortKind)(xs:Array Keyed):arrOf (SortSt.mk' κ xs #[] 7 none)=xs:=by
 first|rfl|simp[arrOf]
theorem zd8(κ:SortKind)(xs:Array Keyed):failedOf (SortSt.mk' κ xs #[] 7 none)=none:=by
 first|rfl|simp[failedOf]
theorem zf8{ks vs:List Value}(hl:ks.length=vs.length):((List.toArray ks).zip vs.toArray).map (·.2)=List.toArray vs:=by
 apply Array.ext'
 simp[List.map_snd_zip,hl]
theorem zh8{h₀:Heap}{L a kS:Addr}{m:Str->Option Value}{ks vs:List Value}{e e1:Nat}{P:PySem.Fin->Shared->Prop}(hl:ks.length=vs.length)(h2:vs.length<2)
  (h:KatFin h₀ L m kS a ks e e1 vs (fun s'=>P (.done (.ret .none)) s') s):wpAny (model prog w) A (ksk_end a false vs.toArray e1 (.ref kS) (List.toArray ks)) P E s:=by
 have hs:vs.toArray.size<2:=by rw[xy];exact h2
 unfold ksk_end
 simp only[hs,if_true,x0g,x32,pure_bind]
 refine x6 ?_
 have go:wpAny (model prog w) A (ksk_tail a false e1 (.ref kS) (SortSt.mk' general' ((List.toArray ks).zip vs.toArray) #[] 7 none)) P E s:=by
  refine kat_tail (out:=vs) ?_ (by omega) (by omega) (zd8 _ _) h
  rw[zjz]
  exact zf8 hl
 exact xh go
theorem zlx{h₀:Heap}{L a kS:Addr}{m:Str->Option Value}{vs:List Value}{f:Value}{e1:Nat}{P:PySem.Fin->Shared->Prop}(hk:s.heap.get? kS=some (seqObj "list" #[] 0))(h2:vs.length<2)
  (h:KatKeys prog w A h₀ L m kS f (fun ks e s'=>KatFin h₀ L m kS a ks e e1 vs (fun s4=>P (.done (.ret .none)) s4) s') vs [] 0 s):wpAny (model prog w) A (ksk_rest a f false vs.toArray e1 (.ref kS)) P E s:=by
 unfold ksk_rest
 refine x6 (wpAny_rule ?_)
 rw[List.forIn_toArray]
 match vs,h2,h with
 |[],h2,h=>
  rw[List.forIn_nil]
  exact x6 (xh (x6 (listItems_at hk rfl (zh8 (ks:=[]) rfl h2 h))))
 |[v],h2,h=>
  rw[List.forIn_cons]
  have h':wpAny (model prog w) A (call f [v]) (KatBack h₀ L m kS [] 0 (fun k c s'=>KatFin h₀ L m kS a [k] c e1 [v] (fun s4=>P (.done (.ret .none)) s4) s')) (fun _ _=>False) s:=h
  refine x6 (x6 (x6 (wpAny_attempt (x0e h' (fun k s1 hb=>?_) fun _ _ z=>z.elim))))
  obtain⟨news',g,F',N',U,c⟩:=hb
  obtain⟨pre,post,e0,hg,x1,x2⟩:=U.split
  rw[e0]at N'
  have nk:=N' (kS,seqObj "list" #[] 0) (x03 _ (.head _))
  have sb:=x0i s1.heap kS (Obj.mapSeq (·.push k))
  obtain⟨c2,hc2⟩:∃ c2,(s1.heap.update kS (Obj.mapSeq (·.push k))).get? kS=some (seqObj "list" #[k] c2):=⟨_,get?_update_seq nk.1 (·.push k)⟩
  dsimp only
  refine x6 (listUpdate_at nk.1 rfl (xh ?_) (x08 _) (by rw[x1v];show 1<=_;decide))
  dsimp only
  rw[List.forIn_nil]
  exact xh (x6 (listItems_at hc2 rfl (zh8 (ks:=[k]) rfl h2 (c _ c2 (kas_fr F' sb nk.2.1 nk.2.2) (by rw[hg];exact news_set N' x1 x2 sb hc2)))))
theorem zly{h₀:Heap}{L a:Addr}{m:Str->Option Value}{news:List (Addr×Obj)}{vs:List Value}{f:Value}{n:Nat}{P:PySem.Fin->Shared->Prop}(F:Fr h₀ L s.heap m)(N:News h₀ L s.heap news)(ho:s.heap.get? a=some (seqObj "list" vs.toArray n))(haL:a≠L)(ha0:h₀.get? a=none)(hna:∀ p∈news,p.1≠a)(h2:vs.length<2)
  (h:∀ kS e1 h',Fr h₀ L h' m->News h₀ L h' ((kS,seqObj "list" #[] 0)::(a,seqObj "list" #[] e1)::news)->a<kS->(∀ q∈news,q.1<kS)->
   KatKeys prog w A h₀ L m kS f (fun ks e s'=>KatFin h₀ L m kS a ks e e1 vs (fun s4=>P (.done (.ret .none)) s4) s') vs [] 0 { s with heap:=h' }):
  wpAny (model prog w) A (ksk_tree a f false) P E s:=by
 have hz:vs.toArray.size<=sizeLine:=by rw[xy,x1v];omega
 have sb:=x0i s.heap a (Obj.mapSeq fun _=>(#[]:Array Value))
 obtain⟨e1,ho1⟩:∃ e1,(s.heap.update a (Obj.mapSeq fun _=>(#[]:Array Value))).get? a=some (seqObj "list" #[] e1):=⟨_,get?_update_seq ho fun _=>#[]⟩
 have F1:=kas_fr F sb haL ha0
 have N1:=kas_news N sb hna
 have sz1:(s.heap.update a (Obj.mapSeq fun _=>(#[]:Array Value))).objs.size=s.heap.objs.size:=Heap.size_update ..
 unfold ksk_tree
 refine x6 (listItems_at ho rfl (x6 (listUpdate_at ho rfl (x6 (seqEpoch_at ho1 rfl (x6 (wpAny_newTuple (x6 (wpAny_newList (x0t ?_) (x08 _))) ?_)))) hz (x08 _))))
 .generalize s.heap.update a (Obj.mapSeq fun _=>(#[]:Array Value))=h1 at ho1 F1 N1 sz1⊢
  have F2:=F1.push (seqObj "tuple" vs.toArray 0)
  have big:s.heap.objs.size<(h1.push (seqObj "tuple" vs.toArray 0)).objs.size:=by rw[size_push',sz1];exact x0q _
  refine zlx (s:={ s with heap:=(h1.push (seqObj "tuple" vs.toArray 0)).push (seqObj "list" #[] 0) }) (xr _ rfl) h2 (h _ e1 _ (F2.push _) (fun p hp=>?_) (x1r (xn ho) big) fun q hq=>x1r (xn (N q hq).1) big)
  rcases xk.mp hp with rfl|hp
  .exact⟨xr _ rfl,x17 F2.ns.lt,x2h (x01 F.above (x20 F2.ns.lt))⟩
  .rcases xk.mp hp with rfl|hp
   .exact⟨x9 _ (x9 _ ho1),haL,ha0⟩
   .exact⟨x9 _ (x9 _ (N1 p hp).1),(N1 p hp).2⟩
 .show vs.length<=_
  rw[x1v];omega
theorem zih{h₀:Heap}{L l f:Addr}{m:Str->Option Value}{news:List (Addr×Obj)}{vs:List Value}{kf:Nat->Int}{sf:Nat->Str}{Q:Value->Shared->Prop}(F:Fr h₀ L s.heap m)(N:News h₀ L s.heap news)(hl:s.heap.IsList l vs.toArray)(h2:vs.length<2)
  (turn:∀(n:Nat)(v:Value),vs[n]? =some v->∀(h:Heap)(tk:Nat),Fr h₀ L h m->News h₀ L h news->wpAny (model prog w) A.in1.in1 (call (.ref f) [v]) (fun k s'=>∃t t2,z49 { s with heap:=h,toks:=tk } (.int (kf n) t) (.str (sf n) t2) k s') (fun _ _=>False) { s with heap:=h,toks:=tk })
  (h:∀(D:Addr) (h':Heap) (tk c:Nat),(∀ q∈news,q.1<D)->Fr h₀ L h' m->News h₀ L h' ((D,seqObj "list" (List.toArray vs) c)::news)->Q (.ref D) { s with heap:=h',toks:=tk }):
  wpAny (model prog w) A (call (.builtin "sorted") [.ref l] [(Str.ofString "key",.ref f)]) Q E s:=by
 refine call_function_entry_kw kind_sorted plain_sorted entry_sorted (ksk_s1 _ _) ?_
 unfold Builtin.«sorted»
 refine x6 (m:=checkCount "sorted" 1 1 _) (xh (x6 (collect_list hl (x6 (wpAny_newList ?_ (by rw[x1v];omega))) (by rw[x1v];omega))))
 dsimp only
 have keep1:∀ b o,s.heap.get? b=some o->((s.heap.push (seqObj "list" #[] 0)).update s.heap.objs.size (Obj.mapSeq fun x=>x++vs.toArray)).get? b=some o:=fun b o e=>by
  rw[Heap.get?_update_ne _ _ _ _ (xu (xn e))]
  exact x9 _ e
 have sz1:s.heap.objs.size<((s.heap.push (seqObj "list" #[] 0)).update s.heap.objs.size (Obj.mapSeq fun x=>x++vs.toArray)).objs.size:=by
  rw[Heap.size_update,size_push'];exact x0q _
 generalize(s.heap.push (seqObj "list" #[] 0)).update s.heap.objs.size (Obj.mapSeq fun x=>x++vs.toArray)=h1 at keep1 sz1⊢
 have keep:∀ b o,s.heap.get? b=some o->(h1.push { cls:=.type "list",data:=.seq vs.toArray }).get? b=some o:=fun b o e=>x9 _ (keep1 b o e)
 have hoL:(h1.push { cls:=.type "list",data:=.seq vs.toArray }).get? h1.objs.size=some (seqObj "list" vs.toArray 0):=xr _ rfl
 have hlt:∀q∈news,q.1<h1.objs.size:=fun q hq=>x1r (xn (N q hq).1) sz1
 refine x6 (x0t (wpAny_call_entry_kw slot_list_sort ⟨_,hoL,rfl⟩ entry_list_sort ?_ (ksk_l1 _ _)))
 show wpAny (model prog w) A.in1.in1 (Builtin.«list.sort» ⟨[.ref h1.objs.size],[(Str.ofString "key",.ref f)]⟩) _ _ _
 rw[ksk_t1]
 refine zly (s:={ s with heap:=h1.push { cls:=.type "list",data:=.seq vs.toArray } }) (F.kept keep) (N.grown keep) hoL (x17 (x1r F.ns.lt sz1)) (x2h (x01 F.above (x20 (x1r F.ns.lt sz1)))) (fun q hq=>xu (hlt q hq)) h2 fun kS e1 h' F' N' hDk _=>?_
 have nk0:∀ q∈(h1.objs.size,seqObj "list" #[] e1)::([]++news),q.1≠kS:=fun q hq=>by
  rcases xk.mp hq with rfl|hq
  .exact xu hDk
  .exact xu (x1r (hlt q hq) hDk)
 refine z83 (all:=vs) (kf:=kf) (sf:=sf) (D:=h1.objs.size) (e1:=e1) (s0:=s) (news:=news) turn (fun ks e own h3 tk hkl F1 N1 nk nd hk=>?_) vs [] 0 [] h' s.toks (by simp) (fun j=>by simp) F' N' nk0 (fun q hq=>by cases hq) (fun n hn=>by cases hn)
 have nd2:∀q∈own++news,q.1≠h1.objs.size:=fun q hq=>by
  rcases x02.mp hq with hq|hq
  .exact nd q hq
  .exact xu (hlt q hq)
 refine KatFin.intro F1 N1 (.head nk) fun h4 c F3 N3=>KasFin.intro F3 N3 (.tail (x17 hDk) (.head nd2)) fun h5 c4 F4 N4=>?_
 refine⟨_,rfl,xh ⟨_,rfl,h h1.objs.size h5 tk c4 hlt F4 fun q hq=>?_⟩⟩
 rcases xk.mp hq with rfl|hq
 .exact N4 _ (.tail _ (.head _))
 .exact N4 _ (.tail _ (.tail _ (x03 _ hq)))
end
end PySem
end
section
namespace PySem
open PySem.W PySem.Spec PyProof.Rows PySem.Calls
section
variable {prog:Program}{w:World}{A:Around}{E:Value->Shared->Prop}{s:Shared}
theorem zgn{v:Value}{Q:Bool->Shared->Prop}(h:Q true s):wpAny (model prog w) A (eqBool v v) Q E s:=by
 unfold eqBool
 refine x0t ?_
 rw[if_pos (x2t v)]
 exact x6 (wpAny_rule (xh h))
theorem zf9{b fin:Bool}{Q:Bool->Shared->Prop}:∀(l:List Value)(i:Nat),Q fin s->KatLex prog w A b fin Q (l.zip l) i s
 |[],_,h=>kat_nil h
 |v::l,i,h=>kat_cons (zgn (kat_yes (zf9 l (i+1) h)))
theorem zoc{x y:Addr}{ox oy:Obj}{xs ys:Array Value}{n k:Nat}{a c:Int}{t u:Tok}{Q:Bool->Shared->Prop}(hx:s.heap.get? x=some ox)(dx:ox.data=.seq xs n)(fx:xs[0]? =some (.int a t))(hy:s.heap.get? y=some oy)(dy:oy.data=.seq ys k)(fy:ys[0]? =some (.int c u))(ne:a≠c)
  (h:Q (decide (a<c)) s):wpAny (model prog w) A (keyLt' (tuples' true) (.ref x) (.ref y)) Q E s:=by
 refine kat_lt hx dx hy dy ?_
 obtain⟨xs⟩:=xs
 obtain⟨ys⟩:=ys
 cases xs with
 |nil=>simp at fx
 |cons p xs=>
 cases ys with
 |nil=>simp at fy
 |cons q ys=>
 simp at fx fy
 subst fx fy
 refine kat_cons (wpAny_eqBool_int (kat_go (fun e=>?_) fun e=>kat_no (oneLt_int h)))
 exact absurd (eq_of_beq e) ne
theorem zlz{x:Addr}{ox:Obj}{xs:Array Value}{n:Nat}{Q:Bool->Shared->Prop}(hx:s.heap.get? x=some ox)(dx:ox.data=.seq xs n)(h:Q false s):wpAny (model prog w) A (keyLt' (tuples' true) (.ref x) (.ref x)) Q E s:=
 kat_lt hx dx hx dx (zf9 _ 0 (by simpa using h))
theorem zm0{a:Addr}{vs:List Value}{n:Nat}{P:PySem.Fin->Shared->Prop}(ho:s.heap.get? a=some (seqObj "list" vs.toArray n))(h2:vs.length<2)(h:P (.done (.ret .none)) { s with heap:=sortedHeap s.heap a vs (List.toArray vs) }):
  wpAny (model prog w) A (Builtin.«list.sort» ⟨[.ref a],[]⟩) P E s:=by
 have hz:vs.toArray.size<2:=by rw[xy];exact h2
 rw[list_sort_plain]
 have ha:a<s.heap.objs.size:=xn ho
 obtain⟨e1,ho1⟩:∃ e1,(s.heap.update a (Obj.mapSeq fun _=>(#[]:Array Value))).get? a=some (seqObj "list" #[] e1):=⟨_,get?_update_seq ho (fun _=>#[])⟩
 have ho6:(((s.heap.update a (Obj.mapSeq fun _=>(#[]:Array Value))).push (seqObj "tuple" vs.toArray 0)).push (seqObj "list" #[] 0)).get? a=some (seqObj "list" #[] e1):=x9 _ (x9 _ ho1)
 refine x6 (listItems_at ho rfl (x6 (listUpdate_at ho rfl (x6 (seqEpoch_at ho1 rfl (x6 (wpAny_newTuple (x6 (wpAny_newList (x0t ?_) (x08 _))) (by show vs.length<=_;rw[x1v];omega))))) (by rw[x1v];omega) (x08 _))))
 dsimp only
 rw[if_pos hz,if_pos hz]
 refine x6 (xh ?_)
 rw[StateT.run_pure]
 refine x6 (xh ?_)
 dsimp only
 have out:(arrOf (SortSt.mk' general' (vs.toArray.zip vs.toArray) #[] 7 none)).map (·.2)=List.toArray vs:=by rw[zjz];exact zf8 rfl
 rw[out]
 refine x6 (seqEpoch_at ho6 rfl (x6 (listUpdate_at ho6 rfl ?_ (x08 _) (by rw[x1v];omega))))
 simp only[x2k,x0g,x32,zd8]
 exact xh h
theorem zm1{es:Array DictEntry}{acc:Array Value}(h:ItemsOf (fun i v=>∃e,es[i]? =some e/\v=e.key) acc es.size):acc.toList=es.toList.map (·.key):=by
 apply x28
 intro i
 rw[xj]
 cases ea:acc.toList[i]? with
 |some v=>
  obtain⟨e,h1,rfl⟩:=h.2 i v (by rw[<-x2e];exact ea)
  rw[x2e,h1];rfl
 |none=>
  have:acc.toList.length<=i:=List.getElem?_eq_none_iff.mp ea
  rw[x0f,h.1]at this
  rw[x1f (by rw[x0f];exact this)];rfl
theorem zh9{h:Heap}{kf:Nat->Int}:∀(vs:List Value) (g:Nat->Int),(∀ i v,vs[i]? =some v->∃ p o xs n t,v=.ref p/\h.get? p=some o/\o.cls=.type "tuple"/\o.data=.seq xs n/\xs[0]? =some (.int (g i) t))->∃ fs,KatTups h vs fs/\fs.length=vs.length/\∀ v∈fs,∃ a t,v=Value.int a t
 |[],_,_=>⟨[],KatTups.nil,rfl,fun v hv=>by cases hv⟩
 |v::vs,g,H=>by
  obtain⟨p,o,xs,n,t,rfl,h1,h2,h3,h4⟩:=H 0 v rfl
  obtain⟨fs,r,hl,hf⟩:=zh9 (kf:=kf) vs (fun i=>g (i+1)) fun i v e=>H (i+1) v (by rw[List.getElem?_cons_succ];exact e)
  refine⟨.int (g 0) t::fs,KatTups.cons h1 h2 h3 h4 r,by simp[hl],fun v hv=>?_⟩
  rcases xk.mp hv with rfl|hv
  .exact⟨_,t,rfl⟩
  .exact hf v hv
theorem zii{h₀:Heap}{L d:Addr}{m:Str->Option Value}{news:List (Addr×Obj)}{es:Array DictEntry}{ep:Nat}{kf:Nat->Int}{Q:Value->Shared->Prop}(F:Fr h₀ L s.heap m)(N:News h₀ L s.heap news)(hm:s.heap.RawAt d es ep)(lo:(d==sysModules)=false)(hh:A.handled=none)(h64:es.size<64)
  (tup:∀ h',Fr h₀ L h' m->News h₀ L h' news->∀ i v,(es.toList.map (·.key))[i]? =some v->∃ p o xs n t,v=.ref p/\h'.get? p=some o/\o.cls=.type "tuple"/\o.data=.seq xs n/\xs[0]? =some (.int (kf i) t))
  (inj:∀i j,i<es.size->j<es.size->kf i=kf j->i=j)
  (h:∀(D:Addr) (h':Heap) (tk c:Nat) (p:List Nat),p.Perm (List.range es.size)->p.Pairwise (fun a b=>kf a<=kf b)->(∀ q∈news,q.1<D)->Fr h₀ L h' m->News h₀ L h' ((D,seqObj "list" (List.toArray (p.map fun i=>(es.toList.map (·.key)).getD i Value.none)) c)::news)->Q (.ref D) { s with heap:=h',toks:=tk }):
  wpAny (model prog w) A (call (.builtin "sorted") [.ref d]) Q E s:=by
 refine Calls.call_function_entry kind_sorted plain_sorted entry_sorted (args_sorted1 _) ?_
 unfold Builtin.«sorted»
 refine x6 (m:=checkCount "sorted" 1 1 _) (xh ?_)
 refine x6 (kdu_collect (zne lo) (by simpa using hh) hm (by rw[x1v];omega) fun h' tk acc hk ii=>?_)
 have ev:=zm1 ii
 have el:(es.toList.map (·.key)).length=es.size:=by rw[x5,x0f]
 rw[ev]
 generalize es.toList.map (·.key)=vs at el tup h⊢
 rw[<-el]at inj h
 refine x6 (wpAny_newList ?_ (by rw[x1v];omega))
 have hS:=xr (h:=h') (o:=seqObj "list" vs.toArray 0) rfl
 have keep:∀ b o,s.heap.get? b=some o->(h'.push (seqObj "list" vs.toArray 0)).get? b=some o:=fun b o e=>x9 _ (hk b o e)
 have F':=F.kept keep
 have N':=N.grown keep
 have hlt:∀q∈news,q.1<h'.objs.size:=fun q hq=>xn (hk _ _ (N q hq).1)
 have lL:L<h'.objs.size:=by
  obtain⟨o,es,ep,g,_⟩:=F.ns
  exact xn (hk _ _ g)
 have a0:h₀.get? h'.objs.size=none:=x2h (x20 (x1l F.above lL))
 have nD:∀q∈news,q.1≠h'.objs.size:=fun q hq=>xu (hlt q hq)
 refine x6 (x0t (x1d slot_list_sort ⟨_,hS,rfl⟩ entry_list_sort ?_ (args_list_sort _)))
 by_cases h2:2<=vs.length
 .refine kat_list_sort (s:={ s with heap:=h'.push (seqObj "list" vs.toArray 0),toks:=tk }) F' N' hS (x17 lL) a0 nD h2 (by omega) fun e1 h1 F1 N1=>?_
  have N1':News h₀ L h1 news:=fun q hq=>N1 q (.tail _ hq)
  obtain⟨fs,tf,lf,hf⟩:=zh9 (h:=h1) (kf:=kf) vs kf (tup h1 F1 N1')
  refine kat_kind (T:=.type "int") tf (by omega) (fun v hv=>?_) (by rfl) ?_
  .obtain⟨a,t,rfl⟩:=hf v hv
   exact Looks.of_pure rfl
  refine KasT.wp_asks (R:=fun _=>True) (lt:=fun i j=>decide (kf i<kf j)) (B:=fun i=>i<vs.length) (I:=fun s'=>s'={ s with heap:=h1,toks:=tk }) (fun i j K' s' hi hj e' hK=>?_) _ _ (zd5 (by omega)) rfl fun s' e'=>?_
  .subst e'
   obtain⟨p,o,xs,n,t,e,g,gc,gd,g0⟩:=tup h1 F1 N1' i _ (x8 hi)
   obtain⟨p2,o2,xs2,n2,t2,e2,g2,gc2,gd2,g02⟩:=tup h1 F1 N1' j _ (x8 hj)
   show wpAny _ _ (keyLt' (tuples' true) (vs.getD i Value.none) (vs.getD j Value.none)) _ _ _
   rw[xo,xo,x8 hi,x8 hj]
   show wpAny _ _ (keyLt' (tuples' true) vs[i] vs[j]) _ _ _
   by_cases ek:kf i=kf j
   .have eij:=inj i j hi hj ek
    subst eij
    have hK:=hK _ rfl
    rw[x0j (by omega)]at hK
    rw[e]
    exact zlz g gd hK
   .rw[e,e2]
    exact zoc g gd g0 g2 gd2 g02 ek (hK _ rfl)
  .subst e'
   have rs:=zf5 (lt:=fun i j=>decide (kf i<kf j)) (fun a b c h1 h2=>by rw[x24]at*;omega) (fun a b h=>by rw[x0s]at h;rw[x24];omega) (n:=vs.length) (by omega)
   generalize(kas_sort vs.length).run (fun i j=>decide (kf i<kf j))=p at rs
   obtain⟨asc,perm⟩:=rs
   have psz:p.size=vs.length:=by rw[perm.size_eq];simp
   refine KasFin.intro F1 N1 (.head nD) fun h4 c4 F4 N4=>⟨_,rfl,xh ⟨_,rfl,h h'.objs.size h4 tk c4 p.toList ?_ ?_ hlt F4 N4⟩⟩
   .have:=Array.perm_iff_toList_perm.mp perm
    simpa using this
   .rw[x0w]
    intro i j hi hj hij
    have hi':i<p.size:=by simpa using hi
    have hj':j<p.size:=by simpa using hj
    have:=asc i j hij (by omega)
    unfold at' at this
    simp[Array.getD,hi',hj']at this
    simpa using this
 .refine zm0 (s:={ s with heap:=h'.push (seqObj "list" vs.toArray 0),toks:=tk }) hS (by omega) ⟨_,rfl,xh ⟨_,rfl,?_⟩⟩
  obtain⟨c,ge⟩:=sortedHeap_at (out:=List.toArray vs) (vs:=vs) hS
  have ko:∀ b o,s.heap.get? b=some o->(sortedHeap (h'.push (seqObj "list" vs.toArray 0)) h'.objs.size vs (List.toArray vs)).get? b=some o:=fun b o q=>by
   have lb:=xn (hk b o q)
   exact(sortedHeap_old (xu lb) (by rw[x14];exact x1g lb)).trans (x9 _ (hk b o q))
  have er:(List.range vs.length).map (fun i=>vs.getD i Value.none)=vs:=by
   match vs,h2 with
   |[],_=>rfl
   |[v],_=>rfl
   |_::_::_,h2=>exact absurd (by simp) h2
  refine h h'.objs.size _ tk c (List.range vs.length) (List.Perm.refl _) ?_ hlt (F.kept ko) fun q hq=>?_
  .match vs,h2 with
   |[],_=>exact List.Pairwise.nil
   |[v],_=>exact List.pairwise_singleton _ _
   |_::_::_,h2=>exact absurd (by simp) h2
  .rcases xk.mp hq with rfl|hq
   .rw[er]
    exact⟨ge,x17 lL,a0⟩
   .exact N.grown ko q hq
end
end PySem
end
section
namespace L2
open PySem PySem.W PySem.Spec PyProof.Rows
theorem ObjOk.there{P:Program}{w:World}{H:Hp}{h:Heap}{a:Addr}{o:HO}(x:ObjOk P w H h a o):∃u,h.get? a=some u:=by
 cases o with
 |lst xs=>obtain⟨_,_,_,_,e⟩:=x;exact⟨_,e⟩
 |tup xs=>obtain⟨_,_,_,u,e,_⟩:=x;exact⟨u,e⟩
 |dK kvs=>obtain⟨_,_,_,_,o,_,_,e,_⟩:=x;exact⟨_,e⟩
 |dT kvs=>obtain⟨_,_,_,_,o,_,_,e,_⟩:=x;exact⟨_,e⟩
 |set S n=>obtain⟨o,_,_,_,e,_⟩:=x;exact⟨_,e⟩
 |ins C dx fs=>obtain⟨_,_,_,e,_⟩:=x;exact⟨_,e⟩
 |own y=>obtain⟨_,e⟩:=x;exact⟨_,e⟩
 |xd fs=>obtain⟨_,⟨_,_,_,e,_⟩,_⟩:=x;exact⟨_,e⟩
 |rng lo hi=>obtain⟨_,_,_,e⟩:=x;exact⟨_,e⟩
 |frz ob u=>obtain⟨e,_⟩:=x;exact⟨_,e⟩
 |tbl ps=>exact⟨_,(show h.get? a=some _ from x)⟩
 |met f y=>exact⟨_,(show h.get? a=some _ from x)⟩
 |ext φ=>exact x.2.1
theorem HOk.gone{P:Program}{w:World}{H:Hp}{h:Heap}{a:Addr}(x:HOk P w H h)(e:h.get? a=none):H a=none:=by
 cases q:H a with
 |none=>rfl
 |some u=>
  obtain⟨o,ho⟩:=(x a u q).there
  rw[e]at ho;cases ho
section
variable {X:Cx}{pins:List (Addr×Obj)}{σ:St}{H:Hp}{s:Shared}
theorem Inv.walkedL{m:Str->Option Value}{h':Heap}{t':Nat}{D:Addr}{o:HO}(I:Inv X pins σ H s)(hn:s.heap.Ns X.env.locals m)(hn':h'.Ns X.env.locals m)(k:∀b o,b≠X.env.locals->s.heap.get? b=some o->h'.get? b=some o)
  (hD:s.heap.get? D=none) (new:ObjOk X.prog X.w (upd H D o) h' D o):Inv X pins σ (upd H D o) { s with heap:=h',toks:=t' }:=by
 have hf:=I.free
 have h0:H D=none:=HOk.gone I.hok hD
 have nD:∀b o,s.heap.get? b=some o->b≠D:=fun b o e z=>by rw[z,hD]at e;cases e
 refine I.step (g':=s.gens) (d':=s.drawn) (ch:=[]) (fun _ z=>nomatch z) (fun b o nb _ _ e _=>k b o nb e) (fun b o nb _ _ e _=>⟨o.slots,k b o nb e⟩) (fun b o _ e n=>by rw[zc (nD b o e)];exact n) (fun b o _ e=>?_) (fun b _ e=>by rw[zc (zh e h0)];exact e) (fun b _ _ e=>by rw[zc (zh e h0)];exact e) (fun b ps e=>⟨#[],by rw[zc (zh e h0),e];simp⟩) (fun m' hm=>?_) (fun b u e=>?_) I.bare
 .by_cases z:b=X.env.locals
  .obtain⟨o',es,ep,ho,_⟩:=hn'
   exact⟨o',z▸ho⟩
  .exact⟨o,k b o z e⟩
 .rw[hm.eq_nsMap,<-hn.eq_nsMap]
  exact hn'
 .by_cases z:b=D
  .subst z
   rw[z9]at e
   cases e
   exact new
  .rw[zc z]at e
   refine(I.hok b u e).stay (fun c v hc q=>k c v ?_ q) (fun c q=>by rw[zc (zh q h0)];exact q) fun c _ q=>by rw[zc (zh q h0)];exact q
   rintro rfl
   rcases hc with hc|hc
   .rw[<-hc,hf]at e;cases e
   .rw[hf]at hc;cases hc
end
end L2
end
section
namespace L2
open PySem PySem.W PySem.Spec PyProof.Rows
theorem z9y{f:Nat->V}{g:Nat->Value}:∀{p:List Nat},(∀n∈p,∃a,f n=.ref a/\g n=.ref a)->Vals (p.map f) (p.map g)
 |[],_=>.nil
 |n::p,h=>by
  obtain⟨a,e1,e2⟩:=h n (.head _)
  rw[x0a,x0a,e1,e2]
  exact .cons rfl (z9y fun k hk=>h k (.tail _ hk))
section
variable {X:Cx}{pins:List (Addr×Obj)}{σ:St}{H:Hp}{s:Shared}
noncomputable def z9z(K:PySem.W.Frag)(Pt:Addr)(pos:Pos)(qual:Str)(i j:Nat)(te:TA):TE:=fun σ H Q=>te σ H fun xs H1=>∃(l:Addr)(L:List (Addr×List V))(kf:Nat->Int)(sf:Nat->Str),xs=[.ref l]/\SqL K H1 l (L.map fun q=>V.ref q.1)/\L.length<64/\TbOk H1 Pt pos qual/\
 (∀(n:Nat)(q:Addr×List V),L[n]? =some q->H1 q.1=some (.tup q.2)/\q.2[i]? =some (V.int (kf n))/\q.2[j]? =some (V.str (sf n)))/\
 ∀(H2:Hp)(r:Addr)(p:List Nat),But1 Pt H1 H2->TbOk H2 Pt pos qual->H2 r=none->p.Perm (List.range L.length)->p.Pairwise (fun a b=>zx (kf b) (sf b) (kf a) (sf a)=false)->
  Q (.ref r) (upd H2 r (.lst (p.map fun n=>((L[n]?).map fun q=>V.ref q.1).getD .non)))
theorem z84{e:Expr}{ta:TA}{c Pt:Addr}{x:Str}{i j:Nat}{params:Arguments}{scope:Scope}{kk k2 x1:Nat}{p pos kp lp p1 p2 p3 p4 p5 p6 p7:Pos}(hr:Room 2 X.A)(hc:X.calm=true)(hg:Gl X "sorted")(hm:X.mg "sorted"=none)(ha:PA X [e] ta)
  (hcode:X.env.code=.ref c) (hC:codeHdIn X.K c Pt=true) (BA:X.base.BuiltinsAt X.mg Pt) (hdef:defaultsOf params X.env=([],[])) (hcl:closureFor scope X.env=pure []) (LX:LamX x params scope)
  (he:backTo pos (starEach [e] X.env)=(false,eval e X.env)::backTo pos (starEach [] X.env):=by rfl) (hpl:(backTo pos (starEach [e] X.env)).any (·.1)=false:=by rfl):
  PE X (.Call (.Name "sorted" p) [e] [⟨some (Str.ofString "key"),.Lambda params (.Tuple [.Subscript (.Name x p1) (.Constant (.int (i:Int)) kk p2) p3,.Subscript (.Name x p4) (.Constant (.int (j:Int)) k2 p5) p6] x1 p7) scope lp,kp⟩] pos) (z9z X.K Pt lp (X.env.qual++ "<lambda>") i j ta):=by
 intro pins s σ H Q I h
 refine x22 (z57 I hg hm boot_sorted ?_)
 refine callWith_kw (thn (ha pos pins s σ H _ I h) fun us s1 ⟨vs,H1,I1,r1,q1⟩=>?_) he hpl (by rfl) (by rfl)
 obtain⟨l,L,kf,sf,e1,hl,h64,hT,hL,q⟩:=q1
 subst e1
 obtain⟨u,rfl,ru⟩:=z2o r1
 cases ru
 refine kws_cons (zf3 I1 hcode hC BA hT hdef hcl fun f c' ctv pm H2 s2 I2 hf hcd hT2 hB hf0=>kws_nil ?_)
 show wpAny _ _ (call (.builtin "sorted") [.ref l] [(Str.ofString "key",.ref f)]) _ _ _
 have hP0:∃ps,H1 Pt=some (.tbl ps):=hT.some
 have hl2:SqL X.K H2 l (L.map fun q=>V.ref q.1):=by
  rcases hl with(z|⟨o,z⟩)|z
  .exact .inl (.inl (hB _ _ z fun y=>by obtain⟨ps,hp⟩:=hP0;rw[y,hp]at z;cases z))
  .exact .inl (.inr ⟨o,hB _ _ z fun y=>by obtain⟨ps,hp⟩:=hP0;rw[y,hp]at z;cases z⟩)
  .exact .inr z
 obtain⟨its,rv,pl,hz⟩:=I2.list hl2
 have hlen:L.length=its.length:=by have:=rv.length;rwa[x5]at this
 obtain⟨m,hn,_⟩:=id I2.loc
 have F:Fr X.base X.env.locals s2.heap m:=⟨hn,I2.bk,x01 I2.ok.bsz I2.ok.above⟩
 have N:News X.base X.env.locals s2.heap (z32 X.base s2.heap X.env.locals):=ze9
 obtain⟨oL,esL,epL,hoL,hdL,_⟩:=id hn
 have notL:∀(b:Addr)(o:Obj),s2.heap.get? b=some o->(∀es ep,o.data≠.dict es ep)->b≠X.env.locals:=fun b o e hd z=>by
  rw[z,hoL]at e;cases e;exact hd _ _ hdL
 have nfL:f≠X.env.locals:=notL f _ hf fun es ep z=>by cases z
 have tupAt:∀(n:Nat)(v:Value),its[n]? =some v->∃q,L[n]? =some q/\v=Value.ref q.1:=fun n v hv=>by
  have hj:n<L.length:=by rw[hlen];exact(xl.mp hv).1
  have g1:(L.map fun q=>V.ref q.1)[n]? =some (V.ref (L[n]).1):=by rw[xj,x8 hj];rfl
  obtain⟨w',q1,q2⟩:=rv.get g1
  rw[hv]at q1;cases q1
  exact⟨L[n],x8 hj,q2⟩
 have turn:∀(n:Nat)(v:Value),its[n]? =some v->∀(h:Heap)(tk:Nat),Fr X.base X.env.locals h m->News X.base X.env.locals h (z32 X.base s2.heap X.env.locals)->wpAny (model X.prog X.w) X.A.in1.in1 (call (.ref f) [v]) (fun k s'=>∃t t2,z49 { s2 with heap:=h,toks:=tk } (.int (kf n) t) (.str (sf n) t2) k s') (fun _ _=>False) { s2 with heap:=h,toks:=tk }:=by
  intro n v hv hh tk F' N'
  obtain⟨y,hy,rfl⟩:=tupAt n v hv
  obtain⟨ht,hi,hj⟩:=hL n y hy
  have ht2:H2 y.1=some (.tup y.2):=hB _ _ ht fun z=>by obtain⟨ps,hp⟩:=hP0;rw[z,hp]at ht;cases ht
  obtain⟨zt,tits,rt,hTup⟩:=I2.hok y.1 _ ht2
  obtain⟨u1,hu1,t1,rfl⟩:=rt.get hi
  obtain⟨u2,hu2,t2,rfl⟩:=rt.get hj
  have kA:=z70 I2.bk F' (own:=[]) (by rw[x1o];exact N')
  have tup':IsTup hh y.1 tits.toArray:=by
   obtain⟨o,e,hcT,n,hdT⟩:=hTup
   exact⟨o,kA _ _ (notL _ o e fun es ep z=>by rw[hdT]at z;cases z) e,hcT,n,hdT⟩
  have cd':hh.CodeRec (.ref c') (X.env.qual++ "<lambda>"):=by
   obtain⟨cc,o,vs,t,ec,g,hd,hv⟩:=hcd
   exact⟨cc,o,vs,t,ec,kA _ _ (notL _ o g fun es ep z=>by rw[hd]at z;cases z) g,hd,hv⟩
  have hsz:tits.toArray.size<2 ^ 62:=by
   have:=rt.length
   rw[xy,<-this]
   have h3:y.2.length<=sizeLine:=zt
   exact x1l h3 (by decide)
  exact x0e (zlw (A:=X.A.in1.in1) (s:={ s2 with heap:=hh,toks:=tk }) LX (hr.in1.in1).depth (kA _ _ nfL hf) cd' (I2.ok.mod.nolimit.keeps F'.keep) tup' (u1:=.int (kf n) t1) (u2:=.str (sf n) t2) (by simpa using hu1) (by simpa using hu2) hsz) (fun v' s' hq=>⟨t1,t2,hq⟩) fun _ _ z=>z
 have fin:∀(D:Addr) (h':Heap) (tk c:Nat) (p:List Nat),p.Perm (List.range its.length)->p.Pairwise (fun a b=>zx (kf b) (sf b) (kf a) (sf a)=false)->(∀ q∈z32 X.base s2.heap X.env.locals,q.1<D)->Fr X.base X.env.locals h' m->News X.base X.env.locals h' ((D,seqObj "list" (List.toArray (p.map fun i=>its.getD i Value.none)) c)::z32 X.base s2.heap X.env.locals)->
   ∃H',Inv X pins σ H' { s2 with heap:=h',toks:=tk }/\Q (.ref D) H':=by
  intro D h' tk c p hp hs hlt F' N'
  have fresh:s2.heap.get? D=none:=by
   cases eo:s2.heap.get? D with
   |none=>rfl
   |some o=>exact absurd (hlt _ (z66 (N' _ (.head _)).2.1 (N' _ (.head _)).2.2 eo)) (x0o _)
  have pl':p.length=its.length:=by rw[hp.length_eq,x1h]
  refine⟨upd H2 D (.lst (p.map fun n=>((L[n]?).map fun q=>V.ref q.1).getD .non)),I2.walkedL hn F'.ns (z70 I2.bk F' (own:=[]) (by rw[x1o];exact fun q hq=>N' q (.tail _ hq))) fresh ⟨?_,p.map fun i=>its.getD i Value.none,c,z9y fun n hnp=>?_,(N' _ (.head _)).1⟩,q H2 D p hB hT2 (HOk.gone I2.hok fresh) (hlen▸hp) hs⟩
  .rw[x5,pl']
   exact x01 (x20 (by omega:its.length<64)) (by decide)
  .have hni:n<its.length:=by have:=(hp.mem_iff (a:=n)).mp hnp;rwa[x0l]at this
   obtain⟨y,hy,ey⟩:=tupAt n its[n] (x8 hni)
   refine⟨y.1,by rw[hy];rfl,?_⟩
   rw[xo,x8 hni]
   exact ey
 by_cases h2:2<=its.length
 .refine zf7 F N pl.isList h2 (by omega) turn fun D h' tk c p hp hs hlt F' N'=>?_
  obtain⟨H',I',q'⟩:=fin D h' tk c p hp hs hlt F' N'
  exact⟨.ref D,H',I',rfl,q'⟩
 .refine zih (kf:=kf) (sf:=sf) F N pl.isList (by omega) turn fun D h' tk c hlt F' N'=>?_
  have er:(List.range its.length).map (fun i=>its.getD i Value.none)=its:=by
   match its,h2 with
   |[],_=>rfl
   |[v],_=>rfl
   |_::_::_,h2=>exact absurd (by simp) h2
  have ep:(List.range its.length).Pairwise (fun a b=>zx (kf b) (sf b) (kf a) (sf a)=false):=by
   match its,h2 with
   |[],_=>exact List.Pairwise.nil
   |[v],_=>exact List.pairwise_singleton _ _
   |_::_::_,h2=>exact absurd (by simp) h2
  obtain⟨H',I',q'⟩:=fin D h' tk c (List.range its.length) (List.Perm.refl _) ep hlt F' (by rw[er];exact N')
  exact⟨.ref D,H',I',rfl,q'⟩
end
end L2
end
section
namespace L2
open PySem PySem.W PySem.Spec PyProof.Rows
section
variable {X:Cx}
theorem zfa(hc:X.calm=true):CallR X (.builtin "sorted") (fun xs H Q=>∃(a:Addr) (ks:BT) (kf:Nat->Int),xs=[.ref a]/\H a=some (dtb X.prog X.w a ks)/\ks.length<64/\(∀ i z,ks[i]? =some z->∃ vs,H z.2.1=some (.tup (.int (kf i)::vs)))/\(∀ i j,i<ks.length->j<ks.length->kf i=kf j->i=j)/\
  ∀(r:Addr)(p:List Nat),H r=none->p.Perm (List.range ks.length)->p.Pairwise (fun a b=>kf a<=kf b)->Q (.ref r) (upd H r (.lst (p.map fun n=>((ks[n]?).map fun z=>V.ref z.2.1).getD .non)))):=by
 intro pins s σ H xs us Q I r h
 obtain⟨a,ks,kf,rfl,ha,h64,ht,inj,q⟩:=h
 obtain⟨u,rfl,ru⟩:=z2o r
 cases ru
 obtain⟨⟨z,hd,o,es,ep,ho,hx,h3,h4,h5⟩,-,-⟩:=(show ObjOk X.prog X.w H s.heap a (dtb X.prog X.w a ks) from I.hok a _ ha)
 have hk:es.toList.map (·.key)=ks.map fun z=>Value.ref z.2.1:=by
  rw[h4,x0x]
  exact x2o fun z _=>rfl
 have esz:es.size=ks.length:=by rw[<-x0f,h4,x5]
 obtain⟨m,hn,_⟩:=id I.loc
 have F:Fr X.base X.env.locals s.heap m:=⟨hn,I.bk,x01 I.ok.bsz I.ok.above⟩
 have N:News X.base X.env.locals s.heap (z32 X.base s.heap X.env.locals):=ze9
 obtain⟨oL,esL,epL,hoL,hdL,_⟩:=id hn
 have notL:∀(b:Addr)(o:Obj),s.heap.get? b=some o->(∀es ep,o.data≠.dict es ep)->b≠X.env.locals:=fun b o e hd z=>by
  rw[z,hoL]at e;cases e;exact hd _ _ hdL
 refine zii (kf:=kf) F N ⟨o,ho,hx,h3⟩ hd (I.ok.hd hc) (by omega) (fun h' F' N' i v hv=>?_) (by rw[esz];exact inj) fun D h' tk c p hp hs hlt F' N'=>?_
 .rw[hk,xj]at hv
  obtain⟨z,hz,rfl⟩:=x0b.mp hv
  obtain⟨vs,e⟩:=ht i z hz
  obtain⟨zt,tits,rt,o',e',hcT,n,hdT⟩:=I.hok z.2.1 _ e
  obtain⟨u,hu,t,rfl⟩:=rt.get (i:=0) rfl
  have kA:=z70 I.bk F' (own:=[]) (by rw[x1o];exact N')
  exact⟨_,o',tits.toArray,n,t,rfl,kA _ _ (notL _ o' e' fun es ep z=>by rw[hdT]at z;cases z) e',hcT,hdT,by simpa using hu⟩
 .have fresh:s.heap.get? D=none:=by
   cases eo:s.heap.get? D with
   |none=>rfl
   |some o=>exact absurd (hlt _ (z66 (N' _ (.head _)).2.1 (N' _ (.head _)).2.2 eo)) (x0o _)
  rw[esz]at hp
  refine⟨.ref D,upd H D (.lst (p.map fun n=>((ks[n]?).map fun z=>V.ref z.2.1).getD .non)),I.walkedL hn F'.ns (z70 I.bk F' (own:=[]) (by rw[x1o];exact fun q hq=>N' q (.tail _ hq))) fresh ⟨?_,p.map fun i=>(es.toList.map (·.key)).getD i Value.none,c,z9y fun n hnp=>?_,(N' _ (.head _)).1⟩,rfl,q D p (HOk.gone I.hok fresh) hp hs⟩
  .rw[x5,hp.length_eq,x1h]
   exact x01 (x20 h64) (by decide)
  .have hni:n<ks.length:=by have:=(hp.mem_iff (a:=n)).mp hnp;rwa[x0l]at this
   refine⟨ks[n].2.1,by rw[x8 hni];rfl,?_⟩
   rw[hk,xo,xj,x8 hni]
   rfl
theorem zb3{P:Program}{w:World}{o i:Expr}{pos:Pos}{td ty:TE}(hu:X.A.units+1<cLine)(ho:PE X o td)(hi:PE X i ty)(hs:NoSl i)(hP:X.prog=P:=by rfl)(hw:X.w=w:=by rfl):PE X (.Subscript o i pos) (zb0 P w td ty):=by
 subst hP hw
 exact zlr hu ho hi hs
end
end L2
end
section
namespace PySem
open SetTable
noncomputable def Rise(t:SetTable):Prop:=t.place.toList.Pairwise (·<·)/\t.dummies= #[]
theorem za0{xs:Array Nat}{j:Nat}(hr:xs.toList.Pairwise (·<·)):∀(fuel lo hi:Nat),lo<=hi->hi<=xs.size->hi-lo<=fuel->(∀k,k<lo->xs.getD k j<j)->(∀k,hi<=k->k<xs.size->j<=xs.getD k j)->
  below.go xs j fuel lo hi<=xs.size/\(∀k,k<below.go xs j fuel lo hi->xs.getD k j<j)/\∀k,below.go xs j fuel lo hi<=k->k<xs.size->j<=xs.getD k j
 |0,lo,hi,h1,h2,h3,h4,h5=>⟨by show lo<=_;omega,h4,fun k hk hs=>h5 k (by have:lo<=k:=hk;omega) hs⟩
 |fuel+1,lo,hi,h1,h2,h3,h4,h5=>by
  have up:∀a b,a<b->b<xs.size->xs.getD a j<xs.getD b j:=fun a b hab hb=>by
   have:=x0w.mp hr a b (by simpa using(by omega:a<xs.size)) (by simpa using hb) hab
   simpa[Array.getD,hb,(by omega:a<xs.size)]using this
  unfold below.go
  by_cases c:lo<hi
  .rw[if_pos c]
   dsimp only
   by_cases d:xs.getD ((lo+hi)/2) j<j
   .rw[if_pos d]
    refine za0 hr fuel _ hi (by omega) h2 (by omega) (fun k hk=>?_) h5
    by_cases e:k=(lo+hi)/2
    .rw[e];exact d
    .have:=up k ((lo+hi)/2) (by omega) (by omega)
     omega
   .rw[if_neg d]
    refine za0 hr fuel lo _ (by omega) (by omega) (by omega) h4 (fun k hk hs=>?_)
    by_cases e:k=(lo+hi)/2
    .rw[e];omega
    .have:=up ((lo+hi)/2) k (by omega) hs
     omega
  .rw[if_neg c]
   exact⟨by omega,h4,fun k hk hs=>h5 k (by omega) hs⟩
theorem z73{xs:Array Nat}(j:Nat)(hr:xs.toList.Pairwise (·<·)):below xs j<=xs.size/\(∀k,k<below xs j->xs.getD k j<j)/\∀k,below xs j<=k->k<xs.size->j<=xs.getD k j:=
 za0 hr _ 0 _ (x08 _) (xi _) (by omega) (fun k hk=>by omega) fun k hk hs=>by omega
theorem Rise.up{t:SetTable}(h:Rise t){a b:Nat}(hab:a<b)(hb:b<t.place.size)(d:Nat):t.place.getD a d<t.place.getD b d:=by
 have:=x0w.mp h.1 a b (by simpa using(by omega:a<t.place.size)) (by simpa using hb) hab
 simpa[Array.getD,hb,(by omega:a<t.place.size)]using this
theorem Rise.free{t:SetTable}(h:Rise t){j:Nat}(e:t.slot j=.empty):j∉t.place.toList:=fun hm=>by
 obtain⟨b1,b2,b3⟩:=z73 j h.1
 obtain⟨k,hk,ek⟩:=x0m hm
 have hk':k<t.place.size:=by simpa using hk
 have gk:t.place.getD k j=j:=by simpa[Array.getD,hk']using ek
 have k1:below t.place j<=k:=Nat.le_of_not_lt fun z=>by have:=b2 k z;omega
 have e2:below t.place j=k:=by
  by_cases z:below t.place j<k
  .have:=b3 (below t.place j) (xi _) (by omega)
   have:=h.up z hk' j
   omega
  .omega
 unfold SetTable.slot at e
 dsimp only at e
 rw[e2,x0v hk']at e
 have:t.place[k]=j:=by simpa using ek
 rw[this]at e
 simp at e
theorem zfb(j:Nat):has #[] j=false:=by unfold has;simp
theorem zb4{t:SetTable}(h:Rise t){f:Nat->Int}{hh:Int}:∀(fuel:Nat)(p:Probe),p.dummy=none->∀j d,probe.go t f hh fuel p=some (.empty j d)->t.slot j=.empty/\d=none
 |0,p,hp,j,d,e=>by unfold probe.go at e;cases e
 |fuel+1,p,hp,j,d,e=>by
  unfold probe.go at e
  have ad:∀q:Probe,(t.advance q).dummy=q.dummy:=fun q=>by unfold SetTable.advance;split<;>rfl
  cases es:t.slot p.j with
  |empty=>
   rw[es]at e
   dsimp only at e
   cases e
   exact⟨es,hp⟩
  |dummy=>
   exfalso
   unfold SetTable.slot at es
   dsimp only at es
   rw[h.2,zfb]at es
   split at es<;>simp at es
  |live i=>
   rw[es]at e
   dsimp only at e
   split at e
   .cases e
   .exact zb4 h fuel _ (by rw[ad];exact hp) j d e
theorem Rise.put{t:SetTable}(h:Rise t){j:Nat}(hj:j∉t.place.toList):Rise (t.put j).1:=by
 obtain⟨b1,b2,b3⟩:=z73 j h.1
 refine⟨?_,?_⟩
 .show(insertAt t.place (below t.place j) j).toList.Pairwise (·<·)
  have e:(insertAt t.place (below t.place j) j).toList=t.place.toList.take (below t.place j)++([j]++t.place.toList.drop (below t.place j)):=by
   unfold insertAt
   simp
   exact x0d (by simp)
  rw[e]
  have hp:=h.1
  rw[<-x2f (below t.place j) t.place.toList]at hp
  obtain⟨p1,p2,p3⟩:=List.pairwise_append.mp hp
  have lo:∀a∈t.place.toList.take (below t.place j),a<j:=fun a ha=>by
   obtain⟨k,hk,ek⟩:=x0m ha
   rw[x07]at hk
   have hk':k<t.place.size:=by have:=Nat.min_le_right (below t.place j) t.place.toList.length;simp at this;simp at hk;omega
   have:=b2 k (by omega)
   rw[List.getElem_take]at ek
   have e2:t.place.getD k j=a:=by simpa[Array.getD,hk']using ek
   omega
  have hi:∀b∈t.place.toList.drop (below t.place j),j<b:=fun b hb=>by
   have hb':=List.mem_of_mem_drop hb
   obtain⟨k,hk,ek⟩:=x0m hb
   rw[List.length_drop]at hk
   rw[List.getElem_drop]at ek
   have hk':below t.place j+k<t.place.size:=by simp at hk;omega
   have:=b3 (below t.place j+k) (by omega) hk'
   have e2:t.place.getD (below t.place j+k) j=b:=by simpa[Array.getD,hk']using ek
   have ne:b≠j:=fun z=>hj (z▸hb')
   omega
  refine List.pairwise_append.mpr ⟨p1,List.pairwise_append.mpr ⟨List.pairwise_singleton _ _,p2,fun a ha b hb=>?_⟩,fun a ha b hb=>?_⟩
  .rw[xg.mp ha];exact hi b hb
  .rcases x02.mp hb with hb|hb
   .rw[xg.mp hb];exact lo a ha
   .exact p3 a ha b hb
 .show(if has t.dummies j=true then _ else t.dummies)= #[]
  rw[h.2,zfb,if_neg xm]
theorem Rise.standIn(t:SetTable)(n:Nat):Rise (t.standIn n):=⟨by show(Array.range n).toList.Pairwise _;rw[Array.toList_range];exact List.pairwise_lt_range,rfl⟩
theorem Rise.orStandIn{t:SetTable}(h:Rise t)(n:Nat):Rise (t.orStandIn n):=by
 unfold SetTable.orStandIn
 split
 .exact h
 .exact Rise.standIn t n
theorem Rise.layNew{t:SetTable}(h:Rise t)(es:Array (Int×Value))(hh:Int)(x:Value):Rise (layNew t es hh x).2.1:=by
 unfold PySem.layNew
 cases e:t.freeSlot hh with
 |none=>exact Rise.standIn t _
 |some r=>
  obtain⟨sl,wd⟩:=r
  refine Rise.orStandIn (h.put ?_) _
  unfold SetTable.freeSlot at e
  split at e
  .rename_i j d ep
   obtain⟨f1,rfl⟩:=zb4 h _ _ rfl j d ep
   simp at e
   rw[<-e.1]
   exact h.free f1
  .cases e
theorem Rise.laid{mask finger moves:Nat}{led plain:Bool}{hs:Array Int}{r:SetTable×Array Nat}(e:SetTable.laid mask finger moves led plain hs=some r):Rise r.1:=by
 unfold SetTable.laid at e
 simp only[Option.bind_eq_bind,Option.bind_eq_some_iff,x26,Option.pure_def]at e
 obtain⟨o,_,rfl⟩:=e
 refine⟨?_,rfl⟩
 dsimp only
 rw[x2a]
 refine List.Pairwise.filterMap (fun j=>(o.getD j none).map (j,·)) (R:=fun a b:Nat=>a<b) (fun a a' haa b hb b' hb'=>?_) List.pairwise_lt_range
 simp only[Option.mem_def,x0b]at hb hb'
 obtain⟨_,_,rfl⟩:=hb
 obtain⟨_,_,rfl⟩:=hb'
 exact haa
theorem Rise.relayAll(t:SetTable)(es:Array (Int×Value))(n:Nat):Rise (relayAll t es n).2.1:=by
 unfold PySem.relayAll
 split
 .rename_i e
  dsimp only
  split
  .unfold SetTable.relaid at e
   exact Rise.laid e
  .exact Rise.standIn _ _
 .exact Rise.standIn _ _
noncomputable def z1z(t:SetTable)(i:Nat):Nat:=if i=0 then 0 else t.place.getD (i-1) 0+1
theorem z85{t:SetTable}(h:Rise t){i:Nat}(hi:i<=t.place.size):below t.place (z1z t i)=i:=by
 obtain⟨b1,b2,b3⟩:=z73 (z1z t i) h.1
 have gd:∀k d d',k<t.place.size->t.place.getD k d=t.place.getD k d':=fun k d d' hk=>by simp[Array.getD,hk]
 have hlt:∀k,k<i->t.place.getD k (z1z t i)<z1z t i:=fun k hk=>by
  unfold z1z
  rw[if_neg (by omega),gd k _ 0 (by omega)]
  by_cases e:k=i-1
  .rw[e];omega
  .have:=h.up (a:=k) (b:=i-1) (by omega) (by omega) 0
   omega
 have hge:∀k,i<=k->k<t.place.size->z1z t i<=t.place.getD k (z1z t i):=fun k hk hs=>by
  rw[gd k _ 0 hs]
  unfold z1z
  by_cases e:i=0
  .rw[if_pos e];omega
  .rw[if_neg e]
   have:=h.up (a:=i-1) (b:=k) (by omega) hs 0
   omega
 apply Nat.le_antisymm
 .refine Nat.le_of_not_lt fun z=>?_
  have:=b2 i z
  have:=hge i (xi _) (by omega)
  omega
 .refine Nat.le_of_not_lt fun z=>?_
  have:=b3 (below t.place (z1z t i)) (xi _) (by omega)
  have:=hlt (below t.place (z1z t i)) z
  omega
end PySem
end
section
namespace PySem
section
variable {κ:Type}[DecidableEq κ]
noncomputable def z1s(D:List κ)(v:κ):List κ:=if v∈D then D else D++[v]
noncomputable def gAll(ss:List κ):List κ:=ss.foldl z1s []
theorem zd9(D:List κ)(v k:κ):k∈z1s D v↔k∈D\/k=v:=by
 unfold z1s;split
 .rename_i h
  exact⟨.inl,fun o=>o.elim id fun e=>e▸h⟩
 .simp
theorem zgo{D:List κ}(h:D.Nodup)(v:κ):(z1s D v).Nodup:=by
 unfold z1s;split
 .exact h
 .rename_i hv
  refine x2b.mpr ⟨h,by simp,?_⟩
  intro a ha b hb e
  simp at hb;subst hb;subst e;exact hv ha
theorem z86:∀(ss D:List κ)(k:κ),k∈ss.foldl z1s D↔k∈D\/k∈ss
 |[],D,k=>by simp
 |v::ss,D,k=>by
  rw[x21,z86 ss,zd9];simp[or_assoc]
theorem z69:∀(ss D:List κ),D.Nodup->(ss.foldl z1s D).Nodup
 |[],D,h=>h
 |v::ss,D,h=>z69 ss _ (zgo h v)
theorem zm2(ss:List κ)(k:κ):k∈gAll ss↔k∈ss:=by
 rw[gAll,z86];simp
theorem zij(ss:List κ):(gAll ss).Nodup:=z69 ss [] .nil
theorem zfc(D:List κ)(v:κ):(z1s D v).length=if decide (v∈D)=true then D.length else D.length+1:=by
 unfold z1s;by_cases h:v∈D<;>simp[h]
theorem zfd:∀(ss D:List κ),(ss.foldl z1s D).length<=D.length+ss.length
 |[],D=>by simp
 |v::ss,D=>by
  have:=zfd ss (z1s D v)
  have h2:=zfc D v
  rw[x21,x09]
  split at h2<;>omega
theorem zc1(ss:List κ):(gAll ss).length<=ss.length:=by have:=zfd ss [];simpa[gAll]using this
theorem zk0(ss:List κ)(i:Nat)(h:i<ss.length):gAll (ss.take (i+1))=z1s (gAll (ss.take i)) ss[i]:=by
 unfold gAll;rw[x2c h,List.foldl_append];rfl
end
noncomputable def ESet{prog:Program}{w:World}{κ:Type}[DecidableEq κ](knd:KeyKind prog w κ)(h:Heap)(a:Addr)(D:List κ)(led:Bool):Prop:=
 ∃o es ep t,h.get? a=some o/\o.ExactSet/\o.data=.set es ep t/\ElemsOf knd es.toList/\
  (∀k,decide (k∈D)=true↔∃e∈es.toList,knd.is k e.2=true)/\
  es.size<scanBound/\t.fits es.size=true/\es.size=D.length/\t.led=led/\Rise t
section
variable {prog:Program}{w:World}{κ:Type}[DecidableEq κ]{knd:KeyKind prog w κ}{A:Around}{E:Value->Shared->Prop}{s:Shared}
theorem ESet.keep{h h':Heap}{a:Addr}{D:List κ}{led:Bool}(T:ESet knd h a D led)
  (e:∀o,h.get? a=some o->h'.get? a=some o):ESet knd h' a D led:=by
 obtain⟨o,es,ep,t,ho,more⟩:=T
 exact⟨o,es,ep,t,e o ho,more⟩
theorem z87{g:Bool->Sem Unit}(hg:∀(b:Bool)(s₁:Shared)(Q':Unit->Shared->Prop),Q' () s₁->wpAny (model prog w) A (g b) Q' E s₁)
  {a:Addr} {o:Obj} {es:Array (Int×Value)} {ep:Nat} {t:SetTable} (ho:s.heap.get? a=some o) (hx:o.ExactSet)
  (hd:o.data=.set es ep t) {e1:Array (Int×Value)} {t1:SetTable} {D:List κ}
  (he:ElemsOf knd e1.toList) (hm:∀k,decide (k∈D)=true↔∃e∈e1.toList,knd.is k e.2=true)
  (hb:e1.size<scanBound) (hf:t1.fits e1.size=true) (hn:e1.size=D.length) (hp:Rise t1)
  {was:Bool} {R:Option Bool->Shared->Prop}
  (h:∀h',Heap.SameBut a s.heap h'->ESet knd h' a D t1.led->R (some true) { s with heap:=h' }):
  wpAny (model prog w) A (do
   storeSet a e1 t1
   if(!was&&t1.tooFull)=true then do
    g (relayAll t1 e1 (SetTable.grown e1.size)).2.2
    storeSet a (relayAll t1 e1 (SetTable.grown e1.size)).1 (relayAll t1 e1 (SetTable.grown e1.size)).2.1
    pure (some true)
   else pure (some true)) R E s:=by
 refine x6 (wpAny_storeSet_of ho hd ?_ (fits_of_scanBound hb))
 obtain⟨g1,_⟩:=SetOf_store (knd:=knd) ho hx hd he hm hb hf
 have b1:=x0i s.heap a (Obj.putSet e1 t1)
 split
 .have pr:=relayAll_perm t1 e1 (SetTable.grown e1.size)
  have fr:=relayAll_fits t1 e1 (SetTable.grown e1.size)
  have lr:=zeo t1 e1 (SetTable.grown e1.size)
  have rr:=Rise.relayAll t1 e1 (SetTable.grown e1.size)
  generalize relayAll t1 e1 (SetTable.grown e1.size)=L at pr fr lr rr⊢
  obtain⟨e2,t2,gave⟩:=L
  dsimp only at pr fr lr rr⊢
  have sz:e2.size=e1.size:=by rw[<-x0f,pr.length_eq,x0f]
  have hm2:∀k,decide (k∈D)=true↔∃e∈e2.toList,knd.is k e.2=true:=fun k=>
   (hm k).trans ⟨fun⟨e,q,z⟩=>⟨e,pr.mem_iff.mpr q,z⟩,fun⟨e,q,z⟩=>⟨e,pr.mem_iff.mp q,z⟩⟩
  refine x6 (hg _ _ _ ?_)
  refine x6 (wpAny_storeSet_of g1 rfl ?_ (fits_of_scanBound (by rw[sz];exact hb)))
  obtain⟨g2,_⟩:=SetOf_store (knd:=knd) g1 hx rfl (he.perm pr) hm2 (by rw[sz];exact hb) fr
  refine xh (h _ (b1.trans (x0i _ a _)) ⟨_,e2,_,t2,g2,hx,rfl,he.perm pr,hm2,by rw[sz];exact hb,fr,sz.trans hn,lr.1,rr⟩)
 .exact xh (h _ b1 ⟨_,e1,_,t1,g1,hx,rfl,he,hm,hb,hf,hn,rfl,hp⟩)
theorem zm3{a:Addr}{D:List κ}{led:Bool}{k:κ}{v:Value}{Q:Bool->Shared->Prop}(T:ESet knd s.heap a D led)(is:knd.is k v=true)(hsc:v.scannable=true)
  (room:D.length+1<scanBound)
  (h:∀h' b,Heap.SameBut a s.heap h'->ESet knd h' a (z1s D k) led->Q b { s with heap:=h' }):
  wpAny (model prog w) A (setAddHashed a v (knd.hash k)) Q E s:=by
 obtain⟨o,es,ep,t,ho,hx,hd,he,hm,hb,hf,hn,hl,hp⟩:=T
 unfold setAddHashed setAddHashedIn
 refine x0t (x6 (wpAny_setState_of ho hd hf ?_))
 dsimp only
 rw[byScan_of hsc hb he]
 simp only[↓reduceIte]
 unfold setAddByScan
 refine x6 ?_
 refine x6 (wpAny_rule ?_)
 refine x6 (wpAny_setScan_of is ho hd hf he ?_)
 cases hr:List.findIdx? (fun e=>knd.is k e.2) es.toList with
 |some j=>
  dsimp only
  obtain⟨hj,pj,_⟩:=List.findIdx?_eq_some_iff_getElem.mp hr
  have xin:k∈D:=x0c ((hm k).mpr ⟨es.toList[j],x2v hj,pj⟩)
  have same:z1s D k=D:=if_pos xin
  refine xh (xh ?_)
  have:=h s.heap false (Heap.SameBut.refl a s.heap) (by rw[same];exact⟨o,es,ep,t,ho,hx,hd,he,hm,hb,hf,hn,hl,hp⟩)
  cases s;exact this
 |none=>
  dsimp only
  have xout:k∉D:=fun q=>by
   obtain⟨e,qe,z⟩:=(hm k).mp (x05 q)
   have:=List.findIdx?_eq_none_iff.mp hr e qe
   rw[z]at this;cases this
  have grow:z1s D k=D++[k]:=if_neg xout
  have pr:=layNew_perm t es (knd.hash k) v
  have fr:=layNew_fits t es (knd.hash k) v
  have lr:=zia t es (knd.hash k) v
  have rr:=hp.layNew es (knd.hash k) v
  generalize layNew t es (knd.hash k) v=L at pr fr lr rr⊢
  obtain⟨e1,t1,was,gave⟩:=L
  dsimp only at pr fr lr rr⊢
  rw[Array.toList_push]at pr
  have he1:ElemsOf knd e1.toList:=(he.push is hsc).perm pr
  have hm1:∀k1,decide (k1∈z1s D k)=true↔∃e∈e1.toList,knd.is k1 e.2=true:=fun k1=>by
   rw[<-mem_push_iff is hm pr k1,<-Bool.decide_or,x0s,x0s]
   exact zd9 D k k1
  have sz:e1.size=es.size+1:=by rw[<-x0f,pr.length_eq,xt,x0f];rfl
  have hn1:e1.size=(z1s D k).length:=by rw[sz,grow,xt,hn];rfl
  have hb1:e1.size<scanBound:=by rw[sz,hn];exact room
  have gw:∀(b:Bool)(s₁:Shared)(Q':Unit->Shared->Prop),Q' () s₁->
    wpAny (model prog w) A (match b with|true=>rule "set.scan.the-table-gave-way" |false=>pure ()) Q' E s₁:=fun b s₁ Q' q=>by
   cases b
   .exact xh q
   .exact wpAny_rule q
  refine x6 (gw _ _ _ ?_)
  split
  .refine x6 ?_
   rw[hashByValue_scannable 8 hsc]
   refine xh ?_
   cases plainKind v with
   |true=>
    simp only[↓reduceIte]
    refine z87 (t1:=t1) gw ho hx hd he1 hm1 hb1 fr hn1 rr fun h' sb T'=>?_
    dsimp only
    refine xh (h h' true sb ?_)
    rw[<-hl,<-lr.1];exact T'
   |false=>
    simp only[x0g,↓reduceIte]
    refine z87 (t1:={ t1 with plain:=false }) gw ho hx hd he1 hm1 hb1 (SetTable.fits_plain_off fr) hn1 rr fun h' sb T'=>?_
    dsimp only
    refine xh (h h' true sb ?_)
    rw[<-hl,<-lr.1];exact T'
  .refine x6 (xh ?_)
   simp only[↓reduceIte]
   refine z87 (t1:=t1) gw ho hx hd he1 hm1 hb1 fr hn1 rr fun h' sb T'=>?_
   dsimp only
   refine xh (h h' true sb ?_)
   rw[<-hl,<-lr.1];exact T'
end
section
variable {prog:Program}{w:World}{κ:Type}[DecidableEq κ]{knd:KeyKind prog w κ}{A:Around}{R:Result->Shared->Prop}{I:Addr}
variable {fp wr:List Addr}{G:Array GenState->Array GenState->Prop}{P:Nat->Value->Prop}{St:Nat->Shared->Prop}
theorem zc2{ss:List κ}(W:WalksS prog w A.in1 I fp wr G ss.length P St)(a:Addr)(ha:a∉fp)
  {led:Bool} (hv:∀i v (h:i<ss.length),P i v->knd.is ss[i] v=true/\v.scannable=true) (hb:ss.length+1<scanBound):
  ∀(k i:Nat)(s:Shared),ss.length-i=k->i<=ss.length->St i s->ESet knd s.heap a (gAll (ss.take i)) led->
   (∀s',Moved (a::wr) G s s'->ESet knd s'.heap a (gAll ss) led->R (.ok (.ret .none)) s')->
   codeAny (model prog w) A (.builtin "set.update.loop" ⟨[.ref a,.ref I],[]⟩) R s:=by
 have haw:a∉wr:=fun h=>ha (W.sub _ h)
 intro k
 induction k with
 |zero=>
  intro i s hk hi st T hR
  have ei:i=ss.length:=by omega
  subst ei
  rw[x0h]at T
  refine x1b PyProof.Rows.F.entry_set_update_loop ?_
  rw[x15 PyProof.Rows.F.plain_set_update_loop _]
  refine x6 (m:=pyNext (.ref I)) (W.done s _ _ st fun s' mv=>?_)
  refine xh (hR s' (mv.mono fun b h=>.tail _ h) (T.keep fun o e=>mv.heap a o haw e))
 |succ k ih=>
  intro i s hk hi st T hR
  have lt:i<ss.length:=by omega
  refine x1b PyProof.Rows.F.entry_set_update_loop ?_
  rw[x15 PyProof.Rows.F.plain_set_update_loop _]
  refine x6 (m:=pyNext (.ref I)) (W.item i s _ _ lt st fun v s' hP st' mv=>?_)
  obtain⟨is,hsc⟩:=hv i v lt hP
  have T':=T.keep (h':=s'.heap) fun o e=>mv.heap a o haw e
  refine x6 (m:=holding [v] (setAdd a v)) (x0t ?_)
  unfold setAdd
  refine x0t ?_
  refine x6 (knd.pyHash (k:=ss[i]) is ?_)
  have room:(gAll (ss.take i)).length+1<scanBound:=by
   have:=zc1 (ss.take i)
   rw[x07]at this
   omega
  refine zm3 (s:={ s' with toks:=s'.toks+1 }) T' is hsc room fun h2 _ sb T2=>?_
  have T3:ESet knd h2 a (gAll (ss.take (i+1))) led:=by
   rw[zk0 ss i lt];exact T2
  refine xh ⟨x25 PyProof.Rows.F.plain_set_update_loop _,ih (i+1) _ (by omega) lt ?_ T3 fun s3 mv3 T4=>?_⟩
  .refine W.frame _ s' _ _ st' (x2r _) fun b hbf o e=>?_
   rw[sb.2 b fun e':b=a=>ha (e'▸hbf)]
   exact e
  .refine hR s3 (Moved.trans W.gtrans ((mv.mono fun b h=>.tail _ h).then_heap (x2r _) fun b o hbw e=>?_) mv3) T4
   rw[sb.2 b fun e':b=a=>hbw (e'▸.head _)]
   exact e
end
section
variable {prog:Program}{w:World}{κ:Type}[DecidableEq κ]{knd:KeyKind prog w κ}{A:Around}{E:Value->Shared->Prop}{s:Shared}
theorem zik{h:Heap}{a:Addr}{led:Bool}(g:h.get? a=some (z2b led)):ESet knd h a [] led:=
 ⟨_,#[],0,.fresh 0 0 led,g,⟨rfl,rfl,rfl⟩,rfl,fun e q=>by simp at q,fun k=>by simp,by decide,by cases led<;>decide,rfl,rfl,List.Pairwise.nil,rfl⟩
theorem zc3{l:Addr}{items:Array Value}{ss:List κ}{Q:Value->Shared->Prop}(hh:A.handled=none)
  (hl:s.heap.IsList l items) (len:items.size=ss.length) (hv:∀(i:Nat)(v:Value)(h:i<ss.length),items[i]? =some v->knd.is ss[i] v=true/\v.scannable=true) (hb:ss.length+1<scanBound)
  (h:∀(h':Heap)(tk:Nat),ESet knd h' s.heap.objs.size (gAll ss) (z3n w)->s.toks<=tk->
   (∀b o,s.heap.get? b=some o->h'.get? b=some o)->Q (.ref s.heap.objs.size) { s with heap:=h',toks:=tk }):
  wpAny (model prog w) A (call (.type "set") [.ref l]) Q E s:=by
 obtain⟨_,_,mro⟩:=F.called_set.mro
 have made:=F.called_set.made
 have self:=F.called_set.sub
 refine wpAny_call (codeAny_of_tree ?_)
 show wpAny _ _ (callAny (.type "set") _) _ _ _
 refine xh ⟨Code.quiet_builtin _ (by decide+kernel),?_⟩
 refine x1b F.entry_type_call ?_
 rw[Around.under_plain (weight_type_call_type "set" [.ref l] []) rfl]
 have n1:=F.called_set.notType
 have n2:=F.called_set.canCreate
 have n3:=F.typeCall_set_1 (.ref l)
 repeat (any_goals (first|assumption|wp_step))
 refine x31 (zgj (.ref l) (E:=E)
  (Q₁:=fun x s₁=>∃led:Bool,led=z3n w/\x=.ref s.heap.objs.size/\s₁={ s with heap:=s.heap.push (z2b led) }) ⟨_,rfl,rfl,rfl⟩) fun r s₁ hr=>?_
 match r,hr with
 | .error e,hr=>exact hr
 | .ok (.ret x),hr=>
  obtain⟨led,hled,rfl,rfl⟩:=hr
  have gS:(s.heap.push (z2b led)).get? s.heap.objs.size=some (z2b led):=xr _ rfl
  have ty:Shared.TypeIs { s with heap:=s.heap.push (z2b led) } (.ref s.heap.objs.size) "set":=⟨_,gS,rfl⟩
  have look:=F.called_set.init.lookup
  have bound:=F.called_set.init.bind (.ref s.heap.objs.size)
  repeat (any_goals (first|assumption|wp_step))
  refine x31 (codeAny_call_builtin (R:=wants (fun r s₂=>r=.none/\∃h' tk,s₂={ s with heap:=h',toks:=tk }/\
   ESet knd h' s.heap.objs.size (gAll ss) (z3n w)/\s.toks<=tk/\∀b o,s.heap.get? b=some o->h'.get? b=some o) E)
   F.called_set.init.plain F.entry_set_init (check_set_init_1 ty ?_)) fun r₂ s₂ hr₂=>?_
  .obtain⟨ol,gl,cl,nl,dl⟩:=hl
   obtain⟨ocls,odict,odata,oslots⟩:=ol
   simp only at cl dl
   subst cl dl
   have gl':(s.heap.push (z2b led)).get? l=some { cls:=.type "list",dict:=odict,data:=.seq items nl,slots:=oslots }:=
    x9 _ gl
   have m1:=F.sub_list_set
   have m2:=F.sub_list_frozenset
   have m3:(Value.type "list"==Value.type "dict")=false:=by decide
   have isl:(s.heap.push (z2b led)).IsList l items:=⟨_,gl',rfl,nl,rfl⟩
   unfold Builtin.«set.__init__» noKeywords Builtin.Frozenset.updateFrom
   generalize hPI:pyIter=PI
   wp_walk
   subst hPI
   refine x27 isl ?_
   refine x6 (wpAny_runValue ?_)
   have lt:l<s.heap.objs.size:=xn gl
   have h3:A.in1.in1.in1.handled=none:=by simp[hh]
   have lI:l≠(s.heap.push (z2b led)).objs.size:=by
    rw[x14];exact xu (x1g lt)
   have aI:s.heap.objs.size∉[(s.heap.push (z2b led)).objs.size,l]:=by
    rw[x14];intro m
    rcases xk.mp m with e|m
    .exact xu (x0q _) e
    .exact x17 lt (xg.mp m)
   have WW:=((Walks.list (prog:=prog) (w:=w) h3 _ l lI items).toS)
   rw[len]at WW
   refine zc2 (led:=z3n w) WW s.heap.objs.size aI hv hb (ss.length-0) 0 _ (by omega) (x08 _)
    ⟨⟨_,xr _ rfl,rfl,rfl⟩,(isl.push _)⟩ ?s0 ?sR
   case s0=>
    have g2:((s.heap.push (z2b led)).push { cls:=.type "list_iterator",data:=.fields #[.ref l,.int 0 0] }).get? s.heap.objs.size=some (z2b led):=
     x9 _ gS
    rw[<-hled];exact zik g2
   case sR=>
    intro s' mv T
    obtain⟨h',g',d',tk',os'⟩:=s'
    obtain rfl:g'=s.gens:=mv.gens
    obtain rfl:d'=s.drawn:=mv.drawn
    obtain rfl:os'=s.os:=mv.os
    show wpAny _ _ _ _ _ _
    refine xh ?_
    show wpAny _ _ (ret Value.none) _ _ _
    refine xh ⟨rfl,h',tk',rfl,T,mv.toks,fun b o e=>?_⟩
    have bl:=xn e
    refine mv.heap b o ?_ (x9 _ (x9 _ e))
    rw[x14];intro m
    rcases xk.mp m with e|m
    .exact xu bl e
    .exact xu (x1g bl) (xg.mp m)
  .match r₂,hr₂ with
   | .error e,hr₂=>exact hr₂
   | .ok (.ret r),hr₂=>
    obtain⟨rfl,h',tk,rfl,T,lt,old⟩:=hr₂
    repeat (any_goals (first|assumption|wp_step))
    exact h _ _ T lt old
end
inductive EAre {prog:Program}{w:World}{κ:Type}[DecidableEq κ](knd:KeyKind prog w κ):List Value->List κ->Prop
 |nil:EAre knd [] []
 |cons {v:Value} {k:κ} {vs:List Value} {ks:List κ}:knd.is k v=true->EAre knd vs ks->EAre knd (v::vs) (k::ks)
section
variable {prog:Program}{w:World}{κ:Type}[DecidableEq κ]{knd:KeyKind prog w κ}{A:Around}{E:Value->Shared->Prop}{s:Shared}
theorem EAre.length{vs:List Value}{ks:List κ}(h:EAre knd vs ks):vs.length=ks.length:=by
 induction h with
 |nil=>rfl
 |cons _ _ ih=>simp[ih]
theorem zm4{L:List (Int×Value)}{D:List κ}(he:ElemsOf knd L)(nd:D.Nodup)
  (hm:∀k,decide (k∈D)=true↔∃e∈L,knd.is k e.2=true) (hn:L.length=D.length):
  ∃ks,EAre knd (L.map (·.2)) ks/\ks.Perm D:=by
 have ex:∀L:List (Int×Value),ElemsOf knd L->∃ks,EAre knd (L.map (·.2)) ks/\∀k e,e∈L->knd.is k e.2=true->k∈ks:=by
  intro L
  induction L with
  |nil=>exact fun _=>⟨[],.nil,fun _ _ z=>nomatch z⟩
  |cons e L ih=>
   intro he
   obtain⟨ks,h1,h2⟩:=ih he.tail
   obtain⟨k,hk,_⟩:=he.head.1
   refine⟨k::ks,.cons hk h1,fun k' e' m z=>?_⟩
   rcases xk.mp m with rfl|m
   .rw[knd.inj _ k' k z hk];exact .head _
   .exact .tail _ (h2 k' e' m z)
 obtain⟨ks,h1,h2⟩:=ex L he
 refine⟨ks,h1,z9f D ks nd (fun k hk=>?_) ?_⟩
 .obtain⟨e,m,z⟩:=(hm k).mp (x05 hk)
  exact h2 k e m z
 .have:=h1.length
  rw[x5]at this
  omega
theorem z88{a:Addr}{o:Obj}{es:Array (Int×Value)}{ep:Nat}{t:SetTable}{slot i:Nat}{Q:Option (Value×Nat)->Shared->Prop}
  (hw:w.params.followText "set-order"=false) (ho:s.heap.get? a=some o) (hd:o.data=.set es ep t) (hf:t.fits es.size=true)
  (hn:t.plain=true\/es.size<=1) (hl:t.led=true)
  (h:Q (match es[SetTable.below t.place slot]?,t.place[SetTable.below t.place slot]? with
   |some (_,x),some j=>some (x,j+1)
   |_,_=>none) s):wpAny (model prog w) A (setNext a slot i ep) Q E s:=by
 unfold setNext
 refine x6 (wpAny_setState_of ho hd hf ?_)
 dsimp only
 refine x6 (z2u ?_)
 rw[hw]
 simp only[x0g,↓reduceIte]
 refine(?_:wpAny _ _ (if(!t.plain&&decide (es.size>1))=true then _ else _) _ _ _)
 rw[if_neg (by rcases hn with hn|hn<;>simp[hn])]
 refine x6 (m:=if(!t.led&& !es.isEmpty)=true then unsupported "set:maker-not-led" else pure ()) ?_
 rw[if_neg (by simp[hl])]
 exact xh (xh h)
theorem zgp{t:SetTable}(hr:Rise t){es:Array (Int×Value)}(hf:t.fits es.size=true){i:Nat}(lt:i<es.size):
  (match es[SetTable.below t.place (z1z t i)]?,t.place[SetTable.below t.place (z1z t i)]? with
   |some (_,x),some j=>some (x,j+1)
   |_,_=>none)=some (es[i].2,z1z t (i+1)):=by
 have sz:=zay hf
 rw[z85 hr (by omega),x0v lt,x0v (by omega:i<t.place.size)]
 have:z1z t (i+1)=t.place[i]'(by omega)+1:=by
  unfold z1z
  rw[if_neg (by omega)]
  simp[Array.getD,(by omega:i<t.place.size)]
 rw[this]
theorem zil{t:SetTable}(hr:Rise t){es:Array (Int×Value)}(hf:t.fits es.size=true):
  (match es[SetTable.below t.place (z1z t es.size)]?,t.place[SetTable.below t.place (z1z t es.size)]? with
   |some (_,x),some j=>some (x,j+1)
   |_,_=>none)=(none:Option (Value×Nat)):=by
 have sz:=zay hf
 rw[z85 hr (by omega),Array.getElem?_eq_none (xi _)]
theorem zim(hh:A.handled=none)(hw:w.params.followText "set-order"=false){I a:Addr}{o:Obj}{es:Array (Int×Value)}{ep:Nat}{t:SetTable}
  (hd:o.data=.set es ep t) (hf:t.fits es.size=true) (hr:Rise t) (hn:t.plain=true\/es.size<=1) (hl:t.led=true) (hI:a≠I):
  WalksS prog w A I [I,a] [I] (fun x y=>x=y) es.size (fun i v=>∃e,es[i]? =some e/\v=e.2)
   (fun i s=>SetIterAt s.heap I (.int (z1z t i) 0) i a es.size ep/\s.heap.get? a=some o) where
 sub:=fun b hb=>by simp at hb;simp[hb]
 grefl:=fun _=>rfl
 gtrans:=fun _ _ _ p q=>p.trans q
 frame:=fun i s h' tk st _ k=>⟨st.1.keep (k I (by simp)),k a (by simp) _ st.2⟩
 item:=fun i s Q E lt st hQ=>by
  refine z7y (next:=z1z t (i+1)) (x:=es[i].2) st.2 hd hf st.1
   (fun A' E' Q' q=>z88 hw st.2 hd hf hn hl ((x12 (fun z=>Q' z s) (zgp hr hf lt)).mpr q)) fun h' si sb=>?_
  refine hQ _ _ ⟨_,x0v lt,rfl⟩ ⟨si,(sb.2 a hI).trans st.2⟩ ⟨fun b o' hb e=>?_,rfl,rfl,rfl,xi _⟩
  exact(sb.2 b (by simpa using hb)).trans e
 done:=fun s Q E st hQ=>by
  refine z5o hh st.2 hd hf st.1
   (fun A' E' Q' q=>z88 hw st.2 hd hf hn hl ((x12 (fun z=>Q' z s) (zil hr hf)).mpr q)) fun h' xb=>?_
  exact hQ _ ⟨fun b o' hb e=>xb b o' (by simpa using hb) e,rfl,rfl,rfl,xi _⟩
 self:=fun i s Q E st h=>z5p st.1 h
theorem zdm{a:Addr}{D:List κ}{Q:List Value->Shared->Prop}(hh:A.handled=none)(nd:D.Nodup)
  (T:ESet knd s.heap a D (z3n w))
  (h:∀s' vs ks,EAre knd vs ks->ks.Perm D->(∀b o,s.heap.get? b=some o->s'.heap.get? b=some o)->s'.gens=s.gens->s'.os=s.os->
   s.toks<=s'.toks->Q vs s'):wpAny (model prog w) A (collect (.ref a)) Q E s:=by
 obtain⟨o,es,ep,t,ho,hx,hd,he,hm,hb,hf,hn,hl,hp⟩:=T
 have la:=xn ho
 unfold collect
 refine x6 (wpAny_runValue (x1b F.entry_proto_collect ?_))
 rw[x15 F.plain_proto_collect _]
 refine x6 (m:=newList []) (x10 ?_)
 refine xh ⟨x25 F.plain_list_iadd _,x1b F.entry_list_iadd ?_⟩
 rw[x15 F.plain_list_iadd _]
 show wpAny _ A.in1 (Builtin.List.listExtendWith (.ref s.heap.objs.size) (.ref a) (.ref s.heap.objs.size)) _ _ _
 unfold Builtin.List.listExtendWith
 generalize hH:s.heap.push { cls:=.type "list",data:=.seq ([]:List Value).toArray }=H
 have ho1:H.get? a=some o:=by rw[<-hH];exact x9 _ ho
 have gS:H.get? s.heap.objs.size=some { cls:=.type "list",data:=.seq #[] }:=by rw[<-hH];exact xr _ rfl
 have zH:H.objs.size=s.heap.objs.size+1:=by rw[<-hH,x14]
 have ty:Shared.TypeIs { s with heap:=H } (.ref a) "set":=⟨o,ho1,hx.1⟩
 refine x6 (wpAny_typeOf ty ?_)
 have h1:Builtin.List.listSameRef (.ref s.heap.objs.size) (.ref a)=false:=by
  simp only[Builtin.List.listSameRef,x1e];exact x17 la
 have h2:(Value.type "set"==Value.type "list")=false:=by decide
 have h3:(Value.type "set"==Value.type "tuple")=false:=by decide
 simp only[h1,h2,h3,Bool.or_false,x0g,x32]
 have hz:=fits_of_scanBound hb
 have fin:∀(s1 s':Shared)(I:Addr)(P:Nat->Value->Prop)(L:List (Int×Value))(acc:Array Value)(c:Nat),
   (∀b o,H.get? b=some o->s1.heap.get? b=some o)->s1.gens=s.gens->s1.os=s.os->s1.toks=s.toks->s.heap.objs.size<I->
   L.Perm es.toList->(∀i v,P i v->∃e,L[i]? =some e/\v=e.2)->
   Moved (s.heap.objs.size::[I]) (fun x y=>x=y) s1 s'->ItemsOf P acc es.size->Q acc.toList s':=by
  intro s1 s' I P L acc c k0 k1 k2 k3 k4 pr hP mv ii
  have len:L.length=es.size:=by rw[pr.length_eq,x0f]
  rw[<-len]at ii
  rw[zjo ii hP]
  have hm2:∀k,decide (k∈D)=true↔∃e∈L,knd.is k e.2=true:=fun k=>
   (hm k).trans ⟨fun⟨e,q,z⟩=>⟨e,pr.mem_iff.mpr q,z⟩,fun⟨e,q,z⟩=>⟨e,pr.mem_iff.mp q,z⟩⟩
  obtain⟨ks,t1,t2⟩:=zm4 (he.perm pr) nd hm2 (len.trans hn)
  refine h s' _ ks t1 t2 (fun b o' e=>?_) (mv.gens.symm.trans k1) (mv.os.trans k2) (k3▸mv.toks)
  have lb:=xn e
  refine mv.heap b o' (fun m=>?_) (k0 b o' (by rw[<-hH];exact x9 _ e))
  rcases xk.mp m with q|m
  .exact xu lb q
  .exact xu (x1r lb k4) (xg.mp m)
 have h4:A.in1.handled=none:=by simp[hh]
 let K:Value->Shared->Prop:=fun v s'=>wpAny (model prog w) A (match v with
  | .ref a=>do
   match(<-load a).data with
   | .seq xs _=>pure xs.toList
   |_=>unsupported "internal:collect"
  |_=>unsupported "internal:collect") Q E s'
 have aS:s.heap.objs.size≠a:=x17 la
 have laH:a<H.objs.size:=xn ho1
 refine x6 (zib ho1 hx hd hf hb ?_ ?_)
 .intro w1 w2 w3 ps d pr
  have len:ps.length=es.size:=by simpa using pr.length_eq
  have gT:((H.push { cls:=.type "tuple",data:=.seq (ps.map fun(i:Nat)=>rawInt i).toArray }).push (z1t (.ref H.objs.size) 0 a es.size ep)).get? H.objs.size
    =some { cls:=.type "tuple",data:=.seq (ps.map fun(i:Nat)=>rawInt i).toArray }:=x9 _ (xr _ rfl)
  have gI:((H.push { cls:=.type "tuple",data:=.seq (ps.map fun(i:Nat)=>rawInt i).toArray }).push (z1t (.ref H.objs.size) 0 a es.size ep)).get? (H.objs.size+1)
    =some (z1t (.ref H.objs.size) 0 a es.size ep):=by
   have z2:(H.push { cls:=.type "tuple",data:=.seq (ps.map fun(i:Nat)=>rawInt i).toArray }).objs.size=H.objs.size+1:=x14 ..
   rw[<-z2]
   exact xr _ rfl
  have two:∀ b o',H.get? b=some o'->((H.push { cls:=.type "tuple",data:=.seq (ps.map fun(i:Nat)=>rawInt i).toArray }).push (z1t (.ref H.objs.size) 0 a es.size ep)).get? b=some o':=
   fun b o' e=>x9 _ (x9 _ e)
  have W:=zgk (prog:=prog) (w:=w) (A:=A.in1) h4 (I:=H.objs.size+1) (T:=H.objs.size) (a:=a) (o:=o) (ps:=ps) (nT:=0)
   (oT:={ cls:=.type "tuple",data:=.seq (ps.map fun(i:Nat)=>rawInt i).toArray }) hd hf rfl
   (xu (x1g laH)) (xu (x0q _)) pr
  have out:s.heap.objs.size∉[H.objs.size+1,a,H.objs.size]:=by
   rw[zH];intro m
   rcases xk.mp m with q|m
   .exact xu (x1g (x0q _)) q
   .rcases xk.mp m with q|m
    .exact aS q
    .exact xu (x0q _) (xg.mp m)
  refine z4e (a:=a) (R:=wants K E) (b:=_) W hz out ?_ (c:=0) ?_ ?_ ?_
  .exact⟨⟨_,gI,rfl,rfl⟩,two _ _ ho1,gT⟩
  .exact two _ _ gS
  .exact⟨o,two _ _ ho1,hx.1⟩
  intro s' acc c' mv g ii
  show wpAny _ _ (load _>>=_) _ _ _
  refine x6 (wpAny_load g (xh ?_))
  refine fin { s with heap:=(H.push { cls:=.type "tuple",data:=.seq (ps.map fun(i:Nat)=>rawInt i).toArray }).push (z1t (.ref H.objs.size) 0 a es.size ep),drawn:=d } s' (H.objs.size+1) _ (ps.map fun p=>es.getD p default) acc c' two rfl rfl rfl (by rw[zH];exact x1g (x0q _)) ?_ ?_ mv ii
  .refine(pr.map _).trans ?_
   have:(List.range es.size).map (fun p=>es.getD p default)=es.toList:=by
    apply x28
    intro i
    by_cases lt:i<es.size
    .simp[lt]
    .simp[lt]
   rw[this]
  .rintro i v ⟨p,e,hp',he',rfl⟩
   refine⟨e,?_,rfl⟩
   rw[xj,hp']
   obtain⟨lt,q⟩:=Array.getElem?_eq_some_iff.mp he'
   simp[lt,q]
 .intro w1
  have gI:(H.push (z1t (.int 0 0) 0 a es.size ep)).get? H.objs.size=some (z1t (.int 0 0) 0 a es.size ep):=xr _ rfl
  have one:∀b o',H.get? b=some o'->(H.push (z1t (.int 0 0) 0 a es.size ep)).get? b=some o':=fun b o' e=>x9 _ e
  have out:s.heap.objs.size∉[H.objs.size,a]:=by
   rw[zH];intro m
   rcases xk.mp m with q|m
   .exact xu (x0q _) q
   .exact aS (xg.mp m)
  have lI:s.heap.objs.size<H.objs.size:=by rw[zH];exact x0q _
  cases hw:w.params.followText "set-order" with
  |true=>
   have W:=zic (prog:=prog) (A:=A.in1) h4 hw (I:=H.objs.size) (a:=a) (o:=o) hd hf (xu laH)
   refine z4e (a:=a) (R:=wants K E) (b:=_) W hz out ?_ (c:=0) ?_ ?_ ?_
   .exact⟨⟨_,gI,rfl,rfl⟩,one _ _ ho1⟩
   .exact one _ _ gS
   .exact⟨o,one _ _ ho1,hx.1⟩
   intro s' acc c' mv g ii
   show wpAny _ _ (load _>>=_) _ _ _
   refine x6 (wpAny_load g (xh ?_))
   refine fin { s with heap:=H.push (z1t (.int 0 0) 0 a es.size ep) } s' H.objs.size _ (pickOrder (w.params.setOrder a ep) es).toList acc c' one rfl rfl rfl lI (z4r _ _) ?_ mv ii
   rintro i v ⟨e,q,rfl⟩
   exact⟨e,by rw[x2e];exact q,rfl⟩
  |false=>
   have small:t.plain=true\/es.size<=1:=by
    rcases w1 with q|q|q
    .rw[hw]at q;cases q
    .exact .inl q
    .exact .inr q
   have W:=zim (prog:=prog) (A:=A.in1) h4 hw (I:=H.objs.size) (a:=a) (o:=o) hd hf hp small (hl.trans (by simp[z3n,hw])) (xu laH)
   refine z4e (a:=a) (R:=wants K E) (b:=_) W hz out ?_ (c:=0) ?_ ?_ ?_
   .exact⟨⟨_,gI,rfl,rfl⟩,one _ _ ho1⟩
   .exact one _ _ gS
   .exact⟨o,one _ _ ho1,hx.1⟩
   intro s' acc c' mv g ii
   show wpAny _ _ (load _>>=_) _ _ _
   refine x6 (wpAny_load g (xh ?_))
   refine fin { s with heap:=H.push (z1t (.int 0 0) 0 a es.size ep) } s' H.objs.size _ es.toList acc c' one rfl rfl rfl lI (.refl _) ?_ mv ii
   rintro i v ⟨e,q,rfl⟩
   exact⟨e,by rw[x2e];exact q,rfl⟩
end
end PySem
end
section
namespace PySem
open PyProof.Rows
section
variable {prog:Program}{w:World}{κ:Type}[DecidableEq κ]{knd:KeyKind prog w κ}
structure Sorts(knd:KeyKind prog w κ)(rel:List Value->List κ->Prop)(so:List κ->Prop)(lim:Nat):Prop where
 to:∀{vs ks},EAre knd vs ks->rel vs ks
 ln:∀{vs ks},rel vs ks->vs.length=ks.length
 st:∀{A:Around} {E:Value->Shared->Prop} {s:Shared} {l:Addr} {vs:List Value} {ks:List κ} {n:Nat} {P:Fin->Shared->Prop},s.heap.get? l=some (seqObj "list" vs.toArray n)->rel vs ks->ks.Nodup->vs.length<lim->
  (∀(out:Array Value)(ks':List κ),rel out.toList ks'->ks'.Perm ks->so ks'->P (.done (.ret .none)) { s with heap:=sortedHeap s.heap l vs out })->wpAny (model prog w) A (Builtin.«list.sort» ⟨[.ref l],[]⟩) P E s
theorem zgq{A:Around}{E:Value->Shared->Prop}{s:Shared}{rel:List Value->List κ->Prop}{so:List κ->Prop}{lim:Nat}(S:Sorts knd rel so lim)(hlim:lim<=1000){a:Addr}{D:List κ}{Q:Value->Shared->Prop}(hh:A.handled=none)(nd:D.Nodup)(h64:D.length<lim)
  (T:ESet knd s.heap a D (z3n w))
  (h:∀s' l vs ks e,rel vs ks->ks.Perm D->so ks->(∀b o,s.heap.get? b=some o->s'.heap.get? b=some o/\b≠l)->
   s'.heap.get? l=some (seqObj "list" vs.toArray e)->s'.gens=s.gens->s'.os=s.os->Q (.ref l) s'):
  wpAny (model prog w) A (call (.builtin "sorted") [.ref a]) Q E s:=by
 refine Calls.call_function_entry kind_sorted plain_sorted entry_sorted (args_sorted1 _) ?_
 unfold Builtin.«sorted»
 refine x6 (m:=checkCount "sorted" 1 1 _) (xh ?_)
 refine x6 (zdm (by simpa using hh) nd T fun s1 vs ks t0 t2 k0 k1 k2 k3=>?_)
 have t1:=S.to t0
 have v64:vs.length<lim:=by rw[S.ln t1,t2.length_eq];exact h64
 have fit:vs.length<=sizeLine:=x01 (x01 (x20 v64) hlim) (by decide)
 refine x6 (wpAny_newList ?_ fit)
 have hS:=xr (h:=s1.heap) (o:=seqObj "list" vs.toArray 0) rfl
 refine x6 (x0t (x1d slot_list_sort ⟨_,hS,rfl⟩ entry_list_sort
  (S.st hS t1 (t2.nodup_iff.mpr nd) v64 fun out ks' u1 u2 u3=>⟨_,rfl,?_⟩) (args_list_sort _)))
 refine xh ⟨_,rfl,?_⟩
 obtain⟨e,ge⟩:=sortedHeap_at (out:=out) hS
 refine h _ s1.heap.objs.size out.toList ks' e u1 (u2.trans t2) u3 (fun b o q=>?_) ge k1 k2
 have lb:=xn (k0 b o q)
 refine⟨?_,xu lb⟩
 refine(sortedHeap_old (xu lb) ?_).trans (x9 _ (k0 b o q))
 rw[x14];exact x1g lb
theorem zk1(prog:Program)(w:World):Sorts (PySem.strKind prog w) StrsAre (fun ks=>sortedS ks=true) 64 where
 to:=fun h=>by
  induction h with
  |nil=>exact .nil
  |@cons v k vs ks h _ ih=>
   have:∃t,v=.str k t:=by
    cases v<;>first
     |exact absurd h xm
     |(obtain rfl:=(by simpa[PySem.strKind,Value.isInt,Value.isStrOf]using h:_=k);exact⟨_,rfl⟩)
   obtain⟨t,rfl⟩:=this
   exact .cons _ t ih
 ln:=fun h=>h.length
 st:=fun hS t1 _ v64 h=>list_sort_treeK strKind_oneLt hS t1.keysOf (fun v₁ v₂ rest e=>keyKind_strs (by rw[<-e];exact t1)) v64 fun st' a1 a2=>by
  obtain⟨ks',u1,u2,u3⟩:=sorted_out_str t1 a1 a2
  exact h _ ks' u1 u2 u3
end
end PySem
namespace L2
open PySem PySem.Spec PyProof.Rows
noncomputable def eso{P:Program}{w:World}{κ:Type}[DecidableEq κ](knd:KeyKind P w κ)(a:Addr)(D:List κ):HO:=.ext fun h=>ESet knd h a D (z3n w)
section
variable {X:Cx}{κ:Type}[DecidableEq κ]{knd:KeyKind X.prog X.w κ}
theorem zk2(knd:KeyKind X.prog X.w κ)(f:κ->V)(hf:∀ k u,RelV (f k) u->knd.is k u=true/\u.scannable=true)(hc:X.calm=true):CallR X (.type "set") (fun xs H Q=>∃ p ss,xs=[.ref p]/\SqL X.K H p ((ss:List κ).map f)/\ss.length+1<scanBound/\∀ d,H d=none->Q (.ref d) (upd H d (eso knd d (gAll ss)))):=by
 intro pins s σ H xs us Q I r h
 obtain⟨p,ss,rfl,hp,hb,q⟩:=h
 obtain⟨u,rfl,ru⟩:=z2o r
 cases ru
 obtain⟨its,r1,pl,hz⟩:=I.list hp
 have hl:=r1.length
 rw[x5]at hl
 refine zc3 (knd:=knd) (ss:=ss) (I.ok.hd hc) pl.isList (by simpa using hl.symm) (fun i v hi hv=>?_) hb fun h' tk T ht hk=>?_
 .have g1:(ss.map f)[i]? =some (f ss[i]):=by rw[xj,x8 hi];rfl
  obtain⟨w',q1,t⟩:=r1.get g1
  have:its[i]? =some v:=by simpa using hv
  rw[this]at q1
  cases q1
  exact hf _ _ t
 .have ok:∀H',ObjOk X.prog X.w H' h' s.heap.objs.size (eso knd s.heap.objs.size (gAll ss)):=fun _=>⟨T,(by obtain⟨o,es,ep,t,ho,_⟩:=T;exact⟨o,ho⟩),fun h1 h2 t k=>ESet.keep t k⟩
  exact⟨.ref _,_,I.laid (t':=tk) hk (xi _) (ok _),rfl,q _ I.fresh⟩
theorem zfe{rel:List Value->List κ->Prop}{so:List κ->Prop}{lim:Nat}(S:Sorts knd rel so lim)(hlim:lim<=1000)(f:κ->V)(hf:∀ vs ks,rel vs ks->Vals (ks.map f) vs)(hc:X.calm=true):CallR X (.builtin "sorted") (fun xs H Q=>∃ a D,xs=[.ref a]/\H a=some (eso knd a D)/\D.Nodup/\D.length<lim/\∀ l ks,H l=none->ks.Perm D->so ks->Q (.ref l) (upd H l (.lst ((ks:List κ).map f)))):=by
 intro pins s σ H xs us Q I r h
 obtain⟨a,D,rfl,ha,nd,h64,q⟩:=h
 obtain⟨u,rfl,ru⟩:=z2o r
 cases ru
 obtain⟨T,-,-⟩:=(show ObjOk X.prog X.w H s.heap a (eso knd a D) from I.hok a _ ha)
 refine zgq S hlim (I.ok.hd hc) nd h64 T fun s' l vs ks e t1 t2 t3 hk hl hg ho=>?_
 have hz:(ks.map f).length<=sizeLine:=by
  rw[x5,t2.length_eq];exact x01 (x01 (x20 h64) hlim) (by decide)
 have k:∀b u,s.heap.get? b=some u->s'.heap.get? b=some u:=fun b u e=>(hk b u e).1
 have hHl:H l=none:=by
  cases z:H l with
  |none=>rfl
  |some o=>
   obtain⟨u,hu⟩:=zgl (I.hok l o z)
   exact absurd rfl (hk l u hu).2
 have un:Un (frs X.stack) [] H (upd H l (.lst (ks.map f))) s.heap s'.heap:=by
  refine⟨fun b u z _ _ _=>k b u z,fun b u z _ _ _=>⟨u.slots,k b u z⟩,fun b u z n _=>?_,fun b u z _=>⟨u,k b u z⟩,fun b ys z=>?_,fun b u ys z=>?_,fun b ps z=>⟨#[],?_⟩⟩
  .rw[zc (hk b u z).2];exact n
  .rw[zc (zh z hHl)];exact z
  .rw[zc (zh z hHl)];exact z
  .rw[zc (zh z hHl),z];simp
 have hok:HOk X.prog X.w (upd H l (.lst (ks.map f))) s'.heap:=fun b u e'=>by
  by_cases hb:b=l
  .subst hb;rw[z9]at e';cases e'
   exact⟨hz,vs,e,hf _ _ t1,hl⟩
  .rw[zc hb]at e'
   exact(I.hok b u e').stay (fun c v _ q=>k c v q) (fun c q=>by rw[zc (zh q hHl)];exact q) fun c xs q=>by rw[zc (zh q hHl)];exact q
 exact⟨.ref l,_,I.call' ho un hok (by rw[hg];exact I.bare) (fun b z=>absurd z (by simp)),rfl,q l ks hHl t2 t3⟩
noncomputable abbrev zb5(hc:X.calm=true):=zk2 (PySem.strKind X.prog X.w) V.str (fun k u ⟨t,e⟩=>e▸⟨strKind_is _ _ k t,rfl⟩) hc
noncomputable abbrev zdn(hc:X.calm=true):=zfe (zk1 X.prog X.w) (by decide) V.str (fun _ _ h=>z8u h) hc
end
end L2
end
section
namespace PySem
open PySem.W PySem.Spec PyProof.Rows PySem.Calls
open PySem.SeqAt
open PySem.AutoSeq1 (wpAny_loadPart')
open PySem.MeetsSeq PySem.MeetsSeq2 PySem.MeetsSeq3
theorem zdo(l b:Addr)(a c:Int)(t u:Tok)(x y:Str)(t2 u2:Tok):
  Meets (Builtin.«tuple.__lt__» ⟨[.ref l,.ref b],[]⟩)
   (fun _ R s=>s.heap.get? l=some (z37 (.int a t) (.str x t2))/\s.heap.get? b=some (z37 (.int c u) (.str y u2))/\R (.ok (.ret (.bool (zx a x c y)))) s):=
 .of_wp fun prog w A R s h=>by
  obtain⟨hp,g,d,tk,os⟩:=s;obtain⟨hl,hb,h⟩:=h
  have f2:=AutoSeq1.sub_tuple_tuple
  wp_walk using wpAny_loadPart' hl,wpAny_loadPart' hb,wpAny_forIn_list _ (fun rest b s'=>b.1=none/\s'=⟨hp,g,d,tk,os⟩/\(rest=[(Value.int a t,Value.int c u),(Value.str x t2,Value.str y u2)]\/(a=c/\rest=[(Value.str x t2,Value.str y u2)])\/(a=c/\x=y/\rest=[]))) _
  case turn=>
   rintro⟨p,q⟩ rest b s' ⟨hb',rfl,hz⟩
   rcases hz with hz|⟨e1,hz⟩|⟨e1,e2,hz⟩
   .injection hz with h1 h2
    injection h1 with h1 h3
    subst h1 h3 h2
    refine x6 (SeqAt.EqAt.int_int a t c u prog w _ _ ?_)
    by_cases e:a=c
    .subst e
     rw[x2t]
     wp_walk
     exact⟨rfl,rfl,.inr (.inl ⟨rfl,rfl⟩)⟩
    .rw[beq_false_of_ne e]
     have hri:∀(E:Value->Shared->Prop)(Q:Value->Shared->Prop),Q (.bool (decide (a<c))) ⟨hp,g,d,tk,os⟩->wpAny (model prog w) A.in1 (richCompare .Lt (.int a t) (.int c u)) Q E ⟨hp,g,d,tk,os⟩:=fun E Q h=>(PyProof.Rows.lt_int h:wpAny (model prog w) A.in1 (compareOp .Lt (.int a t) (.int c u)) Q E ⟨hp,g,d,tk,os⟩)
     wp_walk using hri
     refine⟨_,rfl,?_⟩
     have ev:zx a x c y=decide (a<c):=by unfold zx;simp[e]
     rw[ev]at h
     simpa using h
   .injection hz with h1 h2
    injection h1 with h1 h3
    subst h1 h3 h2
    refine x6 (SeqAt.EqAt.str_str x t2 y u2 prog w _ _ ?_)
    by_cases e:x=y
    .subst e
     rw[x2t]
     wp_walk
     exact⟨rfl,rfl,.inr (.inr ⟨e1,rfl,rfl⟩)⟩
    .rw[beq_false_of_ne e]
     have hri:∀(E:Value->Shared->Prop)(Q:Value->Shared->Prop),Q (.bool (decide (x.cps.toList<y.cps.toList))) ⟨hp,g,d,tk,os⟩->wpAny (model prog w) A.in1 (richCompare .Lt (.str x t2) (.str y u2)) Q E ⟨hp,g,d,tk,os⟩:=fun E Q h=>(lt_str h:wpAny (model prog w) A.in1 (compareOp .Lt (.str x t2) (.str y u2)) Q E ⟨hp,g,d,tk,os⟩)
     wp_walk using hri
     refine⟨_,rfl,?_⟩
     have ev:zx a x c y=decide (x.cps.toList<y.cps.toList):=by unfold zx;simp[e1]
     rw[ev]at h
     simpa using h
   .cases hz
  case fin=>
   rintro⟨b1,b2⟩ s' ⟨hb',rfl,hz⟩
   simp only at hb'
   subst hb'
   rcases hz with hz|⟨e1,hz⟩|⟨e1,e2,hz⟩
   .cases hz
   .cases hz
   .have ev:zx a x c y=false:=by
     unfold zx
     subst e1 e2
     have:¬(x.cps.toList<x.cps.toList):=List.lt_irrefl _
     simp[this]
    rw[ev]at h
    wp_walk
    exact⟨_,rfl,by simpa[Builtin.Tuple.tupleCompareSizes]using h⟩
  case h=>exact⟨rfl,rfl,.inl rfl⟩
section
variable {prog:Program}{w:World}{A:Around}{E:Value->Shared->Prop}{s:Shared}
theorem zng{l b:Addr}{a c:Int}{t u:Tok}{x y:Str}{t2 u2:Tok}{Q:Value->Shared->Prop}(hl:s.heap.get? l=some (z37 (.int a t) (.str x t2)))(hb:s.heap.get? b=some (z37 (.int c u) (.str y u2)))(hu:A.units<cLine)
  (h:Q (.bool (zx a x c y)) s):wpAny (model prog w) A (richCompare .Lt (.ref l) (.ref b)) Q E s:=
 richCompare_meets_room (op:=.Lt) ⟨_,hl,rfl⟩ ⟨_,hb,rfl⟩ PySem.F.slot_tuple_lt PySem.F.entry_tuple_lt (PySem.F.args_tuple_lt_2 _ _) (zdo l b a c t u x y t2 u2)
  ⟨hl,hb,show Value.bool (zx a x c y)≠Value.notImplemented/\Q (.bool (zx a x c y)) s from⟨(fun x=>nomatch x),h⟩⟩ hu
end
noncomputable def Olds(h h':Heap):Prop:=∀b o,h.get? b=some o->h'.get? b=some o
theorem Olds.trans{h h1 h2:Heap}(a:Olds h h1)(b:Olds h1 h2):Olds h h2:=fun c o e=>b c o (a c o e)
theorem Olds.push(h:Heap)(o:Obj):Olds h (h.push o):=fun _ _ e=>x9 _ e
theorem Olds.but{h0 h h':Heap}{a:Addr}(x:Olds h0 h)(n:h0.get? a=none)(k:∀b o,b≠a->h.get? b=some o->h'.get? b=some o):Olds h0 h':=fun b o e=>k b o (fun z=>by rw[z,n]at e;cases e) (x b o e)
theorem zm5(a v d:Value):argsOk "min" ⟨[a],[(Str.ofString "key",v),(Str.ofString "default",d)]⟩:=by unfold argsOk;kernel_rfl
section
variable {prog:Program}{w:World}{A:Around}{E:Value->Shared->Prop}{s:Shared}{l q:Addr}{vs:List Value}{d:Value}{kf:Nat->Int}{sf:Nat->Str}
noncomputable def Best(kf:Nat->Int)(sf:Nat->Str)(i n:Nat):Prop:=∀j,j<n->zx (kf j) (sf j) (kf i) (sf i)=false
theorem Best.keep{i n:Nat}(b:Best kf sf i n)(h:zx (kf n) (sf n) (kf i) (sf i)=false):Best kf sf i (n+1):=fun j hj=>by
 by_cases e:j=n
 .rw[e];exact h
 .exact b j (by omega)
theorem Best.take{i n:Nat}(b:Best kf sf i n)(h:zx (kf n) (sf n) (kf i) (sf i)=true):Best kf sf n (n+1):=fun j hj=>by
 by_cases e:j=n
 .rw[e]
  unfold zx
  have:¬((sf n).cps.toList<(sf n).cps.toList):=List.lt_irrefl _
  simp[this]
 .exact zd6 _ _ _ _ _ _ (zb2 _ _ _ _ h) (b j (by omega))
theorem zod{R:Result->Shared->Prop}{I S:Addr}{h0:Heap}(hh:A.handled=none)(hu:A.in1.units<cLine)(hl:h0.IsList l vs.toArray)(nI:h0.get? I=none)(nS:h0.get? S=none)(SI:S≠I)
  (turn:∀(i:Nat)(v:Value),vs[i]? =some v->∀(h:Heap)(tk:Nat),Olds h0 h->wpAny (model prog w) A.in1 (call (.ref q) [v]) (fun k s'=>∃t t2,z49 { s with heap:=h,toks:=tk } (.int (kf i) t) (.str (sf i) t2) k s') (fun _ _=>False) { s with heap:=h,toks:=tk })
  (hR:∀i v h' tk',vs[i]? =some v->Best kf sf i vs.length->Olds h0 h'->R (.ok (.ret v)) { s with heap:=h',toks:=tk' }):
  ∀(r j i:Nat) (h:Heap) (tk:Nat) (vb:Value) (p:Addr) (t t2:Tok) (c:Nat),vs.length-(j+1)=r->j+1<=vs.length->Olds h0 h->h.get? S=some (seqObj "list" #[vb,.ref p] c)->h.get? p=some (z37 (.int (kf i) t) (.str (sf i) t2))->p≠S->p≠I->
   h.IsListIter I l (j+1)->vs[i]? =some vb->Best kf sf i (j+1)->codeAny (model prog w) A (.builtin "min.loop" ⟨[.ref I,.ref q,.ref S],[(Str.ofString "default",d)]⟩) R { s with heap:=h,toks:=tk }:=by
 have hname:(toString "min" ++toString ".loop":String)="min.loop":=by decide
 obtain⟨ol,hol,_⟩:=id hl
 have hlI:l≠I:=fun z=>by rw[z,nI]at hol;cases hol
 have lists:∀{h:Heap},Olds h0 h->h.IsList l vs.toArray:=fun k=>by
  obtain⟨o,e,x⟩:=hl
  exact⟨o,k _ _ e,x⟩
 have W:=Walks.list (prog:=prog) (w:=w) (A:=A.in1) hh I l hlI vs.toArray
 have hsz:vs.toArray.size=vs.length:=xy ..
 intro r
 induction r with
 |zero=>
  intro j i h tk vb p t t2 c hr hj K gS gp pS pI hit hvb best
  have hin:j+1=vs.length:=by omega
  refine x1b PySem.F.entry_min_loop (by
   rw[x15 x1s _]
   show wpAny _ A.in1 (seqItems? (.ref S)>>=fun _=>_) _ _ _
   refine x6 (wpAny_seqItems gS rfl ?_)
   show wpAny _ A.in1 (tryCatch (pyNext (.ref I)) _>>=fun _=>_) _ _ _
   refine x6 (x2y (W.done _ _ _ ⟨by rw[hsz,<-hin];exact hit,lists K⟩ fun h' tk' hk'=>?_))
   have K1:Olds h0 h':=K.but nI fun b o nb e=>hk' b o (by simpa using nb) e
   have gS':=hk' S _ (by simpa using SI) gS
   have sb:=x0i h' S (Obj.mapSeq fun _=>(#[]:Array Value))
   show wpAny _ A.in1 (updateSeq S (fun _=>#[])>>=fun _=>_) _ _ _
   refine x6 (wpAny_updateSeq gS' rfl (x6 (wpAny_letGo (xh ?_))))
   exact hR i vb _ _ hvb (by rw[<-hin];exact best) (K1.but nS fun b o nb e=>(sb.2 b nb).trans e))
 |succ r ih=>
  intro j i h tk vb p t t2 c hr hj K gS gp pS pI hit hvb best
  have hlt:j+1<vs.length:=by omega
  refine x1b PySem.F.entry_min_loop (by
   rw[x15 x1s _]
   show wpAny _ A.in1 (seqItems? (.ref S)>>=fun _=>_) _ _ _
   refine x6 (wpAny_seqItems gS rfl ?_)
   show wpAny _ A.in1 (tryCatch (pyNext (.ref I)) _>>=fun _=>_) _ _ _
   refine x6 (x2y (W.item (j+1) _ _ _ (by rw[hsz];exact hlt) ⟨hit,lists K⟩ fun v h' tk' hP hst' hk'=>?_))
   have hv:vs[j+1]? =some v:=by simpa using hP
   have kI:∀b o,b≠I->h.get? b=some o->h'.get? b=some o:=fun b o nb e=>hk' b o (by simpa using nb) e
   have K1:Olds h0 h':=K.but nI kI
   show wpAny _ A.in1 (tryCatch (holding [v] (call (.ref q) [v])) _>>=fun _=>_) _ _ _
   refine x6 (x2y (x0t (x0e (turn (j+1) v hv h' tk' K1) (fun x s'' he=>?_) fun _ _ hF=>hF.elim)))
   obtain⟨tn,tn2,p2,h2,tk2,rfl,rfl,keep,hp2,ho2⟩:=he
   have keep:Olds h' h2:=keep
   have hp2:h'.get? p2=none:=hp2
   have gS2:=keep _ _ (kI S _ SI gS)
   have gp2:=keep _ _ (kI p _ pI gp)
   obtain⟨oI,hoI,hoc,hod⟩:=id hst'.1
   have gI2:=keep _ _ hoI
   have n2S:p2≠S:=fun z=>by rw[z,kI S _ SI gS]at hp2;cases hp2
   have n2I:p2≠I:=fun z=>by rw[z,hoI]at hp2;cases hp2
   have K2:Olds h0 h2:=K1.trans keep
   show wpAny _ A.in1 (tryCatch (holding [v,.ref p2] (richCompare .Lt (.ref p2) (.ref p)>>=fun _=>_)) _>>=fun _=>_) _ _ _
   refine x6 (x2y (x0t (x6 (zng (s:={ s with heap:=h2,toks:=tk2 }) ho2 gp2 hu ?_))))
   refine x6 (x0t (x1a ?_))
   refine x6 (wpAny_letGo (xh ?_))
   cases hb:zx (kf (j+1)) (sf (j+1)) (kf i) (sf i) with
   |true=>
    have sb:=x0i h2 S (Obj.mapSeq fun _=>#[v,.ref p2])
    obtain⟨c2,hc2⟩:∃ c2,(h2.update S (Obj.mapSeq fun _=>#[v,.ref p2])).get? S=some (seqObj "list" #[v,.ref p2] c2):=⟨_,get?_update_seq gS2 fun _=>#[v,.ref p2]⟩
    simp only[if_true]
    refine x6 (wpAny_updateSeq gS2 rfl (x6 (wpAny_letGo ?_)))
    rw[hname]
    exact xh ⟨x25 x1s _,ih (j+1) (j+1) _ _ v p2 tn tn2 c2 (by omega) hlt (K2.but nS fun b o nb e=>(sb.2 b nb).trans e) hc2 ((sb.2 p2 n2S).trans ho2) n2S n2I ⟨oI,(sb.2 I SI.symm).trans gI2,hoc,hod⟩ hv (best.take hb)⟩
   |false=>
    simp only[x0g,x32]
    refine x6 (wpAny_letGo ?_)
    rw[hname]
    exact xh ⟨x25 x1s _,ih (j+1) i _ _ vb p t t2 c (by omega) hlt K2 gS2 gp2 pS pI ⟨oI,gI2,hoc,hod⟩ hvb (best.keep hb)⟩)
theorem min_pair{Q:Value->Shared->Prop}(hh:A.handled=none)(hu:A.in1.units<cLine)(hl:s.heap.IsList l vs.toArray)
  (turn:∀(i:Nat)(v:Value),vs[i]? =some v->∀(h:Heap)(tk:Nat),Olds s.heap h->wpAny (model prog w) A.in1 (call (.ref q) [v]) (fun k s'=>∃t t2,z49 { s with heap:=h,toks:=tk } (.int (kf i) t) (.str (sf i) t2) k s') (fun _ _=>False) { s with heap:=h,toks:=tk })
  (hQ:∀i v h' tk',vs[i]? =some v->Best kf sf i vs.length->Olds s.heap h'->Q v { s with heap:=h',toks:=tk' }) (hD:vs=[]->∀h' tk',Olds s.heap h'->Q d { s with heap:=h',toks:=tk' }):
  wpAny (model prog w) A (call (.builtin "min") [.ref l] [(Str.ofString "key",.ref q),(Str.ofString "default",d)]) Q E s:=by
 have hname:(toString "min" ++toString ".loop":String)="min.loop":=by decide
 obtain⟨ol,hol,_⟩:=id hl
 refine kmk_tree PySem.F.kind_min PySem.F.plain_min PySem.F.entry_min (zm5 _ _ _) ?_
 show wpAny _ A.in1 (Builtin.Builtins.bindParams "min" ["key","default"] 0 ⟨[],[(Str.ofString "key",.ref q),(Str.ofString "default",d)]⟩>>=_) _ _ s
 refine x6 (wpAny_of_eq (show Builtin.Builtins.bindParams "min" ["key","default"] 0 ⟨[],[(Str.ofString "key",.ref q),(Str.ofString "default",d)]⟩=pure [some (.ref q),some d]from rfl) ?_)
 refine x6 (xh (x6 (x27 hl (x6 (wpAny_newList ?_ (x08 _))))))
 rw[hname]
 generalize hH1:s.heap.push { cls:=.type "list_iterator",data:=.fields #[.ref l,.int 0 0] }=H1
 have zS:H1.objs.size=s.heap.objs.size+1:=by rw[<-hH1];exact size_push' ..
 have gI1:H1.get? s.heap.objs.size=some { cls:=.type "list_iterator",data:=.fields #[.ref l,.int 0 0] }:=by rw[<-hH1];exact xr _ rfl
 have k1:Olds s.heap H1:=by rw[<-hH1];exact Olds.push _ _
 have gS:(H1.push (seqObj "list" #[] 0)).get? H1.objs.size=some (seqObj "list" #[] 0):=xr _ rfl
 have gI:(H1.push (seqObj "list" #[] 0)).get? s.heap.objs.size=some { cls:=.type "list_iterator",data:=.fields #[.ref l,.int 0 0] }:=x9 _ gI1
 have K0:Olds s.heap (H1.push (seqObj "list" #[] 0)):=k1.trans (Olds.push _ _)
 have nI:s.heap.get? s.heap.objs.size=none:=x2h (xi _)
 have nS:s.heap.get? H1.objs.size=none:=x2h (by rw[zS];exact x2r _)
 have SI:H1.objs.size≠s.heap.objs.size:=by rw[zS];exact x17 (x0q _)
 have hlI:l≠s.heap.objs.size:=xu (xn hol)
 have lists:∀{h:Heap},Olds s.heap h->h.IsList l vs.toArray:=fun k=>by
  obtain⟨o,e,x⟩:=hl
  exact⟨o,k _ _ e,x⟩
 have W:=Walks.list (prog:=prog) (w:=w) (A:=A.in1) hh s.heap.objs.size l hlI vs.toArray
 have hsz:vs.toArray.size=vs.length:=xy ..
 refine xh ⟨x25 x1s _,x1b PySem.F.entry_min_loop ?_⟩
 rw[x15 x1s _]
 generalize hHS:H1.push (seqObj "list" #[] 0)=HS at gS gI K0⊢
 show wpAny _ A.in1 (seqItems? (.ref H1.objs.size)>>=fun _=>_) _ _ _
 refine x6 (wpAny_seqItems gS rfl ?_)
 show wpAny _ A.in1 (tryCatch (pyNext (.ref s.heap.objs.size)) _>>=fun _=>_) _ _ _
 cases evs:vs with
 |nil=>
  refine x6 (x2y (W.done _ _ _ ⟨by rw[hsz,evs];exact⟨_,gI,rfl,rfl⟩,lists K0⟩ fun h' tk' hk'=>?_))
  exact x6 (wpAny_rule (xh (hD evs _ _ (K0.but nI fun b o nb e=>hk' b o (by simpa using nb) e))))
 |cons v0 vr=>
  refine x6 (x2y (W.item 0 _ _ _ (by rw[hsz,evs];exact Nat.succ_pos _) ⟨⟨_,gI,rfl,rfl⟩,lists K0⟩ fun v h' tk' hP hst' hk'=>?_))
  have hv:vs[0]? =some v:=by simpa using hP
  have kI:∀b o,b≠s.heap.objs.size->HS.get? b=some o->h'.get? b=some o:=fun b o nb e=>hk' b o (by simpa using nb) e
  have K1:Olds s.heap h':=K0.but nI kI
  show wpAny _ A.in1 (tryCatch (holding [v] (call (.ref q) [v])) _>>=fun _=>_) _ _ _
  refine x6 (x2y (x0t (x0e (turn 0 v hv h' tk' K1) (fun x s'' he=>?_) fun _ _ hF=>hF.elim)))
  obtain⟨tn,tn2,p2,h2,tk2,rfl,rfl,keep,hp2,ho2⟩:=he
  have keep:Olds h' h2:=keep
  have hp2:h'.get? p2=none:=hp2
  have gS2:=keep _ _ (kI _ _ SI gS)
  obtain⟨oI,hoI,hoc,hod⟩:=id hst'.1
  have gI2:=keep _ _ hoI
  have n2S:p2≠H1.objs.size:=fun z=>by rw[z,kI _ _ SI gS]at hp2;cases hp2
  have n2I:p2≠s.heap.objs.size:=fun z=>by rw[z,hoI]at hp2;cases hp2
  have K2:Olds s.heap h2:=K1.trans keep
  have sb:=x0i h2 H1.objs.size (Obj.mapSeq fun _=>#[v,.ref p2])
  obtain⟨c2,hc2⟩:∃ c2,(h2.update H1.objs.size (Obj.mapSeq fun _=>#[v,.ref p2])).get? H1.objs.size=some (seqObj "list" #[v,.ref p2] c2):=⟨_,get?_update_seq gS2 fun _=>#[v,.ref p2]⟩
  show wpAny _ A.in1 (updateSeq H1.objs.size (fun _=>#[v,.ref p2])>>=fun _=>_) _ _ _
  refine x6 (wpAny_updateSeq gS2 rfl ?_)
  rw[hname]
  refine xh ⟨x25 x1s _,zod hh hu hl nI nS SI turn hQ _ 0 0 _ _ v p2 tn tn2 c2 rfl (by rw[evs];exact Nat.succ_pos _) (K2.but nS fun b o nb e=>(sb.2 b nb).trans e) hc2 ((sb.2 p2 n2S).trans ho2) n2S n2I ⟨oI,(sb.2 _ SI.symm).trans gI2,hoc,hod⟩ hv fun j hj=>?_⟩
  have e:j=0:=by omega
  subst e
  unfold zx
  have:¬((sf 0).cps.toList<(sf 0).cps.toList):=List.lt_irrefl _
  simp[this]
end
end PySem
end
section
namespace PySem
open PySem.W PySem.Spec PyProof.Rows
structure LamC(x y:Str)(params:Arguments)(scope:Scope):Prop extends LamX x params scope where
 free:scope.names.lookup y=some .free
 db2:(y==("__debug__":Str))=false
 cd:(y==("__classdict__":Str))=false
section
variable {prog:Program}{w:World}{A:Around}{E:Value->Shared->Prop}{s:Shared}
theorem lam_neg{qual x y:Str}{params:Arguments}{scope:Scope}{cl:List (Str×Addr)}{pm ctv:Value}{c' f c d:Addr}{z:Str}{tz:Tok}{n:Int}{tn:Tok}{x1:Nat}{p1 p2 p3 p4 p5 p6:Pos}{vs:List (L2.Key×Value)}(L:LamC x y params scope)(hroom:A.depth<recursionLimit)
  (ho:s.heap.get? f=some (kla_obj "<lambda>" qual params (.Tuple [.UnaryOp .USub (.Subscript (.Name y p1) (.Name x p2) p3) p4,.Name x p5] x1 p6) scope cl pm c' ctv)) (hcd:s.heap.CodeRec (.ref c') qual) (hlim:s.heap.NoLimit)
  (hc:cl.lookup y=some c) (hv:s.heap.IsCell c (some (.ref d))) (dd:s.heap.DictOf (L2.mixKind prog w) d vs) (hn:valueAt vs (Sum.inr z)=some (.int n tn)):
  wpAny (model prog w) A (call (.ref f) [.str z tz]) (fun k s'=>∃t t2,z49 s (.int (-n) t) (.str z t2) k s') E s:=by
 refine zf2 hroom ho hcd hlim (L.bind qual (.Name y p1) pm (.ref c') ctv _) L.co L.gen L.kind L.cell L.loc fun h₁ hns hk=>?_
 have hm:(fun y=>[(x,(Value.str z tz))].reverse.lookup y) x=some (.str z tz):=by simp
 have hv1:h₁.IsCell c (some (.ref d)):=by
  obtain⟨o,e,r⟩:=hv
  exact⟨o,hk _ _ e,r⟩
 have dd1:h₁.DictOf (L2.mixKind prog w) d vs:=by
  obtain⟨o,es,ep,e,r⟩:=dd
  exact⟨o,es,ep,hk _ _ e,r⟩
 refine wpAny_Tuple_spliced (x1k (UnaryOp_ (L2.subD_of PySem.F.slot_dict_getitem.lookup (fun _ _=>rfl)
  (wpAny_Name (wpAny_loadName_free L.kind L.free hc hv1 (wpAny_Name (wpAny_loadName_local L.kind L.loc hns hm ⟨dd1.typeIs,?_⟩) L.db) L.cd) L.db2))))
 refine wpAny_getItem_of (knd:=L2.mixKind prog w) (k:=Sum.inr z) (L2.kV_is ⟨tz,rfl⟩) dd1.mapOf hn ?_
 refine neg_int ?_
 refine x1k (wpAny_Name (wpAny_loadName_local L.kind L.loc hns hm (Calls.spliced_nil ⟨?_,?_⟩)) L.db)
 .show 2<=sizeLine
  decide
 .refine⟨_,_,h₁.objs.size,_,_,rfl,rfl,fun b o e=>x9 _ (hk b o e),?_,xr _ rfl⟩
  cases e:s.heap.get? h₁.objs.size with
  |none=>rfl
  |some o=>exact absurd (xn (hk _ _ e)) (x0o _)
end
end PySem
namespace L2
open PySem PySem.W PySem.Spec PyProof.Rows
noncomputable def zc4(K:PySem.W.Frag)(Pt:Addr)(pos:Pos)(qual:Str)(j:Nat)(te:TA):TE:=fun σ H Q=>te σ H fun xs H1=>∃(l d:Addr)(zs:List Str)(kvs:List (Key×V))(n:Str->Int),xs=[.ref l]/\SqL K H1 l (zs.map V.str)/\σ[j]? =some (some (V.ref d))/\H1 d=some (.dK kvs)/\
 (∀ z∈zs,valV kvs (Sum.inr z)=some (V.int (n z)))/\TbOk H1 Pt pos qual/\∀ H2,But1 Pt H1 H2->TbOk H2 Pt pos qual->(zs=[]->Q (.str "") H2)/\∀ z∈zs,(∀ z'∈zs,zx (-(n z')) z' (-(n z)) z=false)->Q (.str z) H2
section
variable {X:Cx}
theorem zk3{e:Expr}{ta:TA}{c Pt:Addr}{x y:Str}{j:Nat}{params:Arguments}{scope:Scope}{x1 kc:Nat}{p pos kp lp kp2 pc p1 p2 p3 p4 p5 p6:Pos}(hr:Room 1 X.A)(hc:X.calm=true)(hg:Gl X "min")(hm:X.mg "min"=none)(ha:PA X [e] ta)
  (hcode:X.env.code=.ref c) (hC:codeHdIn X.K c Pt=true) (BA:X.base.BuiltinsAt X.mg Pt) (hdef:defaultsOf params X.env=([],[])) (LX:LamC x y params scope) (hN:X.N[j]? =some y) (hky:X.env.kindOf y=some .cell) (hvis:Vis X.env.scope y)
  (hfree:∀q∈scope.names,q.2=.free->X.env.kindOf q.1=some .cell\/X.env.kindOf q.1=some .free)
  (he:backTo pos (starEach [e] X.env)=(false,eval e X.env)::backTo pos (starEach [] X.env):=by rfl) (hpl:(backTo pos (starEach [e] X.env)).any (·.1)=false:=by rfl):
  PE X (.Call (.Name "min" p) [e] [⟨some (Str.ofString "key"),.Lambda params (.Tuple [.UnaryOp .USub (.Subscript (.Name y p1) (.Name x p2) p3) p4,.Name x p5] x1 p6) scope lp,kp⟩,⟨some (Str.ofString "default"),.Constant (.str (Str.ofString "")) kc pc,kp2⟩] pos) (zc4 X.K Pt lp (X.env.qual++ "<lambda>") j ta):=by
 intro pins s σ H Q I h
 refine x22 (z57 I hg hm boot_min ?_)
 refine callWith_kw (thn (ha pos pins s σ H _ I h) fun us s1 ⟨vs,H1,I1,r1,q1⟩=>?_) he hpl (by rfl) (by rfl)
 obtain⟨l,d,zs,kvs,n,e1,hl,hj,hd,hz,hT,q⟩:=q1
 subst e1
 obtain⟨u,rfl,ru⟩:=z2o r1
 cases ru
 have has:∀q∈scope.names,q.2=.free->∃c,X.env.cells.lookup q.1=some c:=fun q hq hf=>I1.ok.has q.1 (hfree q hq hf)
 have hcl:closureFor scope X.env=pure (z22 X.env scope.names []):=z5f has
 obtain⟨cc,hcc⟩:=z3m (env:=X.env) (cs:=[]) (x13 LX.free)
 have hcc2:X.env.cells.lookup y=some cc:=z5g has (fun _ _ e=>by simp at e) hcc
 refine kws_cons (zf3 I1 hcode hC BA hT hdef hcl fun f c' ctv pm H2 s2 I2 hf hcd hT2 hB hf0=>kws_cons (wpAny_Constant_str (kws_nil ?_)))
 show wpAny _ _ (call (.builtin "min") [.ref l] [(Str.ofString "key",.ref f),(Str.ofString "default",.str (Str.ofString "") s2.toks)]) _ _ _
 have hP0:∃ps,H1 Pt=some (.tbl ps):=hT.some
 have kB:∀{b:Addr}{o:HO},H1 b=some o->(∀ps,o≠.tbl ps)->H2 b=some o:=fun{b o} z k=>hB _ _ z fun y=>by
  obtain⟨ps,hp⟩:=hP0
  rw[y,hp]at z
  cases z
  exact k _ rfl
 have hl2:SqL X.K H2 l (zs.map V.str):=by
  rcases hl with(z|⟨o,z⟩)|z
  .exact .inl (.inl (kB z (by intros;nofun)))
  .exact .inl (.inr ⟨o,kB z (by intros;nofun)⟩)
  .exact .inr z
 obtain⟨its,rv,pl,hzs⟩:=I2.list hl2
 have hd2:=kB hd (by intros;nofun)
 obtain⟨zk,hsm,vs,rel,dd⟩:=zid I2.hok hd2
 obtain⟨m,hn,hloc⟩:=id I2.loc
 obtain⟨u,ru,lk⟩:=hloc j y (.ref d) hN hj hvis
 obtain rfl:u=Value.ref d:=ru
 have cell:s2.heap.IsCell cc (some (.ref d)):=by
  rcases lk with⟨hk,_⟩|⟨_,c2,hc2,z⟩
  .rw[hky]at hk;cases hk
  .rw[hcc2]at hc2;cases hc2;exact z
 have textAt:∀(i:Nat)(v:Value),its[i]? =some v->∃z t,zs[i]? =some z/\v=.str z t:=fun i v hv=>by
  have hlen:its.length=zs.length:=by have:=rv.length;rw[x5]at this;exact this.symm
  have hi:i<zs.length:=by rw[<-hlen];exact(xl.mp hv).1
  obtain⟨w',q1,t,q2⟩:=rv.get (show(zs.map V.str)[i]? =some (V.str zs[i]) by rw[xj,x8 hi];rfl)
  rw[hv]at q1;cases q1
  exact⟨zs[i],t,x8 hi,q2⟩
 have sfz:∀ i z,zs[i]? =some z->zs.getD i ""=z:=fun i z e=>by rw[xo,e];rfl
 refine PySem.min_pair (s:={ s2 with toks:=s2.toks+1 }) (vs:=its) (kf:=fun i=>-(n (zs.getD i ""))) (sf:=fun i=>zs.getD i "") (I2.ok.hd hc) hr.in1.units0 pl.isList (fun i v hv h tk K=>?_) (fun i v h' tk' hv best K=>?_) fun en h' tk' K=>?_
 .obtain⟨z,t,ez,rfl⟩:=textAt i v hv
  have e2:=sfz i z ez
  have mz:=xf ez
  obtain⟨w',hw,rw'⟩:=RelO.some_of (v:=V.int (n z)) (o:=valueAt vs (Sum.inr z)) (by rw[<-hz z mz];exact rel.val (Sum.inr z))
  obtain⟨tn,rfl⟩:=rw'
  have dd':h.DictOf (mixKind X.prog X.w) d vs:=by
   obtain⟨o,es,ep,e,r⟩:=dd
   exact⟨o,es,ep,K _ _ e,r⟩
  have cell':h.IsCell cc (some (.ref d)):=by
   obtain⟨o,e,r⟩:=cell
   exact⟨o,K _ _ e,r⟩
  have cd':h.CodeRec (.ref c') (X.env.qual++ "<lambda>"):=hcd.keeps K
  refine x0e (PySem.lam_neg (A:=X.A.in1) (s:={ s2 with heap:=h,toks:=tk }) LX hr.in1.depth (K _ _ hf) cd' (I2.nolimit.keeps K) hcc cell' dd' hw) (fun k s' hk=>?_) fun _ _ z=>z
  dsimp only
  rw[e2]
  exact hk
 .obtain⟨z,t,ez,rfl⟩:=textAt i v hv
  have e2:=sfz i z ez
  refine⟨.str z,H2,I2.kept (t':=tk') K,⟨t,rfl⟩,(q H2 hB hT2).2 z (xf ez) fun z' mz'=>?_⟩
  obtain⟨i',hi'⟩:=List.getElem?_of_mem mz'
  have hlen:its.length=zs.length:=by have:=rv.length;rw[x5]at this;exact this.symm
  have b:=best i' (by rw[hlen];exact(xl.mp hi').1)
  dsimp only at b
  rw[sfz i' z' hi',e2]at b
  exact b
 .have ez:zs=[]:=by
   have hlen:its.length=zs.length:=by have:=rv.length;rw[x5]at this;exact this.symm
   rw[en]at hlen
   exact x1i.mp hlen.symm
  exact⟨.str "",H2,I2.kept (t':=tk') K,⟨_,rfl⟩,(q H2 hB hT2).1 ez⟩
end
end L2
end
section
namespace PySem
open PyProof.Rows
section
variable {prog:Program}{w:World}{A:Around}{E:Value->Shared->Prop}{s:Shared}
end
end PySem
namespace L2
open PySem PySem.Spec PyProof.Rows
section
variable {X:Cx}
end
end L2
end
section
namespace L2
open PySem PySem.Spec PyProof.Rows
noncomputable def MDefC(K:PySem.W.Frag)(C:Addr)(m qual:Str)(st:Stmt)(ps:List Str)(c:Addr):Prop:=
 ∃(f:Addr)(oc:Value)(od:Option Addr)(kV doc pm:Value)(an:Option Addr)(ct:Value)(osl:Array (Option Value)),K.lookup f=some ⟨oc,od,.func (PySem.W.fnOf m qual (z24 st) (z1j st) (zg st) .none kV doc pm an (.ref c) ct),osl⟩/\
  PySem.W.codeIn K (.ref c) qual=true/\Meth K C m f/\Binds K (PySem.W.fnOf m qual (z24 st) (z1j st) (zg st) .none kV doc pm an (.ref c) ct) ps []
theorem MDefC.ok{P:Program}{w:World}{K:PySem.W.Frag}{mg:Str->Option Value}{base:Heap}{C:Addr}{m qual:Str}{st:Stmt}{N ps:List Str}{k:Nat}{sp:Sp}{c:Addr}(D:MDefC K C m qual st ps c)(S:FnScope N ps (zg st))(len:∀vs H Q E,sp vs H Q E->vs.length=ps.length)
  (hbody:∀(f:Addr)(A:Around)(outer:List Env)(s:Shared)(H:Hp)(vs:List V)(Q:VK)(E:XK),Room k (A.deeper (envOfC qual (zg st) s.heap.objs.size f (.ref c)))->sp vs H Q E->
   ∃t,PSs (cxOf CX0 P w K mg base N qual (zg st) f (.ref c) A outer s H E).nox (z1j st) t/\t { nx:=fun _ H'=>Q .non H',rt:=Q } (start N vs) H):MHas P w K mg base CX0 (k+1) C m ps sp:=by
 obtain⟨f,oc,od,kV,doc,pm,an,ct,osl,lk,hcd,hm,hb⟩:=D
 refine⟨f,_,zhy lk hcd S len fun A outer s H vs Q E hr hsp=>?_,hm,hb⟩
 obtain⟨t,h,q⟩:=hbody f A outer s H vs Q E hr hsp
 exact⟨t,h.nox,q⟩
section
variable {X:Cx}
theorem zk4{xs:List V}{its:List Value}{x:V}(r:Vals xs its)(fs:xs.all z2j=true){m:Nat}(hm:m<its.toArray.size):eqU x its.toArray[m]=eqV (xs.getD m .non) x:=by
 have hm':m<its.length:=by simpa using hm
 have hl:=r.length
 have e:xs[m]? =some xs[m]:=x8 (by omega)
 obtain⟨u,e1,e2⟩:=r.get e
 rw[x8 hm']at e1
 rw[xo,e]
 show eqU x its.toArray[m]=eqV xs[m] x
 rw[<-zei e2 (x2u.mp fs _ (x2v _)),<-xq e1]
 simp
noncomputable def znh(K:PySem.W.Frag):V->List V->Hp->VK->Prop:=fun x vs H Q=>∃(l:Addr)(xs:List V)(j:Nat)(y:V),x=.ref l/\vs=[y]/\SqL K H l xs/\z2j y=true/\xs.all z2j=true/\j<xs.length/\eqV (xs.getD j .non) y=true/\(∀m,m<j->eqV (xs.getD m .non) y=false)/\Q (.int j) H
theorem zk5:MtM X "list.index" (znh X.K):=by
 intro pins s σ H x vs v us Q I rx rv h
 obtain⟨l,xs,j,y,rfl,rfl,hl,fy,fs,hj,hit,hno,q⟩:=h
 cases rx
 obtain⟨u,rfl,ru⟩:=z2o rv
 obtain⟨its,r,pl,hz⟩:=I.list hl
 have hlen:=r.length
 obtain⟨⟨cls,dd,data,sl⟩,n,ho,hc,hd,hs⟩:=id pl
 simp only at hc hd hs
 subst hc hs
 have hj2:j<its.toArray.size:=by simpa using(show j<its.length by omega)
 have hj3:(j:Int)<2 ^ 63-1:=by rw[x1v]at hz;omega
 refine call_meets PySem.F.slot_list_index ⟨_,ho,rfl⟩ PySem.F.entry_list_index (PySem.F.args_list_index_2 _ _)
  (SeqAt.list_indexAt l its.toArray n dd sl u (eqU y) j hj2 hj3 (by rw[zk4 r fs];exact hit) (fun m hm hlt=>by rw[zk4 r fs];exact hno m hlt)) ⟨ho,fun w hw=>z4q ru fy r fs w (by simpa using hw),?_⟩
 exact⟨.int j,H,I.tok _,⟨_,rfl⟩,q⟩
end
end L2
end
section
namespace PySem
theorem zff:typeLookup (.type "list") "keys"=pure none:=by rw[typeLookup_type,builtinLookup_eq_fast];kernel_rfl
theorem z89{prog:Program}{w:World}{A:Around}{E:Value->Shared->Prop}{s:Shared}{a:Addr}{o:Obj}{xs:Array Value}{k:Nat}{name:Str}{Q:Option Value->Shared->Prop}
  (hx:s.heap.get? a=some o) (hc:o.cls=.type "list") (hdat:o.data=.seq xs k) (hd:o.dict=none) (hmiss:typeLookup (.type "list") name=pure none) (hname:(["__module__","__name__","__qualname__","__doc__","__annotations__"]:List Str).contains name=false) (hA:A.handled=none)
  (h:∀ h' tk e,Heap.NewExcOf s.heap h' e "AttributeError"->Q none { s with heap:=h',toks:=tk }) (hsz:name.length+100<=sizeLine:=by size_fits):
  wpAny (model prog w) A (getAttr? (.ref a) name) Q E s:=by
 obtain⟨c,dct,dat,sl⟩:=o
 simp only at hc hdat hd
 subst hc hdat hd
 obtain⟨hp,g,d,tk,os⟩:=s
 have hT:∀ tk',(⟨hp,g,d,tk',os⟩:Shared).TypeIs (.ref a) "list":=fun _=>⟨_,hx,rfl⟩
 have f1:=sub_AttributeError
 have f3:=F.slot_list_getattribute.lookup
 have f4:=F.slot_list_getattribute.bind (.ref a)
 have f5:=am_list_getattr_none
 unfold getAttr? getAttrBy? getAttrBy
 repeat (any_goals (first|assumption|exact hT _|((with_reducible show wpAny _ _ (call (Value.builtin "list.__getattribute__") _ _) _ _ _);refine call_meets F.slot_list_getattribute (hT _) am_entry_list_getattribute (F.args_list_getattribute_2 _ _) (meets_getattribute_miss_list a xs k sl name _ hmiss hname hsz) ⟨hx,hA,fun h' tk' e hx'=>?_⟩)|wp_step))
 obtain⟨t',u',he⟩:=hx'.there
 show wpAny _ _ (getattributeRaised _ _ _ _ _ _ _) _ _ _
 unfold getattributeRaised
 repeat (any_goals (first|assumption|wp_step))
 exact h _ _ _ hx'.of
end PySem
end
section
namespace PySem
theorem z62:entryFor table "dict.update.loop"=some Builtin.«dict.update.loop»:=entryFor_of_tree (by kernel_rfl)
theorem z38:plainId "dict.update.loop"=true:=by decide+kernel
theorem stored_len{K:Type}[DecidableEq K](kvs:List (K×Value))(k:K)(v:Value):(stored kvs k v).length<=kvs.length+1:=by
 unfold stored
 split
 .simp
 .simp
theorem zb6{K:Type}[DecidableEq K]:∀(more kvs:List (K×Value)),(merged kvs more).length<=kvs.length+more.length
 |[],kvs=>xi _
 |a::more,kvs=>by
  show(merged (stored kvs a.1 a.2) more).length<=_
  have h1:=zb6 more (stored kvs a.1 a.2)
  have h2:=stored_len kvs a.1 a.2
  simp only[x09]
  omega
section
open L2
variable {prog:Program}{w:World}{A:Around}{R:Result->Shared->Prop}{I l d:Addr}{h0:Heap}
theorem z91(hh:A.in1.handled=none)(hlI:l≠I)(hdI:d≠I)(hdl:d≠l)(items:Array Value)(ps:List (Key×Value))(hn:ps.length=items.size)(hsz:ps.length<=sizeLine)
  (T:∀(j:Nat) (kv:Key×Value) (v:Value),items[j]? =some v->ps[j]? =some kv->∃(a:Addr) (o:Obj) (e:Nat) (key:Value),v=.ref a/\a≠I/\a≠d/\h0.get? a=some o/\o.cls=.type "tuple"/\o.data=.seq #[key,kv.2] e/\(mixKind prog w).is kv.1 key=true):
  ∀(k j:Nat)(s:Shared)(i:Int),items.size-j=k->j<=items.size->s.heap.IsListIter I l j/\s.heap.IsList l items->s.heap.DictOf (mixKind prog w) d (merged [] (ps.take j))->
  (∀b o,h0.get? b=some o->b≠I->b≠d->s.heap.get? b=some o)->
  (∀h' tk,h'.DictOf (mixKind prog w) d (merged [] ps)->(∀b o,h0.get? b=some o->b≠I->b≠d->h'.get? b=some o)->R (.ok (.ret .none)) { s with heap:=h',toks:=tk })->
  codeAny (model prog w) A (.builtin "dict.update.loop" ⟨[.ref d,.ref I,.int i 0,.none],[]⟩) R s:=by
 have W:=Walks.list (prog:=prog) (w:=w) (A:=A.in1) hh I l hlI items
 intro k
 induction k with
 |zero=>
  intro j s i hk hj hst hD hK hR
  have hin:j=items.size:=by omega
  refine x1b z62 ?_
  rw[x15 z38 _]
  show wpAny _ A.in1 (pyNext (.ref I)>>=_) _ _ s
  refine x6 (W.done s _ _ (hin▸hst) fun h' tk hk'=>?_)
  have hDI:∀b∉[I],b≠I:=fun b hb z=>hb (by rw[z];exact xg.mpr rfl)
  have e:ps.take j=ps:=x0d (by omega)
  rw[e]at hD
  show wpAny _ _ (Builtin.Dict.addKeywords d []>>=_) _ _ _
  refine x6 (xh (xh (hR h' tk ?_ fun b o hb n1 n2=>hk' b o (fun z=>n1 (by simpa using z)) (hK b o hb n1 n2))))
  obtain⟨od,es,ep,ho,r⟩:=hD
  exact⟨od,es,ep,hk' d od (fun z=>hdI (by simpa using z)) ho,r⟩
 |succ k ih=>
  intro j s i hk hj hst hD hK hR
  have hlt:j<items.size:=by omega
  refine x1b z62 ?_
  rw[x15 z38 _]
  show wpAny _ A.in1 (pyNext (.ref I)>>=_) _ _ s
  refine x6 (W.item j s _ _ hlt hst fun v h' tk hP hst' hk'=>?_)
  have hP:items[j]? =some v:=hP
  have hpj:ps[j]? =some (ps[j]'(by omega)):=x8 (by omega)
  obtain⟨a,o,e,key,rfl,na,nd,ho,hc,hdt,hkey⟩:=T j _ v hP hpj
  have ho':=hk' a o (fun z=>na (by simpa using z)) (hK a o ho na nd)
  show wpAny _ _ (holding [Value.ref a] _>>=_) _ _ _
  have hT:({ s with heap:=h',toks:=tk }:Shared).TypeIs (.ref a) "tuple":=⟨_,ho',hc⟩
  refine x6 (x0t (x6 (x2y ?_)))
  unfold Builtin.Dict.pairItems
  refine x6 (wpAny_typeOf hT ?_)
  simp only[show(Value.type "tuple"==Value.type "list" ||Value.type "tuple"==Value.type "tuple")=true from by decide,if_true]
  refine x6 (wpAny_seqItems ho' hdt (xh ?_))
  show wpAny _ _ (holding [key,(ps[j]'(by omega)).2] (dictSet d key (ps[j]'(by omega)).2)) _ _ _
  have hD':h'.DictOf (mixKind prog w) d (merged [] (ps.take j)):=by
   obtain⟨od,es,ep,ho,r⟩:=hD
   exact⟨od,es,ep,hk' d od (fun z=>hdI (by simpa using z)) ho,r⟩
  refine x0t (wpAny_dictSet_pairs hkey hD' (fun h2 hD2 hs2=>?_) ?_)
  .refine xh ⟨x25 z38 _,ih (j+1) _ _ (by omega) hlt (W.frame _ _ _ hst' fun b hb o2 e2=>?_) ?_ (fun b o2 hb n1 n2=>?_) fun h3 tk3 hD3 hK3=>?_⟩
   .have nb:b≠d:=by
     rcases xk.mp hb with z|z
     .rw[z];exact hdI.symm
     .have:b=l:=by simpa using z
      rw[this];exact hdl.symm
    exact(hs2.2 b nb).trans e2
   .rw[merged_take_succ _ _ _ _ hpj]
    exact hD2
   .exact(hs2.2 b n2).trans (hk' b o2 (fun z=>n1 (by simpa using z)) (hK b o2 hb n1 n2))
   .exact hR h3 tk3 hD3 hK3
  .refine x01 (zb6 _ _) ?_
   rw[x07]
   simp only[x2n]
   omega
end
end PySem
namespace L2
open PySem PySem.Spec PyProof.Rows
section
variable {X:Cx}
theorem zda{pins:List (Addr×Obj)}{σ:St}{H:Hp}{s:Shared}(I:Inv X pins σ H s):∀L:List (Addr×Key×V),(∀q∈L,H q.1=some (.tup [kV q.2.1,q.2.2]))->
  ∃ ps:List (Key×Value),KV (L.map (·.2)) ps/\ps.length=L.length/\∀(j:Nat) q kv,L[j]? =some q->ps[j]? =some kv->∃(o:Obj) (e:Nat) (key:Value),s.heap.get? q.1=some o/\o.cls=.type "tuple"/\o.data=.seq #[key,kv.2] e/\(mixKind X.prog X.w).is kv.1 key=true
 |[],_=>⟨[],.nil,rfl,fun j q kv e=>by simp at e⟩
 |q::L,h=>by
  obtain⟨ps,k1,k2,k3⟩:=zda I L fun x hx=>h x (xx _ hx)
  obtain⟨its,r,⟨o,ho,hc,n,hd⟩,_⟩:=I.tuple (SqT.of (h q (xp ..)))
  cases r with
  |@cons a b as bs h1 t1=>
   cases t1 with
   |@cons a' b' as' bs' h2 t2=>
    cases t2
    refine⟨(q.2.1,b')::ps,.cons ⟨rfl,h2⟩ k1,by simp[k2],fun j x kv e1 e2=>?_⟩
    cases j with
    |zero=>
     simp at e1 e2
     subst e1 e2
     exact⟨o,n,b,ho,hc,hd,kV_is h1⟩
    |succ j=>exact k3 j x kv (by simpa using e1) (by simpa using e2)
theorem z4g(hc:X.calm=true):CallR X (.type "dict") (fun xs H Q=>∃ p L,xs=[.ref p]/\SqL X.K H p ((L:List (Addr×Key×V)).map fun q=>V.ref q.1)/\(∀ q∈L,H q.1=some (.tup [kV q.2.1,q.2.2]))/\∀ d,H d=none->Q (.ref d) (upd H d (.dK (z30 [] (L.map (·.2)))))):=by
 intro pins s σ H xs us Q I r h
 obtain⟨p,L,rfl,hp,hL,q⟩:=h
 obtain⟨u,rfl,ru⟩:=z2o r
 cases ru
 obtain⟨its,r1,⟨ol,n,hol,hcl,hdl,hsl⟩,hz⟩:=I.list hp
 obtain⟨ps,k1,k2,k3⟩:=zda I L hL
 have hl:=r1.length
 rw[x5]at hl hz
 have hlt:p<s.heap.objs.size:=xn hol
 refine callType_codes (Q₁:=fun obj s₁=>obj=.ref s.heap.objs.size/\s₁={ s with heap:=s.heap.push { cls:=.type "dict",data:=.dict #[] } }) F.kt_called_dict (F.kt_typeCall_dict_1 _) F.entry_dict_init (kt_code_dict_new _ ⟨rfl,rfl⟩) ?_
 rintro obj s₁ ⟨rfl,rfl⟩
 have hnew:(s.heap.push { cls:=.type "dict",data:=.dict #[] }).DictOf (mixKind X.prog X.w) s.heap.objs.size []:=Heap.DictOf.new s.heap
 have hol1:=x9 (h:=s.heap) { cls:=.type "dict",data:=.dict #[] } hol
 refine⟨hnew.typeIs,F.args_dict_init_2 _ _,?_⟩
 unfold Builtin.«dict.__init__»
 refine x6 ?_
 unfold Builtin.Dict.selfAndRest
 refine x6 (wpAny_notOrdered_dict hnew.typeIs ?_)
 show wpAny _ _ (pure (s.heap.objs.size,[Value.ref p])) _ _ _
 refine xh ?_
 show wpAny _ _ (Builtin.Dict.updateFrom "dict.__init__" s.heap.objs.size (.ref p) [] .none) _ _ _
 unfold Builtin.Dict.updateFrom
 refine x6 (wpAny_typeOf (show Shared.TypeIs _ (.ref p) "list" from⟨_,hol1,hcl⟩) ?_)
 rw[if_pos (by decide)]
 refine x6 (z89 hol1 hcl hsl hdl zff (by decide+kernel) (by exact I.ok.hd hc) (fun h2 tk2 e2 hx2=>?_) (by decide+kernel))
 have hol2:=hx2.keeps _ _ hol1
 have hpl2:PlainL h2 p its.toArray:=⟨ol,n,hol2,hcl,hdl,hsl⟩
 show wpAny _ _ (pyIter (.ref p)>>=_) _ _ _
 refine x6 (x27 (s:={ s with heap:=h2,toks:=tk2 }) hpl2.isList ?_)
 have hlt2:s.heap.objs.size<h2.objs.size:=by
  obtain⟨od,es,ep,ho,_⟩:=hnew
  exact xn (hx2.keeps _ _ ho)
 refine xh ⟨x25 z38 _,?_⟩
 have hnew3:(h2.push { cls:=.type "list_iterator",data:=.fields #[.ref p,.int 0 0] }).DictOf (mixKind X.prog X.w) s.heap.objs.size (merged [] (ps.take 0)):=by
  obtain⟨od,es,ep,ho,r⟩:=hnew
  exact⟨od,es,ep,x9 _ (hx2.keeps _ _ ho),r⟩
 have hps:p≠h2.objs.size:=xu (xn hol2)
 refine z91 (I:=h2.objs.size) (l:=p) (d:=s.heap.objs.size) (h0:=s.heap) (by exact I.ok.hd hc) hps (xu hlt2) (x17 hlt) its.toArray ps (by rw[k2,hl,xy]) (by rw[k2];exact hz) ?_ _ 0 _ 0 rfl (x08 _)
  ⟨⟨_,xr _ rfl,rfl,rfl⟩,⟨ol,x9 _ hol2,hcl,n,hsl⟩⟩ hnew3 (fun b o e n1 n2=>x9 _ (hx2.keeps _ _ (x9 _ e))) fun h3 tk3 hD3 hK3=>?_
 .intro j kv v e1 e2
  have e0:its[j]? =some v:=by simpa using e1
  have hj:j<its.length:=(xl.mp e0).1
  have g1:L[j]? =some (L[j]'(by omega)):=x8 (by omega)
  have g2:(L.map fun q=>V.ref q.1)[j]? =some (V.ref (L[j]'(by omega)).1):=by rw[xj,g1];rfl
  obtain⟨w',q1,q2⟩:=r1.get g2
  rw[e0]at q1
  cases q1
  cases q2
  obtain⟨o,e,key,ho,hc',hd',hi⟩:=k3 j _ kv g1 e2
  have hb:=xn ho
  exact⟨_,o,e,key,rfl,xu (x1r hb hlt2),xu hb,ho,hc',hd',hi⟩
 .refine⟨rfl,?_⟩
  have kk:KV (z30 [] (L.map (·.2))) (merged [] ps):=KV.merge k1 .nil
  have zz:(z30 [] (L.map (·.2))).length<=sizeLine:=x01 (z7f _ _) (by simpa using hz)
  refine⟨.ref _,_,I.laid (a:=s.heap.objs.size) (o:=.dK (z30 [] (L.map (·.2)))) (t':=tk3) (fun b o hb=>?_) (xi _) (zjp zz (x1e.mpr (Ne.symm (xu I.big))) kk hD3),rfl,q _ I.fresh⟩
  have hb':=xn hb
  exact hK3 b o hb (xu (x1r hb' hlt2)) (xu hb')
end
end L2
end
section
namespace L2
open PySem PySem.Spec PyProof.Rows
noncomputable def Itv(K:PySem.W.Frag)(a:Addr)(n:Nat):It:=
 ⟨fun i H=>i<n/\∃xs,SqL K H a xs/\xs.length=n,fun i H x H'=>H'=H/\∀xs,SqL K H a xs->xs[n-1-i]? =some x,fun i _=>n<=i⟩
theorem zm6{P:Program}{w:World}{K:PySem.W.Frag}{tg:Expr}(a it:Addr)(n:Nat):Turn P w K tg (Itv K a n) [it] it (fun i h=>i<=n/\h.IsRevIter it a ((n:Int)-1-(i:Int))) where
 mem:=by simp
 obj:=fun i h st b hb=>by
  have e:b=it:=by simpa using hb
  subst e
  obtain⟨_,o,e,c,d⟩:=st
  exact⟨o,e,fun v z=>by rw[d]at z;cases z⟩
 keep:=fun i h h' st k=>⟨st.1,st.2.at fun o e=>k it (by simp) o e⟩
 item:=by
  intro X hP hw hK hc i pins s σ H E I hf st hg
  subst hP hw hK
  obtain⟨hi,xs,hq,hx⟩:=hg
  obtain⟨its,rv,p,hz⟩:=I.list hq
  have hg:xs[n-1-i]? =some (xs[n-1-i]'(by omega)):=x8 (by omega)
  generalize(xs[n-1-i]'(by omega))=x at hg
  obtain⟨u,hu,ru⟩:=rv.get hg
  obtain⟨f0,f1,f2,f3,f4,f5⟩:=hf it (by simp)
  have ei:(n:Int)-1-(i:Int)=((n-1-i:Nat):Int):=by omega
  have hit:=st.2
  rw[ei]at hit
  refine wpAny_pyNext_rev_item hit p.isList (x:=u) (by simpa using hu) fun h' st' sb=>?_
  have I1:Inv X pins σ H { s with heap:=h' }:=I.turned (t':=s.toks) (fun b o hb e=>(sb.2 b hb).trans e) f0 f1 f3 f4 f5
  have e2:((n-1-i:Nat):Int)-1=(n:Int)-1-((i+1:Nat):Int):=by omega
  rw[e2]at st'
  obtain⟨o,e,c,d⟩:=id st'
  exact⟨u,rfl,zaj (s:={ s with heap:=h' }) e c d (by decide) ⟨x,H,I1,ru,⟨rfl,fun ys hy=>by rw[I.list_inj hy hq];exact hg⟩,⟨by omega,st'⟩,fun b hb=>(hf b hb).1⟩⟩
 done:=by
  intro X hP hw hK hc i pins s σ H E I hf st hg
  subst hP hw hK
  have hg:n<=i:=hg
  have hi:i=n:=Nat.le_antisymm st.1 hg
  obtain⟨f0,f1,f2,f3,f4,f5⟩:=hf it (by simp)
  have hit:=st.2
  have e:(n:Int)-1-(i:Int)= -1:=by omega
  rw[e]at hit
  exact wpAny_pyNext_rev_end (I.ok.hd hc) hit fun h' eb=>⟨rfl,I.turned (t':=s.toks) (fun b o hb e=>eb b o hb e) f0 f1 f3 f4 f5⟩
 self:=fun _ _ _ _ _ st h=>wpAny_pyIter_revIter st.2 h
section
variable {X:Cx}{tg:Expr}
noncomputable def iRev(K:PySem.W.Frag)(ta:TA):TI:=fun σ H R=>ta σ H fun vs H1=>∃a xs,vs=[.ref a]/\SqL K H1 a xs/\R (Itv K a xs.length) H1
theorem zdp:bootBuiltins "reversed"=some (.type "reversed"):=by decide+kernel
theorem zoe{a:Expr}{ta:TA}{p pos:Pos}(hg:Gl X "reversed")(hm:X.mg "reversed"=none)(ha:PA X [a] ta)(hs:starEach [a] X.env=[(false,eval a X.env)]:=by rfl):PI X tg (.Call (.Name "reversed" p) [a] [] pos) (iRev X.K ta):=by
 intro pins s σ H R I h
 refine Call_ (z57 I hg hm zdp (PyProof.Rows.callWith_type1 (thn (ha pos pins s σ H _ I h) fun us s1 ⟨vs,H1,I1,r1,q1⟩=>?_) hs rfl))
 obtain⟨b,xs,e,hq,q⟩:=q1
 subst e
 obtain⟨u,rfl,ru⟩:=r1.one
 cases ru
 obtain⟨its,rv,pl,hz⟩:=I1.list hq
 refine call_reversed_list pl.isList ?_
 have hl:=rv.length
 have hsz:((its.toArray.size:Nat):Int)-1=(xs.length:Int)-1-((0:Nat):Int):=by rw[xy];omega
 have st:(s1.heap.push (revObj b ((its.toArray.size:Int)-1))).IsRevIter s1.heap.objs.size b ((xs.length:Int)-1-((0:Nat):Int)):=⟨_,xr _ rfl,rfl,by rw[<-hsz];rfl⟩
 refine wpAny_pyIter_revIter (s:={ s1 with heap:=s1.heap.push (revObj b ((its.toArray.size:Int)-1)) }) st ?_
 refine⟨s1.heap.objs.size,[s1.heap.objs.size],_,_,H1,rfl,I1.kept (t':=s1.toks) fun b o e=>x9 _ e,zm6 b _ xs.length,⟨x08 _,st⟩,fun c hc=>?_,q⟩
 have e:c=s1.heap.objs.size:=by simpa using hc
 subst e
 exact I1.fpOk (xi _) (I1.hok.fresh (xi _))
end
theorem zk6{K:PySem.W.Frag}{a:Addr}{xs:List V}{g:TG}{tb:TS}{D:Ends}{σ:St}{H:Hp}(sp:Nat->St->Hp->Prop)(h0:sp 0 σ H)(hl:∀i σ H,i<=xs.length->sp i σ H->SqL K H a xs)
  (hs:∀(Pv:Nat->St->Hp->Prop),(∀i σ H,sp i σ H->Pv i σ H)->∀i x σ H,i<xs.length->xs[xs.length-1-i]? =some x->sp i σ H->g x σ H fun σ2 H2=>tb { D with nx:=Pv (i+1),ct:=Pv (i+1),bk:=D.nx } σ2 H2) (hd:∀σ H,sp xs.length σ H->D.nx σ H):ze3 (Itv K a xs.length) g tb D σ H:=by
 refine⟨fun i m σ H=>m=xs.length-i/\i<=xs.length/\sp i σ H,⟨xs.length,by simp,x08 _,h0⟩,?_⟩
 rintro i m σ H ⟨rfl,hi,p⟩
 have q:=hl i σ H hi p
 by_cases hlt:i<xs.length
 .refine .inr ⟨⟨hlt,xs,q,rfl⟩,sp (i+1),fun σ' H' p'=>⟨xs.length-(i+1),by omega,rfl,hlt,p'⟩,fun x H' y=>?_⟩
  obtain⟨e,y⟩:=y
  subst e
  exact hs sp (fun _ _ _ h=>h) i x σ _ hlt (y xs q) p
 .have e:i=xs.length:=by omega
  subst e
  exact .inl ⟨xi _,hd σ H p⟩
theorem zfg{X:Cx}:CallR X (.builtin "len") (fun xs H Q=>∃ a D,xs=[.ref a]/\H a=some (eso (PySem.strKind X.prog X.w) a D)/\Q (.int ((D.length:Nat))) H):=by
 intro pins s σ H xs us Q I r h
 obtain⟨a,D,rfl,ha,q⟩:=h
 obtain⟨u,rfl,ru⟩:=z2o r
 cases ru
 obtain⟨T,-,-⟩:=(show ObjOk X.prog X.w H s.heap a (eso (PySem.strKind X.prog X.w) a D) from I.hok a _ ha)
 obtain⟨o,es,ep,t,ho,hx,hd,he,hm,hb,hf,hn,hl,hp⟩:=T
 refine PySem.call_len_set ho hx hd hf (by have:scanBound=4096:=rfl;omega) ⟨.int (D.length:Nat),H,(I.tok _).tok _,⟨_,by rw[hn]⟩,q⟩
end L2
end
namespace Fg
open PySem L2
local macro_rules | `(tactic| walk_at "rd") => `(tactic| ((try dsimp only [cxOf, L2.start, tSeq, zhp, tAsg, tBM, zah, gNil, zhr, tRet, tIfS, zhq, tOp, tUn, tSl, zhz, zbr, zec, zhl, tCB, ze1, tNil, tTup, tLst, tVar, tC, ze0, tB, tAnd, tOr, tNot, zhn, tOrV, zho, zam, ze2, tFld, sFld, z8r, z8s, gTup, zev, zet, zeu, zez, zb0, zbz, zf0, tDIn, zc4, z9z, iRev, zbq, rAdd, zie, zek, zcw, zdz, iStr, zcx, zaw, zcz, tYes, capt, rI, rI0, rU, rEq, rNe, tyV, Option.join_some, List.map_cons, List.map_nil, List.cons_append, List.nil_append, List.replicate, List.length_cons, List.length_nil, Nat.reduceAdd, Nat.reduceSub, List.getElem?_cons_zero, List.getElem?_cons_succ, List.set_cons_zero, List.set_cons_succ]); (try simp only [cxOf, L2.start, tSeq, zhp, tAsg, tBM, zah, gNil, zhr, tRet, tIfS, zhq, tOp, tUn, tSl, zhz, zbr, zec, zhl, tCB, ze1, tNil, tTup, tLst, tVar, tC, ze0, tB, tAnd, tOr, tNot, zhn, tOrV, zho, zam, ze2, tFld, sFld, z8r, z8s, gTup, zev, zet, zeu, zez, zb0, zbz, zf0, tDIn, zc4, z9z, iRev, zbq, rAdd, zie, zek, zcw, zdz, iStr, zcx, zaw, zcz, tYes, capt, rI, rI0, rU, rEq, rNe, tyV, Option.join_some, List.map_cons, List.map_nil, List.cons_append, List.nil_append, List.append_nil, List.replicate, List.length_cons, List.length_nil, Nat.reduceAdd, Nat.reduceSub, List.getElem?_cons_zero, List.getElem?_cons_succ, List.set_cons_zero, List.set_cons_succ, Option.some.injEq, V.str.injEq, V.int.injEq, V.bl.injEq, V.ref.injEq, V.ty.injEq, List.cons.injEq, exists_eq_left', exists_eq_left, exists_and_left, and_true, true_and, reduceCtorEq, if_true, if_false])))
def zqA:Array String:=("_ ( ) rfl pv @z8 !D , za 0 !K 1 zd @zb @ze Or.inl ⟨ ⟩ hr.mono !2 Or.inr @zl 2 !4 !I [ ] @zp @zm 3 @zj @zo @zr zu @zq @z15 zv @z17 4 6 @zy K:=K 5 ix_tup zn @z16 trivial z1a T.cl_World @z1n z1m @z1c @z1q @z1e V.ty T.b_len @z1r z1b @z1k T.b_isinstance z1o z29 z10 7 z1f @z21 x0n @z1d sc_law.nd @z1l z2c @z2f 8 T.b_list z36 @z2d @z2q z3h @z23 !W ix_list @z2e hu2 @z2z @z2k PW.pt @z51 z50 T.cl_Council @z3r @z4b @z2l T.b_range @z3j @z3i z26 T.b_all sc__law_name.nd T.b_tuple @z2m z47 V.int @z41 z4o @z4p T.cl_Keeper x1j z2g $list z5j $note z2a z1d z5i @z2a x1y x1z z48 $tuple yu sc__law_plan.nd y15 11 hu zal T.b_sorted z7s sc_Council_having.nd z2r sc_ahead.nd 10 sc_World_give_to.nd @z7p !X 14 $holder $place !Nplace/keeper yt sc_Council_named.nd @z8t $asking $name zak $_law_k y1b z6x $bool T.b_bool $int T.b_int 9 PySem.F.plainAttrs_str PySem.F.slot_str_split PySem.F.type_str_split z9p $lock @z9s $keeper z7w i:=0 i:=1 @z9q K sc_Council_give.nd @zai $self z9u @zby @z9v BA !6 sc_chain_of.nd z4g T.b_dict @z9k @z9l y18 zar z5a sc_World_break_ring.nd @zes @zhm @zeb $_law_one zhv 12 y26 $tick y17 zb5 T.b_set $shared y1t yv yx @zh1 @zed zj5 !Nplace/keeper/holder/lock/shared/tick y11 $places zml @zb3 P w y1i zem sc_last_in_ring.nd y1n @z84 zan $_law_cell T.c_MOST_LOCKS $path @zh3 y12 y1w zj1 y10 sc_World_give_all.nd y13 @zgx y14 yz y1d yw yy y19 y16 sc_World_ask.nd zcy $_law_found $_law_due !O $str T.b_str y1a $_law_now 13 $_law_row sc_within.nd zo2 @zos y27 @znt sc_Keeper_names_in_way.nd zdn zlg sc_Keeper_take.nd zlh y1j T.g_Keeper @zlj T.b_enumerate @zn5 znx zjk T.b_max y1u y1e @zlq @zls @zjw zfa zbv @zk3 T.b_min zif T.hd_Council_named sc_ring_of.nd @zot znv zoe T.b_reversed z8 PySem.F.slot_list_index PySem.F.type_list_index zk5 T.hd_put_in zej T.c_MOST_SIGNS $sign @zo1 zj7 V.str $abcdefghijklmnopqrstuvwxyz0123456789 T.c_NAME_SIGNS sc_good_path.nd T.c_MOST_NAMES zi5 zo4 y1z zfg T.c_MOST_KEEPERS T.c_MOST_HOLDERS T.c_MOST_STORES y24 $locks zgf y1y y1h T.g_Council y1l T.g_Store @zlo sc_World_is_free.nd sc_World_first_to_give.nd sc_World_asking_of.nd y1r y1o sc_World_on_whom.nd y1p y1q y1g 1000 T.c_MOST_TIME y1f sc_World_tick.nd @zja znw y1k y1c y28 y1v $_law_name_here $_law_asks zew zbu zkj y21 y1x y1m T.g_World y25 T.hd_law zo0 y1s y20 y23".splitOn " ").toArray
def zqP:List Char->List (Char×Char)
 |a::b::r=>(a,b)::zqP r
 |_=>[]
def zqS:Array Char:="*#%(NɁÒ2Ǣɂý-/ʸʹǛů®ʺǀÛɄ0š§ɇɈʻʼIɆʽʾʿŖˀŬˁDA˂aH˃Ȓ˄ˉÄˋˏːˑ˒˓˕˗Ɏ˘˜˝˞ǧˠSˢˤƦ˥ƍɒ˧˩OǘęƒˮÊ˯ş˱˲ɔ˴˵˶˸˹˺˻˽˾́̂̃̇̊ƫƲ̋̏̐̒èé̡̢̨̖̗̜̝̟̣̦̪̫̭̕̚Ŀ̮ńņ̯Ŏŗŧ̲Ŵƀ̴̶̳ƎƔƗƛƟơƥƨƪƬƭƮƵƶƷƸƹƿǂǃǄǅǇǉǊǋǌǍǏǐǒǓǔǕǖǗǙǚǜǝǞǟǤǥǦǩǫǭǲǳǷǸǹǿȀȁȂȃȄȅȆȇȈȉȊȋȌȍȎȏȐȑȓȔȕȖȘȚȜȞȟȠȡȢȣȤȥȦȧȨȪȬȭȮȯȰȲȳȴȵȶȷȸȺȼȽȿɕɖɗɘəɚɛɜɝɞɟɠɡɢɣɤɥɦɧɨɩɪɫɬɭɮɯɰɱɲɳɴɵɶɷɸɹɺɻɼɽɾɿʀʁʂʃʄʅʆʇʈʉʊʋʌʍʎʏʐʑʒʓʔʕʖʗʘʙʚʛʜʝʞʟʠʡʢʣʤʥʦʧʨʩʪʫʬʭʮʯʰʱʲʳʴʵʶʷB.'ɀ$i;7&4c6Èx<gJR>VK£|Ƀ²ħǵƏT{Öǻµ+Qĩ)ĜGǁƳ?bɅ8ĀƁë_ǎīǽŹǾh:FǼąsWɋżª`,UùɊßɉƣķŢƯl˅5Ïdˆ^ƘˇˈƙƚĝɌˊ9ƌ1ºɍũŪ³ŌÃpŃƉCǑˌˍˎƞ©E=Ñ½åj¸ȫ3˔ǯ˖ǰƠ˙˚˛M«]rŏǮƈǱ˟vyˡ¶ēɏăƤĺˣǺƺ¥¦k»tfɐĈ˦ĒưzôƜǨź}ɑƋLî˨¨Š˪˫ĭPãŊˬœ¬¿X˭±Ąƃ×ƢY·Zóō˰ɓ¾e˳äƾìƕmûnƴoæċqŲƽƖu˷ěwġāüƐ~Ƒ¡¢¤ǠŐŘ¯ģ°ȹƩƱȱ˼Ɗ´ŉ¹¼Œǈ˿̀ŻƻÀŸÁÂș̄̅̆Å̈̉ȝÆÇǪÉƓËÌǆ̌̍̎ÍÎÐƼÓÔƝÕØÙÚÜƧÝÞàáâ̑Ƕțçêíïð̓̔ñòõǣö÷øúþȗÿǡĂĆćǴĉ̘̙ĊȻǬ̛ČčĎďĐđĔ̞ĕĖėĘĚ̠ĞğĠ̤ĢĤĥĦĨ̧̥̩ĪĬĮȩįİıĲĳĴĵĶĸĹȾ̬ĻļĽľŀŁłŅŇňŋőŔŕřŚśŜ̰ŝ̱ŞţŤťŦŨūŭŮŰűųŵŶŷŽžſƂƄ̵ƅƆƇ".toList.toArray
def zqG (m:Array (List String)) (c:Char):List String:=m[(zqS.findIdx? (·==c)).getD 0]!
def zqE:Array (List String):=(zqP "**BB(%*#%#.ɀ..Ɂi%%NɂǢ''#Bɀ(#(27N%c.#ʸi('ʹÈ4%.Bý2#NÒÒ#ʺǵÒ'$$gxǛý#;#Ö6J'<Ƀ$7;*%$ÛT;B&&ʻ;Kʼ%/%xʽi.È(6|*ʾBƁ£Ʉǎʿ*$NɅR>īš#ɆĜǻ7''Jħˀµ(VŖ;ˁƳg-$£(®ƏĀ.*(ů8ǀ˂RŹ˃²-˄;˅|ÒV#ɇɈ$ˆɇɈ%ƣĩˇɃˈ<Ȓĩˉ®B#%Bˊ(Ɂɉ&%Ƙ;ƙƚů<<ɊˋƏ$ǼŬ$xǁ4$ɄëɋV4{ůũˌǛˍŪˎ2ǽ6ǾG>żˏibːˑRß7˒µ/ǀ&§˓Ɍ˔˕ý(˖ħ(˗Ɖ˘˙a˚ù˛ȫh-6>˜Bºɍ(˝)ǯǰQš˞˟Ō#7ąˠˡƠ$Ǒ.i&Ãs4ǻUąˢˣǮǱħJª'(ˤÈQWǽ'˥Bǧ#Ǿ?ƞĝ˦®{Iɋ_{0Ƴ*²Ab˧ƺ_;.ƌÄ#>¸ŃɎ.˨Ǣd^˩;˪Ʀ˫x+ǁ§$#Ţư{ˬD%ǀĀǁKżƯǨ˭ķɅ.³ē#F((#:ˮiQÏ«$ɆɏK˯˰BŹ˱˲ƜƯl˳ķ.ƍ˴ë˵Èå5²IpF˶#ź#ƌ/c'6K&GB*srÑ7Šŏ˷ĝ#©'%`ɐ²0˸ɑl$Ƣªǻg??£/`˹ŊNôœ˺ƏĭŢGv˻ëƒ;ɒĜƃ-ǺƤ˼ƈƾ+Ò_ǼƕCcħV˽R˾|˿(̀́½/ƴȹ#ÊR%ş̃Ɍů*̄2̅Ɋ̆Òō̇̈¦̉̊]îȱ¥0.ßŰBƽɍ+ŢǠ#&(̌§̍#̎ǁM)ɓă²H½#b̏tcÖT%§ã:xÛĜɔ%Ä?%$Ąș̐ȝƖJÏǺĺ̑ƈ̒Ƴ#ŃN0N-ŏĒǽTǾŲ̓Ǽ̔4̕Əǈk{HɎRWWƏ%I.hIƐ̖JƑƤzóĈ¶ĺj4Ʃɐg0Ʊ̗̘(̙ǘÑƋ³ù̚9̛ǘ×Ǫț̜NI¨%̝dɒɏƞĒ̞®Ř»#=§G²S̟#̡̠ġ̢ƻ#̣i̤f$b^ɂùǀH.åȗ̧̨̥̦̩̪h01ŬƯ#¿F:ìěŐƫ+û8Q'©7ä)ȻyÊă&Ŭ̫9̬ƲǆƊ}Ƕ,̭,̮²DċÏƋc$ĈjǑ`̯&Ōǣ»>ƓƼh'?#ŻJ6sƝ̰Œɑę̱ęA.ªp>ģ{-ā±gDɉɔ$:ƧŸ`̲ü$ȩ¾¬ķ¶ǡ·Ǵæyŉ7̳+Ǭ'̴|̵#̶$ɓȾ".toList).foldl (fun m p=>m.push (zqG m p.1++zqG m p.2)) (zqA.map ([·]))
local macro_rules|`(tactic|walk_at $s:str)=>do
  unless s.getString.startsWith "%" do Lean.Macro.throwUnsupported
  let tb:=zqE
  let mut st:List (Nat×Array Lean.Term×Array Lean.Term):=[(0,#[],#[])]
  for t in (s.getString.toList.drop 1).flatMap (zqG tb) do
    match st with
    |[]=>pure ()
    |(k,d,c)::r=>
      if t=="("||t=="⟨"||t=="[" then st:=(0,#[],#[])::st
      else if t=="!4" then st:=(4,d,c)::r
      else
        let e:=Lean.Syntax.mkApp (c.getD 0 ⟨.missing⟩) (c.extract 1 c.size)
        if t=="," then st:=(0,d.push e,#[])::r
        else
          let es:=if c.size==0 then d else d.push e
          let x:Lean.Term<-if t==")" then (if k==4 then `(fun _ _ _ _=>$e) else pure e)
            else if t=="⟩" then `(⟨$es,*⟩)
            else if t=="]" then `([$es,*])
            else if t=="_" then `(_)
            else if t=="!K" then `((by decide+kernel))
            else if t=="!D" then `((by decide))
            else if t=="!O" then `((by omega))
            else if t=="!I" then `((by intro _;rfl))
            else if t=="!W" then `((by with_unfolding_all rfl))
            else if t=="!2" then `((fun _ _=>rfl))
            else if t=="!6" then `((fun _ _ _ _ _ _=>rfl))
            else if t=="!X" then `((by first|exact z4n _ (by decide) (by decide)|rfl))
            else if t.startsWith "!N" then
              let xs:Array Lean.Term:=((t.drop 2).toString.splitOn "/").toArray.map fun x=>⟨Lean.Syntax.mkStrLit x⟩
              `((show List.Nodup (α:=PySem.Str) [$xs,*] from by decide+kernel))
            else if t.startsWith "$" then pure ⟨Lean.Syntax.mkStrLit (t.drop 1).toString⟩
            else if t.startsWith "@" then `(@$(Lean.mkIdent (t.drop 1).toString.toName))
            else if t.front.isDigit then pure ⟨Lean.Syntax.mkNumLit t⟩
            else match t.splitOn ":=" with
              |[a,b]=>
                let v:Lean.Term:=if b.front.isDigit then ⟨Lean.Syntax.mkNumLit b⟩ else Lean.mkIdent b.toName
                pure ⟨Lean.mkNode ``Lean.Parser.Term.namedArgument #[Lean.mkAtom "(",Lean.mkIdent a.toName,Lean.mkAtom ":=",v,Lean.mkAtom ")"]⟩
              |_=>pure (Lean.mkIdent t.toName)
          if t==")"||t=="⟩"||t=="]" then
            match r with
            |(k2,d2,c2)::r2=>st:=(k2,d2,c2.push x)::r2
            |[]=>pure ()
          else st:=(k,d,c.push x)::r
  match st with
  |(_,_,c)::_=>`(tactic|refine⟨_,$(c.getD 0 ⟨.missing⟩),?_⟩)
  |[]=>Lean.Macro.throwUnsupported
local macro_rules|`(tactic|walk_at "s")=>`(tactic|exact ⟨rfl,rfl,rfl,by decide+kernel,rfl,by decide+kernel,by decide+kernel⟩)
noncomputable def top(i:Nat):Stmt:=PySem.Challenge.pw_fencegate_k27_handed_over.main.body.getD i (.Pass ⟨0,0,0,0⟩)
noncomputable abbrev z6a:Stmt:=top 24
noncomputable abbrev z6b:Stmt:=top 25
noncomputable abbrev za1:Stmt:=top 26
noncomputable abbrev z8a:Stmt:=top 27
noncomputable abbrev za2:Stmt:=top 28
noncomputable abbrev z3o:Stmt:=z12 (top 30) 0
noncomputable abbrev z5c:Stmt:=z12 (top 30) 3
noncomputable abbrev z2s:Stmt:=z12 (top 30) 4
noncomputable abbrev z3c:Stmt:=z12 (top 30) 5
noncomputable abbrev z5d:Stmt:=z12 (top 30) 6
noncomputable abbrev z3d:Stmt:=z12 (top 32) 0
noncomputable abbrev z34:Stmt:=z12 (top 32) 1
noncomputable abbrev z2v:Stmt:=z12 (top 32) 2
noncomputable abbrev z42:Stmt:=z12 (top 32) 7
noncomputable abbrev z4t:Stmt:=z12 (top 32) 8
noncomputable abbrev z43:Stmt:=z12 (top 32) 10
noncomputable abbrev z4h:Stmt:=z12 (top 32) 12
noncomputable abbrev z44:Stmt:=z12 (top 34) 0
noncomputable abbrev za3:Stmt:=top 36
noncomputable abbrev zc5:Stmt:=top 37
noncomputable abbrev z74:Stmt:=top 38
noncomputable abbrev z8b:Stmt:=top 39
noncomputable abbrev z4u:Stmt:=top 40
noncomputable abbrev z5r:Stmt:=top 46
noncomputable abbrev z5s:Stmt:=top 47
noncomputable abbrev z5t:Stmt:=top 48
noncomputable abbrev z45:Stmt:=z12 (top 49) 0
noncomputable abbrev z2w:Stmt:=z12 (top 49) 1
noncomputable abbrev z3e:Stmt:=z12 (top 49) 2
noncomputable abbrev z35:Stmt:=z12 (top 49) 4
noncomputable abbrev z2x:Stmt:=z12 (top 49) 6
noncomputable abbrev z6c:Stmt:=z12 (top 49) 7
noncomputable abbrev z4v:Stmt:=z12 (top 49) 8
noncomputable abbrev z46:Stmt:=z12 (top 49) 9
noncomputable abbrev z2t:Stmt:=z12 (top 49) 10
noncomputable abbrev z4i:Stmt:=z12 (top 49) 11
noncomputable abbrev z4j:Stmt:=z12 (top 49) 12
noncomputable abbrev z3f:Stmt:=z12 (top 49) 13
noncomputable abbrev z3p:Stmt:=z12 (top 49) 14
noncomputable abbrev z3q:Stmt:=z12 (top 49) 15
noncomputable abbrev z4k:Stmt:=z12 (top 49) 16
noncomputable abbrev z5u:Stmt:=z12 (top 49) 25
noncomputable abbrev z6d:Stmt:=z12 (top 49) 27
noncomputable abbrev z5e:Stmt:=z12 (top 49) 29
noncomputable abbrev z4w:Stmt:=z12 (top 49) 30
noncomputable abbrev z6e:Stmt:=z12 (top 49) 36
noncomputable abbrev z8c:Stmt:=top 51
noncomputable abbrev z33:Stmt:=top 52
noncomputable abbrev z6f:Stmt:=top 53
noncomputable abbrev z5v:Stmt:=top 54
noncomputable abbrev z6g:Stmt:=top 55
noncomputable abbrev z8v:Stmt:=top 56
structure Txt(K:PySem.W.Frag)(mg:Str->Option Value)(ya yc yo yb y9 yd ye yn yp yr:Addr)(yf yg yk yl yi yh ym yj:Tok):Prop where
 z:True
 b_all:mg "all"=none
 b_bool:mg "bool"=none
 b_dict:mg "dict"=none
 b_enumerate:mg "enumerate"=none
 b_int:mg "int"=none
 b_isinstance:mg "isinstance"=none
 b_len:mg "len"=none
 b_list:mg "list"=none
 b_max:mg "max"=none
 b_min:mg "min"=none
 b_range:mg "range"=none
 b_reversed:mg "reversed"=none
 b_set:mg "set"=none
 b_sorted:mg "sorted"=none
 b_str:mg "str"=none
 b_tuple:mg "tuple"=none
 c_MOST_HOLDERS:mg "MOST_HOLDERS"=some (.int 8 yf)
 c_MOST_KEEPERS:mg "MOST_KEEPERS"=some (.int 5 yg)
 c_MOST_LOCKS:mg "MOST_LOCKS"=some (.int 10 yk)
 c_MOST_NAMES:mg "MOST_NAMES"=some (.int 4 yl)
 c_MOST_SIGNS:mg "MOST_SIGNS"=some (.int 8 yi)
 c_MOST_STORES:mg "MOST_STORES"=some (.int 4 yh)
 c_MOST_TIME:mg "MOST_TIME"=some (.int 1000 ym)
 c_NAME_SIGNS:mg "NAME_SIGNS"=some (.str "abcdefghijklmnopqrstuvwxyz0123456789" yj)
 g_Council:mg "Council"=some (.ref ya)
 g_Keeper:mg "Keeper"=some (.ref yc)
 g_Store:mg "Store"=some (.ref yo)
 g_World:mg "World"=some (.ref yb)
 pg_Council:PySem.W.plainGet K ya Str.empty=true
 hd_Council:PySem.W.hasDictIn K ya=true
 po_Council:PySem.W.plainOver K ya=true
 sa_Council:PySem.W.findIn K (.ref ya) "__setattr__"=some (some (.builtin "object.__setattr__"))
 n_Council_keepers:NoAttr K ya "keepers"
 n_Council_most:NoAttr K ya "most"
 pg_Keeper:PySem.W.plainGet K yc Str.empty=true
 hd_Keeper:PySem.W.hasDictIn K yc=true
 po_Keeper:PySem.W.plainOver K yc=true
 sa_Keeper:PySem.W.findIn K (.ref yc) "__setattr__"=some (some (.builtin "object.__setattr__"))
 n_Keeper_up:NoAttr K yc "up"
 n_Keeper_top:NoAttr K yc "top"
 n_Keeper_kept:NoAttr K yc "kept"
 pg_Store:PySem.W.plainGet K yo Str.empty=true
 hd_Store:PySem.W.hasDictIn K yo=true
 po_Store:PySem.W.plainOver K yo=true
 sa_Store:PySem.W.findIn K (.ref yo) "__setattr__"=some (some (.builtin "object.__setattr__"))
 n_Store_top:NoAttr K yo "top"
 n_Store_kept:NoAttr K yo "kept"
 pg_World:PySem.W.plainGet K yb Str.empty=true
 hd_World:PySem.W.hasDictIn K yb=true
 po_World:PySem.W.plainOver K yb=true
 sa_World:PySem.W.findIn K (.ref yb) "__setattr__"=some (some (.builtin "object.__setattr__"))
 n_World_now:NoAttr K yb "now"
 n_World_council:NoAttr K yb "council"
 n_World_holders:NoAttr K yb "holders"
 n_World_locks:NoAttr K yb "locks"
 n_World_shareable:NoAttr K yb "shareable"
 n_World_stores:NoAttr K yb "stores"
 n_World_carries:NoAttr K yb "carries"
 n_World_waiting:NoAttr K yb "waiting"
 n_World_asleep_since:NoAttr K yb "asleep_since"
 n_World_pauses:NoAttr K yb "pauses"
 n_World_logged:NoAttr K yb "logged"
 n_World_ends:NoAttr K yb "ends"
 hd_Council_named:PySem.W.codeHdIn K yd y9=true
 hd_put_in:PySem.W.codeHdIn K yn ye=true
 hd_law:PySem.W.codeHdIn K yr yp=true
theorem Txt.cl_Council{K:PySem.W.Frag}{mg:Str->Option Value}{ya yc yo yb y9 yd ye yn yp yr:Addr}{yf yg yk yl yi yh ym yj:Tok}(T:Txt K mg ya yc yo yb y9 yd ye yn yp yr yf yg yk yl yi yh ym yj):Cls K ya:=⟨T.pg_Council,T.hd_Council,T.po_Council,T.sa_Council⟩
theorem Txt.cl_Keeper{K:PySem.W.Frag}{mg:Str->Option Value}{ya yc yo yb y9 yd ye yn yp yr:Addr}{yf yg yk yl yi yh ym yj:Tok}(T:Txt K mg ya yc yo yb y9 yd ye yn yp yr yf yg yk yl yi yh ym yj):Cls K yc:=⟨T.pg_Keeper,T.hd_Keeper,T.po_Keeper,T.sa_Keeper⟩
theorem Txt.cl_Store{K:PySem.W.Frag}{mg:Str->Option Value}{ya yc yo yb y9 yd ye yn yp yr:Addr}{yf yg yk yl yi yh ym yj:Tok}(T:Txt K mg ya yc yo yb y9 yd ye yn yp yr yf yg yk yl yi yh ym yj):Cls K yo:=⟨T.pg_Store,T.hd_Store,T.po_Store,T.sa_Store⟩
theorem Txt.cl_World{K:PySem.W.Frag}{mg:Str->Option Value}{ya yc yo yb y9 yd ye yn yp yr:Addr}{yf yg yk yl yi yh ym yj:Tok}(T:Txt K mg ya yc yo yb y9 yd ye yn yp yr yf yg yk yl yi yh ym yj):Cls K yb:=⟨T.pg_World,T.hd_World,T.po_World,T.sa_World⟩
theorem zfh:FnScope ["text"] ["text"] (zg z6a):=by walk_at "s"
theorem sc_good_path:FnScope ["text","names"] ["text"] (zg z6b):=by walk_at "s"
theorem sc_within:FnScope ["inner","outer","outer_names"] ["inner","outer"] (zg za1):=by walk_at "s"
theorem zin:FnScope ["one","other"] ["one","other"] (zg z8a):=by walk_at "s"
theorem zk7:FnScope ["lock","shared","other","other_shared"] ["lock","shared","other","other_shared"] (zg za2):=by walk_at "s"
theorem z8d:FnScope ["self"] ["self"] (zg z3o):=by walk_at "s"
theorem zc6:FnScope ["self","tick"] ["self","tick"] (zg z5c):=by walk_at "s"
theorem sc_Keeper_names_in_way:FnScope ["self","holder","lock","shared","tick","others"] ["self","holder","lock","shared","tick"] (zg z2s):=by walk_at "s"
theorem z7i:FnScope ["self","holder","lock","shared","tick"] ["self","holder","lock","shared","tick"] (zg z3c):=by walk_at "s"
theorem sc_Keeper_take:FnScope ["self","number","holder","lock","shared","tick","time","others"] ["self","number","holder","lock","shared","tick","time"] (zg z5d):=by walk_at "s"
theorem z7j:FnScope ["self","many"] ["self","many"] (zg z3d):=by walk_at "s"
theorem z75:FnScope ["self","place"] ["self","place"] (zg z34):=by walk_at "s"
theorem z6n:FnScope ["self"] ["self"] (zg z2v):=by walk_at "s"
theorem z92:FnScope ["self","holder","lock","shared","tick"] ["self","holder","lock","shared","tick"] (zg z42):=by walk_at "s"
theorem sc_Council_give:FnScope ["self","holder","lock","shared","tick","time","sayers","number","place"] ["self","holder","lock","shared","tick","time"] (zg z4t):=by walk_at "s"
theorem sc_Council_having:FnScope ["self","lock","tick","places","place","keeper","note","held"] ["self","lock","tick"] (zg z43):=by walk_at "s"
theorem sc_Council_named:FnScope ["self","holder","lock","shared","tick","counts","place","keeper","name"] ["self","holder","lock","shared","tick"] (zg z4h):=by walk_at "s"
theorem z93:FnScope ["self"] ["self"] (zg z44):=by walk_at "s"
theorem zk8:FnScope ["row","asking"] ["row","asking"] (zg za3):=by walk_at "s"
theorem sc_ahead:FnScope ["row","holder","names","place","lock","shared","other"] ["row","holder"] (zg zc5):=by walk_at "s"
theorem sc_chain_of:FnScope ["waits","name","waits_for","chain"] ["waits","name"] (zg z74):=by walk_at "s"
theorem sc_ring_of:FnScope ["waits","name","chain"] ["waits","name"] (zg z8b):=by walk_at "s"
theorem sc_last_in_ring:FnScope ["waits","asker","on"] ["waits"] (zg z4u):=by walk_at "s"
theorem zdq:FnScope ["texts","least","most"] ["texts","least","most"] (zg z5r):=by walk_at "s"
theorem zdr:FnScope ["keepers","holders","locks","shared","stores"] ["keepers","holders","locks","shared","stores"] (zg z5s):=by walk_at "s"
theorem zds:FnScope ["ticks"] ["ticks"] (zg z5t):=by walk_at "s"
theorem z94:FnScope ["self","keepers","holders","locks","shared","stores"] ["self","keepers","holders","locks","shared","stores"] (zg z45):=by walk_at "s"
theorem z6o:FnScope ["self","holder"] ["self","holder"] (zg z2w):=by walk_at "s"
theorem z7k:FnScope ["self","lock"] ["self","lock"] (zg z3e):=by walk_at "s"
theorem z76:FnScope ["self","holder"] ["self","holder"] (zg z35):=by walk_at "s"
theorem z6p:FnScope ["self","holder","lock","shared","time"] ["self","holder","lock","shared","time"] (zg z2x):=by walk_at "s"
theorem sc_World_ask:FnScope ["self","holder","lock","shared","time","place","row"] ["self","holder","lock","shared","time"] (zg z6c):=by walk_at "s"
theorem zb7:FnScope ["self"] ["self"] (zg z4v):=by walk_at "s"
theorem sc_World_give_all:FnScope ["self","asking"] ["self"] (zg z46):=by walk_at "s"
theorem sc_World_first_to_give:FnScope ["self","asking"] ["self"] (zg z2t):=by walk_at "s"
theorem sc_World_is_free:FnScope ["self","asking","sayers"] ["self","asking"] (zg z4i):=by walk_at "s"
theorem sc_World_give_to:FnScope ["self","asking","holder","lock","shared","end","given"] ["self","asking"] (zg z4j):=by walk_at "s"
theorem sc_World_break_ring:FnScope ["self","waits","holder","lock"] ["self"] (zg z3f):=by walk_at "s"
theorem z8e:FnScope ["self","holder"] ["self","holder"] (zg z3p):=by walk_at "s"
theorem sc_World_asking_of:FnScope ["self","holder","asking"] ["self","holder"] (zg z3q):=by walk_at "s"
theorem sc_World_on_whom:FnScope ["self","asking","named"] ["self","asking"] (zg z4k):=by walk_at "s"
theorem sc_World_tick:FnScope ["self","many","step"] ["self","many"] (zg z5u):=by walk_at "s"
theorem zfi:FnScope ["self"] ["self"] (zg z6d):=by walk_at "s"
theorem zc7:FnScope ["self","holder"] ["self","holder"] (zg z5e):=by walk_at "s"
theorem zb8:FnScope ["self","lock"] ["self","lock"] (zg z4w):=by walk_at "s"
theorem zfj:FnScope ["self"] ["self"] (zg z6e):=by walk_at "s"
theorem zio:FnScope ["_law_script","_law_k"] ["_law_script","_law_k"] (zg z8c):=by walk_at "s"
theorem zfk:FnScope ["_law_found","_law_due"] ["_law_found","_law_due"] (zg z33):=by walk_at "s"
theorem sc__law_name:FnScope ["_law_cell","_law_k","_law_signs","_law_rest","_law_many","_law_spot","_law_made","_law_j","_law_place"] ["_law_cell","_law_k"] (zg z6f):=by walk_at "s"
theorem zdt:FnScope ["_law_cell","_law_many"] ["_law_cell","_law_many"] (zg z5v):=by walk_at "s"
theorem sc__law_plan:FnScope ["_law_script","_law_holders","_law_world","_law_asks","_law_k","_law_cell","_law_spot","_law_left","_law_time"] ["_law_script","_law_holders","_law_world"] (zg z6g):=by walk_at "s"
theorem sc_law:FnScope ["_law_script","_law_holders","_law_keepers","_law_world","_law_asks","_law_turns","_law_due","_law_tick","_law_by","_law_k","_law_end","_law_now","_law_step","_law_has","_law_found"] ["_law_script"] (zg z8v):=by walk_at "s"
variable {ya yc yo yb y9 yd ye yn yp yr:Addr}
variable {ts:List Addr}
variable {yf yg yk yl yi yh ym yj:Tok}
theorem el0{P:List Value->Prop}(h:P []):∀us:List Value,us.length=0->P us:=fun us e=>by rw[x1i.mp e];exact h
theorem elS{P:List Value->Prop}{n:Nat}(h:∀a,∀us:List Value,us.length=n->P (a::us)):∀us:List Value,us.length=n+1->P us:=fun us e=>by
 cases us with
 |nil=>cases e
 |cons a us=>exact h a us (Nat.succ.inj e)
noncomputable abbrev zb9(x ql:Str)(st:Stmt)(ps:List Str):Prop:=∀(kV doc pm:Value)(an:Option Addr)(cdv ct:Value)(us:List Value),us.length=ps.length->bindArgs (PySem.W.fnOf x ql (z24 st) (z1j st) (zg st) .none kV doc pm an cdv ct) ⟨us,[]⟩=pure (ps.zip us)
section
variable {K:PySem.W.Frag}{h:Heap}{mg:Str->Option Value}{x ql:Str}{st:Stmt}{ps:List Str}{C f c:Addr}{oc kV dc pm cd ct:Value}{od an:Option Addr}{sl:Array (Option Value)}
theorem dmk(X:K.In h)(G:h.Ns mainGlobals mg)(a:PySem.W.nsIn K mainGlobals x=some (some (.ref f)))(l:K.lookup f=some ⟨oc,od,.func (PySem.W.fnOf x x (z24 st) (z1j st) (zg st) .none kV dc pm an cd ct),sl⟩)(ci:PySem.W.codeIn K cd x=true)(k:PySem.W.keepIn K (.ref f)=true)(b:zb9 x x st ps):Def K mg x st ps:=
 let F:=z6l l ci k;⟨_,_,F,PySem.W.mg_of X G a,F.binds b⟩
theorem mmk(a:PySem.W.findIn K (.ref C) x=some (some (.ref f)))(i:PySem.W.isFn K (.ref f)=true)(l:K.lookup f=some ⟨oc,od,.func (PySem.W.fnOf x ql (z24 st) (z1j st) (zg st) .none kV dc pm an cd ct),sl⟩)(ci:PySem.W.codeIn K cd ql=true)(k:PySem.W.keepIn K (.ref f)=true)(b:zb9 x ql st ps):MDef K C x ql st ps:=
 let F:=z6l l ci k;⟨_,_,F,⟨a,i,F.kp⟩,F.binds b⟩
theorem kmk(mk:PySem.W.makesIn K C=true)(kc:PySem.W.keepIn K (.ref C)=true)(a:PySem.W.findIn K (.ref C) "__init__"=some (some (.ref f)))(i:PySem.W.isFn K (.ref f)=true)(l:K.lookup f=some ⟨oc,od,.func (PySem.W.fnOf "__init__" ql (z24 st) (z1j st) (zg st) .none kV dc pm an cd ct),sl⟩)(ci:PySem.W.codeIn K cd ql=true)(k:PySem.W.keepIn K (.ref f)=true)(b:zb9 "__init__" ql st ps):KDef K C ql st ps:=
 let F:=z6l l ci k;⟨_,_,F,⟨mk,a,i,kc⟩,F.binds b⟩
theorem dmkC(X:K.In h)(G:h.Ns mainGlobals mg)(a:PySem.W.nsIn K mainGlobals x=some (some (.ref f)))(l:K.lookup f=some ⟨oc,od,.func (PySem.W.fnOf x x (z24 st) (z1j st) (zg st) .none kV dc pm an cd ct),sl⟩)(cu:cd=.ref c)(ci:PySem.W.codeIn K cd x=true)(k:PySem.W.keepIn K (.ref f)=true)(b:zb9 x x st ps):DefC K mg x st ps c:=by
 subst cu
 exact⟨_,_,_,_,_,_,_,_,_,l,ci,k,PySem.W.mg_of X G a,(z6l l ci k).binds b⟩
theorem mmkC(a:PySem.W.findIn K (.ref C) x=some (some (.ref f)))(i:PySem.W.isFn K (.ref f)=true)(l:K.lookup f=some ⟨oc,od,.func (PySem.W.fnOf x ql (z24 st) (z1j st) (zg st) .none kV dc pm an cd ct),sl⟩)(cu:cd=.ref c)(ci:PySem.W.codeIn K cd ql=true)(k:PySem.W.keepIn K (.ref f)=true)(b:zb9 x ql st ps):MDefC K C x ql st ps c:=by
 subst cu
 exact⟨_,_,_,_,_,_,_,_,_,l,ci,⟨a,i,k⟩,(z6l l ci k).binds b⟩
end
section
variable {P:Program}{w:World}{K:PySem.W.Frag}{mg:Str->Option Value}{base:Heap}
noncomputable def sp(a:Str):List Str:=Txt.split a "/"
noncomputable def z5w(a b:Str):Bool:=decide ((sp a).take (sp b).length=sp b)
noncomputable def zfl:Sp:=fun vs H Q _=>∃a b:Str,vs=[.str a,.str b]/\a.length<=1000/\b.length<=1000/\z3w H Q (.bl (z5w a b))
theorem zk9(F:Def K mg "within" za1 ["inner","outer"])(T:Txt K mg ya yc yo yb y9 yd ye yn yp yr yf yg yk yl yi yh ym yj):Has P w K mg base 1 "within" ["inner","outer"] (zfl):=by
 refine F.ok sc_within (fun vs H Q E h=>?_) (fun f cdv A outer s H vs Q E hr h=>?_)
 .obtain⟨a,b,rfl,_⟩:=h
  rfl
 .obtain⟨a,b,rfl,ha,hb,k⟩:=h
  have hu:=hr.units0
  walk_at "%čɕ+ƐǂǃǄǅ~ŅƑp:ƒµɖņ$Ď#ƐǂǃǄǅçŅƑè#éÈ¶¡0CGêŇ%"
  walk_at "rd"
  refine zbt rfl (by omega) fun p hp=>zbt rfl (by omega) fun q hq=>?_
  have npq:p≠q:=zh z9 hq
  refine⟨_,rfl,_,.inl (SqL.of (by rw[zc npq,z9])),_,_,rfl,SqL.of z9,fun r hr'=>?_⟩
  have nr:∀b,b=p\/b=q->b≠r:=fun b hb z=>by
   subst z
   rcases hb with rfl|rfl
   .rw[zc npq,z9]at hr';cases hr'
   .rw[z9]at hr';cases hr'
  refine⟨_,_,_,_,rfl,rfl,SqL.of z9,SqL.of (by rw[zc (nr p (.inl rfl)),zc npq,z9]),?_,z1w _,?_⟩
  .rw[x5,zav,<-List.map_take]
   exact z1w _
  .rw[x5,zav,<-List.map_take]
   have e:eqVs (List.map V.str (List.take (sp b).length (sp a))) (List.map V.str (sp b))=z5w a b:=z9o _ _
   show Q (.bl (eqVs (List.map V.str (List.take (sp b).length (sp a))) (List.map V.str (sp b)))) _
   rw[e]
   exact k _ (((Same.upd hp).trans (Same.upd hq)).trans (Same.upd hr'))
noncomputable def onl(a b:Str):Bool:=z5w a b||z5w b a
noncomputable def spOn:Sp:=fun vs H Q _=>∃a b:Str,vs=[.str a,.str b]/\a.length<=1000/\b.length<=1000/\z3w H Q (.bl (onl a b))
theorem ziq(F:Def K mg "on_line" z8a ["one","other"])(T:Txt K mg ya yc yo yb y9 yd ye yn yp yr yf yg yk yl yi yh ym yj)(y26:Has P w K mg base 1 "within" ["inner","outer"] (zfl)):Has P w K mg base 2 "on_line" ["one","other"] (spOn):=by
 refine F.ok zin (fun vs H Q E h=>?_) (fun f cdv A outer s H vs Q E hr h=>?_)
 .obtain⟨a,b,rfl,_⟩:=h
  rfl
 .obtain⟨a,b,rfl,ha,hb,k⟩:=h
  walk_at "%Yɗë,ǿň-Qŉ·,ǿÉ)4Z?"
  walk_at "rd"
  refine⟨a,b,rfl,ha,hb,fun H1 s1=>⟨_,rfl,?_⟩⟩
  cases e:z5w a b with
  |true=>
   rw[if_pos rfl]
   have:=k H1 s1
   simpa[onl,e]using this
  |false=>
   rw[if_neg xm]
   refine⟨b,a,rfl,hb,ha,fun H2 s2=>?_⟩
   have:=k H2 (s1.trans s2)
   simpa[onl,e]using this
noncomputable def zir:Sp:=fun vs H Q _=>∃(a b:Str)(x y:Bool),vs=[.str a,.bl x,.str b,.bl y]/\a.length<=1000/\b.length<=1000/\z3w H Q (.bl (onl a b&& !(x&&y)))
theorem zka(F:Def K mg "in_way" za2 ["lock","shared","other","other_shared"])(T:Txt K mg ya yc yo yb y9 yd ye yn yp yr yf yg yk yl yi yh ym yj)(y27:Has P w K mg base 2 "on_line" ["one","other"] (spOn)):Has P w K mg base 3 "in_way" ["lock","shared","other","other_shared"] (zir):=by
 refine F.ok zk7 (fun vs H Q E h=>?_) (fun f cdv A outer s H vs Q E hr h=>?_)
 .obtain⟨a,b,x,y,rfl,_⟩:=h
  rfl
 .obtain⟨a,b,x,y,rfl,ha,hb,k⟩:=h
  walk_at "%Yì,ɘň0Qŉ·əRìí$·ď¢"
  walk_at "rd"
  refine⟨a,b,rfl,ha,hb,fun H1 s1=>⟨_,rfl,?_⟩⟩
  have:=k H1 s1
  cases e:onl a b<;>cases x<;>simp_all
structure Nt where
 n:Int
 h:Str
 l:Str
 sh:Bool
 e:Int
deriving DecidableEq
noncomputable def Nt.vals(x:Nt):List V:=[.int x.n,.str x.h,.str x.l,.bl x.sh,.int x.e]
noncomputable abbrev NL:=List (Addr×Nt)
noncomputable def refs(L:NL):List V:=L.map fun q=>V.ref q.1
structure NotesAt(H:Hp)(L:NL):Prop where
 tu:∀q∈L,H q.1=some (.tup q.2.vals)
 sm:∀q∈L,q.2.h.length<=1000/\q.2.l.length<=1000
theorem NotesAt.mono{H H':Hp}{L:NL}(h:NotesAt H L)(s:Same H H'):NotesAt H' L:=⟨fun q hq=>s _ _ (h.tu q hq),h.sm⟩
theorem NotesAt.sub{H:Hp}{L L':NL}(h:NotesAt H L)(s:∀q∈L',q∈L):NotesAt H L':=⟨fun q hq=>h.tu q (s q hq),fun q hq=>h.sm q (s q hq)⟩
theorem n1:¬(("up":Str)="top"):=by decide+kernel
theorem n2:¬(("up":Str)="kept"):=by decide+kernel
theorem n3:¬(("top":Str)="kept"):=by decide+kernel
noncomputable def kf(u:Bool)(t:Int)(l:Addr):List (Str×V):=[("up",.bl u),("top",.int t),("kept",.ref l)]
theorem zis(u:Bool)(t:Int)(l:Addr):(kf u t l).lookup ("up":Str)=some (.bl u):=by simp[kf,x1c]
theorem zkb(u:Bool)(t:Int)(l:Addr):(kf u t l).lookup ("top":Str)=some (.int t):=by
 have e:(("top":Str)=="up")=false:=by decide+kernel
 simp[kf,x1c,e]
theorem z8w(u:Bool)(t:Int)(l:Addr):(kf u t l).lookup ("kept":Str)=some (.ref l):=by
 have e:(("kept":Str)=="up")=false:=by decide+kernel
 have e':(("kept":Str)=="top")=false:=by decide+kernel
 simp[kf,x1c,e,e']
theorem z77(u:Bool)(t:Int)(l:Addr){m:Str}(h1:(m=="up")=false)(h2:(m=="top")=false)(h3:(m=="kept")=false):(kf u t l).lookup m=none:=by
 simp[kf,x1c,h1,h2,h3]
theorem zox(u:Bool)(t:Int)(l:Addr):putF "kept" (.ref l) (putF "top" (.int t) (putF "up" (.bl u) []))=kf u t l:=by
 simp[putF,kf,n1,n2,n3]
theorem zit(u:Bool)(t t':Int)(l:Addr):putF "top" (.int t') (kf u t l)=kf u t' l:=by simp[putF,kf,n1]
theorem z9g(u:Bool)(t:Int)(l l':Addr):putF "kept" (.ref l') (kf u t l)=kf u t l':=by simp[putF,kf,n2,n3]
structure KeeperAt(C:Addr)(H:Hp)(k:Addr)(u:Bool)(t:Int)(L:NL):Prop where
 ob:∃dx l,H k=some (.ins C dx (kf u t l))/\H l=some (.lst (refs L))
 nt:NotesAt H L
 len:L.length<=1000
theorem KeeperAt.mono{C:Addr}{H H':Hp}{k:Addr}{u:Bool}{t:Int}{L:NL}(h:KeeperAt C H k u t L)(s:Same H H'):KeeperAt C H' k u t L:=by
 obtain⟨⟨dx,l,h1,h2⟩,h3,h4⟩:=h
 exact⟨⟨dx,l,s _ _ h1,s _ _ h2⟩,h3.mono s,h4⟩
noncomputable def But(k:Addr)(H H':Hp):Prop:=∀b o,H b=some o->b≠k->H' b=some o
theorem z25{L:NL}{i:Nat}{x:V}(h:(refs L)[i]? =some x):∃q,L[i]? =some q/\x=.ref q.1:=by
 unfold refs at h
 rw[xj]at h
 cases e:L[i]? with
 |none=>rw[e]at h;cases h
 |some q=>rw[e]at h;exact⟨q,rfl,(xq h).symm⟩
theorem zw(L:NL):(refs L).length=L.length:=x5 _
theorem z27{α:Type}(p:α->Bool){L:List α}{i:Nat}{x:α}(h:L[i]? =some x):(L.take (i+1)).filter p=(L.take i).filter p++(if p x=true then[x] else[]):=by
 rw[x16,h,x23]
 simp[x2g]
theorem z1u{H H':Hp}{p:Addr}(s:Same H H')(h:H' p=none):H p=none:=by
 cases e:H p with
 |none=>rfl
 |some o=>rw[s _ _ e]at h;cases h
noncomputable def zkc(C:Addr):Sp:=fun vs H Q _=>∃(k dx:Addr),vs=[.ref k]/\H k=some (.ins C dx [])/\∀(H':Hp),KeeperAt C H' k true 0 []->(∃dx l,H' k=some (.ins C dx (kf true 0 l))/\H l=none)->But k H H'->Q .non H'
theorem z8f(F:KDef K yc "Keeper.__init__" z3o ["self"])(T:Txt K mg ya yc yo yb y9 yd ye yn yp yr yf yg yk yl yi yh ym yj):KHas P w K mg base 1 yc ["self"] (zkc yc):=by
 refine F.ok z8d (fun vs H Q E h=>?_) (fun f cdv A outer s H vs Q E hr h=>?_)
 .obtain⟨k,dx,rfl,_⟩:=h
  rfl
 .obtain⟨k,dx,rfl,hk,q⟩:=h
  walk_at "%L¸£Ê]¸¤qîĐ'1"
  walk_at "rd"
  refine⟨_,_,_,hk,T.cl_Keeper,T.n_Keeper_up,by decide,_,_,_,z9,T.cl_Keeper,T.n_Keeper_top,by show(1:Nat)<1000;decide,x08 _,fun p hp=>?_⟩
  have nkp:k≠p:=zh z9 hp
  refine⟨_,_,_,by rw[zc nkp,z9],T.cl_Keeper,T.n_Keeper_kept,by simp[putF,n1],?_⟩
  rw[zox]
  refine q _ ⟨⟨dx,p,z9,by rw[zc nkp.symm,z9];rfl⟩,⟨by simp,by simp⟩,by simp⟩ ⟨dx,p,z9,?_⟩ fun b o e nb=>?_
  .rw[zc nkp.symm,zc nkp.symm]at hp
   exact hp
  have nbp:b≠p:=fun z=>by
   subst z
   rw[zc nb,zc nb,e]at hp
   cases hp
  rw[zc nb,zc nbp,zc nb,zc nb]
  exact e
noncomputable def z1g(tick:Int)(L:NL):NL:=L.filter fun q=>decide (tick<q.2.e)
noncomputable def zfm(C:Addr):Sp:=fun vs H Q _=>∃(k:Addr)(u:Bool)(t:Int)(L:NL)(tick:Int),vs=[.ref k,.int tick]/\KeeperAt C H k u t L/\∀(r:Addr)(H':Hp),H r=none->H' r=some (.lst (refs (z1g tick L)))->Same H H'->Q (.ref r) H'
theorem zc8(F:MDef K yc "live" "Keeper.live" z5c ["self","tick"])(T:Txt K mg ya yc yo yb y9 yd ye yn yp yr yf yg yk yl yi yh ym yj):MHas P w K mg base CX0 1 yc "live" ["self","tick"] (zfm yc):=by
 refine F.ok zc6 (fun vs H Q E h=>?_) (fun f cdv A outer s H vs Q E hr h=>?_)
 .obtain⟨k,u,t,L,tick,rfl,_⟩:=h
  rfl
 .obtain⟨k,u,t,L,tick,rfl,hk,q⟩:=h
  walk_at "%YrđȀ^-ïŊð¹ŋ~M$ñ31"
  walk_at "rd"
  obtain⟨⟨dx,l,h1,h2⟩,hn,hlen⟩:=hk
  refine⟨_,_,_,h1,T.cl_Keeper,T.n_Keeper_kept,_,z8w u t l,l,rfl,⟨_,SqL.of h2⟩,?_⟩
  refine z14 (xs:=refs L) (by rw[zw];exact zf (by omega)) (fun i acc H'=>acc=refs (z1g tick (L.take i))/\H'=H) ⟨by simp[z1g,refs],rfl⟩ ?_ ?_ ?_ ?_
  .rintro i acc H' ⟨rfl,-⟩
   rw[zw]
   exact x01 (x06 _ _) (by rw[x07];omega)
  .rintro i acc H' ⟨-,rfl⟩
   exact SqL.of h2
  .rintro Nn i acc H' x hN hx hi ⟨rfl,rfl⟩
   obtain⟨y,hy,rfl⟩:=z25 hx
   walk_at "rd"
   refine⟨_,_,_,_,rfl,rfl,SqT.of (hn.tu _ (xf hy)),zi (j:=4) rfl,?_⟩
   have st:=z27 (fun q:Addr×Nt=>decide (tick<q.2.e)) hy
   by_cases hc:tick<y.2.e
   .refine⟨_,rfl,?_⟩
    simp only[hc,decide_true,if_true]
    refine hN _ _ ⟨?_,rfl⟩
    unfold z1g
    rw[st]
    simp[hc,refs]
   .refine⟨_,rfl,?_⟩
    simp only[hc,decide_false,x0g,x32]
    refine hN _ _ ⟨?_,rfl⟩
    unfold z1g
    rw[st]
    simp[hc,refs]
  .rintro acc H' ⟨rfl,rfl⟩ p hp
   rw[zw,x0h]
   exact q p _ hp z9 (Same.upd hp)
noncomputable def z3t(hd lk:Str)(sh:Bool)(x:Nt):Bool:=decide (x.h≠hd)&&(onl lk x.l&& !(sh&&x.sh))
noncomputable def z3u(L:NL)(hd lk:Str)(sh:Bool)(tick:Int):Bool:=!((z1g tick L).any fun q=>z3t hd lk sh q.2)
noncomputable def othf(hd:Str)(L:NL):NL:=L.filter fun q=>decide (q.2.h≠hd)
noncomputable def wayf(lk:Str)(sh:Bool)(L:NL):List Str:=(L.filter fun q=>onl lk q.2.l&& !(sh&&q.2.sh)).map fun q=>q.2.h
noncomputable def z3z(L:NL)(hd lk:Str)(sh:Bool)(tick:Int):List Str:=wayf lk sh (othf hd (z1g tick L))
theorem zni{ss ks:List Str}(h:ks.Perm (gAll ss)):ks=[]↔ss=[]:=by
 constructor
 .rintro rfl
  cases ss with
  |nil=>rfl
  |cons v ss=>
   have:v∈gAll (v::ss):=(z86 (v::ss) [] v).mpr (.inr (by simp))
   rw[<-h.mem_iff]at this
   cases this
 .rintro rfl
  exact List.Perm.eq_nil h
theorem zkd(L:NL)(hd lk:Str)(sh:Bool)(tick:Int):decide (z3z L hd lk sh tick=[])=z3u L hd lk sh tick:=by
 unfold z3z wayf othf z3u
 rw[x2d]
 simp only[x0s,List.map_eq_nil_iff,x2q,xz,Bool.not_eq_true',List.any_eq_false,z3t,x0y,and_imp]
 constructor
 .intro h x hx h1
  exact h x hx h1.1 h1.2
 .intro h x hx h1 h2
  exact h x hx ⟨h1,h2⟩
noncomputable def za4(C:Addr):Sp:=fun vs H Q _=>∃(k:Addr)(u:Bool)(t:Int)(L:NL)(hd lk:Str)(sh:Bool)(tick:Int),vs=[.ref k,.str hd,.str lk,.bl sh,.int tick]/\KeeperAt C H k u t L/\L.length<=63/\lk.length<=1000/\
 ∀(r:Addr)(ks:List Str)(H':Hp),H r=none->H' r=some (.lst (ks.map V.str))->ks.Perm (gAll (z3z L hd lk sh tick))->PyProof.Rows.sortedS ks=true->Same H H'->Q (.ref r) H'
theorem z6h(F:MDef K yc "names_in_way" "Keeper.names_in_way" z2s ["self","holder","lock","shared","tick"])(T:Txt K mg ya yc yo yb y9 yd ye yn yp yr yf yg yk yl yi yh ym yj)(y1t:Has P w K mg base 3 "in_way" ["lock","shared","other","other_shared"] (zir))(y17:MHas P w K mg base CX0 1 yc "live" ["self","tick"] (zfm yc)):MHas P w K mg base CX0 4 yc "names_in_way" ["self","holder","lock","shared","tick"] (za4 yc):=by
 refine F.ok sc_Keeper_names_in_way (fun vs H Q E h=>?_) (fun f cdv A outer s H vs Q E hr h=>?_)
 .obtain⟨k,u,t,L,hd,lk,sh,tick,rfl,_⟩:=h
  rfl
 .obtain⟨k,u,t,L,hd,lk,sh,tick,rfl,hk,h63,hl,q⟩:=h
  have hu:=hr.units0
  walk_at "%LƓđƔ^-ºHËĒɚÌ5ȁòēD¥ŌƕǆMóñÍ:ōɛ¦ŎsĔȂ¦ȃƖđǇ2Ȅ^02IŏĕŐHG¹k,ȅÉô)ÎM»Ï§őM3¼Œ1"
  walk_at "rd"
  obtain⟨⟨dx,l,h1,h2⟩,hn,hlen⟩:=id hk
  refine⟨_,_,h1,z77 u t l (by decide+kernel) (by decide+kernel) (by decide+kernel),k,u,t,L,tick,rfl,hk,fun r H1 hr0 hr1 hs1=>⟨r,rfl,⟨_,SqL.of hr1⟩,?_⟩⟩
  have hn1:NotesAt H1 (z1g tick L):=(hn.mono hs1).sub fun q h=>(xz.mp h).1
  have l1:(z1g tick L).length<=63:=x01 (x06 _ _) h63
  refine z14 (xs:=refs (z1g tick L)) (by rw[zw];exact zf (by omega)) (fun i acc H'=>acc=refs (othf hd ((z1g tick L).take i))/\H'=H1) ⟨by simp[othf,refs],rfl⟩ ?_ ?_ ?_ ?_
  .rintro i acc H' ⟨rfl,-⟩
   rw[zw]
   exact x01 (x06 _ _) (by rw[x07];omega)
  .rintro i acc H' ⟨-,rfl⟩
   exact SqL.of hr1
  .rintro Nn i acc H' x hN hx hi ⟨rfl,rfl⟩
   obtain⟨y,hy,rfl⟩:=z25 hx
   walk_at "rd"
   have st:=z27 (fun q:Addr×Nt=>decide (q.2.h≠hd)) hy
   refine⟨_,_,_,_,rfl,rfl,SqT.of (hn1.tu _ (xf hy)),zi (j:=1) rfl,?_⟩
   by_cases hc:y.2.h=hd
   .refine⟨rfl,?_⟩
    simp only[V.str.injEq,hc,decide_true,Bool.not_true,x0g,x32]
    refine hN _ _ ⟨?_,rfl⟩
    unfold othf
    rw[st]
    simp[hc]
   .refine⟨rfl,?_⟩
    simp only[V.str.injEq,hc,decide_false,Bool.not_false,if_true]
    refine hN _ _ ⟨?_,rfl⟩
    unfold othf
    rw[st]
    simp[hc,refs]
  rintro acc H' ⟨rfl,rfl⟩ p hp
  rw[zw,x0h]
  refine⟨p,rfl,⟨_,SqL.of z9⟩,?_⟩
  have s2:=hs1.trans (Same.upd (o:=.lst (refs (othf hd (z1g tick L)))) hp)
  have gp:upd H' p (.lst (refs (othf hd (z1g tick L)))) p=some (.lst (refs (othf hd (z1g tick L)))):=z9
  generalize upd H' p (.lst (refs (othf hd (z1g tick L))))=H2 at s2 gp⊢
  have hn2:NotesAt H2 (othf hd (z1g tick L)):=(hn.mono s2).sub fun q h=>(xz.mp (xz.mp h).1).1
  have l2:(othf hd (z1g tick L)).length<=63:=x01 (x06 _ _) l1
  have eW:z3z L hd lk sh tick=wayf lk sh (othf hd (z1g tick L)):=rfl
  generalize othf hd (z1g tick L)=O at gp hn2 l2 eW⊢
  refine z14 (xs:=refs O) (by rw[zw];exact zf (by omega)) (fun i acc H'=>acc=(wayf lk sh (O.take i)).map V.str/\Same H2 H') ⟨by simp[wayf],Same.refl _⟩ ?_ ?_ ?_ ?_
  .rintro i acc H' ⟨rfl,-⟩
   rw[x5]
   unfold wayf
   rw[x5]
   exact x01 (x06 _ _) (by rw[x07];omega)
  .rintro i acc H' ⟨-,s3⟩
   exact SqL.of (s3 _ _ gp)
  .rintro Nn i acc H' x hN hx hi ⟨rfl,s3⟩
   obtain⟨y,hy,rfl⟩:=z25 hx
   walk_at "rd"
   have st:=z27 (fun q:Addr×Nt=>onl lk q.2.l&& !(sh&&q.2.sh)) hy
   have ty:=hn2.tu _ (xf hy)
   have sm:=hn2.sm _ (xf hy)
   refine⟨_,_,_,_,rfl,rfl,SqT.of (s3 _ _ ty),zi (j:=2) rfl,?_⟩
   refine⟨_,_,_,_,rfl,rfl,SqT.of (s3 _ _ ty),zi (j:=3) rfl,?_⟩
   refine⟨_,_,_,_,rfl,hl,sm.2,fun H4 s4=>⟨_,rfl,?_⟩⟩
   cases hw:(onl lk y.2.l&& !(sh&&y.2.sh)) with
   |true=>
    rw[if_pos rfl]
    refine⟨_,_,_,_,rfl,rfl,SqT.of (s4 _ _ (s3 _ _ ty)),zi (j:=1) rfl,hN _ _ ⟨?_,s3.trans s4⟩⟩
    unfold wayf
    rw[st,hw]
    simp
   |false=>
    rw[if_neg xm]
    refine hN _ _ ⟨?_,s3.trans s4⟩
    unfold wayf
    rw[st,hw]
    simp
  rintro acc H' ⟨rfl,s3⟩ p2 hp2
  rw[zw,x0h,<-eW]
  have l3:(z3z L hd lk sh tick).length<=63:=by
   rw[eW]
   unfold wayf
   rw[x5]
   exact x01 (x06 _ _) l2
  refine⟨p2,rfl,_,SqL.of z9,x1l (Nat.succ_le_succ l3) (by decide+kernel),fun d hd'=>⟨_,z9,z69 _ _ x29,x1l (zc1 _) (by omega),fun l' ks hl' hperm hsort=>?_⟩⟩
  have s5:=((s2.trans s3).trans (Same.upd (o:=.lst ((z3z L hd lk sh tick).map V.str)) hp2)).trans (Same.upd (o:=eso (strKind P w) d (gAll (z3z L hd lk sh tick))) hd')
  exact q l' ks _ (z1u s5 hl') z9 hperm hsort (s5.trans (Same.upd hl'))
noncomputable def zfn(C:Addr):Sp:=fun vs H Q _=>∃(k:Addr)(u:Bool)(t:Int)(L:NL)(hd lk:Str)(sh:Bool)(tick:Int),vs=[.ref k,.str hd,.str lk,.bl sh,.int tick]/\KeeperAt C H k u t L/\L.length<=63/\lk.length<=1000/\z3w H Q (.bl (z3u L hd lk sh tick))
theorem z7l(F:MDef K yc "says_free" "Keeper.says_free" z3c ["self","holder","lock","shared","tick"])(T:Txt K mg ya yc yo yb y9 yd ye yn yp yr yf yg yk yl yi yh ym yj)(yv:MHas P w K mg base CX0 4 yc "names_in_way" ["self","holder","lock","shared","tick"] (za4 yc)):MHas P w K mg base CX0 5 yc "says_free" ["self","holder","lock","shared","tick"] (zfn yc):=by
 refine F.ok z7i (fun vs H Q E h=>?_) (fun f cdv A outer s H vs Q E hr h=>?_)
 .obtain⟨k,u,t,L,hd,lk,sh,tick,rfl,_⟩:=h
  rfl
 .obtain⟨k,u,t,L,hd,lk,sh,tick,rfl,hk,h63,hl,q⟩:=h
  have hu:=hr.units0
  walk_at "%Yƒµɜņ$5Ȇòē-Ė(_¨Ň"
  walk_at "rd"
  obtain⟨⟨dx,l,h1,h2⟩,hn,hlen⟩:=id hk
  refine⟨_,_,h1,z77 u t l (by decide+kernel) (by decide+kernel) (by decide+kernel),k,u,t,L,hd,lk,sh,tick,rfl,hk,h63,hl,fun r ks H1 hr0 hr1 hp hs s1=>⟨x08 _,fun p hp0=>⟨r,rfl,_,SqL.of (Same.upd hp0 _ _ hr1),SqL.of z9,?_⟩⟩⟩
  have e:(ks.map V.str).isEmpty=z3u L hd lk sh tick:=by
   rw[<-zkd,x2d]
   simp only[List.isEmpty_iff,List.map_eq_nil_iff,x0s]
   exact zni hp
  rw[e]
  exact q _ (s1.trans (Same.upd hp0))
noncomputable def z54(hd lk:Str)(L:NL):NL:=L.filter fun q=>!(decide (q.2.h=hd)&&decide (q.2.l=lk))
noncomputable def zke(C:Addr):Sp:=fun vs H Q _=>∃(k:Addr)(t:Int)(L:NL)(n:Int)(hd lk:Str)(sh:Bool)(tick time:Int),vs=[.ref k,.int n,.str hd,.str lk,.bl sh,.int tick,.int time]/\KeeperAt C H k true t L/\L.length<=62/\hd.length<=1000/\lk.length<=1000/\t<n/\z3u L hd lk sh tick=true/\
 ∀(p:Addr)(H':Hp),H p=none->KeeperAt C H' k true n (z54 hd lk L++[(p,⟨n,hd,lk,sh,tick+time⟩)])->(∃dx l,H' k=some (.ins C dx (kf true n l))/\H l=none)->But k H H'->Q .non H'
theorem zc9(F:MDef K yc "take" "Keeper.take" z5d ["self","number","holder","lock","shared","tick","time"])(T:Txt K mg ya yc yo yb y9 yd ye yn yp yr yf yg yk yl yi yh ym yj)(yx:MHas P w K mg base CX0 5 yc "says_free" ["self","holder","lock","shared","tick"] (zfn yc)):MHas P w K mg base CX0 6 yc "take" ["self","number","holder","lock","shared","tick","time"] (zke yc):=by
 refine F.ok sc_Keeper_take (fun vs H Q E h=>?_) (fun f cdv A outer s H vs Q E hr h=>?_)
 .obtain⟨k,t,L,n,hd,lk,sh,tick,time,rfl,_⟩:=h
  rfl
 .obtain⟨k,t,L,n,hd,lk,sh,tick,time,rfl,hk,h900,hh,hl,hnt,hf,q⟩:=h
  have hu:=hr.units0
  walk_at "%ėõtĘÐ=`ę~©EÐ=õ5ȇòē0œŔªĘÐŕđƔ2Ǉ^02IºSËĕɝÌð¹Ŗµɞaņ$uÎMJTÑUôJTñÍ>îbŗĚ$ö7ÑUŘ)½řA&c÷J&q¸4«%Ś&"
  walk_at "rd"
  obtain⟨⟨dx,l,h1,h2⟩,hn,hlen⟩:=id hk
  refine⟨_,_,_,h1,T.cl_Keeper,T.n_Keeper_up,_,zis true t l,true,rfl,?_⟩
  rw[if_neg (by decide)]
  refine⟨_,_,_,h1,T.cl_Keeper,T.n_Keeper_top,_,zkb true t l,t,rfl,?_⟩
  rw[if_neg (by simp;omega)]
  refine⟨_,_,h1,z77 true t l (by decide+kernel) (by decide+kernel) (by decide+kernel),k,true,t,L,hd,lk,sh,tick,rfl,hk,by omega,hl,fun H1 s1=>⟨_,rfl,?_⟩⟩
  rw[hf,if_neg (by decide)]
  have hn1:=hn.mono s1
  refine⟨_,_,_,s1 _ _ h1,T.cl_Keeper,T.n_Keeper_kept,_,z8w true t l,l,rfl,⟨_,SqL.of (s1 _ _ h2)⟩,?_⟩
  refine z14 (xs:=refs L) (by rw[zw];exact zf (by omega)) (fun i acc H'=>acc=refs (z54 hd lk (L.take i))/\Same H1 H') ⟨by simp[z54,refs],Same.refl _⟩ ?_ ?_ ?_ ?_
  .rintro i acc H' ⟨rfl,-⟩
   rw[zw]
   exact x01 (x06 _ _) (by rw[x07];omega)
  .rintro i acc H' ⟨-,s2⟩
   exact SqL.of (s2 _ _ (s1 _ _ h2))
  .rintro Nn i acc H' x hN hx hi ⟨rfl,s2⟩
   obtain⟨y,hy,rfl⟩:=z25 hx
   walk_at "rd"
   have ty:=hn1.tu _ (xf hy)
   refine⟨_,_,_,_,rfl,rfl,SqT.of (s2 _ _ ty),zi (j:=1) rfl,?_⟩
   refine⟨_,_,_,_,rfl,rfl,SqT.of (s2 _ _ ty),zi (j:=2) rfl,?_⟩
   refine⟨zf (by decide),fun p hp=>⟨zf (by decide),fun r hr'=>?_⟩⟩
   have npr:p≠r:=zh z9 hr'
   refine⟨_,_,_,_,rfl,rfl,SqT.of (by rw[zc npr,z9]),SqT.of z9,rfl,rfl,?_⟩
   have st:=z27 (fun q:Addr×Nt=>!(decide (q.2.h=hd)&&decide (q.2.l=lk))) hy
   have s3:Same H1 (upd (upd H' p (.tup [V.str y.2.h,V.str y.2.l])) r (.tup [V.str hd,V.str lk])):=(s2.trans (Same.upd hp)).trans (Same.upd hr')
   have ev:eqVs [V.str y.2.h,V.str y.2.l] [V.str hd,V.str lk]=(decide (y.2.h=hd)&&decide (y.2.l=lk)):=by
    have:=z9o [y.2.h,y.2.l] [hd,lk]
    simp only[x0a,List.map_nil]at this
    rw[this]
    simp[Bool.decide_and]
   simp only[ev,if_true]
   cases hc:(decide (y.2.h=hd)&&decide (y.2.l=lk)) with
   |true=>
    refine⟨_,rfl,?_⟩
    rw[if_neg (by decide)]
    refine hN _ _ ⟨?_,s3⟩
    unfold z54
    rw[st,hc]
    simp
   |false=>
    refine⟨_,rfl,?_⟩
    rw[if_pos (by decide)]
    refine hN _ _ ⟨?_,s3⟩
    unfold z54
    rw[st,hc]
    simp[refs]
  .rintro acc H2 ⟨rfl,s2⟩ p hp
   rw[zw,x0h]
   refine⟨zf (by decide),fun p1 hp1=>⟨zf (by decide),fun p2 hp2=>?_⟩⟩
   have n01:p≠p1:=zh z9 hp1
   have n12:p1≠p2:=zh z9 hp2
   have n02:p≠p2:=zh (by rw[zc n01];exact z9) hp2
   have kl:(z54 hd lk L).length<=L.length:=x06 _ _
   refine⟨_,_,_,_,rfl,rfl,by rw[zc n02,zc n01,z9],z9,zf (by rw[zw];show _+1<=_;omega),fun p3 hp3=>?_⟩
   have n13:p1≠p3:=zh (by rw[zc n12];exact z9) hp3
   have s3:=(((s1.trans s2).trans (Same.upd (o:=.lst (refs (z54 hd lk L))) hp)).trans (Same.upd (o:=.tup [V.int n,V.str hd,V.str lk,V.bl sh,V.int (tick+time)]) hp1)).trans (Same.upd (o:=.lst [V.ref p1]) hp2)
   have s4:=s3.trans (Same.upd (o:=.lst (refs (z54 hd lk L)++[V.ref p1])) hp3)
   have nk3:k≠p3:=zh (s3 _ _ h1) hp3
   refine⟨_,_,_,s4 _ _ h1,T.cl_Keeper,T.n_Keeper_kept,by show(3:Nat)<1000;decide,_,_,_,z9,T.cl_Keeper,T.n_Keeper_top,by rw[z9g];show(3:Nat)<1000;decide,?_⟩
   rw[z9g,zit]
   have hp1':H p1=none:=z1u ((s1.trans s2).trans (Same.upd hp)) hp1
   have nk1:p1≠k:=fun z=>by rw[z,h1]at hp1';cases hp1'
   refine q p1 _ hp1' ⟨⟨dx,p3,z9,?_⟩,⟨fun x hx=>?_,fun x hx=>?_⟩,?_⟩ ⟨dx,p3,z9,z1u s3 hp3⟩ fun b o e nb=>?_
   .rw[zc nk3.symm,zc nk3.symm,z9]
    simp[refs]
   .rcases x02.mp hx with z|z
    .have tz:=hn.tu _ (xz.mp z).1
     have nz:x.1≠k:=fun e=>by rw[e,h1]at tz;cases tz
     rw[zc nz,zc nz]
     exact s4 _ _ tz
    .have:x=(p1,⟨n,hd,lk,sh,tick+time⟩):=by simpa using z
     subst this
     show upd _ k _ p1=_
     rw[zc nk1,zc nk1,zc n13,zc n12,z9]
     rfl
   .rcases x02.mp hx with z|z
    .exact hn.sm _ (xz.mp z).1
    .have:x=(p1,⟨n,hd,lk,sh,tick+time⟩):=by simpa using z
     subst this
     exact⟨hh,hl⟩
   .rw[xt]
    show _+1<=_
    omega
   .rw[zc nb,zc nb]
    exact s4 _ _ e
noncomputable def z1h(tick:Int)(N:List Nt):List Nt:=N.filter fun x=>decide (tick<x.e)
noncomputable def z2p(N:List Nt)(hd lk:Str)(sh:Bool)(tick:Int):Bool:=!((z1h tick N).any fun x=>z3t hd lk sh x)
noncomputable def z8x(hd lk:Str)(N:List Nt):List Nt:=N.filter fun x=>!(decide (x.h=hd)&&decide (x.l=lk))
theorem z8g(tick:Int)(L:NL):(z1g tick L).map (·.2)=z1h tick (L.map (·.2)):=by
 unfold z1g z1h
 rw[List.filter_map]
 rfl
theorem zba(L:NL)(hd lk:Str)(sh:Bool)(tick:Int):z3u L hd lk sh tick=z2p (L.map (·.2)) hd lk sh tick:=by
 unfold z3u z2p
 rw[<-z8g,List.any_map]
 rfl
theorem zkf(hd lk:Str)(L:NL):(z54 hd lk L).map (·.2)=z8x hd lk (L.map (·.2)):=by
 unfold z54 z8x
 rw[List.filter_map]
 rfl
structure KN where
 u:Bool
 t:Int
 N:List Nt
theorem KeeperAt.but{C k k2 dx:Addr}{fs:List (Str×V)}{H H':Hp}{u:Bool}{t:Int}{L:NL}(h:KeeperAt C H k2 u t L)(b:But k H H')(hk:H k=some (.ins C dx fs))(ne:k2≠k):KeeperAt C H' k2 u t L:=by
 obtain⟨⟨dx2,l,h1,h2⟩,hn,hl⟩:=h
 have nl:l≠k:=fun z=>by rw[z,hk]at h2;cases h2
 refine⟨⟨dx2,l,b _ _ h1 ne,b _ _ h2 nl⟩,⟨fun q hq=>b _ _ (hn.tu q hq) fun z=>?_,hn.sm⟩,hl⟩
 have:=hn.tu q hq
 rw[z,hk]at this
 cases this
theorem n5:¬(("keepers":Str)="most"):=by decide+kernel
noncomputable def cf(l:Addr)(m:Int):List (Str×V):=[("keepers",.ref l),("most",.int m)]
theorem z78(l:Addr)(m:Int):(cf l m).lookup ("keepers":Str)=some (.ref l):=by simp[cf,x1c]
theorem zca(l:Addr)(m:Int):(cf l m).lookup ("most":Str)=some (.int m):=by
 have e:(("most":Str)=="keepers")=false:=by decide+kernel
 simp[cf,x1c,e]
theorem z4l(l:Addr)(m:Int){x:Str}(h1:(x=="keepers")=false)(h2:(x=="most")=false):(cf l m).lookup x=none:=by
 simp[cf,x1c,h1,h2]
theorem zoy(l:Addr)(m:Int):putF "most" (.int m) (putF "keepers" (.ref l) [])=cf l m:=by simp[putF,cf,n5]
noncomputable def KAt(C:Addr)(H:Hp)(k l:Addr)(s:KN):Prop:=(∃dx,H k=some (.ins C dx (kf s.u s.t l)))/\∃L:NL,L.map (·.2)=s.N/\KeeperAt C H k s.u s.t L
theorem KAt.mono{C:Addr}{H H':Hp}{k l:Addr}{s:KN}(h:KAt C H k l s)(e:Same H H'):KAt C H' k l s:=let⟨⟨dx,z⟩,L,a,b⟩:=h;⟨⟨dx,e _ _ z⟩,L,a,b.mono e⟩
theorem KAt.ob{C:Addr}{H:Hp}{k l:Addr}{s:KN}(h:KAt C H k l s):∃dx fs,H k=some (.ins C dx fs):=let⟨⟨dx,z⟩,_⟩:=h;⟨dx,_,z⟩
theorem zfo{u u':Bool}{t t':Int}{l l':Addr}(h:kf u t l=kf u' t' l'):l=l':=by
 have:=x12 (List.lookup ("kept":Str)) h
 rw[z8w,z8w]at this
 injection this with this
 injection this
theorem KAt.list{C:Addr}{H:Hp}{k l:Addr}{s:KN}(h:KAt C H k l s):∃xs,H l=some (.lst xs):=by
 obtain⟨⟨dx,z⟩,L,-,⟨dx',l',h1,h2⟩,-,-⟩:=h
 rw[z]at h1
 injection h1 with h1
 injection h1 with a b c
 rw[zfo c]
 exact⟨_,h2⟩
structure CAt(CC CK:Addr)(H:Hp)(c l:Addr)(ks ls:List Addr)(ss:List KN):Prop where
 ob:∃dx,H c=some (.ins CC dx (cf l ((ks.length:Int)/2+1)))
 li:H l=some (.lst (ks.map V.ref))
 kp:∀(i:Nat)(k:Addr),ks[i]? =some k->∃s l',ss[i]? =some s/\ls[i]? =some l'/\KAt CK H k l' s
 nd:ks.Nodup
 ln:ss.length=ks.length
 l2:ls.length=ks.length
 sz:ks.length<=100
theorem CAt.mono{CC CK:Addr}{H H':Hp}{c l:Addr}{ks ls:List Addr}{ss:List KN}(h:CAt CC CK H c l ks ls ss)(s:Same H H'):CAt CC CK H' c l ks ls ss:=by
 obtain⟨⟨dx,h1⟩,h2,h3,h4,h5,h6,h7⟩:=h
 exact⟨⟨dx,s _ _ h1⟩,s _ _ h2,fun i k e=>(let⟨u,l',e1,e2,e3⟩:=h3 i k e;⟨u,l',e1,e2,e3.mono s⟩),h4,h5,h6,h7⟩
noncomputable def LsOk(H:Hp)(ls ls':List Addr):Prop:=∀x∈ls',x∈ls\/H x=none
theorem LsOk.refl(H:Hp)(ls:List Addr):LsOk H ls ls:=fun x hx=>.inl hx
noncomputable def ButK(ks:List Addr)(H H':Hp):Prop:=∀b o,H b=some o->b∉ks->H' b=some o
theorem ButK.of{ks:List Addr}{H H':Hp}(s:Same H H'):ButK ks H H':=fun b o e _=>s b o e
theorem ButK.trans{ks:List Addr}{H H1 H2:Hp}(a:ButK ks H H1)(b:ButK ks H1 H2):ButK ks H H2:=fun c o e n=>b c o (a c o e n) n
theorem ButK.but{ks:List Addr}{H H':Hp}{k:Addr}(b:But k H H')(h:k∈ks):ButK ks H H':=fun c o e n=>b c o e fun z=>n (z▸h)
theorem CAt.mem{CC CK:Addr}{H:Hp}{c l:Addr}{ks ls:List Addr}{ss:List KN}(h:CAt CC CK H c l ks ls ss){k:Addr}(hk:k∈ks):∃dx fs,H k=some (.ins CK dx fs):=by
 obtain⟨j,hj,e⟩:=x0m hk
 obtain⟨s,l',-,-,hs⟩:=h.kp j k (by rw[x8 hj,e])
 exact hs.ob
theorem CAt.lsome{CC CK:Addr}{H:Hp}{c l:Addr}{ks ls:List Addr}{ss:List KN}(h:CAt CC CK H c l ks ls ss){x:Addr}(hx:x∈ls):∃xs,H x=some (.lst xs):=by
 obtain⟨j,hj,e⟩:=x0m hx
 obtain⟨s,l',-,e2,hs⟩:=h.kp j _ (x8 (by rw[<-h.l2];exact hj))
 rw[x8 hj]at e2
 injection e2 with e2
 rw[<-e,e2]
 exact hs.list
theorem CAt.set{CC CK:Addr}{H H':Hp}{c l k l1:Addr}{ks ls:List Addr}{ss:List KN}{j:Nat}{s:KN}(h:CAt CC CK H c l ks ls ss)(hj:ks[j]? =some k)(hk:KAt CK H' k l1 s)(hb:But k H H'):CAt CC CK H' c l ks (ls.set j l1) (ss.set j s):=by
 obtain⟨s0,l0,hu,hl0,hku⟩:=h.kp j k hj
 obtain⟨dxk,fk,h1⟩:=hku.ob
 obtain⟨dx,hob⟩:=h.ob
 have hjl:j<ks.length:=(xl.mp hj).1
 refine⟨⟨dx,hb _ _ hob fun z=>?_⟩,hb _ _ h.li fun z=>?_,fun i k2 e=>?_,h.nd,by rw[List.length_set];exact h.ln,by rw[List.length_set];exact h.l2,h.sz⟩
 .rw[z,h1]at hob
  injection hob with hob
  injection hob with a1 a2 a3
  subst a1
  obtain⟨⟨dy,g1⟩,-⟩:=hku
  rw[h1]at g1
  injection g1 with g1
  injection g1 with b1 b2 b3
  rw[b3]at a3
  have:=x12 (List.lookup ("up":Str)) a3
  rw[zis,z4l _ _ (by decide+kernel) (by decide+kernel)]at this
  cases this
 .have:=h.li
  rw[z,h1]at this
  cases this
 .by_cases hij:i=j
  .subst hij
   rw[hj]at e
   cases e
   exact⟨s,l1,by rw[x2p (by rw[h.ln];exact hjl)],by rw[x2p (by rw[h.l2];exact hjl)],hk⟩
  .obtain⟨u2,l2',e2,e2',⟨dx2,z2⟩,L2,e3,hk2⟩:=h.kp i k2 e
   have nk2:k2≠k:=fun z=>hij ?_
   .exact⟨u2,l2',by rw[x2i (Ne.symm hij)];exact e2,by rw[x2i (Ne.symm hij)];exact e2',⟨dx2,hb _ _ z2 nk2⟩,L2,e3,hk2.but hb h1 nk2⟩
   have hil:i<ks.length:=(xl.mp e).1
   have ei:ks[i]=k:=by rw[<-z];exact(xl.mp e).2
   have ej:ks[j]=k:=(xl.mp hj).2
   rcases Nat.lt_trichotomy i j with y|y|y
   .exact absurd (ei.trans ej.symm) (x0w.mp h.nd i j hil hjl y)
   .exact y
   .exact absurd (ej.trans ei.symm) (x0w.mp h.nd j i hjl hil y)
noncomputable def z8h(n:Nat):List KN:=List.replicate n ⟨true,0,[]⟩
noncomputable def zha(CC CK:Addr):Sp:=fun vs H Q _=>∃(c dx:Addr)(n:Nat),vs=[.ref c,.int n]/\n<=100/\H c=some (.ins CC dx [])/\∀(l:Addr)(ks ls:List Addr)(H':Hp),ks.length=n->CAt CC CK H' c l ks ls (z8h n)->(∀b o,H b=some o->b≠c->H' b=some o)->(∀k∈ks,H k=none)->(∀x∈ls,H x=none)->H l=none->Q .non H'
theorem z7m(F:KDef K ya "Council.__init__" z3d ["self","many"])(T:Txt K mg ya yc yo yb y9 yd ye yn yp yr yf yg yk yl yi yh ym yj)(y1j:KHas P w K mg base 1 yc ["self"] (zkc yc)):KHas P w K mg base 3 ya ["self","many"] (zha ya yc):=by
 refine F.ok z7j (fun vs H Q E h=>?_) (fun f cdv A outer s H vs Q E hr h=>?_)
 .obtain⟨c,dx,n,rfl,_⟩:=h
  rfl
 .obtain⟨c,dx,n,rfl,hn,hc,q⟩:=h
  walk_at "%LîrƗěś#UŜvȈ;ɟø(ɠÒ3%qîÓÔ#¶ŝ/8%'&"
  walk_at "rd"
  refine⟨⟨by omega,by omega⟩,?_⟩
  rw[x0z]
  refine z4c (zf (by omega)) (fun i acc H'=>∃ks:List Addr,acc=ks.map V.ref/\ks.length=i/\ks.Nodup/\(∀k∈ks,H k=none/\∃l1,H l1=none/\KAt yc H' k l1 ⟨true,0,[]⟩)/\Same H H') ⟨[],rfl,rfl,x29,fun k hk=>(by cases hk),Same.refl _⟩ ?_ ?_ ?_
  .rintro i acc H' ⟨ks,rfl,rfl,-⟩
   rw[x5]
   exact xi _
  .rintro Nn i acc H' hN hi ⟨ks,rfl,hl,hnd,hks,sH⟩
   walk_at "rd"
   intro x d hx hd hne
   refine⟨x,d,rfl,z9,fun H3 hk3 hz3 hb3=>⟨rfl,hN _ _ ⟨ks++[x],by simp,by simp[hl],?_,?_,?_⟩⟩⟩
   .rw[x2b]
    refine⟨hnd,by simp,fun a ha b hb=>?_⟩
    have:b=x:=by simpa using hb
    rw[this]
    rintro rfl
    obtain⟨-,l1,-,⟨_,e⟩,-⟩:=hks a ha
    rw[e]at hx
    cases hx
   .have s3:Same H' H3:=fun b o e=>by
     have n1:b≠x:=zh e hx
     have n2:b≠d:=zh e hd
     exact hb3 b o (by rw[zc n1,zc n2];exact e) n1
    intro k hk
    rcases x02.mp hk with z|z
    .obtain⟨a1,l1,a2,a3⟩:=hks k z
     exact⟨a1,l1,a2,a3.mono s3⟩
    .have:k=x:=by simpa using z
     subst this
     obtain⟨dx3,l3,z3,n3⟩:=hz3
     have n3':H' l3=none:=by
      cases e:H' l3 with
      |none=>rfl
      |some o=>
       have na:l3≠k:=zh e hx
       have nb:l3≠d:=zh e hd
       rw[zc na,zc nb,e]at n3
       cases n3
     exact⟨z1u sH hx,l3,z1u sH n3',⟨dx3,z3⟩,[],rfl,hk3⟩
   .intro b o e
    have e1:=sH _ _ e
    have n1:b≠x:=zh e1 hx
    have n2:b≠d:=zh e1 hd
    exact hb3 b o (by rw[zc n1,zc n2];exact e1) n1
  .rintro acc H' ⟨ks,rfl,hl,hnd,hks,sH⟩ p hp
   have s2:=sH.trans (Same.upd (o:=.lst (ks.map V.ref)) hp)
   have gp:(upd H' p (.lst (ks.map V.ref))) p=some (.lst (ks.map V.ref)):=z9
   have hks2:∀k∈ks,H k=none/\∃l1,H l1=none/\KAt yc (upd H' p (.lst (ks.map V.ref))) k l1 ⟨true,0,[]⟩:=fun k hk=>let⟨a1,l1,a2,a3⟩:=hks k hk;⟨a1,l1,a2,a3.mono (Same.upd hp)⟩
   have hp0:H p=none:=z1u sH hp
   generalize upd H' p (.lst (ks.map V.ref))=H2 at s2 gp hks2⊢
   have nkc:∀k∈ks,k≠c:=fun k hk z=>by have:=(hks2 k hk).1;rw[z,hc]at this;cases this
   have gc2:=s2 _ _ hc
   have ncp:c≠p:=fun z=>by rw[z,gp]at gc2;cases gc2
   refine⟨_,_,_,gc2,T.cl_Council,T.n_Council_keepers,by decide,?_⟩
   have kk:(putF (Str.ofString "keepers") (V.ref p) []).lookup (Str.ofString "keepers")=some (V.ref p):=by simp[putF,x1c]
   have gp1:(upd H2 c (HO.ins ya dx (putF (Str.ofString "keepers") (V.ref p) []))) p=some (.lst (ks.map V.ref)):=by rw[zc ncp.symm];exact gp
   refine⟨_,_,_,z9,T.cl_Council,T.n_Council_keepers,_,kk,p,rfl,_,.inl (SqL.of gp1),cdiv (by decide) (by decide),_,_,_,z9,T.cl_Council,T.n_Council_most,by simp[putF],?_⟩
   rw[zoy,x5]
   have but2:∀ b o,H2 b=some o->b≠c->(upd (upd H2 c (HO.ins ya dx (putF (Str.ofString "keepers") (V.ref p) []))) c (HO.ins ya dx (cf p ((ks.length:Int)/2+1)))) b=some o:=fun b o e nb=>by
    rw[zc nb,zc nb]
    exact e
   obtain⟨lf,hlf⟩:∃lf:Addr->Addr,∀k∈ks,H (lf k)=none/\KAt yc H2 k (lf k) ⟨true,0,[]⟩:=by
    refine⟨fun k=>if h:k∈ks then Classical.choose (hks2 k h).2 else k,fun k hk=>?_⟩
    simp only[hk,dite_true]
    exact Classical.choose_spec (hks2 k hk).2
   refine q p ks (ks.map lf) _ hl ⟨⟨dx,z9⟩,but2 _ _ gp ncp.symm,fun i k e=>⟨⟨true,0,[]⟩,lf k,?_,by rw[xj,e];rfl,?_⟩,hnd,by unfold z8h;rw[List.length_replicate,hl],x5 _,by omega⟩ (fun b o e nb=>but2 b o (s2 _ _ e) nb) (fun k hk=>(hks2 k hk).1) (fun x hx=>?_) hp0
   .have:=(xl.mp e).1
    unfold z8h
    rw[x0r,if_pos (by omega)]
   .obtain⟨⟨dz,z⟩,L,eL,⟨dk,lk,a1,a2⟩,a3,a4⟩:=(hlf k (xf e)).2
    have nk:=nkc k (xf e)
    have eL0:L=[]:=List.map_eq_nil_iff.mp eL
    subst eL0
    exact⟨⟨dz,but2 _ _ z nk⟩,[],rfl,⟨dk,lk,but2 _ _ a1 nk,but2 _ _ a2 fun z=>by rw[z,gc2]at a2;cases a2⟩,⟨fun y hy=>(by cases hy),fun y hy=>(by cases hy)⟩,a4⟩
   .obtain⟨k,hk,rfl⟩:=xw.mp hx
    exact(hlf k hk).1
noncomputable def zmq(CC CK:Addr):Sp:=fun vs H Q _=>∃(c l:Addr)(ks ls:List Addr)(ss:List KN)(j:Nat)(k:Addr),vs=[.ref c,.int ((j:Int)+1)]/\CAt CC CK H c l ks ls ss/\ks[j]? =some k/\Q (.ref k) H
theorem z79(F:MDef K ya "keeper_at" "Council.keeper_at" z34 ["self","place"])(T:Txt K mg ya yc yo yb y9 yd ye yn yp yr yf yg yk yl yi yh ym yj):MHas P w K mg base CX0 1 ya "keeper_at" ["self","place"] (zmq ya yc):=by
 refine F.ok z75 (fun vs H Q E h=>?_) (fun f cdv A outer s H vs Q E hr h=>?_)
 .obtain⟨c,l,ks,ls,us,j,k,rfl,_⟩:=h
  rfl
 .obtain⟨c,l,ks,ls,us,j,k,rfl,hc,hk,q⟩:=h
  have hj:j<ks.length:=(xl.mp hk).1
  walk_at "%ėǈȉŞ/~¶ŝşGÐ:¾wbȊl8¬?"
  walk_at "rd"
  obtain⟨dx,hob⟩:=hc.ob
  rw[if_pos (by simp;omega)]
  refine⟨_,_,_,hob,T.cl_Council,T.n_Council_keepers,_,z78 _ _,l,rfl,_,.inl (SqL.of hc.li),?_⟩
  rw[x5,if_neg (by simp;omega)]
  exact⟨_,_,_,hob,T.cl_Council,T.n_Council_keepers,_,z78 _ _,l,_,_,_,rfl,rfl,SqL.of hc.li,by rw[show(j:Int)+1-1=j by omega];exact zi (v:=V.ref k) (by rw[xj,hk];rfl),q⟩
noncomputable def ptup(L:List (Addr×Nat×Addr)):List V:=L.map fun q=>V.ref q.1
theorem z4x(L:List (Addr×Nat×Addr)):(ptup L).length=L.length:=x5 _
theorem z7a{L:List (Addr×Nat×Addr)}{i:Nat}{x:V}(hx:(ptup L)[i]? =some x):∃y,L[i]? =some y/\x=V.ref y.1:=by
 unfold ptup at hx
 rw[xj]at hx
 cases e:L[i]? with
 |none=>rw[e]at hx;cases hx
 |some y=>rw[e]at hx;exact⟨y,rfl,(xq hx).symm⟩
noncomputable def upAt(ss:List KN)(j:Nat):Bool:=match ss[j]? with|some s=>s.u|none=>false
noncomputable def upl(ss:List KN)(n:Nat):List Nat:=(List.range n).filter (upAt ss)
theorem zhb(ss:List KN)(n:Nat):(upl ss n).length<=n:=x01 (x06 _ _) (by rw[x1h];exact xi _)
theorem zcb{ss:List KN}{n j:Nat}(h:j∈upl ss n):j<n/\upAt ss j=true:=⟨x0l.mp (xz.mp h).1,(xz.mp h).2⟩
theorem zkg(ss:List KN)(n:Nat):(upl ss n).Nodup:=List.Nodup.sublist List.filter_sublist List.nodup_range
structure Pairs(H:Hp)(ks:List Addr)(ss:List KN)(L:List (Addr×Nat×Addr)):Prop where
 mp:L.map (·.2.1)=upl ss ks.length
 tu:∀q∈L,H q.1=some (.tup [.int ((q.2.1:Int)+1),.ref q.2.2])
 at_:∀q∈L,ks[q.2.1]? =some q.2.2
theorem Pairs.len{H:Hp}{ks:List Addr}{ss:List KN}{L:List (Addr×Nat×Addr)}(h:Pairs H ks ss L):L.length<=ks.length:=by
 have:=x12 List.length h.mp
 rw[x5]at this
 rw[this]
 exact zhb _ _
theorem Pairs.take{H:Hp}{ks:List Addr}{ss:List KN}{L:List (Addr×Nat×Addr)}(h:Pairs H ks ss L)(i:Nat):(L.take i).map (·.2.1)=(upl ss ks.length).take i:=by rw[List.map_take,h.mp]
noncomputable def zbb(CC CK:Addr):Sp:=fun vs H Q _=>∃(c l:Addr)(ks ls:List Addr)(ss:List KN),vs=[.ref c]/\CAt CC CK H c l ks ls ss/\∀(r:Addr)(L:List (Addr×Nat×Addr))(H':Hp),Pairs H' ks ss L->H r=none->H' r=some (.lst (ptup L))->Same H H'->Q (.ref r) H'
theorem z6q(F:MDef K ya "up_keepers" "Council.up_keepers" z2v ["self"])(T:Txt K mg ya yc yo yb y9 yd ye yn yp yr yf yg yk yl yi yh ym yj):MHas P w K mg base CX0 1 ya "up_keepers" ["self"] (zbb ya yc):=by
 refine F.ok z6n (fun vs H Q E h=>?_) (fun f cdv A outer s H vs Q E hr h=>?_)
 .obtain⟨c,l,ks,ls,us,rfl,_⟩:=h
  rfl
 .obtain⟨c,l,ks,ls,us,rfl,hc,q⟩:=h
  walk_at "%YǉBƗǊŠƘĜƙ<ƚĝ#šǋaxĞǌƛÕĞǍƛÖğ&$ɡƜ(ɢyƝ#ɣǎ/ɤ%_¹kǏ*ǐRí%V§őuǑ-Q31"
  walk_at "rd"
  obtain⟨dx,hob⟩:=hc.ob
  have hsz:=hc.sz
  refine⟨_,_,_,hob,T.cl_Council,T.n_Council_keepers,_,z78 _ _,l,rfl,_,SqL.of hc.li,?_⟩
  refine zen (xs:=ks.map V.ref) (by rw[x5];exact zf (by omega)) (fun i acc H'=>∃L:List (Addr×Nat×Addr),acc=ptup L/\L.map (·.2.1)=upl us i/\(∀q∈L,H' q.1=some (.tup [.int ((q.2.1:Int)+1),.ref q.2.2])/\ks[q.2.1]? =some q.2.2)/\L.length<=i/\Same H H') ⟨[],rfl,rfl,fun q hq=>(by cases hq),xi _,Same.refl _⟩ ?_ ?_ ?_ ?_
  .rintro i acc H' ⟨L,rfl,-,-,hl,-⟩
   unfold ptup
   rw[x5]
   exact hl
  .rintro i acc H' ⟨L,rfl,-,-,-,sH⟩
   exact SqL.of (sH _ _ hc.li)
  .rintro Nn i acc H' x Ta hN hx hi ⟨L,rfl,hm,hT,hl,sH⟩ hTa
   obtain⟨k,hk,rfl⟩:∃k,ks[i]? =some k/\x=V.ref k:=by
    rw[xj]at hx
    cases e:ks[i]? with
    |none=>rw[e]at hx;cases hx
    |some k=>rw[e]at hx;exact⟨k,rfl,(xq hx).symm⟩
   obtain⟨s,l1,hu,hl1,-,Ls,-,hku⟩:=hc.kp i k hk
   have sT:=Same.upd (o:=.tup [V.int ((i:Int)+1),V.ref k]) hTa
   obtain⟨⟨dk,lk,a1,a2⟩,-,-⟩:=id (hku.mono (sH.trans sT))
   have eu:upAt us i=s.u:=by unfold upAt;rw[hu]
   have step:upl us (i+1)=upl us i++(if s.u=true then[i] else[]):=by
    unfold upl
    rw[List.range_succ,x23]
    congr 1
    rw[x2g,eu]
    cases s.u<;>rfl
   have hT2:∀q∈L,(upd H' Ta (.tup [V.int ((i:Int)+1),V.ref k])) q.1=some (.tup [.int ((q.2.1:Int)+1),.ref q.2.2])/\ks[q.2.1]? =some q.2.2:=fun q hq=>⟨sT _ _ (hT q hq).1,(hT q hq).2⟩
   refine⟨Ta,_,rfl,SqT.of z9,rfl,?_⟩
   walk_at "rd"
   refine⟨_,_,⟨rfl,rfl⟩,_,_,rfl,rfl,⟨_,rfl⟩,k,rfl,_,_,_,a1,T.cl_Keeper,T.n_Keeper_up,_,zis s.u s.t lk,s.u,rfl,?_⟩
   cases hsu:s.u with
   |false=>
    rw[hsu]at step
    rw[if_neg xm]
    exact hN _ _ ⟨L,rfl,by rw[step,hm];simp,hT2,by omega,sH.trans sT⟩
   |true=>
    rw[hsu]at step
    rw[if_pos rfl]
    refine⟨zf (by decide),fun pt hpt=>hN _ _ ⟨L++[(pt,i,k)],by simp[ptup],by rw[step,x04,hm];rfl,fun y hy=>?_,by rw[xt];show L.length+1<=_;omega,(sH.trans sT).trans (Same.upd hpt)⟩⟩
    rcases x02.mp hy with z|z
    .exact⟨(Same.upd hpt) _ _ (hT2 y z).1,(hT2 y z).2⟩
    .have:y=(pt,i,k):=by simpa using z
     subst this
     exact⟨z9,hk⟩
  .rintro acc H' ⟨L,rfl,hm,hT,hl,sH⟩ p hp
   rw[x5]at hm
   exact q p L _ ⟨hm,fun y hy=>(Same.upd hp) _ _ (hT y hy).1,fun y hy=>(hT y hy).2⟩ (z1u sH hp) z9 (sH.trans (Same.upd hp))
noncomputable def frAt(ss:List KN)(hd lk:Str)(sh:Bool)(tick:Int)(j:Nat):Bool:=match ss[j]? with|some s=>z2p s.N hd lk sh tick|none=>false
noncomputable def sayl(ss:List KN)(n:Nat)(hd lk:Str)(sh:Bool)(tick:Int):List Nat:=(upl ss n).filter (frAt ss hd lk sh tick)
noncomputable def z19(js:List Nat):List V:=js.map fun(j:Nat)=>V.int ((j:Int)+1)
theorem zm7(ss:List KN)(n:Nat)(hd lk:Str)(sh:Bool)(tick:Int):(sayl ss n hd lk sh tick).length<=n:=x01 (x06 _ _) (zhb _ _)
noncomputable def zbc(ss:List KN):Prop:=∀s∈ss,s.N.length<=62
noncomputable def za5(CC CK:Addr):Sp:=fun vs H Q _=>∃(c l:Addr)(ks ls:List Addr)(ss:List KN)(hd lk:Str)(sh:Bool)(tick:Int),vs=[.ref c,.str hd,.str lk,.bl sh,.int tick]/\CAt CC CK H c l ks ls ss/\zbc ss/\lk.length<=1000/\∀(r:Addr)(H':Hp),H r=none->H' r=some (.lst (z19 (sayl ss ks.length hd lk sh tick)))->Same H H'->Q (.ref r) H'
theorem z95(F:MDef K ya "sayers" "Council.sayers" z42 ["self","holder","lock","shared","tick"])(T:Txt K mg ya yc yo yb y9 yd ye yn yp yr yf yg yk yl yi yh ym yj)(yx:MHas P w K mg base CX0 5 yc "says_free" ["self","holder","lock","shared","tick"] (zfn yc))(yt:MHas P w K mg base CX0 1 ya "up_keepers" ["self"] (zbb ya yc)):MHas P w K mg base CX0 6 ya "sayers" ["self","holder","lock","shared","tick"] (za5 ya yc):=by
 refine F.ok z92 (fun vs H Q E h=>?_) (fun f cdv A outer s H vs Q E hr h=>?_)
 .obtain⟨c,l,ks,ls,ss,hd,lk,sh,tick,rfl,_⟩:=h
  rfl
 .obtain⟨c,l,ks,ls,ss,hd,lk,sh,tick,rfl,hc,hsm,hl,q⟩:=h
  walk_at "%YǉBƗǊdƔ2Ǉ2Ȅ2Ȁ^-202I2DƘĜƙ<ƚƞƞĕ®®#šǋaxĞǌȋÕĞǍȋÖğ&$ŢeƟ¯ùT¹k5ȇò«ŘŔª§ő431"
  walk_at "rd"
  obtain⟨dx,hob⟩:=hc.ob
  have hsz:=hc.sz
  refine⟨_,_,hob,z4l _ _ (by decide+kernel) (by decide+kernel),c,l,ks,ls,ss,rfl,hc,fun r L H1 hL hr0 gr s1=>⟨r,rfl,⟨_,SqL.of gr⟩,?_⟩⟩
  have hll:=hL.len
  refine z7v (xs:=ptup L) (by rw[z4x];exact zf (by omega)) (fun i acc H'=>acc=z19 (((upl ss ks.length).take i).filter (frAt ss hd lk sh tick))/\Same H1 H') ⟨rfl,Same.refl _⟩ ?_ ?_ ?_ ?_
  .rintro i acc H' ⟨rfl,-⟩
   unfold z19
   rw[x5]
   exact x01 (x06 _ _) (by rw[x07];omega)
  .rintro i acc H' ⟨-,s2⟩
   exact SqL.of (s2 _ _ gr)
  .rintro Nn i acc H' x hN hx hi ⟨rfl,s2⟩
   obtain⟨y,hy,rfl⟩:=z7a hx
   have my:=xf hy
   refine⟨y.1,_,rfl,SqT.of (s2 _ _ (hL.tu y my)),rfl,?_⟩
   walk_at "rd"
   obtain⟨s,l1,hu,hl1,-,Ls,eL,hk⟩:=(hc.mono (s1.trans s2)).kp y.2.1 y.2.2 (hL.at_ y my)
   obtain⟨⟨dk,lk',a1,a2⟩,hn,-⟩:=id hk
   have l62:Ls.length<=62:=by
    have:=hsm s (xf hu)
    rw[<-eL,x5]at this
    exact this
   have gi:(upl ss ks.length)[i]? =some y.2.1:=by rw[<-hL.mp,xj,hy];rfl
   have stp:=z27 (frAt ss hd lk sh tick) gi
   have ef:frAt ss hd lk sh tick y.2.1=z3u Ls hd lk sh tick:=by
    unfold frAt
    rw[hu,zba,eL]
   refine⟨_,_,⟨rfl,rfl⟩,_,_,rfl,rfl,⟨_,rfl⟩,_,rfl,_,_,a1,z77 s.u s.t lk' (by decide+kernel) (by decide+kernel) (by decide+kernel),y.2.2,s.u,s.t,Ls,hd,lk,sh,tick,rfl,hk,by omega,hl,fun H3 s3=>⟨_,rfl,?_⟩⟩
   cases hf:z3u Ls hd lk sh tick with
   |true=>
    rw[if_pos rfl]
    refine hN _ _ ⟨?_,s2.trans s3⟩
    rw[stp,ef,hf]
    simp[z19]
   |false=>
    rw[if_neg xm]
    refine hN _ _ ⟨?_,s2.trans s3⟩
    rw[stp,ef,hf]
    simp
  .rintro acc H' ⟨rfl,s2⟩ p hp
   have e:(upl ss ks.length).take (ptup L).length=upl ss ks.length:=by
    rw[z4x,<-hL.take,x0h,hL.mp]
   rw[e]
   exact q p _ (z1u (s1.trans s2) hp) z9 ((s1.trans s2).trans (Same.upd hp))
noncomputable def zmr(ss:List KN)(m:Int):Prop:=(∃s∈ss,s.u=true/\s.t=m)/\∀s∈ss,s.u=true->s.t<=m
noncomputable def z4m(ss:List KN)(sl:List Nat)(x:Nt):List KN:=ss.mapIdx fun j s=>if j∈sl then⟨s.u,x.n,z8x x.h x.l s.N++[x]⟩ else s
theorem zkh(ss:List KN)(x:Nt):z4m ss [] x=ss:=by
 unfold z4m
 apply x28
 intro i
 rw[List.getElem?_mapIdx]
 simp
theorem ziu{ss:List KN}{sl:List Nat}{x:Nt}{i j:Nat}{s:KN}(hj:sl[i]? =some j)(hs:ss[j]? =some s)(nd:sl.Nodup):z4m ss (sl.take (i+1)) x=(z4m ss (sl.take i) x).set j ⟨s.u,x.n,z8x x.h x.l s.N++[x]⟩/\(z4m ss (sl.take i) x)[j]? =some s:=by
 have nj:j∉sl.take i:=fun h=>by
  obtain⟨k,hk,e⟩:=x0m h
  rw[x07]at hk
  have e2:sl[k]? =some j:=by rw[List.getElem_take]at e;rw[x8 (by omega),e]
  have:=(List.getElem?_inj (by omega) nd).mp (e2.trans hj.symm)
  omega
 constructor
 .unfold z4m
  apply x28
  intro k
  rw[List.getElem?_mapIdx,x16,hj]
  by_cases hk:k=j
  .subst hk
   have hl:k<ss.length:=(xl.mp hs).1
   rw[x2p (by rw[List.length_mapIdx];exact hl),hs]
   simp
  .rw[x2i (Ne.symm hk),List.getElem?_mapIdx]
   simp[hk]
 .unfold z4m
  rw[List.getElem?_mapIdx,hs]
  simp[nj]
noncomputable def zki(CC CK:Addr):Sp:=fun vs H Q _=>∃(c l:Addr)(ks ls:List Addr)(ss:List KN)(hd lk:Str)(sh:Bool)(tick time:Int),vs=[.ref c,.str hd,.str lk,.bl sh,.int tick,.int time]/\CAt CC CK H c l ks ls ss/\zbc ss/\hd.length<=1000/\lk.length<=1000/\
 ¬((sayl ss ks.length hd lk sh tick).length:Int)<(ks.length:Int)/2+1/\(∀(m:Int),zmr ss m->∀(r p:Addr)(ls':List Addr)(H':Hp),LsOk H ls ls'->CAt CC CK H' c l ks ls' (z4m ss (sayl ss ks.length hd lk sh tick) ⟨1+m,hd,lk,sh,tick+time⟩)->
  H' r=some (.tup [.int (1+m),.ref p])->H' p=some (.lst (z19 (sayl ss ks.length hd lk sh tick)))->H r=none->H p=none->ButK ks H H'->Q (.ref r) H')
theorem zbd(F:MDef K ya "give" "Council.give" z4t ["self","holder","lock","shared","tick","time"])(T:Txt K mg ya yc yo yb y9 yd ye yn yp yr yf yg yk yl yi yh ym yj)(y1u:MHas P w K mg base CX0 6 yc "take" ["self","number","holder","lock","shared","tick","time"] (zke yc))(y1e:MHas P w K mg base CX0 1 ya "keeper_at" ["self","place"] (zmq ya yc))(yt:MHas P w K mg base CX0 1 ya "up_keepers" ["self"] (zbb ya yc))(y11:MHas P w K mg base CX0 6 ya "sayers" ["self","holder","lock","shared","tick"] (za5 ya yc)):MHas P w K mg base CX0 7 ya "give" ["self","holder","lock","shared","tick","time"] (zki ya yc):=by
 refine F.ok sc_Council_give (fun vs H Q E h=>?_) (fun f cdv A outer s H vs Q E hr h=>?_)
 .obtain⟨c,l,ks,ls,ss,hd,lk,sh,tick,time,rfl,_⟩:=h
  rfl
 .obtain⟨c,l,ks,ls,ss,hd,lk,sh,tick,time,rfl,hc,hsm,hh,hl,hlt,q⟩:=h
  walk_at "%×ţǒ+5Ȍ¯ē-ĖŤ=ŋ#¶¡Az©EÐFS.ǒ+Ġōɥ¦ɦsǉBƗǊŠƘĜƙ<ƚĝ#šǋaxĞǌƛÕĞǍƛÖğ&$ŢeƟ¯ùTvǏ*ǐRí%VØC¿ťNAGfO*ǒPKmɧò$5ɨ¯ēOJ(_gSŦŘŔWªġÙÑgS{AQ?1"
  walk_at "rd"
  obtain⟨dx,hob⟩:=hc.ob
  have hsz:=hc.sz
  have hsl:=zm7 ss ks.length hd lk sh tick
  refine⟨_,_,hob,z4l _ _ (by decide+kernel) (by decide+kernel),c,l,ks,ls,ss,hd,lk,sh,tick,rfl,hc,hsm,hl,fun r H1 hr0 gr s1=>?_⟩
  have snd:(sayl ss ks.length hd lk sh tick).Nodup:=List.Nodup.sublist List.filter_sublist (zkg _ _)
  have smem:∀j∈sayl ss ks.length hd lk sh tick,j<ks.length/\upAt ss j=true/\frAt ss hd lk sh tick j=true:=fun j hj=>by
   obtain⟨a,b⟩:=xz.mp hj
   exact⟨(zcb a).1,(zcb a).2,b⟩
  generalize sayl ss ks.length hd lk sh tick=sl at hlt q gr hsl snd smem
  refine⟨r,rfl,_,.inl (SqL.of gr),_,_,_,s1 _ _ hob,T.cl_Council,T.n_Council_most,_,zca _ _,_,rfl,?_⟩
  have epl:(z19 sl).length=sl.length:=x5 _
  rw[epl]
  rw[if_neg (by simpa using hlt)]
  have hc1:=hc.mono s1
  refine⟨_,_,s1 _ _ hob,z4l _ _ (by decide+kernel) (by decide+kernel),c,l,ks,ls,ss,rfl,hc1,fun r2 L H2 hL hr2 gr2 s2=>⟨r2,rfl,⟨_,SqL.of gr2⟩,?_⟩⟩
  have hll:=hL.len
  have hc2:=hc1.mono s2
  have stAt:∀y∈L,∃s,ss[y.2.1]? =some s/\s.u=true/\∃dx lk',H2 y.2.2=some (.ins yc dx (kf s.u s.t lk')):=fun y hy=>by
   obtain⟨s,l1,hu,hl1,-,Ls,eL,⟨dk,lk',a1,a2⟩,-,-⟩:=hc2.kp y.2.1 y.2.2 (hL.at_ y hy)
   have hm:y.2.1∈upl ss ks.length:=by rw[<-hL.mp];exact List.mem_map_of_mem hy
   have:=(zcb hm).2
   unfold upAt at this
   rw[hu]at this
   exact⟨s,hu,this,dk,lk',a1⟩
  refine z7v (xs:=ptup L) (by rw[z4x];exact zf (by omega)) (fun i acc H'=>H2=H'/\∃ns:List Int,acc=ns.map V.int/\ns.length=(L.take i).length/\(∀x∈ns,∃s∈ss,s.u=true/\s.t=x)/\∀y∈L.take i,∀s,ss[y.2.1]? =some s->s.t∈ns) ⟨rfl,[],rfl,rfl,(fun x hx=>by cases hx),(fun y hy=>by cases hy)⟩ ?_ ?_ ?_ ?_
  .rintro i acc H' ⟨-,ns,rfl,en,-⟩
   rw[x5,en,x07]
   omega
  .rintro i acc H' ⟨rfl,-⟩
   exact SqL.of gr2
  .rintro Nn i acc H' x hN hx hi ⟨rfl,ns,rfl,en,hn1,hn2⟩
   obtain⟨y,hy,rfl⟩:=z7a hx
   have my:=xf hy
   refine⟨y.1,_,rfl,SqT.of (hL.tu y my),rfl,?_⟩
   walk_at "rd"
   obtain⟨s,hu,hup,dk,lk',a1⟩:=stAt y my
   refine⟨_,_,⟨rfl,rfl⟩,_,_,rfl,rfl,⟨_,rfl⟩,y.2.2,rfl,_,_,_,a1,T.cl_Keeper,T.n_Keeper_top,_,zkb s.u s.t lk',hN _ _ ⟨rfl,ns++[s.t],by simp,?_,fun x hx=>?_,fun z hz s' hs'=>?_⟩⟩
   .rw[xt,en,x16,hy]
    simp
   .rcases x02.mp hx with hx|hx
    .exact hn1 x hx
    .have:x=s.t:=by simpa using hx
     exact⟨s,xf hu,hup,this.symm⟩
   .rw[x16,hy]at hz
    rcases x02.mp hz with hz|hz
    .exact x0p _ (hn2 z hz s' hs')
    .have:z=y:=by simpa using hz
     rw[this,hu]at hs'
     cases hs'
     simp
  rintro acc H' ⟨rfl,ns,rfl,en,hn1,hn2⟩ p hp
  rw[z4x,x0h]at en hn2
  have lsl:0<sl.length:=by
   have:(0:Int)<=(ks.length:Int)/2:=Int.ediv_nonneg (by omega) (by decide)
   omega
  obtain⟨j0,hj0⟩:∃j,j∈sl:=⟨sl[0],x2v lsl⟩
  have memL:∀j,j<ks.length->upAt ss j=true->∃y∈L,y.2.1=j:=fun j hj hu=>by
   have:j∈upl ss ks.length:=xz.mpr ⟨x0l.mpr hj,hu⟩
   rw[<-hL.mp]at this
   obtain⟨y,hy,e⟩:=xw.mp this
   exact⟨y,hy,e⟩
  have nne:ns≠[]:=by
   obtain⟨a,b,-⟩:=smem j0 hj0
   obtain⟨y,hy,-⟩:=memL j0 a b
   intro z
   rw[z]at en
   have:L=[]:=x1i.mp en.symm
   rw[this]at hy
   cases hy
  have s3:=s2.trans (Same.upd (o:=.lst (ns.map V.int)) hp)
  refine⟨p,rfl,ns,SqL.of z9,nne,fun m hm hmax=>⟨r,rfl,⟨_,SqL.of (s3 _ _ gr)⟩,?_⟩⟩
  have top:zmr ss m:=⟨hn1 m hm,fun s hs hup=>by
   obtain⟨j,hj,e⟩:=x0m hs
   have ej:ss[j]? =some s:=by rw[x8 hj,e]
   obtain⟨y,hy,e2⟩:=memL j (by rw[<-hc.ln];exact hj) (by unfold upAt;rw[ej];exact hup)
   exact hmax _ (hn2 y hy s (by rw[e2];exact ej))⟩
  generalize upd H2 p (.lst (ns.map V.int))=H3 at s3⊢
  have hc3:=hc1.mono s3
  have gr3:=s3 _ _ gr
  refine z1x (xs:=z19 sl) (fun i σ H'=>∃(v8:Option V)(ls':List Addr),σ=[some (V.ref c),some (V.str hd),some (V.str lk),some (V.bl sh),some (V.int tick),some (V.int time),some (V.ref r),some (V.int (1+m)),v8]/\LsOk H ls ls'/\CAt ya yc H' c l ks ls' (z4m ss (sl.take i) ⟨1+m,hd,lk,sh,tick+time⟩)/\ButK ks H3 H') ⟨_,ls,rfl,LsOk.refl _ _,by rw[List.take_zero,zkh];exact hc3,fun b o e _=>e⟩ ?_ ?_ ?_
  .rintro i σ H'-⟨v8,ls',rfl,-,-,b⟩
   refine SqL.of (b _ _ gr3 fun z=>?_)
   obtain⟨_,_,e⟩:=hc3.mem z
   rw[gr3]at e
   cases e
  .rintro Pv hP i x σ H' hx ⟨v8,ls',rfl,hls,hci,b⟩
   unfold z19 at hx
   rw[xj]at hx
   cases ej:sl[i]? with
   |none=>rw[ej]at hx;cases hx
   |some j=>
   rw[ej]at hx
   cases hx
   walk_at "rd"
   obtain⟨hjl,hju,hjf⟩:=smem j (xf ej)
   have hjk:ks[j]? =some ks[j]:=x8 hjl
   obtain⟨s,l1,hs,-,-⟩:=hc3.kp j _ hjk
   obtain⟨eg,eg2⟩:=ziu (x:=⟨1+m,hd,lk,sh,tick+time⟩) ej hs snd
   obtain⟨dxi,hobi⟩:=hci.ob
   refine⟨_,_,hobi,z4l _ _ (by decide+kernel) (by decide+kernel),c,l,ks,ls',_,j,ks[j],rfl,hci,hjk,?_⟩
   obtain⟨s',l2,hs',hl2,-,Ls,eL,hk⟩:=hci.kp j _ hjk
   rw[eg2]at hs'
   cases hs'
   obtain⟨⟨dk,lk',a1,a2⟩,hn,-⟩:=id hk
   have l62:Ls.length<=62:=by
    have:=hsm s (xf hs)
    rw[<-eL,x5]at this
    exact this
   have hup:s.u=true:=by unfold upAt at hju;rw[hs]at hju;exact hju
   have hfr:z3u Ls hd lk sh tick=true:=by unfold frAt at hjf;rw[hs]at hjf;rw[zba,eL];exact hjf
   have hlt2:s.t<1+m:=by have:=top.2 s (xf hs) hup;omega
   rw[hup]at hk a1
   refine⟨ks[j],rfl,_,_,a1,z77 true s.t lk' (by decide+kernel) (by decide+kernel) (by decide+kernel),ks[j],s.t,Ls,1+m,hd,lk,sh,tick,time,rfl,hk,l62,hh,hl,hlt2,hfr,fun pn H5 hpn hk5 hz5 hb5=>?_⟩
   obtain⟨dx5,l5,z5,n5'⟩:=hz5
   have n50:H l5=none:=by
    cases e:H l5 with
    |none=>rfl
    |some o=>
     by_cases z:l5∈ks
     .obtain⟨_,_,e2⟩:=hci.mem z
      rw[n5']at e2
      cases e2
     .rw[((ButK.of (s1.trans s3)).trans b) _ _ e z]at n5'
      cases n5'
   refine hP _ _ _ ⟨_,ls'.set j l5,rfl,fun x hx=>?_,?_,b.trans (ButK.but hb5 (xf hjk))⟩
   .rcases List.mem_or_eq_of_mem_set hx with z|z
    .exact hls x z
    .exact .inr (z▸n50)
   rw[eg,hup]
   refine hci.set hjk ⟨⟨dx5,z5⟩,_,?_,hk5⟩ hb5
   rw[x04,zkf,eL]
   rfl
  .rintro σ H' ⟨v8,ls',rfl,hls,hci,b⟩
   walk_at "rd"
   have epl':(z19 sl).length=sl.length:=x5 _
   rw[epl',x0h]at hci
   refine⟨zf (by decide),fun pr hpr=>?_⟩
   have nrk:r∉ks:=fun z=>by
    obtain⟨_,_,e⟩:=hc3.mem z
    rw[gr3]at e
    cases e
   have b0:ButK ks H H':=(ButK.of (s1.trans s3)).trans b
   have hpr0:H pr=none:=by
    cases e:H pr with
    |none=>rfl
    |some o=>
     by_cases z:pr∈ks
     .obtain⟨_,_,e2⟩:=hci.mem z
      rw[hpr]at e2
      cases e2
     .rw[b0 _ _ e z]at hpr
      cases hpr
   exact q m top pr r ls' _ hls (hci.mono (Same.upd hpr)) z9 (Same.upd hpr _ _ (b _ _ gr3 nrk)) hpr0 hr0 (b0.trans (ButK.of (Same.upd hpr)))
theorem z31{α β:Type}(f:α->β){L:List α}{i:Nat}{x:α}(h:L[i]? =some x):(L.take (i+1)).map f=(L.take i).map f++[f x]:=by
 rw[x16,h,x04]
 rfl
theorem z59(js:List Nat):(z19 js).length=js.length:=x5 _
theorem zkj{X:Cx}{tg l:Expr}{tl:TE}(hl:PE X l tl)(h:X.K=K:=by rfl):PI X tg l (zdz K tl):=h▸zy hl
noncomputable def nkey(x:Nt):List Key:=[.inl x.n,.inr x.h,.inr x.l,.inl (if x.sh=true then 1 else 0),.inl x.e]
theorem zfp{x y:Nt}(h:nkey x=nkey y):x=y:=by
 obtain⟨n,h1,l,sh,e⟩:=x
 obtain⟨n',h1',l',sh',e'⟩:=y
 simp only[nkey,List.cons.injEq,Sum.inl.injEq,Sum.inr.injEq,and_true]at h
 obtain⟨rfl,rfl,rfl,hs,rfl⟩:=h
 cases sh<;>cases sh'<;>simp_all
noncomputable abbrev GL:=List (Nt×List Nat)
noncomputable def occ(T:List (Nt×Nat))(x:Nt):List Nat:=(T.filter fun t=>decide (t.1=x)).map (·.2)
structure GOf(T:List (Nt×Nat))(G:GL):Prop where
 nd:(G.map (·.1)).Nodup
 oc:∀g∈G,g.2=occ T g.1
 mm:∀x,x∈G.map (·.1)↔x∈T.map (·.1)
theorem GOf.nil:GOf [] []:=⟨x29,fun g hg=>(by cases hg),fun x=>Iff.rfl⟩
noncomputable def putG(G:GL)(x:Nt)(j:Nat):GL:=if x∈G.map (·.1) then G.map fun g=>if g.1=x then(g.1,g.2++[j]) else g else G++[(x,[j])]
theorem za6(T:List (Nt×Nat))(x:Nt)(j:Nat)(y:Nt):occ (T++[(x,j)]) y=occ T y++(if x=y then[j] else[]):=by
 unfold occ
 rw[x23,x04]
 by_cases h:x=y<;>simp[h]
theorem zm8{T:List (Nt×Nat)}{x:Nt}(h:x∉T.map (·.1)):occ T x=[]:=by
 unfold occ
 rw[x2q.mpr,List.map_nil]
 intro t ht e
 exact h (xw.mpr ⟨t,ht,x0c e⟩)
theorem GOf.put{T:List (Nt×Nat)}{G:GL}(h:GOf T G)(x:Nt)(j:Nat):GOf (T++[(x,j)]) (putG G x j):=by
 unfold putG
 by_cases m:x∈G.map (·.1)
 .rw[if_pos m]
  have ek:(G.map fun g=>if g.1=x then(g.1,g.2++[j]) else g).map (·.1)=G.map (·.1):=by
   rw[x0x]
   refine x2o fun g _=>?_
   show(if g.1=x then(g.1,g.2++[j]) else g).1=g.1
   split<;>rfl
  refine⟨by rw[ek];exact h.nd,fun g hg=>?_,fun y=>?_⟩
  .obtain⟨g0,hg0,rfl⟩:=xw.mp hg
   have:=h.oc g0 hg0
   by_cases c:g0.1=x
   .rw[if_pos c,za6,if_pos c.symm,this]
   .rw[if_neg c,za6,if_neg (fun z=>c z.symm),x1o,this]
  .rw[ek,h.mm,x04,x02]
   refine⟨.inl,fun z=>z.elim id fun z=>?_⟩
   rw[xg.mp z]
   exact(h.mm x).mp m
 .rw[if_neg m]
  refine⟨?_,fun g hg=>?_,fun y=>?_⟩
  .rw[x04,x2b]
   refine⟨h.nd,by simp,fun a ha b hb e=>m ?_⟩
   have hb:=xg.mp hb
   subst e hb
   exact ha
  .rw[za6]
   rcases x02.mp hg with hg|hg
   .rw[if_neg (fun z=>m (xw.mpr ⟨g,hg,z.symm⟩)),x1o]
    exact h.oc g hg
   .rw[xg.mp hg,zm8 (fun z=>m ((h.mm x).mpr z)),if_pos rfl]
    rfl
  .rw[x04,x04,x02,x02,h.mm]
   rfl
structure GAt(H:Hp)(G:GL)(xs:BT):Prop where
 ln:xs.length=G.length
 at_:∀(i:Nat)(z:List Key×Addr×Value)(g:Nt×List Nat),xs[i]? =some z->G[i]? =some g->z.1=nkey g.1/\H z.2.1=some (.tup g.1.vals)/\∃q,z.2.2=.ref q/\H q=some (.lst (z19 g.2))
theorem GAt.keys{H:Hp}{G:GL}{xs:BT}(h:GAt H G xs):xs.map (·.1)=G.map fun g=>nkey g.1:=by
 apply x28
 intro i
 rw[xj,xj]
 cases ex:xs[i]? with
 |none=>
  have:=List.getElem?_eq_none_iff.mp ex
  rw[x1f (by have:=h.ln;omega)];rfl
 |some z=>
  have hi:=(xl.mp ex).1
  obtain⟨g,eg⟩:∃g,G[i]? =some g:=⟨_,x8 (show i<G.length by have:=h.ln;omega)⟩
  rw[eg]
  exact x12 some (h.at_ i z _ ex eg).1
theorem GAt.kat{H:Hp}{G:GL}{xs:BT}(h:GAt H G xs):z4f H xs:=fun z hz=>by
 obtain⟨i,hi⟩:=List.getElem?_of_mem hz
 have hl:=(xl.mp hi).1
 obtain⟨g,eg⟩:∃g,G[i]? =some g:=⟨_,x8 (show i<G.length by have:=h.ln;omega)⟩
 obtain⟨a,b,-⟩:=h.at_ i z _ hi eg
 exact⟨_,b,by rw[a];rfl⟩
theorem GAt.mono{H H':Hp}{G:GL}{xs:BT}(h:GAt H G xs)(s:∀b o,H b=some o->(∀φ,o≠.ext φ)->H' b=some o):GAt H' G xs:=⟨h.ln,fun i z g e1 e2=>by
 obtain⟨a,b,q,c,d⟩:=h.at_ i z g e1 e2
 exact⟨a,s _ _ b (by intros;nofun),q,c,s _ _ d (by intros;nofun)⟩⟩
theorem GAt.found{H:Hp}{G:GL}{xs:BT}(h:GAt H G xs){x:Nt}{p:Addr×Value}(e:atKey xs (nkey x)=some p):∃(i:Nat)(z:List Key×Addr×Value)(g:Nt×List Nat),xs[i]? =some z/\G[i]? =some g/\g.1=x/\p=z.2:=by
 unfold atKey at e
 obtain⟨z,hz,rfl⟩:=x0b.mp e
 have hk:z.1=nkey x:=by simpa using List.find?_some hz
 obtain⟨i,hi⟩:=List.getElem?_of_mem (List.mem_of_find?_eq_some hz)
 have hl:=(xl.mp hi).1
 obtain⟨g,eg⟩:∃g,G[i]? =some g:=⟨_,x8 (show i<G.length by have:=h.ln;omega)⟩
 exact⟨i,z,_,hi,eg,zfp ((h.at_ i z _ hi eg).1.symm.trans hk),rfl⟩
theorem GAt.is{H:Hp}{G:GL}{xs:BT}(h:GAt H G xs)(x:Nt):(atKey xs (nkey x)).isSome=decide (x∈G.map (·.1)):=by
 rw[x2d,x0s]
 constructor
 .intro e
  obtain⟨p,e⟩:=Option.isSome_iff_exists.mp e
  obtain⟨i,z,g,-,eg,rfl,-⟩:=h.found e
  exact xw.mpr ⟨g,xf eg,rfl⟩
 .intro m
  have:nkey x∈xs.map (·.1):=by
   rw[h.keys]
   obtain⟨g,hg,rfl⟩:=xw.mp m
   exact xw.mpr ⟨g,hg,rfl⟩
  obtain⟨z,hz,ez⟩:=xw.mp this
  unfold atKey
  rw[Option.isSome_map,List.find?_isSome]
  exact⟨z,hz,x05 ez⟩
theorem GAt.put{H:Hp}{G:GL}{xs:BT}(h:GAt H G xs){x:Nt}{j:Nat}{b q:Addr}(hb:H b=some (.tup x.vals))(h1:∀g∈G,g.1=x->H q=some (.lst (z19 (g.2++[j]))))(h2:x∉G.map (·.1)->H q=some (.lst (z19 [j]))):GAt H (putG G x j) (storedH xs (nkey x) b (.ref q)):=by
 unfold putG storedH
 rw[h.is x]
 by_cases m:x∈G.map (·.1)
 .rw[if_pos m,if_pos (x05 m)]
  refine⟨by rw[x5,x5,h.ln],fun i z g ez eg=>?_⟩
  rw[xj]at ez eg
  obtain⟨z0,ez0,rfl⟩:=x0b.mp ez
  obtain⟨g0,eg0,rfl⟩:=x0b.mp eg
  obtain⟨a,c,q0,d,e⟩:=h.at_ i z0 g0 ez0 eg0
  unfold putAt
  by_cases hx:g0.1=x
  .rw[if_pos hx,if_pos (by rw[a,hx])]
   exact⟨a,c,q,rfl,h1 g0 (xf eg0) hx⟩
  .rw[if_neg hx,if_neg (fun z=>hx (zfp (a.symm.trans z)))]
   exact⟨a,c,q0,d,e⟩
 .rw[if_neg m,if_neg (by simpa using m)]
  refine⟨by rw[xt,xt,h.ln];rfl,fun i z g ez eg=>?_⟩
  rcases Nat.lt_trichotomy i xs.length with hl|hl|hl
  .rw[x0u hl]at ez
   rw[x0u (by have:=h.ln;omega)]at eg
   exact h.at_ i z g ez eg
  .subst hl
   rw[x19 (xi _),Nat.sub_self]at ez
   rw[x19 (by rw[h.ln];exact xi _),h.ln,Nat.sub_self]at eg
   cases ez
   cases eg
   exact⟨rfl,hb,q,rfl,h2 m⟩
  .rw[x19 (by omega)]at ez
   have:i-xs.length=(i-xs.length-1)+1:=by omega
   rw[this]at ez
   cases ez
theorem GAt.get{H:Hp}{G:GL}{xs:BT}(h:GAt H G xs)(nd:(G.map (·.1)).Nodup){i:Nat}{z:List Key×Addr×Value}{g:Nt×List Nat}(ez:xs[i]? =some z)(eg:G[i]? =some g):atKey xs (nkey g.1)=some z.2:=by
 have hs:=h.is g.1
 rw[x05 (xw.mpr ⟨g,xf eg,rfl⟩)]at hs
 obtain⟨p,hp⟩:=Option.isSome_iff_exists.mp hs
 obtain⟨i',z',g',ez',eg',e,rfl⟩:=h.found hp
 have hi:i<(G.map (·.1)).length:=by rw[x5];exact(xl.mp eg).1
 have:i=i':=(List.getElem?_inj hi nd).mp (by rw[xj,xj,eg,eg'];exact x12 some e.symm)
 subst this
 rw[ez]at ez'
 cases ez'
 exact hp
noncomputable def z2n(lk:Str)(tick:Int)(j:Nat)(N:List Nt):List (Nt×Nat):=((z1h tick N).filter fun x=>decide (x.l=lk)).map fun x=>(x,j)
noncomputable def z40(ss:List KN)(lk:Str)(tick:Int)(js:List Nat):List (Nt×Nat):=js.flatMap fun j=>match ss[j]? with|some s=>z2n lk tick j s.N|none=>[]
theorem ziv{lk:Str}{tick:Int}{j:Nat}{N:List Nt}{x:Nt}(hx:tick<x.e):z2n lk tick j (N++[x])=z2n lk tick j N++(if x.l=lk then[(x,j)] else[]):=by
 unfold z2n z1h
 rw[x23,x23,x04]
 by_cases h:x.l=lk<;>simp[hx,h]
noncomputable def LenG(H:Hp)(xs:BT)(G:GL)(n:Nat):Prop:=G.length<=n/\(∀g∈G,g.2.length<=n)/\∀z∈xs,∀q,z.2.2=.ref q->H q=none
theorem LenG.mono{H:Hp}{xs:BT}{G:GL}{n m:Nat}(h:LenG H xs G n)(l:n<=m):LenG H xs G m:=⟨x01 h.1 l,fun g hg=>x01 (h.2.1 g hg) l,h.2.2⟩
theorem LenG.put{H:Hp}{xs:BT}{G:GL}{n:Nat}(h:LenG H xs G n)(x:Nt)(j:Nat)(k:List Key)(b:Addr){q:Addr}(hq:H q=none):LenG H (storedH xs k b (.ref q)) (putG G x j) (n+1):=by
 have hf:∀z∈storedH xs k b (.ref q),∀q',z.2.2=.ref q'->H q'=none:=fun z hz q' e=>by
  unfold storedH at hz
  split at hz
  .obtain⟨z0,hz0,rfl⟩:=xw.mp hz
   unfold putAt at e
   split at e
   .injection e with e
    exact e▸hq
   .exact h.2.2 z0 hz0 q' e
  .rcases x02.mp hz with hz|hz
   .exact h.2.2 z hz q' e
   .rw[xg.mp hz]at e
    injection e with e
    exact e▸hq
 unfold putG
 split
 .refine⟨by rw[x5];exact Nat.le_succ_of_le h.1,fun g hg=>?_,hf⟩
  obtain⟨g0,hg0,rfl⟩:=xw.mp hg
  have:=h.2.1 g0 hg0
  split
  .show(g0.2++[j]).length<=n+1
   rw[xt]
   show _+1<=_
   omega
  .omega
 .refine⟨by rw[xt];exact Nat.succ_le_succ h.1,fun g hg=>?_,hf⟩
  rcases x02.mp hg with hg|hg
  .exact Nat.le_succ_of_le (h.2.1 g hg)
  .rw[xg.mp hg]
   show 1<=n+1
   omega
theorem z8i{ss:List KN}{lk:Str}{tick:Int}{js:List Nat}{x:Nt}(h:x∈(z40 ss lk tick js).map (·.1)):∃s∈ss,x∈s.N:=by
 obtain⟨t,ht,rfl⟩:=xw.mp h
 unfold z40 at ht
 obtain⟨j,-,hj⟩:=List.mem_flatMap.mp ht
 cases e:ss[j]? with
 |none=>rw[e]at hj;cases hj
 |some s=>
  rw[e]at hj
  unfold z2n z1h at hj
  obtain⟨x,hx,rfl⟩:=xw.mp hj
  exact⟨s,xf e,(xz.mp (xz.mp hx).1).1⟩
noncomputable def zms(ss:List KN):Prop:=∀s∈ss,∀s'∈ss,∀x∈s.N,∀y∈s'.N,x.n=y.n->x=y
noncomputable abbrev HR:=Addr×(Nt×List Nat)×Addr
noncomputable def RowsC(H H':Hp)(R:List HR):Prop:=∀t∈R,H' t.1=some (.tup [.int t.2.1.1.n,.str t.2.1.1.h,.bl t.2.1.1.sh,.int t.2.1.1.e,.ref t.2.2])/\H' t.2.2=some (.lst (z19 t.2.1.2))/\H t.2.2=none
theorem RowsC.mono{H H' H2:Hp}{R:List HR}(h:RowsC H H' R)(s:Same H' H2):RowsC H H2 R:=fun t ht=>let⟨a,b,c⟩:=h t ht;⟨s _ _ a,s _ _ b,c⟩
structure HavOf(T:List (Nt×Nat))(m:Nat)(K:List (Nt×List Nat)):Prop where
 up:K.Pairwise fun a b=>a.1.n<b.1.n
 mm:∀g,g∈K↔g.1∈T.map (·.1)/\g.2=occ T g.1/\m<=g.2.length
noncomputable def zmt(P:Program)(w:World)(CC CK:Addr):Sp:=fun vs H Q _=>∃(c l:Addr)(ks ls:List Addr)(ss:List KN)(lk:Str)(tick:Int),vs=[.ref c,.str lk,.int tick]/\CAt CC CK H c l ks ls ss/\zbc ss/\zms ss/\(∀G,GOf (z40 ss lk tick (upl ss ks.length)) G->G.length<64)/\
 ∀(r:Addr)(R:List HR)(H':Hp),H r=none->H' r=some (.lst (R.map fun t=>V.ref t.1))->RowsC H H' R->HavOf (z40 ss lk tick (upl ss ks.length)) (ks.length/2+1) (R.map (·.2.1))->Same H H'->Q (.ref r) H'
theorem z96(F:MDef K ya "having" "Council.having" z43 ["self","lock","tick"])(T:Txt K mg ya yc yo yb y9 yd ye yn yp yr yf yg yk yl yi yh ym yj)(y17:MHas P w K mg base CX0 1 yc "live" ["self","tick"] (zfm yc))(yt:MHas P w K mg base CX0 1 ya "up_keepers" ["self"] (zbb ya yc)):MHas P w K mg base CX0 2 ya "having" ["self","lock","tick"] (zmt P w ya yc):=by
 refine F.ok sc_Council_having (fun vs H Q E h=>?_) (fun f cdv A outer s H vs Q E hr h=>?_)
 .obtain⟨c,l,ks,ls,ss,lk,tick,rfl,_⟩:=h
  rfl
 .obtain⟨c,l,ks,ls,ss,lk,tick,rfl,hc,hsm,hnu,hfew,q⟩:=h
  have hu:=hr.units0
  have hu2:=z3l hr
  walk_at "%×úŧÚ6ɩB%ÕťeƟ¯ùTǓ|xĢD*ŧPĢH*ŧ+ÛğW_Kģ5ȁòhHô¥$fA*ŧPXŨóEKɪÜûhAĤŗ#ɫÜûhA$Đũ<Ū$öūJ&ġŬ33$ŕđǔ2ȍĥ2IºSËĕŧÌōɬ¦Ŏ¡ICŌƕ`Ȏ#ōɭa%Ơsȏ*ȐȑŭüĦVcħ_Ǐ*ǐRí%_ñÍ:rđȍ^IïŐS°uÎÎÎÎȏ*ȐȑŭlĦVc÷3?&"
  walk_at "rd"
  intro p hp
  have s1:=Same.upd (o:=dtb P w p []) hp
  have g1:upd H p (dtb P w p []) p=some (dtb P w p []):=z9
  generalize upd H p (dtb P w p [])=H1 at s1 g1⊢
  have hc1:=hc.mono s1
  obtain⟨dx,hob⟩:=hc1.ob
  refine⟨_,_,hob,z4l _ _ (by decide+kernel) (by decide+kernel),c,l,ks,ls,ss,rfl,hc1,fun r L H2 hL hr0 gr s2=>⟨r,rfl,⟨_,SqL.of gr⟩,?_⟩⟩
  have hsz:=hc.sz
  have hl0:=hL.len
  have g2:=s2 _ _ g1
  have nrp:r≠p:=fun e=>by rw[e,g1]at hr0;cases hr0
  have fr:∀{H':Hp}{b:Addr}{o:HO},But1 p H2 H'->H b=some o->H' b=some o:=fun{H' b o} b1 e=>b1 _ _ (s2 _ _ (s1 _ _ e)) (zh e hp)
  refine z1x (xs:=ptup L) (fun i σ H'=>∃(G:GL)(xs:BT)(v4 v5 v6 v7:Option V),σ=[some (V.ref c),some (V.str lk),some (V.int tick),some (V.ref p),v4,v5,v6,v7]/\H' p=some (dtb P w p xs)/\LenG H xs G (63*i)/\GOf (z40 ss lk tick ((upl ss ks.length).take i)) G/\GAt H' G xs/\But1 p H2 H') ⟨[],[],_,_,_,_,rfl,g2,⟨x08 _,fun g hg=>(by cases hg),fun z hz=>(by cases hz)⟩,GOf.nil,⟨rfl,fun i z g e=>by cases e⟩,fun b o e _=>e⟩ ?_ ?_ ?_
  .rintro i σ H'-⟨G,xs,v4,v5,v6,v7,-,-,-,-,-,b3⟩
   exact SqL.of (b3 _ _ gr nrp)
  .rintro Pv hP i x σ H' hx ⟨G,xs,v4,v5,v6,v7,rfl,gE,hE,hG,hGA,b3⟩
   obtain⟨y,hy,rfl⟩:=z7a hx
   walk_at "rd"
   have my:=xf hy
   have sH:Same H H':=fun b o e=>fr b3 e
   have hty:=b3 _ _ (hL.tu y my) (fun e=>by have:=hL.tu y my;rw[e,g2]at this;cases this)
   obtain⟨s,l1,hu1,hl1,-,Ls,eL,hk⟩:=(hc.mono sH).kp y.2.1 y.2.2 (hL.at_ y my)
   obtain⟨⟨dk,lk',a1,a2⟩,hn,-⟩:=id hk
   have l62:Ls.length<=62:=by
    have:=hsm s (xf hu1)
    rw[<-eL,x5]at this
    exact this
   have gi:(upl ss ks.length)[i]? =some y.2.1:=by rw[<-hL.mp,xj,hy];rfl
   have hil:i<L.length:=(xl.mp hy).1
   have wst:z40 ss lk tick ((upl ss ks.length).take (i+1))=z40 ss lk tick ((upl ss ks.length).take i)++z2n lk tick y.2.1 ((z1g tick Ls).map (·.2)):=by
    unfold z40
    rw[x16,gi,List.flatMap_append]
    simp only[Option.toList_some,List.flatMap_cons,List.flatMap_nil,x1o,hu1]
    congr 1
    unfold z2n
    rw[z8g,eL]
    unfold z1h
    rw[List.filter_filter]
    simp
   refine⟨_,SqT.of hty,rfl,_,_,rfl,_,_,rfl,rfl,_,rfl,_,_,a1,z77 s.u s.t lk' (by decide+kernel) (by decide+kernel) (by decide+kernel),y.2.2,s.u,s.t,Ls,tick,rfl,hk,fun rn H3 hrn grn s3=>⟨rn,rfl,⟨_,SqL.of grn⟩,?_⟩⟩
   generalize z40 ss lk tick ((upl ss ks.length).take i)=W at hG wst
   have g3:=s3 _ _ gE
   have nrn:rn≠p:=fun e=>by rw[e,gE]at hrn;cases hrn
   have lls:(z1g tick Ls).length<=62:=x01 (x06 _ _) l62
   have hnl:NotesAt H3 (z1g tick Ls):=(hn.mono s3).sub fun q h=>(xz.mp h).1
   have b23:But1 p H2 H3:=fun b o e n=>s3 _ _ (b3 _ _ e n)
   refine z1x (xs:=refs (z1g tick Ls)) (fun jj σ H4=>∃(G:GL)(xs:BT)(v6 v7:Option V),σ=[some (V.ref c),some (V.str lk),some (V.int tick),some (V.ref p),some (V.int (((y.2.1:Nat):Int)+1)),some (V.ref y.2.2),v6,v7]/\H4 p=some (dtb P w p xs)/\LenG H xs G (63*i+jj)/\GOf (W++z2n lk tick y.2.1 (((z1g tick Ls).take jj).map (·.2))) G/\GAt H4 G xs/\But1 p H2 H4/\But1 p H3 H4) ⟨G,xs,_,_,rfl,g3,hE,by simpa[z2n,z1h]using hG,hGA.mono (fun b o e _=>s3 _ _ e),b23,fun b o e _=>e⟩ ?_ ?_ ?_
   .rintro jj σ H4-⟨G,xs,v6,v7,-,-,-,-,-,-,b4⟩
    exact SqL.of (b4 _ _ grn nrn)
   .rintro Pw hW jj x σ H4 hx ⟨G,xs,v6,v7,rfl,g4,l4,hG4,hA4,b24,b34⟩
    obtain⟨z,hz,rfl⟩:=z25 hx
    have mz:=xf hz
    have ntp:=hnl.tu z mz
    have npz:z.1≠p:=fun e=>by rw[e,g3]at ntp;cases ntp
    have tz:=b34 _ _ ntp npz
    have hjj:jj<(z1g tick Ls).length:=(xl.mp hz).1
    have liv:tick<z.2.e:=x0c (xz.mp mz).2
    have stp:W++z2n lk tick y.2.1 (((z1g tick Ls).take (jj+1)).map (·.2))=(W++z2n lk tick y.2.1 (((z1g tick Ls).take jj).map (·.2)))++(if z.2.l=lk then[(z.2,y.2.1)] else[]):=by
     rw[z31 _ hz,ziv liv,List.append_assoc]
    walk_at "rd"
    refine⟨_,_,_,_,rfl,rfl,SqT.of tz,zi (j:=2) rfl,rfl,?_⟩
    by_cases cl:z.2.l=lk
    rotate_left
    .rw[if_neg (by simpa using cl)]
     refine hW _ _ _ ⟨G,xs,_,_,rfl,g4,l4.mono (by omega),?_,hA4,b24,b34⟩
     rw[stp,if_neg cl,x1o]
     exact hG4
    rw[if_pos (x05 (x12 V.str cl))]
    have sH4:Same H H4:=fun b o e=>fr b24 e
    have fin:∀(H5:Hp)(qq:Addr),H qq=none->Same H4 H5->(∀g∈G,g.1=z.2->H5 qq=some (.lst (z19 (g.2++[y.2.1]))))->(z.2∉G.map (·.1)->H5 qq=some (.lst (z19 [y.2.1])))->(∃ys,H5 qq=some (.lst ys))->
      ∃(a b q':Addr),V.ref qq=V.ref q'/\p=a/\z.1=b/\∃(k:List Key)(xs':BT),H5 a=some (dtb P w a xs')/\z4f H5 xs'/\TKey H5 b k/\xs'.length<sizeLine/\Pw (jj+1) [some (V.ref c),some (V.str lk),some (V.int tick),some (V.ref p),some (V.int (((y.2.1:Nat):Int)+1)),some (V.ref y.2.2),some (V.ref z.1),v7] (upd H5 a (dtb P w a (storedH xs' k b (.ref q')))):=fun H5 qq hq0 s5 h1 h2 h3=>by
     have hA5:=hA4.mono (fun b o e _=>s5 _ _ e)
     have tz5:=s5 _ _ tz
     have lx:xs.length<=63*i+jj:=by rw[hA4.ln];exact l4.1
     refine⟨p,z.1,qq,rfl,rfl,rfl,nkey z.2,xs,s5 _ _ g4,hA5.kat,⟨_,tz5,rfl⟩,x00 (by omega:_<1000000) (zf (xi _)),hW _ _ _ ⟨putG G z.2 y.2.1,_,_,_,rfl,z9,(l4.put _ _ _ _ hq0).mono (by omega),?_,?_,?_,?_⟩⟩
     .rw[stp,if_pos cl]
      exact hG4.put _ _
     .exact(hA5.put tz5 h1 h2).mono fun b o e n=>by rw[zc (fun y=>by rw[y,s5 _ _ g4]at e;cases e;exact n _ rfl)];exact e
     .exact fun b o e n=>by rw[zc n];exact s5 _ _ (b24 _ _ e n)
     .exact fun b o e n=>by rw[zc n];exact s5 _ _ (b34 _ _ e n)
    refine⟨xs,g4,x08 _,fun pn hpn=>?_⟩
    have s5:=Same.upd (o:=.lst []) hpn
    have g5:upd H4 pn (.lst []) pn=some (.lst []):=z9
    generalize upd H4 pn (.lst [])=H5 at s5 g5⊢
    refine⟨nkey z.2,xs,s5 _ _ g4,(hA4.mono (fun b o e _=>s5 _ _ e)).kat,⟨_,s5 _ _ tz,rfl⟩,fun pp hpp=>?_,fun hno=>⟨by decide,fun pl hpl=>?_⟩⟩
    .obtain⟨i',z',g,ez,eg,gx,rfl⟩:=hA4.found hpp
     obtain⟨-,-,q0,d,e⟩:=hA4.at_ i' z' g ez eg
     refine⟨q0,d,by decide,fun pl hpl=>?_⟩
     have s6:=Same.upd (o:=.lst [V.int (((y.2.1:Nat):Int)+1)]) hpl
     have g6:upd H5 pl (.lst [V.int (((y.2.1:Nat):Int)+1)]) pl=some (.lst [V.int (((y.2.1:Nat):Int)+1)]):=z9
     generalize upd H5 pl (.lst [V.int (((y.2.1:Nat):Int)+1)])=H6 at s6 g6⊢
     have lg:=l4.2.1 g (xf eg)
     refine⟨_,_,_,_,rfl,rfl,s6 _ _ (s5 _ _ e),g6,by rw[z59];exact zf (by show _+1<=_;omega),fun pq hpq=>?_⟩
     refine fin _ pq (z1u (sH4.trans (s5.trans s6)) hpq) ((s5.trans s6).trans (Same.upd hpq)) (fun g' hg' eg'=>?_) (fun n=>absurd (xw.mpr ⟨g,xf eg,gx⟩) n) ⟨_,z9⟩
     have:g'=g:=by
      have e1:=hG4.oc g' hg'
      have e2:=hG4.oc g (xf eg)
      rw[eg',<-gx]at e1
      exact Prod.ext (by rw[eg',gx]) (e1.trans e2.symm)
     rw[z9,this]
     simp[z19]
    .have s6:=Same.upd (o:=.lst [V.int (((y.2.1:Nat):Int)+1)]) hpl
     have g6:upd H5 pl (.lst [V.int (((y.2.1:Nat):Int)+1)]) pl=some (.lst [V.int (((y.2.1:Nat):Int)+1)]):=z9
     generalize upd H5 pl (.lst [V.int (((y.2.1:Nat):Int)+1)])=H6 at s6 g6⊢
     refine⟨_,_,_,_,rfl,rfl,s6 _ _ g5,g6,zf (by show 0+1<=_;decide),fun pq hpq=>?_⟩
     have nG:z.2∉G.map (·.1):=fun m=>by
      have:=hA4.is z.2
      rw[hno,x05 m]at this
      cases this
     refine fin _ pq (z1u (sH4.trans (s5.trans s6)) hpq) ((s5.trans s6).trans (Same.upd hpq)) (fun g' hg' eg'=>absurd (xw.mpr ⟨g',hg',eg'⟩) nG) (fun n=>?_) ⟨_,z9⟩
     rw[z9]
     rfl
   .rintro σ H4 ⟨G,xs,v6,v7,rfl,g4,l4,hG4,hA4,b24,b34⟩
    rw[zw,x0h]at hG4
    rw[zw]at l4
    refine hP _ _ _ ⟨G,xs,_,_,_,_,rfl,g4,l4.mono (by omega),?_,hA4,b24⟩
    rw[wst]
    exact hG4
  .rintro σ H' ⟨G,xs,v4,v5,v6,v7,rfl,gE,hE,hG,hGA,b3⟩
   walk_at "rd"
   rw[z4x,<-hL.take,x0h,hL.mp]at hG
   have h64:=hfew G hG
   have gx:∀{i:Nat}{z:List Key×Addr×Value},xs[i]? =some z->∃g,G[i]? =some g:=fun{i z} e=>⟨_,x8 (show i<G.length by have:=(xl.mp e).1;have:=hGA.ln;omega)⟩
   have hinj:∀i j,i<xs.length->j<xs.length->(fun i=>((G[i]?).map (·.1.n)).getD 0) i=(fun i=>((G[i]?).map (·.1.n)).getD 0) j->i=j:=fun i j hi hj e=>by
    obtain⟨g1,e1⟩:=gx (x8 hi)
    obtain⟨g2,e2⟩:=gx (x8 hj)
    dsimp only at e
    rw[e1,e2]at e
    have e:g1.1.n=g2.1.n:=e
    obtain⟨s1,m1,n1⟩:=z8i ((hG.mm _).mp (xw.mpr ⟨_,xf e1,rfl⟩))
    obtain⟨s2,m2,n2⟩:=z8i ((hG.mm _).mp (xw.mpr ⟨_,xf e2,rfl⟩))
    have ex:=hnu s1 m1 s2 m2 _ n1 _ n2 e
    have hil2:i<(G.map (·.1)).length:=by rw[x5,<-hGA.ln];exact hi
    refine(List.getElem?_inj hil2 hG.nd).mp ?_
    rw[xj,xj,e1,e2]
    exact x12 some ex
   refine⟨xs,gE,by rw[hGA.ln];exact h64,fun i=>((G[i]?).map (·.1.n)).getD 0,fun i z ez=>?_,hinj,fun r5 p5 hr5 hp5 hs5=>⟨⟨_,SqL.of z9⟩,?_⟩⟩
   .obtain⟨g,eg⟩:=gx ez
    obtain⟨-,t,-⟩:=hGA.at_ i z g ez eg
    exact⟨_,by dsimp only;rw[eg];exact t⟩
   obtain⟨SG,eSG,hSG⟩:∃ SG:List (Addr×(Nt×List Nat)),(p5.map fun n=>((xs[n]?).map fun z=>V.ref z.2.1).getD .non)=SG.map (fun g=>V.ref g.1)/\SG.map (·.2)=p5.map (fun n=>G.getD n ⟨⟨0,"","",false,0⟩,[]⟩)/\∀ g∈SG,∃(i:Nat) (z:List Key×Addr×Value),xs[i]? =some z/\G[i]? =some g.2/\z.2.1=g.1:=by
    have hb:∀n∈p5,n<xs.length:=fun n hn=>by have:=(hp5.mem_iff (a:=n)).mp hn;rwa[x0l]at this
    clear hp5 hs5
    induction p5 with
    |nil=>exact⟨[],rfl,rfl,fun g hg=>by cases hg⟩
    |cons n p5 ih=>
     obtain⟨SG,a1,a2,a3⟩:=ih fun m hm=>hb m (xx _ hm)
     obtain⟨z,ez⟩:∃z,xs[n]? =some z:=⟨_,x8 (hb n (xp ..))⟩
     obtain⟨g,eg⟩:=gx ez
     refine⟨(z.2.1,g)::SG,?_,?_,fun g' hg'=>?_⟩
     .rw[x0a,x0a,a1,ez];rfl
     .rw[x0a,x0a,a2,xo,eg];rfl
     .rcases xk.mp hg' with rfl|hg'
      .exact⟨n,_,ez,eg,rfl⟩
      .exact a3 g' hg'
   rw[eSG]
   have lSG:SG.length<64:=by
    have:=x12 List.length hSG.1
    rw[x5,x5,hp5.length_eq,x1h]at this
    have:=hGA.ln
    omega
   have s6:=Same.upd (o:=.lst (SG.map fun g=>V.ref g.1)) hr5
   have g6:upd H' r5 (.lst (SG.map fun g=>V.ref g.1)) r5=some (.lst (SG.map fun g=>V.ref g.1)):=z9
   generalize upd H' r5 (.lst (SG.map fun g=>V.ref g.1))=H6 at s6 g6⊢
   have hA6:=hGA.mono (fun b o e _=>s6 _ _ e)
   have gE6:=s6 _ _ gE
   have sH6:Same H H6:=fun b o e=>s6 _ _ (fr b3 e)
   have hc6:=hc.mono sH6
   obtain⟨dx6,hob6⟩:=hc6.ob
   refine z14 (xs:=SG.map fun g=>V.ref g.1) (by rw[x5];exact zf (by omega)) (fun i acc H7=>H7=H6/\acc=((SG.take i).filter fun g=>decide (ks.length/2+1<=g.2.2.length)).map fun g=>V.ref g.1) ⟨rfl,rfl⟩ ?_ ?_ ?_ ?_
   .rintro i acc H7 ⟨-,rfl⟩
    rw[x5]
    exact x01 (x06 _ _) (by rw[x07];omega)
   .rintro i acc H7 ⟨rfl,-⟩
    exact SqL.of g6
   .rintro Nn i acc H7 x hN hx hi ⟨rfl,rfl⟩
    rw[xj]at hx
    obtain⟨g,hg,rfl⟩:=x0b.mp hx
    walk_at "rd"
    obtain⟨i',z,ez,eg,e1⟩:=hSG.2 g (xf hg)
    obtain⟨k1,t1,q0,d,e⟩:=hA6.at_ i' z _ ez eg
    have stp:=z27 (fun g:Addr×(Nt×List Nat)=>decide (ks.length/2+1<=g.2.2.length)) hg
    refine⟨q0,nkey g.2.1,xs,gE6,hA6.kat,⟨_,e1▸t1,rfl⟩,_,hA6.get hG.nd ez eg,d,_,.inl (SqL.of e),_,_,_,hob6,T.cl_Council,T.n_Council_most,_,zca _ _,_,rfl,?_⟩
    rw[z59]
    by_cases cm:ks.length/2+1<=g.2.2.length
    .rw[if_pos (x05 (by omega))]
     refine hN _ _ ⟨rfl,?_⟩
     rw[stp]
     simp[cm]
    .rw[if_neg (by simp;omega)]
     refine hN _ _ ⟨rfl,?_⟩
     rw[stp]
     simp[cm]
   .rintro acc H7 ⟨rfl,rfl⟩ pk hpk
    rw[x5,x0h]
    have s8:=Same.upd (o:=.lst ((SG.filter fun g=>decide (ks.length/2+1<=g.2.2.length)).map fun g=>V.ref g.1)) hpk
    have g8:upd H7 pk (.lst ((SG.filter fun g=>decide (ks.length/2+1<=g.2.2.length)).map fun g=>V.ref g.1)) pk=some (.lst ((SG.filter fun g=>decide (ks.length/2+1<=g.2.2.length)).map fun g=>V.ref g.1)):=z9
    generalize upd H7 pk (.lst ((SG.filter fun g=>decide (ks.length/2+1<=g.2.2.length)).map fun g=>V.ref g.1))=H8 at s8 g8⊢
    have hK:∀g∈SG.filter (fun g=>decide (ks.length/2+1<=g.2.2.length)),g∈SG:=fun g hg=>(xz.mp hg).1
    have hKs:HavOf (z40 ss lk tick (upl ss ks.length)) (ks.length/2+1) ((SG.filter fun g=>decide (ks.length/2+1<=g.2.2.length)).map (·.2)):=by
     have nd5:p5.Nodup:=hp5.nodup_iff.mpr List.nodup_range
     have hb:∀n∈p5,n<G.length:=fun n hn=>by have:=(hp5.mem_iff (a:=n)).mp hn;rw[x0l]at this;have:=hGA.ln;omega
     have hmem:∀g,g∈SG.map (·.2)↔g∈G:=fun g=>by
      rw[hSG.1,xw]
      constructor
      .rintro⟨n,hn,rfl⟩
       rw[xo,x8 (hb n hn)]
       exact x2v _
      .intro hg
       obtain⟨n,hn,e⟩:=x0m hg
       refine⟨n,(hp5.mem_iff (a:=n)).mpr (x0l.mpr (by have:=hGA.ln;omega)),?_⟩
       rw[xo,x8 hn,e]
       rfl
     have hpw:(SG.map (·.2)).Pairwise fun a b=>a.1.n<b.1.n:=by
      rw[hSG.1,x2a]
      refine(hs5.and nd5).imp_of_mem fun{a b} ha hb' h=>?_
      obtain⟨ga,e1⟩:∃g,G[a]? =some g:=⟨_,x8 (hb a ha)⟩
      obtain⟨gb,e2⟩:∃g,G[b]? =some g:=⟨_,x8 (hb b hb')⟩
      obtain⟨h1,h2⟩:=h
      dsimp only at h1
      rw[e1,e2]at h1
      have h1:ga.1.n<=gb.1.n:=h1
      rw[xo,xo,e1,e2]
      show ga.1.n<gb.1.n
      have ne:ga.1.n≠gb.1.n:=fun e=>h2 (hinj a b (by rw[hGA.ln];exact hb a ha) (by rw[hGA.ln];exact hb b hb') (by dsimp only;rw[e1,e2];exact e))
      omega
     rw[show(SG.filter fun g=>decide (ks.length/2+1<=g.2.2.length)).map (·.2)=(SG.map (·.2)).filter fun g=>decide (ks.length/2+1<=g.2.length) by rw[List.filter_map];rfl]
     refine⟨List.Pairwise.sublist List.filter_sublist hpw,fun g=>?_⟩
     rw[xz,hmem,x0s]
     constructor
     .rintro⟨m,l⟩
      exact⟨(hG.mm _).mp (xw.mpr ⟨g,m,rfl⟩),hG.oc g m,l⟩
     .rintro⟨m,o,l⟩
      obtain⟨g',hg',e⟩:=xw.mp ((hG.mm _).mpr m)
      have:g'=g:=Prod.ext e (by rw[hG.oc g' hg',o,e])
      exact⟨this▸hg',l⟩
    have lK:(SG.filter fun g=>decide (ks.length/2+1<=g.2.2.length)).length<64:=x1l (x06 _ _) lSG
    generalize SG.filter (fun g=>decide (ks.length/2+1<=g.2.2.length))=K1 at g8 hK hKs lK⊢
    refine⟨pk,rfl,⟨_,SqL.of g8⟩,?_⟩
    refine z14 (xs:=K1.map fun g=>V.ref g.1) (by rw[x5];exact zf (by omega)) (fun i acc H9=>∃R:List HR,acc=R.map (fun t=>V.ref t.1)/\R.map (·.2.1)=(K1.take i).map (·.2)/\RowsC H H9 R/\Same H8 H9) ⟨[],rfl,rfl,fun t ht=>(by cases ht),Same.refl _⟩ ?_ ?_ ?_ ?_
    .rintro i acc H9 ⟨R,rfl,eR,-,-⟩
     have:=x12 List.length eR
     rw[x5,x5,x07]at this
     rw[x5]
     omega
    .rintro i acc H9 ⟨R,-,-,-,s9⟩
     exact SqL.of (s9 _ _ g8)
    .rintro Nn i acc H9 x hN hx hi ⟨R,rfl,eR,hR,s9⟩
     rw[xj]at hx
     obtain⟨g,hg,rfl⟩:=x0b.mp hx
     walk_at "rd"
     obtain⟨i',z,ez,eg,e1⟩:=hSG.2 g (hK g (xf hg))
     have hA9:=hA6.mono (fun b o e _=>s9 _ _ (s8 _ _ e))
     obtain⟨k1,t1,q0,d,e⟩:=hA9.at_ i' z _ ez eg
     rw[e1]at t1
     have hq0:H q0=none:=hE.2.2 z (xf ez) q0 d
     refine⟨_,_,_,_,rfl,rfl,SqT.of t1,zi (j:=0) rfl,_,_,_,_,rfl,rfl,SqT.of t1,zi (j:=1) rfl,_,_,_,_,rfl,rfl,SqT.of t1,zi (j:=3) rfl,_,_,_,_,rfl,rfl,SqT.of t1,zi (j:=4) rfl,q0,nkey g.2.1,xs,s9 _ _ (s8 _ _ gE6),hA9.kat,⟨_,t1,rfl⟩,_,hA9.get hG.nd ez eg,d,zf (by decide),fun pn hpn=>?_⟩
     have sN:=Same.upd (o:=.tup [.int g.2.1.n,.str g.2.1.h,.bl g.2.1.sh,.int g.2.1.e,.ref q0]) hpn
     refine hN _ _ ⟨R++[(pn,g.2,q0)],by rw[x04];rfl,?_,fun t ht=>?_,s9.trans sN⟩
     .rw[x04,eR,z31 _ hg]
      rfl
     .rcases x02.mp ht with ht|ht
      .exact hR.mono sN t ht
      .rw[xg.mp ht]
       exact⟨z9,sN _ _ e,hq0⟩
    .rintro acc H9 ⟨R,rfl,eR,hR,s9⟩ pe hpe
     rw[x5,x0h]at eR
     have sE:=Same.upd (o:=.lst (R.map fun t=>V.ref t.1)) hpe
     refine q pe R _ (z1u (sH6.trans (s8.trans s9)) hpe) z9 (hR.mono sE) (eR▸hKs) (sH6.trans (s8.trans (s9.trans sE)))
noncomputable def IsNm(c:Str->Nat)(r:Str):Prop:=(r=""/\∀ z,c z=0)\/(0<c r/\∀ z,0<c z->zx (-(c z:Int)) z (-(c r:Int)) r=false)
theorem zdb{a b:Int}{x y:Str}(h1:zx a x b y=false)(h2:zx b y a x=false):x=y:=by
 unfold zx at h1 h2
 simp only[Bool.or_eq_false_iff,Bool.and_eq_false_iff,x24]at h1 h2
 obtain⟨p1,p2⟩:=h1
 obtain⟨q1,q2⟩:=h2
 have e:a=b:=by omega
 have k1:=p2.resolve_left (fun h=>h e)
 have k2:=q2.resolve_left (fun h=>h e.symm)
 have:=List.le_antisymm (List.not_lt.mp k2) (List.not_lt.mp k1)
 cases x;cases y
 simpa using this
noncomputable def z63(ss:List KN)(hd lk:Str)(sh:Bool)(tick:Int)(j:Nat):List Str:=match ss[j]? with|some s=>((z1h tick s.N).filter (z3t hd lk sh)).map (·.h)|none=>[]
noncomputable def cntC(ss:List KN)(hd lk:Str)(sh:Bool)(tick:Int)(js:List Nat)(z:Str):Nat:=(js.filter fun j=>decide (z∈z63 ss hd lk sh tick j)).length
structure Cnt(E:List (Key×V))(f:Str->Nat):Prop where
 ks:∃zs:List Str,E.map (·.1)=zs.map Sum.inr
 vl:∀z,valV E (Sum.inr z:Key)=if 0<f z then some (.int (f z:Int)) else none
theorem Cnt.nil:Cnt [] fun _=>0:=⟨⟨[],rfl⟩,fun z=>rfl⟩
theorem Cnt.put{E:List (Key×V)}{f:Str->Nat}(h:Cnt E f)(z:Str):Cnt (putK E (Sum.inr z:Key) (.int ((f z:Int)+1))) (fun x=>if x=z then f x+1 else f x):=by
 obtain⟨⟨zs,e⟩,v⟩:=h
 refine⟨?_,fun x=>?_⟩
 .unfold putK
  by_cases a:(E.any fun kv=>decide (kv.1=(Sum.inr z:Key)))=true
  .rw[if_pos a]
   refine⟨zs,?_⟩
   rw[<-e,x0x]
   refine x2o fun q _=>?_
   show(if q.1=(Sum.inr z:Key) then(q.1,(V.int ((f z:Int)+1))) else q).1=q.1
   split<;>rfl
  .rw[if_neg a]
   exact⟨zs++[z],by rw[x04,e,x04];rfl⟩
 .rw[z6y]
  by_cases c:x=z
  .subst c
   simp
  .have:¬((Sum.inr x:Key)=Sum.inr z):=fun h=>c (Sum.inr.inj h)
   rw[if_neg this,v x]
   simp[c]
theorem Cnt.put_len(E:List (Key×V))(k:Key)(v:V):(putK E k v).length<=E.length+1:=by
 unfold putK
 split
 .rw[x5];omega
 .rw[xt];exact xi _
theorem Cnt.mem{E:List (Key×V)}{f:Str->Nat}(h:Cnt E f){zs:List Str}(e:E.map (·.1)=zs.map Sum.inr)(z:Str):z∈zs↔0<f z:=by
 have hv:=h.vl z
 constructor
 .intro m
  by_cases c:0<f z
  .exact c
  .rw[if_neg c]at hv
   have:=zlp hv
   rw[e]at this
   exact absurd (List.mem_map_of_mem m) this
 .intro c
  rw[if_pos c]at hv
  have:=znc hv
  rw[e]at this
  obtain⟨y,hy,ey⟩:=xw.mp this
  exact(Sum.inr.inj ey)▸hy
theorem znj(L:NL)(hd lk:Str)(sh:Bool)(tick:Int)(z:Str):z∈z3z L hd lk sh tick↔z∈((z1h tick (L.map (·.2))).filter (z3t hd lk sh)).map (·.h):=by
 unfold z3z wayf othf
 rw[<-z8g]
 simp only[xw,xz,z3t,x0y,x0s]
 constructor
 .rintro⟨q,⟨⟨h1,h2⟩,h3⟩,h4⟩
  exact⟨q.2,⟨⟨q,h1,rfl⟩,h2,h3⟩,h4⟩
 .rintro⟨x,⟨⟨q,h1,rfl⟩,h2,h3⟩,h4⟩
  exact⟨q,⟨⟨h1,h2⟩,h3⟩,h4⟩
theorem zkk(L:NL)(hd lk:Str)(sh:Bool)(tick:Int):(z3z L hd lk sh tick).length<=L.length:=by
 unfold z3z wayf othf z1g
 rw[x5]
 exact x01 (x06 _ _) (x01 (x06 _ _) (x06 _ _))
noncomputable abbrev tbM(H:Hp)(Pt:Addr):Prop:=TbOk H Pt { line:=186,col:=37,endLine:=186,endCol:=74 } (Str.ofString "Council.named" ++ ".<locals>." ++ "<lambda>")
noncomputable def zhc(CC CK:Addr)(Pt:Addr):Sp:=fun vs H Q _=>∃(c l:Addr)(ks ls:List Addr)(ss:List KN)(hd lk:Str)(sh:Bool)(tick:Int),vs=[.ref c,.str hd,.str lk,.bl sh,.int tick]/\CAt CC CK H c l ks ls ss/\zbc ss/\hd.length<=1000/\lk.length<=1000/\tbM H Pt/\
 ∀(r:Str)(H':Hp),IsNm (cntC ss hd lk sh tick (upl ss ks.length)) r->But1 Pt H H'->tbM H' Pt->Q (.str r) H'
theorem za7(F:MDefC K ya "named" "Council.named" z4h ["self","holder","lock","shared","tick"] yd)(T:Txt K mg ya yc yo yb y9 yd ye yn yp yr yf yg yk yl yi yh ym yj)(yv:MHas P w K mg base CX0 4 yc "names_in_way" ["self","holder","lock","shared","tick"] (za4 yc))(yt:MHas P w K mg base CX0 1 ya "up_keepers" ["self"] (zbb ya yc))(BA:base.BuiltinsAt mg y9):MHas P w K mg base CX0 5 ya "named" ["self","holder","lock","shared","tick"] (zhc ya yc y9):=by
 refine F.ok sc_Council_named (fun vs H Q E h=>?_) (fun f A outer s H vs Q E hr h=>?_)
 .obtain⟨c,l,ks,ls,ss,hd,lk,sh,tick,rfl,_⟩:=h
  rfl
 .obtain⟨c,l,ks,ls,ss,hd,lk,sh,tick,rfl,hc,hsm,hh,hlk,ht,q⟩:=h
  have hu:=hr.units0
  have hu2:=z3l hr
  walk_at "%×ĨơÚ'ǕÕťeƟ¯ùTǓ|xĢA*ơPĢS*ơ+ÛğW_Kģ5ȆòhSŦĖª$fO*ơPKǖÜřO$ÓǗÜřO8ũ<Ū8%ġ§3ŮɮǎH;;øƢɯyĔɰ¦ǘ¡H¼(ɱǙƣůǚ2<<ĩ<ý®2ĩý®(Ú#ǛTȒ'V?"
  walk_at "rd"
  intro p hp
  have s1:=Same.upd (o:=.dK []) hp
  have g1:upd H p (.dK []) p=some (.dK []):=z9
  generalize upd H p (.dK [])=H1 at s1 g1⊢
  have hc1:=hc.mono s1
  obtain⟨dx,hob⟩:=hc1.ob
  refine⟨_,_,hob,z4l _ _ (by decide+kernel) (by decide+kernel),c,l,ks,ls,ss,rfl,hc1,fun r L H2 hL hr0 gr s2=>⟨r,rfl,⟨_,SqL.of gr⟩,?_⟩⟩
  have hsz:=hc.sz
  have hl0:=hL.len
  have g2:=s2 _ _ g1
  have nrp:r≠p:=fun e=>by rw[e,g1]at hr0;cases hr0
  have fr:∀{H':Hp}{b:Addr}{o:HO},But1 p H2 H'->H b=some o->H' b=some o:=fun{H' b o} b1 e=>b1 _ _ (s2 _ _ (s1 _ _ e)) (zh e hp)
  refine z1x (xs:=ptup L) (fun i σ H'=>∃(E:List (Key×V))(v6 v7 v8:Option V),σ=[some (V.ref c),some (V.str hd),some (V.str lk),some (V.bl sh),some (V.int tick),some (V.ref p),v6,v7,v8]/\H' p=some (.dK E)/\E.length<=63*i/\Cnt E (cntC ss hd lk sh tick ((upl ss ks.length).take i))/\But1 p H2 H') ⟨[],_,_,_,rfl,g2,xi _,Cnt.nil,fun b o e _=>e⟩ ?_ ?_ ?_
  .rintro i σ H'-⟨E,v6,v7,v8,-,-,-,-,b3⟩
   exact SqL.of (b3 _ _ gr nrp)
  .rintro Pv hP i x σ H' hx ⟨E,v6,v7,v8,rfl,gE,hE,hCn,b3⟩
   obtain⟨y,hy,rfl⟩:=z7a hx
   walk_at "rd"
   have my:=xf hy
   have sH:Same H H':=fun b o e=>fr b3 e
   have hty:=b3 _ _ (hL.tu y my) (fun e=>by have:=hL.tu y my;rw[e,g2]at this;cases this)
   obtain⟨s,l1,hu,hl1,-,Ls,eL,hk⟩:=(hc.mono sH).kp y.2.1 y.2.2 (hL.at_ y my)
   obtain⟨⟨dk,lk',a1,a2⟩,hn,-⟩:=id hk
   have l62:Ls.length<=62:=by
    have:=hsm s (xf hu)
    rw[<-eL,x5]at this
    exact this
   have gi:(upl ss ks.length)[i]? =some y.2.1:=by rw[<-hL.mp,xj,hy];rfl
   refine⟨_,SqT.of hty,rfl,_,_,rfl,_,_,rfl,rfl,_,rfl,_,_,a1,z77 s.u s.t lk' (by decide+kernel) (by decide+kernel) (by decide+kernel),y.2.2,s.u,s.t,Ls,hd,lk,sh,tick,rfl,hk,by omega,hlk,fun rn zs H3 hrn grn pmz srt s3=>⟨rn,rfl,⟨_,SqL.of grn⟩,?_⟩⟩
   have lzs:zs.length<=62:=by
    have:=pmz.length_eq
    have:=zc1 (z3z Ls hd lk sh tick)
    have:=zkk Ls hd lk sh tick
    omega
   have ndz:zs.Nodup:=pmz.nodup_iff.mpr (zij _)
   have mz:∀x,x∈zs↔x∈z63 ss hd lk sh tick y.2.1:=fun x=>by
    rw[pmz.mem_iff,zm2,znj,eL]
    unfold z63
    rw[hu]
   have stp:∀x,cntC ss hd lk sh tick ((upl ss ks.length).take (i+1)) x=cntC ss hd lk sh tick ((upl ss ks.length).take i) x+if x∈zs then 1 else 0:=fun x=>by
    unfold cntC
    rw[x16,gi,x23,xt]
    by_cases m:x∈zs
    .rw[if_pos m]
     simp[(mz x).mp m]
    .rw[if_neg m]
     simp[show¬(x∈z63 ss hd lk sh tick y.2.1) from fun h=>m ((mz x).mpr h)]
   generalize cntC ss hd lk sh tick ((upl ss ks.length).take i)=f0 at hCn stp
   have hil:i<L.length:=(xl.mp hy).1
   have nrn:rn≠p:=fun e=>by rw[e,gE]at hrn;cases hrn
   refine z1x (xs:=zs.map V.str) (fun j σ H4=>∃(E4:List (Key×V))(v8:Option V),σ=[some (V.ref c),some (V.str hd),some (V.str lk),some (V.bl sh),some (V.int tick),some (V.ref p),some (V.int (((y.2.1:Nat):Int)+1)),some (V.ref y.2.2),v8]/\H4 p=some (.dK E4)/\E4.length<=63*i+j/\Cnt E4 (fun x=>f0 x+if x∈zs.take j then 1 else 0)/\But1 p H2 H4/\H4 rn=some (.lst (zs.map V.str))) ⟨E,_,rfl,s3 _ _ gE,hE,by simpa using hCn,fun b o e n=>s3 _ _ (b3 _ _ e n),grn⟩ ?_ ?_ ?_
   .rintro j σ H4-⟨E4,v8,-,-,-,-,-,g4⟩
    exact SqL.of g4
   .rintro Pw hW j x σ H4 hx ⟨E4,v8,rfl,g4,l4,c4,b4,gn4⟩
    rw[xj]at hx
    obtain⟨z,hz,rfl⟩:=x0b.mp hx
    have hj:j<zs.length:=(xl.mp hz).1
    have nz:z∉zs.take j:=fun hm=>by
     obtain⟨k,hk,e⟩:=x0m hm
     rw[x07]at hk
     have e2:zs[k]? =some z:=by rw[List.getElem_take]at e;rw[x8 (by omega),e]
     have:=(List.getElem?_inj (by omega) ndz).mp (e2.trans hz.symm)
     omega
    walk_at "rd"
    have hv:=c4.vl z
    rw[if_neg nz]at hv
    refine⟨.inl ⟨_,.inl g4⟩,_,DGet.k (k:=Sum.inr z) g4,?_⟩
    rw[hv]
    have eg:(if 0<f0 z+0 then some (V.int ((f0 z+0:Nat):Int)) else none).getD (V.int 0)=V.int (f0 z:Int):=by
     by_cases c0:0<f0 z
     .rw[if_pos (by omega)];rfl
     .rw[if_neg (by omega),show f0 z=0 by omega];rfl
    refine⟨_,eg,_,DPut.k (k:=Sum.inr z) g4 (x00 (by omega:_<1000000) (zf (xi _))),hW _ _ _ ⟨_,_,rfl,z9,?_,?_,fun b o e n=>by rw[zc n];exact b4 _ _ e n,by rw[zc nrn];exact gn4⟩⟩
    .have:=Cnt.put_len E4 (Sum.inr z:Key) (.int ((f0 z:Int)+1))
     omega
    .have cp:=c4.put z
     rw[if_neg nz]at cp
     have ef:(fun x=>if x=z then(f0 x+if x∈zs.take j then 1 else 0)+1 else f0 x+if x∈zs.take j then 1 else 0)=fun x=>f0 x+if x∈zs.take (j+1) then 1 else 0:=by
      funext x
      have et:zs.take (j+1)=zs.take j++[z]:=by rw[x16,hz];rfl
      by_cases ex:x=z
      .subst ex
       rw[if_pos rfl,if_neg nz,et,if_pos (by simp)]
      .rw[if_neg ex,et]
       simp[ex]
     rw[ef]at cp
     exact cp
   .rintro σ H4 ⟨E4,v8,rfl,g4,l4,c4,b4,gn4⟩
    rw[x5,x0h]at c4
    rw[x5]at l4
    refine hP _ _ _ ⟨E4,_,_,_,rfl,g4,by omega,?_,b4⟩
    rw[show cntC ss hd lk sh tick ((upl ss ks.length).take (i+1))=_ from funext stp]
    exact c4
  .rintro σ H' ⟨E,v6,v7,v8,rfl,gE,hE,hCn,b3⟩
   walk_at "rd"
   rw[z4x,<-hL.take,x0h,hL.mp]at hCn
   obtain⟨zs,ez⟩:=hCn.ks
   refine⟨E,gE,zs,ez,fun lz hlz=>?_⟩
   have s4:=Same.upd (o:=.lst (zs.map V.str)) hlz
   have gl:upd H' lz (.lst (zs.map V.str)) lz=some (.lst (zs.map V.str)):=z9
   generalize upd H' lz (.lst (zs.map V.str))=H4 at s4 gl⊢
   have sH:Same H H4:=fun b o e=>s4 _ _ (fr b3 e)
   have hm:=hCn.mem ez
   refine⟨p,zs,SqL.of gl,rfl,E,s4 _ _ gE,fun z=>(cntC ss hd lk sh tick (upl ss ks.length) z:Int),fun z hz=>?_,TbOk.mono ht sH,fun H5 b5 t5=>⟨fun e=>?_,fun z hz ha=>?_⟩⟩
   .rw[hCn.vl,if_pos ((hm z).mp hz)]
   .refine q _ _ (.inl ⟨rfl,fun z=>?_⟩) (fun b o e n=>b5 _ _ (sH _ _ e) n) t5
    have:=(not_congr (hm z)).mp (by rw[e];exact List.not_mem_nil)
    omega
   .exact q _ _ (.inr ⟨(hm z).mp hz,fun x hx=>ha x ((hm x).mpr hx)⟩) (fun b o e n=>b5 _ _ (sH _ _ e) n) t5
noncomputable abbrev RL:=List (Addr×List V)
noncomputable abbrev PL:=List (Addr×Str×Str)
noncomputable def pkv(L:PL):List (Addr×Key×V):=L.map fun q=>(q.1,Sum.inr q.2.1,V.str q.2.2)
noncomputable def PairsAt(H:Hp)(L:PL):Prop:=∀q∈L,H q.1=some (.tup [V.str q.2.1,V.str q.2.2])
theorem PairsAt.mono{H H':Hp}{L:PL}(h:PairsAt H L)(s:Same H H'):PairsAt H' L:=fun q hq=>s _ _ (h q hq)
theorem PairsAt.kv{H:Hp}{L:PL}(h:PairsAt H L):∀q∈pkv L,H q.1=some (.tup [kV q.2.1,q.2.2]):=by
 intro q hq
 obtain⟨x,hx,rfl⟩:=xw.mp hq
 exact h x hx
noncomputable def z2y(L:PL):List V:=L.map fun q=>V.ref q.1
theorem zfq(L:PL):((pkv L).map fun q=>V.ref q.1)=z2y L:=by unfold pkv z2y;simp[x0x]
theorem z64(L:PL):(z2y L).length=L.length:=x5 _
noncomputable def nx(L:List (Str×Str))(a:Str):Str:=L.foldl (fun acc p=>if p.1=a then p.2 else acc) ""
noncomputable def tab(L:PL):List (Key×V):=z30 [] ((pkv L).map (·.2))
theorem zkl(a:Str):∀(L:List (Str×Str)) (kvs:List (Key×V)) (z:Str),(valV kvs (Sum.inr a)).getD (.str "")=.str z->
  (valV (z30 kvs (L.map fun p=>((Sum.inr p.1:Key),V.str p.2))) (Sum.inr a)).getD (.str "")=.str (L.foldl (fun acc p=>if p.1=a then p.2 else acc) z)
 |[],kvs,z,h=>h
 |p::L,kvs,z,h=>by
  show(valV (z30 (putK kvs (Sum.inr p.1) (V.str p.2)) (L.map fun p=>((Sum.inr p.1:Key),V.str p.2))) (Sum.inr a)).getD (.str "")=.str (L.foldl (fun acc p=>if p.1=a then p.2 else acc) (if p.1=a then p.2 else z))
  refine zkl a L _ _ ?_
  rw[z6y]
  by_cases e:p.1=a
  .rw[if_pos (by rw[e]),if_pos e]
   rfl
  .rw[if_neg (fun z=>e (Sum.inr.inj z).symm),if_neg e]
   exact h
theorem zhd(L:PL)(a:Str):(valV (tab L) (Sum.inr a)).getD (.str "")=.str (nx (L.map (·.2)) a):=by
 have:=zkl a (L.map (·.2)) [] "" rfl
 unfold tab nx
 rw[<-this]
 unfold pkv
 simp[x0x,Function.comp_def]
theorem zkm{L:List (Str×Str)}{a:Str}(h:nx L a≠ ""):a∈L.map (·.1):=by
 have go:∀(L:List (Str×Str))(z:Str),L.foldl (fun acc p=>if p.1=a then p.2 else acc) z≠z->a∈L.map (·.1):=by
  intro L
  induction L with
  |nil=>intro z h;exact absurd rfl h
  |cons p L ih=>
   intro z h
   by_cases e:p.1=a
   .rw[x0a,e];exact xp ..
   .rw[x0a]
    refine xx _ (ih z ?_)
    simpa[x21,e]using h
 exact go L "" h
theorem zkn:∀(xs ys:List Str),xs.Nodup->(∀x∈xs,x∈ys)->xs.length<=ys.length
 |[],_,_,_=>x08 _
 |x::xs,ys,hn,hs=>by
  have hx:=hs x (xp ..)
  have h1:=zkn xs (ys.erase x) (x0k.mp hn).2 fun y hy=>by
   have ne:y≠x:=fun e=>(x0k.mp hn).1 (e▸hy)
   exact(List.mem_erase_of_ne ne).mpr (hs y (xx _ hy))
  rw[List.length_erase_of_mem hx]at h1
  have:0<ys.length:=List.length_pos_of_mem hx
  rw[x09]
  omega
structure Grows(f:Str->Str)(z:Str)(zs:List Str):Prop where
 nd:zs.Nodup
 hd:∀a,zs[0]? =some a->a=z
 st:∀(i:Nat) a b,zs[i]? =some a->zs[i+1]? =some b->b=f a/\b≠ ""
structure ChainOf(f:Str->Str)(z:Str)(zs:List Str):Prop extends Grows f z zs where
 ne:zs≠[]
 fin:∀ a,zs.getLast? =some a->f a=""\/f a∈zs
theorem Grows.len{L:List (Str×Str)}{z:Str}{zs:List Str}(g:Grows (nx L) z zs):zs.length<=L.length+1:=by
 have h1:∀x∈zs.take (zs.length-1),x∈L.map (·.1):=by
  intro x hx
  obtain⟨i,hi,rfl⟩:=x0m hx
  rw[x07]at hi
  have h0:zs[i]? =some zs[i]:=x8 (by omega)
  have h2:zs[i+1]? =some zs[i+1]:=x8 (by omega)
  obtain⟨e,ne⟩:=g.st i _ _ h0 h2
  rw[e]at ne
  have:=zkm ne
  simpa using this
 have h2:=zkn (zs.take (zs.length-1)) (L.map (·.1)) (g.nd.sublist (List.take_sublist _ _)) h1
 rw[x07,x5]at h2
 omega
theorem z6r(y:Str)(zs:List Str):inV (.str y) (zs.map V.str)=decide (y∈zs):=by
 induction zs with
 |nil=>rfl
 |cons a zs ih=>
  show(eqV (.str a) (.str y)||inV (.str y) (zs.map V.str))=_
  rw[ih]
  show((a==y)||decide (y∈zs))=_
  by_cases h:a=y
  .simp[h]
  .have:(a==y)=false:=by simpa using h
   rw[this]
   simp[Ne.symm h]
noncomputable def zcc(K:PySem.W.Frag):Sp:=fun vs H Q _=>∃(p:Addr) (L:PL) (z:Str),vs=[.ref p,.str z]/\SqL K H p (z2y L)/\PairsAt H L/\L.length<=100/\z≠ ""/\∀(r:Addr) (zs:List Str) (H':Hp),ChainOf (nx (L.map (·.2))) z zs->H r=none->H' r=some (.lst (zs.map V.str))->Same H H'->Q (.ref r) H'
noncomputable def zmu(L:PL)(p d c:Addr)(z:Str)(H:Hp):St->Hp->Prop:=fun σ H'=>∃(zs:List Str)(y:Str),σ=[some (V.ref p),some (V.str y),some (V.ref d),some (V.ref c)]/\ChainOf (nx (L.map (·.2))) z zs/\H' c=some (.lst (zs.map V.str))/\Same H H'
theorem zgr(F:Def K mg "chain_of" z74 ["waits","name"])(T:Txt K mg ya yc yo yb y9 yd ye yn yp yr yf yg yk yl yi yh ym yj):Has P w K mg base 1 "chain_of" ["waits","name"] (zcc K):=by
 refine F.ok sc_chain_of (fun vs H Q E h=>?_) (fun f cdv A outer s H vs Q E hr h=>?_)
 .obtain⟨p,L,z,rfl,_⟩:=h
  rfl
 .obtain⟨p,L,z,rfl,hp,hL,hl,hz,q⟩:=h
  have hu2:=z3l hr
  walk_at "%čǜ+Ĕǝ¦ǞƤCnúǜ+¨¿ƥiǟ|Ʀ#ÀǠlŰÁűlþÂŲ>ĪûŦÿqī-.ǜ+ǗÜü«Ƨũ<ŪĀÛ'Ų:ď?&"
  walk_at "rd"
  refine⟨pkv L,by rw[zfq];exact hp,hL.kv,fun d hd=>⟨x08 _,fun c hc=>?_⟩⟩
  have s1:=Same.upd (o:=.dK (tab L)) hd
  have s2:=Same.upd (o:=.lst []) hc
  have gd:(upd H d (.dK (tab L))) d=some (.dK (tab L)):=z9
  have ndc:d≠c:=zh gd hc
  refine⟨zmu L p d c z H,⟨fun m σ H'=>∃(zs:List Str)(y:Str),σ=[some (V.ref p),some (V.str y),some (V.ref d),some (V.ref c)]/\m=200-zs.length/\Grows (nx (L.map (·.2))) z zs/\(zs=[]->y=z)/\(∀a,zs.getLast? =some a->y=nx (L.map (·.2)) a)/\H' c=some (.lst (zs.map V.str))/\H' d=some (.dK (tab L))/\Same H H',⟨_,[],z,rfl,rfl,⟨x29,fun a h=>by simp at h,fun i a b h=>by simp at h⟩,fun _=>rfl,fun a h=>by simp at h,z9,by rw[zc ndc];exact gd,s1.trans s2⟩,?_⟩,fun σ H' hMd=>?_⟩
  rotate_left
  .obtain⟨zs,y,rfl,hC,gc,sH⟩:=hMd
   walk_at "rd"
   exact q c zs H' hC (z1u s1 hc) gc sH
  rintro m σ H' ⟨zs,y,rfl,rfl,hg,h0,hl',gc,gd',sH⟩
  walk_at "rd"
  have fin:∀(Hf:Hp),Same H' Hf->(y=""\/y∈zs)->zmu L p d c z H [some (V.ref p),some (V.str y),some (V.ref d),some (V.ref c)] Hf:=fun Hf sf h=>by
   have hz1:zs≠[]:=fun e=>by
    rcases h with h|h
    .exact hz (by rw[<-h0 e,h])
    .rw[e]at h;cases h
   refine⟨zs,y,rfl,⟨hg,hz1,fun a ha=>?_⟩,sf _ _ gc,sH.trans sf⟩
   rw[<-hl' a ha]
   exact h
  by_cases hy:y=""
  .rw[if_neg (by simpa using hy)]
   exact⟨rfl,fin H' (Same.refl _) (.inl hy)⟩
  .rw[if_pos (by simpa using hy)]
   refine⟨rfl,c,zs.map V.str,rfl,.inl (SqL.of gc),rfl,z1w zs,_,rfl,?_⟩
   rw[if_pos rfl,z6r]
   by_cases hm:y∈zs
   .rw[if_neg (by simpa using hm)]
    exact fin H' (Same.refl _) (.inr hm)
   .rw[if_pos (by simpa using hm)]
    refine⟨_,fun σ' H2 h=>h,.inl ⟨_,SqL.of gc⟩,c,_,_,rfl,rfl,gc,?_,?_⟩
    .have:=hg.len
     rw[x5]at this⊢
     exact z7t (by omega)
    .have gd2:(upd H' c (.lst (zs.map V.str++[V.str y]))) d=some (.dK (tab L)):=by rw[zc ndc];exact gd'
     refine⟨.inl ⟨_,.inl gd2⟩,_,DGet.k (k:=Sum.inr y) gd2,?_⟩
     rw[zhd]
     have ylen:=hg.len
     rw[x5]at ylen
     refine⟨200-(zs++[y]).length,by simp;omega,zs++[y],_,rfl,rfl,⟨?_,?_,?_⟩,fun e=>by simp at e,fun a ha=>?_,by rw[z9];simp,gd2,fun b o e=>?_⟩
     .rw[x2b]
      refine⟨hg.nd,by simp,fun a ha b hb=>?_⟩
      have:b=y:=by simpa using hb
      rw[this]
      exact fun e=>hm (e▸ha)
     .intro a ha
      cases zs with
      |nil=>
       have:y=a:=by simpa using ha
       rw[<-this]
       exact h0 rfl
      |cons b r=>exact hg.hd a (by simpa using ha)
     .intro i a b ha hb
      by_cases hi:i+1<zs.length
      .rw[x0u (by omega)]at ha
       rw[x0u hi]at hb
       exact hg.st i a b ha hb
      .have hb':=(xl.mp hb).1
       rw[xt,x1w]at hb'
       have hi2:i+1=zs.length:=by omega
       rw[x19 (by omega),hi2,Nat.sub_self]at hb
       have eb:y=b:=by simpa using hb
       rw[x0u (by omega)]at ha
       have:zs.getLast? =some a:=by rw[List.getLast?_eq_getElem?,<-ha];congr 1;omega
       rw[<-eb]
       exact⟨hl' a this,hy⟩
     .have:a=y:=by
       rw[List.getLast?_append]at ha
       simpa using ha.symm
      rw[this]
     .have e1:=sH _ _ e
      have nb:b≠c:=fun z=>by
       rw[z,z1u s1 hc]at e
       cases e
      rw[zc nb]
      exact e1
noncomputable def itr(f:Str->Str)(z:Str):Nat->Str
 |0=>z
 |n+1=>f (itr f z n)
noncomputable def itl(f:Str->Str)(z:Str)(n:Nat):List Str:=(List.range n).map (itr f z)
theorem zm9(f:Str->Str)(z:Str)(n:Nat):itl f z (n+1)=itl f z n++[itr f z n]:=by
 unfold itl
 rw[List.range_succ,x04]
 rfl
noncomputable def RingRes(f:Str->Str)(z:Str)(ys:List Str):Prop:=
 (∃n,n<9/\itr f z (n+1)=z/\(∀m,m<n->itr f z (m+1)≠z)/\ys=itl f z (n+1))\/((∀n,n<9->itr f z (n+1)≠z)/\ys=[])
noncomputable def InR(f:Str->Str)(z:Str):Prop:=∃n,n<9/\itr f z (n+1)=z
theorem RingRes.ne{f:Str->Str}{z:Str}{ys:List Str}(h:RingRes f z ys):ys≠[]↔InR f z:=by
 rcases h with⟨n,a,b,c,d⟩|⟨a,b⟩
 .refine⟨fun _=>⟨n,a,b⟩,fun _ e=>?_⟩
  rw[d,zm9]at e
  simp at e
 .exact⟨fun h=>absurd b h,fun⟨n,h1,h2⟩=>absurd h2 (a n h1)⟩
theorem Grows.itr{f:Str->Str}{z:Str}{zs:List Str}(g:Grows f z zs):∀(i:Nat) a,zs[i]? =some a->a=itr f z i
 |0,a,h=>g.hd a h
 |i+1,a,h=>by
  have hi:i<zs.length:=by have:=(xl.mp h).1;omega
  have e:=Grows.itr g i _ (x8 hi)
  obtain⟨e2,_⟩:=g.st i _ a (x8 hi) h
  rw[e2,e]
  rfl
theorem Grows.itl{f:Str->Str}{z:Str}{zs:List Str}(g:Grows f z zs):zs=itl f z zs.length:=by
 apply x28
 intro i
 unfold Fg.itl
 rw[xj]
 by_cases hi:i<zs.length
 .rw[x8 hi,List.getElem?_range hi]
  exact x12 some (g.itr i _ (x8 hi))
 .rw[x1f (by omega),x1f (by simp;omega)]
  rfl
theorem ChainOf.ring{f:Str->Str}{z l:Str}{ini zs:List Str}(c:ChainOf f z zs)(e:zs=ini++[l])(h9:zs.length<=9)(hz:z≠ "")(f0:f ""="")(ys:List Str)(hy:ys=if f l=z then zs else[]):RingRes f z ys:=by
 have z0:zs[0]? =some z:=by
  have:=c.hd
  cases zs with
  |nil=>exact absurd rfl c.ne
  |cons b r=>rw[this b rfl];rfl
 have ll:zs[zs.length-1]? =some l:=by rw[e];simp
 have il:=c.itr _ _ ll
 have nd:∀j a,1<=j->zs[j]? =some a->a≠z:=fun j a h1 h2 h3=>by
  have hj:=(xl.mp h2).1
  have e0:zs[0]'(by omega)=z:=by
   have:=x8 (l:=zs) (i:=0) (by omega)
   rw[z0]at this
   exact(xq this).symm
  have ej:zs[j]=a:=(xl.mp h2).2
  exact x0w.mp c.nd 0 j (by omega) hj (by omega) (by rw[e0,ej,h3])
 have lp:0<zs.length:=by rw[e];simp
 by_cases h:f l=z
 .rw[if_pos h]at hy
  left
  refine⟨zs.length-1,by omega,?_,fun m hm=>?_,?_⟩
  .show f (itr f z (zs.length-1))=z
   rw[<-il];exact h
  .have g1:zs[m+1]? =some (zs[m+1]'(by omega)):=x8 (by omega)
   rw[<-c.itr _ _ g1]
   exact nd (m+1) _ (by omega) g1
  .rw[hy,show zs.length-1+1=zs.length by omega]
   exact c.itl
 .rw[if_neg h]at hy
  right
  refine⟨fun n _=>?_,hy⟩
  have good:∀ n,itr f z (n+1)=""\/∃ j,1<=j/\zs[j]? =some (itr f z (n+1)):=by
   have step:∀ j a,zs[j]? =some a->f a=""\/∃ i,1<=i/\zs[i]? =some (f a):=fun j a ha=>by
    have hj:=(xl.mp ha).1
    by_cases hj1:j+1<zs.length
    .have g1:zs[j+1]? =some (zs[j+1]'hj1):=x8 hj1
     obtain⟨e1,_⟩:=c.st j _ _ ha g1
     rw[e1]at g1
     exact .inr ⟨j+1,by omega,g1⟩
    .have ej:j=zs.length-1:=by omega
     rw[ej,ll]at ha
     cases ha
     rcases c.fin l (by rw[e];simp) with h1|h1
     .exact .inl h1
     .obtain⟨i,hi,e1⟩:=x0m h1
      refine .inr ⟨i,?_,by rw[x8 hi,e1]⟩
      cases i with
      |zero=>
       rw[x8 hi,e1]at z0
       exact absurd (xq z0) h
      |succ i=>omega
   intro n
   induction n with
   |zero=>exact step 0 z z0
   |succ n ih=>
    rcases ih with ih|⟨j,_,ih⟩
    .left
     show f (itr f z (n+1))=""
     rw[ih,f0]
    .exact step j _ ih
  rcases good n with g|⟨j,h1,g⟩
  .rw[g];exact hz.symm
  .exact nd j _ h1 g
noncomputable def z55(f:Str->Str)(L:List (Str×Str)):Str:=by
 classical
 exact L.foldl (fun acc p=>if InR f p.1 then p.1 else acc) ""
theorem zbe(f:Str->Str)(L:List (Str×Str))(p:Str×Str):(InR f p.1->z55 f (L++[p])=p.1)/\(¬ InR f p.1->z55 f (L++[p])=z55 f L):=by
 unfold z55
 simp only[List.foldl_append,x21,List.foldl_nil]
 exact⟨fun h=>if_pos h,fun h=>if_neg h⟩
theorem za8(f:Str->Str):∀(B A:List (Str×Str)),(∀p∈B,¬ InR f p.1)->z55 f (A++B)=z55 f A:=by
 intro B
 induction B with
 |nil=>intro A _;rw[x1o]
 |cons b B ih=>
  intro A h
  rw[show A++b::B=(A++[b])++B by simp,ih (A++[b]) fun p hp=>h p (xx _ hp)]
  exact(zbe f A b).2 (h b (xp ..))
noncomputable def zfr(K:PySem.W.Frag):Sp:=fun vs H Q _=>∃(p:Addr) (L:PL) (z:Str),vs=[.ref p,.str z]/\SqL K H p (z2y L)/\PairsAt H L/\L.length<=8/\(∀ q∈L,q.2.1≠ "")/\z≠ ""/\∀(r:Addr) (ys:List Str) (H':Hp),RingRes (nx (L.map (·.2))) z ys->H' r=some (.lst (ys.map V.str))->Same H H'->Q (.ref r) H'
theorem ziw(F:Def K mg "ring_of" z8b ["waits","name"])(T:Txt K mg ya yc yo yb y9 yd ye yn yp yr yf yg yk yl yi yh ym yj)(y1i:Has P w K mg base 1 "chain_of" ["waits","name"] (zcc K)):Has P w K mg base 2 "ring_of" ["waits","name"] (zfr K):=by
 refine F.ok sc_ring_of (fun vs H Q E h=>?_) (fun f cdv A outer s H vs Q E hr h=>?_)
 .obtain⟨p,L,z,rfl,_⟩:=h
  rfl
 .obtain⟨p,L,z,rfl,hp,hL,hl,hk,hz,q⟩:=h
  have hu:=hr.units0
  have hu2:=z3l hr
  walk_at "%čɲ+,ȓň-Zp=ÀŖµȔņĬ$¨$EÁāǗÜ#Ĕǝ¦Ǟǡ¾ųɳ|ɴ/¬Ƨũ<ŪĂŮê1Ã:¨Ý"
  walk_at "rd"
  refine⟨p,L,z,rfl,hp,hL,by omega,hz,fun c zs H1 hc hc0 gc s1=>?_⟩
  have f0:nx (L.map (·.2)) ""="":=by
   cases Classical.em (nx (L.map (·.2)) ""="") with
   |inl h=>exact h
   |inr h=>
    obtain⟨y,hy,e⟩:=xw.mp (zkm h)
    obtain⟨x,hx,e2⟩:=xw.mp hy
    have:=hk x hx
    rw[e2,e]at this
    exact absurd rfl this
  have lz:=hc.len
  rw[x5]at lz
  obtain⟨ini,l,el⟩:∃ini l,zs=ini++[l]:=⟨zs.dropLast,zs.getLast hc.ne,(List.dropLast_concat_getLast hc.ne).symm⟩
  refine⟨x08 _,fun p1 hp1=>⟨c,rfl,zs.map V.str,SqL.of ((Same.upd hp1) _ _ gc),SqL.of z9,?_⟩⟩
  rw[if_pos (by rw[el];simp)]
  have s2:=s1.trans (Same.upd (o:=.lst []) hp1)
  have gc2:=(Same.upd (o:=.lst []) hp1) _ _ gc
  generalize upd H1 p1 (.lst [])=H2 at s2 gc2⊢
  refine⟨pkv L,by rw[zfq];exact s2.seq hp,(hL.mono s2).kv,fun d hd=>?_⟩
  have eT:z30 [] ((pkv L).map fun x=>x.2)=tab L:=rfl
  rw[eT]
  have s3:=s2.trans (Same.upd (o:=.dK (tab L)) hd)
  have gc3:=(Same.upd (o:=.dK (tab L)) hd) _ _ gc2
  have gd3:(upd H2 d (.dK (tab L))) d=some (.dK (tab L)):=z9
  generalize upd H2 d (.dK (tab L))=H3 at s3 gc3 gd3⊢
  have gl:H3 c=some (.lst (ini.map V.str++[V.str l])):=by rw[gc3,el];simp
  refine⟨.inl ⟨_,.inl gd3⟩,_,_,_,_,rfl,rfl,SqL.of gl,zle _ _,_,DGet.k (k:=Sum.inr l) gd3,?_⟩
  rw[zhd]
  refine⟨rfl,?_⟩
  have res:=hc.ring el (by omega) hz f0
  by_cases he:nx (L.map (·.2)) l=z
  .rw[if_pos (by simpa using he)]
   exact q c zs H3 (res zs (by rw[if_pos he])) gc3 s3
  .rw[if_neg (by simpa using he)]
   exact⟨x08 _,fun r hr'=>q r [] _ (res [] (by rw[if_neg he])) z9 (s3.trans (Same.upd hr'))⟩
noncomputable def zko(K:PySem.W.Frag):Sp:=fun vs H Q _=>∃(p:Addr) (L:PL),vs=[.ref p]/\SqL K H p (z2y L)/\PairsAt H L/\L.length<=8/\(∀ q∈L,q.2.1≠ "")/\z3w H Q (.str (z55 (nx (L.map (·.2))) (L.map (·.2))))
theorem zbf(F:Def K mg "last_in_ring" z4u ["waits"])(T:Txt K mg ya yc yo yb y9 yd ye yn yp yr yf yg yk yl yi yh ym yj)(y1n:Has P w K mg base 2 "ring_of" ["waits","name"] (zfr K)):Has P w K mg base 3 "last_in_ring" ["waits"] (zko K):=by
 refine F.ok sc_last_in_ring (fun vs H Q E h=>?_) (fun f cdv A outer s H vs Q E hr h=>?_)
 .obtain⟨p,L,rfl,_⟩:=h
  rfl
 .obtain⟨p,L,rfl,hp,hL,hl,hk,q⟩:=h
  have hu:=hr.units0
  walk_at "%Lĭɵ(ɶ#ɷ#£ǢGǓ|xĢ-*ȕPĢ0*ȕ+ÛğW_XŖµȔņ$,Ȗň-Qŉ¨$E:íĮ3ÞÄ1"
  walk_at "rd"
  refine⟨z2y L,hp,?_⟩
  refine zk6 (xs:=z2y L) (fun i σ H'=>∃(v1 v2:Option V),σ=[some (V.ref p),v1,v2]/\Same H H'/\∀q∈L.drop (L.length-i),¬ InR (nx (L.map (·.2))) q.2.1) ⟨_,_,rfl,Same.refl _,by simp⟩ ?_ ?_ ?_
  .rintro i σ H'-⟨v1,v2,rfl,sH,-⟩
   exact sH.seq hp
  .rintro Pv hP i x σ H' hi hx ⟨v1,v2,rfl,sH,hno⟩
   rw[z64]at hi hx
   obtain⟨y,hy,rfl⟩:∃y,L[L.length-1-i]? =some y/\x=V.ref y.1:=by
    unfold z2y at hx
    rw[xj]at hx
    cases e:L[L.length-1-i]? with
    |none=>rw[e]at hx;cases hx
    |some y=>rw[e]at hx;exact⟨y,rfl,(xq hx).symm⟩
   have my:=xf hy
   refine⟨_,_,rfl,SqT.of (sH _ _ (hL y my)),rfl,?_⟩
   walk_at "rd"
   refine⟨_,_,⟨rfl,rfl⟩,_,_,rfl,rfl,?_⟩
   refine⟨p,L,y.2.1,rfl,sH.seq hp,hL.mono sH,hl,hk,hk y my,fun r ys H2 hR gr s2=>?_⟩
   refine⟨x08 _,fun p1 hp1=>⟨r,rfl,ys.map V.str,SqL.of ((Same.upd hp1) _ _ gr),SqL.of z9,?_⟩⟩
   have s3:=(sH.trans s2).trans (Same.upd (o:=.lst []) hp1)
   have hd1:L.drop (L.length-(i+1))=y::L.drop (L.length-i):=by
    have e1:L.length-(i+1)=L.length-1-i:=by omega
    have e2:L.length-i=L.length-1-i+1:=by omega
    rw[e1,e2]
    have hlt:L.length-1-i<L.length:=by omega
    rw[List.drop_eq_getElem_cons hlt]
    rw[x8 hlt]at hy
    rw[xq hy]
   by_cases hy0:ys=[]
   .rw[if_neg (by rw[hy0];decide)]
    refine hP _ _ _ ⟨_,_,rfl,s3,fun x hx=>?_⟩
    rw[hd1]at hx
    rcases xk.mp hx with z|z
    .rw[z]
     exact fun h=>(hR.ne.mpr h) hy0
    .exact hno x z
   .rw[if_pos (by cases ys with|nil=>exact absurd rfl hy0|cons a b=>rfl)]
    have inr:=hR.ne.mp hy0
    have eL:L.map (·.2)=(L.take (L.length-(i+1))).map (·.2)++[y.2]++(L.drop (L.length-i)).map (·.2):=by
     have:=x2f (L.length-(i+1)) L
     rw[hd1]at this
     conv=>lhs;rw[<-this]
     simp
    have el:z55 (nx (L.map (·.2))) (L.map (·.2))=y.2.1:=by
     generalize hf:nx (L.map (·.2))=f at inr hno
     rw[eL,za8 f _ _ fun x hx=>by
      obtain⟨u,hu,rfl⟩:=xw.mp hx
      exact hno u hu]
     exact(zbe f _ _).1 inr
    have:=q _ s3
    rw[el]at this
    exact this
  .rintro σ H' ⟨v1,v2,rfl,sH,hno⟩
   walk_at "rd"
   have e0:z55 (nx (L.map (·.2))) (L.map (·.2))="":=by
    have:=za8 (nx (L.map (·.2))) (L.map (·.2)) [] fun x hx=>by
     obtain⟨y,hy,rfl⟩:=xw.mp hx
     refine hno y ?_
     rw[z64,Nat.sub_self]
     exact hy
    rw[List.nil_append]at this
    rw[this]
    rfl
   have:=q H' sH
   rw[e0]at this
   exact this
noncomputable def TuAt(H:Hp)(L:NL):Prop:=∀q∈L,H q.1=some (.tup q.2.vals)
theorem TuAt.mono{H H1:Hp}{L:NL}(h:TuAt H L)(k:Same H H1):TuAt H1 L:=fun q hq=>k _ _ (h q hq)
noncomputable def ze6(x y:Nt):Bool:=onl x.l y.l&& !(x.sh&&y.sh)
noncomputable def z20(L:NL)(h:Str):Nat:=L.findIdx fun x=>decide (x.2.h=h)
theorem zfs{L:NL}{h:Str}{x:Addr×Nt}(e:L[z20 L h]? =some x):x.2.h=h:=by
 obtain⟨hl,e'⟩:=xl.mp e
 have:=List.findIdx_getElem (xs:=L) (p:=fun x:Addr×Nt=>decide (x.2.h=h)) (w:=hl)
 unfold z20 at e'
 rw[e']at this
 exact x0c this
theorem zma{L:NL}{h:Str}{m:Nat}{x:Addr×Nt}(hm:m<z20 L h)(e:L[m]? =some x):x.2.h≠h:=by
 obtain⟨hl,e'⟩:=xl.mp e
 have:=List.not_of_lt_findIdx hm
 rw[e']at this
 intro z
 rw[z]at this
 simp at this
theorem zkp{L:NL}{h:Str}(hm:∃x∈L,x.2.h=h):z20 L h<L.length:=by
 obtain⟨x,hx,e⟩:=hm
 exact List.findIdx_lt_length_of_exists ⟨x,hx,x05 e⟩
noncomputable def z5l(x:Nt)(L:NL):Str:=((L.find? fun y=>ze6 x y.2).map (·.2.h)).getD ""
noncomputable def z4y(L:NL)(h:Str):Str:=match L[z20 L h]? with
 |none=>""
 |some x=>z5l x.2 (L.take (z20 L h))
noncomputable def zcd:Sp:=fun vs H Q _=>∃(g:Addr)(L:NL)(h:Str),vs=[.ref g,.str h]/\H g=some (.lst (refs L))/\TuAt H L/\(∀z∈L,z.2.l.length<=1000)/\L.length<=60/\z3w H Q (.str (z4y L h))
theorem zmb(F:Def K mg "ahead" zc5 ["row","holder"])(T:Txt K mg ya yc yo yb y9 yd ye yn yp yr yf yg yk yl yi yh ym yj)(y1t:Has P w K mg base 3 "in_way" ["lock","shared","other","other_shared"] (zir)):Has P w K mg base 4 "ahead" ["row","holder"] (zcd):=by
 refine F.ok sc_ahead (fun vs H Q E h=>?_) (fun f cdv A outer s H vs Q E hr h=>?_)
 .obtain⟨g,L,hh,rfl,_⟩:=h
  rfl
 .obtain⟨g,L,hh,rfl,hg,hL,hz,hl,q⟩:=h
  have hu:=hr.units0
  walk_at "%LƓƨŠº0ËĝŴÌ£$vMÍ=űlĬÂÞÄăFúŴ+ȗɸɹɺüŦÿnD.Ŵ+ŵ#4þŶįĨŴ+ŵ#4þŶ¿ťĎ#£è#éÈďŲfA*ŴPXk,ȅßūǣ)±)±»ÏÙ±Į3ÞÄ¢"
  walk_at "rd"
  refine⟨⟨_,SqL.of hg⟩,?_⟩
  refine z14 (xs:=refs L) (by rw[zw];exact zf (by omega)) (fun j acc H'=>H'=H/\acc=((L.take j).map (·.2.h)).map V.str) ⟨rfl,rfl⟩ ?_ ?_ ?_ ?_
  .rintro j acc H' ⟨-,rfl⟩
   rw[x5,x5,x07]
   omega
  .rintro j acc H' ⟨rfl,-⟩
   exact SqL.of hg
  .rintro Nn j acc H' x hN hx hj ⟨rfl,rfl⟩
   obtain⟨y,hy,rfl⟩:=z25 hx
   walk_at "rd"
   refine⟨_,_,_,_,rfl,rfl,SqT.of (hL y (xf hy)),zi (j:=1) rfl,hN _ _ ⟨rfl,?_⟩⟩
   rw[x16,hy]
   simp
  rintro acc H' ⟨rfl,rfl⟩ pn hpn
  rw[zw,x0h]
  have s1:=Same.upd (o:=.lst ((L.map (·.2.h)).map V.str)) hpn
  have g1:upd H' pn (.lst ((L.map (·.2.h)).map V.str)) pn=some (.lst ((L.map (·.2.h)).map V.str)):=z9
  generalize upd H' pn (.lst ((L.map (·.2.h)).map V.str))=H1 at s1 g1⊢
  refine⟨pn,_,rfl,.inl (SqL.of g1),rfl,z1w _,_,rfl,?_⟩
  rw[if_pos rfl,z6r]
  by_cases hm:hh∈L.map (·.2.h)
  .rw[if_neg (by simpa using hm)]
   have hx:∃x∈L,x.2.h=hh:=by simpa using hm
   have hp:=zkp hx
   have hj:L[z20 L hh]? =some L[z20 L hh]:=x8 hp
   generalize L[z20 L hh]=y at hj
   have eA:z4y L hh=z5l y.2 (L.take (z20 L hh)):=by unfold z4y;rw[hj]
   rw[eA]at q
   have eh:=zfs hj
   have hno:∀m,m<z20 L hh->eqV (((L.map (·.2.h)).map V.str).getD m .non) (.str hh)=false:=fun m hm=>by
    have e:L[m]? =some L[m]:=x8 (by omega)
    have:=zma hm e
    rw[xo,xj,xj,e]
    show(_==hh)=false
    simpa using this
   have hyes:eqV (((L.map (·.2.h)).map V.str).getD (z20 L hh) .non) (.str hh)=true:=by
    rw[xo,xj,xj,hj]
    show(_==hh)=true
    simpa using eh
   generalize z20 L hh=k at hp hj hno hyes q
   have gy:(refs L)[k]? =some (.ref y.1):=by unfold refs;rw[xj,hj];rfl
   have hy1:=s1 _ _ (hL y (xf hj))
   have hg1:=s1 _ _ hg
   refine⟨.inl ⟨_,SqL.of g1⟩,pn,_,k,_,rfl,rfl,SqL.of g1,rfl,z1w _,by rw[x5,x5];exact hp,hyes,hno,?_⟩
   refine⟨_,_,_,_,rfl,rfl,SqL.of hg1,zi gy,_,_,_,_,rfl,rfl,SqT.of hy1,zi (j:=2) rfl,?_⟩
   refine⟨_,_,_,_,rfl,rfl,SqL.of hg1,zi gy,_,_,_,_,rfl,rfl,SqT.of hy1,zi (j:=3) rfl,?_⟩
   refine⟨_,rfl,_,_,rfl,SqL.of hg1,fun pk hpk=>?_⟩
   have ec:cutV (refs L) none (some (k:Int))=refs (L.take k):=by rw[zav];unfold refs;rw[List.map_take]
   rw[ec]
   have s2:=s1.trans (Same.upd (o:=.lst (refs (L.take k))) hpk)
   have g2:upd H1 pk (.lst (refs (L.take k))) pk=some (.lst (refs (L.take k))):=z9
   generalize upd H1 pk (.lst (refs (L.take k)))=H2 at s2 g2⊢
   have hM:∀z∈L.take k,z∈L:=fun z hz=>List.mem_of_mem_take hz
   generalize L.take k=M at g2 hM q
   refine⟨pk,rfl,⟨_,SqL.of g2⟩,?_⟩
   refine z1x (xs:=refs M) (fun i σ H3=>Same H2 H3/\(∀z∈M.take i,ze6 y.2 z.2=false)/\∃v6:Option V,σ=[some (V.ref g),some (V.str hh),some (V.ref pn),some (V.int k),some (V.str y.2.l),some (V.bl y.2.sh),v6]) ⟨Same.refl _,(fun z hz=>by cases hz),_,rfl⟩ ?_ ?_ ?_
   .rintro i σ H3-⟨s3,-,-⟩
    exact SqL.of (s3 _ _ g2)
   .rintro Pv hP i x σ H3 hx ⟨s3,hb,v6,rfl⟩
    obtain⟨z,hzi,rfl⟩:=z25 hx
    have mz:=xf hzi
    have hz1:=s3 _ _ (s2 _ _ (hL z (hM z mz)))
    walk_at "rd"
    refine⟨_,_,_,_,rfl,rfl,SqT.of hz1,zi (j:=2) rfl,_,_,_,_,rfl,rfl,SqT.of hz1,zi (j:=3) rfl,?_⟩
    refine⟨_,_,_,_,rfl,hz y (xf hj),hz z (hM z mz),fun H4 s4=>⟨_,rfl,?_⟩⟩
    by_cases c:ze6 y.2 z.2=true
    .rw[if_pos (show(onl y.2.l z.2.l&& !(y.2.sh&&z.2.sh))=true from c)]
     refine⟨_,_,_,_,rfl,rfl,SqT.of (s4 _ _ hz1),zi (j:=1) rfl,?_⟩
     have e:z5l y.2 M=z.2.h:=by
      have hi:i<M.length:=(xl.mp hzi).1
      have sp':M=M.take i++z::M.drop (i+1):=by
       have:=x2f i M
       rw[List.drop_eq_getElem_cons hi]at this
       rw[x8 hi]at hzi
       cases hzi
       exact this.symm
      unfold z5l
      rw[sp',List.find?_append,List.find?_eq_none.mpr (fun x hx=>by rw[hb x hx];exact xm),List.find?_cons_of_pos (p:=fun w:Addr×Nt=>ze6 y.2 w.2) c]
      rfl
     rw[<-e]
     exact q _ (s2.trans (s3.trans s4))
    .rw[if_neg (show¬(onl y.2.l z.2.l&& !(y.2.sh&&z.2.sh))=true from c)]
     refine hP _ _ _ ⟨s3.trans s4,fun w hw=>?_,_,rfl⟩
     rw[x16,hzi]at hw
     rcases x02.mp hw with hw|hw
     .exact hb w hw
     .have:w=z:=by simpa using hw
      rw[this]
      simpa using c
   .rintro σ H3 ⟨s3,hb,v6,rfl⟩
    rw[zw,x0h]at hb
    walk_at "rd"
    have e:z5l y.2 M="":=by
     unfold z5l
     rw[List.find?_eq_none.mpr (fun x hx=>by rw[hb x hx];exact xm)]
     rfl
    rw[e]at q
    exact q _ (s2.trans s3)
  .rw[if_pos (by simpa using hm)]
   have e:z4y L hh="":=by
    unfold z4y
    cases e:L[z20 L hh]? with
    |none=>rfl
    |some x=>exact absurd (xw.mpr ⟨x,xf e,zfs e⟩) hm
   rw[e]at q
   exact q _ s1
noncomputable def kLt(a b:Nt):Bool:=zx a.n a.h b.n b.h
noncomputable abbrev tbP(H:Hp)(Pt:Addr):Prop:=TbOk H Pt ⟨205,38,205,66⟩ (Str.ofString "put_in" ++ ".<locals>." ++ "<lambda>")
theorem zbg{a:Addr}{H H1 H2:Hp}(h:But1 a H H1)(k:But1 a H1 H2):But1 a H H2:=fun b o e n=>k b o (h b o e n) n
theorem zhe{a:Addr}{H H1:Hp}(h:Same H H1):But1 a H H1:=fun b o e _=>h b o e
theorem znk{H H1:Hp}{Pt:Addr}(h:But1 Pt H H1)(t:tbP H Pt){b:Addr}{o:HO}(e:H b=some o)(n:∀ps,o≠.tbl ps):H1 b=some o:=h b o e fun z=>by
 obtain⟨ps,hp⟩:=t.some
 rw[z,hp]at e
 cases e
 exact n ps rfl
theorem TuAt.but1{H H1:Hp}{L:NL}{Pt:Addr}(h:TuAt H L)(t:tbP H Pt)(k:But1 Pt H H1):TuAt H1 L:=fun q hq=>znk k t (h q hq) fun _ z=>by cases z
theorem z7h{α:Type}(M:List α)(d:α):(List.range M.length).map (fun n=>M.getD n d)=M:=by
 apply List.ext_getElem
 .simp
 .intro i h1 h2
  simp[xo,x8 h2]
noncomputable def zmv(Pt:Addr):Sp:=fun vs H Q _=>∃(g a:Addr)(L:NL)(x:Nt),vs=[.ref g,.ref a]/\H g=some (.lst (refs L))/\TuAt H (L++[(a,x)])/\L.length<63/\tbP H Pt/\
 ∀(r:Addr)(L':NL)(H':Hp),H' r=some (.lst (refs L'))->L'.Perm (L++[(a,x)])->L'.Pairwise (fun p q=>kLt q.2 p.2=false)->But1 Pt H H'->tbP H' Pt->H r=none->Q (.ref r) H'
theorem zkq(F:DefC K mg "put_in" za3 ["row","asking"] yn)(T:Txt K mg ya yc yo yb y9 yd ye yn yp yr yf yg yk yl yi yh ym yj)(BA:base.BuiltinsAt mg ye):Has P w K mg base 3 "put_in" ["row","asking"] (zmv ye):=by
 refine F.ok zk8 (fun vs H Q E h=>?_) (fun f A outer s H vs Q E hr h=>?_)
 .obtain⟨g,a,L,x,rfl,_⟩:=h
  rfl
 .obtain⟨g,a,L,x,rfl,hg,hL,h63,hT,q⟩:=h
  have hu:=hr.units0
  walk_at "%YȘ;;;øƢŎybŗçöUJ&c(ɻǙ(ƣǚ2<<ĩ<ý®V&"
  walk_at "rd"
  refine⟨zf (by decide),fun p hp=>?_⟩
  have s1:=Same.upd (o:=.lst [V.ref a]) hp
  have g1:upd H p (.lst [V.ref a]) p=some (.lst [V.ref a]):=z9
  generalize upd H p (.lst [V.ref a])=H1 at s1 g1⊢
  refine⟨g,p,_,_,rfl,rfl,s1 _ _ hg,g1,by rw[zw];exact zf (by show _+1<=1000000;omega),fun l hl=>?_⟩
  have s2:=s1.trans (Same.upd (o:=.lst (refs L++[V.ref a])) hl)
  have e2:refs L++[V.ref a]=refs (L++[(a,x)]):=by unfold refs;rw[x04];rfl
  rw[e2]at s2⊢
  have g2:upd H1 l (.lst (refs (L++[(a,x)]))) l=some (.lst (refs (L++[(a,x)]))):=z9
  have lM:(L++[(a,x)]).length<64:=by rw[xt];show _+1<64;omega
  generalize upd H1 l (.lst (refs (L++[(a,x)])))=H2 at s2 g2⊢
  generalize hM:L++[(a,x)]=M at q hL g2 lM
  have eM:(M.map fun z=>(z.1,z.2.vals)).map (fun q=>V.ref q.1)=refs M:=by rw[x0x];rfl
  have lM2:(M.map fun z=>(z.1,z.2.vals)).length=M.length:=x5 _
  refine⟨l,rfl,M.map fun z=>(z.1,z.2.vals),by rw[eM];exact SqL.of g2,by rw[lM2];exact lM,TbOk.mono hT s2,fun n=>(M.getD n (a,x)).2.n,fun n=>(M.getD n (a,x)).2.h,fun n y hy=>?_,fun H3 r p hB hT3 hr0 hp hs=>?_⟩
  .rw[xj]at hy
   cases e:M[n]? with
   |none=>rw[e]at hy;cases hy
   |some z=>
    rw[e]at hy
    cases hy
    refine⟨s2 _ _ (hL z (xf e)),?_,?_⟩
    .show _=some (V.int (M.getD n (a,x)).2.n)
     rw[xo,e];rfl
    .show _=some (V.str (M.getD n (a,x)).2.h)
     rw[xo,e];rfl
  .rw[lM2]at hp
   have hpm:∀n∈p,n<M.length:=fun n hn=>by have:=(hp.mem_iff (a:=n)).mp hn;rwa[x0l]at this
   refine q r (p.map fun n=>M.getD n (a,x)) _ ?_ ?_ ?_ (zbg (zhe s2) (zbg hB (zhe (Same.upd hr0)))) (TbOk.mono hT3 (Same.upd hr0)) ?_
   .rw[z9]
    unfold refs
    rw[x0x]
    refine x12 (fun z=>some (HO.lst z)) (x2o fun n hn=>?_)
    have hn':=hpm n hn
    rw[xj,x8 hn']
    show V.ref _=V.ref _
    simp[xo,x8 hn']
   .have:=hp.map (fun n=>M.getD n (a,x))
    rwa[z7h]at this
   .rw[x2a]
    exact hs
   .cases e:H r with
    |none=>rfl
    |some o=>
     have:=hB r o (s2 _ _ e)
     by_cases z:r=ye
     .obtain⟨ps,hps⟩:=hT3.some
      rw[<-z,hr0]at hps
      cases hps
     .rw[this z]at hr0
      cases hr0
noncomputable def spAt(K:PySem.W.Frag):Sp:=fun vs H Q _=>∃(p:Addr)(ns:List Int)(k:Nat),vs=[.ref p,.int k]/\SqL K H p (ns.map V.int)/\ns.length<=1000/\Q (.int (ns.getD k 0)) H
theorem zix(F:Def K mg "_law_at" z8c ["_law_script","_law_k"])(T:Txt K mg ya yc yo yb y9 yd ye yn yp yr yf yg yk yl yi yh ym yj):Has P w K mg base 1 "_law_at" ["_law_script","_law_k"] (spAt K):=by
 refine F.ok zio (fun vs H Q E h=>?_) (fun f cdv A outer s H vs Q E hr h=>?_)
 .obtain⟨p,ns,k,rfl,_⟩:=h
  rfl
 .obtain⟨p,ns,k,rfl,hp,hl,q⟩:=h
  walk_at "%ėŋ~ŷE:¾#4«¬1ÃĄ/1"
  walk_at "rd"
  refine⟨_,.inl hp,?_⟩
  rw[x5]
  by_cases hk:k<ns.length
  .rw[if_pos (by simpa using hk)]
   refine⟨p,_,_,_,rfl,rfl,hp,zi (v:=.int (ns.getD k 0)) ?_,q⟩
   rw[xj,xo,x8 hk]
   rfl
  .rw[if_neg (by simpa using hk)]
   have e:ns.getD k 0=0:=by rw[xo,x1f (by omega)];rfl
   rw[<-e]
   exact q
noncomputable def abc:Str:="abcdefghijklmnopqrstuvwxyz0123456789"
theorem zhf:∀n,n<36->∃c,abc.cps.toList[n]? =some c:=by
 intro n hn
 have l:abc.cps.toList.length=36:=by decide+kernel
 exact⟨_,x8 (by omega)⟩
theorem zog{d:Nat}{n:Nat}(h:n<=100):MulOk ⟨#[d]⟩ (n:Int):=by
 have f:∀m:_root_.Fin 101,(decide ((m.val:Int)<1)||(decide (¬((1:Int)>(2 ^ 63-1)/(m.val:Int)))&&(Builtin.Str.tooLong (1*m.val)==false)))=true:=by decide+kernel
 have g:=f ⟨n,by omega⟩
 dsimp only at g
 rw[Bool.or_eq_true,x0y]at g
 have l:(⟨#[d]⟩:Str).length=1:=rfl
 refine⟨?_,fun h1 _=>?_,fun h1 _=>?_⟩
 .rw[Bool.or_eq_false_iff]
  exact⟨x0j (by omega),x0j (by omega)⟩
 .rcases g with g|g
  .exact absurd (x0c g) h1
  .rw[l]
   exact x0c g.1
 .rcases g with g|g
  .exact absurd (x0c g) h1
  .rw[l,x0z]
   exact eq_of_beq g.2
theorem zft(d:Nat):∀(m:Nat)(acc:Array Nat),((List.replicate m #[d]).foldl (·++·) acc).size=acc.size+m
 |0,acc=>rfl
 |m+1,acc=>by
  rw[x1u,x21,zft d m,Array.size_append]
  show acc.size+1+m=_
  omega
theorem zce(d n:Nat):(Txt.mul ⟨#[d]⟩ (n:Int)).length=n:=by
 unfold Txt.mul
 by_cases h1:(n:Int)<1
 .rw[if_pos h1]
  have:n=0:=by omega
  subst this
  rfl
 .rw[if_neg h1]
  by_cases h2:n=1
  .subst h2
   rfl
  .rw[if_neg (by simp;exact⟨by omega,by show¬(1=0);decide⟩)]
   show((List.replicate (n:Int).toNat #[d]).foldl (·++·) #[]).size=n
   rw[zft,x0z]
   show 0+n=n
   omega
noncomputable def z5x(c:Nat):Bool:=decide (c∈abc.cps.toList)
noncomputable def z18(z:Str):Bool:=decide (1<=z.length)&&decide (z.length<=8)&&z.cps.toList.all z5x
noncomputable def zfu:Sp:=fun vs H Q _=>∃z:Str,vs=[.str z]/\z.length<=1000/\z3w H Q (.bl (z18 z))
theorem zfv(F:Def K mg "good_name" z6a ["text"])(T:Txt K mg ya yc yo yb y9 yd ye yn yp yr yf yg yk yl yi yh ym yj):Has P w K mg base 1 "good_name" ["text"] (zfu):=by
  refine F.ok zfh (fun vs H Q E h=>?_) (fun f cdv A outer s H vs Q E hr h=>?_)
  · obtain⟨z,rfl,_⟩:=h
    rfl
  · obtain⟨z,rfl,hz,k⟩:=h
    walk_at "%YìǤŞ/#ąɼƠǡàO9ɽÅÂ$·áɾě#ɿR£$vƩʀçșʁʂ9ʃÅÂ3C?"
    walk_at "rd"
    refine⟨zf (by omega),?_⟩
    refine ite2 (fun h1=>?_) (fun h1=>?_)
    · have h1 : 1 ≤ z.length := by have:(1:Int)<=z.length:=by simpa using h1
                                   omega
      refine ite2 (fun h8=>?_) (fun h8=>?_)
      · have h8 : z.length ≤ 8 := by have:(z.length:Int)<=8:=by simpa using h8
                                     omega
        refine zi4 (zf (by show z.length<=_;omega)) (fun i acc H'=>acc=((z.cps.toList.take i).map z5x).map V.bl/\H'=H) ⟨rfl,rfl⟩ (fun i acc H' ⟨e,_⟩=>by rw[e,x5,x5,x07];omega) ?_ ?_
        · rintro Nt i acc H' c hN hc hi ⟨rfl,rfl⟩
          walk_at "rd"
          refine hN _ _ ⟨?_,rfl⟩
          have e:=PySem.StrLaws.found_one abc c
          have e':(!(Builtin.Str.occurrences abc ⟨#[c]⟩ 0 abc.length 1).isEmpty)=z5x c:=e
          show _++[V.bl (!(Builtin.Str.occurrences abc ⟨#[c]⟩ 0 abc.length 1).isEmpty)]=_
          rw[e',x16,show z.cps.toList[i]? =some c by simpa using hc]
          simp
        · rintro acc H' ⟨rfl,rfl⟩ p hp
          refine⟨p,rfl,z.cps.toList.map z5x,SqL.of ?_,?_⟩
          . rw[z9,x0d (by simp)]
          . have e:(List.map z5x z.cps.toList).all id=z18 z:=by
              unfold z18
              rw[x05 h1,x05 h8,List.all_map]
              rfl
            rw[e]
            exact k _ (Same.upd hp)
      · have h8 : ¬ z.length ≤ 8 := by have:¬(z.length:Int)<=8:=by simpa using h8
                                       omega
        have e:z18 z=false:=by unfold z18;rw[x0j h8,Bool.and_false,x2j]
        rw[<-e]
        exact k _ (Same.refl _)
    · have h1 : ¬ 1 ≤ z.length := by have:¬(1:Int)<=z.length:=by simpa using h1
                                     omega
      have e:z18 z=false:=by unfold z18;rw[x0j h1,x2j,x2j]
      rw[<-e]
      exact k _ (Same.refl _)
theorem zbh(y:Str):∀(x:Str)(ns:List Str),(Str.join y (x::ns)).length+y.length=((x::ns).map (·.length)).sum+(ns.length+1)*y.length
 |x,[]=>by
  show x.length+y.length=x.length+0+(0+1)*y.length
  omega
 |x,x2::r=>by
  have ih:=zbh y x2 r
  show(x++y++Str.join y (x2::r)).length+y.length=_
  rw[x2m,x2m,x0a,x2s]
  show _=_+((r.length+1)+1)*y.length
  rw[Nat.add_mul (r.length+1) 1,Nat.one_mul]
  omega
theorem z8j(z:Str):((sp z).map (·.length)).sum+(sp z).length<=z.length+1:=by
 have h:=PySem.StrLaws.join_split z "/"
 have l:("/":Str).length=1:=rfl
 unfold sp
 cases e:Txt.split z "/" with
 |nil=>simp
 |cons x r=>
  have q:=zbh "/" x r
  rw[e]at h
  rw[h,l,Nat.mul_one]at q
  show _+(r.length+1)<=_
  omega
noncomputable def z3g(z:Str):Bool:=decide ((sp z).length<=4)&&(sp z).all z18
theorem zoh(z:Str):(sp z).length<=z.length+1:=by
 have:=z8j z
 omega
theorem zkr:∀{l:List Nat}{x:Nat},x∈l->x<=l.sum
 |[],_,h=>by cases h
 |a::l,x,h=>by
  rw[x2s]
  rcases xk.mp h with rfl|h
  .omega
  .have:=zkr h
   omega
theorem znl(z:Str):∀p∈sp z,p.length<=z.length:=by
 intro p hp
 have h:=z8j z
 have h1:p.length<=((sp z).map (·.length)).sum:=zkr (xw.mpr ⟨p,hp,rfl⟩)
 have h2:1<=(sp z).length:=List.length_pos_of_mem hp
 omega
noncomputable def zbi:Sp:=fun vs H Q _=>∃z:Str,vs=[.str z]/\z.length<=1000/\z3w H Q (.bl (z3g z))
theorem zfw(F:Def K mg "good_path" z6b ["text"])(T:Txt K mg ya yc yo yb y9 yd ye yn yp yr yf yg yk yl yi yh ym yj)(y18:Has P w K mg base 1 "good_name" ["text"] (zfu)):Has P w K mg base 2 "good_path" ["text"] (zbi):=by
 refine F.ok sc_good_path (fun vs H Q E h=>?_) (fun f cdv A outer s H vs Q E hr h=>?_)
 .obtain⟨z,rfl,_⟩:=h
  rfl
 .obtain⟨z,rfl,hz,k⟩:=h
  walk_at "%×-.ʄ+ƐǂǃǄǅçŅƑpİƩę#ĆzàD9ʅÅ$E·áƪı-°,ǥćâØCÝ"
  walk_at "rd"
  refine zbt rfl (by omega) fun p hp=>⟨p,rfl,_,.inl (SqL.of z9),?_⟩
  rw[x5]
  have l1:=zoh z
  refine ite2 (fun h4=>?_) (fun h4=>?_)
  .have h4:(sp z).length<=4:=by
    have:((Txt.split z "/").length:Int)<=4:=by simpa using h4
    show(Txt.split z "/").length<=4
    omega
   refine⟨p,rfl,⟨_,SqL.of z9⟩,?_⟩
   refine z14 (xs:=(sp z).map V.str) (by rw[x5];exact zf (by omega)) (fun i acc H'=>acc=(((sp z).take i).map z18).map V.bl/\Same H H'/\H' p=some (.lst ((sp z).map V.str))) ⟨rfl,Same.upd hp,z9⟩ (fun i acc H' ⟨e,_⟩=>by rw[e,x5,x5,x07];omega) (fun i acc H' ⟨_,_,h⟩=>SqL.of h) ?_ ?_
   .rintro Nt i acc H' x hN hx hi ⟨rfl,sm,hp'⟩
    rw[xj]at hx
    cases e:(sp z)[i]? with
    |none=>rw[e]at hx;cases hx
    |some y=>
     rw[e]at hx
     obtain rfl:V.str y=x:=xq hx
     walk_at "rd"
     have hy:=znl z y (xf e)
     refine⟨y,rfl,by omega,fun H2 s2=>hN _ _ ⟨?_,sm.trans s2,s2 _ _ hp'⟩⟩
     rw[x16,e]
     simp
   .rintro acc H' ⟨rfl,sm,hp'⟩ q hq
    refine⟨q,rfl,(sp z).map z18,SqL.of ?_,?_⟩
    .rw[z9,x5,x0d (xi _)]
    .have e:((sp z).map z18).all id=z3g z:=by
      unfold z3g
      rw[x05 h4,List.all_map]
      rfl
     rw[e]
     exact k _ (sm.trans (Same.upd hq))
  .have h4:¬(sp z).length<=4:=by
    have:¬((Txt.split z "/").length:Int)<=4:=by simpa using h4
    show¬(Txt.split z "/").length<=4
    omega
   have e:z3g z=false:=by unfold z3g;rw[x0j h4,x2j]
   rw[<-e]
   exact k _ (Same.upd hp)
noncomputable def sgc(j:Int):Nat:=abc.cps.toList.getD (j%36).toNat 0
theorem zoi(j:Int):atI abc.cps.toList (j%36)=some (sgc j):=by
 have h0:0<=j%36:=by omega
 have h1:j%36<36:=by omega
 have e:(((j%36).toNat:Nat):Int)=j%36:=by omega
 obtain⟨c,hc⟩:=zhf (j%36).toNat (by omega)
 have:=zi hc
 rw[e]at this
 rw[this]
 unfold sgc
 rw[xo,hc]
 rfl
theorem znm{i j:Int}(h:sgc i=sgc j):i%36=j%36:=by
 have f:∀a b:_root_.Fin 36,(abc.cps.toList.getD a.val 0==abc.cps.toList.getD b.val 0)=(a.val==b.val):=by decide+kernel
 have g:=f ⟨(i%36).toNat,by omega⟩ ⟨(j%36).toNat,by omega⟩
 dsimp only at g
 unfold sgc at h
 rw[h]at g
 have e:(i%36).toNat=(j%36).toNat:=by
  have:((i%36).toNat==(j%36).toNat)=true:=by rw[<-g];simp
  exact eq_of_beq this
 omega
noncomputable def Tag(c:Int)(k:Nat)(z:Str):Prop:=
 (c%3=2/\k<8/\z.length=k+1/\z.cps.toList[0]? =some (sgc (c/3)))\/
 (c%3=2/\8<=k/\z.length=k-6/\z.cps.toList[0]? =some (sgc (c/3+1)))\/
 (c%3=1/\z.cps.toList[0]? =some (sgc (c/3+7*k)))\/
 (c%3=0/\z.cps.toList[(c/3/8%(1+c/3%8)).toNat]? =some (sgc (c/3/2304+7*k)))
theorem Tag.ne{c:Int}{k k':Nat}{z:Str}(h:Tag c k z)(h':Tag c k' z)(b:k<=9)(b':k'<=9):k=k':=by
  have key:∀i j:Int,sgc i=sgc j->i%36=j%36:=fun _ _ e=>znm e
  rcases h with⟨m,h1,h2,h3⟩|⟨m,h1,h2,h3⟩|⟨m,h3⟩|⟨m,h3⟩<;>rcases h' with⟨m',g1,g2,g3⟩|⟨m',g1,g2,g3⟩|⟨m',g3⟩|⟨m',g3⟩<;>
    first
    |omega
    | (rw[h3]at g3
       have e:=key _ _ (xq g3)
       omega)
theorem zhg(d n:Nat):(Txt.mul ⟨#[d]⟩ (n:Int)).cps.toList=List.replicate n d:=by
 unfold Txt.mul
 by_cases h1:(n:Int)<1
 .rw[if_pos h1]
  have:n=0:=by omega
  subst this
  rfl
 .rw[if_neg h1]
  by_cases h2:n=1
  .subst h2
   rfl
  .rw[if_neg (by simp;exact⟨by omega,by show¬(1=0);decide⟩)]
   show((List.replicate (n:Int).toNat #[d]).foldl (·++·) #[]).toList=_
   rw[x0z]
   have f:∀(m:Nat)(acc:Array Nat),((List.replicate m #[d]).foldl (·++·) acc).toList=acc.toList++List.replicate m d:=by
    intro m
    induction m with
    |zero=>intro acc;simp
    |succ m ih=>
     intro acc
     rw[x1u,x21,ih,Array.toList_append,x1u]
     simp
   rw[f]
   simp
noncomputable def GS(z:Str):Prop:=∀c∈z.cps.toList,c∈abc.cps.toList
theorem zmc(z:Str)(u:Option Int)(h:GS z):GS (Txt.slice z none u):=by
 unfold Txt.slice
 split
 .exact h
 .intro c m
  have m':c∈List.filterMap (fun i=>z.cps[i]?) (Builtin.Str.strSliceIndices none u 1 z.length):=by simpa using m
  obtain⟨i,_,hi⟩:=List.mem_filterMap.mp m'
  exact h c (Array.mem_toList_iff.mpr (Array.mem_of_getElem? hi))
theorem zcf(a b:Str):(a++b).cps.toList=a.cps.toList++b.cps.toList:=by rw[PySem.Str.cps_append,Array.toList_append]
theorem GS.app{a b:Str}(ha:GS a)(hb:GS b):GS (a++b):=fun c m=>by
 rw[zcf]at m
 rcases x02.mp m with m|m
 .exact ha c m
 .exact hb c m
theorem zfx(j:Int):GS ⟨#[sgc j]⟩:=fun c m=>by
 have e:c=sgc j:=by simpa using m
 obtain⟨c',hc⟩:=zhf (j%36).toNat (by omega)
 have e2:sgc j=c':=by
  unfold sgc
  rw[xo,hc]
  rfl
 rw[e,e2]
 exact xf hc
theorem GS.good{z:Str}(h:GS z)(h1:1<=z.length)(h8:z.length<=8):z18 z=true:=by
 unfold z18
 rw[x05 h1,x05 h8]
 simp only[Bool.and_self,Bool.true_and,x2u]
 exact fun c m=>x05 (h c m)
noncomputable def zks:Sp:=fun vs H Q _=>∃(c:Int)(k:Nat),vs=[.int c,.int k]/\k<=7/\∀z:Str,Tag c k z->z18 z=true->Q (.str z) H
theorem zfy(F:Def K mg "_law_name" z6f ["_law_cell","_law_k"])(T:Txt K mg ya yc yo yb y9 yd ye yn yp yr yf yg yk yl yi yh ym yj):Has P w K mg base 1 "_law_name" ["_law_cell","_law_k"] (zks):=by
 refine F.ok sc__law_name (fun vs H Q E h=>?_) (fun f cdv A outer s H vs Q E hr h=>?_)
 .obtain⟨c,k,rfl,_⟩:=h
  rfl
 .obtain⟨c,k,rfl,hk,q⟩:=h
  have hu:=hr.units0
  walk_at "%čƫÖ'ÄnúĲÔ#¤¿=āo¤8Ÿ:bʆ#ŹǦųźĳ¬$½l8?Ã=āo¤8Ÿ:bȚ#ŹǦųo½ûĤƬ/l&8¬$țʇÄè#éÈoÓÔĳĤƬ/l&8?ăFD.ĲĠźĳ&nĨĲoÔĳhD&nţƫÖ'Äp>ĭŻ#ūŜfS*ƫPFO.ĲÓÔĳĤƬ/Ě&¿ƥiż`ǧĚhH$EKīO.ĲÓÔĳĤƬ/l&ĀÛ'ăKīţĲbȚǨ$ŹǦųź²O8¬&ÚŚÙNA¢1"
  walk_at "rd"
  have sgn:∀(j:Int) (R:VK),R (.str ⟨#[sgc j]⟩) H->rIxS (V.str "abcdefghijklmnopqrstuvwxyz0123456789") (V.int (j%36)) H R:=fun j R k=>⟨abc,_,_,rfl,rfl,by decide,zoi j,k⟩
  refine⟨cdiv (by decide) (by decide),by decide,rfl,ite2 (fun m2=>?_) (fun m2=>⟨by decide,rfl,ite2 (fun m1=>?_) (fun m1=>?_)⟩)⟩
  .have e7:(k:Int)+1=((k+1:Nat):Int):=by omega
   have h8':k<8:=by omega
   rw[e7]
   refine⟨by decide,sgn _ _ ⟨_,rfl,zog (by omega),q _ (.inl ⟨x0c m2,h8',?_,?_⟩) (GS.good ?_ ?_ ?_)⟩⟩
   .rw[zce]
   .rw[zhg]
    rfl
   .intro c' h
    rw[zhg]at h
    rw[List.eq_of_mem_replicate h]
    exact zfx (c/3) _ (by simp)
   .rw[zce]
    omega
   .rw[zce]
    omega
  .have l7:∀ u,(Txt.slice ("k0stemz":Str) none u).length<=7:=fun u=>Txt.slice_le _ _ _
   have n7:GS ("k0stemz":Str):=by unfold GS;decide+kernel
   refine⟨.inl ⟨by decide,by decide⟩,by decide,sgn _ _ ⟨cdiv (by decide) (by decide),.inl ⟨by decide,by decide⟩,by decide,by decide,_,rfl,?_,q _ (.inr (.inr (.inl ⟨x0c m1,?_⟩))) (GS.good ((zfx _).app (zmc _ _ n7)) ?_ ?_)⟩⟩
   .have:=l7 (some ((c/3/36+3*(k:Int))%8))
    exact zf (by show 1+_<=_;omega)
   .rw[zcf]
    rfl
   .rw[x2m]
    show 1<=1+_
    omega
   .have:=l7 (some ((c/3/36+3*(k:Int))%8))
    rw[x2m]
    show 1+_<=_
    omega
  .have hm0:c%3=0:=by
    have a2:¬ c%3=2:=by simpa using m2
    have a1:¬ c%3=1:=by simpa using m1
    omega
   have hs0:=Int.emod_nonneg (c/3/8) (b:=1+c/3%8) (by omega)
   have hs1:=Int.emod_lt_of_pos (c/3/8) (b:=1+c/3%8) (by omega)
   refine⟨by decide,cdiv (by decide) (by decide),by omega,⟨by omega,by omega⟩,?_⟩
   generalize hspot:c/3/8%(1+c/3%8)=spot at hs0 hs1
   refine z53 (fun i σ H'=>H'=H/\∃(z:Str) (v v':Option V),σ=[some (V.int c),some (V.int k),some (V.str "abcdefghijklmnopqrstuvwxyz0123456789"),some (V.int (c/3)),some (V.int (1+c/3%8)),some (V.int spot),some (V.str z),v,v']/\z.length=i/\GS z/\(spot<i->z.cps.toList[spot.toNat]? =some (sgc (c/3/2304+7*k)))) ⟨rfl,_,_,_,rfl,rfl,(by intro c h;cases h),fun h=>by omega⟩ ?_ ?_
   .rintro Pv hP i σ H' hi ⟨rfl,z,v,v',rfl,hz,h47,hsp⟩
    walk_at "rd"
    refine⟨cdiv (by decide) (by decide),.inl ⟨by decide,by decide⟩,?_⟩
    refine zou (fun σ H2=>H'=H2/\∃(r:Int),(spot=i->r=c/3/2304+7*k)/\σ=[some (V.int c),some (V.int k),some (V.str "abcdefghijklmnopqrstuvwxyz0123456789"),some (V.int (c/3)),some (V.int (1+c/3%8)),some (V.int spot),some (V.str z),some (V.int (0+i)),some (V.int r)]) (fun Mid hM=>?_) ?_
    .walk_at "rd"
     exact⟨rfl,ite2 (fun _=>⟨cdiv (by decide) (by decide),.inl ⟨by decide,by decide⟩,hM _ _ ⟨rfl,_,fun _=>rfl,rfl⟩⟩) (fun e=>hM _ _ ⟨rfl,_,fun z=>absurd (by rw[z];simp) e,rfl⟩)⟩
    .rintro σ H2 ⟨rfl,r,hrr,rfl⟩
     walk_at "rd"
     have lz:z.cps.toList.length=i:=by rw[<-hz];rfl
     refine⟨by decide,sgn _ _ ⟨_,rfl,zf (by show _+1<=_;omega),hP _ _ _ ⟨rfl,_,_,_,rfl,?_,?_,?_⟩⟩⟩
     .rw[x2m]
      show _+1=_
      omega
     .exact h47.app (zfx _)
     .intro hlt
      rw[zcf]
      by_cases he:spot=i
      .have e2:spot.toNat=z.cps.toList.length:=by omega
       rw[e2,x19 (xi _),Nat.sub_self,hrr he]
       rfl
      .rw[x0u (by omega)]
       exact hsp (by omega)
   .rintro σ H' ⟨rfl,z,v,v',rfl,hz,h47,hsp⟩
    walk_at "rd"
    refine q z (.inr (.inr (.inr ⟨hm0,?_⟩))) (h47.good (by omega) (by omega))
    rw[hspot]
    exact hsp (by omega)
noncomputable def NamesOf(c:Int)(zs:List Str):Prop:=∀i z,zs[i]? =some z->Tag c i z/\z18 z=true
noncomputable def zhh:Sp:=fun vs H Q _=>∃(c:Int)(m:Nat),vs=[.int c,.int m]/\m<=8/\∀(r:Addr)(zs:List Str)(H':Hp),zs.length=m->NamesOf c zs->H r=none->H' r=some (.lst (zs.map V.str))->Same H H'->Q (.ref r) H'
theorem zdu(F:Def K mg "_law_names" z5v ["_law_cell","_law_many"])(T:Txt K mg ya yc yo yb y9 yd ye yn yp yr yf yg yk yl yi yh ym yj)(y1z:Has P w K mg base 1 "_law_name" ["_law_cell","_law_k"] (zks)):Has P w K mg base 2 "_law_names" ["_law_cell","_law_many"] (zhh):=by
 refine F.ok zdt (fun vs H Q E h=>?_) (fun f cdv A outer s H vs Q E hr h=>?_)
 .obtain⟨c,m,rfl,_⟩:=h
  rfl
 .obtain⟨c,m,rfl,hm,q⟩:=h
  have hu:=hr.units0
  walk_at "%YrƭdȜĥïś#UŜv,ʈÉ)4ZØ1"
  walk_at "rd"
  refine⟨⟨by omega,by omega⟩,?_⟩
  rw[x0z]
  refine z4c (zf (by omega)) (fun i acc H'=>H'=H/\∃zs:List Str,acc=zs.map V.str/\zs.length=i/\NamesOf c zs) ⟨rfl,[],rfl,rfl,fun i z h=>by cases h⟩ ?_ ?_ ?_
  .rintro i acc H' ⟨-,zs,rfl,rfl,-⟩
   rw[x5]
   exact xi _
  .rintro Nn i acc H' hN hi ⟨rfl,zs,rfl,hl,hz⟩
   walk_at "rd"
   refine⟨c,i,by simp,by omega,fun z h1 h2=>hN _ _ ⟨rfl,zs++[z],by simp,by simp[hl],?_⟩⟩
   intro j y hy
   by_cases hj:j<zs.length
   .rw[x0u hj]at hy
    exact hz j y hy
   .have hj2:j=i:=by
     have:=(xl.mp hy).1
     rw[xt]at this
     have:j<zs.length+1:=this
     omega
    subst hj2
    rw[x19 (by omega),hl,Nat.sub_self]at hy
    have:y=z:=by simpa using hy.symm
    rw[this]
    exact⟨h1,h2⟩
  .rintro acc H' ⟨rfl,zs,rfl,hl,hz⟩ p hp
   exact q p zs _ hl hz hp z9 (Same.upd hp)
theorem NamesOf.nd{c:Int}{zs:List Str}(h:NamesOf c zs)(hl:zs.length<=8):zs.Nodup:=by
 refine x0w.mpr fun i j hi hj hij e=>?_
 have a:=(h i _ (x8 hi)).1
 rw[e]at a
 have:=a.ne (h j _ (x8 hj)).1 (by omega) (by omega)
 omega
theorem NamesOf.all{c:Int}{zs:List Str}(h:NamesOf c zs):∀z∈zs,z18 z=true:=fun z m=>by
 obtain⟨i,hi⟩:=List.getElem?_of_mem m
 exact(h i z hi).2
theorem zmd{z:Str}(h:z18 z=true):z.length<=8:=by
 unfold z18 at h
 simp only[x0y,x0s]at h
 exact h.1.2
noncomputable def BtA(L:List Addr)(H H':Hp):Prop:=∀b o,H b=some o->b∉L->H' b=some o
theorem BtA.of{L:List Addr}{H H':Hp}(s:Same H H'):BtA L H H':=fun b o e _=>s b o e
theorem BtA.trans{L:List Addr}{H H' H2:Hp}(a:BtA L H H')(b:BtA L H' H2):BtA L H H2:=fun c o e n=>b c o (a c o e n) n
theorem BtA.sub{L L':List Addr}{H H':Hp}(a:BtA L H H')(s:∀x∈L,x∈L'):BtA L' H H':=fun c o e n=>a c o e fun m=>n (s c m)
theorem BtA.upd(H:Hp)(p:Addr)(o:HO):BtA [p] H (upd H p o):=fun c u e n=>by rw[zc (fun z=>n (by rw[z];simp))];exact e
theorem KAt.keep{C:Addr}{H H':Hp}{k l:Addr}{s:KN}{L:List Addr}(h:KAt C H k l s)(b:BtA L H H')(nk:k∉L)(nl:l∉L)(nt:∀p∈L,∀vs,H p≠some (.tup vs)):KAt C H' k l s:=by
 obtain⟨⟨dx,z⟩,M,e,⟨dx',l',h1,h2⟩,hn',hl⟩:=h
 have el:l'=l:=by
  rw[z]at h1
  injection h1 with h1
  injection h1 with a b c
  exact(zfo c).symm
 subst el
 exact⟨⟨dx,b _ _ z nk⟩,M,e,⟨dx',l',b _ _ h1 nk,b _ _ h2 nl⟩,⟨fun q hq=>b _ _ (hn'.tu q hq) fun m=>nt _ m _ (hn'.tu q hq),hn'.sm⟩,hl⟩
theorem CAt.keep{CC CK:Addr}{H H':Hp}{c l:Addr}{ks ls:List Addr}{ss:List KN}{L:List Addr}(h:CAt CC CK H c l ks ls ss)(b:BtA L H H')(nc:c∉L)(nl:l∉L)(nk:∀k∈ks,k∉L)(ns:∀k∈ls,k∉L)(nt:∀p∈L,∀vs,H p≠some (.tup vs)):CAt CC CK H' c l ks ls ss:=by
 obtain⟨⟨dx,h1⟩,h2,h3,h4,h5,h6,h7⟩:=h
 refine⟨⟨dx,b _ _ h1 nc⟩,b _ _ h2 nl,fun i k e=>?_,h4,h5,h6,h7⟩
 obtain⟨u,l',e1,e2,e3⟩:=h3 i k e
 exact⟨u,l',e1,e2,e3.keep b (nk _ (xf e)) (ns _ (xf e2)) nt⟩
noncomputable def wf(now:Int)(c lh ll lsh st ca wa as:Addr)(n:Int)(lo en:Addr):List (Str×V):=
 [("now",.int now),("council",.ref c),("holders",.ref lh),("locks",.ref ll),("shareable",.ref lsh),("stores",.ref st),("carries",.ref ca),("waiting",.ref wa),("asleep_since",.ref as),("pauses",.int n),("logged",.ref lo),("ends",.ref en)]
noncomputable def spSI(C:Addr):Sp:=fun vs H Q _=>∃(k dx:Addr),vs=[.ref k]/\H k=some (.ins C dx [])/\∀(H':Hp),(∃ l,H' k=some (.ins C dx [("top",.int 0),("kept",.ref l)])/\H' l=some (.lst [])/\H l=none)->(∀ b o,H b=some o->b≠k->H' b=some o)->Q .non H'
theorem z97(F:KDef K yo "Store.__init__" z44 ["self"])(T:Txt K mg ya yc yo yb y9 yd ye yn yp yr yf yg yk yl yi yh ym yj):KHas P w K mg base 1 yo ["self"] (spSI yo):=by
 refine F.ok z93 (fun vs H Q E h=>?_) (fun f cdv A outer s H vs Q E hr h=>?_)
 .obtain⟨k,dx,rfl,_⟩:=h
  rfl
 .obtain⟨k,dx,rfl,hk,q⟩:=h
  walk_at "%L¸¤qîĐ'&"
  walk_at "rd"
  refine⟨_,_,_,hk,T.cl_Store,T.n_Store_top,by decide,x08 _,fun p hp=>?_⟩
  have nkp:k≠p:=zh z9 hp
  refine⟨_,_,_,by rw[zc nkp,z9],T.cl_Store,T.n_Store_kept,by show(1:Nat)<1000;decide,?_⟩
  refine q _ ⟨p,z9,by rw[zc nkp.symm,z9],?_⟩ fun b o e nb=>?_
  .rw[zc nkp.symm]at hp
   exact hp
  .have nbp:b≠p:=fun z=>by
    subst z
    rw[zc nb,e]at hp
    cases hp
   rw[zc nb,zc nbp,zc nb]
   exact e
theorem zbj:∀(zs D:List Str),(zs.foldl z1s D).length<=D.length+zs.length
 |[],D=>by simp
 |z::zs,D=>by
  have:=zbj zs (z1s D z)
  have h:(z1s D z).length<=D.length+1:=by
   unfold z1s
   split
   .omega
   .simp
  rw[x21,x09]
  omega
theorem z8k:∀(zs D:List Str),D.Nodup->((zs.foldl z1s D).length=D.length+zs.length↔zs.Nodup/\∀z∈zs,z∉D)
 |[],D,_=>by simp
 |z::zs,D,hD=>by
  rw[x21,x09,x0k]
  by_cases h:z∈D
  .have e:z1s D z=D:=by unfold z1s;rw[if_pos h]
   rw[e]
   have:=zbj zs D
   constructor
   .intro x;omega
   .rintro⟨-,x⟩;exact absurd h (x z (xp ..))
  .have e:z1s D z=D++[z]:=by unfold z1s;rw[if_neg h]
   rw[e]
   have ih:=z8k zs (D++[z]) (by
    rw[x2b]
    exact⟨hD,by simp,fun a ha b hb=>by rw[xg.mp hb];rintro rfl;exact h ha⟩)
   rw[xt,x1w]at ih
   have e2:D.length+(zs.length+1)=D.length+1+zs.length:=by omega
   rw[e2,ih]
   constructor
   .rintro⟨a,b⟩
    refine⟨⟨fun m=>b z m (by simp),a⟩,fun y hy=>?_⟩
    rcases xk.mp hy with rfl|hy
    .exact h
    .exact fun m=>b y hy (x0p _ m)
   .rintro⟨⟨a,b⟩,c⟩
    refine⟨b,fun y hy m=>?_⟩
    rcases x02.mp m with m|m
    .exact c y (xx _ hy) m
    .rw[xg.mp m]at hy;exact a hy
theorem zgs(zs:List Str):(gAll zs).length=zs.length↔zs.Nodup:=by
 have:=z8k zs [] x29
 unfold gAll
 simpa using this
noncomputable def zfz:Sp:=fun vs H Q _=>∃(p:Addr)(zs:List Str)(lo hi:Int),vs=[.ref p,.int lo,.int hi]/\H p=some (.lst (zs.map V.str))/\zs.length<=100/\z3w H Q (.bl (decide (lo<=(zs.length:Int))&&decide ((zs.length:Int)<=hi)&&decide (zs.Nodup)))
theorem zdv(F:Def K mg "all_differ" z5r ["texts","least","most"])(T:Txt K mg ya yc yo yb y9 yd ye yn yp yr yf yg yk yl yi yh ym yj):Has P w K mg base 1 "all_differ" ["texts","least","most"] (zfz):=by
 refine F.ok zdq (fun vs H Q E h=>?_) (fun f cdv A outer s H vs Q E hr h=>?_)
 .obtain⟨p,zs,lo,hi,rfl,_⟩:=h
  rfl
 .obtain⟨p,zs,lo,hi,rfl,hp,hl,q⟩:=h
  walk_at "%YìǤŞ~ŷêÂ$ŽąʉƠsĔȂ¦ȃƤ¼ħ_ŷĈ&"
  walk_at "rd"
  refine⟨_,.inl (SqL.of hp),?_⟩
  rw[x5]
  refine ite2 (fun h1=>?_) (fun h1=>?_)
  .have h1:lo<=(zs.length:Int):=x0c h1
   refine ite2 (fun h2=>?_) (fun h2=>?_)
   .have h2:(zs.length:Int)<=hi:=x0c h2
    refine⟨zs,SqL.of hp,by show zs.length+1<4096;omega,fun d hd=>⟨_,z9,_,.inl (SqL.of ((Same.upd hd) _ _ hp)),?_⟩⟩
    have e:=q _ (Same.upd (o:=eso (strKind P w) d (gAll zs)) hd)
    rw[x05 h1,x05 h2,Bool.true_and,Bool.true_and]at e
    rw[x5]
    have e2:decide (((gAll zs).length:Int)=(zs.length:Int))=decide zs.Nodup:=by
     rw[x2d,x0s,x0s,<-zgs zs]
     omega
    rw[e2]
    exact⟨rfl,e⟩
   .have e:=q H (Same.refl _)
    rw[Bool.eq_false_iff.mpr h2,Bool.and_false,x2j]at e
    exact e
  .have e:=q H (Same.refl _)
   rw[Bool.eq_false_iff.mpr h1,x2j,x2j]at e
   exact e
noncomputable def z4a(k:Int)(hs ls ss ts:List Str):Bool:=
  [decide (1<=k)&&decide (k<=5),decide ((1:Int)<=(hs.length:Int))&&decide ((hs.length:Int)<=8)&&decide hs.Nodup,decide ((1:Int)<=(ls.length:Int))&&decide ((ls.length:Int)<=10)&&decide ls.Nodup,
   decide ((0:Int)<=(ss.length:Int))&&decide ((ss.length:Int)<=10)&&decide ss.Nodup,decide ((0:Int)<=(ts.length:Int))&&decide ((ts.length:Int)<=4)&&decide ts.Nodup,
   (hs.map z18).all id,(ts.map z18).all id,(ls.map z3g).all id,(ss.map fun z=>decide (z∈ls)).all id].all id
noncomputable def z9h:Sp:=fun vs H Q _=>∃(k:Int)(a b c d:Addr)(hs ls ss ts:List Str),vs=[.int k,.ref a,.ref b,.ref c,.ref d]/\H a=some (.lst (hs.map V.str))/\H b=some (.lst (ls.map V.str))/\H c=some (.lst (ss.map V.str))/\H d=some (.lst (ts.map V.str))/\
 hs.length<=100/\ls.length<=100/\ss.length<=100/\ts.length<=100/\(∀z∈hs,z.length<=1000)/\(∀z∈ls,z.length<=1000)/\(∀z∈ts,z.length<=1000)/\z3w H Q (.bl (z4a k hs ls ss ts))
theorem zdw(F:Def K mg "good_setup" z5s ["keepers","holders","locks","shared","stores"])(T:Txt K mg ya yc yo yb y9 yd ye yn yp yr yf yg yk yl yi yh ym yj)(y18:Has P w K mg base 1 "good_name" ["text"] (zfu))(y24:Has P w K mg base 2 "good_path" ["text"] (zbi))(y1b:Has P w K mg base 1 "all_differ" ["texts","least","most"] (zfz)):Has P w K mg base 3 "good_setup" ["keepers","holders","locks","shared","stores"] (z9h):=by
 refine F.ok zdr (fun vs H Q E h=>?_) (fun f cdv A outer s H vs Q E hr h=>?_)
 .obtain⟨k,a,b,c,d,hs,ls,ss,ts,rfl,_⟩:=h
  rfl
 .obtain⟨k,a,b,c,d,hs,ls,ss,ts,rfl,ha,hb,hc,hd,l1,l2,l3,l4,n1,n2,n3,q⟩:=h
  have hu:=hr.units0
  walk_at "%Yȝsö7ǤŞ/çàH9ʊÅÂ),ƮÉ$žàO9ʋÅĴſ,Ʈßĉ$žàƀ9ȞÅĴſ,ƮßgI$žàƀ9ȞÅĴſ,Ʈßū$žàD9ʌÅĴſáƪı-°,ǥćâØz7áƪıD°,ǥćâØz7áȟı0°,ʍćâØz7áȟdʎ^0ïŐI°ƒµʏa$4«Â3¼÷÷C&"
  walk_at "rd"
  have bl:∀(a:Addr)(zs:List Str)(H0:Hp)(f:Str->Bool)(te:TE)(σ:St)(R:VK)(js:List Nat),H0 a=some (.lst (zs.map V.str))->zs.length<=100->
    (∀(z:Str)(H1:Hp)(R1:VK),z∈zs->Same H0 H1->(∀H2,Same H1 H2->R1 (.bl (f z)) H2)->te (some (.str z)::capt σ js) H1 R1)->
    (∀(p:Addr)(H1:Hp),SqL K H1 p (((zs.map f).map V.bl))->Same H0 H1->R (.ref p) H1)->z3a (Itl K a) tYes te js σ H0 R:=fun a zs H0 f te σ R js hz lz hte hR=>by
   refine z14 (xs:=zs.map V.str) (by rw[x5];exact zf (by omega)) (fun i acc H'=>acc=((zs.take i).map f).map V.bl/\Same H0 H') ⟨rfl,Same.refl _⟩ ?_ ?_ ?_ ?_
   .rintro i acc H' ⟨rfl,-⟩
    rw[x5,x5,x07]
    omega
   .rintro i acc H' ⟨-,sm⟩
    exact SqL.of (sm _ _ hz)
   .rintro Nn i acc H' x hN hx hi ⟨rfl,sm⟩
    rw[xj]at hx
    cases e:zs[i]? with
    |none=>rw[e]at hx;cases hx
    |some z=>
    rw[e]at hx
    cases hx
    simp only[tYes,if_true]
    exact hte z H' _ (xf e) sm fun H2 s2=>hN _ _ ⟨by rw[x16,e];simp,sm.trans s2⟩
   .rintro acc H' ⟨rfl,sm⟩ p hp
    rw[x5,x0h]
    exact hR p _ (SqL.of z9) (sm.trans (Same.upd hp))
  refine ite2 (fun h1=>?_) (fun h1=>?_)
  all_goals
   refine⟨a,hs,1,8,rfl,ha,l1,fun H1 s1=>⟨b,ls,1,10,rfl,s1 _ _ hb,l2,fun H2 s2=>⟨c,ss,0,10,rfl,s2 _ _ (s1 _ _ hc),l3,fun H3 s3=>⟨d,ts,0,4,rfl,s3 _ _ (s2 _ _ (s1 _ _ hd)),l4,fun H4 s4=>?_⟩⟩⟩⟩
   have s14:=((s1.trans s2).trans s3).trans s4
   refine⟨⟨_,SqL.of (s14 _ _ ha)⟩,bl a hs H4 z18 _ _ _ _ (s14 _ _ ha) l1 (fun z H5 R1 hz s5 hR=>?_) fun p5 H5 g5 s5=>⟨p5,rfl,_,g5,⟨_,SqL.of (s5 _ _ (s14 _ _ hd))⟩,?_⟩⟩
   .walk_at "rd"
    exact⟨z,rfl,n1 z hz,fun H6 s6=>hR _ s6⟩
   have s15:=s14.trans s5
   refine bl d ts H5 z18 _ _ _ _ (s15 _ _ hd) l4 (fun z H6 R1 hz s6 hR=>?_) fun p6 H6 g6 s6=>⟨p6,rfl,_,g6,⟨_,SqL.of (s6 _ _ (s15 _ _ hb))⟩,?_⟩
   .walk_at "rd"
    exact⟨z,rfl,n3 z hz,fun H7 s7=>hR _ s7⟩
   have s16:=s15.trans s6
   refine bl b ls H6 z3g _ _ _ _ (s16 _ _ hb) l2 (fun z H7 R1 hz s7 hR=>?_) fun p7 H7 g7 s7=>⟨p7,rfl,_,g7,⟨_,SqL.of (s7 _ _ (s16 _ _ hc))⟩,?_⟩
   .walk_at "rd"
    exact⟨z,rfl,n2 z hz,fun H8 s8=>hR _ s8⟩
   have s17:=s16.trans s7
   refine bl c ss H7 (fun z=>decide (z∈ls)) _ _ _ _ (s17 _ _ hc) l3 (fun z H8 R1 hz s8 hR=>?_) fun p8 H8 g8 s8=>⟨p8,rfl,_,g8,zf (by decide),fun p9 hp9=>?_⟩
   .walk_at "rd"
    refine⟨_,_,rfl,.inl (SqL.of (s8 _ _ (s17 _ _ hb))),rfl,z1w _,?_⟩
    rw[if_neg xm,z6r]
    exact hR _ (Same.refl _)
   have e:=q
   unfold z4a at e
   have sF:=s17.trans s8
  .have h1:1<=k:=x0c h1
   rw[x05 h1,Bool.true_and]at e
   exact⟨_,SqL.of (by rw[z9];rfl),e _ (sF.trans (Same.upd hp9))⟩
  .rw[Bool.eq_false_iff.mpr h1,x2j]at e
   exact⟨_,SqL.of (by rw[z9];rfl),e _ (sF.trans (Same.upd hp9))⟩
noncomputable def Bt(x:Addr)(H H':Hp):Prop:=∀b o,H b=some o->b≠x->H' b=some o
structure WB(CW x dx:Addr)(H0:Hp)(n:Nat)(fs:List (Str×V))(L:List (Addr×HO))(H:Hp):Prop where
 ix:H x=some (.ins CW dx fs)
 len:fs.length<=n
 keep:Bt x H0 H
 objs:∀q∈L,H q.1=some q.2/\H0 q.1=none/\q.1≠x
 nd:(L.map (·.1)).Nodup
theorem WB.put{CW x dx:Addr}{H0 H:Hp}{n:Nat}{fs:List (Str×V)}{L:List (Addr×HO)}(B:WB CW x dx H0 n fs L H)(f:Str)(v:V):WB CW x dx H0 (n+1) (putF f v fs) L (upd H x (.ins CW dx (putF f v fs))):=
 ⟨z9,by have:=z67 f v fs;have:=B.len;omega,fun b o e n=>by rw[zc n];exact B.keep b o e n,fun q m=>by
  obtain⟨h1,h2,h3⟩:=B.objs q m
  exact⟨by rw[zc h3];exact h1,h2,h3⟩,B.nd⟩
theorem WB.step{CW x dx:Addr}{H0 H H':Hp}{n:Nat}{fs:List (Str×V)}{L:List (Addr×HO)}(B:WB CW x dx H0 n fs L H)(s:Same H H'):WB CW x dx H0 n fs L H':=
 ⟨s _ _ B.ix,B.len,fun b o e n=>s _ _ (B.keep b o e n),fun q m=>⟨s _ _ (B.objs q m).1,(B.objs q m).2⟩,B.nd⟩
theorem WB.new{CW x dx:Addr}{H0 H:Hp}{n:Nat}{fs:List (Str×V)}{L:List (Addr×HO)}(B:WB CW x dx H0 n fs L H){p:Addr}(hp:H p=none)(o:HO)(ha:∀o,H0 x=some o->True)(h0:∃o,H0 x=some o):WB CW x dx H0 n fs ((p,o)::L) (upd H p o):=by
 have B':=B.step (Same.upd (o:=o) hp)
 have npx:p≠x:=fun z=>by rw[z,B.ix]at hp;cases hp
 have n0:H0 p=none:=by
  cases e:H0 p with
  |none=>rfl
  |some u=>rw[B.keep p u e npx]at hp;cases hp
 refine⟨B'.ix,B'.len,B'.keep,fun q m=>?_,x0k.mpr ⟨fun m=>?_,B.nd⟩⟩
 .rcases xk.mp m with rfl|m
  .exact⟨z9,n0,npx⟩
  .exact B'.objs q m
 .obtain⟨q,mq,e⟩:=xw.mp m
  have:=(B.objs q mq).1
  rw[e]at this
  rw[show H (p,o).1=none from hp]at this
  cases this
theorem WB.at{CW x dx:Addr}{H0 H:Hp}{n:Nat}{fs:List (Str×V)}{L:List (Addr×HO)}(_:WB CW x dx H0 n fs L H):∃G,G=H:=⟨_,rfl⟩
noncomputable def spWI(CW CC CK:Addr):Sp:=fun vs H Q E=>∃(x dx:Addr)(k:Nat)(a b c d:Addr)(hs ls ss ts:List Str),vs=[.ref x,.int k,.ref a,.ref b,.ref c,.ref d]/\H x=some (.ins CW dx [])/\H a=some (.lst (hs.map V.str))/\H b=some (.lst (ls.map V.str))/\H c=some (.lst (ss.map V.str))/\H d=some (.lst (ts.map V.str))/\
 hs.length<=100/\ls.length<=100/\ss.length<=100/\ts.length<=100/\(∀z∈hs,z.length<=1000)/\(∀z∈ls,z.length<=1000)/\(∀z∈ts,z.length<=1000)/\z4a k hs ls ss ts=true/\
 ∀(H' G:Hp)(co lh ll lsh st ca wa as lo en cl:Addr)(ks lk:List Addr)(dd:List (Key×V)),H' x=some (.ins CW dx (wf 0 co lh ll lsh st ca wa as 0 lo en))->
  (∀q∈[(en,HO.dK []),(lo,.lst []),(as,.dK []),(wa,.lst []),(ca,.dT []),(st,.dK dd),(lsh,.lst (ss.map V.str)),(ll,.lst (ls.map V.str)),(lh,.lst (hs.map V.str))],H' q.1=some q.2/\G q.1=none/\q.1≠x)->[en,lo,as,wa,ca,st,lsh,ll,lh].Nodup->Bt x H G->CAt CC CK G co cl ks lk (z8h k)->CAt CC CK H' co cl ks lk (z8h k)->ks.length=k->x∉ks->x≠co->Bt x G H'->Q .non H'
theorem z98(F:KDef K yb "World.__init__" z45 ["self","keepers","holders","locks","shared","stores"])(T:Txt K mg ya yc yo yb y9 yd ye yn yp yr yf yg yk yl yi yh ym yj)(y1h:KHas P w K mg base 3 ya ["self","many"] (zha ya yc))(y1l:KHas P w K mg base 1 yo ["self"] (spSI yo))(y1y:Has P w K mg base 3 "good_setup" ["keepers","holders","locks","shared","stores"] (z9h)):KHas P w K mg base 5 yb ["self","keepers","holders","locks","shared","stores"] (spWI yb ya yc):=by
 refine F.ok z94 (fun vs H Q E h=>?_) (fun f cdv A outer s H vs Q E hr h=>?_)
 .obtain⟨x,dx,k,a,b,c,d,hs,ls,ss,ts,rfl,_⟩:=h
  rfl
 .obtain⟨x,dx,k,a,b,c,d,hs,ls,ss,ts,rfl,hx,ha,hb,hc,hd,l1,l2,l3,l4,n1,n2,n3,h1,q⟩:=h
  have hu:=hr.units0
  have hu2:=z3l hr
  walk_at "%ėõ,ʐÉŘŔ'ÏĘÐ>¸¤ÆȠƜʑø(ʒ#UâÆĊ¡0CÆĊ¡ICÆĊ¡DCÆĔǝ¦ǞƖƪıH°u4)Ȉ;ʓø(ʔÒQ3CÆʕB%ÆĐ]¸£Ǖ]¸¤ÆĐq¸£Ǖ'¢Ý"
  walk_at "rd"
  refine⟨k,a,b,c,d,hs,ls,ss,ts,rfl,ha,hb,hc,hd,l1,l2,l3,l4,n1,n2,n3,fun H1 s1=>⟨_,rfl,?_⟩⟩
  rw[h1]
  rw[if_neg (by decide)]
  have hk:1<=(k:Int)/\(k:Int)<=5:=by
   unfold z4a at h1
   simp only[List.all_cons,x0y,x0s,id]at h1
   exact h1.1
  have na:a≠x:=fun z=>by rw[z,hx]at ha;cases ha
  have nb:b≠x:=fun z=>by rw[z,hx]at hb;cases hb
  have nc:c≠x:=fun z=>by rw[z,hx]at hc;cases hc
  have nd:d≠x:=fun z=>by rw[z,hx]at hd;cases hd
  have h0:∃o,H x=some o:=⟨_,hx⟩
  have B:WB yb x dx H 0 [] [] H1:=⟨s1 _ _ hx,x08 _,fun b o e _=>s1 b o e,fun q m=>by simp at m,x29⟩
  refine⟨_,_,_,B.ix,T.cl_World,T.n_World_now,by decide,fun xc dc g1 g2 ne=>?_⟩
  have B:=B.put "now" (.int 0)
  obtain⟨G2,hG⟩:=B.at
  rw[<-hG]at B g1 g2⊢
  clear hG
  have B2:=B.step (Same.upd (o:=.own xc) g2)
  have g1':upd G2 dc (.own xc) xc=none:=by rw[zc (Ne.symm ne)];exact g1
  have B3:=B2.step (Same.upd (o:=.ins ya dc []) g1')
  refine⟨xc,dc,k,rfl,by omega,z9,fun cl ks lk G3 hks hcat hk4 f1 f2 f3=>⟨rfl,?_⟩⟩
  have B:=B2.step (fun b o e=>hk4 b o (by rw[zc (zh e g1')];exact e) (zh e g1'))
  have Bold:=B
  have xks:x∉ks:=fun m=>by
   have e:=f1 x m
   rw[B3.ix]at e
   cases e
  have xlk:x∉lk:=fun m=>by
   have e:=f2 x m
   rw[B3.ix]at e
   cases e
  have xco:x≠xc:=fun z=>by
   have e:=B2.ix
   rw[z,g1']at e
   cases e
  have B:WB yb x dx G3 1 (putF (Str.ofString "now") (V.int 0) []) [] G3:=⟨Bold.ix,Bold.len,fun b o e _=>e,fun q m=>by simp at m,x29⟩
  have h0':=h0
  have h0:∃o,G3 x=some o:=⟨_,Bold.ix⟩
  refine⟨_,_,_,B.ix,T.cl_World,T.n_World_council,by have:=B.len;omega,?_⟩
  have B:=B.put "council" (.ref xc)
  obtain⟨G,hG⟩:=B.at
  rw[<-hG]at B⊢
  clear hG
  refine⟨_,.inl (SqL.of (B.keep _ _ (Bold.keep _ _ ha na) na)),fun lh hlh=>?_⟩
  have B:=B.new hlh (.lst (hs.map V.str)) (fun _ _=>trivial) h0
  obtain⟨G,hG⟩:=B.at
  rw[<-hG]at B⊢
  clear hG
  refine⟨_,_,_,B.ix,T.cl_World,T.n_World_holders,by have:=B.len;omega,?_⟩
  have B:=B.put "holders" (.ref lh)
  obtain⟨G,hG⟩:=B.at
  rw[<-hG]at B⊢
  clear hG
  refine⟨_,.inl (SqL.of (B.keep _ _ (Bold.keep _ _ hb nb) nb)),fun ll hll=>?_⟩
  have B:=B.new hll (.lst (ls.map V.str)) (fun _ _=>trivial) h0
  obtain⟨G,hG⟩:=B.at
  rw[<-hG]at B⊢
  clear hG
  refine⟨_,_,_,B.ix,T.cl_World,T.n_World_locks,by have:=B.len;omega,?_⟩
  have B:=B.put "locks" (.ref ll)
  obtain⟨G,hG⟩:=B.at
  rw[<-hG]at B⊢
  clear hG
  refine⟨_,.inl (SqL.of (B.keep _ _ (Bold.keep _ _ hc nc) nc)),fun lsh hlsh=>?_⟩
  have B:=B.new hlsh (.lst (ss.map V.str)) (fun _ _=>trivial) h0
  obtain⟨G,hG⟩:=B.at
  rw[<-hG]at B⊢
  clear hG
  refine⟨_,_,_,B.ix,T.cl_World,T.n_World_shareable,by have:=B.len;omega,?_⟩
  have B:=B.put "shareable" (.ref lsh)
  obtain⟨G10,hG⟩:=B.at
  rw[<-hG]at B⊢
  clear hG
  refine⟨⟨_,SqL.of (B.keep _ _ (Bold.keep _ _ hd nd) nd)⟩,?_⟩
  refine z14 (xs:=ts.map V.str) (by rw[x5];exact zf (by omega)) (fun i acc H'=>∃L:List (Addr×Key×V),acc=L.map (fun q=>V.ref q.1)/\L.length=i/\(∀q∈L,H' q.1=some (.tup [kV q.2.1,q.2.2]))/\Same G10 H') ⟨[],rfl,rfl,by simp,Same.refl _⟩ ?_ ?_ ?_ ?_
  .rintro i acc H' ⟨L,rfl,hl,-,-⟩
   rw[x5,hl]
   omega
  .rintro i acc H' ⟨L,-,-,-,sm⟩
   exact SqL.of (sm _ _ (B.keep _ _ (Bold.keep _ _ hd nd) nd))
  .rintro Nn i acc H' y hN hy hi ⟨L,rfl,hl,hL,sm⟩
   rw[xj]at hy
   cases e:ts[i]? with
   |none=>rw[e]at hy;cases hy
   |some z=>
   rw[e]at hy
   cases hy
   walk_at "rd"
   intro k0 d0 g1 g2 ne0
   refine⟨k0,d0,rfl,z9,fun H3 _ hb3=>⟨rfl,by decide,fun t0 ht0=>?_⟩⟩
   have s3:Same H' H3:=fun b o eb=>by
    have m1:b≠k0:=zh eb g1
    have m2:b≠d0:=zh eb g2
    exact hb3 b o (by rw[zc m1,zc m2];exact eb) m1
   have s4:=s3.trans (Same.upd (o:=.tup [.str z,.ref k0]) ht0)
   refine hN _ _ ⟨L++[(t0,.inr z,.ref k0)],by rw[x04];rfl,by rw[xt,hl];rfl,fun q hq=>?_,sm.trans s4⟩
   rcases x02.mp hq with hq|hq
   .exact s4 _ _ (hL q hq)
   .rw[xg.mp hq]
    exact z9
  rintro acc H11 ⟨L,rfl,hl,hL,sm⟩ p hp
  have B:=(B.step sm).step (Same.upd (o:=.lst (L.map fun q=>V.ref q.1)) hp)
  have hL':∀q∈L,upd H11 p (.lst (L.map fun q=>V.ref q.1)) q.1=some (.tup [kV q.2.1,q.2.2]):=fun q hq=>by
   have e:=hL q hq
   rw[zc (zh e hp)]
   exact e
  refine⟨p,rfl,L,SqL.of z9,hL',fun st hst=>?_⟩
  have B:=B.new hst (.dK (z30 [] (L.map fun q=>q.2))) (fun _ _=>trivial) h0
  obtain⟨G,hG⟩:=B.at
  rw[<-hG]at B⊢
  clear hG
  refine⟨_,_,_,B.ix,T.cl_World,T.n_World_stores,by have:=B.len;omega,?_⟩
  have B:=B.put "stores" (.ref st)
  obtain⟨G,hG⟩:=B.at
  rw[<-hG]at B⊢
  clear hG
  refine fun ca hca=>?_
  have B:=B.new hca (.dT []) (fun _ _=>trivial) h0
  obtain⟨G,hG⟩:=B.at
  rw[<-hG]at B⊢
  clear hG
  refine⟨_,_,_,B.ix,T.cl_World,T.n_World_carries,by have:=B.len;omega,?_⟩
  have B:=B.put "carries" (.ref ca)
  obtain⟨G,hG⟩:=B.at
  rw[<-hG]at B⊢
  clear hG
  refine⟨by decide,fun wa hwa=>?_⟩
  have B:=B.new hwa (.lst []) (fun _ _=>trivial) h0
  obtain⟨G,hG⟩:=B.at
  rw[<-hG]at B⊢
  clear hG
  refine⟨_,_,_,B.ix,T.cl_World,T.n_World_waiting,by have:=B.len;omega,?_⟩
  have B:=B.put "waiting" (.ref wa)
  obtain⟨G,hG⟩:=B.at
  rw[<-hG]at B⊢
  clear hG
  refine fun as has=>?_
  have B:=B.new has (.dK []) (fun _ _=>trivial) h0
  obtain⟨G,hG⟩:=B.at
  rw[<-hG]at B⊢
  clear hG
  refine⟨_,_,_,B.ix,T.cl_World,T.n_World_asleep_since,by have:=B.len;omega,?_⟩
  have B:=B.put "asleep_since" (.ref as)
  obtain⟨G,hG⟩:=B.at
  rw[<-hG]at B⊢
  clear hG
  refine⟨_,_,_,B.ix,T.cl_World,T.n_World_pauses,by have:=B.len;omega,?_⟩
  have B:=B.put "pauses" (.int 0)
  obtain⟨G,hG⟩:=B.at
  rw[<-hG]at B⊢
  clear hG
  refine⟨by decide,fun lo hlo=>?_⟩
  have B:=B.new hlo (.lst []) (fun _ _=>trivial) h0
  obtain⟨G,hG⟩:=B.at
  rw[<-hG]at B⊢
  clear hG
  refine⟨_,_,_,B.ix,T.cl_World,T.n_World_logged,by have:=B.len;omega,?_⟩
  have B:=B.put "logged" (.ref lo)
  obtain⟨G,hG⟩:=B.at
  rw[<-hG]at B⊢
  clear hG
  refine fun en hen=>?_
  have B:=B.new hen (.dK []) (fun _ _=>trivial) h0
  obtain⟨G,hG⟩:=B.at
  rw[<-hG]at B⊢
  clear hG
  refine⟨_,_,_,B.ix,T.cl_World,T.n_World_ends,by have:=B.len;omega,?_⟩
  have B:=B.put "ends" (.ref en)
  obtain⟨G,hG⟩:=B.at
  rw[<-hG]at B⊢
  clear hG
  have hx3:=Bold.ix
  refine q _ G3 xc lh ll lsh st ca wa as lo en cl ks lk _ B.ix B.objs B.nd Bold.keep hcat (hcat.keep (L:=[x]) (fun b o e m=>B.keep b o e (by simpa using m)) (by simpa using xco.symm) (fun m=>?_) (fun z m y=>xks (by rw[<-xg.mp y];exact m)) (fun z m y=>xlk (by rw[<-xg.mp y];exact m)) (fun z m vs e=>by rw[xg.mp m,hx3]at e;cases e)) hks xks xco B.keep
  have e:=hcat.li
  rw[xg.mp m,hx3]at e
  cases e
structure Ad where
 x:Addr
 dx:Addr
 c:Addr
 cl:Addr
 lh:Addr
 ll:Addr
 ls:Addr
 st:Addr
 ca:Addr
 as:Addr
 lo:Addr
 en:Addr
 ks:List Addr
 fo:List Addr
inductive Lg
 |ask (t:Int) (h:Str) (m:Int)
 |giv (t:Int) (x:Nt)
structure Sw where
 now:Int
 N:List Nt
 R:NL
 T:List (Addr×Addr×Lg)
 C:List Str
 E:List Int
noncomputable def lgV(p:Addr):Lg->List V
 | .ask t h m=>[.str "ask",.int t,.str h,.str "q",.bl false,.int m]
 | .giv t x=>[.str "given",.int t,.str x.h,.str x.l,.bl x.sh,.int x.n,.int x.e,.ref p]
noncomputable def LgAt(n:Nat)(H:Hp)(T:List (Addr×Addr×Lg)):Prop:=∀q∈T,H q.1=some (.tup (lgV q.2.1 q.2.2))/\match q.2.2 with| .ask .. =>True| .giv .. =>H q.2.1=some (.tup (z19 (List.range n)))
theorem LgAt.mono{n:Nat}{H H':Hp}{T:List (Addr×Addr×Lg)}(h:LgAt n H T)(s:∀b vs,H b=some (.tup vs)->H' b=some (.tup vs)):LgAt n H' T:=fun q m=>by
 obtain⟨a,b⟩:=h q m
 refine⟨s _ _ a,?_⟩
 cases e:q.2.2 with
 |ask t h m=>trivial
 |giv t x=>rw[e]at b;exact s _ _ b
noncomputable def lkQ:Str:="q"
noncomputable def z1p(n:Nat)(N:List Nt):List KN:=List.replicate n ⟨true,(N.length:Int),N⟩
structure WAt(CW CC CK:Addr)(n:Nat)(A:Ad)(hs:List Str)(S:Sw)(H:Hp):Prop where
 ix:∃wa,H A.x=some (.ins CW A.dx (wf S.now A.c A.lh A.ll A.ls A.st A.ca wa A.as 0 A.lo A.en))/\H wa=some (.lst (refs S.R))/\∀p∈A.lo::A.fo,wa≠p
 tw:TuAt H S.R
 gh:H A.lh=some (.lst (hs.map V.str))
 gk:H A.ll=some (.lst [.str "q"])
 gs:H A.as=some (.dK [])
 gc:∃kvs,H A.ca=some (.dT kvs)/\kvs.length<=S.C.length/\∀h:Str,(valV kvs [Sum.inr h,Sum.inr lkQ]).isSome=decide (h∈S.C)
 ge:∃D,H A.en=some (.dK D)/\D.length<=S.E.length/\∀t:Int,(valV D (Sum.inl t:Key)).isSome=decide (t∈S.E)
 lg:H A.lo=some (.lst (S.T.map fun q=>V.ref q.1))
 la:LgAt n H S.T
 cn:∃lk,CAt CC CK H A.c A.cl A.ks lk (z1p n S.N)/\∀p∈A.lo::A.fo,p∉lk
 kn:A.ks.length=n
 n1:A.x∉A.ks/\A.x≠A.c
 n2:(∀p∈A.lo::A.fo,p≠A.cl/\p≠A.lh/\p≠A.ll)/\A.lo∉A.fo/\A.as≠A.en
 fx:∀p∈A.fo,∃xs,H p=some (.lst xs)
 sz:1<=n/\n<=5/\S.N.length<=8/\S.R.length<=8/\S.T.length<=100/\S.C.length<=8/\S.E.length<=8
 qs:(∀x∈S.N,x.h.length<=1000/\x.l=lkQ/\x.sh=false)/\∀x∈S.R,x.2.h.length<=1000/\x.2.l=lkQ/\x.2.sh=false
noncomputable def z1i(S:Sw)(h:Str):Bool:=z2p S.N h lkQ false S.now
section
variable {CW CC CK:Addr}{n:Nat}{A:Ad}{hs:List Str}{S:Sw}{H H':Hp}
theorem WAt.keep(h:WAt CW CC CK n A hs S H){p:Addr}(b:But1 p H H')(np:H p=none\/∃ps,H p=some (.tbl ps)):WAt CW CC CK n A hs S H':=by
 have k:∀{a:Addr}{o:HO},H a=some o->(∀ps,o≠.tbl ps)->H' a=some o:=fun{a o} e no=>b _ _ e fun z=>by
  rw[z]at e
  rcases np with np|⟨ps,np⟩
  .rw[np]at e;cases e
  .rw[np]at e;cases e;exact no _ rfl
 have kt:∀a vs,H a=some (.tup vs)->H' a=some (.tup vs):=fun a vs e=>k e (by intros;nofun)
 obtain⟨wa,x1,x2,x3⟩:=h.ix
 obtain⟨kv,c1,c2⟩:=h.gc
 obtain⟨D,d1,d2⟩:=h.ge
 obtain⟨lk,hc,nl⟩:=h.cn
 refine⟨⟨wa,k x1 (by intros;nofun),k x2 (by intros;nofun),x3⟩,fun q m=>kt _ _ (h.tw q m),k h.gh (by intros;nofun),k h.gk (by intros;nofun),k h.gs (by intros;nofun),⟨kv,k c1 (by intros;nofun),c2⟩,⟨D,k d1 (by intros;nofun),d2⟩,k h.lg (by intros;nofun),h.la.mono kt,⟨lk,?_,nl⟩,h.kn,h.n1,h.n2,fun p m=>(let⟨xs,e⟩:=h.fx p m;⟨xs,k e (by intros;nofun)⟩),h.sz,h.qs⟩
 have hb:BtA [p] H H':=fun c o e m=>b c o e (by simpa using m)
 have ne:∀{a:Addr}{o:HO},H a=some o->(∀ps,o≠.tbl ps)->a∉[p]:=fun{a o} e no m=>by
  rw[xg.mp m]at e
  rcases np with np|⟨ps,np⟩
  .rw[np]at e;cases e
  .rw[np]at e;cases e;exact no _ rfl
 refine hc.keep hb ?_ (ne hc.li (by intros;nofun)) (fun x m=>?_) (fun x m=>?_) (fun q m vs e=>ne e (by intros;nofun) m)
 .obtain⟨dx,e⟩:=hc.ob
  exact ne e (by intros;nofun)
 .obtain⟨_,_,e⟩:=hc.mem m
  exact ne e (by intros;nofun)
 .obtain⟨_,e⟩:=hc.lsome m
  exact ne e (by intros;nofun)
theorem WAt.mono(h:WAt CW CC CK n A hs S H)(s:Same H H'):WAt CW CC CK n A hs S H':=by
 obtain⟨wa,x1,x2,x3⟩:=h.ix
 obtain⟨kv,c1,c2⟩:=h.gc
 obtain⟨D,d1,d2⟩:=h.ge
 obtain⟨lk,hc,nl⟩:=h.cn
 exact⟨⟨wa,s _ _ x1,s _ _ x2,x3⟩,h.tw.mono s,s _ _ h.gh,s _ _ h.gk,s _ _ h.gs,⟨kv,s _ _ c1,c2⟩,⟨D,s _ _ d1,d2⟩,s _ _ h.lg,h.la.mono fun b vs e=>s _ _ e,⟨lk,hc.mono s,nl⟩,h.kn,h.n1,h.n2,fun p m=>(let⟨xs,e⟩:=h.fx p m;⟨xs,s _ _ e⟩),h.sz,h.qs⟩
theorem WAt.row(h:WAt CW CC CK n A hs S H){p wa:Addr}{R:NL}(hp:H p=some (.lst (refs R)))(np:∀q∈A.lo::A.fo,p≠q)(hx:H A.x=some (.ins CW A.dx (wf S.now A.c A.lh A.ll A.ls A.st A.ca wa A.as 0 A.lo A.en)))
  (o:HO) (hR:TuAt H R) (hl:R.length<=8) (hq:∀x∈R,x.2.h.length<=1000/\x.2.l=lkQ/\x.2.sh=false) (ho:o=.ins CW A.dx (wf S.now A.c A.lh A.ll A.ls A.st A.ca p A.as 0 A.lo A.en):=by rfl):WAt CW CC CK n A hs { S with R:=R } (upd H A.x o):=by
 subst ho
 have k:∀{a:Addr}{o:HO},H a=some o->(∀C d fs,o≠.ins C d fs)->upd H A.x (.ins CW A.dx (wf S.now A.c A.lh A.ll A.ls A.st A.ca p A.as 0 A.lo A.en)) a=some o:=fun{a o} e no=>by
  rw[zc (fun z=>by rw[z,hx]at e;injection e with e;exact no _ _ _ e.symm)];exact e
 obtain⟨kv,c1,c2⟩:=h.gc
 obtain⟨D,d1,d2⟩:=h.ge
 obtain⟨lk,hc,nl⟩:=h.cn
 obtain⟨z1,z2,z3,z4,z5⟩:=h.sz
 refine⟨⟨p,z9,k hp (by intros;nofun),np⟩,fun q m=>k (hR q m) (by intros;nofun),k h.gh (by intros;nofun),k h.gk (by intros;nofun),k h.gs (by intros;nofun),⟨kv,k c1 (by intros;nofun),c2⟩,⟨D,k d1 (by intros;nofun),d2⟩,k h.lg (by intros;nofun),h.la.mono fun b vs e=>k e (by intros;nofun),⟨lk,?_,nl⟩,h.kn,h.n1,h.n2,fun p m=>(let⟨xs,e⟩:=h.fx p m;⟨xs,k e (by intros;nofun)⟩),⟨z1,z2,z3,hl,z5⟩,h.qs.1,hq⟩
 refine hc.keep (BtA.upd H A.x _) (by simpa using h.n1.2.symm) (fun m=>?_) (fun x m y=>h.n1.1 (by rw[<-xg.mp y];exact m)) (fun x m y=>?_) (fun q m vs e=>by rw[xg.mp m,hx]at e;cases e)
 .have e:=hc.li
  rw[xg.mp m,hx]at e
  cases e
 .obtain⟨_,e⟩:=hc.lsome m
  rw[xg.mp y,hx]at e
  cases e
theorem WAt.tick(h:WAt CW CC CK n A hs S H){wa:Addr}(hx:H A.x=some (.ins CW A.dx (wf S.now A.c A.lh A.ll A.ls A.st A.ca wa A.as 0 A.lo A.en)))(t:Int)(o:HO)
  (ho:o=.ins CW A.dx (wf t A.c A.lh A.ll A.ls A.st A.ca wa A.as 0 A.lo A.en):=by rfl):WAt CW CC CK n A hs { S with now:=t } (upd H A.x o):=by
 subst ho
 have k:∀{a:Addr}{o:HO},H a=some o->(∀C d fs,o≠.ins C d fs)->upd H A.x (.ins CW A.dx (wf t A.c A.lh A.ll A.ls A.st A.ca wa A.as 0 A.lo A.en)) a=some o:=fun{a o} e no=>by
  rw[zc (fun z=>by rw[z,hx]at e;injection e with e;exact no _ _ _ e.symm)];exact e
 obtain⟨wa',x1,x2,x3⟩:=h.ix
 have ew:wa'=wa:=by
  rw[hx]at x1
  injection x1 with x1
  injection x1 with _ _ e
  have:=x12 (List.lookup ("waiting":Str)) e
  injection this with this
  injection this with this
  exact this.symm
 subst ew
 obtain⟨kv,c1,c2⟩:=h.gc
 obtain⟨D,d1,d2⟩:=h.ge
 obtain⟨lk,hc,nl⟩:=h.cn
 refine⟨⟨wa',z9,k x2 (by intros;nofun),x3⟩,fun q m=>k (h.tw q m) (by intros;nofun),k h.gh (by intros;nofun),k h.gk (by intros;nofun),k h.gs (by intros;nofun),⟨kv,k c1 (by intros;nofun),c2⟩,⟨D,k d1 (by intros;nofun),d2⟩,k h.lg (by intros;nofun),h.la.mono fun b vs e=>k e (by intros;nofun),⟨lk,?_,nl⟩,h.kn,h.n1,h.n2,fun p m=>(let⟨xs,e⟩:=h.fx p m;⟨xs,k e (by intros;nofun)⟩),h.sz,h.qs⟩
 refine hc.keep (BtA.upd H A.x _) (by simpa using h.n1.2.symm) (fun m=>?_) (fun x m y=>h.n1.1 (by rw[<-xg.mp y];exact m)) (fun x m y=>?_) (fun q m vs e=>by rw[xg.mp m,hx]at e;cases e)
 .have e:=hc.li
  rw[xg.mp m,hx]at e
  cases e
 .obtain⟨_,e⟩:=hc.lsome m
  rw[xg.mp y,hx]at e
  cases e
theorem WAt.give(h:WAt CW CC CK n A hs S H){x:Nt}{lk lk':List Addr}(hc:CAt CC CK H A.c A.cl A.ks lk (z1p n S.N))(hl:∀p∈A.lo::A.fo,p∉lk)(hls:LsOk H lk lk')(hc':CAt CC CK H' A.c A.cl A.ks lk' (z1p n (S.N++[x])))(b:ButK A.ks H H')
  (h8:S.N.length<8) (hx:x.h.length<=1000/\x.l=lkQ/\x.sh=false):WAt CW CC CK n A hs { S with N:=S.N++[x] } H':=by
 have k:∀{a:Addr}{o:HO},H a=some o->(∀C d fs,o≠.ins C d fs)->H' a=some o:=fun{a o} e no=>b _ _ e fun m=>by
  obtain⟨_,_,e2⟩:=hc.mem m
  rw[e]at e2
  exact no _ _ _ (xq e2)
 obtain⟨wa,x1,x2,x3⟩:=h.ix
 obtain⟨kv,c1,c2⟩:=h.gc
 obtain⟨D,d1,d2⟩:=h.ge
 obtain⟨z1,z2,z3,z4⟩:=h.sz
 refine⟨⟨wa,b _ _ x1 h.n1.1,k x2 (by intros;nofun),x3⟩,fun q m=>k (h.tw q m) (by intros;nofun),k h.gh (by intros;nofun),k h.gk (by intros;nofun),k h.gs (by intros;nofun),⟨kv,k c1 (by intros;nofun),c2⟩,⟨D,k d1 (by intros;nofun),d2⟩,k h.lg (by intros;nofun),h.la.mono fun b vs e=>k e (by intros;nofun),⟨lk',hc',fun p mp m=>?_⟩,h.kn,h.n1,h.n2,fun p m=>(let⟨xs,e⟩:=h.fx p m;⟨xs,k e (by intros;nofun)⟩),⟨z1,z2,by show(S.N++[x]).length<=8;rw[xt];exact h8,z4⟩,fun y m=>?_,h.qs.2⟩
 .rcases hls _ m with m|m
  .exact hl p mp m
  .rcases xk.mp mp with rfl|mp
   .rw[h.lg]at m;cases m
   .obtain⟨_,e⟩:=h.fx p mp
    rw[e]at m;cases m
 .rcases x02.mp m with m|m
  .exact h.qs.1 y m
  .rw[xg.mp m];exact hx
theorem WAt.cnk(h:WAt CW CC CK n A hs S H){p:Addr}{o u:HO}(hp:H p=some u)(h1:∀C d fs,u≠.ins C d fs)(h2:∀vs,u≠.tup vs)(h3:p≠A.cl)(h4:∀lk,CAt CC CK H A.c A.cl A.ks lk (z1p n S.N)->(∀p∈A.lo::A.fo,p∉lk)->p∉lk):∃lk,CAt CC CK (upd H p o) A.c A.cl A.ks lk (z1p n S.N)/\∀p∈A.lo::A.fo,p∉lk:=by
 obtain⟨lk,hc,hl⟩:=h.cn
 have n4:=h4 lk hc hl
 refine⟨lk,hc.keep (BtA.upd H p o) (fun m=>?_) (fun m=>h3 (xg.mp m).symm) (fun x m y=>?_) (fun x m y=>n4 (by rw[<-xg.mp y];exact m)) (fun q m vs e=>?_),hl⟩
 .obtain⟨_,e⟩:=hc.ob
  rw[xg.mp m,hp]at e
  exact h1 _ _ _ (xq e)
 .obtain⟨_,_,e⟩:=hc.mem m
  rw[xg.mp y,hp]at e
  exact h1 _ _ _ (xq e)
 .rw[xg.mp m,hp]at e
  exact h2 _ (xq e)
theorem WAt.carry(h:WAt CW CC CK n A hs S H){kvs:List (List Key×V)}(hc:H A.ca=some (.dT kvs))(hz:kvs.length<=S.C.length/\∀h:Str,(valV kvs [Sum.inr h,Sum.inr lkQ]).isSome=decide (h∈S.C))(z:Str)(v:V)(h8:S.C.length<8):WAt CW CC CK n A hs { S with C:=S.C++[z] } (upd H A.ca (.dT (putK kvs [Sum.inr z,Sum.inr lkQ] v))):=by
 have k:∀{a:Addr}{o:HO},H a=some o->(∀kvs,o≠.dT kvs)->upd H A.ca (.dT (putK kvs [Sum.inr z,Sum.inr lkQ] v)) a=some o:=fun{a o} e no=>by
  rw[zc (fun z=>by rw[z,hc]at e;exact no _ (xq e).symm)];exact e
 obtain⟨wa,x1,x2,x3⟩:=h.ix
 obtain⟨D,d1,d2⟩:=h.ge
 obtain⟨z1,z2,z3,z4,z5,z6,z7⟩:=h.sz
 refine⟨⟨wa,k x1 (by intros;nofun),k x2 (by intros;nofun),x3⟩,fun q m=>k (h.tw q m) (by intros;nofun),k h.gh (by intros;nofun),k h.gk (by intros;nofun),k h.gs (by intros;nofun),⟨_,z9,?_,fun y=>?_⟩,⟨D,k d1 (by intros;nofun),d2⟩,k h.lg (by intros;nofun),h.la.mono fun b vs e=>k e (by intros;nofun),h.cnk hc (by intros;nofun) (by intros;nofun) ?_ (fun lk hk _ m=>?_),h.kn,h.n1,h.n2,fun p m=>(let⟨xs,e⟩:=h.fx p m;⟨xs,k e (by intros;nofun)⟩),⟨z1,z2,z3,z4,z5,by show(S.C++[z]).length<=8;rw[xt];exact h8,z7⟩,h.qs⟩
 .have:(putK kvs [Sum.inr z,Sum.inr lkQ] v).length<=kvs.length+1:=by
   unfold putK
   split
   .rw[x5];omega
   .rw[xt];exact xi _
  show _<=(S.C++[z]).length
  rw[xt]
  have:=hz.1
  show _<=_+1
  omega
 .rw[z6y]
  show _=decide (y∈S.C++[z])
  by_cases c:y=z
  .subst c
   simp
  .have:¬([Sum.inr y,Sum.inr lkQ]:List Key)=[Sum.inr z,Sum.inr lkQ]:=fun e=>c (by injection e with e _;exact Sum.inr.inj e)
   rw[if_neg this,hz.2 y]
   simp[c]
 .intro e
  obtain⟨lk,hk,-⟩:=h.cn
  have:=hk.li
  rw[<-e,hc]at this
  cases this
 .obtain⟨_,e⟩:=hk.lsome m
  rw[hc]at e
  cases e
theorem WAt.ends(h:WAt CW CC CK n A hs S H){D:List (Key×V)}(hc:H A.en=some (.dK D))(hz:D.length<=S.E.length/\∀t:Int,(valV D (Sum.inl t:Key)).isSome=decide (t∈S.E))(z:Int)(v:V)(h8:S.E.length<8):WAt CW CC CK n A hs { S with E:=S.E++[z] } (upd H A.en (.dK (putK D (Sum.inl z) v))):=by
 have k:∀{a:Addr}{o:HO},H a=some o->(∀kvs,o≠.dK kvs)->upd H A.en (.dK (putK D (Sum.inl z) v)) a=some o:=fun{a o} e no=>by
  rw[zc (fun z=>by rw[z,hc]at e;exact no _ (xq e).symm)];exact e
 obtain⟨wa,x1,x2,x3⟩:=h.ix
 obtain⟨kv,d1,d2⟩:=h.gc
 obtain⟨z1,z2,z3,z4,z5,z6,z7⟩:=h.sz
 refine⟨⟨wa,k x1 (by intros;nofun),k x2 (by intros;nofun),x3⟩,fun q m=>k (h.tw q m) (by intros;nofun),k h.gh (by intros;nofun),k h.gk (by intros;nofun),by rw[zc h.n2.2.2];exact h.gs,⟨kv,k d1 (by intros;nofun),d2⟩,⟨_,z9,?_,fun y=>?_⟩,k h.lg (by intros;nofun),h.la.mono fun b vs e=>k e (by intros;nofun),h.cnk hc (by intros;nofun) (by intros;nofun) ?_ (fun lk hk _ m=>?_),h.kn,h.n1,h.n2,fun p m=>(let⟨xs,e⟩:=h.fx p m;⟨xs,k e (by intros;nofun)⟩),⟨z1,z2,z3,z4,z5,z6,by show(S.E++[z]).length<=8;rw[xt];exact h8⟩,h.qs⟩
 .have:(putK D (Sum.inl z:Key) v).length<=D.length+1:=by
   unfold putK
   split
   .rw[x5];omega
   .rw[xt];exact xi _
  show _<=(S.E++[z]).length
  rw[xt]
  have:=hz.1
  show _<=_+1
  omega
 .rw[z6y]
  show _=decide (y∈S.E++[z])
  by_cases c:y=z
  .subst c
   simp
  .have:¬(Sum.inl y:Key)=Sum.inl z:=fun e=>c (Sum.inl.inj e)
   rw[if_neg this,hz.2 y]
   simp[c]
 .intro e
  obtain⟨lk,hk,-⟩:=h.cn
  have:=hk.li
  rw[<-e,hc]at this
  cases this
 .obtain⟨_,e⟩:=hk.lsome m
  rw[hc]at e
  cases e
theorem WAt.logd(h:WAt CW CC CK n A hs S H)(t:Addr×Addr×Lg)(ht:LgAt n H [t])(h99:S.T.length<100):WAt CW CC CK n A hs { S with T:=S.T++[t] } (upd H A.lo (.lst (S.T.map (fun q=>V.ref q.1)++[.ref t.1]))):=by
 have k:∀{a:Addr}{o:HO},H a=some o->(∀xs,o≠.lst xs)->upd H A.lo (.lst (S.T.map (fun q=>V.ref q.1)++[.ref t.1])) a=some o:=fun{a o} e no=>by
  rw[zc (fun z=>by rw[z,h.lg]at e;exact no _ (xq e).symm)];exact e
 obtain⟨wa,x1,x2,x3⟩:=h.ix
 obtain⟨kv,c1,c2⟩:=h.gc
 obtain⟨D,d1,d2⟩:=h.ge
 obtain⟨z1,z2,z3,z4,z5,z6⟩:=h.sz
 obtain⟨y1,y2,y3⟩:=h.n2.1 A.lo (xp ..)
 have nlo:=h.n2.2.1
 refine⟨⟨wa,k x1 (by intros;nofun),by rw[zc (x3 _ (xp ..))];exact x2,x3⟩,fun q m=>k (h.tw q m) (by intros;nofun),by rw[zc y2.symm];exact h.gh,by rw[zc y3.symm];exact h.gk,k h.gs (by intros;nofun),⟨kv,k c1 (by intros;nofun),c2⟩,⟨D,k d1 (by intros;nofun),d2⟩,by rw[z9];simp,fun q m=>?_,h.cnk h.lg (by intros;nofun) (by intros;nofun) y1 (fun lk _ nl=>nl _ (xp ..)),h.kn,h.n1,h.n2,fun p m=>(let⟨xs,e⟩:=h.fx p m;⟨xs,by rw[zc (fun z=>nlo (by rw[<-z];exact m))];exact e⟩),⟨z1,z2,z3,z4,by show(S.T++[t]).length<=100;rw[xt];exact h99,z6⟩,h.qs⟩
 rcases x02.mp m with m|m
 .exact h.la.mono (fun b vs e=>k e (by intros;nofun)) q m
 .exact ht.mono (fun b vs e=>k e (by intros;nofun)) q m
theorem WAt.fresh(h:WAt CW CC CK n A hs S H){p:Addr}(hp:H p=none):∀q∈A.lo::A.fo,p≠q:=fun q m e=>by
 subst e
 rcases xk.mp m with e|m
 .rw[e,h.lg]at hp;cases hp
 .obtain⟨_,e⟩:=h.fx _ m
  rw[e]at hp;cases hp
theorem WAt.adopt(h:WAt CW CC CK n A hs S H){p:Addr}(hp:H p=none)(xs:List V):WAt CW CC CK n { A with fo:=p::A.fo } hs S (upd H p (.lst xs)):=by
 have h2:=h.mono (Same.upd (o:=.lst xs) hp)
 have fr:=h.fresh hp
 have ne:∀{a:Addr}{o:HO},H a=some o->p≠a:=fun e z=>by rw[z,e]at hp;cases hp
 obtain⟨wa,x1,x2,x3⟩:=h.ix
 obtain⟨lk,hc,nl⟩:=h.cn
 have s:=Same.upd (o:=.lst xs) hp
 obtain⟨m1,m2,m3⟩:=h.n2
 refine⟨⟨wa,s _ _ x1,s _ _ x2,fun q m=>?_⟩,h2.tw,h2.gh,h2.gk,h2.gs,h2.gc,h2.ge,h2.lg,h2.la,⟨lk,hc.mono s,fun q m y=>?_⟩,h.kn,h.n1,⟨fun q m=>?_,fun m=>?_,m3⟩,fun q m=>?_,h.sz,h.qs⟩
 .rcases xk.mp m with rfl|m
  .exact x3 _ (xp ..)
  .rcases xk.mp m with rfl|m
   .exact(ne x2).symm
   .exact x3 _ (xx _ m)
 .rcases xk.mp m with rfl|m
  .exact nl _ (xp ..) y
  .rcases xk.mp m with rfl|m
   .obtain⟨_,e⟩:=hc.lsome y
    exact ne e rfl
   .exact nl _ (xx _ m) y
 .rcases xk.mp m with rfl|m
  .exact m1 _ (xp ..)
  .rcases xk.mp m with rfl|m
   .exact⟨ne hc.li,ne h.gh,ne h.gk⟩
   .exact m1 _ (xx _ m)
 .rcases xk.mp m with e|m
  .exact fr A.lo (xp ..) e.symm
  .exact m2 m
 .rcases xk.mp m with rfl|m
  .exact⟨_,z9⟩
  .exact h2.fx q m
theorem WAt.own(h:WAt CW CC CK n A hs S H){p:Addr}(mp:p∈A.fo)(ys:List V):WAt CW CC CK n A hs S (upd H p (.lst ys)):=by
 obtain⟨xs,hp⟩:=h.fx p mp
 have k:∀{a:Addr}{o:HO},H a=some o->(∀xs,o≠.lst xs)->upd H p (.lst ys) a=some o:=fun{a o} e no=>by
  rw[zc (fun z=>by rw[z,hp]at e;exact no _ (xq e).symm)];exact e
 have mp':=xx A.lo mp
 obtain⟨wa,x1,x2,x3⟩:=h.ix
 obtain⟨kv,c1,c2⟩:=h.gc
 obtain⟨D,d1,d2⟩:=h.ge
 obtain⟨y1,y2,y3⟩:=h.n2.1 p mp'
 exact⟨⟨wa,k x1 (by intros;nofun),by rw[zc (x3 _ mp')];exact x2,x3⟩,fun q m=>k (h.tw q m) (by intros;nofun),by rw[zc y2.symm];exact h.gh,by rw[zc y3.symm];exact h.gk,k h.gs (by intros;nofun),⟨kv,k c1 (by intros;nofun),c2⟩,⟨D,k d1 (by intros;nofun),d2⟩,by rw[zc (fun z=>h.n2.2.1 (by rw[z];exact mp))];exact h.lg,h.la.mono fun b vs e=>k e (by intros;nofun),h.cnk hp (by intros;nofun) (by intros;nofun) y1 (fun lk _ nl=>nl p mp'),h.kn,h.n1,h.n2,fun q m=>(if z:q=p then⟨ys,by rw[z,z9]⟩ else let⟨xs,e⟩:=h.fx q m;⟨xs,by rw[zc z];exact e⟩),h.sz,h.qs⟩
theorem zme{hd:Str}{N:List Nt}(h:hd∉N.map (·.h))(lk:Str):z8x hd lk N=N:=by
 unfold z8x
 rw[List.filter_eq_self]
 intro x hx
 rw[x0j (fun e=>h (xw.mpr ⟨x,hx,e⟩))]
 rfl
theorem zgt{N:List Nt}{x:Nt}(hn:x.n=(N.length:Int)+1)(h:x.h∉N.map (·.h)):z4m (z1p n N) (List.range n) x=z1p n (N++[x]):=by
 apply x28
 intro j
 unfold z4m z1p
 rw[List.getElem?_mapIdx,x0r,x0r]
 by_cases c:j<n
 .rw[if_pos c,if_pos c]
  simp only[x18,x0l,c,if_true,zme h]
  congr 2
  rw[xt,hn]
  rfl
 .rw[if_neg c,if_neg c]
  rfl
theorem z56{N:List Nt}(h:N.length<=8):zbc (z1p n N):=fun s hs=>by
 rw[(x2z.mp hs).2]
 show N.length<=62
 omega
theorem z8l(N:List Nt):upl (z1p n N) n=List.range n:=by
 unfold upl
 rw[List.filter_eq_self]
 intro j hj
 unfold upAt z1p
 rw[x0r,if_pos (x0l.mp hj)]
theorem zbk(N:List Nt)(hd lk:Str)(sh:Bool)(tick:Int):sayl (z1p n N) n hd lk sh tick=if z2p N hd lk sh tick then List.range n else[]:=by
 unfold sayl
 rw[z8l]
 have e:∀j∈List.range n,frAt (z1p n N) hd lk sh tick j=z2p N hd lk sh tick:=fun j hj=>by
  unfold frAt z1p
  rw[x0r,if_pos (x0l.mp hj)]
 cases c:z2p N hd lk sh tick with
 |true=>rw[if_pos rfl,List.filter_eq_self];intro j hj;rw[e j hj,c]
 |false=>
  rw[if_neg xm,x2q]
  intro j hj
  rw[e j hj,c]
  exact xm
end
noncomputable def zcg(CW CC CK:Addr):Sp:=fun vs H Q _=>∃(n:Nat)(A:Ad)(hs:List Str)(S:Sw)(a:Addr)(x:Nt),vs=[.ref A.x,.ref a]/\WAt CW CC CK n A hs S H/\H a=some (.tup x.vals)/\x.l=lkQ/\x.sh=false/\z3w H Q (.bl (z1i S x.h))
theorem za9(F:MDef K yb "is_free" "World.is_free" z4i ["self","asking"])(T:Txt K mg ya yc yo yb y9 yd ye yn yp yr yf yg yk yl yi yh ym yj)(y11:MHas P w K mg base CX0 6 ya "sayers" ["self","holder","lock","shared","tick"] (za5 ya yc)):MHas P w K mg base CX0 7 yb "is_free" ["self","asking"] (zcg yb ya yc):=by
 refine F.ok sc_World_is_free (fun vs H Q E h=>?_) (fun f cdv A outer s H vs Q E hr h=>?_)
 .obtain⟨n,A,hs,S,a,x,rfl,_⟩:=h
  rfl
 .obtain⟨n,A,hs,S,a,x,rfl,hw,ha,hl,hsh,q⟩:=h
  have hu:=hr.units0
  walk_at "%čʖ+5Ȍ¯$ĵĶĶĶƝW'Ť:ƩȎ#¶¡0zƁt6Ĉ%"
  walk_at "rd"
  obtain⟨wa,x1,-,-⟩:=hw.ix
  obtain⟨lk,hc,-⟩:=hw.cn
  obtain⟨dc,hob⟩:=hc.ob
  have hk:=hw.kn
  obtain⟨z1,z2,z3,-⟩:=hw.sz
  refine⟨_,_,_,x1,T.cl_World,T.n_World_council,_,rfl,_,rfl,_,_,hob,z4l _ _ (by decide+kernel) (by decide+kernel),?_⟩
  refine⟨_,_,_,_,rfl,rfl,SqT.of ha,zi (j:=1) rfl,_,_,_,_,rfl,rfl,SqT.of ha,zi (j:=2) rfl,_,_,_,_,rfl,rfl,SqT.of ha,zi (j:=3) rfl,?_⟩
  refine⟨_,_,_,x1,T.cl_World,T.n_World_now,_,rfl,?_⟩
  refine⟨A.c,A.cl,A.ks,lk,z1p n S.N,x.h,x.l,x.sh,S.now,rfl,hc,z56 z3,by rw[hl];decide,fun r H1 hr0 gr s1=>?_⟩
  rw[hk,zbk,hl,hsh]at gr
  have e:z2p S.N x.h lkQ false S.now=z1i S x.h:=rfl
  rw[e]at gr
  refine⟨r,rfl,_,.inl (SqL.of gr),_,_,_,s1 _ _ x1,T.cl_World,T.n_World_council,_,rfl,_,rfl,_,_,_,s1 _ _ hob,T.cl_Council,T.n_Council_most,_,zca _ _,_,rfl,?_⟩
  have q1:=q H1 s1
  have e2:decide (((A.ks.length:Int)/2+1)<=((z19 (if z1i S x.h=true then List.range n else[])).length:Int))=z1i S x.h:=by
   rw[z59,hk]
   cases z1i S x.h with
   |true=>rw[if_pos rfl,x1h];exact x05 (by omega)
   |false=>rw[if_neg xm];exact x0j (by simp only[x2n];omega)
  rw[e2]
  exact q1
noncomputable def zhi(CW CC CK:Addr):Sp:=fun vs H Q _=>∃(n:Nat)(A:Ad)(hs:List Str)(S:Sw),vs=[.ref A.x]/\WAt CW CC CK n A hs S H/\
 (((∀y∈S.R,z1i S y.2.h=false)/\∀H',Same H H'->Q .non H')\/∃(y:Addr×Nt)(R:NL),S.R=y::R/\z1i S y.2.h=true/\∀H',Same H H'->Q (.ref y.1) H')
theorem z6i(F:MDef K yb "first_to_give" "World.first_to_give" z2t ["self"])(T:Txt K mg ya yc yo yb y9 yd ye yn yp yr yf yg yk yl yi yh ym yj)(y1w:Has P w K mg base 4 "ahead" ["row","holder"] (zcd))(y12:MHas P w K mg base CX0 7 yb "is_free" ["self","asking"] (zcg yb ya yc)):MHas P w K mg base CX0 8 yb "first_to_give" ["self"] (zhi yb ya yc):=by
 refine F.ok sc_World_first_to_give (fun vs H Q E h=>?_) (fun f cdv A outer s H vs Q E hr h=>?_)
 .obtain⟨n,A,hs,S,rfl,_⟩:=h
  rfl
 .obtain⟨n,A,hs,S,rfl,hw,q⟩:=h
  have hu:=hr.units0
  walk_at "%Lģðf-*ʗPXÀk5ȡÇãÁā,ȢjĵäZÄ#ĈŮíĮ3Þȣ1"
  walk_at "rd"
  obtain⟨wa,x1,x2,-⟩:=hw.ix
  have hR:=hw.sz.2.2.2.1
  refine⟨_,_,_,x1,T.cl_World,T.n_World_waiting,_,rfl,_,rfl,⟨_,SqL.of x2⟩,?_⟩
  refine z1x (xs:=refs S.R) (fun i σ H'=>∃v,σ=[some (V.ref A.x),v]/\Same H H'/\((i=0->v=none)/\((∃(y:Addr×Nt)(R:NL),S.R=y::R/\z1i S y.2.h=true)->i=0))) ⟨_,rfl,Same.refl _,fun _=>rfl,fun _=>rfl⟩ ?_ ?_ ?_
  .rintro i σ H'-⟨v,-,s2,-⟩
   exact SqL.of (s2 _ _ x2)
  .rintro Pv hP i x σ H' hx ⟨v,rfl,s2,h0,h1⟩
   obtain⟨y,hy,rfl⟩:=z25 hx
   have my:=xf hy
   walk_at "rd"
   obtain⟨l1,l2,l3⟩:=hw.qs.2 y my
   refine⟨_,_,s2 _ _ x1,rfl,n,A,hs,S,y.1,y.2,rfl,hw.mono s2,s2 _ _ (hw.tw y my),l2,l3,fun H3 s3=>?_⟩
   have s23:=s2.trans s3
   rcases q with⟨hA,q⟩|⟨y0,R0,e0,f0,q⟩
   .refine⟨_,rfl,?_⟩
    rw[hA y my,if_neg xm]
    refine hP _ _ _ ⟨_,rfl,s23,fun z=>(by omega),?_⟩
    rintro⟨y1,R1,e1,f1⟩
    rw[hA y1 (by rw[e1];exact xp ..)]at f1
    cases f1
   .have hi:=h1 ⟨y0,R0,e0,f0⟩
    subst hi
    have ey:y=y0:=by rw[e0]at hy;exact(xq hy).symm
    subst ey
    refine⟨_,rfl,?_⟩
    rw[f0,if_pos rfl]
    refine⟨_,_,_,s23 _ _ x1,T.cl_World,T.n_World_waiting,_,rfl,_,_,_,_,rfl,rfl,SqT.of (s23 _ _ (hw.tw y my)),zi (j:=1) rfl,?_⟩
    refine⟨wa,S.R,y.2.h,rfl,s23 _ _ x2,hw.tw.mono s23,fun z m=>by rw[(hw.qs.2 z m).2.1];decide,by omega,fun H4 s4=>⟨rfl,?_⟩⟩
    have ea:z4y S.R y.2.h="":=by
     have e:z20 S.R y.2.h=0:=by unfold z20;rw[e0,List.findIdx_cons,x05 rfl];rfl
     unfold z4y
     rw[e,e0]
     rfl
    rw[ea,if_pos (by decide)]
    exact q H4 (s23.trans s4)
  .rintro σ H' ⟨v,rfl,s2,h0,h1⟩
   walk_at "rd"
   rcases q with⟨hA,q⟩|⟨y0,R0,e0,f0,q⟩
   .exact q H' s2
   .have:=h1 ⟨y0,R0,e0,f0⟩
    rw[zw,e0]at this
    cases this
noncomputable def zch(CW CC CK:Addr):Sp:=fun vs H Q _=>∃(n:Nat)(A:Ad)(hs:List Str)(S:Sw)(z:Str),vs=[.ref A.x,.str z]/\WAt CW CC CK n A hs S H/\(∀y∈S.R,y.2.h≠z)/\Q .non H
theorem z8m(F:MDef K yb "asking_of" "World.asking_of" z3q ["self","holder"])(T:Txt K mg ya yc yo yb y9 yd ye yn yp yr yf yg yk yl yi yh ym yj):MHas P w K mg base CX0 1 yb "asking_of" ["self","holder"] (zch yb ya yc):=by
 refine F.ok sc_World_asking_of (fun vs H Q E h=>?_) (fun f cdv A outer s H vs Q E hr h=>?_)
 .obtain⟨n,A,hs,S,z,rfl,_⟩:=h
  rfl
 .obtain⟨n,A,hs,S,z,rfl,hw,hz,q⟩:=h
  have hu:=hr.units0
  walk_at "%Lģðf0*ʘPXāƯüķóE:êĮ3Þȣ1"
  walk_at "rd"
  obtain⟨wa,x1,x2,-⟩:=hw.ix
  refine⟨_,_,_,x1,T.cl_World,T.n_World_waiting,_,rfl,_,rfl,⟨_,SqL.of x2⟩,?_⟩
  refine z1x (xs:=refs S.R) (fun i σ H'=>∃v,σ=[some (V.ref A.x),some (V.str z),v]/\H'=H) ⟨_,rfl,rfl⟩ ?_ ?_ ?_
  .rintro i σ H'-⟨v,-,rfl⟩
   exact SqL.of x2
  .rintro Pv hP i x σ H' hx ⟨v,rfl,rfl⟩
   obtain⟨y,hy,rfl⟩:=z25 hx
   have my:=xf hy
   walk_at "rd"
   refine⟨_,_,_,_,rfl,rfl,SqT.of (hw.tw y my),zi (j:=1) rfl,?_⟩
   refine⟨rfl,?_⟩
   rw[if_neg (by simpa using hz y my)]
   exact hP _ _ _ ⟨_,rfl,rfl⟩
  .rintro σ H' ⟨v,rfl,rfl⟩
   walk_at "rd"
   exact q
noncomputable def zci(CW CC CK:Addr):Sp:=fun vs H Q _=>∃(n:Nat)(A:Ad)(hs:List Str)(S:Sw)(z:Str),vs=[.ref A.x,.str z]/\WAt CW CC CK n A hs S H/\
 ∀H',WAt CW CC CK n A hs { S with R:=S.R.filter fun y=>decide (y.2.h≠z) } H'->But1 A.x H H'->Q .non H'
theorem z8n(F:MDef K yb "leave_row" "World.leave_row" z3p ["self","holder"])(T:Txt K mg ya yc yo yb y9 yd ye yn yp yr yf yg yk yl yi yh ym yj):MHas P w K mg base CX0 1 yb "leave_row" ["self","holder"] (zci yb ya yc):=by
 refine F.ok z8e (fun vs H Q E h=>?_) (fun f cdv A outer s H vs Q E hr h=>?_)
 .obtain⟨n,A,hs,S,z,rfl,_⟩:=h
  rfl
 .obtain⟨n,A,hs,S,z,rfl,hw,q⟩:=h
  have hu:=hr.units0
  walk_at "%#KîrƨdƔ^-ïŊð¹ǆMóñ3%ġ"
  walk_at "rd"
  obtain⟨wa,x1,x2,-⟩:=hw.ix
  have hR:=hw.sz.2.2.2.1
  refine⟨_,_,_,x1,T.cl_World,T.n_World_waiting,_,rfl,_,rfl,⟨_,SqL.of x2⟩,?_⟩
  refine z14 (xs:=refs S.R) (by rw[zw];exact zf (by omega)) (fun j acc H'=>H'=H/\acc=refs ((S.R.take j).filter fun y=>decide (y.2.h≠z))) ⟨rfl,rfl⟩ ?_ ?_ ?_ ?_
  .rintro j acc H' ⟨-,rfl⟩
   rw[zw]
   exact x01 (x06 _ _) (by rw[x07];omega)
  .rintro j acc H' ⟨rfl,-⟩
   exact SqL.of x2
  .rintro Nn j acc H' x hN hx hj ⟨rfl,rfl⟩
   obtain⟨y,hy,rfl⟩:=z25 hx
   have my:=xf hy
   walk_at "rd"
   have stp:=z27 (fun y:Addr×Nt=>decide (y.2.h≠z)) hy
   refine⟨_,_,_,_,rfl,rfl,SqT.of (hw.tw y my),zi (j:=1) rfl,?_⟩
   refine⟨rfl,?_⟩
   by_cases c:y.2.h=z
   .rw[if_neg (by simpa using c)]
    refine hN _ _ ⟨rfl,?_⟩
    rw[stp]
    simp[c]
   .rw[if_pos (by simpa using c)]
    refine hN _ _ ⟨rfl,?_⟩
    rw[stp]
    simp[c,refs]
  rintro acc H' ⟨rfl,rfl⟩ pn hpn
  rw[zw,x0h]
  have w1:=hw.mono (Same.upd (o:=.lst (refs (S.R.filter fun y=>decide (y.2.h≠z)))) hpn)
  have s1:Same H' (upd H' pn (.lst (refs (S.R.filter fun y=>decide (y.2.h≠z))))):=Same.upd hpn
  have g1:upd H' pn (.lst (refs (S.R.filter fun y=>decide (y.2.h≠z)))) pn=some (.lst (refs (S.R.filter fun y=>decide (y.2.h≠z)))):=z9
  have npl:=hw.fresh hpn
  generalize upd H' pn (.lst (refs (S.R.filter fun y=>decide (y.2.h≠z))))=H1 at w1 g1 s1⊢
  refine⟨_,_,_,s1 _ _ x1,T.cl_World,T.n_World_waiting,by show 12<1000;decide,?_⟩
  refine q _ (w1.row g1 npl (s1 _ _ x1) _ (fun y hy=>w1.tw y (xz.mp hy).1) (x01 (x06 _ _) hR) fun y hy=>hw.qs.2 y (xz.mp hy).1) (fun b o e nb=>by rw[zc nb];exact s1 _ _ e)
noncomputable def z28(S:Sw)(x:Nt):Nt:=⟨(S.N.length:Int)+1,x.h,x.l,x.sh,S.now+x.e⟩
noncomputable def givS(S:Sw)(x:Nt)(p p2:Addr):Sw:=⟨S.now,S.N++[z28 S x],S.R.filter fun y=>decide (y.2.h≠x.h),S.T++[(p,p2,.giv S.now (z28 S x))],S.C++[x.h],S.E++[S.now+x.e]⟩
noncomputable def Wl(A:Ad):List Addr:=A.x::A.ca::A.en::A.lo::A.ks
noncomputable def z8o(S:Sw):Prop:=S.N.length<8/\S.C.length<8/\S.E.length<8/\S.T.length<100
noncomputable def zg0(CW CC CK:Addr):Sp:=fun vs H Q _=>∃(n:Nat)(A:Ad)(hs:List Str)(S:Sw)(a:Addr)(x:Nt),vs=[.ref A.x,.ref a]/\WAt CW CC CK n A hs S H/\H a=some (.tup x.vals)/\x.h.length<=1000/\x.l=lkQ/\x.sh=false/\z1i S x.h=true/\x.h∉S.N.map (·.h)/\z8o S/\
 ∀(p p2:Addr)(H':Hp),WAt CW CC CK n A hs (givS S x p p2) H'->BtA (Wl A) H H'->Q .non H'
theorem zaa(F:MDef K yb "give_to" "World.give_to" z4j ["self","asking"])(T:Txt K mg ya yc yo yb y9 yd ye yn yp yr yf yg yk yl yi yh ym yj)(y1r:MHas P w K mg base CX0 7 ya "give" ["self","holder","lock","shared","tick","time"] (zki ya yc))(y10:MHas P w K mg base CX0 1 yb "leave_row" ["self","holder"] (zci yb ya yc)):MHas P w K mg base CX0 8 yb "give_to" ["self","asking"] (zg0 yb ya yc):=by
 refine F.ok sc_World_give_to (fun vs H Q E h=>?_) (fun f cdv A outer s H vs Q E hr h=>?_)
 .obtain⟨n,A,hs,S,a,x,rfl,_⟩:=h
  rfl
 .obtain⟨n,A,hs,S,a,x,rfl,hw,ha,hh,hl,hsh,hf,hN,⟨r1,r2,r3,r4⟩,q⟩:=h
  have hu:=hr.units0
  have hu2:=z3l hr
  walk_at "%čƂäįúƂäįD.ƂäįĨƂ½wä&nţƂ5ʙ¯$©ĉœ)ĵä»'Ť>mȤƃ0¥]ǖÜwÑĉưJTu±œŔ%]ǖÜwNH%ÊqĪw7ĸ©ĉœ)±ǣ)Ʊǩ(Ʋs±¼÷W'ÿ'¢%"
  walk_at "rd"
  obtain⟨wa,x1,x2,-⟩:=hw.ix
  obtain⟨lk,hc,nl⟩:=hw.cn
  obtain⟨dc,hob⟩:=hc.ob
  have hk:=hw.kn
  obtain⟨z1,z2,z3,-⟩:=hw.sz
  refine⟨_,_,_,_,rfl,rfl,SqT.of ha,zi (j:=1) rfl,_,_,_,_,rfl,rfl,SqT.of ha,zi (j:=2) rfl,_,_,_,_,rfl,rfl,SqT.of ha,zi (j:=3) rfl,?_⟩
  refine⟨_,_,_,x1,T.cl_World,T.n_World_now,_,rfl,_,_,_,_,rfl,rfl,SqT.of ha,zi (j:=4) rfl,_,rfl,_,rfl,?_⟩
  refine⟨_,_,_,x1,T.cl_World,T.n_World_council,_,rfl,_,rfl,_,_,hob,z4l _ _ (by decide+kernel) (by decide+kernel),_,_,_,x1,T.cl_World,T.n_World_now,_,rfl,_,_,_,_,rfl,rfl,SqT.of ha,zi (j:=4) rfl,?_⟩
  have es:sayl (z1p n S.N) A.ks.length x.h x.l x.sh S.now=List.range n:=by
   have e:z2p S.N x.h lkQ false S.now=true:=hf
   rw[hk,zbk,hl,hsh,e,if_pos rfl]
  refine⟨A.c,A.cl,A.ks,lk,z1p n S.N,x.h,x.l,x.sh,S.now,x.e,rfl,hc,z56 z3,hh,by rw[hl];decide,by rw[es,x1h,hk];omega,fun m hm r p ls' H1 hls hc1 gr gp hr0 hp0 hb=>?_⟩
  rw[es]at hc1 gp
  have em:m=(S.N.length:Int):=by
   obtain⟨⟨s0,hs0,-,e⟩,-⟩:=hm
   rw[(x2z.mp hs0).2]at e
   exact e.symm
  subst em
  rw[show(1:Int)+(S.N.length:Int)=(S.N.length:Int)+1 by omega]at hc1 gr
  have ex:(⟨(S.N.length:Int)+1,x.h,x.l,x.sh,S.now+x.e⟩:Nt)=z28 S x:=rfl
  rw[ex,zgt (x:=z28 S x) rfl hN]at hc1
  have w1:=hw.give hc nl hls hc1 hb r1 ⟨hh,hl,hsh⟩
  have b1:BtA (Wl A) H H1:=fun b o e m=>hb b o e fun z=>m (by simp[Wl,z])
  have nrk:r∉A.ks:=fun z=>by
   obtain⟨_,_,e⟩:=hc.mem z
   rw[e]at hr0
   cases hr0
  have ha1:H1 a=some (.tup x.vals):=hb _ _ ha fun z=>by
   obtain⟨_,_,e⟩:=hc.mem z
   rw[e]at ha
   cases ha
  obtain⟨wa1,y1,-,-⟩:=w1.ix
  refine⟨_,_,y1,rfl,n,A,hs,_,x.h,rfl,w1,fun H2 w2 b2=>?_⟩
  have tk:∀{b:Addr}{vs:List V},H1 b=some (.tup vs)->H2 b=some (.tup vs):=fun{b vs} e=>b2 _ _ e fun z=>by rw[z,y1]at e;cases e
  have gr2:=tk gr
  have gp2:H2 p=some (.lst (z19 (List.range n))):=b2 _ _ gp fun z=>by rw[z,y1]at gp;cases gp
  have b12:BtA (Wl A) H H2:=b1.trans fun b o e m=>b2 b o e fun z=>m (by simp[Wl,z])
  refine⟨_,_,_,_,rfl,rfl,SqT.of gr2,zi (j:=0) rfl,zf (by decide),fun pc hpc=>?_⟩
  have w3:=w2.mono (Same.upd (o:=.tup [.int ((S.N.length:Int)+1),.str x.l,.bl x.sh,.int (S.now+x.e)]) hpc)
  have gr3:=Same.upd (o:=.tup [.int ((S.N.length:Int)+1),.str x.l,.bl x.sh,.int (S.now+x.e)]) hpc _ _ gr2
  have gp3:=Same.upd (o:=.tup [.int ((S.N.length:Int)+1),.str x.l,.bl x.sh,.int (S.now+x.e)]) hpc _ _ gp2
  have b13:=b12.trans (.of (Same.upd (o:=.tup [.int ((S.N.length:Int)+1),.str x.l,.bl x.sh,.int (S.now+x.e)]) hpc))
  generalize upd H2 pc (.tup [.int ((S.N.length:Int)+1),.str x.l,.bl x.sh,.int (S.now+x.e)])=H3 at w3 gr3 gp3 b13⊢
  obtain⟨wa3,y3,-,-⟩:=w3.ix
  refine⟨_,_,_,y3,T.cl_World,T.n_World_carries,_,rfl,zf (by decide),fun kc hkc=>?_⟩
  have w4:=w3.mono (Same.upd (o:=.tup [.str x.h,.str x.l]) hkc)
  have gr4:=Same.upd (o:=.tup [.str x.h,.str x.l]) hkc _ _ gr3
  have gp4:=Same.upd (o:=.tup [.str x.h,.str x.l]) hkc _ _ gp3
  have b14:=b13.trans (.of (Same.upd (o:=.tup [.str x.h,.str x.l]) hkc))
  have gk4:upd H3 kc (.tup [.str x.h,.str x.l]) kc=some (.tup ([Sum.inr x.h,Sum.inr lkQ].map kV)):=by rw[z9,hl];rfl
  generalize upd H3 kc (.tup [.str x.h,.str x.l])=H4 at w4 gr4 gp4 b14 gk4⊢
  obtain⟨kv,c1,c2⟩:=w4.gc
  refine⟨_,rfl,_,DPut.t (k:=[Sum.inr x.h,Sum.inr lkQ]) c1 gk4 (x00 (by have:=c2.1;show _<1000000;exact x1l this (x1r r2 (by decide))) (zf (xi _))),?_⟩
  have w5:=w4.carry c1 c2 x.h (.ref pc) r2
  have gr5:upd H4 A.ca (.dT (putK kv [Sum.inr x.h,Sum.inr lkQ] (.ref pc))) r=_:=(BtA.upd H4 A.ca _) _ _ gr4 (fun m=>by rw[xg.mp m,c1]at gr4;cases gr4)
  have gp5:upd H4 A.ca (.dT (putK kv [Sum.inr x.h,Sum.inr lkQ] (.ref pc))) p=_:=(BtA.upd H4 A.ca _) _ _ gp4 (fun m=>by rw[xg.mp m,c1]at gp4;cases gp4)
  have b15:=b14.trans ((BtA.upd H4 A.ca (.dT (putK kv [Sum.inr x.h,Sum.inr lkQ] (.ref pc)))).sub (L':=Wl A) (by simp[Wl]))
  generalize upd H4 A.ca (.dT (putK kv [Sum.inr x.h,Sum.inr lkQ] (.ref pc)))=H5 at w5 gr5 gp5 b15⊢
  obtain⟨wa5,y5,-,-⟩:=w5.ix
  obtain⟨D,d1,d2⟩:=w5.ge
  refine⟨_,_,_,y5,T.cl_World,T.n_World_ends,_,rfl,_,rfl,?_⟩
  refine⟨_,DPut.k (k:=Sum.inl (S.now+x.e)) d1 (x00 (by have:=d2.1;show _<1000000;exact x1l this (x1r r3 (by decide))) (zf (xi _))),?_⟩
  have w6:=w5.ends d1 d2 (S.now+x.e) (.bl true) r3
  have gr6:upd H5 A.en (.dK (putK D (Sum.inl (S.now+x.e)) (.bl true))) r=_:=(BtA.upd H5 A.en _) _ _ gr5 (fun m=>by rw[xg.mp m,d1]at gr5;cases gr5)
  have gp6:upd H5 A.en (.dK (putK D (Sum.inl (S.now+x.e)) (.bl true))) p=_:=(BtA.upd H5 A.en _) _ _ gp5 (fun m=>by rw[xg.mp m,d1]at gp5;cases gp5)
  have b16:=b15.trans ((BtA.upd H5 A.en (.dK (putK D (Sum.inl (S.now+x.e)) (.bl true)))).sub (L':=Wl A) (by simp[Wl]))
  generalize upd H5 A.en (.dK (putK D (Sum.inl (S.now+x.e)) (.bl true)))=H6 at w6 gr6 gp6 b16⊢
  obtain⟨wa6,y6,-,-⟩:=w6.ix
  refine⟨_,_,_,y6,T.cl_World,T.n_World_logged,_,rfl,.inl ⟨_,SqL.of w6.lg⟩,_,_,_,y6,T.cl_World,T.n_World_now,_,rfl,?_⟩
  refine⟨_,_,_,_,rfl,rfl,SqT.of gr6,zi (j:=0) rfl,_,_,_,_,rfl,rfl,SqT.of gr6,zi (j:=1) rfl,p,rfl,_,.inl ⟨SqL.of gp6,fun l hl0=>⟨zf (by decide),fun t ht=>?_⟩⟩⟩
  have gl:upd H6 l (.tup (z19 (List.range n))) l=some (.tup (z19 (List.range n))):=z9
  have w7:=w6.mono (Same.upd (o:=.tup (z19 (List.range n))) hl0)
  have b17:=b16.trans (.of (Same.upd (o:=.tup (z19 (List.range n))) hl0))
  generalize upd H6 l (.tup (z19 (List.range n)))=H7 at w7 b17 gl ht⊢
  have e8:([V.str (Str.ofString "given"),V.int S.now,V.str x.h,V.str x.l,V.bl x.sh,V.int ((S.N.length:Int)+1),V.int (S.now+x.e),V.ref l]:List V)=lgV l (.giv S.now (z28 S x)):=rfl
  rw[e8]
  have s8:=Same.upd (o:=.tup (lgV l (.giv S.now (z28 S x)))) ht
  have w8:=w7.mono s8
  have b18:=b17.trans (.of s8)
  have gt:upd H7 t (.tup (lgV l (.giv S.now (z28 S x)))) t=some (.tup (lgV l (.giv S.now (z28 S x)))):=z9
  have gl8:=s8 _ _ gl
  generalize upd H7 t (.tup (lgV l (.giv S.now (z28 S x))))=H8 at w8 b18 gt gl8⊢
  refine⟨_,_,_,rfl,rfl,w8.lg,by rw[x5];exact z7t (show S.T.length<=1000 from x20 (x1r r4 (by decide))),?_⟩
  refine q t l _ (w8.logd (t,l,.giv S.now (z28 S x)) (fun y m=>?_) r4) (b18.trans ((BtA.upd H8 A.lo _).sub (L':=Wl A) (by simp[Wl])))
  rw[xg.mp m]
  exact⟨gt,gl8⟩
noncomputable def zdc(CW CC CK:Addr):Sp:=fun vs H Q _=>∃(n:Nat)(A:Ad)(hs:List Str)(S:Sw),vs=[.ref A.x]/\WAt CW CC CK n A hs S H/\
 (((∀y∈S.R,z1i S y.2.h=false)/\∀H',Same H H'->Q .non H')\/∃(y:Addr×Nt)(R:NL),S.R=y::R/\z1i S y.2.h=true/\y.2.h∉S.N.map (·.h)/\z8o S/\(∀p p2,∀z∈(givS S y.2 p p2).R,z1i (givS S y.2 p p2) z.2.h=false)/\
  ∀(p p2:Addr)(H':Hp),WAt CW CC CK n A hs (givS S y.2 p p2) H'->BtA (Wl A) H H'->Q .non H')
theorem z99(F:MDef K yb "give_all" "World.give_all" z46 ["self"])(T:Txt K mg ya yc yo yb y9 yd ye yn yp yr yf yg yk yl yi yh ym yj)(y13:MHas P w K mg base CX0 8 yb "first_to_give" ["self"] (zhi yb ya yc))(y1o:MHas P w K mg base CX0 8 yb "give_to" ["self","asking"] (zg0 yb ya yc)):MHas P w K mg base CX0 9 yb "give_all" ["self"] (zdc yb ya yc):=by
 refine F.ok sc_World_give_all (fun vs H Q E h=>?_) (fun f cdv A outer s H vs Q E hr h=>?_)
 .obtain⟨n,A,hs,S,rfl,_⟩:=h
  rfl
 .obtain⟨n,A,hs,S,rfl,hw,q⟩:=h
  have hu:=hr.units0
  walk_at "%×-.ȥ+eȦƄpKǟ|Ʀ#ƅȧií&Ɔ>mʚÇqī-.ȥ+eȦƄÚŚ&"
  walk_at "rd"
  obtain⟨wa,x1,x2,-⟩:=hw.ix
  refine⟨_,_,x1,rfl,n,A,hs,S,rfl,hw,?_⟩
  rcases q with⟨hA,q⟩|⟨y,R,eR,fy,hy,hr4,hno,q⟩
  .refine .inl ⟨hA,fun H1 s1=>⟨fun m σ H'=>σ=[some (V.ref A.x),some V.non]/\Same H H',⟨0,rfl,s1⟩,?_⟩⟩
   rintro m σ H' ⟨rfl,s2⟩
   walk_at "rd"
   exact q H' s2
  .refine .inr ⟨y,R,eR,fy,fun H1 s1=>⟨fun m σ H'=>(m=1/\σ=[some (V.ref A.x),some (V.ref y.1)]/\Same H H')\/(m=0/\σ=[some (V.ref A.x),some V.non]/\∃p p2,WAt yb ya yc n A hs (givS S y.2 p p2) H'/\BtA (Wl A) H H'),⟨1,.inl ⟨rfl,rfl,s1⟩⟩,?_⟩⟩
   rintro m σ H' (⟨rfl,rfl,s2⟩|⟨rfl,rfl,p,p2,w2,b2⟩)
   .walk_at "rd"
    have my:y∈S.R:=by rw[eR];exact xp ..
    obtain⟨l1,l2,l3⟩:=hw.qs.2 y my
    refine⟨_,fun σ' H2 h=>h,_,_,s2 _ _ x1,rfl,n,A,hs,S,y.1,y.2,rfl,hw.mono s2,s2 _ _ (hw.tw y my),l1,l2,l3,fy,hy,hr4,fun p p2 H2 w2 b2=>?_⟩
    obtain⟨wa2,y1,-,-⟩:=w2.ix
    refine⟨_,_,y1,rfl,n,A,hs,_,rfl,w2,.inl ⟨hno p p2,fun H3 s3=>?_⟩⟩
    exact⟨0,by decide,.inr ⟨rfl,rfl,p,p2,w2.mono s3,((BtA.of s2).trans b2).trans (.of s3)⟩⟩
   .walk_at "rd"
    exact q p p2 H' w2 b2
noncomputable def zab(CW CC CK Pt:Addr):Sp:=fun vs H Q _=>∃(n:Nat) (A:Ad) (hs:List Str) (S:Sw) (a:Addr) (x:Nt),vs=[.ref A.x,.ref a]/\WAt CW CC CK n A hs S H/\H a=some (.tup x.vals)/\x.h.length<=1000/\x.l=lkQ/\x.sh=false/\z1i S x.h=false/\(∀ v∈S.N,v.h≠ "")/\tbM H Pt/\
 ∀(r:Str) (H':Hp),IsNm (cntC (z1p n S.N) x.h lkQ false S.now (List.range n)) r->r≠ ""->But1 Pt H H'->tbM H' Pt->Q (.str r) H'
theorem zac(F:MDef K yb "on_whom" "World.on_whom" z4k ["self","asking"])(T:Txt K mg ya yc yo yb y9 yd ye yn yp yr yf yg yk yl yi yh ym yj)(y1p:MHas P w K mg base CX0 5 ya "named" ["self","holder","lock","shared","tick"] (zhc ya yc y9))(y1w:Has P w K mg base 4 "ahead" ["row","holder"] (zcd))(y12:MHas P w K mg base CX0 7 yb "is_free" ["self","asking"] (zcg yb ya yc)):MHas P w K mg base CX0 8 yb "on_whom" ["self","asking"] (zab yb ya yc y9):=by
 refine F.ok sc_World_on_whom (fun vs H Q E h=>?_) (fun f cdv A outer s H vs Q E hr h=>?_)
 .obtain⟨n,A,hs,S,a,x,rfl,_⟩:=h
  rfl
 .obtain⟨n,A,hs,S,a,x,rfl,hw,ha,hh,hl,hsh,hf,hne,ht,q⟩:=h
  have hu:=hr.units0
  walk_at "%#ƥiżõ5ȡÇĘFǪʛ+5ʜ¯$ĵĶĶĶƝW'ŤXǠüŰ:êĮ1Ã:,ȢjĵäZ1"
  walk_at "rd"
  obtain⟨wa,x1,x2,-⟩:=hw.ix
  refine⟨fun _ _=>False,?_,fun _ _ z=>z.elim⟩
  walk_at "rd"
  refine⟨_,_,x1,rfl,n,A,hs,S,a,x,rfl,hw,ha,hl,hsh,fun H1 s1=>?_⟩
  have x11:=s1 _ _ x1
  obtain⟨lk,hc,nl⟩:=(hw.mono s1).cn
  obtain⟨dc,hob⟩:=hc.ob
  have hk:=hw.kn
  obtain⟨z1,z2,z3,-⟩:=hw.sz
  refine⟨_,rfl,?_⟩
  rw[hf,if_pos (by decide)]
  refine⟨_,_,_,x11,T.cl_World,T.n_World_council,_,rfl,_,rfl,_,_,hob,z4l _ _ (by decide+kernel) (by decide+kernel),?_⟩
  have ha1:=s1 _ _ ha
  refine⟨_,_,_,_,rfl,rfl,SqT.of ha1,zi (j:=1) rfl,_,_,_,_,rfl,rfl,SqT.of ha1,zi (j:=2) rfl,_,_,_,_,rfl,rfl,SqT.of ha1,zi (j:=3) rfl,_,_,_,x11,T.cl_World,T.n_World_now,_,rfl,?_⟩
  refine⟨A.c,A.cl,A.ks,lk,z1p n S.N,x.h,x.l,x.sh,S.now,rfl,hc,z56 z3,hh,by rw[hl];decide,TbOk.mono ht s1,fun r H2 hr2 b2 t2=>⟨rfl,?_⟩⟩
  rw[hk,z8l,hl,hsh]at hr2
  have nr:r≠ "":=fun e=>by
   rcases hr2 with⟨-,z⟩|⟨p,-⟩
   .have hf':z2p S.N x.h lkQ false S.now=false:=hf
    unfold z2p at hf'
    rw[Bool.not_eq_false',List.any_eq_true]at hf'
    obtain⟨v,hv,bv⟩:=hf'
    have z0:=z v.h
    unfold cntC at z0
    have m0:(0:Nat)∈(List.range n).filter fun j=>decide (v.h∈z63 (z1p n S.N) x.h lkQ false S.now j):=by
     refine xz.mpr ⟨x0l.mpr (by omega),?_⟩
     unfold z63 z1p
     rw[x0r,if_pos (by omega)]
     exact x05 (xw.mpr ⟨v,xz.mpr ⟨hv,bv⟩,rfl⟩)
    rw[x1i]at z0
    rw[z0]at m0
    cases m0
   .rw[e]at p
    unfold cntC at p
    obtain⟨j,hj⟩:=List.exists_mem_of_length_pos p
    have m:=x0c (xz.mp hj).2
    unfold z63 z1p at m
    rw[x0r,if_pos (x0l.mp (xz.mp hj).1)]at m
    obtain⟨v,hv,ev⟩:=xw.mp m
    exact hne v (xz.mp (xz.mp hv).1).1 ev
  rw[if_pos (by simpa using nr)]
  exact q r H2 hr2 nr (fun b o e nb=>b2 _ _ (s1 _ _ e) nb) t2
theorem znn{n:Nat}{N:List Nt}{hd lk r:Str}{sh:Bool}{tick:Int}(h:IsNm (cntC (z1p n N) hd lk sh tick (List.range n)) r)(nr:r≠ ""):∃ v∈N,v.h=r:=by
 rcases h with⟨e,-⟩|⟨p,-⟩
 .exact absurd e nr
 .unfold cntC at p
  obtain⟨j,hj⟩:=List.exists_mem_of_length_pos p
  have m:=x0c (xz.mp hj).2
  unfold z63 z1p at m
  rw[x0r,if_pos (x0l.mp (xz.mp hj).1)]at m
  obtain⟨v,hv,ev⟩:=xw.mp m
  exact⟨v,(xz.mp (xz.mp hv).1).1,ev⟩
theorem zoj(L:List (Str×Str))(a:Str):nx L a=""\/nx L a∈L.map (·.2):=by
 have g:∀(L:List (Str×Str))(z:Str),L.foldl (fun acc p=>if p.1=a then p.2 else acc) z=z\/L.foldl (fun acc p=>if p.1=a then p.2 else acc) z∈L.map (·.2):=by
  intro L
  induction L with
  |nil=>intro z;exact .inl rfl
  |cons p L ih=>
   intro z
   rw[x21,x0a]
   rcases ih (if p.1=a then p.2 else z) with h|h
   .rw[h]
    split
    .exact .inr (xp ..)
    .exact .inl rfl
   .exact .inr (xx _ h)
 exact g L ""
noncomputable def zhj(CW CC CK Pt:Addr):Sp:=fun vs H Q _=>∃(n:Nat) (A:Ad) (hs:List Str) (S:Sw),vs=[.ref A.x]/\WAt CW CC CK n A hs S H/\(∀ y∈S.R,z1i S y.2.h=false/\y.2.h≠ "")/\(∀ v∈S.N,v.h≠ ""/\∀ y∈S.R,y.2.h≠v.h)/\tbM H Pt/\
 ∀(H':Hp),But1 Pt H H'->tbM H' Pt->Q (.bl false) H'
theorem z7n(F:MDef K yb "break_ring" "World.break_ring" z3f ["self"])(T:Txt K mg ya yc yo yb y9 yd ye yn yp yr yf yg yk yl yi yh ym yj)(y1n:Has P w K mg base 2 "ring_of" ["waits","name"] (zfr K))(y1q:Has P w K mg base 3 "last_in_ring" ["waits"] (zko K))(y10:MHas P w K mg base CX0 1 yb "leave_row" ["self","holder"] (zci yb ya yc))(yz:MHas P w K mg base CX0 1 yb "asking_of" ["self","holder"] (zch yb ya yc))(y14:MHas P w K mg base CX0 8 yb "on_whom" ["self","asking"] (zab yb ya yc y9)):MHas P w K mg base CX0 9 yb "break_ring" ["self"] (zhj yb ya yc y9):=by
 refine F.ok sc_World_break_ring (fun vs H Q E h=>?_) (fun f cdv A outer s H vs Q E hr h=>?_)
 .obtain⟨n,A,hs,S,rfl,_⟩:=h
  rfl
 .obtain⟨n,A,hs,S,rfl,hw,hR,hN,ht,q⟩:=h
  have hu:=hr.units0
  walk_at "%LƓƨdǔĥº-ËĒǫÌðvuÎ5Ȩ³«)4¥ċÍFǪǫ+,ʝÉâp=`ǧüŰĄĹFúǫ+ȩ5Ȫƃ0¥ȫ¿>mȤƃ0¥]Īw7ĸ©ĉư)Ʊǩ(Ʋs,ȖÉôZcŒc÷ÿ6ĄÊ¢"
  walk_at "rd"
  obtain⟨wa,x1,x2,-⟩:=hw.ix
  have hs8:=hw.sz.2.2.2.1
  have kp:∀{H':Hp},But1 y9 H H'->WAt yb ya yc n A hs S H':=fun b=>hw.keep b (.inr ht.some)
  refine⟨_,_,_,x1,T.cl_World,T.n_World_waiting,_,rfl,_,rfl,⟨_,SqL.of x2⟩,?_⟩
  have pm:∀{H':Hp}{b:Addr}{o:HO},But1 y9 H H'->H b=some o->(∀ps,o≠.tbl ps)->H' b=some o:=fun{H' b o} bt e no=>bt _ _ e fun z=>by
   obtain⟨ps,hps⟩:=ht.some
   rw[z,hps]at e
   exact no _ (xq e).symm
  refine z14 (xs:=refs S.R) (by rw[zw];exact zf (by omega)) (fun i acc H'=>∃L:PL,acc=z2y L/\L.length=i/\PairsAt H' L/\(∀q∈L,(∃y∈S.R,y.2.h=q.2.1)/\∃v∈S.N,v.h=q.2.2)/\But1 y9 H H'/\tbM H' y9) ⟨[],rfl,rfl,(fun q m=>by cases m),(fun q m=>by cases m),fun b o e _=>e,ht⟩ ?_ ?_ ?_ ?_
  .rintro i acc H' ⟨L,rfl,hl,-⟩
   rw[z64,hl]
   exact xi _
  .rintro i acc H' ⟨L,-,-,-,-,b,-⟩
   exact SqL.of (pm b x2 (by intros;nofun))
  .rintro Nn i acc H' x hN' hx hi ⟨L,rfl,hl,hL,hq,b,t⟩
   obtain⟨y,hy,rfl⟩:=z25 hx
   have my:=xf hy
   obtain⟨l1,l2,l3⟩:=hw.qs.2 y my
   have w':=kp b
   have ty:=w'.tw y my
   obtain⟨wa',x1',-,-⟩:=w'.ix
   walk_at "rd"
   refine⟨_,_,_,_,rfl,rfl,SqT.of ty,zi (j:=1) rfl,_,_,x1',rfl,n,A,hs,S,y.1,y.2,rfl,w',ty,l1,l2,l3,(hR y my).1,fun v m=>(hN v m).1,t,fun r H2 hr nr b2 t2=>?_⟩
   refine⟨zf (by decide),fun p hp=>?_⟩
   have hv:=znn hr nr
   have b3:But1 y9 H (upd H2 p (.tup [.str y.2.h,.str r])):=fun c o e nc=>Same.upd hp _ _ (b2 _ _ (b _ _ e nc) nc)
   refine hN' _ _ ⟨L++[(p,y.2.h,r)],by unfold z2y;rw[x04];rfl,by rw[xt,hl];rfl,fun q m=>?_,fun q m=>?_,b3,TbOk.mono t2 (Same.upd hp)⟩
   .rcases x02.mp m with m|m
    .refine Same.upd hp _ _ (b2 _ _ (hL q m) fun z=>?_)
     obtain⟨ps,hps⟩:=t.some
     have e:=hL q m
     rw[z,hps]at e
     cases e
    .rw[xg.mp m];exact z9
   .rcases x02.mp m with m|m
    .exact hq q m
    .rw[xg.mp m];exact⟨⟨y,my,rfl⟩,hv⟩
  rintro acc H' ⟨L,rfl,hl,hL,hq,b,t⟩ p hp
  rw[zw]at hl
  have s1:=Same.upd (o:=.lst (z2y L)) hp
  refine⟨p,L,rfl,SqL.of z9,hL.mono s1,by omega,fun q m=>?_,fun H2 s2=>⟨rfl,?_⟩⟩
  .obtain⟨⟨y,my,e⟩,-⟩:=hq q m
   rw[<-e]
   exact(hR y my).2
  have e0:z55 (nx (L.map (·.2))) (L.map (·.2))="":=by
   have:=za8 (nx (L.map (·.2))) (L.map (·.2)) [] fun x hx=>by
    obtain⟨q,m,rfl⟩:=xw.mp hx
    rintro⟨k,-,hk⟩
    obtain⟨⟨y,my,e⟩,-⟩:=hq q m
    have hk:nx (L.map (·.2)) (itr (nx (L.map (·.2))) q.2.1 k)=q.2.1:=hk
    rcases zoj (L.map (·.2)) (itr (nx (L.map (·.2))) q.2.1 k) with z|z
    .rw[hk]at z
     exact(hR y my).2 (e.trans z)
    .rw[hk]at z
     obtain⟨x2,hx2,e2⟩:=xw.mp z
     obtain⟨q2,m2,rfl⟩:=xw.mp hx2
     obtain⟨-,v,hv,ev⟩:=hq q2 m2
     exact(hN v hv).2 y my (by rw[e,ev];exact e2.symm)
   rw[List.nil_append]at this
   rw[this]
   rfl
  rw[e0,if_pos (by decide)]
  exact q H2 (fun c o e nc=>s2 _ _ (s1 _ _ (b _ _ e nc))) (TbOk.mono t (s1.trans s2))
theorem WAt.wl{CW CC CK:Addr}{n:Nat}{A:Ad}{hs:List Str}{S:Sw}{H:Hp}(hw:WAt CW CC CK n A hs S H):∀q∈Wl A,(∃C d f,H q=some (.ins C d f))\/(∃x,H q=some (.dT x))\/(∃x,H q=some (.dK x))\/(q=A.lo/\∃x,H q=some (.lst x)):=fun q m=>by
 obtain⟨wa,x1,-,-⟩:=hw.ix
 obtain⟨kv,c1,-⟩:=hw.gc
 obtain⟨D,d1,-⟩:=hw.ge
 obtain⟨lk,hc,-⟩:=hw.cn
 simp only[Wl,xk]at m
 rcases m with rfl|rfl|rfl|rfl|m
 .exact .inl ⟨_,_,_,x1⟩
 .exact .inr (.inl ⟨_,c1⟩)
 .exact .inr (.inr (.inl ⟨_,d1⟩))
 .exact .inr (.inr (.inr ⟨rfl,_,hw.lg⟩))
 .obtain⟨_,_,e⟩:=hc.mem m
  exact .inl ⟨_,_,_,e⟩
theorem WAt.notW{CW CC CK:Addr}{n:Nat}{A:Ad}{hs:List Str}{S:Sw}{H:Hp}(hw:WAt CW CC CK n A hs S H){a:Addr}{o:HO}(e:H a=some o)(n1:∀C d f,o≠.ins C d f)(n2:∀x,o≠.dT x)(n3:∀x,o≠.dK x)(n4:a≠A.lo\/∀x,o≠.lst x):a∉Wl A:=fun m=>by
 rcases hw.wl a m with⟨_,_,_,z⟩|⟨_,z⟩|⟨_,z⟩|⟨y,_,z⟩<;>rw[e]at z<;>have z:=xq z
 .exact n1 _ _ _ z
 .exact n2 _ z
 .exact n3 _ z
 .exact n4.elim (fun w=>w y) fun w=>w _ z
theorem WAt.freshW{CW CC CK:Addr}{n:Nat}{A:Ad}{hs:List Str}{S:Sw}{H:Hp}(hw:WAt CW CC CK n A hs S H){a:Addr}(e:H a=none):a∉Wl A:=fun m=>by
 rcases hw.wl a m with⟨_,_,_,z⟩|⟨_,z⟩|⟨_,z⟩|⟨y,_,z⟩<;>rw[e]at z<;>cases z
theorem zkt{CW CC CK:Addr}{n:Nat}{A:Ad}{hs:List Str}{S:Sw}{H H':Hp}{Pt:Addr}{ps:Pos}{nm:Str}(t:TbOk H Pt ps nm)(hw:WAt CW CC CK n A hs S H){L:List Addr}(hL:∀p∈L,Pt≠p/\∃ps,H p=some (.tbl ps))(b:BtA (L++Wl A) H H'):TbOk H' Pt ps nm:=by
 have k:∀{a:Addr}{o:HO},H a=some o->a∉L->(∀C d f,o≠.ins C d f)->(∀x,o≠.dT x)->(∀x,o≠.dK x)->(∀x,o≠.lst x)->H' a=some o:=fun{a o} e nl n1 n2 n3 n4=>b _ _ e fun m=>(x02.mp m).elim nl (hw.notW e n1 n2 n3 (.inr n4))
 have np:Pt∉L:=fun m=>(hL _ m).1 rfl
 rcases t with h|⟨c',h,h2⟩
 .exact .inl (k h np (by intros;nofun) (by intros;nofun) (by intros;nofun) (by intros;nofun))
 .refine .inr ⟨c',k h np (by intros;nofun) (by intros;nofun) (by intros;nofun) (by intros;nofun),k h2 (fun m=>?_) (by intros;unfold z3y;nofun) (by intros;unfold z3y;nofun) (by intros;unfold z3y;nofun) (by intros;unfold z3y;nofun)⟩
  obtain⟨ps,e⟩:=(hL _ m).2
  rw[e]at h2
  unfold z3y at h2
  cases h2
theorem z6s{CW CC CK:Addr}{n:Nat}{A:Ad}{hs:List Str}{S:Sw}{H H':Hp}{Pt:Addr}{ps:Pos}{nm:Str}(t:TbOk H Pt ps nm)(hw:WAt CW CC CK n A hs S H)(b:BtA (Wl A) H H'):TbOk H' Pt ps nm:=zkt t hw (L:=[]) (fun p m=>by cases m) b
theorem zbl{CW CC CK:Addr}{n:Nat}{A:Ad}{hs:List Str}{S:Sw}{H H':Hp}{Pt Pt2:Addr}{ps:Pos}{nm:Str}(t:TbOk H Pt2 ps nm)(hw:WAt CW CC CK n A hs S H)(h:∃ps,H Pt=some (.tbl ps))(b:BtA (Pt::Wl A) H H')(ne:Pt2≠Pt):TbOk H' Pt2 ps nm:=zkt t hw (L:=[Pt]) (fun p m=>by rw[xg.mp m];exact⟨ne,h⟩) b
noncomputable def zad(CW CC CK Pt:Addr):Sp:=fun vs H Q _=>∃(n:Nat) (A:Ad) (hs:List Str) (S:Sw),vs=[.ref A.x]/\WAt CW CC CK n A hs S H/\tbM H Pt/\(∀ y∈S.R,y.2.h≠ ""/\∀ v∈S.N,y.2.h≠v.h)/\(∀ v∈S.N,v.h≠ "")/\
 (((∀y∈S.R,z1i S y.2.h=false)/\∀H',But1 Pt H H'->tbM H' Pt->Q .non H')\/∃(y:Addr×Nt)(R:NL),S.R=y::R/\z1i S y.2.h=true/\z8o S/\(∀p p2,∀z∈(givS S y.2 p p2).R,z1i (givS S y.2 p p2) z.2.h=false)/\
  ∀(p p2:Addr)(H':Hp),WAt CW CC CK n A hs (givS S y.2 p p2) H'->BtA (Pt::Wl A) H H'->tbM H' Pt->Q .non H')
theorem zbm(F:MDef K yb "settle" "World.settle" z4v ["self"])(T:Txt K mg ya yc yo yb y9 yd ye yn yp yr yf yg yk yl yi yh ym yj)(y1d:MHas P w K mg base CX0 9 yb "give_all" ["self"] (zdc yb ya yc))(y1g:MHas P w K mg base CX0 9 yb "break_ring" ["self"] (zhj yb ya yc y9)):MHas P w K mg base CX0 10 yb "settle" ["self"] (zad yb ya yc y9):=by
 refine F.ok zb7 (fun vs H Q E h=>?_) (fun f cdv A outer s H vs Q E hr h=>?_)
 .obtain⟨n,A,hs,S,rfl,_⟩:=h
  rfl
 .obtain⟨n,A,hs,S,rfl,hw,ht,hR,hN,q⟩:=h
  have hu:=hr.units0
  walk_at "%LåeȬƄqǟ|Ʀ#keʞƄãKåeȬǬW?"
  walk_at "rd"
  obtain⟨wa,x1,x2,-⟩:=hw.ix
  refine⟨_,_,x1,rfl,n,A,hs,S,rfl,hw,?_⟩
  rcases q with⟨hA,q⟩|⟨y,R,eR,fy,hr4,hno,q⟩
  .refine .inl ⟨hA,fun H1 s1=>⟨fun m σ H'=>σ=[some (V.ref A.x)]/\Same H H',⟨0,rfl,s1⟩,?_⟩⟩
   rintro m σ H' ⟨rfl,s2⟩
   walk_at "rd"
   refine⟨_,_,s2 _ _ x1,rfl,n,A,hs,S,rfl,hw.mono s2,fun z m=>⟨hA z m,(hR z m).1⟩,fun v m=>⟨hN v m,fun z mz=>(hR z mz).2 v m⟩,TbOk.mono ht s2,fun H3 b3 t3=>?_⟩
   refine⟨_,rfl,?_⟩
   rw[if_neg (by decide)]
   exact q H3 (fun b o e nb=>b3 _ _ (s2 _ _ e) nb) t3
  .have my:y∈S.R:=by rw[eR];exact xp ..
   refine .inr ⟨y,R,eR,fy,fun m=>?_,hr4,hno,fun p p2 H1 w1 b1=>?_⟩
   .obtain⟨v,hv,e⟩:=xw.mp m
    exact(hR y my).2 v hv e.symm
   have t1:tbM H1 y9:=z6s ht hw b1
   refine⟨fun m σ H'=>σ=[some (V.ref A.x)]/\H'=H1,⟨0,rfl,rfl⟩,?_⟩
   rintro m σ H' ⟨rfl,rfl⟩
   walk_at "rd"
   obtain⟨wa1,y1,-,-⟩:=w1.ix
   refine⟨_,_,y1,rfl,n,A,hs,_,rfl,w1,fun z m=>⟨hno p p2 z m,(hR z (xz.mp m).1).1⟩,fun v m=>?_,t1,fun H3 b3 t3=>?_⟩
   .rcases x02.mp m with m|m
    .exact⟨hN v m,fun z mz=>(hR z (xz.mp mz).1).2 v m⟩
    .rw[xg.mp m]
     exact⟨(hR y my).1,fun z mz=>x0c (xz.mp mz).2⟩
   .refine⟨_,rfl,?_⟩
    rw[if_neg (by decide)]
    obtain⟨ps,hps⟩:=t1.some
    exact q p p2 H3 (w1.keep b3 (.inr ⟨ps,hps⟩)) (fun b o e m=>b3 _ _ (b1 _ _ e fun z=>m (xx _ z)) fun z=>m (by rw[z];exact xp ..)) t3
noncomputable def zg1:Sp:=fun vs H Q _=>∃n:Int,vs=[.int n]/\1<=n/\n<=1000/\Q .non H
theorem zdx(F:Def K mg "check_time" z5t ["ticks"])(T:Txt K mg ya yc yo yb y9 yd ye yn yp yr yf yg yk yl yi yh ym yj):Has P w K mg base 1 "check_time" ["ticks"] (zg1):=by
 refine F.ok zds (fun vs H Q E h=>?_) (fun f cdv A outer s H vs Q E hr h=>?_)
 .obtain⟨n,rfl,_⟩:=h
  rfl
 .obtain⟨n,rfl,h1,h2,q⟩:=h
  walk_at "%#XǈȉŞ/çàʟ9ʠÅÂGƇ&"
  walk_at "rd"
  rw[if_pos (x05 h1),if_neg (by simpa using h2)]
  exact q
noncomputable def zae(CW CC CK:Addr):Sp:=fun vs H Q _=>∃(n:Nat)(A:Ad)(hs:List Str)(S:Sw)(z:Str),vs=[.ref A.x,.str z]/\WAt CW CC CK n A hs S H/\hs.length<=60/\z∈hs/\Q .non H
theorem z6t(F:MDef K yb "check_holder" "World.check_holder" z2w ["self","holder"])(T:Txt K mg ya yc yo yb y9 yd ye yn yp yr yf yg yk yl yi yh ym yj):MHas P w K mg base CX0 1 yb "check_holder" ["self","holder"] (zae yb ya yc):=by
 refine F.ok z6o (fun vs H Q E h=>?_) (fun f cdv A outer s H vs Q E hr h=>?_)
 .obtain⟨n,A,hs,S,z,rfl,_⟩:=h
  rfl
 .obtain⟨n,A,hs,S,z,rfl,hw,hl,hz,q⟩:=h
  have hu:=hr.units0
  walk_at "%#Xű~tş$Ƈ&"
  walk_at "rd"
  obtain⟨wa,x1,-,-⟩:=hw.ix
  refine⟨_,_,_,x1,T.cl_World,T.n_World_holders,_,rfl,A.lh,_,rfl,.inl (SqL.of hw.gh),rfl,z1w hs,_,rfl,?_⟩
  rw[if_pos rfl,z6r,x05 hz,if_neg (by decide)]
  exact q
noncomputable def zg2(CW CC CK:Addr):Sp:=fun vs H Q _=>∃(n:Nat)(A:Ad)(hs:List Str)(S:Sw),vs=[.ref A.x,.str lkQ]/\WAt CW CC CK n A hs S H/\Q .non H
theorem z7o(F:MDef K yb "check_lock" "World.check_lock" z3e ["self","lock"])(T:Txt K mg ya yc yo yb y9 yd ye yn yp yr yf yg yk yl yi yh ym yj):MHas P w K mg base CX0 1 yb "check_lock" ["self","lock"] (zg2 yb ya yc):=by
 refine F.ok z7k (fun vs H Q E h=>?_) (fun f cdv A outer s H vs Q E hr h=>?_)
 .obtain⟨n,A,hs,S,rfl,_⟩:=h
  rfl
 .obtain⟨n,A,hs,S,rfl,hw,q⟩:=h
  have hu:=hr.units0
  walk_at "%#Xű~tş$Ƈ&"
  walk_at "rd"
  obtain⟨wa,x1,-,-⟩:=hw.ix
  refine⟨_,_,_,x1,T.cl_World,T.n_World_locks,_,rfl,A.ll,_,rfl,.inl (SqL.of hw.gk),rfl,z1w ["q"],_,rfl,?_⟩
  rw[if_pos rfl,if_neg (by decide)]
  exact q
noncomputable def zhk(CW CC CK:Addr):Sp:=fun vs H Q _=>∃(n:Nat)(A:Ad)(hs:List Str)(S:Sw)(z:Str),vs=[.ref A.x,.str z]/\WAt CW CC CK n A hs S H/\Q .non H
theorem z7b(F:MDef K yb "check_awake" "World.check_awake" z35 ["self","holder"])(T:Txt K mg ya yc yo yb y9 yd ye yn yp yr yf yg yk yl yi yh ym yj):MHas P w K mg base CX0 1 yb "check_awake" ["self","holder"] (zhk yb ya yc):=by
 refine F.ok z76 (fun vs H Q E h=>?_) (fun f cdv A outer s H vs Q E hr h=>?_)
 .obtain⟨n,A,hs,S,z,rfl,_⟩:=h
  rfl
 .obtain⟨n,A,hs,S,z,rfl,hw,q⟩:=h
  have hu:=hr.units0
  have hu2:=z3l hr
  walk_at "%#Xƅǭŭ~t%ƆƇ&"
  walk_at "rd"
  obtain⟨wa,x1,-,-⟩:=hw.ix
  refine⟨_,_,_,x1,T.cl_World,T.n_World_asleep_since,_,rfl,_,rfl,_,DGet.k (k:=Sum.inr z) hw.gs,?_⟩
  exact q
noncomputable def zku(CW CC CK:Addr):Sp:=fun vs H Q _=>∃(n:Nat)(A:Ad)(hs:List Str)(S:Sw),vs=[.ref A.x]/\WAt CW CC CK n A hs S H/\∀(r:Addr)(H':Hp),H r=none->H' r=some (.lst (refs S.R))->Same H H'->Q (.ref r) H'
theorem zg3(F:MDef K yb "row" "World.row" z6d ["self"])(T:Txt K mg ya yc yo yb y9 yd ye yn yp yr yf yg yk yl yi yh ym yj):MHas P w K mg base CX0 1 yb "row" ["self"] (zku yb ya yc):=by
 refine F.ok zfi (fun vs H Q E h=>?_) (fun f cdv A outer s H vs Q E hr h=>?_)
 .obtain⟨n,A,hs,S,rfl,_⟩:=h
  rfl
 .obtain⟨n,A,hs,S,rfl,hw,q⟩:=h
  walk_at "%YĊŝ&"
  walk_at "rd"
  obtain⟨wa,x1,x2,-⟩:=hw.ix
  exact⟨_,_,_,x1,T.cl_World,T.n_World_waiting,_,rfl,_,rfl,_,.inl (SqL.of x2),fun r hr=>q r _ hr z9 (Same.upd hr)⟩
noncomputable def zkv(CW CC CK:Addr):Sp:=fun vs H Q _=>∃(n:Nat)(A:Ad)(hs:List Str)(S:Sw),vs=[.ref A.x]/\WAt CW CC CK n A hs S H/\∀(r:Addr)(H':Hp),H r=none->H' r=some (.lst (S.T.map fun q=>V.ref q.1))->Same H H'->Q (.ref r) H'
theorem zg4(F:MDef K yb "log" "World.log" z6e ["self"])(T:Txt K mg ya yc yo yb y9 yd ye yn yp yr yf yg yk yl yi yh ym yj):MHas P w K mg base CX0 1 yb "log" ["self"] (zkv yb ya yc):=by
 refine F.ok zfj (fun vs H Q E h=>?_) (fun f cdv A outer s H vs Q E hr h=>?_)
 .obtain⟨n,A,hs,S,rfl,_⟩:=h
  rfl
 .obtain⟨n,A,hs,S,rfl,hw,q⟩:=h
  walk_at "%YĊŝ&"
  walk_at "rd"
  obtain⟨wa,x1,x2,-⟩:=hw.ix
  exact⟨_,_,_,x1,T.cl_World,T.n_World_logged,_,rfl,_,rfl,_,.inl (SqL.of hw.lg),fun r hr=>q r _ hr z9 (Same.upd hr)⟩
noncomputable def zg5(CW CC CK:Addr):Sp:=fun vs H Q _=>∃(n:Nat)(A:Ad)(hs:List Str)(S:Sw)(z:Str)(t:Int),vs=[.ref A.x,.str z,.str lkQ,.bl false,.int t]/\WAt CW CC CK n A hs S H/\hs.length<=60/\z∈hs/\1<=t/\t<=1000/\(∀y∈S.R,y.2.h≠z)/\z∉S.C/\∀H',Same H H'->Q .non H'
theorem z6u(F:MDef K yb "check_asking" "World.check_asking" z2x ["self","holder","lock","shared","time"])(T:Txt K mg ya yc yo yb y9 yd ye yn yp yr yf yg yk yl yi yh ym yj)(y19:Has P w K mg base 1 "check_time" ["ticks"] (zg1))(yw:MHas P w K mg base CX0 1 yb "check_holder" ["self","holder"] (zae yb ya yc))(yy:MHas P w K mg base CX0 1 yb "check_lock" ["self","lock"] (zg2 yb ya yc))(y1f:MHas P w K mg base CX0 1 yb "check_awake" ["self","holder"] (zhk yb ya yc))(yz:MHas P w K mg base CX0 1 yb "asking_of" ["self","holder"] (zch yb ya yc)):MHas P w K mg base CX0 2 yb "check_asking" ["self","holder","lock","shared","time"] (zg5 yb ya yc):=by
 refine F.ok z6p (fun vs H Q E h=>?_) (fun f cdv A outer s H vs Q E hr h=>?_)
 .obtain⟨n,A,hs,S,z,t,rfl,_⟩:=h
  rfl
 .obtain⟨n,A,hs,S,z,t,rfl,hw,hl,hz,h1,h2,hR,hC,q⟩:=h
  have hu:=hr.units0
  have hu2:=z3l hr
  walk_at "%LmȭÇ]mȮƃ0¥]å,ȯßūâ]mʡÇ6=ƅȧi5ȪÇ%ƆÐ=Àƅǭŭ#ÑUôJTt%ƆÁŋw¾#¾wÑUôQŶŇ$ÐXÀkď%ãÁűųtşŲƇ¢"
  walk_at "rd"
  obtain⟨wa,x1,-,-⟩:=hw.ix
  refine⟨_,_,x1,rfl,n,A,hs,S,z,rfl,hw,hl,hz,_,_,x1,rfl,n,A,hs,S,rfl,hw,t,rfl,h1,h2,_,_,x1,rfl,n,A,hs,S,z,rfl,hw,_,_,x1,rfl,n,A,hs,S,z,rfl,hw,hR,?_⟩
  show(if(!decide (V.non=V.non))=true then False else _)
  rw[if_neg (by simp)]
  refine⟨zf (by decide),fun p hp=>?_⟩
  have s1:=Same.upd (o:=.tup [.str z,.str lkQ]) hp
  have w1:=hw.mono s1
  have gk:upd H p (.tup [.str z,.str lkQ]) p=some (.tup ([Sum.inr z,Sum.inr lkQ].map kV)):=z9
  generalize upd H p (.tup [.str z,.str lkQ])=H1 at s1 w1 gk⊢
  obtain⟨wa1,y1,-,-⟩:=w1.ix
  obtain⟨kv,c1,c2⟩:=w1.gc
  refine⟨_,_,_,y1,T.cl_World,T.n_World_carries,_,rfl,_,rfl,_,DGet.t (k:=[Sum.inr z,Sum.inr lkQ]) c1 gk,?_⟩
  rw[c2.2 z,x0j hC,if_neg (by decide)]
  exact q _ s1
noncomputable def zg6(CW CC CK Pt:Addr):Sp:=fun vs H Q _=>∃(n:Nat) (A:Ad) (hs:List Str) (S:Sw) (z:Str),vs=[.ref A.x,.str z]/\WAt CW CC CK n A hs S H/\hs.length<=60/\z∈hs/\z≠ ""/\(∀ y∈S.R,z1i S y.2.h=false)/\(∀ v∈S.N,v.h≠ "")/\tbM H Pt/\
 ∀(r:Addr)(H':Hp),But1 Pt H H'->tbM H' Pt->Q (.ref r) H'
theorem zcj(F:MDef K yb "chain" "World.chain" z5e ["self","holder"])(T:Txt K mg ya yc yo yb y9 yd ye yn yp yr yf yg yk yl yi yh ym yj)(y1i:Has P w K mg base 1 "chain_of" ["waits","name"] (zcc K))(yw:MHas P w K mg base CX0 1 yb "check_holder" ["self","holder"] (zae yb ya yc))(y14:MHas P w K mg base CX0 8 yb "on_whom" ["self","asking"] (zab yb ya yc y9)):MHas P w K mg base CX0 9 yb "chain" ["self","holder"] (zg6 yb ya yc y9):=by
 refine F.ok zc7 (fun vs H Q E h=>?_) (fun f cdv A outer s H vs Q E hr h=>?_)
 .obtain⟨n,A,hs,S,z,rfl,_⟩:=h
  rfl
 .obtain⟨n,A,hs,S,z,rfl,hw,hl,hz,nz,hR,hN,ht,q⟩:=h
  have hu:=hr.units0
  walk_at "%LmȭÇ6:,ȓjrƨdǔĥïŊðvuÎ5Ȩ³«)4¥ċ3ŦZ1"
  walk_at "rd"
  obtain⟨wa,x1,x2,-⟩:=hw.ix
  have hs8:=hw.sz.2.2.2.1
  have kp:∀{H':Hp},But1 y9 H H'->WAt yb ya yc n A hs S H':=fun b=>hw.keep b (.inr ht.some)
  refine⟨_,_,x1,rfl,n,A,hs,S,z,rfl,hw,hl,hz,_,_,_,x1,T.cl_World,T.n_World_waiting,_,rfl,_,rfl,⟨_,SqL.of x2⟩,?_⟩
  have pm:∀{H':Hp}{b:Addr}{o:HO},But1 y9 H H'->H b=some o->(∀ps,o≠.tbl ps)->H' b=some o:=fun{H' b o} bt e no=>bt _ _ e fun z=>by
   obtain⟨ps,hps⟩:=ht.some
   rw[z,hps]at e
   exact no _ (xq e).symm
  refine z14 (xs:=refs S.R) (by rw[zw];exact zf (by omega)) (fun i acc H'=>∃L:PL,acc=z2y L/\L.length=i/\PairsAt H' L/\But1 y9 H H'/\tbM H' y9) ⟨[],rfl,rfl,(fun q m=>by cases m),fun b o e _=>e,ht⟩ ?_ ?_ ?_ ?_
  .rintro i acc H' ⟨L,rfl,hl,-⟩
   rw[z64,hl]
   exact xi _
  .rintro i acc H' ⟨L,-,-,-,b,-⟩
   exact SqL.of (pm b x2 (by intros;nofun))
  .rintro Nn i acc H' x hN' hx hi ⟨L,rfl,hl,hL,b,t⟩
   obtain⟨y,hy,rfl⟩:=z25 hx
   have my:=xf hy
   obtain⟨l1,l2,l3⟩:=hw.qs.2 y my
   have w':=kp b
   have ty:=w'.tw y my
   obtain⟨wa',x1',-,-⟩:=w'.ix
   walk_at "rd"
   refine⟨_,_,_,_,rfl,rfl,SqT.of ty,zi (j:=1) rfl,_,_,x1',rfl,n,A,hs,S,y.1,y.2,rfl,w',ty,l1,l2,l3,hR y my,hN,t,fun r H2 hr nr b2 t2=>?_⟩
   refine⟨zf (by decide),fun p hp=>?_⟩
   have b3:But1 y9 H (upd H2 p (.tup [.str y.2.h,.str r])):=fun c o e nc=>Same.upd hp _ _ (b2 _ _ (b _ _ e nc) nc)
   refine hN' _ _ ⟨L++[(p,y.2.h,r)],by unfold z2y;rw[x04];rfl,by rw[xt,hl];rfl,fun q m=>?_,b3,TbOk.mono t2 (Same.upd hp)⟩
   rcases x02.mp m with m|m
   .refine Same.upd hp _ _ (b2 _ _ (hL q m) fun z=>?_)
    obtain⟨ps,hps⟩:=t.some
    have e:=hL q m
    rw[z,hps]at e
    cases e
   .rw[xg.mp m];exact z9
  rintro acc H' ⟨L,rfl,hl,hL,b,t⟩ p hp
  rw[zw]at hl
  have s1:=Same.upd (o:=.lst (z2y L)) hp
  exact⟨p,L,z,rfl,SqL.of z9,hL.mono s1,by omega,nz,fun r zs H2 _ _ _ s2=>q r H2 (fun c o e nc=>s2 _ _ (s1 _ _ (b _ _ e nc))) (TbOk.mono t (s1.trans s2))⟩
noncomputable def nowS(S:Sw)(t:Int):Sw:={ S with now:=t }
noncomputable def zg7(CW CC CK Pt:Addr):Sp:=fun vs H Q _=>∃(n:Nat)(A:Ad)(hs:List Str)(S:Sw)(m:Int)(J:Nat->Sw->Prop),vs=[.ref A.x,.int m]/\WAt CW CC CK n A hs S H/\tbM H Pt/\1<=m/\m<=1000/\J 0 S/\
 (∀(i:Nat) (S:Sw),i<m.toNat->J i S->(S.now+1∉S.E->J (i+1) (nowS S (S.now+1)))/\(S.now+1∈S.E->(∀ y∈S.R,y.2.h≠ ""/\∀ v∈S.N,y.2.h≠v.h)/\(∀ v∈S.N,v.h≠ "")/\
  (((∀y∈S.R,z1i (nowS S (S.now+1)) y.2.h=false)/\J (i+1) (nowS S (S.now+1)))\/∃(y:Addr×Nt)(R:NL),S.R=y::R/\z1i (nowS S (S.now+1)) y.2.h=true/\z8o (nowS S (S.now+1))/\
   (∀p p2,∀z∈(givS (nowS S (S.now+1)) y.2 p p2).R,z1i (givS (nowS S (S.now+1)) y.2 p p2) z.2.h=false)/\∀p p2,J (i+1) (givS (nowS S (S.now+1)) y.2 p p2))))/\
 ∀(S':Sw)(H':Hp),J m.toNat S'->WAt CW CC CK n A hs S' H'->BtA (Pt::Wl A) H H'->tbM H' Pt->Q (.int S'.now) H'
theorem zdy(F:MDef K yb "tick" "World.tick" z5u ["self","many"])(T:Txt K mg ya yc yo yb y9 yd ye yn yp yr yf yg yk yl yi yh ym yj)(y19:Has P w K mg base 1 "check_time" ["ticks"] (zg1))(y16:MHas P w K mg base CX0 10 yb "settle" ["self"] (zad yb ya yc y9)):MHas P w K mg base CX0 11 yb "tick" ["self","many"] (zg7 yb ya yc y9):=by
 refine F.ok sc_World_tick (fun vs H Q E h=>?_) (fun f cdv A outer s H vs Q E hr h=>?_)
 .obtain⟨n,A,hs,S,m,J,rfl,_⟩:=h
  rfl
 .obtain⟨n,A,hs,S,m,J,rfl,hw,ht,h1,h2,j0,hJ,q⟩:=h
  have hu:=hr.units0
  have hu2:=z3l hr
  walk_at "%Lå,ȯÉâ]ĭŻ#UŜf0*ʢP>ʣƳ#¤ʤ$Xƅǭŭwt%ƆKåeȰǬW%Ŭ1Ùt?"
  walk_at "rd"
  refine⟨m,rfl,h1,h2,⟨by omega,by omega⟩,?_⟩
  refine z53 (fun i σ H'=>∃(v:Option V)(S':Sw),σ=[some (.ref A.x),some (.int m),v]/\J i S'/\WAt yb ya yc n A hs S' H'/\BtA (y9::Wl A) H H'/\tbM H' y9) ⟨_,S,rfl,j0,hw,.of (Same.refl H),ht⟩ ?_ ?_
  .rintro Pv hP i σ H' hi ⟨v,S',rfl,ji,wi,bi,ti⟩
   walk_at "rd"
   obtain⟨wa,x1,-,-⟩:=wi.ix
   refine⟨_,_,_,x1,T.cl_World,T.n_World_now,_,rfl,_,rfl,_,_,x1,by show 12<1000;decide,?_⟩
   have w1:WAt yb ya yc n A hs (nowS S' (S'.now+1)) (upd H' A.x (.ins yb A.dx (wf (S'.now+1) A.c A.lh A.ll A.ls A.st A.ca wa A.as 0 A.lo A.en))):=wi.tick x1 (S'.now+1) _
   have bb:BtA (Wl A) H' (upd H' A.x (.ins yb A.dx (wf (S'.now+1) A.c A.lh A.ll A.ls A.st A.ca wa A.as 0 A.lo A.en))):=(BtA.upd H' A.x _).sub (by simp[Wl])
   have t1:tbM _ y9:=z6s ti wi bb
   have b1:BtA (y9::Wl A) H _:=bi.trans (bb.sub (L':=y9::Wl A) fun x m=>xx _ m)
   rw[show putF (Str.ofString "now") (V.int (S'.now+1)) (wf S'.now A.c A.lh A.ll A.ls A.st A.ca wa A.as 0 A.lo A.en)=wf (S'.now+1) A.c A.lh A.ll A.ls A.st A.ca wa A.as 0 A.lo A.en from rfl]
   clear bb
   generalize upd H' A.x (.ins yb A.dx (wf (S'.now+1) A.c A.lh A.ll A.ls A.st A.ca wa A.as 0 A.lo A.en))=H1 at w1 t1 b1⊢
   obtain⟨wa1,y1,-,-⟩:=w1.ix
   obtain⟨D,d1,d2⟩:=w1.ge
   refine⟨_,_,_,y1,T.cl_World,T.n_World_now,_,rfl,_,_,_,y1,T.cl_World,T.n_World_ends,_,rfl,_,rfl,_,DGet.k (k:=Sum.inl (S'.now+1)) d1,?_⟩
   rw[show(valV D (Sum.inl (S'.now+1):Key)).isSome=decide (S'.now+1∈S'.E) from d2.2 (S'.now+1)]
   obtain⟨jn,jy⟩:=hJ i S' hi ji
   by_cases c:S'.now+1∈S'.E
   .rw[if_pos (x05 c)]
    obtain⟨c1,c2,c3⟩:=jy c
    refine⟨_,_,y1,rfl,n,A,hs,_,rfl,w1,t1,c1,c2,?_⟩
    rcases c3 with⟨e1,e2⟩|⟨y,R,e1,e2,e3,e4,e5⟩
    .exact .inl ⟨e1,fun H2 b2 t2=>hP _ _ _ ⟨_,_,rfl,e2,w1.keep b2 (.inr t1.some),b1.trans fun b o e m=>b2 b o e fun z=>m (by rw[z];exact xp ..),t2⟩⟩
    .exact .inr ⟨y,R,e1,e2,e3,e4,fun p p2 H2 w2 b2 t2=>hP _ _ _ ⟨_,_,rfl,e5 p p2,w2,b1.trans b2,t2⟩⟩
   .rw[if_neg (by simpa using c)]
    exact hP _ _ _ ⟨_,_,rfl,jn c,w1,b1,t1⟩
  .rintro σ H' ⟨v,S',rfl,ji,wi,bi,ti⟩
   walk_at "rd"
   obtain⟨wa,x1,-,-⟩:=wi.ix
   exact⟨_,_,_,x1,T.cl_World,T.n_World_now,_,rfl,q S' H' ji wi bi ti⟩
theorem zdd{α:Type}[DecidableEq α]:∀(l m:List α),l.Nodup->(∀x∈l,x∈m)->l.length<=m.length
 |[],_,_,_=>x08 _
 |x::l,m,h,s=>by
  have hx:x∈m:=s x (xp ..)
  have:=zdd l (m.erase x) (x0k.mp h).2 fun y hy=>(List.mem_erase_of_ne (fun e=>(x0k.mp h).1 (by rw[<-e];exact hy))).mpr (s y (xx _ hy))
  rw[List.length_erase_of_mem hx]at this
  have:=List.length_pos_of_mem hx
  rw[x09]
  omega
theorem zgu(n:Nat)(N:List Nt)(lk:Str)(t:Int):z40 (z1p n N) lk t (List.range n)=(List.range n).flatMap fun j=>z2n lk t j N:=by
 unfold z40
 rw[List.flatMap_def,List.flatMap_def]
 refine x12 List.flatten (x2o fun j hj=>?_)
 unfold z1p
 rw[x0r,if_pos (x0l.mp hj)]
theorem walk1_mem{lk:Str}{t:Int}{j:Nat}{N:List Nt}{x:Nt}:x∈(z2n lk t j N).map (·.1)↔x∈z1h t N/\x.l=lk:=by
 unfold z2n
 rw[x0x,xw]
 constructor
 .rintro⟨y,hy,rfl⟩
  exact⟨(xz.mp hy).1,x0c (xz.mp hy).2⟩
 .rintro⟨a,b⟩
  exact⟨x,xz.mpr ⟨a,x05 b⟩,rfl⟩
theorem zg8{x:Nt}(f:Nat->List (Nt×Nat)):∀js:List Nat,(∀j∈js,x∈(f j).map (·.1))->js.length<=(occ (js.flatMap f) x).length
 |[],_=>x08 _
 |j::js,h=>by
  have ih:=zg8 f js fun i m=>h i (xx _ m)
  obtain⟨t,ht,e⟩:=xw.mp (h j (xp ..))
  have:0<(occ (f j) x).length:=by
   unfold occ
   rw[x5]
   exact List.length_pos_of_mem (xz.mpr ⟨ht,x05 e⟩)
  unfold occ at*
  rw[List.flatMap_cons,x23,x04,xt,x09]
  omega
theorem zkw{n:Nat}{N:List Nt}(h:N.Pairwise fun a b=>a.n<b.n):zms (z1p n N):=fun s hs s' hs' x hx y hy e=>by
 rw[(x2z.mp hs).2]at hx
 rw[(x2z.mp hs').2]at hy
 obtain⟨i,hi,rfl⟩:=x0m hx
 obtain⟨j,hj,rfl⟩:=x0m hy
 rw[x0w]at h
 rcases Nat.lt_trichotomy i j with c|c|c
 .have:=h i j hi hj c
  exact absurd e (by show¬N[i].n=N[j].n;omega)
 .subst c;rfl
 .have:=h j i hj hi c
  exact absurd e (by show¬N[i].n=N[j].n;omega)
theorem zkx{n:Nat}{N:List Nt}{t:Int}{K:List (Nt×List Nat)}(h1:1<=n)(h:N.Pairwise fun a b=>a.n<b.n)(hl:∀x∈N,x.l=lkQ)(hv:HavOf ((List.range n).flatMap fun j=>z2n lkQ t j N) (n/2+1) K):K.map (·.1)=z1h t N:=by
 have pw:(K.map (·.1)).Pairwise fun a b=>a.n<b.n:=x2a.mpr hv.up
 have pl:(z1h t N).Pairwise fun a b=>a.n<b.n:=h.filter _
 have nd:∀{l:List Nt},l.Pairwise (fun a b=>a.n<b.n)->l.Nodup:=fun p=>p.imp fun q e=>by rw[e]at q;omega
 have mm:∀x,x∈((List.range n).flatMap fun j=>z2n lkQ t j N).map (·.1)↔x∈z1h t N:=fun x=>by
  rw[List.map_flatMap,List.mem_flatMap]
  constructor
  .rintro⟨j,-,hx⟩
   exact(walk1_mem.mp hx).1
  .intro hx
   exact⟨0,x0l.mpr h1,walk1_mem.mpr ⟨hx,hl x (xz.mp hx).1⟩⟩
 refine List.Perm.eq_of_pairwise (fun a b _ _ p q=>by omega) pw pl ((List.perm_ext_iff_of_nodup (nd pw) (nd pl)).mpr fun x=>?_)
 rw[xw]
 constructor
 .rintro⟨g,hg,rfl⟩
  exact(mm _).mp ((hv.mm g).mp hg).1
 .intro hx
  refine⟨(x,occ _ x),(hv.mm _).mpr ⟨(mm x).mpr hx,rfl,?_⟩,rfl⟩
  have:=zg8 (x:=x) (fun j=>z2n lkQ t j N) (List.range n) fun j _=>walk1_mem.mpr ⟨hx,hl x (xz.mp hx).1⟩
  rw[x1h]at this
  show n/2+1<=(occ _ x).length
  omega
noncomputable def zky(CW CC CK:Addr):Sp:=fun vs H Q _=>∃(n:Nat)(A:Ad)(hs:List Str)(S:Sw),vs=[.ref A.x,.str lkQ]/\WAt CW CC CK n A hs S H/\S.N.Pairwise (fun a b=>a.n<b.n)/\
 ∀(r:Addr)(R:List HR)(H':Hp),H r=none->H' r=some (.lst (R.map fun t=>V.ref t.1))->RowsC H H' R->(R.map fun t=>t.2.1.1)=z1h S.now S.N->Same H H'->Q (.ref r) H'
theorem zbn(F:MDef K yb "having" "World.having" z4w ["self","lock"])(T:Txt K mg ya yc yo yb y9 yd ye yn yp yr yf yg yk yl yi yh ym yj)(y1k:MHas P w K mg base CX0 2 ya "having" ["self","lock","tick"] (zmt P w ya yc))(yy:MHas P w K mg base CX0 1 yb "check_lock" ["self","lock"] (zg2 yb ya yc)):MHas P w K mg base CX0 3 yb "having" ["self","lock"] (zky yb ya yc):=by
 refine F.ok zb8 (fun vs H Q E h=>?_) (fun f cdv A outer s H vs Q E hr h=>?_)
 .obtain⟨n,A,hs,S,rfl,_⟩:=h
  rfl
 .obtain⟨n,A,hs,S,rfl,hw,hn,q⟩:=h
  have hu:=hr.units0
  have hu2:=z3l hr
  walk_at "%LmȮÇ6:5ʥ¯$©U)tċª1"
  walk_at "rd"
  obtain⟨wa,x1,-,-⟩:=hw.ix
  obtain⟨lk,hc,-⟩:=hw.cn
  obtain⟨dc,hob⟩:=hc.ob
  have hk:=hw.kn
  obtain⟨z1,z2,z3,-⟩:=hw.sz
  refine⟨_,_,x1,rfl,n,A,hs,S,rfl,hw,_,_,_,x1,T.cl_World,T.n_World_council,_,rfl,_,rfl,_,_,hob,z4l _ _ (by decide+kernel) (by decide+kernel),_,_,_,x1,T.cl_World,T.n_World_now,_,rfl,?_⟩
  refine⟨A.c,A.cl,A.ks,lk,z1p n S.N,lkQ,S.now,rfl,hc,z56 z3,zkw hn,fun G hG=>?_,fun r R H1 hr0 gr hR hav s1=>?_⟩
  .have:=zdd (G.map (·.1)) S.N hG.nd fun x hx=>by
    obtain⟨s,hs,hx⟩:=z8i ((hG.mm x).mp hx)
    rw[(x2z.mp hs).2]at hx
    exact hx
   rw[x5]at this
   omega
  .rw[hk,z8l,zgu]at hav
   have e:=zkx z1 hn (fun x m=>(hw.qs.1 x m).2.1) hav
   rw[x0x]at e
   exact q r R H1 hr0 gr hR e s1
theorem z8y(xs:List V)(i:Nat):cutV xs (some (i:Int)) none=xs.drop i:=by
 have e0:HT.sIx xs.length xs.length none=xs.length:=rfl
 unfold cutV
 rw[e0]
 rcases Nat.lt_or_ge xs.length i with h|h
 .have e:HT.sIx xs.length 0 (some (i:Int))=xs.length:=by rw[HT.sIx_nat];omega
  rw[e,List.drop_length,List.drop_eq_nil_of_le (by omega),List.take_nil]
 .have e:HT.sIx xs.length 0 (some (i:Int))=i:=by rw[HT.sIx_nat];omega
  rw[e]
  exact x0d (by rw[List.length_drop];omega)
noncomputable def askN(S:Sw)(z:Str)(t:Int):Nt:=⟨S.now,z,lkQ,false,t⟩
noncomputable def askS(S:Sw)(z:Str)(t:Int)(R:NL)(q:Addr):Sw:={ S with R:=R,T:=S.T++[(q,q,.ask S.now z t)] }
noncomputable def zkz(CW CC CK Pt Pt2:Addr):Sp:=fun vs H Q _=>∃(n:Nat) (A:Ad) (hs:List Str) (S:Sw) (z:Str) (t:Int),vs=[.ref A.x,.str z,.str lkQ,.bl false,.int t]/\WAt CW CC CK n A hs S H/\hs.length<=60/\z∈hs/\z.length<=1000/\z≠ ""/\1<=t/\t<=1000/\(∀ y∈S.R,y.2.h≠z/\y.2.h≠ "")/\z∉S.C/\(∀ v∈S.N,v.h≠ ""/\v.h≠z/\∀ y∈S.R,y.2.h≠v.h)/\S.R.length<8/\S.T.length<99/\tbM H Pt/\tbP H Pt2/\Pt≠Pt2/\
  ((S.R=[]/\z1i S z=true/\S.N.length<8/\S.C.length<8/\S.E.length<8/\∀(a q p p2:Addr)(v:V)(H':Hp),WAt CW CC CK n A hs (givS (askS S z t [(a,askN S z t)] q) (askN S z t) p p2) H'->BtA (Pt::Pt2::Wl A) H H'->tbM H' Pt->tbP H' Pt2->Q v H')\/
   ((∀y∈S.R,z1i S y.2.h=false)/\z1i S z=false/\∀(a q:Addr)(R:NL)(v:V)(H':Hp),R.Perm (S.R++[(a,askN S z t)])->R.Pairwise (fun p q=>kLt q.2 p.2=false)->WAt CW CC CK n A hs (askS S z t R q) H'->BtA (Pt::Pt2::Wl A) H H'->tbM H' Pt->tbP H' Pt2->Q v H'))
theorem zg9(F:MDef K yb "ask" "World.ask" z6c ["self","holder","lock","shared","time"])(T:Txt K mg ya yc yo yb y9 yd ye yn yp yr yf yg yk yl yi yh ym yj)(y28:Has P w K mg base 3 "put_in" ["row","asking"] (zmv ye))(y1c:MHas P w K mg base CX0 2 yb "check_asking" ["self","holder","lock","shared","time"] (zg5 yb ya yc))(y16:MHas P w K mg base CX0 10 yb "settle" ["self"] (zad yb ya yc y9))(y1v:MHas P w K mg base CX0 9 yb "chain" ["self","holder"] (zg6 yb ya yc y9)):MHas P w K mg base CX0 11 yb "ask" ["self","holder","lock","shared","time"] (zkz yb ya yc y9 ye):=by
 refine F.ok sc_World_ask (fun vs H Q E h=>?_) (fun f cdv A outer s H vs Q E hr h=>?_)
 .obtain⟨n,A,hs,S,z,t,rfl,_⟩:=h
  rfl
 .obtain⟨n,A,hs,S,z,t,rfl,hw,hl,hz,hzl,hz0,h1,h2,hR,hC,hN,hR8,hT,tM,tP,npt,q⟩:=h
  have hu:=hr.units0
  have hu2:=z3l hr
  walk_at "%LmʦȱĖªÆ,ʧjĵu©UĖ'Z]Īw7ĸ©UĖWÿ6FĨȲ+¶ŝp>åeȰƄ]ģĎwéÈNH&èGfA*ȲP=ÀŨŰÁŨĂŮĸ±)±Ĵ1ÃXÀŨŰÁŨĂŮĸĊs±CċĮ1Ùĸ5ʨÇċ¢%"
  walk_at "rd"
  obtain⟨wa,x1,-,-⟩:=hw.ix
  refine⟨_,_,x1,rfl,n,A,hs,S,z,t,rfl,hw,hl,hz,h1,h2,fun y m=>(hR y m).1,hC,fun H1 s1=>?_⟩
  have w1:=hw.mono s1
  obtain⟨wa1,y1,y2,-⟩:=w1.ix
  refine⟨_,_,_,y1,T.cl_World,T.n_World_waiting,_,rfl,_,_,_,y1,T.cl_World,T.n_World_now,_,rfl,zf (by decide),fun p hp=>?_⟩
  have sp:=Same.upd (o:=.tup [.int S.now,.str z,.str lkQ,.bl false,.int t]) hp
  have gp:upd H1 p (.tup [.int S.now,.str z,.str lkQ,.bl false,.int t]) p=some (.tup (askN S z t).vals):=z9
  have w2:=w1.mono sp
  have s2:=s1.trans sp
  have y22:=sp _ _ y2
  have eS:∀R q,(askS S z t R q).R=R:=fun _ _=>rfl
  have eN:(askN S z t).h=z:=rfl
  have eN2:(askN S z t).h.length<=1000/\(askN S z t).l=lkQ/\(askN S z t).sh=false:=⟨hzl,rfl,rfl⟩
  generalize hx:askN S z t=x at q gp eN eN2⊢
  generalize upd H1 p (.tup [.int S.now,.str z,.str lkQ,.bl false,.int t])=H2 at gp w2 s2 y22⊢
  have tM2:=TbOk.mono tM s2
  have tP2:tbP H2 ye:=TbOk.mono tP s2
  have tL:TuAt H2 (S.R++[(p,x)]):=fun y m=>by
   rcases x02.mp m with m|m
   .exact w2.tw y m
   .rw[xg.mp m];exact gp
  refine⟨wa1,p,S.R,x,rfl,y22,tL,by omega,tP2,fun r L H3 gr hL hs3 b3 tP3 hr0=>?_⟩
  have w3:=w2.keep b3 (.inr tP2.some)
  have tL3:TuAt H3 L:=fun y m=>tL.but1 tP2 b3 y (hL.mem_iff.mp m)
  have tM3:tbM H3 y9:=by
   rcases tM2 with e|⟨c',e,e2⟩
   .exact .inl (b3 _ _ e npt)
   .exact .inr ⟨c',b3 _ _ e npt,b3 _ _ e2 fun e3=>by
     obtain⟨ps,hps⟩:=tP2.some
     rw[e3,hps]at e2
     unfold z3y at e2
     cases e2⟩
  obtain⟨wa3,x3,-,-⟩:=w3.ix
  refine⟨_,_,_,x3,T.cl_World,T.n_World_waiting,by show 12<1000;decide,?_⟩
  have w4:=w3.row gr (w2.fresh hr0) x3 (.ins yb A.dx (putF (Str.ofString "waiting") (.ref r) (wf S.now A.c A.lh A.ll A.ls A.st A.ca wa3 A.as 0 A.lo A.en))) tL3 (by rw[hL.length_eq,xt];exact hR8) fun y m=>by
   rcases x02.mp (hL.mem_iff.mp m) with m|m
   .exact hw.qs.2 y m
   .rw[xg.mp m];exact eN2
  have bu:=BtA.upd H3 A.x (.ins yb A.dx (putF (Str.ofString "waiting") (.ref r) (wf S.now A.c A.lh A.ll A.ls A.st A.ca wa3 A.as 0 A.lo A.en)))
  have bw:BtA (Wl A) H3 _:=bu.sub (by simp[Wl])
  have tM4:tbM _ y9:=z6s tM3 w3 bw
  have tP4:tbP _ ye:=z6s tP3 w3 bw
  have b4:BtA (y9::ye::Wl A) H _:=(BtA.of s2).trans (BtA.trans (H':=H3) (fun b o e m=>b3 b o e fun z=>m (by simp[z])) (bu.sub (by simp[Wl])))
  clear bu bw
  generalize upd H3 A.x (.ins yb A.dx (putF (Str.ofString "waiting") (.ref r) (wf S.now A.c A.lh A.ll A.ls A.st A.ca wa3 A.as 0 A.lo A.en)))=H4 at w4 tM4 tP4 b4⊢
  obtain⟨wa4,y4,-,-⟩:=w4.ix
  refine⟨_,_,_,y4,T.cl_World,T.n_World_logged,_,rfl,.inl ⟨_,SqL.of w4.lg⟩,_,_,_,y4,T.cl_World,T.n_World_now,_,rfl,zf (by decide),fun pt hpt=>?_⟩
  have e5:([V.str (Str.ofString "ask"),V.int S.now,V.str z,V.str lkQ,V.bl false,V.int t]:List V)=lgV pt (.ask S.now z t):=rfl
  rw[e5]
  have s5:=Same.upd (o:=.tup (lgV pt (.ask S.now z t))) hpt
  have gt:upd H4 pt (.tup (lgV pt (.ask S.now z t))) pt=some (.tup (lgV pt (.ask S.now z t))):=z9
  have w5:=w4.mono s5
  have tM5:tbM _ y9:=TbOk.mono tM4 s5
  have tP5:tbP _ ye:=TbOk.mono tP4 s5
  have b5:=b4.trans (.of s5)
  generalize upd H4 pt (.tup (lgV pt (.ask S.now z t)))=H5 at w5 tM5 tP5 b5 gt⊢
  refine⟨_,_,_,rfl,rfl,w5.lg,by rw[x5];exact z7t (show S.T.length<=1000 by omega),?_⟩
  have w6:WAt yb ya yc n A hs (askS S z t L pt) _:=w5.logd (pt,pt,.ask S.now z t) (fun y m=>by rw[xg.mp m];exact⟨gt,trivial⟩) (show S.T.length<100 by omega)
  have bw:BtA (Wl A) H5 _:=(BtA.upd H5 A.lo (.lst (S.T.map (fun q=>V.ref q.1)++[.ref pt]))).sub (by simp[Wl])
  have tM6:tbM _ y9:=z6s tM5 w5 bw
  have tP6:tbP _ ye:=z6s tP5 w5 bw
  have b6:=b5.trans (bw.sub (L':=y9::ye::Wl A) fun x m=>xx _ (xx _ m))
  clear bw
  generalize upd H5 A.lo (.lst (S.T.map (fun q=>V.ref q.1)++[.ref pt]))=H6 at w6 tM6 tP6 b6⊢
  obtain⟨wa6,y6,-,-⟩:=w6.ix
  have hL':∀ y∈L,y.2.h≠ ""/\∀ v∈S.N,y.2.h≠v.h:=fun y m=>by
   rcases x02.mp (hL.mem_iff.mp m) with m|m
   .exact⟨(hR y m).2,fun v mv=>(hN v mv).2.2 y m⟩
   .rw[xg.mp m]
    exact⟨by rw[eN];exact hz0,fun v mv=>by rw[eN];exact fun e=>(hN v mv).2.1 e.symm⟩
  refine⟨_,_,_,y6,T.cl_World,T.n_World_logged,_,rfl,_,rfl,_,.inl (SqL.of w6.lg),_,_,y6,rfl,n,A,hs,_,rfl,w6,tM6,hL',fun v m=>(hN v m).1,?_⟩
  rcases q with⟨eR,fz,c1,c2,c3,q⟩|⟨fA,fz,q⟩
  .rw[eR]at hL
   obtain rfl:=List.perm_singleton.mp hL
   refine .inr ⟨(p,x),[],rfl,by rw[eN];exact fz,⟨c1,c2,c3,by show(S.T++[_]).length<100;rw[xt];show _+1<100;omega⟩,fun p1 p2 y m=>?_,fun p1 p2 H7 w7 b7 tM7=>?_⟩
   .have m:y∈[(p,x)].filter fun y=>decide (y.2.h≠x.h):=m
    simp at m
   .obtain⟨wa7,y7,-,-⟩:=w7.ix
    refine⟨_,_,_,y7,T.cl_World,T.n_World_logged,_,rfl,_,_,rfl,SqL.of w7.lg,fun pl hpl=>?_⟩
    have ec:cutV ((givS (askS S z t [(p,x)] pt) x p1 p2).T.map fun q=>V.ref q.1) (some (((askS S z t [(p,x)] pt).T.map fun q=>V.ref q.1).length:Int)) none=[.ref p1]:=by
     show cutV (((askS S z t [(p,x)] pt).T++[(p1,p2,Lg.giv S.now (z28 (askS S z t [(p,x)] pt) x))]).map fun q=>V.ref q.1) _ _=_
     rw[x04,z8y,List.drop_left' rfl]
     rfl
    rw[ec]
    have w8:=w7.mono (Same.upd (o:=.lst [.ref p1]) hpl)
    have gl:upd H7 pl (.lst [.ref p1]) pl=some (.lst [.ref p1]):=z9
    have tM8:tbM _ y9:=TbOk.mono tM7 (Same.upd (o:=.lst [.ref p1]) hpl)
    have b8:=(b6.trans (b7.sub (L':=y9::ye::Wl A) fun x m=>by simp at m⊢;rcases m with m|m<;>simp[m])).trans (.of (Same.upd (o:=.lst [.ref p1]) hpl))
    have tP7:tbP H7 ye:=zbl tP6 w6 tM6.some b7 npt.symm
    have tP8:tbP _ ye:=TbOk.mono tP7 (Same.upd (o:=.lst [.ref p1]) hpl)
    generalize upd H7 pl (.lst [.ref p1])=H8 at w8 gl tM8 tP8 b8⊢
    refine⟨pl,rfl,⟨_,SqL.of gl⟩,?_⟩
    refine z1x (xs:=[.ref p1]) (fun i σ H'=>i=0/\H'=H8/\∃v v',σ=[some (V.ref A.x),some (V.str z),some (V.str lkQ),some (V.bl false),some (V.int t),v,v']) ⟨rfl,rfl,_,_,rfl⟩ ?_ ?_ ?_
    .rintro i σ H'-⟨-,rfl,-⟩
     exact SqL.of gl
    .rintro Pv hP i y σ H' hx ⟨rfl,rfl,v,v',rfl⟩
     obtain rfl:=xq hx
     have gt8:=(w8.la (p1,p2,.giv S.now (z28 (askS S z t [(p,x)] pt) x)) (x03 _ (xg.mpr rfl))).1
     walk_at "rd"
     refine⟨_,_,_,_,rfl,rfl,SqT.of gt8,zi (j:=0) rfl,rfl,?_⟩
     rw[if_pos (x05 rfl)]
     refine⟨_,_,_,_,rfl,rfl,SqT.of gt8,zi (j:=2) rfl,rfl,?_⟩
     rw[if_pos (x05 (by show V.str x.h=V.str z;rw[eN]))]
     refine⟨_,_,_,_,rfl,rfl,SqT.of gt8,zi (j:=5) rfl,_,_,_,_,rfl,rfl,SqT.of gt8,zi (j:=6) rfl,zf (by decide),fun pr hpr=>?_⟩
     exact q p pt p1 p2 _ _ (w8.mono (Same.upd hpr)) (b8.trans (.of (Same.upd hpr))) (TbOk.mono tM8 (Same.upd hpr)) (TbOk.mono tP8 (Same.upd hpr))
    .rintro σ H' ⟨e,-⟩
     cases e
  .have fL:∀y∈L,z1i S y.2.h=false:=fun y m=>by
    rcases x02.mp (hL.mem_iff.mp m) with m|m
    .exact fA y m
    .rw[xg.mp m,eN];exact fz
   refine .inl ⟨fL,fun H7 b7 tM7=>?_⟩
   .have w7:=w6.keep b7 (.inr tM6.some)
    obtain⟨wa7,y7,-,-⟩:=w7.ix
    refine⟨_,_,_,y7,T.cl_World,T.n_World_logged,_,rfl,_,_,rfl,SqL.of w7.lg,fun pl hpl=>?_⟩
    have ec:cutV ((askS S z t L pt).T.map fun q=>V.ref q.1) (some (((askS S z t L pt).T.map fun q=>V.ref q.1).length:Int)) none=[]:=by
     rw[z8y,List.drop_length]
    rw[ec]
    have w8:=w7.mono (Same.upd (o:=.lst []) hpl)
    have gl:upd H7 pl (.lst []) pl=some (.lst []):=z9
    have tM8:tbM _ y9:=TbOk.mono tM7 (Same.upd (o:=.lst []) hpl)
    have b8:=(b6.trans (BtA.trans (H':=H7) (fun b o e m=>b7 b o e fun z=>m (by simp[z])) (.of (Same.upd (o:=.lst []) hpl))))
    have tP7:tbP H7 ye:=zbl tP6 w6 tM6.some (fun b o e m=>b7 b o e fun z=>m (by simp[z])) npt.symm
    have tP8:tbP _ ye:=TbOk.mono tP7 (Same.upd (o:=.lst []) hpl)
    generalize upd H7 pl (.lst [])=H8 at w8 gl tM8 tP8 b8⊢
    refine⟨pl,rfl,⟨_,SqL.of gl⟩,?_⟩
    refine z1x (xs:=[]) (fun i σ H'=>H'=H8/\∃v v',σ=[some (V.ref A.x),some (V.str z),some (V.str lkQ),some (V.bl false),some (V.int t),v,v']) ⟨rfl,_,_,rfl⟩ ?_ ?_ ?_
    .rintro i σ H'-⟨rfl,-⟩
     exact SqL.of gl
    .rintro Pv hP i y σ H' hx
     cases hx
    .rintro σ H' ⟨rfl,v,v',rfl⟩
     walk_at "rd"
     obtain⟨wa8,y8,-,-⟩:=w8.ix
     refine⟨_,_,y8,rfl,n,A,hs,_,z,rfl,w8,hl,hz,hz0,fL,fun v m=>(hN v m).1,tM8,fun r2 H9 b9 t9=>⟨zf (by decide),fun pr hpr=>?_⟩⟩
     have b9':BtA (y9::Wl A) H' H9:=fun b o e m=>b9 b o e fun z=>m (by simp[z])
     exact q p pt L _ _ hL hs3 ((w8.keep b9 (.inr tM8.some)).mono (Same.upd hpr)) ((b8.trans (b9'.sub fun x m=>by simp at m⊢;rcases m with m|m<;>simp[m])).trans (.of (Same.upd hpr))) (TbOk.mono t9 (Same.upd hpr)) (TbOk.mono (zbl tP8 w8 tM8.some b9' npt.symm) (Same.upd hpr))
noncomputable def z65(v:V):Prop:=(∃i,v=.int i)\/(∃z,v=.str z)\/(∃b,v=.bl b)
noncomputable def Alike(H:Hp):Nat->V->V->Prop
 |0,v,v'=>v=v'/\z65 v
 | n+1,v,v'=>(v=v'/\z65 v)\/∃(a b:Addr)(xs ys:List V),v=.ref a/\v'=.ref b/\((H a=some (.lst xs)/\H b=some (.lst ys))\/(H a=some (.tup xs)/\H b=some (.tup ys)))/\xs.length=ys.length/\xs.length<=1000/\
   ∀(i:Nat)(x y:V),xs[i]? =some x->ys[i]? =some y->Alike H n x y
theorem Alike.mono{H H':Hp}(s:Same H H'):∀{n:Nat}{v v':V},Alike H n v v'->Alike H' n v v'
 |0,_,_,h=>h
 |n+1,_,_,.inl h=>.inl h
 |n+1,_,_,.inr ⟨a,b,xs,ys,e1,e2,h,hl,hz,k⟩=>.inr ⟨a,b,xs,ys,e1,e2,h.elim (fun z=>.inl ⟨s _ _ z.1,s _ _ z.2⟩) (fun z=>.inr ⟨s _ _ z.1,s _ _ z.2⟩),hl,hz,fun i x y hx hy=>Alike.mono s (k i x y hx hy)⟩
noncomputable def z4z(n:Nat):Sp:=fun vs H Q _=>∃v v',vs=[v,v']/\Alike H n v v'/\z3w H Q (.bl true)
noncomputable def lev:Nat->Sp
 |0=>zh2
 |n+1=>z4z n
theorem zde{H H':Hp}{a:Addr}{xs:List V}(e:Same H H')(h:SqT K H a xs):SqT K H' a xs:=by
 rcases h with(h|⟨o,h⟩)|h
 .exact .inl (.inl (e _ _ h))
 .exact .inl (.inr ⟨o,e _ _ h⟩)
 .exact .inr h
theorem zgv{H:Hp}{n:Nat}{v v':V}(h:Alike H n v v'):(v=v'/\z65 v)\/∃m,n=m+1/\∃(a b:Addr)(xs ys:List V),v=.ref a/\v'=.ref b/\((H a=some (.lst xs)/\H b=some (.lst ys))\/(H a=some (.tup xs)/\H b=some (.tup ys)))/\xs.length=ys.length/\xs.length<=1000/\∀(i:Nat)(x y:V),xs[i]? =some x->ys[i]? =some y->Alike H m x y:=by
 cases n with
 |zero=>exact .inl h
 |succ m=>exact h.elim .inl fun z=>.inr ⟨m,rfl,z⟩
theorem z7c{n:Nat}(F:Def K mg "_law_same" z33 ["_law_found","_law_due"])(T:Txt K mg ya yc yo yb y9 yd ye yn yp yr yf yg yk yl yi yh ym yj)(yu:Has P w K mg base n "_law_same" ["_law_found","_law_due"] (lev n)):Has P w K mg base (n+1) "_law_same" ["_law_found","_law_due"] (z4z n):=by
 refine F.ok zfk (fun vs H Q E h=>?_) (fun f cdv A outer s H vs Q E hr h=>?_)
 .obtain⟨v,v',rfl,_⟩:=h
  rfl
 .have hu:=hr.units0
  obtain⟨v,v',rfl,pv',q⟩:=h
  have pv2:(v=v'/\z65 v)\/∃m,n=m+1/\∃(a b:Addr)(xs ys:List V),v=.ref a/\v'=.ref b/\((H a=some (.lst xs)/\H b=some (.lst ys))\/(H a=some (.tup xs)/\H b=some (.tup ys)))/\xs.length=ys.length/\xs.length<=1000/\∀(i:Nat)(x y:V),xs[i]? =some x->ys[i]? =some y->Alike H m x y:=zgv pv'
  rcases pv2 with⟨rfl,pv3⟩|⟨m,en,a,b,xs,ys,rfl,rfl,hab,hlm,hz,kk⟩
  .skip
   walk_at "%ėkąȳǮĺ)uǯČǰƈĻǱQŒã=ƴǲëļČĽČ}EǳRļĻĽĻ}ĈÞĹİǴŷĆzE·áƭdȴ2ȵĥ2-ŏĕśyĆ¼6vľǵȶĀ7ƉƵa«Ħ)ƉƵaĬĦZØCÝÃ=ļƶ9ƷĽƶ9Ʒ}EĄĹ=kǶƸ9ƹƺVÙìƊƸ9ƹ}Ž4ĂăİƊȷ9ȸ}Ž4ĂÝ"
   walk_at "rd"
   refine⟨zf (by decide),fun p hp=>?_⟩
   have s1:=Same.upd (o:=.tup [V.ty "list",V.ty "tuple"]) hp
   have gp:SqT K (upd H p (.tup [V.ty "list",V.ty "tuple"])) p [V.ty "list",V.ty "tuple"]:=SqT.of z9
   generalize upd H p (.tup [V.ty "list",V.ty "tuple"])=H1 at s1 gp⊢
   have s2':=q _ s1
   rcases pv3 with⟨i,rfl⟩|⟨z,rfl⟩|⟨b,rfl⟩
   .refine⟨_,_,⟨rfl,rfl⟩,_,_,gp,_,.int i,_,(z6m K).1,?_⟩
    rw[if_neg xm]
    refine⟨_,_,⟨rfl,rfl⟩,_,.int i,_,z7u K,_,_,⟨rfl,rfl⟩,_,.int i,_,z7u K,rfl,?_⟩
    rw[if_neg (by decide)]
    refine⟨_,_,⟨rfl,rfl⟩,_,.int i,_,(z3b K).1,?_⟩
    rw[if_pos rfl]
    refine⟨_,_,⟨rfl,rfl⟩,_,.int i,_,(z3b K).1,?_⟩
    rw[if_pos rfl]
    exact⟨rfl,by simpa using s2'⟩
   .refine⟨_,_,⟨rfl,rfl⟩,_,_,gp,_,.str z,_,(z6m K).2.2.1,?_⟩
    rw[if_neg xm]
    refine⟨_,_,⟨rfl,rfl⟩,_,.str z,_,(z3b K).2.2.2.2.2.1,_,_,⟨rfl,rfl⟩,_,.str z,_,(z3b K).2.2.2.2.2.1,rfl,?_⟩
    rw[if_neg (by decide)]
    refine⟨_,_,⟨rfl,rfl⟩,_,.str z,_,(z3b K).2.2.1,?_⟩
    rw[if_neg xm]
    refine⟨_,_,⟨rfl,rfl⟩,_,.str z,_,(z3b K).2.2.2.1,?_⟩
    rw[if_pos rfl]
    exact⟨rfl,by simpa using s2'⟩
   .refine⟨_,_,⟨rfl,rfl⟩,_,_,gp,_,.bl b,_,(z6m K).2.1,?_⟩
    rw[if_neg xm]
    refine⟨_,_,⟨rfl,rfl⟩,_,.bl b,_,z7d K,_,_,⟨rfl,rfl⟩,_,.bl b,_,z7d K,rfl,?_⟩
    rw[if_neg (by decide)]
    refine⟨_,_,⟨rfl,rfl⟩,_,.bl b,_,(z3b K).2.1,?_⟩
    rw[if_pos rfl]
    refine⟨_,_,⟨rfl,rfl⟩,_,.bl b,_,(z3b K).2.1,?_⟩
    rw[if_pos rfl]
    exact⟨rfl,by simpa using s2'⟩
  .skip
   walk_at "%ėkąȳǮĺ)uǯČǰƈĻǱQŒã=ƴǲëļČĽČ}EǳRļĻĽĻ}ĈÞĹİǴŷĆzE·áƭdȴ2ȵĥ2-ŏĕśyĆ¼6vľǵȶĀ7ƉƵa«Ħ)ƉƵaĬĦZØCÝÃ=ļƶ9ƷĽƶ9Ʒ}EĄĹ=kǶƸ9ƹƺVÙìƊƸ9ƹ}Ž4ĂăİƊȷ9ȸ}Ž4ĂÝ"
   walk_at "rd"
   refine⟨zf (by decide),fun p hp=>?_⟩
   have s1:=Same.upd (o:=.tup [V.ty "list",V.ty "tuple"]) hp
   have gp:SqT K (upd H p (.tup [V.ty "list",V.ty "tuple"])) p [V.ty "list",V.ty "tuple"]:=SqT.of z9
   generalize upd H p (.tup [V.ty "list",V.ty "tuple"])=H1 at s1 gp⊢
   obtain⟨t,bl,bt,ta,tb,k1,k2,k3,hx⟩:∃(t:Value) (bl bt:Bool),TyOf K H1 (.ref a) t/\TyOf K H1 (.ref b) t/\PySem.W.kitAny K t [.type "list",.type "tuple"]=some true/\PySem.W.kitOne K t (.type "list")=some bl/\PySem.W.kitOne K t (.type "tuple")=some bt/\((SqL K H1 a xs/\SqL K H1 b ys)\/(SqT K H1 a xs/\SqT K H1 b ys)):=by
    rcases hab with⟨ha,hb⟩|⟨ha,hb⟩
    .exact⟨_,_,_,.lst (s1 _ _ ha),.lst (s1 _ _ hb),(z6m K).2.2.2.1,z7e K,(z3b K).2.2.2.2.2.2.2.2,.inl ⟨SqL.of (s1 _ _ ha),SqL.of (s1 _ _ hb)⟩⟩
    .exact⟨_,_,_,.tup (s1 _ _ ha),.tup (s1 _ _ hb),(z6m K).2.2.2.2,(z3b K).2.2.2.2.2.2.2.1,(z3b K).2.2.2.2.2.2.1,.inr ⟨SqT.of (s1 _ _ ha),SqT.of (s1 _ _ hb)⟩⟩
   have la:SqL K H1 a xs\/SqT K H1 a xs:=hx.elim (fun z=>.inl z.1) fun z=>.inr z.1
   have lb:SqL K H1 b ys\/SqT K H1 b ys:=hx.elim (fun z=>.inl z.2) fun z=>.inr z.2
   refine⟨_,_,⟨rfl,rfl⟩,_,_,gp,_,tb,_,k1,?_⟩
   rw[if_pos rfl]
   refine⟨_,_,⟨rfl,rfl⟩,_,ta,_,k2,_,_,⟨rfl,rfl⟩,_,tb,_,k2,rfl,?_⟩
   rw[if_neg (by simp)]
   refine⟨_,_,⟨rfl,rfl⟩,_,ta,_,k3,_,_,⟨rfl,rfl⟩,_,tb,_,k3,rfl,?_⟩
   rw[if_neg (by simp)]
   refine⟨xs,la,ys,lb,?_⟩
   rw[if_pos (by rw[hlm];simp)]
   refine⟨rfl,ys,lb,⟨by omega,by omega⟩,?_⟩
   rw[x0z,<-hlm]
   refine z4c (zf (by omega)) (fun i acc H'=>acc=(List.replicate i true).map V.bl/\Same H1 H') ⟨rfl,Same.refl _⟩ ?_ ?_ ?_
   .rintro i acc H' ⟨rfl,-⟩
    simp
   .rintro Nn i acc H' hN hi ⟨rfl,s2⟩
    walk_at "rd"
    have ei:((0:Int)+(i:Int))=(i:Int):=by omega
    rw[ei]
    have gx:xs[i]? =some xs[i]:=x8 hi
    have gy:ys[i]? =some (ys[i]'(by omega)):=x8 (by omega)
    have fin:lev n [xs[i],ys[i]'(by omega)] H' (fun x H3=>Nn (List.map V.bl (List.replicate i true)++[x]) H3) E0:=by
     rw[en]
     refine⟨_,_,rfl,(kk i _ _ gx gy).mono (s1.trans s2),fun H3 s3=>hN _ _ ⟨?_,s2.trans s3⟩⟩
     rw[List.replicate_succ',x04]
     rfl
    rcases hx with⟨xa,xb⟩|⟨xa,xb⟩
    .exact .inl ⟨_,_,_,_,rfl,rfl,s2.seq xa,zi gx,.inl ⟨_,_,_,_,rfl,rfl,s2.seq xb,zi gy,fin⟩⟩
    .exact .inr (.inl ⟨_,_,_,_,rfl,rfl,zde s2 xa,zi gx,.inr (.inl ⟨_,_,_,_,rfl,rfl,zde s2 xb,zi gy,fin⟩)⟩)
   .rintro acc H' ⟨rfl,s2⟩ r hr'
    refine⟨_,rfl,_,SqL.of z9,?_⟩
    have e:(List.replicate xs.length true).all id=true:=by simp
    rw[e]
    exact q _ ((s1.trans s2).trans (Same.upd hr'))
theorem zmf(F:Def K mg "_law_same" z33 ["_law_found","_law_due"])(T:Txt K mg ya yc yo yb y9 yd ye yn yp yr yf yg yk yl yi yh ym yj)(yu:Has P w K mg base 1 "_law_same" ["_law_found","_law_due"] (lev 1)):Has P w K mg base 2 "_law_same" ["_law_found","_law_due"] (z4z 1):=z7c (n:=1) F T yu
theorem zmg(F:Def K mg "_law_same" z33 ["_law_found","_law_due"])(T:Txt K mg ya yc yo yb y9 yd ye yn yp yr yf yg yk yl yi yh ym yj)(yu:Has P w K mg base 2 "_law_same" ["_law_found","_law_due"] (lev 2)):Has P w K mg base 3 "_law_same" ["_law_found","_law_due"] (z4z 2):=z7c (n:=2) F T yu
theorem zmh(F:Def K mg "_law_same" z33 ["_law_found","_law_due"])(T:Txt K mg ya yc yo yb y9 yd ye yn yp yr yf yg yk yl yi yh ym yj)(yu:Has P w K mg base 3 "_law_same" ["_law_found","_law_due"] (lev 3)):Has P w K mg base 4 "_law_same" ["_law_found","_law_due"] (z4z 3):=z7c (n:=3) F T yu
noncomputable def z3v(T:List (Addr×Addr×Lg)):List (Int×Nt):=T.filterMap fun q=>match q.2.2 with| .giv t x=>some (t,x)| .ask .. =>none
structure PlanAt(X:List Nt)(S:Sw):Prop where
 z0:X=[]->S=⟨0,[],[],[],[],[]⟩
 z1:∀x0 X',X=x0::X'->S.N=[⟨1,x0.h,lkQ,false,x0.e⟩]/\S.C=[x0.h]/\S.E=[x0.e]/\0<=S.now/\S.now<x0.e/\(S.R.map (·.2)).Perm X'/\S.R.Pairwise (fun p q=>kLt q.2 p.2=false)/\z3v S.T=[(0,⟨1,x0.h,lkQ,false,x0.e⟩)]/\S.T.length=X.length+1/\x0.n=0
 qx:∀x∈X,x.l=lkQ/\x.sh=false/\1<=x.e/\x.e<=1000
 nd:(X.map (·.h)).Nodup
theorem PlanAt.free{X:List Nt}{S:Sw}(h:PlanAt X S){x0:Nt}{X':List Nt}(e:X=x0::X'){z:Str}(n:z≠x0.h):z1i S z=false:=by
 obtain⟨e1,-,-,-,e2,-⟩:=h.z1 x0 X' e
 unfold z1i z2p z1h
 rw[e1]
 have:z3t z lkQ false ⟨1,x0.h,lkQ,false,x0.e⟩=true:=by
  unfold z3t
  simp[n.symm,onl]
  unfold z5w;simp
 simp[e2,this]
theorem BtA.in2{P P2:Addr}{L:List Addr}{H H':Hp}(a:BtA (P::L) H H'):BtA (P::P2::L) H H':=a.sub fun x m=>by
 rcases xk.mp m with rfl|m
 .exact xp ..
 .exact xx _ (xx _ m)
theorem TbOk.lst{H:Hp}{Pt d:Addr}{ps:Pos}{nm:Str}{xs:List V}{o:HO}(t:TbOk H Pt ps nm)(hd:H d=some (.lst xs)):TbOk (upd H d o) Pt ps nm:=by
 have k:∀{a:Addr}{u:HO},H a=some u->(∀xs,u≠.lst xs)->upd H d o a=some u:=fun{a u} e n=>by rw[zc (fun z=>by rw[z,hd]at e;exact n _ (xq e).symm)];exact e
 rcases t with h|⟨c',h,h2⟩
 .exact .inl (k h (by intros;nofun))
 .exact .inr ⟨c',k h (by intros;nofun),k h2 (by intros;unfold z3y;nofun)⟩
theorem PlanAt.sub{X:List Nt}{S:Sw}(h:PlanAt X S):(∀y∈S.R,y.2.h∈X.map (·.h))/\(∀z∈S.C,z∈X.map (·.h))/\(∀v∈S.N,v.h∈X.map (·.h)/\∀y∈S.R,y.2.h≠v.h)/\S.R.length<=X.length/\S.T.length<=X.length+1:=by
 cases X with
 |nil=>rw[h.z0 rfl];simp
 |cons x0 X'=>
  obtain⟨a1,a2,a3,a4,a5,a6,a7,a8,a9,-⟩:=h.z1 _ _ rfl
  have hR:∀y∈S.R,y.2.h∈X'.map (·.h):=fun y m=>xw.mpr ⟨y.2,a6.mem_iff.mp (xw.mpr ⟨y,m,rfl⟩),rfl⟩
  have nd:=h.nd
  rw[x0a,x0k]at nd
  refine⟨fun y m=>xx _ (hR y m),fun z m=>?_,fun v m=>?_,?_,Nat.le_of_eq a9⟩
  .rw[a2,xg]at m
   rw[m];exact xp ..
  .rw[a1,xg]at m
   rw[m]
   exact⟨xp ..,fun y my e=>nd.1 (by rw[<-e];exact hR y my)⟩
  .have:=a6.length_eq
   rw[x5]at this
   rw[this,x09]
   exact x2r _
theorem PlanAt.first{S:Sw}(h:PlanAt [] S){z:Str}{t:Int}(h1:1<=t)(h2:t<=1000)(a q p p2:Addr):PlanAt [askN S z t] (givS (askS S z t [(a,askN S z t)] q) (askN S z t) p p2):=by
 rw[h.z0 rfl]
 refine⟨fun e=>(by cases e),fun x0 X' e=>?_,fun x m=>?_,by simp⟩
 .injection e with e1 e2
  subst e1 e2
  refine⟨by simp[givS,z28,askN,askS],rfl,by simp[givS,askN,askS],by simp[givS,askS],by simp[givS,askN,askS];omega,by simp[givS,askS,askN],by simp[givS,askS,askN],by simp[givS,z3v,z28,askN,askS],rfl,rfl⟩
 .rw[xg.mp m];exact⟨rfl,rfl,h1,h2⟩
theorem PlanAt.next{S:Sw}{x0:Nt}{X':List Nt}(h:PlanAt (x0::X') S){z:Str}{t:Int}(h1:1<=t)(h2:t<=1000)(hz:z∉(x0::X').map (·.h)){a q:Addr}{R:NL}(hp:R.Perm (S.R++[(a,askN S z t)]))(hs:R.Pairwise (fun p q=>kLt q.2 p.2=false)):PlanAt (x0::X'++[askN S z t]) (askS S z t R q):=by
 obtain⟨a1,a2,a3,a4,a5,a6,a7,a8,a9,a0⟩:=h.z1 _ _ rfl
 refine⟨fun e=>(by cases e),fun y Y e=>?_,fun x m=>?_,?_⟩
 .injection e with e1 e2
  subst e1 e2
  refine⟨a1,a2,a3,a4,a5,?_,hs,?_,by simp[askS,a9],a0⟩
  .have:=hp.map (·.2)
   rw[x04]at this
   exact this.trans (a6.append_right _)
  .show z3v (S.T++[_])=_
   unfold z3v at*
   rw[List.filterMap_append,a8]
   rfl
 .rcases x02.mp m with m|m
  .exact h.qx x m
  .rw[xg.mp m];exact⟨rfl,rfl,h1,h2⟩
 .rw[x04,x2b]
  refine⟨h.nd,by simp,fun b hb c hc e=>hz ?_⟩
  rw[List.map_singleton,xg]at hc
  rw[<-show c=z from hc,<-e]
  exact hb
theorem zbo{α:Type}(p:α->Bool):∀l:List α,(l.filter p).length+(l.filter fun z=>!p z).length=l.length
 |[]=>rfl
 |x::l=>by
  have:=zbo p l
  cases h:p x<;>simp[x2g,h]<;>omega
theorem zmi{ks hs:List Str}{X:List Str}(hk:ks.Perm hs)(hnd:hs.Nodup)(nX:X.Nodup)(sX:∀z∈X,z∈hs):(ks.filter fun z=>decide (z∉X)).length+X.length=hs.length:=by
 have e:=zbo (fun z=>decide (z∉X)) ks
 rw[hk.length_eq]at e
 have nk:ks.Nodup:=hk.nodup_iff.mpr hnd
 have p:(ks.filter fun z=>!decide (z∉X)).Perm X:=(List.perm_ext_iff_of_nodup (nk.filter _) nX).mpr fun z=>by
  simp only[xz,Bool.not_eq_true',x24,Classical.not_not]
  exact⟨fun h=>h.2,fun h=>⟨hk.mem_iff.mpr (sX z h),h⟩⟩
 rw[<-p.length_eq]
 exact e
theorem PlanAt.now{X:List Nt}{S:Sw}(h:PlanAt X S){x0:Nt}{X':List Nt}(e:X=x0::X'){t:Int}(h0:0<=t)(h1:t<x0.e):PlanAt X (nowS S t):=by
 refine⟨fun z=>by rw[e]at z;(cases z),fun y Y z=>?_,h.qx,h.nd⟩
 obtain⟨a1,a2,a3,a4,a5,a6⟩:=h.z1 y Y z
 rw[e]at z
 injection z with z _
 subst z
 exact⟨a1,a2,a3,h0,h1,a6⟩
theorem zno(c d j:Int)(h0:0<=j)(h5:j<5)(h1:1<=c)(h2:c<=1000):∃t:Int,1<=t/\t<=1000/\atI [V.int 1,V.int 7,V.int 40,V.int c,V.int 15] j=some (.int t):=by
 obtain⟨n,rfl⟩:=Int.eq_ofNat_of_zero_le h0
 match n,h5 with
 |0,_=>exact⟨1,by omega,by omega,zi rfl⟩
 |1,_=>exact⟨7,by omega,by omega,zi rfl⟩
 |2,_=>exact⟨40,by omega,by omega,zi rfl⟩
 |3,_=>exact⟨c,h1,h2,zi rfl⟩
 |4,_=>exact⟨15,by omega,by omega,zi rfl⟩
 |n+5,h=>omega
noncomputable def zl0(CW CC CK Pt Pt2:Addr)(K:PySem.W.Frag):Sp:=fun vs H Q _=>∃(a ph:Addr)(ns:List Int)(n:Nat)(A:Ad)(hs:List Str)(S:Sw),vs=[.ref a,.ref ph,.ref A.x]/\(∀H',BtA (Pt::Pt2::Wl A) H H'->SqL K H' a (ns.map V.int))/\ns.length<=63/\WAt CW CC CK n A hs S H/\PlanAt [] S/\
 H ph=some (.lst (hs.map V.str))/\ph∉Pt::Pt2::Wl A/\1<=hs.length/\hs.length<=8/\hs.Nodup/\(∀ z∈hs,z≠ ""/\z.length<=1000)/\tbM H Pt/\tbP H Pt2/\Pt≠Pt2/\
 ∀(r:Addr)(L:NL)(A':Ad)(S':Sw)(H':Hp),A'.x=A.x->Wl A'=Wl A->H r=none->H' r=some (.lst (refs L))->L.length=hs.length->TuAt H' L->PlanAt (L.map (·.2)) S'->(∀z∈L,z.2.h∈hs)->WAt CW CC CK n A' hs S' H'->BtA (Pt::Pt2::Wl A) H H'->tbM H' Pt->tbP H' Pt2->Q (.ref r) H'
theorem zga(F:Def K mg "_law_plan" z6g ["_law_script","_law_holders","_law_world"])(T:Txt K mg ya yc yo yb y9 yd ye yn yp yr yf yg yk yl yi yh ym yj)(y21:MHas P w K mg base CX0 11 yb "ask" ["self","holder","lock","shared","time"] (zkz yb ya yc y9 ye))(y1a:MHas P w K mg base CX0 11 yb "tick" ["self","many"] (zg7 yb ya yc y9))(y15:Has P w K mg base 1 "_law_at" ["_law_script","_law_k"] (spAt K)):Has P w K mg base 12 "_law_plan" ["_law_script","_law_holders","_law_world"] (zl0 yb ya yc y9 ye K):=by
 refine F.ok sc__law_plan (fun vs H Q E h=>?_) (fun f cdv A outer s H vs Q E hr h=>?_)
 .obtain⟨a,ph,ns,n,A,hs,S,rfl,_⟩:=h
  rfl
 .obtain⟨a,ph,ns,n,A,hs,S,rfl,ha,hns,hw,hp0,hph,nph,l1,l8,hnd,hsz,tM,tP,npt,q⟩:=h
  have hu:=hr.units0
  have hu2:=z3l hr
  walk_at "%×úĿÚ6ĐÕ>ĭŻyĆ¼6fD*ĿPFĨĿ+ŀć)ƻŁ&łnţĿ+źƼĤȊ#ĆzND&¿ŕʩdʪ^IºSËĒĿÌąʫ(ŎĺCŌƕŖµʬa$ŃrǷě#ʭal°M3Âő4ÍFO.Ŀ+¾#öæ#æ#žĠoÔƼ88GæcW'ToÔƼ88¬¿ƥiżÀ`ǸŁ8Ÿȹ`Ǹ#oŀć)ƻŁ&ł/8ŸÁ`Ǹ#ŵûķķ$ÓƁê%'/ŇGKmȺ³Ĭ)oŀć)ƻŁ&ł/¥ġÃ>Īû)uƁê%67¾ĚhA¬$Ƌ#ƌÊ#gO»'ÿqmʮ³Ĭ)¾ĚhA¬$Ƌ#ƌÊ#gO»ªŚ1ÙďÝ"
  walk_at "rd"
  refine⟨x08 _,fun p hp=>?_⟩
  have w1:=hw.adopt hp []
  have s1:=Same.upd (o:=.lst []) hp
  have g1:upd H p (.lst []) p=some (.lst []):=z9
  generalize upd H p (.lst [])=H1 at w1 s1 g1⊢
  have ph1:=s1 _ _ hph
  refine⟨_,.inl (SqL.of ph1),⟨by rw[x5];omega,by rw[x5];omega⟩,?_⟩
  rw[x5,x0z]
  refine z53 (fun i σ H'=>∃(L:NL)(S:Sw)(v4 v5 v6 v7 v8:Option V),σ=[some (V.ref a),some (V.ref ph),some (V.ref A.x),some (V.ref p),v4,v5,v6,v7,v8]/\L.length=i/\H' p=some (.lst (refs L))/\TuAt H' L/\PlanAt (L.map (·.2)) S/\(∀z∈L,z.2.h∈hs)/\WAt yb ya yc n { A with fo:=p::A.fo } hs S H'/\BtA (y9::ye::Wl A) H H'/\tbM H' y9/\tbP H' ye) ⟨[],S,_,_,_,_,_,rfl,rfl,g1,(fun z m=>by cases m),hp0,(fun z m=>by cases m),w1,.of s1,TbOk.mono tM s1,TbOk.mono tP s1⟩ ?_ ?_
  .rintro Pv hP i σ H' hi ⟨L,S,v4,v5,v6,v7,v8,rfl,hL,gp,tL,hP2,hLs,wi,bi,tMi,tPi⟩
   walk_at "rd"
   simp only[Int.zero_add]
   refine⟨a,ns,3+i,by simp,ha H' bi,by omega,?_⟩
   generalize ns.getD (3+i) 0=c
   have phi:H' ph=some (.lst (hs.map V.str)):=bi _ _ hph nph
   refine⟨_,.inl (SqL.of phi),c,rfl,by rw[x5];omega,hs,SqL.of phi,by omega,fun l ks hl hk hso=>⟨⟨_,SqL.of z9⟩,?_⟩⟩
   rw[x5]
   have lk8:ks.length=hs.length:=hk.length_eq
   have sl:=Same.upd (o:=.lst (ks.map V.str)) hl
   have gl:upd H' l (.lst (ks.map V.str)) l=some (.lst (ks.map V.str)):=z9
   generalize upd H' l (.lst (ks.map V.str))=H2 at sl gl⊢
   refine z14 (xs:=ks.map V.str) (by rw[x5];exact zf (by omega)) (fun j acc H3=>Same H2 H3/\acc=((ks.take j).filter fun z=>decide (z∉L.map (·.2.h))).map V.str) ⟨Same.refl _,rfl⟩ ?_ ?_ ?_ ?_
   .rintro j acc H3 ⟨-,rfl⟩
    rw[x5]
    exact x01 (x06 _ _) (by rw[x07];omega)
   .rintro j acc H3 ⟨s3,-⟩
    exact SqL.of (s3 _ _ gl)
   .rintro Nn j acc H3 x hN' hx hj ⟨s3,rfl⟩
    rw[xj]at hx
    obtain⟨z,hz,rfl⟩:=x0b.mp hx
    walk_at "rd"
    have gp3:=(sl.trans s3) _ _ gp
    refine⟨⟨_,SqL.of gp3⟩,?_⟩
    refine z14 (xs:=refs L) (by rw[zw];exact zf (by omega)) (fun j acc H4=>H4=H3/\acc=((L.take j).map (·.2.h)).map V.str) ⟨rfl,rfl⟩ ?_ ?_ ?_ ?_
    .rintro j acc H4 ⟨-,rfl⟩
     rw[x5,x5,x07]
     omega
    .rintro j acc H4 ⟨rfl,-⟩
     exact SqL.of gp3
    .rintro N2 j2 acc H4 x hN2 hx hj2 ⟨rfl,rfl⟩
     obtain⟨y,hy,rfl⟩:=z25 hx
     walk_at "rd"
     refine⟨_,_,_,_,rfl,rfl,SqT.of ((sl.trans s3) _ _ (tL y (xf hy))),zi (j:=1) rfl,?_⟩
     refine hN2 _ _ ⟨rfl,?_⟩
     rw[z31 _ hy,x04]
     rfl
    rintro acc H4 ⟨rfl,rfl⟩ pn hpn
    rw[zw,x0h]
    have s4:=Same.upd (o:=.lst ((L.map (·.2.h)).map V.str)) hpn
    refine⟨pn,_,rfl,.inl (SqL.of z9),rfl,z1w _,_,rfl,?_⟩
    rw[z6r]
    have stp:=z27 (fun z:Str=>decide (z∉L.map (·.2.h))) hz
    by_cases m:z∈L.map (·.2.h)
    .rw[x05 m,if_neg (by decide)]
     refine hN' _ _ ⟨s3.trans s4,?_⟩
     rw[stp]
     simp[m]
    .rw[x0j m,if_pos (by decide)]
     refine hN' _ _ ⟨s3.trans s4,?_⟩
     rw[stp]
     simp[m]
   rintro acc H3 ⟨s3,rfl⟩ pl hpl
   rw[x5,x0d (xi ks.length)]
   have nplp:pl≠p:=fun e=>by rw[e,(sl.trans s3) _ _ gp]at hpl;cases hpl
   have nwl:pl∉Wl A:=(wi.mono (sl.trans s3)).freshW hpl
   have gl4:upd H3 pl (.lst ((ks.filter fun z=>decide (z∉L.map (·.2.h))).map V.str)) pl=some (.lst ((ks.filter fun z=>decide (z∉L.map (·.2.h))).map V.str)):=z9
   have s4:=(sl.trans s3).trans (Same.upd (o:=.lst ((ks.filter fun z=>decide (z∉L.map (·.2.h))).map V.str)) hpl)
   generalize upd H3 pl (.lst ((ks.filter fun z=>decide (z∉L.map (·.2.h))).map V.str))=H4 at s4 gl4⊢
   obtain⟨t,ht1,ht2,ht⟩:=zno (1+c/40%1000) 0 (c/8%5) (by omega) (by omega) (by omega) (by omega)
   refine⟨c,rfl,cdiv (by decide) (by decide),by decide,zf (by decide),fun pq hpq=>⟨c,rfl,cdiv (by decide) (by decide),by decide,?_⟩⟩
   refine⟨_,_,_,_,rfl,rfl,SqL.of z9,ht,?_⟩
   have s5:=s4.trans (Same.upd (o:=.lst [V.int 1,V.int 7,V.int 40,V.int (1+c/40%1000),V.int 15]) hpq)
   have gl5:=Same.upd (o:=.lst [V.int 1,V.int 7,V.int 40,V.int (1+c/40%1000),V.int 15]) hpq _ _ gl4
   generalize upd H4 pq (.lst [V.int 1,V.int 7,V.int 40,V.int (1+c/40%1000),V.int 15])=H5 at s5 gl5⊢
   refine⟨fun σ H6=>σ=[some (V.ref a),some (V.ref ph),some (V.ref A.x),some (V.ref p),some (V.int i),some (V.int c),some (V.int (c%((hs.length:Int)-i))),some (V.ref pl),some (V.int t)]/\∃S,H6 p=some (.lst (refs L))/\TuAt H6 L/\PlanAt (L.map (·.2)) S/\WAt yb ya yc n { A with fo:=p::A.fo } hs S H6/\BtA (y9::ye::Wl A) H H6/\tbM H6 y9/\tbP H6 ye/\H6 pl=some (.lst ((ks.filter fun z=>decide (z∉L.map (·.2.h))).map V.str)),?_,?_⟩
   .have w5:=wi.mono s5
    have gp5:=s5 _ _ gp
    have tL5:=tL.mono s5
    have b5:=bi.trans (.of s5)
    have tM5:tbM H5 y9:=TbOk.mono tMi s5
    have tP5:tbP H5 ye:=TbOk.mono tPi s5
    obtain⟨wa,x1,-,-⟩:=w5.ix
    obtain⟨c2,hc2⟩:∃c2,ns.getD (12+i) 0=c2:=⟨_,rfl⟩
    walk_at "rd"
    refine ite2 (fun h1=>?_) fun _=>⟨gp5,tL5,S,hP2,w5,b5,tM5,tP5,gl5⟩
    refine⟨a,ns,12+i,by simp,ha H5 b5,by omega,?_⟩
    rw[hc2]
    refine⟨c2,rfl,by decide,ite2 (fun h2=>?_) fun _=>⟨gp5,tL5,S,hP2,w5,b5,tM5,tP5,gl5⟩⟩
    have h1:=x0c h1
    have h2:=x0c h2
    obtain⟨y0,L',eL⟩:∃y0 L',L=y0::L':=by
     cases L with
     |nil=>simp at hL;omega
     |cons y0 L'=>exact⟨_,_,rfl⟩
    have my0:y0∈L:=by rw[eL];exact xp ..
    refine⟨_,_,_,_,rfl,rfl,SqL.of gp5,zi (j:=0) (v:=V.ref y0.1) (by rw[eL];rfl),_,_,_,_,rfl,rfl,SqT.of (tL5 y0 my0),zi (j:=4) rfl,?_⟩
    refine⟨_,_,_,x1,T.cl_World,T.n_World_now,_,rfl,_,rfl,_,rfl,ite2 (fun h3=>?_) fun _=>⟨gp5,tL5,S,hP2,w5,b5,tM5,tP5,gl5⟩⟩
    have h3:=x0c h3
    have eX:L.map (·.2)=y0.2::L'.map (·.2):=by rw[eL];rfl
    obtain⟨a1,a2,a3,a4,a5,a6⟩:=hP2.z1 _ _ eX
    refine⟨_,_,x1,rfl,a,ns,12+i,by simp,ha H5 b5,by omega,?_⟩
    rw[hc2]
    refine⟨c2,rfl,by decide,n,{ A with fo:=p::A.fo },hs,S,c2%3,fun j S'=>S'=nowS S (S.now+j),rfl,w5,tM5,by omega,by omega,by simp[nowS],?_,fun S' H6 e w6 b6 t6=>?_⟩
    .rintro j S' hj rfl
     refine⟨fun _=>x12 (nowS S) (by show S.now+(j:Int)+1=S.now+((j+1:Nat):Int);omega),fun m=>?_⟩
     have m:S.now+(j:Int)+1∈S.E:=m
     rw[a3,xg]at m
     omega
    .have npp:p∉y9::Wl A:=fun m=>by
      rcases xk.mp m with m|m
      .obtain⟨ps,z⟩:=tM5.some
       rw[<-m,gp5]at z;cases z
      .exact w5.notW gp5 (by intros;nofun) (by intros;nofun) (by intros;nofun) (.inl fun z=>w5.n2.2.1 (by rw[<-z];exact xp ..)) m
     have npl:pl∉y9::Wl A:=fun m=>by
      rcases xk.mp m with m|m
      .obtain⟨ps,z⟩:=tM5.some
       rw[<-m,gl5]at z;cases z
      .exact nwl m
     subst e
     exact⟨b6 _ _ gp5 npp,fun z m=>b6 _ _ (tL5 z m) fun m2=>(by
      rcases xk.mp m2 with m2|m2
      .obtain⟨ps,z2⟩:=tM5.some
       rw[<-m2,tL5 z m]at z2;cases z2
      .exact w5.notW (tL5 z m) (by intros;nofun) (by intros;nofun) (by intros;nofun) (.inr (by intros;nofun)) m2),_,hP2.now eX (by omega) (by omega),w6,b5.trans b6.in2,t6,zbl tP5 w5 tM5.some b6 npt.symm,b6 _ _ gl5 npl⟩
   .rintro σ H6 ⟨rfl,S,gp,tL,hP2,wi,bi,tMi,tPi,gl6⟩
    walk_at "rd"
    obtain⟨wa,x1,-,-⟩:=wi.ix
    have eLm:L.map (·.2.h)=(L.map (·.2)).map (·.h):=by rw[x0x];rfl
    rw[eLm]at gl6
    have hlen:=zmi (X:=(L.map (·.2)).map (·.h)) hk hnd hP2.nd fun z m=>by
     rw[<-eLm]at m
     obtain⟨y,hy,rfl⟩:=xw.mp m
     exact hLs y hy
    rw[x5,x5,hL]at hlen
    obtain⟨sp,hsp,hspl⟩:∃sp:Nat,c%((hs.length:Int)-i)=sp/\sp<hs.length-i:=⟨(c%((hs.length:Int)-i)).toNat,by rw[Int.toNat_of_nonneg (Int.emod_nonneg _ (by omega))],by have:=Int.emod_lt_of_pos c (b:=(hs.length:Int)-i) (by omega);have:=Int.emod_nonneg c (b:=(hs.length:Int)-i) (by omega);omega⟩
    rw[hsp]
    obtain⟨z,hz⟩:∃z,(ks.filter fun z=>decide (z∉(L.map (·.2)).map (·.h)))[sp]? =some z:=⟨_,x8 (by omega)⟩
    have mz:=xz.mp (xf hz)
    have nz:=x0c mz.2
    have zhs:z∈hs:=hk.mem_iff.mp mz.1
    have az:((ks.filter fun z=>decide (z∉(L.map (·.2)).map (·.h))).map V.str)[sp]? =some (V.str z):=by rw[xj,hz];rfl
    generalize(ks.filter fun z=>decide (z∉(L.map (·.2)).map (·.h))).map V.str=F at gl6 az
    refine⟨.inl ⟨_,SqL.of gp⟩,_,_,_,x1,T.cl_World,T.n_World_now,_,rfl,_,_,_,_,rfl,rfl,SqL.of gl6,zi az,zf (by decide),fun pa hpa=>?_⟩
    have s7:=Same.upd (o:=.tup [.int S.now,.str z,.str (Str.ofString "q"),.bl false,.int t]) hpa
    have g7:upd H6 pa (.tup [.int S.now,.str z,.str (Str.ofString "q"),.bl false,.int t]) pa=some (.tup (askN S z t).vals):=z9
    generalize upd H6 pa (.tup [.int S.now,.str z,.str (Str.ofString "q"),.bl false,.int t])=H7 at s7 g7⊢
    have w7:=wi.mono s7
    have gp7:=s7 _ _ gp
    refine⟨_,_,_,rfl,rfl,gp7,by rw[zw];exact zf (by show _+1<=1000000;omega),?_⟩
    have w8:=w7.own (p:=p) (xp ..) (refs L++[.ref pa])
    have b8:BtA (y9::ye::Wl A) H (upd H7 p (.lst (refs L++[.ref pa]))):=fun b o e m=>by
     rw[zc (fun y=>by rw[y,hp]at e;cases e)]
     exact s7 _ _ (bi b o e m)
    have tM8:tbM _ y9:=TbOk.lst (o:=.lst (refs L++[.ref pa])) (TbOk.mono tMi s7) gp7
    have tP8:tbP _ ye:=TbOk.lst (o:=.lst (refs L++[.ref pa])) (TbOk.mono tPi s7) gp7
    have gp8:upd H7 p (.lst (refs L++[.ref pa])) p=some (.lst (refs (L++[(pa,askN S z t)]))):=by rw[z9];unfold refs;rw[x04];rfl
    have tL8:TuAt (upd H7 p (.lst (refs L++[.ref pa]))) (L++[(pa,askN S z t)]):=fun y m=>by
     have e:H7 y.1=some (.tup y.2.vals):=by
      rcases x02.mp m with m|m
      .exact s7 _ _ (tL y m)
      .rw[xg.mp m];exact g7
     rw[zc (fun w=>by rw[w,gp7]at e;cases e)]
     exact e
    have gl8:upd H7 p (.lst (refs L++[.ref pa])) pl=some (.lst F):=by rw[zc nplp];exact s7 _ _ gl6
    generalize upd H7 p (.lst (refs L++[.ref pa]))=H8 at w8 b8 tM8 tP8 gp8 tL8 gl8⊢
    obtain⟨wa8,y8,-,-⟩:=w8.ix
    obtain⟨u1,u2,u3,u4,u5⟩:=hP2.sub
    rw[x5,hL]at u4 u5
    have zok:=hsz z zhs
    have nmL:∀{x:Str},x∈(L.map (·.2)).map (·.h)->x∈hs:=fun m=>by
     rw[<-eLm]at m
     obtain⟨y,hy,rfl⟩:=xw.mp m
     exact hLs y hy
    have fin:∀(S':Sw)(H9:Hp),PlanAt ((L++[(pa,askN S z t)]).map (·.2)) S'->WAt yb ya yc n { A with fo:=p::A.fo } hs S' H9->BtA (y9::ye::Wl A) H8 H9->tbM H9 y9->tbP H9 ye->Pv (i+1) [some (V.ref a),some (V.ref ph),some (V.ref A.x),some (V.ref p),some (V.int i),some (V.int c),some (V.int sp),some (V.ref pl),some (V.int t)] H9:=fun S' H9 hp9 w9 b9 t9 t9'=>by
     have nin:∀{b:Addr}{o:HO},H8 b=some o->(∀ps,o≠.tbl ps)->b∉Wl A->H9 b=some o:=fun{b o} e no nw=>b9 _ _ e fun m=>by
      rcases xk.mp m with m|m
      .obtain⟨ps,y⟩:=tM8.some
       rw[m,y]at e;exact no _ (xq e).symm
      .rcases xk.mp m with m|m
       .obtain⟨ps,y⟩:=tP8.some
        rw[m,y]at e;exact no _ (xq e).symm
       .exact nw m
     refine hP _ _ _ ⟨L++[(pa,askN S z t)],S',_,_,_,_,_,rfl,by rw[xt,hL];rfl,nin gp8 (by intros;nofun) (w8.notW gp8 (by intros;nofun) (by intros;nofun) (by intros;nofun) (.inl fun y=>w8.n2.2.1 (by rw[<-y];exact xp ..))),fun y m=>nin (tL8 y m) (by intros;nofun) (w8.notW (tL8 y m) (by intros;nofun) (by intros;nofun) (by intros;nofun) (.inr (by intros;nofun))),hp9,fun y m=>?_,w9,b8.trans b9,t9,t9'⟩
     rcases x02.mp m with m|m
     .exact hLs y m
     .rw[xg.mp m];exact zhs
    refine⟨_,_,y8,rfl,_,_,_,_,rfl,rfl,SqL.of gl8,zi az,n,{ A with fo:=p::A.fo },hs,S,z,t,rfl,w8,by omega,zhs,zok.2,zok.1,ht1,ht2,fun y m=>⟨fun e=>nz (by rw[<-e];exact u1 y m),(hsz _ (nmL (u1 y m))).1⟩,fun m=>nz (u2 z m),fun v m=>⟨(hsz _ (nmL (u3 v m).1)).1,fun e=>nz (by rw[<-e];exact(u3 v m).1),(u3 v m).2⟩,by omega,by omega,tM8,tP8,npt,?_⟩
    cases L with
    |nil=>
     have e0:=hP2.z0 rfl
     refine .inl ⟨by rw[e0],by rw[e0];rfl,by rw[e0];decide,by rw[e0];decide,by rw[e0];decide,fun a' q' p1 p2 v H9 w9 b9 t9 t9'=>fin _ H9 (hP2.first ht1 ht2 a' q' p1 p2) w9 b9 t9 t9'⟩
    |cons y0 L'=>
     have nd:=hP2.nd
     have fr:∀x,x≠y0.2.h->z1i S x=false:=fun x hx=>hP2.free rfl hx
     refine .inr ⟨fun y m=>fr _ ?_,fr z fun e=>nz (by rw[e];exact xp ..),fun a' q' R v H9 hR hs w9 b9 t9 t9'=>fin _ H9 (by
      rw[x04]
      exact PlanAt.next hP2 ht1 ht2 nz hR hs) w9 b9 t9 t9'⟩
     obtain⟨a1,-⟩:=hP2.z1 _ _ rfl
     exact(u3 ⟨1,y0.2.h,lkQ,false,y0.2.e⟩ (by rw[a1];exact xg.mpr rfl)).2 y m
  .rintro σ H' ⟨L,S,v4,v5,v6,v7,v8,rfl,hL,gp,tL,hP2,hLs,wi,bi,tMi,tPi⟩
   walk_at "rd"
   exact q p L { A with fo:=p::A.fo } S H' rfl rfl hp gp hL tL hP2 hLs wi bi tMi tPi
noncomputable def dueF(k s:Int):List Nt->List (Int×Nt)
 |[]=>[]
 |u::us=>(s,⟨k,u.h,lkQ,false,s+u.e⟩)::dueF (k+1) (s+u.e) us
noncomputable def tot(U:List Nt):Int:=(U.map (·.e)).sum
theorem z5y:∀(U:List Nt)(k s:Int),(dueF k s U).length=U.length
 |[],_,_=>rfl
 |u::us,k,s=>by show _+1=_+1;rw[z5y us]
theorem z5z(u:List Nt):∀(U:List Nt)(k s:Int),dueF k s (U++u)=dueF k s U++dueF (k+U.length) (s+tot U) u
 |[],k,s=>by simp[dueF,tot]
 |x::U,k,s=>by
  have e:s+tot (x::U)=s+x.e+tot U:=by unfold tot;rw[x0a,x2s];omega
  have e2:k+((x::U).length:Int)=k+1+(U.length:Int):=by rw[x09];omega
  rw[e,e2]
  show _::dueF (k+1) (s+x.e) (U++u)=_::(dueF (k+1) (s+x.e) U++_)
  rw[z5z u U]
theorem zl1:∀{U:List Nt},(∀u∈U,1<=u.e)->0<=tot U
 |[],_=>Int.le_refl _
 |x::U,h=>by
  have:=zl1 fun u m=>h u (xx _ m)
  have:=h x (xp ..)
  unfold tot at*
  rw[x0a,x2s]
  omega
theorem zl2:∀{U:List Nt},(∀u∈U,u.e<=1000)->tot U<=1000*(U.length:Int)
 |[],_=>Int.le_refl _
 |x::U,h=>by
  have:=zl2 fun u m=>h u (xx _ m)
  have:=h x (xp ..)
  unfold tot at*
  rw[x0a,x2s,x09]
  omega
theorem zaf:∀{U:List Nt}{k s:Int},(∀u∈U,1<=u.e)->∀d∈dueF k s U,s<=d.1/\d.1<d.2.e/\d.2.e<=s+tot U/\k<=d.2.n/\d.2.n<k+U.length/\d.2.h∈U.map (·.h)/\d.2.l=lkQ/\d.2.sh=false
 |[],_,_,_,_,m=>by cases m
 |u::us,k,s,h,d,m=>by
  have h0:=h u (xp ..)
  have hn:=zl1 fun u m=>h u (xx _ m)
  have et:tot (u::us)=u.e+tot us:=by unfold tot;rw[x0a,x2s]
  rw[et,x09]
  rcases xk.mp m with rfl|m
  .exact⟨Int.le_refl _,by show s<s+u.e;omega,by show s+u.e<=_;omega,Int.le_refl _,by show k<_;omega,xp ..,rfl,rfl⟩
  .obtain⟨a,b,c,d1,e,f,g,i⟩:=zaf (fun u m=>h u (xx _ m)) d m
   exact⟨by omega,b,by omega,by omega,by omega,xx _ f,g,i⟩
theorem zdf:∀{U:List Nt}{k s:Int},∀d∈dueF k s U,d.2.e=s+tot U\/∃d'∈dueF k s U,d'.1=d.2.e
 |[],_,_,_,m=>by cases m
 |[u],k,s,d,m=>by
  rw[xg.mp m]
  left
  show s+u.e=s+(u.e+0)
  omega
 |u::u2::us,k,s,d,m=>by
  have et:s+tot (u::u2::us)=s+u.e+tot (u2::us):=by unfold tot;rw[x0a,x2s];omega
  rcases xk.mp m with rfl|m
  .exact .inr ⟨_,xx _ (xp ..),rfl⟩
  .rw[et]
   rcases zdf d m with e|⟨d',m',e⟩
   .exact .inl e
   .exact .inr ⟨d',xx _ m',e⟩
theorem zdg:∀{U:List Nt}{k s:Int},(dueF k s U).Pairwise fun a b=>a.2.n<b.2.n
 |[],_,_=>.nil
 |u::us,k,s=>List.pairwise_cons.mpr ⟨fun d m=>by
  have:∀{U:List Nt}{k s:Int},∀d∈dueF k s U,k<=d.2.n:=fun{U}=>by
   induction U with
   |nil=>intro k s d m;cases m
   |cons x U ih=>
    intro k s d m
    rcases xk.mp m with rfl|m
    .exact Int.le_refl _
    .have:=ih d m;omega
  have:=this d m
  show k<_
  omega,zdg⟩
theorem zl3:∀{U:List Nt}{k s:Int},(dueF k s U).map (·.2.h)=U.map (·.h)
 |[],_,_=>rfl
 |u::us,k,s=>by show _::_=_::_;rw[zl3]
structure TurnOk(U:List Nt):Prop where
 q:∀ u∈U,u.l=lkQ/\u.sh=false/\1<=u.e/\u.e<=1000/\u.h≠ ""
 nd:(U.map (·.h)).Nodup
 l8:U.length<=8
structure TkAt(U:List Nt)(j:Nat)(S:Sw):Prop where
 j1:1<=j/\j<=U.length
 gT:z3v S.T=dueF 1 0 (U.take j)
 gN:S.N=(dueF 1 0 (U.take j)).map (·.2)
 gR:S.R.map (·.2)=U.drop j
 lC:S.C.length=j
 gE:S.E=(dueF 1 0 (U.take j)).map (·.2.e)
 lT:S.T.length<=9+j
 st:∀d∈dueF 1 0 (U.take j),d.1<=S.now
 lt:j<U.length->S.now<tot (U.take j)
noncomputable def Tk(U:List Nt)(S:Sw):Prop:=∃j,TkAt U j S
section
variable {U:List Nt}{S:Sw}{j:Nat}
theorem TkAt.step(h:TkAt U j S)(o:TurnOk U)(hn:S.now+1∉S.E):TkAt U j (nowS S (S.now+1)):=by
 refine⟨h.j1,h.gT,h.gN,h.gR,h.lC,h.gE,h.lT,fun d m=>?_,fun l=>?_⟩
 .have:=h.st d m
  show _<=S.now+1
  omega
 .have h0:=h.lt l
  show S.now+1<_
  have:tot (U.take j)∈S.E:=by
   rw[h.gE]
   have hj:=h.j1
   have e:U.take j=U.take (j-1)++[U[j-1]]:=by
    rw[<-x2c (by omega),show j-1+1=j by omega]
   rw[e,z5z,x04,x02]
   right
   refine xg.mpr ?_
   show _=(0:Int)+tot (U.take (j-1))+_
   unfold tot
   rw[x04,List.sum_append]
   simp
  have:S.now+1≠tot (U.take j):=fun e=>hn (by rw[e];exact this)
  omega
theorem TkAt.names(h:TkAt U j S)(o:TurnOk U):(∀ y∈S.R,y.2.h≠ ""/\∀ v∈S.N,y.2.h≠v.h)/\∀ v∈S.N,v.h≠ "":=by
 have hN:∀v∈S.N,v.h∈(U.take j).map (·.h):=fun v m=>by
  rw[h.gN]at m
  rw[<-zl3 (k:=1) (s:=0)]
  obtain⟨d,hd,rfl⟩:=xw.mp m
  exact xw.mpr ⟨d,hd,rfl⟩
 have hR:∀y∈S.R,y.2∈U.drop j:=fun y m=>by rw[<-h.gR];exact xw.mpr ⟨y,m,rfl⟩
 have nd:=o.nd
 rw[<-x2f j U,x04,x2b]at nd
 refine⟨fun y m=>⟨(o.q _ (List.mem_of_mem_drop (hR y m))).2.2.2.2,fun v mv e=>nd.2.2 _ (hN v mv) _ (xw.mpr ⟨_,hR y m,rfl⟩) e.symm⟩,fun v m=>?_⟩
 obtain⟨u,hu,e⟩:=xw.mp (hN v m)
 rw[<-e]
 exact(o.q u (List.mem_of_mem_take hu)).2.2.2.2
theorem zl4{N:List Nt}{z:Str}{t:Int}(h:∀v∈N,v.e<=t):z2p N z lkQ false t=true:=by
 unfold z2p z1h
 rw[x2q.mpr fun v m=>by simpa using h v m]
 rfl
theorem zmj{N:List Nt}{z:Str}{t:Int}{x:Nt}(m:x∈N)(hx:t<x.e)(hl:x.l=lkQ)(hz:x.h≠z):z2p N z lkQ false t=false:=by
 have b:z3t z lkQ false x=true:=by
  unfold z3t
  rw[hl]
  simp[hz,onl]
  unfold z5w;simp
 unfold z2p z1h
 rw[Bool.not_eq_false',List.any_eq_true]
 exact⟨x,xz.mpr ⟨m,x05 hx⟩,b⟩
theorem TkAt.next(h:TkAt U j S)(o:TurnOk U)(hn:S.now+1∈S.E):(S.R=[]/\TkAt U j (nowS S (S.now+1)))\/∃(y:Addr×Nt)(R:NL),S.R=y::R/\z1i (nowS S (S.now+1)) y.2.h=true/\z8o (nowS S (S.now+1))/\
  ∀p p2,(∀z∈(givS (nowS S (S.now+1)) y.2 p p2).R,z1i (givS (nowS S (S.now+1)) y.2 p p2) z.2.h=false)/\TkAt U (j+1) (givS (nowS S (S.now+1)) y.2 p p2):=by
 have hj:=h.j1
 have hq:=fun u m=>(o.q u m).2.2.1
 have hqt:∀u∈U.take j,1<=u.e:=fun u m=>hq u (List.mem_of_mem_take m)
 rcases Nat.lt_or_ge j U.length with l|l
 .have hlt:=h.lt l
  have eU:U.drop j=U[j]::U.drop (j+1):=List.drop_eq_getElem_cons l
  have eR:=h.gR
  rw[eU]at eR
  obtain⟨y,R,e,ey,eR'⟩:∃y R,S.R=y::R/\y.2=U[j]/\R.map (·.2)=U.drop (j+1):=by
   cases hR:S.R with
   |nil=>rw[hR]at eR;cases eR
   |cons y R=>rw[hR]at eR;injection eR with a b;exact⟨y,R,rfl,a,b⟩
  have et:S.now+1=tot (U.take j):=by
   rw[h.gE]at hn
   obtain⟨d,hd,ed⟩:=xw.mp hn
   rcases zdf d hd with z|⟨d',hd',z⟩
   .rw[<-ed,z,Int.zero_add]
   .have:=h.st d' hd'
    omega
  have el:∀v∈S.N,v.e<=S.now+1:=fun v m=>by
   rw[h.gN]at m
   obtain⟨d,hd,rfl⟩:=xw.mp m
   have:=(zaf hqt d hd).2.2.1
   rw[et]
   omega
  have lt:(U.take j).length=j:=by rw[x07];omega
  have lN:S.N.length=j:=by rw[h.gN,x5,z5y,lt]
  have lE:S.E.length=j:=by rw[h.gE,x5,z5y,lt]
  have l8:=o.l8
  have yq:=o.q _ (x2v l)
  rw[<-ey]at yq
  have eD:dueF 1 0 (U.take (j+1))=dueF 1 0 (U.take j)++[(S.now+1,z28 (nowS S (S.now+1)) y.2)]:=by
   rw[x2c l,z5z,lt,<-et,Int.zero_add,<-ey]
   have:z28 (nowS S (S.now+1)) y.2=⟨1+(j:Int),y.2.h,lkQ,false,S.now+1+y.2.e⟩:=by
    show(⟨(S.N.length:Int)+1,y.2.h,y.2.l,y.2.sh,S.now+1+y.2.e⟩:Nt)=_
    rw[lN,yq.1,yq.2.1,Int.add_comm]
   rw[this]
   rfl
  have nR:∀z∈R,z.2.h≠y.2.h:=fun z m e2=>by
   have nd:=o.nd
   rw[<-x2f j U,eU,x04,x2b]at nd
   have:=nd.2.1
   rw[x0a,x0k]at this
   refine this.1 ?_
   rw[<-ey,<-e2,<-eR',x0x]
   exact xw.mpr ⟨z,m,rfl⟩
  refine .inr ⟨y,R,e,zl4 el,⟨by show S.N.length<8;omega,by show S.C.length<8;rw[h.lC];omega,by show S.E.length<8;omega,by show S.T.length<100;have:=h.lT;omega⟩,fun p p2=>?_⟩
  have eF:(givS (nowS S (S.now+1)) y.2 p p2).R=R:=by
   show(nowS S (S.now+1)).R.filter _=R
   rw[show(nowS S (S.now+1)).R=y::R from e,x2g,if_neg (by simp),List.filter_eq_self]
   exact fun z m=>x05 (nR z m)
  refine⟨fun z m=>?_,⟨⟨by omega,l⟩,?_,?_,by rw[eF];exact eR',by show(S.C++[_]).length=_;rw[xt,h.lC];rfl,?_,by show(S.T++[_]).length<=_;rw[xt];have:=h.lT;show _+1<=_;omega,fun d m=>?_,fun l2=>?_⟩⟩
  .rw[eF]at m
   exact zmj (x:=z28 (nowS S (S.now+1)) y.2) (x03 _ (xg.mpr rfl)) (by show S.now+1<S.now+1+y.2.e;omega) yq.1 fun e2=>nR z m e2.symm
  .rw[eD,<-h.gT]
   show z3v (S.T++[_])=_
   unfold z3v
   rw[List.filterMap_append]
   rfl
  .rw[eD,x04,<-h.gN]
   rfl
  .rw[eD,x04,<-h.gE]
   rfl
  .show d.1<=S.now+1
   rw[eD]at m
   rcases x02.mp m with m|m
   .have:=h.st d m;omega
   .rw[xg.mp m]
    exact Int.le_refl _
  .show S.now+1<_
   rw[x2c l,et]
   unfold tot
   rw[x04,List.sum_append]
   simp only[x0a,List.map_nil,x2s,List.sum_nil]
   rw[<-ey]
   omega
 .have e:S.R=[]:=by
   have:=h.gR
   rw[List.drop_eq_nil_of_le l]at this
   exact List.map_eq_nil_iff.mp this
  refine .inl ⟨e,h.j1,h.gT,h.gN,h.gR,h.lC,h.gE,h.lT,fun d m=>?_,fun l2=>by omega⟩
  have:=h.st d m
  show _<=S.now+1
  omega
theorem TkAt.due(h:TkAt U j S)(o:TurnOk U):(dueF 1 0 U).filter (fun d=>decide (d.1<=S.now))=dueF 1 0 (U.take j):=by
 have hj:=h.j1
 have e:dueF 1 0 U=dueF 1 0 (U.take j)++dueF (1+(U.take j).length) (0+tot (U.take j)) (U.drop j):=by rw[<-z5z,x2f]
 rw[e,x23,List.filter_eq_self.mpr fun d m=>x05 (h.st d m),x2q.mpr fun d m=>?_,x1o]
 have hl:j<U.length:=by
  rcases Nat.lt_or_ge j U.length with l|l
  .exact l
  .rw[List.drop_eq_nil_of_le l]at m;cases m
 have:=(zaf (fun u m=>(o.q u (List.mem_of_mem_drop m)).2.2.1) d m).1
 have:=h.lt hl
 simp
 omega
theorem TkAt.has(h:TkAt U j S)(o:TurnOk U):((dueF 1 0 U).filter fun d=>decide (d.1<=S.now)&&decide (S.now<d.2.e)).map (·.2)=z1h S.now S.N:=by
 have e:(dueF 1 0 U).filter (fun d=>decide (d.1<=S.now)&&decide (S.now<d.2.e))=((dueF 1 0 U).filter fun d=>decide (d.1<=S.now)).filter fun d=>decide (S.now<d.2.e):=by
  rw[List.filter_filter]
  exact List.filter_congr fun d _=>Bool.and_comm _ _
 rw[e,h.due o,h.gN]
 unfold z1h
 rw[List.filter_map]
 rfl
theorem TkAt.all(h:TkAt U j S)(o:TurnOk U)(h8:8000<=S.now):j=U.length:=by
 have hj:=h.j1
 rcases Nat.lt_or_ge j U.length with l|l
 .have:=h.lt l
  have:=zl2 (U:=U.take j) fun u m=>(o.q u (List.mem_of_mem_take m)).2.2.2.1
  rw[x07]at this
  have:=o.l8
  omega
 .omega
theorem zl5{α β:Type}{f:α->β}:∀{X:List α},(X.map f).Nodup->∀a∈X,∀b∈X,f a=f b->a=b
 |[],_,_,m,_,_,_=>by cases m
 |x::X,h,a,ma,b,mb,e=>by
  rw[x0a,x0k]at h
  rcases xk.mp ma with ea|ma2
  .rcases xk.mp mb with eb|mb2
   .rw[ea,eb]
   .exact absurd (xw.mpr ⟨b,mb2,by rw[<-e,ea]⟩) h.1
  .rcases xk.mp mb with eb|mb2
   .exact absurd (xw.mpr ⟨a,ma2,by rw[e,eb]⟩) h.1
   .exact zl5 h.2 a ma2 b mb2 e
theorem zmk{R L2:NL}{X:List Nt}(nd:(X.map (·.h)).Nodup)(p1:(R.map (·.2)).Perm X)(p2:(L2.map (·.2)).Perm X)(s1:R.Pairwise (fun p q=>kLt q.2 p.2=false))(s2:L2.Pairwise (fun p q=>kLt q.2 p.2=false)):L2.map (·.2)=R.map (·.2):=by
 refine List.Perm.eq_of_pairwise (le:=fun p q:Nt=>kLt q p=false) (fun a b ma mb h1 h2=>?_) (x2a.mpr s2) (x2a.mpr s1) (p2.trans p1.symm)
 exact zl5 nd a (p2.mem_iff.mp ma) b (p1.mem_iff.mp mb) (zdb h2 h1)
theorem PlanAt.tk{x0:Nt}{X':List Nt}(h:PlanAt (x0::X') S)(hl:X'.length<=7):TkAt (x0::S.R.map (·.2)) 1 S:=by
 obtain⟨a1,a2,a3,a4,a5,a6,a7,a8,a9,a0⟩:=h.z1 _ _ rfl
 have e:dueF 1 0 [x0]=[(0,⟨1,x0.h,lkQ,false,x0.e⟩)]:=by simp[dueF]
 have e1:(x0::S.R.map (·.2)).take 1=[x0]:=rfl
 refine⟨⟨xi _,by simp⟩,by rw[a8,e1,e],by rw[a1,e1,e];rfl,rfl,by rw[a2];rfl,by rw[a3,e1,e];rfl,by rw[a9,x09];omega,fun d m=>?_,fun _=>?_⟩
 .rw[e1,e,xg]at m
  rw[m];exact a4
 .rw[e1]
  show _<x0.e+0
  omega
noncomputable def z39:Lg->Bool
 | .giv .. =>true
 | .ask .. =>false
noncomputable def pay:Lg->Int×Nt
 | .giv t x=>(t,x)
 | .ask .. =>(0,⟨0,"","",false,0⟩)
theorem z8p:∀T:List (Addr×Addr×Lg),z3v T=(T.filter fun q=>z39 q.2.2).map fun q=>pay q.2.2
 |[]=>rfl
 |(a,b,.ask t h m)::T=>by
  show z3v T=_
  rw[z8p T,x2g,if_neg (by simp[z39])]
 |(a,b,.giv t x)::T=>by
  show(t,x)::z3v T=_
  rw[z8p T,x2g,if_pos (by simp[z39])]
  rfl
theorem zl6{g:Lg}(h:z39 g=true):g=.giv (pay g).1 (pay g).2:=by
 cases g with
 |ask t h' m=>cases h
 |giv t x=>rfl
theorem z9i{H:Hp}{a b:Addr}{xs:List Str}(ha:H a=some (.lst (xs.map V.str)))(hb:H b=some (.lst (xs.map V.str)))(hl:xs.length<=1000):Alike H 3 (.ref a) (.ref b):=
 .inr ⟨a,b,_,_,rfl,rfl,.inl ⟨ha,hb⟩,rfl,by rw[x5];exact hl,fun i x y hx hy=>by
  rw[hx]at hy
  have e:=xq hy
  rw[xj]at hx
  obtain⟨z,-,ez⟩:=x0b.mp hx
  exact .inl ⟨e,.inr (.inl ⟨z,ez.symm⟩)⟩⟩
theorem ziy{H:Hp}{a b:Addr}{L1 L2:List (Addr×Addr×(Int×Nt))}{M:List V}(ha:H a=some (.lst (L1.map fun q=>V.ref q.1)))(hb:H b=some (.lst (L2.map fun q=>V.ref q.1)))(e:L1.map (·.2.2)=L2.map (·.2.2))(hl:L1.length<=1000)(hM:M.length<=1000)(pM:∀v∈M,z65 v)
  (h1:∀q∈L1,H q.1=some (.tup (lgV q.2.1 (.giv q.2.2.1 q.2.2.2)))/\H q.2.1=some (.tup M)) (h2:∀q∈L2,H q.1=some (.tup (lgV q.2.1 (.giv q.2.2.1 q.2.2.2)))/\H q.2.1=some (.tup M)):Alike H 3 (.ref a) (.ref b):=by
 have el:=x12 List.length e
 rw[x5,x5]at el
 refine .inr ⟨a,b,_,_,rfl,rfl,.inl ⟨ha,hb⟩,by rw[x5,x5,el],by rw[x5];exact hl,fun i x y hx hy=>?_⟩
 rw[xj]at hx hy
 obtain⟨q,hq,rfl⟩:=x0b.mp hx
 obtain⟨q',hq',rfl⟩:=x0b.mp hy
 have ee:q.2.2=q'.2.2:=by
  have:=x12 (·[i]?) e
  simp only[xj,hq,hq',x18]at this
  exact xq this
 obtain⟨g1,g2⟩:=h1 q (xf hq)
 obtain⟨g3,g4⟩:=h2 q' (xf hq')
 rw[<-ee]at g3
 refine .inr ⟨_,_,_,_,rfl,rfl,.inr ⟨g1,g3⟩,rfl,by show 8<=1000;decide,fun j u v hu hv=>?_⟩
 have pi:∀i:Int,z65 (.int i):=fun i=>.inl ⟨_,rfl⟩
 have ps:∀i:Str,z65 (.str i):=fun i=>.inr (.inl ⟨_,rfl⟩)
 have pb:∀i:Bool,z65 (.bl i):=fun i=>.inr (.inr ⟨_,rfl⟩)
 match j,hu,hv with
 |0,hu,hv=>cases hu;cases hv;exact .inl ⟨rfl,ps _⟩
 |1,hu,hv=>cases hu;cases hv;exact .inl ⟨rfl,pi _⟩
 |2,hu,hv=>cases hu;cases hv;exact .inl ⟨rfl,ps _⟩
 |3,hu,hv=>cases hu;cases hv;exact .inl ⟨rfl,ps _⟩
 |4,hu,hv=>cases hu;cases hv;exact .inl ⟨rfl,pb _⟩
 |5,hu,hv=>cases hu;cases hv;exact .inl ⟨rfl,pi _⟩
 |6,hu,hv=>cases hu;cases hv;exact .inl ⟨rfl,pi _⟩
 |7,hu,hv=>
  cases hu;cases hv
  refine .inr ⟨_,_,_,_,rfl,rfl,.inr ⟨g2,g4⟩,rfl,hM,fun k s t hs ht=>?_⟩
  rw[hs]at ht
  exact⟨xq ht,pM s (xf hs)⟩
 |k+8,hu,hv=>cases hu
noncomputable def DueAt(pb:Addr)(H:Hp)(D:List (Addr×(Int×Nt))):Prop:=∀q∈D,H q.1=some (.tup (lgV pb (.giv q.2.1 q.2.2)))
theorem DueAt.mono{pb:Addr}{H H':Hp}{D:List (Addr×(Int×Nt))}(h:DueAt pb H D)(s:Same H H'):DueAt pb H' D:=fun q m=>s _ _ (h q m)
end
noncomputable def spLaw(ts:List Addr)(K:PySem.W.Frag):Sp:=fun vs H Q _=>∃(a:Addr)(ns:List Int),vs=[.ref a]/\SqL K H a (ns.map V.int)/\ns.length<=63/\(∀t∈ts,H t=some (.tbl #[]))/\∀H',Q (.bl true) H'
theorem zol(F:DefC K mg "law" z8v ["_law_script"] yr)(T:Txt K mg ya yc yo yb y9 yd ye yn yp yr yf yg yk yl yi yh ym yj)(y1m:KHas P w K mg base 5 yb ["self","keepers","holders","locks","shared","stores"] (spWI yb ya yc))(y1a:MHas P w K mg base CX0 11 yb "tick" ["self","many"] (zg7 yb ya yc y9))(y23:MHas P w K mg base CX0 1 yb "row" ["self"] (zku yb ya yc))(y1s:MHas P w K mg base CX0 3 yb "having" ["self","lock"] (zky yb ya yc))(y20:MHas P w K mg base CX0 1 yb "log" ["self"] (zkv yb ya yc))(y15:Has P w K mg base 1 "_law_at" ["_law_script","_law_k"] (spAt K))(yu:Has P w K mg base 4 "_law_same" ["_law_found","_law_due"] (z4z 3))(y1x:Has P w K mg base 2 "_law_names" ["_law_cell","_law_many"] (zhh))(y25:Has P w K mg base 12 "_law_plan" ["_law_script","_law_holders","_law_world"] (zl0 yb ya yc y9 ye K))(BA:base.BuiltinsAt mg yp)(mt_Council_named:y9∈ts)(mt_put_in:ye∈ts)(mt_law:yp∈ts)(nd_ts:[y9,ye,yp].Nodup):Has P w K mg base 13 "law" ["_law_script"] (spLaw ts K):=by
 refine F.ok sc_law (fun vs H Q E h=>?_) (fun f A outer s H vs Q E hr h=>?_)
 .obtain⟨a,ns,rfl,_⟩:=h
  rfl
 .obtain⟨a,ns,rfl,ha,hns,hts,q⟩:=h
  have hu:=hr.units0
  have hu2:=z3l hr
  walk_at "%×-´,ʯjŀjŃæċſĠoÓŀjŃæł/8&łn0´ĠoŀjŃæł/&nI´ȠƜʰø(ʱ#ĉ)Ċĺz7öŅ)¨)¨»'ÏnD´,ʲň-ưĴÏnH´bŗ#ĎŁ%è#éƽ/GȘ;;;øƢŎyĎŁ$éƽ/%èJ(ʳǙ(ƣǚ2<<ĩ<ý®VįA´¨įSƾÖ'/nO´Ʊǩ(ƲƖƭěś#ĉŜvÓ¤3Cp>ĭŻy¶¡H¼6fƿ*ƍPFƀ´½Ě$ŵřƿŶ&p>ĪǨ)Ȼ#gS)ŵřƿŶ$Ƌ#ƌÊy½²ƿ8{ƀ{O»÷ÿqīS´NƀĀÛŚãFńƾÚ6Ɓď%'Õťbŗ#rȜěŊĎçéƽ/%è°Ġo¤1ãbʴ#öæc8&$fǹ*ƍPFńƾÚ6½²ńhǹ&Õ=õľj5Ⱥ³þ{ǹJ(_gńZĘĄĹŕǷdȼ^ńºȽËĒƍÌNAG¹À`ę#MóEÁŋ~MŇőMÍFƎ´5ʵ³þ$ŅŤXƴǲëõǺ¡ƎƈČƺVĘǳRõľjrǷıƎ°M3{ȽZ§?ÞÊȾ?3$ŕȿŠºƎËĝƍÌeʶ³þ%T¹āMƧ#ñÍİľßgƎ)rȿdȼ^ńïŐAG¹`ę#Móñ3Qŉ·ľjeʷ³þ%67¨Z¢¢"
  walk_at "rd"
  refine⟨a,ns,0,rfl,ha,by omega,a,ns,1,rfl,ha,by omega,_,rfl,by decide,?_⟩
  generalize ns.getD 0 0=c0
  generalize ns.getD 1 0=c1
  obtain⟨m,em⟩:=Int.eq_ofNat_of_zero_le (show 0<=1+(c1+2)%8 by omega)
  have m1:1<=m:=by omega
  have m8:m<=8:=by omega
  rw[em]
  refine⟨c0,m,rfl,m8,fun ph hs H1 hlen hN hph0 hph s1=>⟨a,ns,2,rfl,s1.seq ha,by omega,_,rfl,by decide,ph,rfl,_,.inl (SqL.of hph),fun p1 hp1=>⟨by decide,fun p2 hp2=>⟨by decide,fun p3 hp3=>⟨by decide,fun p4 hp4 x dx hx hdx ne=>?_⟩⟩⟩⟩⟩
  generalize ns.getD 2 0=c2
  obtain⟨n,en⟩:=Int.eq_ofNat_of_zero_le (show 0<=1+c2%5 by omega)
  have n1:1<=n:=by omega
  have n5:n<=5:=by omega
  rw[en]
  have u1:=Same.upd (o:=.lst (hs.map V.str)) hp1
  have u2:=Same.upd (o:=.lst [.str "q"]) hp2
  have u3:=Same.upd (o:=.lst []) hp3
  have u4:=Same.upd (o:=.lst []) hp4
  have ga:=((u2.trans u3).trans u4) _ _ z9
  have gb:=(u3.trans u4) _ _ z9
  have gc:=u4 _ _ z9
  have gd:upd (upd (upd (upd H1 p1 (.lst (hs.map V.str))) p2 (.lst [.str "q"])) p3 (.lst [])) p4 (.lst []) p4=some (.lst []):=z9
  have s5:=s1.trans (((u1.trans u2).trans u3).trans u4)
  have gph:=(((u1.trans u2).trans u3).trans u4) _ _ hph
  clear u1 u2 u3 u4 hp1 hp2 hp3 hp4
  generalize upd (upd (upd (upd H1 p1 (.lst (hs.map V.str))) p2 (.lst [.str "q"])) p3 (.lst [])) p4 (.lst [])=G at ga gb gc gd s5 gph hx hdx⊢
  have v1:=Same.upd (o:=.own x) hdx
  have hx1:upd G dx (.own x) x=none:=by rw[zc ne.symm];exact hx
  have v2:=Same.upd (o:=.ins yb dx []) hx1
  have v12:=v1.trans v2
  have gl:∀ z∈hs,z≠ ""/\z.length<=1000:=fun z mz=>by
   have g:=hN.all z mz
   refine⟨fun e=>?_,by have:=zmd g;omega⟩
   rw[e]at g
   exact absurd g (by decide)
  have e2:hs.Nodup:=hN.nd (by omega)
  have gS:z4a (n:Nat) hs ["q"] [] []=true:=by
   unfold z4a
   have e1:(hs.map z18).all id=true:=by
    rw[List.all_map]
    exact x2u.mpr fun z mz=>hN.all z mz
   have e3:((["q"]:List Str).map z3g).all id=true:=by decide+kernel
   have f1:(1:Int)<=(hs.length:Int):=by omega
   have f8:(hs.length:Int)<=8:=by omega
   have k1:(1:Int)<=(n:Int):=by omega
   have k5:(n:Int)<=5:=by omega
   simp only[e1,e2,e3,f1,f8,k1,k5,List.all_cons,List.all_nil,decide_true,Bool.and_true,id,Bool.and_self]
   decide+kernel
  refine⟨x,dx,n,p1,p2,p3,p4,hs,["q"],[],[],rfl,z9,v12 _ _ ga,v12 _ _ gb,v12 _ _ gc,v12 _ _ gd,by omega,by decide,by decide,by decide,fun z m=>(gl z m).2,by decide+kernel,by simp,gS,fun G2 G1 co lh ll lsh st ca wa as lo en cl ks lk dd gx objs nd bt hc1 hc2 hks xks xco bt2=>?_⟩
  have sG:Same G G2:=fun b o e=>bt2 b o (bt b o (v12 b o e) (zh e hx)) (zh e hx)
  have klo1:∀{b:Addr}{o:HO},G b=some o->b≠lo:=fun{b o} e z=>by
   have:=bt b o (v12 b o e) (zh e hx)
   rw[z,(objs (lo,.lst []) (by simp)).2.1]at this
   cases this
  have W0:WAt yb ya yc n ⟨x,dx,co,cl,lh,ll,lsh,st,ca,as,lo,en,ks,[]⟩ hs ⟨0,[],[],[],[],[]⟩ G2:=by
   simp only[x0k,xk,List.not_mem_nil,or_false,not_or]at nd
   have nlo:=(objs (lo,.lst []) (by simp)).2.1
   refine⟨⟨wa,gx,(objs (wa,.lst []) (by simp)).1,fun p m=>?_⟩,fun q m=>(by cases m),(objs (lh,_) (by simp)).1,(objs (ll,_) (by simp)).1,(objs (as,.dK []) (by simp)).1,⟨[],(objs (ca,_) (by simp)).1,xi _,fun h=>rfl⟩,⟨[],(objs (en,.dK []) (by simp)).1,xi _,fun t=>rfl⟩,(objs (lo,.lst []) (by simp)).1,fun q m=>(by cases m),⟨lk,hc2,fun p m y=>?_⟩,hks,⟨xks,xco⟩,⟨fun p m=>?_,fun m=>(by cases m),fun z=>nd.1.2.1 z.symm⟩,fun p m=>(by cases m),⟨n1,n5,by decide,by decide,by decide,by decide,by decide⟩,fun x m=>(by cases m),fun x m=>(by cases m)⟩
   .rw[xg.mp m]
    exact fun z=>nd.2.1.2.1 z.symm
   .rw[xg.mp m]at y
    obtain⟨_,e⟩:=hc1.lsome y
    rw[nlo]at e
    cases e
   .rw[xg.mp m]
    exact⟨fun z=>(by have e:=hc1.li;have z:lo=cl:=z;rw[<-z,nlo]at e;cases e),nd.2.1.2.2.2.2.2.2,nd.2.1.2.2.2.2.2.1⟩
  have hnt:=x0k.mp nd_ts
  have npt:y9≠ye:=fun z=>hnt.1 (by rw[z];exact xp ..)
  have npl:yp≠y9:=fun z=>hnt.1 (by rw[<-z];simp)
  have npl2:yp≠ye:=fun z=>(x0k.mp hnt.2).1 (by rw[<-z];simp)
  have ts2:∀t∈ts,G2 t=some (.tbl #[]):=fun t m=>sG _ _ (s5 _ _ (hts t m))
  have sA:=s5.trans sG
  have gph2:=sG _ _ gph
  have aK:∀H':Hp,(∀o,H a=some o->(∀ps,o≠.tbl ps)->(∀C d f,o≠.ins C d f)->(∀x,o≠.dT x)->(∀x,o≠.dK x)->H' a=some o)->SqL K H' a (ns.map V.int):=fun H' k=>by
   rcases ha with(e|⟨ob,e⟩)|z
   .exact .inl (.inl (k _ e (by intros;nofun) (by intros;nofun) (by intros;nofun) (by intros;nofun)))
   .exact .inl (.inr ⟨ob,k _ e (by intros;nofun) (by intros;nofun) (by intros;nofun) (by intros;nofun)⟩)
   .exact .inr z
  have klo2:∀{b:Addr}{o:HO},H b=some o->b≠lo:=fun{b o} e=>klo1 (s5 _ _ e)
  have phlo:ph≠lo:=klo1 gph
  generalize eA:(⟨x,dx,co,cl,lh,ll,lsh,st,ca,as,lo,en,ks,[]⟩:Ad)=A at W0
  have ex:A.x=x:=by rw[<-eA]
  have el:A.lo=lo:=by rw[<-eA]
  rw[<-ex]
  rw[<-el]at klo2 phlo
  clear objs nd bt bt2 gx eA v1 v2 v12 hx1 hc1 hc2 klo1 sG xks xco hks ex el ga gb gc gd
  have nT:∀{b:Addr}{o:HO},G2 b=some o->(∀ps,o≠.tbl ps)->b∉Wl A->b∉y9::ye::Wl A:=fun{b o} e no nw m=>by
   rcases xk.mp m with m|m
   .rw[m,ts2 _ mt_Council_named]at e;exact no _ (xq e).symm
   .rcases xk.mp m with m|m
    .rw[m,ts2 _ mt_put_in]at e;exact no _ (xq e).symm
    .exact nw m
  refine⟨rfl,a,ph,ns,n,A,hs,_,rfl,fun H' b=>?_,hns,W0,⟨fun _=>rfl,fun _ _ e=>(by cases e),fun _ m=>(by cases m),x29⟩,gph2,nT gph2 (by intros;nofun) (W0.notW gph2 (by intros;nofun) (by intros;nofun) (by intros;nofun) (.inl phlo)),by omega,by omega,e2,gl,.inl (ts2 _ mt_Council_named),.inl (ts2 _ mt_put_in),npt,fun r L A' S H3 eA eW hr0 gr lL tL hP hLs w3 b3 tM3 tP3=>?_⟩
  .exact aK H' fun o e n1 n2 n3 n4=>b _ _ (sA _ _ e) (nT (sA _ _ e) n1 (W0.notW (sA _ _ e) n2 n3 n4 (.inl (klo2 e))))
  obtain⟨⟨a0,x0⟩,L,rfl⟩:∃y L',L=y::L':=by
   cases L with
   |nil=>simp at lL;omega
   |cons y L'=>exact⟨_,_,rfl⟩
  have a3:∀o,H a=some o->(∀ps,o≠.tbl ps)->(∀C d f,o≠.ins C d f)->(∀x,o≠.dT x)->(∀x,o≠.dK x)->H3 a=some o:=fun o e n1 n2 n3 n4=>b3 _ _ (sA _ _ e) (nT (sA _ _ e) n1 (W0.notW (sA _ _ e) n2 n3 n4 (.inl (klo2 e))))
  have elo:A'.lo=A.lo:=by simp only[Wl,List.cons.injEq]at eW;exact eW.2.2.2.1
  have tB3:H3 yp=some (.tbl #[]):=b3 _ _ (ts2 _ mt_law) fun m=>by
   rcases xk.mp m with m|m
   .exact npl m
   .rcases xk.mp m with m|m
    .exact npl2 m
    .exact W0.notW (ts2 _ mt_law) (by intros;nofun) (by intros;nofun) (by intros;nofun) (.inr (by intros;nofun)) m
  rw[<-eA]
  rw[<-eW]at b3
  refine⟨_,_,rfl,SqL.of gr,fun q1 hq1=>?_⟩
  have ec1:cutV (refs ((a0,x0)::L)) none (some 1)=[.ref a0]:=zav _ 1
  rw[ec1]
  have sq1:=Same.upd (o:=.lst [.ref a0]) hq1
  have gq1:upd H3 q1 (.lst [.ref a0]) q1=some (.lst [.ref a0]):=z9
  generalize upd H3 q1 (.lst [.ref a0])=H4 at sq1 gq1⊢
  refine⟨_,_,rfl,SqL.of (sq1 _ _ gr),fun q2 hq2=>?_⟩
  have ec2:cutV (refs ((a0,x0)::L)) (some 1) none=refs L:=z8y _ 1
  rw[ec2]
  have sq2:=sq1.trans (Same.upd (o:=.lst (refs L)) hq2)
  have gq2:upd H4 q2 (.lst (refs L)) q2=some (.lst (refs L)):=z9
  have gq1':=Same.upd (o:=.lst (refs L)) hq2 _ _ gq1
  generalize upd H4 q2 (.lst (refs L))=H5 at sq2 gq2 gq1'⊢
  have lL8:L.length+1=hs.length:=lL
  have eM:(L.map fun z=>(z.1,z.2.vals)).map (fun q=>V.ref q.1)=refs L:=by rw[x0x];rfl
  have lM:(L.map fun z=>(z.1,z.2.vals)).length=L.length:=x5 _
  refine⟨q2,rfl,L.map fun z=>(z.1,z.2.vals),by rw[eM];exact SqL.of gq2,by rw[lM];omega,.inl (sq2 _ _ tB3),fun n=>(L.getD n (a0,x0)).2.n,fun n=>(L.getD n (a0,x0)).2.h,fun n y hy=>?_,fun H6 r2 pm hB hT hr2 hpm hso=>?_⟩
  .rw[xj]at hy
   cases e:L[n]? with
   |none=>rw[e]at hy;cases hy
   |some z=>
    rw[e]at hy
    cases hy
    refine⟨sq2 _ _ (tL z (xx _ (xf e))),?_,?_⟩
    .show _=some (V.int (L.getD n (a0,x0)).2.n)
     rw[xo,e];rfl
    .show _=some (V.str (L.getD n (a0,x0)).2.h)
     rw[xo,e];rfl
  rw[lM]at hpm
  have hpm':∀n∈pm,n<L.length:=fun n hn=>by have:=(hpm.mem_iff (a:=n)).mp hn;rwa[x0l]at this
  have eR:pm.map (fun n=>((L.map fun z=>(z.1,z.2.vals))[n]?.map fun q=>V.ref q.1).getD V.non)=refs (pm.map fun n=>L.getD n (a0,x0)):=by
   unfold refs
   rw[x0x]
   refine x2o fun n hn=>?_
   have hn':=hpm' n hn
   rw[xj,x8 hn']
   show V.ref _=V.ref _
   simp[xo,x8 hn']
  rw[eR]
  have hL2:(pm.map fun n=>L.getD n (a0,x0)).Perm L:=by
   have:=hpm.map (fun n=>L.getD n (a0,x0))
   rwa[z7h]at this
  have hS2:(pm.map fun n=>L.getD n (a0,x0)).Pairwise (fun p q=>kLt q.2 p.2=false):=by
   rw[x2a];exact hso
  generalize(pm.map fun n=>L.getD n (a0,x0))=L2 at hL2 hS2⊢
  have eU:L2.map (·.2)=S.R.map (·.2):=by
   obtain⟨-,-,-,-,-,c6,c7,-⟩:=hP.z1 _ _ rfl
   have nd:=hP.nd
   exact zmk (x0k.mp nd).2 c6 (hL2.map (·.2)) c7 hS2
  have hTk:=hP.tk (by rw[x5];omega)
  rw[<-eU]at hTk
  have lL2:=hL2.length_eq
  have hO:TurnOk (((a0,x0)::L2).map (·.2)):=by
   have pm2:((x0::L2.map (·.2)):List Nt).Perm (((a0,x0)::L).map (·.2)):=(hL2.map (·.2)).cons x0
   refine⟨fun u m=>?_,?_,by rw[x5,x09];omega⟩
   .have m2:=pm2.mem_iff.mp m
    obtain⟨y,hy,rfl⟩:=xw.mp m2
    obtain⟨d1,d2,d3,d4⟩:=hP.qx _ m2
    exact⟨d1,d2,d3,d4,(gl _ (hLs y hy)).1⟩
   .exact(pm2.map (·.h)).nodup_iff.mpr hP.nd
  have tT6:TuAt H6 ((a0,x0)::L2):=fun y m=>by
   have m2:y∈(a0,x0)::L:=by
    rcases xk.mp m with rfl|m
    .exact xp ..
    .exact xx _ (hL2.mem_iff.mp m)
   refine hB _ _ (sq2 _ _ (tL y m2)) fun z=>?_
   have:=sq2 _ _ (tL y m2)
   rw[z,sq2 _ _ tB3]at this
   cases this
  have kB:∀{b:Addr}{o:HO},H5 b=some o->(∀ps,o≠.tbl ps)->H6 b=some o:=fun{b o} e no=>hB _ _ e fun z=>by
   rw[z,sq2 _ _ tB3]at e
   exact no _ (xq e).symm
  have w6:=(w3.mono sq2).keep hB (.inr ⟨_,sq2 _ _ tB3⟩)
  have tM6:tbM H6 y9:=by
   rcases TbOk.mono tM3 sq2 with e|⟨c',e,e2⟩
   .exact .inl (hB _ _ e fun z=>npl z.symm)
   .exact .inr ⟨c',hB _ _ e fun z=>npl z.symm,kB e2 (by intros;unfold z3y;nofun)⟩
  have gq6:=kB gq1' (by intros;nofun)
  have s7:=Same.upd (o:=.lst (refs L2)) hr2
  refine⟨_,_,_,_,rfl,rfl,s7 _ _ gq6,z9,by rw[zw];exact zf (by show 1+L2.length<=1000000;omega),fun rt hrt=>⟨x08 _,fun pd hpd=>⟨⟨by omega,by omega⟩,?_⟩⟩⟩
  have eT:([V.ref a0]++refs L2:List V)=refs ((a0,x0)::L2):=rfl
  rw[eT]at hpd⊢
  have s8:=s7.trans (Same.upd (o:=.lst (refs ((a0,x0)::L2))) hrt)
  have grt:upd (upd H6 r2 (.lst (refs L2))) rt (.lst (refs ((a0,x0)::L2))) rt=some (.lst (refs ((a0,x0)::L2))):=z9
  generalize upd (upd H6 r2 (.lst (refs L2))) rt (.lst (refs ((a0,x0)::L2)))=H8 at s8 grt hpd⊢
  have w8:=w6.mono s8
  have aB:∀H',BtA (y9::Wl A') H8 H'->SqL K H' a (ns.map V.int):=fun H' b=>aK H' fun o e n1 n2 n3 n4=>by
   have e8:=s8 _ _ (kB (sq2 _ _ (a3 o e n1 n2 n3 n4)) n1)
   refine b _ _ e8 fun m=>?_
   rcases xk.mp m with m|m
   .obtain⟨ps,z⟩:=TbOk.some (TbOk.mono tM6 s8)
    rw[m,z]at e8
    exact n1 _ (xq e8).symm
   .exact w8.notW e8 n2 n3 n4 (.inl (by rw[elo];exact klo2 e)) m
  have nrt:rt∉y9::Wl A':=fun m=>by
   rcases xk.mp m with m|m
   .obtain⟨ps,z⟩:=TbOk.some (TbOk.mono tM6 s8)
    rw[<-m,grt]at z;cases z
   .exact(w6.mono s7).freshW hrt m
  have w9:=w8.adopt hpd []
  have tM8:tbM H8 y9:=TbOk.mono tM6 s8
  have tT8:=tT6.mono s8
  have s9:=Same.upd (o:=.lst []) hpd
  have gpd:upd H8 pd (.lst []) pd=some (.lst []):=z9
  generalize upd H8 pd (.lst [])=H9 at s9 w9 gpd⊢
  have tM9:tbM H9 y9:=TbOk.mono tM8 s9
  generalize hT:((a0,x0)::L2:NL)=TL at*
  have kT:∀{H':Hp},BtA (y9::Wl A') H8 H'->H' rt=some (.lst (refs TL))/\TuAt H' TL:=fun{H'} b=>⟨b _ _ grt nrt,fun y m=>b _ _ (tT8 y m) fun m2=>by
   rcases xk.mp m2 with m2|m2
   .obtain⟨ps,z⟩:=tM8.some
    rw[<-m2,tT8 y m]at z;cases z
   .exact w8.notW (tT8 y m) (by intros;nofun) (by intros;nofun) (by intros;nofun) (.inr (by intros;nofun)) m2⟩
  rw[x0z]
  refine z4c (zf (by omega)) (fun j acc H'=>H'=H9/\acc=z19 (List.range j)) ⟨rfl,rfl⟩ ?_ ?_ ?_
  .rintro j acc H' ⟨-,rfl⟩
   rw[z59,x1h]
   exact xi _
  .rintro Nn j acc H' hN' hj ⟨rfl,rfl⟩
   walk_at "rd"
   refine hN' _ _ ⟨rfl,?_⟩
   unfold z19
   rw[List.range_succ,x04,Int.zero_add]
   rfl
  rintro acc H' ⟨rfl,rfl⟩ pq hpq
  refine⟨pq,rfl,_,.inl ⟨SqL.of z9,fun pb hpb=>?_⟩⟩
  have s10:=(Same.upd (o:=.lst (z19 (List.range n))) hpq).trans (Same.upd (o:=.tup (z19 (List.range n))) hpb)
  have gpb:upd (upd H' pq (.lst (z19 (List.range n)))) pb (.tup (z19 (List.range n))) pb=some (.tup (z19 (List.range n))):=z9
  generalize upd (upd H' pq (.lst (z19 (List.range n)))) pb (.tup (z19 (List.range n)))=H10 at s10 gpb⊢
  have lT8:TL.length<=8:=by rw[<-hT,x09];omega
  refine⟨rt,rfl,_,.inl (SqL.of (s10 _ _ (s9 _ _ grt))),⟨by rw[zw];omega,by rw[zw];omega⟩,?_⟩
  rw[zw,x0z]
  refine z53 (fun i σ H'=>∃(D:List (Addr×(Int×Nt)))(v9 v10:Option V),σ=[some (V.ref a),some (V.ref ph),some (V.int n),some (V.ref A'.x),some (V.ref r),some (V.ref rt),some (V.ref pd),some (V.int (tot ((TL.map (·.2)).take i))),some (V.ref pb),v9,v10,none,none,none,none]/\H' pd=some (.lst (D.map fun q=>V.ref q.1))/\D.map (·.2)=dueF 1 0 ((TL.map (·.2)).take i)/\DueAt pb H' D/\BtA (y9::Wl A') H8 H'/\WAt yb ya yc n { A' with fo:=pd::A'.fo } hs S H'/\tbM H' y9/\H' pb=some (.tup (z19 (List.range n)))) ⟨[],_,_,rfl,s10 _ _ gpd,rfl,(fun q m=>by cases m),.of (s9.trans s10),w9.mono s10,TbOk.mono tM9 s10,gpb⟩ ?_ ?_
  .rintro Pv hP' i σ H' hi ⟨D,v9,v10,rfl,gD,eD,hD,b',w',tM',gb'⟩
   walk_at "rd"
   simp only[Int.zero_add]
   obtain⟨gr',tT'⟩:=kT b'
   obtain⟨y,hy⟩:∃y,TL[i]? =some y:=⟨_,x8 hi⟩
   have ty:=tT' y (xf hy)
   have az:(refs TL)[i]? =some (V.ref y.1):=by unfold refs;rw[xj,hy];rfl
   refine⟨_,_,_,_,rfl,rfl,SqL.of gr',zi az,_,_,_,_,rfl,rfl,SqT.of ty,zi (j:=4) rfl,_,rfl,.inl ⟨_,SqL.of gD⟩,_,_,_,_,rfl,rfl,SqL.of gr',zi az,_,_,_,_,rfl,rfl,SqT.of ty,zi (j:=1) rfl,zf (by decide),fun pr hpr=>?_⟩
   have eU1:(TL.map (·.2)).take (i+1)=(TL.map (·.2)).take i++[y.2]:=by rw[x16,xj,hy];rfl
   have lti:((TL.map (·.2)).take i).length=i:=by rw[x07,x5];omega
   have et:tot ((TL.map (·.2)).take (i+1))=tot ((TL.map (·.2)).take i)+y.2.e:=by
    rw[eU1];unfold tot;rw[x04,List.sum_append];simp
   have ed:dueF 1 0 ((TL.map (·.2)).take (i+1))=dueF 1 0 ((TL.map (·.2)).take i)++[(tot ((TL.map (·.2)).take i),⟨(i:Int)+1,y.2.h,lkQ,false,tot ((TL.map (·.2)).take i)+y.2.e⟩)]:=by
    rw[eU1,z5z,lti,Int.zero_add,Int.add_comm 1]
    rfl
   rw[<-et]
   rw[<-et]at ed
   generalize tot ((TL.map (·.2)).take i)=t0 at ed⊢
   generalize ht1:tot ((TL.map (·.2)).take (i+1))=t1 at ed⊢
   generalize hrow:([V.str (Str.ofString "given"),V.int t0,V.str y.2.h,V.str (Str.ofString "q"),V.bl false,V.int ((i:Int)+1),V.int t1,V.ref pb]:List V)=row
   have erow:row=lgV pb (.giv t0 ⟨(i:Int)+1,y.2.h,lkQ,false,t1⟩):=by rw[<-hrow];rfl
   have sr:=Same.upd (o:=.tup row) hpr
   have grow:upd H' pr (.tup row) pr=some (.tup row):=z9
   have lD:D.length=i:=by have:=x12 List.length eD;rw[x5,z5y,lti]at this;exact this
   generalize upd H' pr (.tup row)=H2 at sr grow⊢
   have gD2:=sr _ _ gD
   refine⟨_,_,_,rfl,rfl,gD2,by rw[x5];exact zf (by show _+1<=1000000;omega),?_⟩
   have w2:=(w'.mono sr).own (p:=pd) (xp ..) (D.map (fun q=>V.ref q.1)++[.ref pr])
   have kl:∀{b:Addr}{o:HO},H2 b=some o->(∀xs,o≠.lst xs)->upd H2 pd (.lst (D.map (fun q=>V.ref q.1)++[.ref pr])) b=some o:=fun{b o} e no=>by
    rw[zc (fun z=>by rw[z,gD2]at e;exact no _ (xq e).symm)];exact e
   refine hP' _ _ _ ⟨D++[(pr,(t0,⟨(i:Int)+1,y.2.h,lkQ,false,t1⟩))],_,_,by rw[ht1],by rw[z9,x04];rfl,by rw[ed,x04,eD];rfl,fun q m=>?_,fun b o e m=>?_,w2,TbOk.lst (TbOk.mono tM' sr) gD2,kl (sr _ _ gb') (by intros;nofun)⟩
   .rcases x02.mp m with m|m
    .exact kl (sr _ _ (hD q m)) (by intros;nofun)
    .rw[xg.mp m]
     refine kl ?_ (by intros;nofun)
     rw[grow,erow]
   .rw[zc (fun z=>by rw[z,hpd]at e;cases e)]
    exact sr _ _ (b' b o e m)
  .rintro σ H' ⟨D,v9,v10,rfl,gD,eD,hD,b',w',tM',gb'⟩
   walk_at "rd"
   obtain⟨wa,x1,-,-⟩:=w'.ix
   refine⟨_,_,_,x1,T.cl_World,T.n_World_now,_,rfl,_,_,rfl,aB H' b',fun pl hpl=>?_⟩
   have ecc:cutV (ns.map V.int) (some 21) none=(ns.drop 21).map V.int:=by rw[List.map_drop];exact z8y _ 21
   rw[ecc]
   have sl:=Same.upd (o:=.lst ((ns.drop 21).map V.int)) hpl
   have gpl:upd H' pl (.lst ((ns.drop 21).map V.int)) pl=some (.lst ((ns.drop 21).map V.int)):=z9
   generalize upd H' pl (.lst ((ns.drop 21).map V.int))=H2 at sl gpl⊢
   refine⟨pl,rfl,⟨_,SqL.of gpl⟩,?_⟩
   have ld:(ns.drop 21).length<=63:=by rw[List.length_drop];omega
   refine z14 (xs:=(ns.drop 21).map V.int) (by rw[x5];exact zf (by omega)) (fun j acc H3=>H3=H2/\acc=(((ns.drop 21).take j).map fun c=>1+c%1000).map V.int) ⟨rfl,rfl⟩ ?_ ?_ ?_ ?_
   .rintro j acc H3 ⟨-,rfl⟩
    rw[x5,x5,x07]
    omega
   .rintro j acc H3 ⟨rfl,-⟩
    exact SqL.of gpl
   .rintro Nn j acc H3 x hN' hx hj ⟨rfl,rfl⟩
    rw[xj]at hx
    obtain⟨c,hc,rfl⟩:=x0b.mp hx
    walk_at "rd"
    refine⟨by decide,hN' _ _ ⟨rfl,?_⟩⟩
    rw[z31 _ hc,x04]
    rfl
   rintro acc H3 ⟨rfl,rfl⟩ p5 hp5
   rw[x5,x0d (xi _)]
   have s5':=sl.trans (Same.upd (o:=.lst (((ns.drop 21).map fun c=>1+c%1000).map V.int)) hp5)
   have g5:upd H3 p5 (.lst (((ns.drop 21).map fun c=>1+c%1000).map V.int)) p5=some (.lst (((ns.drop 21).map fun c=>1+c%1000).map V.int)):=z9
   generalize upd H3 p5 (.lst (((ns.drop 21).map fun c=>1+c%1000).map V.int))=H5' at s5' g5⊢
   refine⟨zf (by decide),fun p6 hp6=>⟨_,_,_,rfl,rfl,z9,by decide,by decide,by show 1*8<=sizeLine;exact zf (by decide),fun p7 hp7=>?_⟩⟩
   have g6:=Same.upd (o:=.lst (List.replicate (Int.toNat 8) [V.int 1000]).flatten) hp7 _ _ (Same.upd (o:=.lst [V.int 1000]) hp6 _ _ g5)
   refine⟨_,_,_,_,rfl,rfl,g6,z9,?_,fun pz hpz=>⟨pz,rfl,⟨_,SqL.of z9⟩,?_⟩⟩
   .rw[x5,x5]
    show _+8<=sizeLine
    exact zf (by omega)
   have eSt:((ns.drop 21).map fun c=>1+c%1000).map V.int++(List.replicate (Int.toNat 8) [V.int 1000]).flatten=((ns.drop 21).map (fun c=>1+c%1000)++List.replicate 8 1000).map V.int:=by
    rw[x04];rfl
   rw[eSt]
   have hSt:∀t∈(ns.drop 21).map (fun c=>1+c%1000)++List.replicate 8 (1000:Int),1<=t/\t<=1000:=fun t m=>by
    rcases x02.mp m with m|m
    .obtain⟨c,-,rfl⟩:=xw.mp m
     omega
    .rw[(x2z.mp m).2];omega
   have sSt:8000<=((ns.drop 21).map (fun c=>1+c%1000)++List.replicate 8 (1000:Int)).sum:=by
    rw[List.sum_append]
    have:∀l:List Int,0<=(l.map fun c=>1+c%1000).sum:=fun l=>by
     induction l with
     |nil=>exact Int.le_refl _
     |cons c l ih=>rw[x0a,x2s];omega
    have:=this (ns.drop 21)
    show 8000<=_+(8000:Int)
    omega
   have lSt:((ns.drop 21).map (fun c=>1+c%1000)++List.replicate 8 (1000:Int)).length<=100:=by
    rw[xt,x5,List.length_replicate];omega
   generalize(ns.drop 21).map (fun c=>1+c%1000)++List.replicate 8 (1000:Int)=St at hSt sSt lSt hpz⊢
   have nzl:pz≠A'.lo:=fun z=>by rw[z,(((s5'.trans (Same.upd (o:=.lst [V.int 1000]) hp6)).trans (Same.upd (o:=.lst (List.replicate (Int.toNat 8) [V.int 1000]).flatten) hp7)) _ _ w'.lg)]at hpz;cases hpz
   have s8':=((s5'.trans (Same.upd (o:=.lst [V.int 1000]) hp6)).trans (Same.upd (o:=.lst (List.replicate (Int.toNat 8) [V.int 1000]).flatten) hp7)).trans (Same.upd (o:=.lst (St.map V.int)) hpz)
   have gSt:upd (upd (upd H5' p6 (.lst [V.int 1000])) p7 (.lst (List.replicate (Int.toNat 8) [V.int 1000]).flatten)) pz (.lst (St.map V.int)) pz=some (.lst (St.map V.int)):=z9
   generalize upd (upd (upd H5' p6 (.lst [V.int 1000])) p7 (.lst (List.replicate (Int.toNat 8) [V.int 1000]).flatten)) pz (.lst (St.map V.int))=HB at s8' gSt⊢
   have bB:BtA (y9::Wl A') H8 HB:=b'.trans (.of s8')
   have wB:=w'.mono s8'
   have tMB:tbM HB y9:=TbOk.mono tM' s8'
   have gDB:=s8' _ _ gD
   have hDB:=hD.mono s8'
   have gbB:=s8' _ _ gb'
   have eD2:D.map (·.2)=dueF 1 0 (TL.map (·.2)):=by rw[eD,x0d (by rw[x5];exact xi _)]
   have lD:D.length<=8:=by have:=x12 List.length eD2;rw[x5,z5y,x5]at this;omega
   generalize tot ((TL.map (·.2)).take TL.length)=t7
   have hn0:0<=S.now:=(hP.z1 _ _ rfl).2.2.2.1
   have hTk0:Tk (TL.map (·.2)) S:=⟨1,by rw[<-hT];exact hTk⟩
   rw[<-hT]at hTk0
   rw[hT]at hTk0
   have npd:pd∉y9::Wl A':=fun m=>by
    rcases xk.mp m with m|m
    .obtain⟨ps,z⟩:=tMB.some
     rw[<-m,gDB]at z;cases z
    .exact w8.freshW hpd m
   have kDD:∀{H':Hp},BtA (y9::Wl A') HB H'->H' pd=some (.lst (D.map fun q=>V.ref q.1))/\DueAt pb H' D/\H' pb=some (.tup (z19 (List.range n))):=fun{H'} b=>by
    have nt:∀{a:Addr}{vs:List V},HB a=some (.tup vs)->a∉y9::Wl A':=fun{a vs} e m=>by
     rcases xk.mp m with m|m
     .obtain⟨ps,z⟩:=tMB.some
      rw[<-m,e]at z;cases z
     .exact wB.notW e (by intros;nofun) (by intros;nofun) (by intros;nofun) (.inr (by intros;nofun)) m
    exact⟨b _ _ gDB npd,fun q m=>b _ _ (hDB q m) (nt (hDB q m)),b _ _ gbB (nt gbB)⟩
   refine z1x (xs:=St.map V.int) (fun i σ H'=>∃(S2:Sw)(v12 v13 v14:Option V),σ=[some (V.ref a),some (V.ref ph),some (V.int n),some (V.ref A'.x),some (V.ref r),some (V.ref rt),some (V.ref pd),some (V.int t7),some (V.ref pb),v9,v10,some (V.int S2.now),v12,v13,v14]/\Tk (TL.map (·.2)) S2/\S2.now=S.now+(St.take i).sum/\WAt yb ya yc n { A' with fo:=pd::A'.fo } hs S2 H'/\tbM H' y9/\BtA (y9::Wl A') HB H') ⟨S,_,_,_,rfl,hTk0,by simp,wB,tMB,.of (Same.refl _)⟩ ?_ ?_ ?_
   .rintro i σ H'-⟨S2,v12,v13,v14,-,-,-,-,-,b2⟩
    refine SqL.of (b2 _ _ gSt fun m=>?_)
    rcases xk.mp m with m|m
    .obtain⟨ps,z⟩:=tMB.some
     rw[<-m,gSt]at z;cases z
    .exact wB.notW gSt (by intros;nofun) (by intros;nofun) (by intros;nofun) (.inl nzl) m
   .rintro Pv hP2 i x σ H' hx ⟨S2,v12,v13,v14,rfl,tk,en2,w2,t2,b2⟩
    rw[xj]at hx
    obtain⟨c,hc,rfl⟩:=x0b.mp hx
    walk_at "rd"
    obtain⟨wa2,y2,-,-⟩:=w2.ix
    obtain⟨c1,c2⟩:=hSt c (xf hc)
    refine⟨_,_,y2,rfl,n,{ A' with fo:=pd::A'.fo },hs,S2,c,fun i S3=>Tk (TL.map (·.2)) S3/\S3.now=S2.now+i,rfl,w2,t2,c1,c2,⟨tk,by simp⟩,?_,fun S3 H3 j3 w3 b3 t3=>?_⟩
    .rintro i S3-⟨⟨j,hj⟩,e⟩
     refine⟨fun hn=>⟨⟨j,hj.step hO hn⟩,by show S3.now+1=_;omega⟩,fun hn=>⟨(hj.names hO).1,(hj.names hO).2,?_⟩⟩
     rcases hj.next hO hn with⟨eR,h2⟩|⟨y,R,eR,f,r4,k⟩
     .exact .inl ⟨fun y m=>(by rw[eR]at m;cases m),⟨j,h2⟩,by show S3.now+1=_;omega⟩
     .exact .inr ⟨y,R,eR,f,r4,fun p p2=>(k p p2).1,fun p p2=>⟨⟨j+1,(k p p2).2⟩,by show S3.now+1=_;omega⟩⟩
    obtain⟨tk3,e3⟩:=j3
    rw[Int.toNat_of_nonneg (by omega)]at e3
    rw[<-e3]
    refine⟨_,_,rfl,.inl ⟨rfl,.inl ⟨_,rfl⟩⟩,fun H4 s4=>⟨true,rfl,?_⟩⟩
    rw[if_neg (by decide)]
    have b4:BtA (y9::Wl A') HB H4:=(b2.trans b3).trans (.of s4)
    have w4:=w3.mono s4
    have t4:tbM H4 y9:=TbOk.mono t3 s4
    obtain⟨gD4,hD4,gb4⟩:=kDD b4
    refine⟨⟨_,SqL.of gD4⟩,?_⟩
    refine z14 (xs:=D.map fun q=>V.ref q.1) (by rw[x5];exact zf (by omega)) (fun j acc H5=>H5=H4/\acc=(((D.take j).filter fun q=>decide (q.2.1<=S3.now)&&decide (S3.now<q.2.2.e)).map (·.2.2.h)).map V.str) ⟨rfl,rfl⟩ ?_ ?_ ?_ ?_
    .rintro j acc H5 ⟨-,rfl⟩
     rw[x5,x5]
     exact x01 (x06 _ _) (by rw[x07];omega)
    .rintro j acc H5 ⟨rfl,-⟩
     exact SqL.of gD4
    .rintro Nn j acc H5 x hN' hx hj ⟨rfl,rfl⟩
     rw[xj]at hx
     obtain⟨d,hd,rfl⟩:=x0b.mp hx
     have td:=hD4 d (xf hd)
     have stp:=z27 (fun q:Addr×(Int×Nt)=>decide (q.2.1<=S3.now)&&decide (S3.now<q.2.2.e)) hd
     walk_at "rd"
     refine⟨_,_,_,_,rfl,rfl,SqT.of td,zi (j:=1) rfl,_,rfl,?_⟩
     by_cases h1:d.2.1<=S3.now
     .rw[if_pos (x05 h1)]
      refine⟨_,_,_,_,rfl,rfl,SqT.of td,zi (j:=6) rfl,_,rfl,?_⟩
      by_cases h2:S3.now<d.2.2.e
      .rw[if_pos (x05 h2)]
       refine⟨_,_,_,_,rfl,rfl,SqT.of td,zi (j:=2) rfl,hN' _ _ ⟨rfl,?_⟩⟩
       rw[stp]
       simp[h1,h2]
      .rw[if_neg (by simpa using h2)]
       refine hN' _ _ ⟨rfl,?_⟩
       rw[stp]
       simp[h1,h2]
     .rw[if_neg (by simpa using h1)]
      refine hN' _ _ ⟨rfl,?_⟩
      rw[stp]
      simp[h1]
    rintro acc H5 ⟨rfl,rfl⟩ ph5 hph5
    rw[x5,x0d (xi _)]
    have eN:((D.filter fun q=>decide (q.2.1<=S3.now)&&decide (S3.now<q.2.2.e)).map (·.2.2.h))=(z1h S3.now S3.N).map (·.h):=by
     obtain⟨j,hj⟩:=tk3
     rw[<-hj.has hO,<-eD2,List.filter_map,x0x,x0x]
     rfl
    rw[eN]
    have s6:=Same.upd (o:=.lst (((z1h S3.now S3.N).map (·.h)).map V.str)) hph5
    have g6:upd H5 ph5 (.lst (((z1h S3.now S3.N).map (·.h)).map V.str)) ph5=some (.lst (((z1h S3.now S3.N).map (·.h)).map V.str)):=z9
    generalize upd H5 ph5 (.lst (((z1h S3.now S3.N).map (·.h)).map V.str))=H6 at s6 g6⊢
    have w6':=w4.mono s6
    obtain⟨wa6,y6,-,-⟩:=w6'.ix
    have hrise:S3.N.Pairwise fun a b=>a.n<b.n:=by
     obtain⟨j,hj⟩:=tk3
     rw[hj.gN]
     exact x2a.mpr zdg
    refine⟨_,_,y6,rfl,n,{ A' with fo:=pd::A'.fo },hs,S3,rfl,w6',hrise,fun rh R H7 rh0 grh hRC eRn s7'=>?_⟩
    refine⟨_,_,⟨rfl,rfl⟩,_,.lst grh,_,z7e K,?_⟩
    rw[if_neg (by decide)]
    have lN8:(z1h S3.now S3.N).length<=8:=x01 (x06 _ _) w6'.sz.2.2.1
    have lR8:R.length<=8:=by have:=x12 List.length eRn;rw[x5]at this;omega
    refine⟨rh,rfl,⟨_,SqL.of grh⟩,?_⟩
    refine z14 (xs:=R.map fun t=>V.ref t.1) (by rw[x5];exact zf (by omega)) (fun j acc H8=>H8=H7/\acc=((R.take j).map (·.2.1.1.h)).map V.str) ⟨rfl,rfl⟩ ?_ ?_ ?_ ?_
    .rintro j acc H8 ⟨-,rfl⟩
     rw[x5,x5,x07]
     omega
    .rintro j acc H8 ⟨rfl,-⟩
     exact SqL.of grh
    .rintro Nn j acc H8 x hN' hx hj ⟨rfl,rfl⟩
     rw[xj]at hx
     obtain⟨d,hd,rfl⟩:=x0b.mp hx
     walk_at "rd"
     refine⟨_,_,_,_,rfl,rfl,SqT.of (hRC d (xf hd)).1,zi (j:=1) rfl,hN' _ _ ⟨rfl,?_⟩⟩
     rw[z31 _ hd,x04]
     rfl
    rintro acc H8 ⟨rfl,rfl⟩ pf hpf
    rw[x5,x0d (xi _)]
    have eRh:R.map (·.2.1.1.h)=(z1h S3.now S3.N).map (·.h):=by rw[<-eRn,x0x];rfl
    rw[eRh]
    have sf:=Same.upd (o:=.lst (((z1h S3.now S3.N).map (·.h)).map V.str)) hpf
    have gf:upd H8 pf (.lst (((z1h S3.now S3.N).map (·.h)).map V.str)) pf=some (.lst (((z1h S3.now S3.N).map (·.h)).map V.str)):=z9
    refine⟨_,_,rfl,z9i gf (sf _ _ (s7' _ _ g6)) (by rw[x5];omega),fun H9 s9'=>⟨true,rfl,?_⟩⟩
    rw[if_neg (by decide)]
    have sE:=(s7'.trans sf).trans s9'
    refine hP2 _ _ _ ⟨S3,_,_,_,rfl,tk3,?_,w6'.mono sE,TbOk.mono (TbOk.mono t4 s6) sE,(b4.trans (.of s6)).trans (.of sE)⟩
    rw[e3,en2,x16,hc,List.sum_append]
    simp
    omega
   .rintro σ H' ⟨S2,v12,v13,v14,rfl,tk,en2,w2,t2,b2⟩
    rw[x5,x0d (xi _)]at en2
    obtain⟨j,hj⟩:=tk
    have hjl:=hj.all hO (by omega)
    have eT2:=hj.gT
    rw[hjl,x0d (xi _)]at eT2
    have eR2:S2.R=[]:=by
     have:=hj.gR
     rw[hjl,List.drop_length]at this
     exact List.map_eq_nil_iff.mp this
    have eD3:(D.filter fun q=>decide (q.2.1<=S2.now)).map (·.2)=dueF 1 0 (TL.map (·.2)):=by
     have:=hj.due hO
     rw[hjl,x0d (xi _),<-eD2,List.filter_map]at this
     rw[<-eD2]
     exact this
    walk_at "rd"
    obtain⟨wa2,y2,-,-⟩:=w2.ix
    have lT100:=w2.sz.2.2.2.2.1
    refine⟨_,_,y2,rfl,n,{ A' with fo:=pd::A'.fo },hs,S2,rfl,w2,fun rl H3 rl0 grl s3=>⟨rl,rfl,⟨_,SqL.of grl⟩,?_⟩⟩
    have w3:=w2.mono s3
    refine z14 (xs:=S2.T.map fun q=>V.ref q.1) (by rw[x5];exact zf (by omega)) (fun j acc H4=>H4=H3/\acc=((S2.T.take j).filter fun q=>z39 q.2.2).map fun q=>V.ref q.1) ⟨rfl,rfl⟩ ?_ ?_ ?_ ?_
    .rintro j acc H4 ⟨-,rfl⟩
     rw[x5]
     exact x01 (x06 _ _) (by rw[x07];omega)
    .rintro j acc H4 ⟨rfl,-⟩
     exact SqL.of grl
    .rintro Nn j acc H4 x hN' hx hj ⟨rfl,rfl⟩
     rw[xj]at hx
     obtain⟨d,hd,rfl⟩:=x0b.mp hx
     have td:=(w3.la d (xf hd)).1
     have stp:=z27 (fun q:Addr×Addr×Lg=>z39 q.2.2) hd
     obtain⟨p1,p2,g⟩:=d
     walk_at "rd"
     cases g with
     |ask t h m=>
      refine⟨_,_,_,_,rfl,rfl,SqT.of td,zi (j:=0) rfl,rfl,?_⟩
      rw[if_neg (by decide)]
      refine hN' _ _ ⟨rfl,?_⟩
      rw[stp]
      simp[z39]
     |giv t x=>
      refine⟨_,_,_,_,rfl,rfl,SqT.of td,zi (j:=0) rfl,rfl,?_⟩
      rw[if_pos (by decide)]
      refine hN' _ _ ⟨rfl,?_⟩
      rw[stp]
      simp[z39]
    rintro acc H4 ⟨rfl,rfl⟩ pg hpg
    rw[x5,x0d (xi _)]
    have sg:=Same.upd (o:=.lst ((S2.T.filter fun q=>z39 q.2.2).map fun q=>V.ref q.1)) hpg
    have gg:upd H4 pg (.lst ((S2.T.filter fun q=>z39 q.2.2).map fun q=>V.ref q.1)) pg=some (.lst ((S2.T.filter fun q=>z39 q.2.2).map fun q=>V.ref q.1)):=z9
    generalize upd H4 pg (.lst ((S2.T.filter fun q=>z39 q.2.2).map fun q=>V.ref q.1))=H5 at sg gg⊢
    obtain⟨gD5,hD5,gb5⟩:=kDD ((b2.trans (.of s3)).trans (.of sg))
    refine⟨⟨_,SqL.of gD5⟩,?_⟩
    refine z14 (xs:=D.map fun q=>V.ref q.1) (by rw[x5];exact zf (by omega)) (fun j acc H6=>H6=H5/\acc=((D.take j).filter fun q=>decide (q.2.1<=S2.now)).map fun q=>V.ref q.1) ⟨rfl,rfl⟩ ?_ ?_ ?_ ?_
    .rintro j acc H6 ⟨-,rfl⟩
     rw[x5]
     exact x01 (x06 _ _) (by rw[x07];omega)
    .rintro j acc H6 ⟨rfl,-⟩
     exact SqL.of gD5
    .rintro Nn j acc H6 x hN' hx hj ⟨rfl,rfl⟩
     rw[xj]at hx
     obtain⟨d,hd,rfl⟩:=x0b.mp hx
     have td:=hD5 d (xf hd)
     have stp:=z27 (fun q:Addr×(Int×Nt)=>decide (q.2.1<=S2.now)) hd
     walk_at "rd"
     refine⟨_,_,_,_,rfl,rfl,SqT.of td,zi (j:=1) rfl,_,rfl,?_⟩
     by_cases h1:d.2.1<=S2.now
     .rw[if_pos (x05 h1)]
      refine hN' _ _ ⟨rfl,?_⟩
      rw[stp]
      simp[h1]
     .rw[if_neg (by simpa using h1)]
      refine hN' _ _ ⟨rfl,?_⟩
      rw[stp]
      simp[h1]
    rintro acc H6 ⟨rfl,rfl⟩ pe hpe
    rw[x5,x0d (xi _)]
    have se:=Same.upd (o:=.lst ((D.filter fun q=>decide (q.2.1<=S2.now)).map fun q=>V.ref q.1)) hpe
    have ge:upd H6 pe (.lst ((D.filter fun q=>decide (q.2.1<=S2.now)).map fun q=>V.ref q.1)) pe=some (.lst ((D.filter fun q=>decide (q.2.1<=S2.now)).map fun q=>V.ref q.1)):=z9
    generalize upd H6 pe (.lst ((D.filter fun q=>decide (q.2.1<=S2.now)).map fun q=>V.ref q.1))=H7 at se ge⊢
    have w7:=(w3.mono sg).mono se
    refine⟨_,_,rfl,ziy (L1:=(S2.T.filter fun q=>z39 q.2.2).map fun q=>(q.1,q.2.1,pay q.2.2)) (L2:=(D.filter fun q=>decide (q.2.1<=S2.now)).map fun q=>(q.1,pb,q.2)) (M:=z19 (List.range n)) (by rw[x0x];exact se _ _ gg) (by rw[x0x];exact ge) ?_ ?_ (by rw[z59,x1h];omega) (fun v m=>?_) (fun q m=>?_) (fun q m=>?_),fun H8 s8''=>⟨true,rfl,?_⟩⟩
    .rw[x0x,x0x]
     show(S2.T.filter fun q=>z39 q.2.2).map (fun q=>pay q.2.2)=(D.filter fun q=>decide (q.2.1<=S2.now)).map (·.2)
     rw[<-z8p,eT2,eD3]
    .rw[x5]
     exact x01 (x06 _ _) (by omega)
    .obtain⟨k,-,rfl⟩:=xw.mp m
     exact .inl ⟨_,rfl⟩
    .obtain⟨d,hd,rfl⟩:=xw.mp m
     obtain⟨hd1,hd2⟩:=xz.mp hd
     obtain⟨e1,e2'⟩:=w7.la d hd1
     rw[zl6 hd2]at e1 e2'
     exact⟨e1,e2'⟩
    .obtain⟨d,hd,rfl⟩:=xw.mp m
     exact⟨se _ _ (hD5 d (xz.mp hd).1),se _ _ gb5⟩
    rw[if_pos rfl]
    have w8':=w7.mono s8''
    obtain⟨wa8,y8,-,-⟩:=w8'.ix
    refine⟨_,_,y8,rfl,n,{ A' with fo:=pd::A'.fo },hs,S2,rfl,w8',fun rr H9 rr0 grr s9'=>⟨x08 _,fun pz2 hpz2=>⟨_,_,rfl,z9i (xs:=[]) ?_ z9 (x08 _),fun H10 _=>q H10⟩⟩⟩
    rw[eR2]at grr
    exact Same.upd hpz2 _ _ grr
end
structure Dfs(K:PySem.W.Frag)(mg:Str->Option Value)(ya yc yo yb y9 yd ye yn yp yr:Addr):Prop where
 d0:Def K mg "good_name" z6a ["text"]
 d1:Def K mg "good_path" z6b ["text"]
 d2:Def K mg "within" za1 ["inner","outer"]
 d3:Def K mg "on_line" z8a ["one","other"]
 d4:Def K mg "in_way" za2 ["lock","shared","other","other_shared"]
 d5:KDef K yc "Keeper.__init__" z3o ["self"]
 d6:MDef K yc "live" "Keeper.live" z5c ["self","tick"]
 d7:MDef K yc "names_in_way" "Keeper.names_in_way" z2s ["self","holder","lock","shared","tick"]
 d8:MDef K yc "says_free" "Keeper.says_free" z3c ["self","holder","lock","shared","tick"]
 d9:MDef K yc "take" "Keeper.take" z5d ["self","number","holder","lock","shared","tick","time"]
 d10:KDef K ya "Council.__init__" z3d ["self","many"]
 d11:MDef K ya "keeper_at" "Council.keeper_at" z34 ["self","place"]
 d12:MDef K ya "up_keepers" "Council.up_keepers" z2v ["self"]
 d13:MDef K ya "sayers" "Council.sayers" z42 ["self","holder","lock","shared","tick"]
 d14:MDef K ya "give" "Council.give" z4t ["self","holder","lock","shared","tick","time"]
 d15:MDef K ya "having" "Council.having" z43 ["self","lock","tick"]
 d16:MDefC K ya "named" "Council.named" z4h ["self","holder","lock","shared","tick"] yd
 d17:KDef K yo "Store.__init__" z44 ["self"]
 d18:DefC K mg "put_in" za3 ["row","asking"] yn
 d19:Def K mg "ahead" zc5 ["row","holder"]
 d20:Def K mg "chain_of" z74 ["waits","name"]
 d21:Def K mg "ring_of" z8b ["waits","name"]
 d22:Def K mg "last_in_ring" z4u ["waits"]
 d23:Def K mg "all_differ" z5r ["texts","least","most"]
 d24:Def K mg "good_setup" z5s ["keepers","holders","locks","shared","stores"]
 d25:Def K mg "check_time" z5t ["ticks"]
 d26:KDef K yb "World.__init__" z45 ["self","keepers","holders","locks","shared","stores"]
 d27:MDef K yb "check_holder" "World.check_holder" z2w ["self","holder"]
 d28:MDef K yb "check_lock" "World.check_lock" z3e ["self","lock"]
 d29:MDef K yb "check_awake" "World.check_awake" z35 ["self","holder"]
 d30:MDef K yb "check_asking" "World.check_asking" z2x ["self","holder","lock","shared","time"]
 d31:MDef K yb "ask" "World.ask" z6c ["self","holder","lock","shared","time"]
 d32:MDef K yb "settle" "World.settle" z4v ["self"]
 d33:MDef K yb "give_all" "World.give_all" z46 ["self"]
 d34:MDef K yb "first_to_give" "World.first_to_give" z2t ["self"]
 d35:MDef K yb "is_free" "World.is_free" z4i ["self","asking"]
 d36:MDef K yb "give_to" "World.give_to" z4j ["self","asking"]
 d37:MDef K yb "break_ring" "World.break_ring" z3f ["self"]
 d38:MDef K yb "leave_row" "World.leave_row" z3p ["self","holder"]
 d39:MDef K yb "asking_of" "World.asking_of" z3q ["self","holder"]
 d40:MDef K yb "on_whom" "World.on_whom" z4k ["self","asking"]
 d41:MDef K yb "tick" "World.tick" z5u ["self","many"]
 d42:MDef K yb "row" "World.row" z6d ["self"]
 d43:MDef K yb "chain" "World.chain" z5e ["self","holder"]
 d44:MDef K yb "having" "World.having" z4w ["self","lock"]
 d45:MDef K yb "log" "World.log" z6e ["self"]
 d46:Def K mg "_law_at" z8c ["_law_script","_law_k"]
 d47:Def K mg "_law_same" z33 ["_law_found","_law_due"]
 d48:Def K mg "_law_name" z6f ["_law_cell","_law_k"]
 d49:Def K mg "_law_names" z5v ["_law_cell","_law_many"]
 d50:Def K mg "_law_plan" z6g ["_law_script","_law_holders","_law_world"]
 d51:DefC K mg "law" z8v ["_law_script"] yr
theorem all_mk{l:PySem.W.OpenLaw}{w:World}{K:PySem.W.Frag}{h:Heap}{mg:Str->Option Value}{fa:Addr}(X:K.In h)(G:h.Ns mainGlobals mg)(hfa:mg "law"=some (.ref fa))
  {ya yc yo yb y9 yd ye yn yp yr:Addr}
  {ts:List Addr}
  {yf yg yk yl yi yh ym yj:Tok}
  (y_g_Council:PySem.W.nsIn K mainGlobals "Council"=some (some (.ref ya)))
  (y_g_Keeper:PySem.W.nsIn K mainGlobals "Keeper"=some (some (.ref yc)))
  (y_g_Store:PySem.W.nsIn K mainGlobals "Store"=some (some (.ref yo)))
  (y_g_World:PySem.W.nsIn K mainGlobals "World"=some (some (.ref yb)))
  (D:Dfs K mg ya yc yo yb y9 yd ye yn yp yr) (T:Txt K mg ya yc yo yb y9 yd ye yn yp yr yf yg yk yl yi yh ym yj)
  (y_ck_Council_named:K.lookup y9=none)
  (y_ck_put_in:K.lookup ye=none)
  (y_ck_law:K.lookup yp=none)
  (y_ts:ts=[y9,ye,yp])
  (y_nd:[y9,ye,yp].Nodup)
  :(∀ t∈ts,(∃ c,PySem.W.codeHdIn K c t=true)/\K.lookup t=none)/\∃ fd:FuncData,(∀(s:Shared) (v:Value),BindsTo s fd ⟨[v],[]⟩ [("_law_script",v)])/\∀ base:Heap,K.In base->base.Ns mainGlobals mg->(∀ t∈ts,base.BuiltinsAt mg t)->FnOk l.prog w K mg base CX0 13 fa fd ["_law_script"] (spLaw ts K):=by
 obtain⟨f,oc,od,kV,dc,pm,an,ct,osl,lk,ci,kp,hm,hb⟩:=id D.d51
 have e:=hfa.symm.trans hm
 cases e
 refine⟨fun t ht=>?_,PySem.W.fnOf "law" "law" (z24 z8v) (z1j z8v) (zg z8v) .none kV dc pm an (.ref yr) ct,fun s v=>.of_eq rfl,fun base _ _ BA=>?_⟩
 .rw[y_ts]at ht
  simp only[xk,List.not_mem_nil,or_false]at ht
  rcases ht with rfl|rfl|rfl
  .exact⟨⟨_,T.hd_Council_named⟩,y_ck_Council_named⟩
  .exact⟨⟨_,T.hd_put_in⟩,y_ck_put_in⟩
  .exact⟨⟨_,T.hd_law⟩,y_ck_law⟩
 have mt_Council_named:y9∈ts:=by rw[y_ts];simp
 have mt_put_in:ye∈ts:=by rw[y_ts];simp
 have mt_law:yp∈ts:=by rw[y_ts];simp
 have y18:=zfv (P:=l.prog) (w:=w) (base:=base) D.d0 T
 have y24:=zfw (P:=l.prog) (w:=w) (base:=base) D.d1 T y18
 have y26:=zk9 (P:=l.prog) (w:=w) (base:=base) D.d2 T
 have y27:=ziq (P:=l.prog) (w:=w) (base:=base) D.d3 T y26
 have y1t:=zka (P:=l.prog) (w:=w) (base:=base) D.d4 T y27
 have y1j:=z8f (P:=l.prog) (w:=w) (base:=base) D.d5 T
 have y17:=zc8 (P:=l.prog) (w:=w) (base:=base) D.d6 T
 have yv:=z6h (P:=l.prog) (w:=w) (base:=base) D.d7 T y1t y17
 have yx:=z7l (P:=l.prog) (w:=w) (base:=base) D.d8 T yv
 have y1u:=zc9 (P:=l.prog) (w:=w) (base:=base) D.d9 T yx
 have y1h:=z7m (P:=l.prog) (w:=w) (base:=base) D.d10 T y1j
 have y1e:=z79 (P:=l.prog) (w:=w) (base:=base) D.d11 T
 have yt:=z6q (P:=l.prog) (w:=w) (base:=base) D.d12 T
 have y11:=z95 (P:=l.prog) (w:=w) (base:=base) D.d13 T yx yt
 have y1r:=zbd (P:=l.prog) (w:=w) (base:=base) D.d14 T y1u y1e yt y11
 have y1k:=z96 (P:=l.prog) (w:=w) (base:=base) D.d15 T y17 yt
 have y1p:=za7 (P:=l.prog) (w:=w) (base:=base) D.d16 T yv yt (BA _ mt_Council_named)
 have y1l:=z97 (P:=l.prog) (w:=w) (base:=base) D.d17 T
 have y28:=zkq (P:=l.prog) (w:=w) (base:=base) D.d18 T (BA _ mt_put_in)
 have y1w:=zmb (P:=l.prog) (w:=w) (base:=base) D.d19 T y1t
 have y1i:=zgr (P:=l.prog) (w:=w) (base:=base) D.d20 T
 have y1n:=ziw (P:=l.prog) (w:=w) (base:=base) D.d21 T y1i
 have y1q:=zbf (P:=l.prog) (w:=w) (base:=base) D.d22 T y1n
 have y1b:=zdv (P:=l.prog) (w:=w) (base:=base) D.d23 T
 have y1y:=zdw (P:=l.prog) (w:=w) (base:=base) D.d24 T y18 y24 y1b
 have y19:=zdx (P:=l.prog) (w:=w) (base:=base) D.d25 T
 have y1m:=z98 (P:=l.prog) (w:=w) (base:=base) D.d26 T y1h y1l y1y
 have yw:=z6t (P:=l.prog) (w:=w) (base:=base) D.d27 T
 have yy:=z7o (P:=l.prog) (w:=w) (base:=base) D.d28 T
 have y1f:=z7b (P:=l.prog) (w:=w) (base:=base) D.d29 T
 have yz:=z8m (P:=l.prog) (w:=w) (base:=base) D.d39 T
 have y1c:=z6u (P:=l.prog) (w:=w) (base:=base) D.d30 T y19 yw yy y1f yz
 have y12:=za9 (P:=l.prog) (w:=w) (base:=base) D.d35 T y11
 have y13:=z6i (P:=l.prog) (w:=w) (base:=base) D.d34 T y1w y12
 have y10:=z8n (P:=l.prog) (w:=w) (base:=base) D.d38 T
 have y1o:=zaa (P:=l.prog) (w:=w) (base:=base) D.d36 T y1r y10
 have y1d:=z99 (P:=l.prog) (w:=w) (base:=base) D.d33 T y13 y1o
 have y14:=zac (P:=l.prog) (w:=w) (base:=base) D.d40 T y1p y1w y12
 have y1g:=z7n (P:=l.prog) (w:=w) (base:=base) D.d37 T y1n y1q y10 yz y14
 have y16:=zbm (P:=l.prog) (w:=w) (base:=base) D.d32 T y1d y1g
 have y1v:=zcj (P:=l.prog) (w:=w) (base:=base) D.d43 T y1i yw y14
 have y21:=zg9 (P:=l.prog) (w:=w) (base:=base) D.d31 T y28 y1c y16 y1v
 have y1a:=zdy (P:=l.prog) (w:=w) (base:=base) D.d41 T y19 y16
 have y23:=zg3 (P:=l.prog) (w:=w) (base:=base) D.d42 T
 have y1s:=zbn (P:=l.prog) (w:=w) (base:=base) D.d44 T y1k yy
 have y20:=zg4 (P:=l.prog) (w:=w) (base:=base) D.d45 T
 have y15:=zix (P:=l.prog) (w:=w) (base:=base) D.d46 T
 have y29:=z7c (n:=0) (P:=l.prog) (w:=w) (base:=base) D.d47 T (zjj D.d47)
 have y2b:=zmf (P:=l.prog) (w:=w) (base:=base) D.d47 T y29
 have y2a:=zmg (P:=l.prog) (w:=w) (base:=base) D.d47 T y2b
 have y2c:=zmh (P:=l.prog) (w:=w) (base:=base) D.d47 T y2a
 have yu:Has l.prog w K mg base 4 "_law_same" ["_law_found","_law_due"] (z4z 3):=y2c
 have y1z:=zfy (P:=l.prog) (w:=w) (base:=base) D.d48 T
 have y1x:=zdu (P:=l.prog) (w:=w) (base:=base) D.d49 T y1z
 have y25:=zga (P:=l.prog) (w:=w) (base:=base) D.d50 T y21 y1a y15
 have y2d:=zol (P:=l.prog) (w:=w) (base:=base) D.d51 T y1m y1a y23 y1s y20 y15 yu y1x y25 (BA _ mt_law) mt_Council_named mt_put_in mt_law y_nd
 exact Has.at y2d hm (z6l lk ci kp)
end Fg
open PySem PySem.W PyProof.Rows
local macro_rules | `(tactic| walk_at "bn") => `(tactic| (intro _ _ _ _ _ _; (repeat (refine Fg.elS fun _ => ?_)); exact Fg.el0 rfl))
set_option maxRecDepth 100000 in
set_option maxHeartbeats 0 in
theorem PySem.Challenge.cw_fencegate_k27_handed_over_holds : PySem.Challenge.rw_fencegate_k27_handed_over.Holds := by
 w_on; refine PySem.W.holds_law Fg.ws fun said => ?_
 refine holds_open (r := PySem.Challenge.rw_fencegate_k27_handed_over.row) (q := Fg.vw) (loose := []) (XP := XL Fg.vw []) (YP := (kmHook Fg.kk Fg.ka Fg.ka_eq [523, 572, 916]).says) (N := 12 + (1 + (7537 + 200)))
  Fg.left_ok (kmHook Fg.kk Fg.ka Fg.ka_eq [523, 572, 916]).of (kmHook Fg.kk Fg.ka Fg.ka_eq [523, 572, 916]).keeps (fun s e => xl_of s (Bool.and_eq_true_iff.mp e).1) XL.keeps
  (by rfl) (by rfl) (by rfl) (fun s e => recFacts_of (Bool.and_eq_true_iff.mp e).2) (by rfl) (by assumption) (by decide +kernel)
  ⟨rfl, rfl, rfl, rfl, rfl, by decide +kernel⟩ ?hw ?hc
 (case hw => w_witness2)
 k_fill
 refine L2.walk_ofT (l := PySem.Challenge.rw_fencegate_k27_handed_over) (n := 63) (k := 13) (x := "_law_script") (sp := fun ts K => Fg.spLaw ts K) rfl (by decide) rfl ⟨rfl, by decide, by decide⟩ (fun w h Y => ⟨PySem.W.km_in_of Y, PySem.W.km_tabs_of Y⟩) ?F (fun K H a ns hl hO hS => ⟨a, ns, rfl, hS, hl, hO.tab, fun _ => rfl⟩)
 case F =>
  intro w mg fa h KX G hmg
  refine' Fg.all_mk KX G hmg ?y_g_Council ?y_g_Keeper ?y_g_Store ?y_g_World ?D ?T ?y_ck_Council_named ?y_ck_put_in ?y_ck_law ?y_ts ?y_nd
  (case y_g_Council => k_is)
  (case y_g_Keeper => k_is)
  (case y_g_Store => k_is)
  (case y_g_World => k_is)
  (case D => constructor; (iterate 5 (apply Fg.dmk KX G; k_is; k_is; k_is; k_is; walk_at "bn")); apply Fg.kmk; k_is; k_is; k_is; k_is; k_is; k_is; k_is; walk_at "bn"; (iterate 4 (apply Fg.mmk; k_is; k_is; k_is; k_is; k_is; walk_at "bn")); apply Fg.kmk; k_is; k_is; k_is; k_is; k_is; k_is; k_is; walk_at "bn"; (iterate 5 (apply Fg.mmk; k_is; k_is; k_is; k_is; k_is; walk_at "bn")); apply Fg.mmkC; k_is; k_is; k_is; exact rfl; k_is; k_is; walk_at "bn"; apply Fg.kmk; k_is; k_is; k_is; k_is; k_is; k_is; k_is; walk_at "bn"; apply Fg.dmkC KX G; k_is; k_is; exact rfl; k_is; k_is; walk_at "bn"; (iterate 7 (apply Fg.dmk KX G; k_is; k_is; k_is; k_is; walk_at "bn")); apply Fg.kmk; k_is; k_is; k_is; k_is; k_is; k_is; k_is; walk_at "bn"; (iterate 19 (apply Fg.mmk; k_is; k_is; k_is; k_is; k_is; walk_at "bn")); (iterate 5 (apply Fg.dmk KX G; k_is; k_is; k_is; k_is; walk_at "bn")); apply Fg.dmkC KX G; k_is; k_is; exact rfl; k_is; k_is; walk_at "bn")
  (case T => constructor; trivial; (iterate 16 (refine PySem.W.mg_none_of KX G ?_; k_is)); (iterate 12 (refine PySem.W.mg_of KX G ?_; k_is)); (iterate 4 (k_is)); (iterate 2 (show PySem.W.findIn _ _ _ = some none; k_is)); (iterate 4 (k_is)); (iterate 3 (show PySem.W.findIn _ _ _ = some none; k_is)); (iterate 4 (k_is)); (iterate 2 (show PySem.W.findIn _ _ _ = some none; k_is)); (iterate 4 (k_is)); (iterate 12 (show PySem.W.findIn _ _ _ = some none; k_is)); (iterate 3 (apply L2.codeHd_mk; k_is; exact rfl; kernel_rfl; kernel_rfl)))
  (case y_ck_Council_named => kernel_rfl)
  (case y_ck_put_in => kernel_rfl)
  (case y_ck_law => kernel_rfl)
  (case y_ts => exact rfl)
  (case y_nd => decide)
