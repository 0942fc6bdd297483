import PyProof.Rows.All
import Wide.All
import OpenK.AllK
import Wide.FinOn
import Lean
import PyProof.EqAt
import PyProof.EqKinds
import PyProof.TupleCall
import PyProof.NeKinds
import PyProof.IsInstanceH
import PyProof.SumWalkG
import PyProof.ConsumeWalk
import PyProof.IsiNone
import PyProof.WalksMore
import PyProof.PlainList
import PyProof.CompFree
import KE.KIntText
import PyProof.DictTable
import PySem.Challenge.RW_sluiceway_k52_what_look_tells
set_option compiler.extract_closed false
set_option bootstrap.genMatcherCode false
set_option genSizeOf false
set_option Elab.async false
set_option linter.all false
set_option maxRecDepth 100000
open Option renaming some→vE,none→vF
open Bool renaming true→vG,false→vH
open List renaming range→zZ,getElem?_eq_getElem→zJ,mem_cons_of_mem→zX,replicate→zV,mem_cons_self→zW,size_toArray→zY,getElem?_map→zx,mem_cons→zw,map_cons→zk,getElem?_eq_none→zA,getD_eq_getElem?_getD→zD,getElem?_eq_some_iff→zF,getElem?_append_right→zG,mem_map→zH,getElem?_range→zL,drop_eq_getElem_cons→zM,mem_append_right→zN,length_cons→zO,drop_of_length_le→zP,getElem?_append_left→zR,replicate_succ→zS,length_map→qQ,length_append→qZ,set→qJ,filterMap_map→qX,find?_cons→qV,mem_range→qW,all_eq_true→qK,filterMap_cons→qY,filterMap_eq_map'→qz,getElem_mem→qx,map_congr_left→qk,flatten_cons→q8,getElem_of_mem→q9,ext_getElem→qA,all_cons→qB,nodup_cons→qD,range_succ_eq_map→qE,map_map→qF,getElem?_eq_none_iff→qG,mem_singleton→qI,getElem?_set_ne→qM,length_nil→qN,getElem?_set→qO,eq_nil_of_length_eq_zero→qP,lookup→qS,getElem?_replicate→qT,getElem?_set_self→qU,lookup_cons→jQ,append_nil→jX,foldl_cons→jV,pairwise_iff_getElem→jW,getElem?_take_of_lt→jY,map_eq_nil_iff→jq,getElem?_cons_succ→jz,length_set→jv,range_succ→jw,append_assoc→jy,length_singleton→j0,ext_getElem?→j1,idxOf_lt_length_of_mem→j2,length_take→j4,any_cons→j5,getLast?_eq_getElem?→j6,mem_append→j7,idxOf_cons→jA,map_nil→jC,getElem?_cons_zero→jD,drop_zero→jE,length_replicate→jF,length_drop→jG,set_append_right→jI,take_length→jL,zipIdx_cons→jM,mem_append_left→jO,nil_append→jP,forIn_cons→jR,idxOf→jT,length→xQ
open Nat renaming le_refl→zK,lt_of_lt_of_le→zq,le_trans→zB,ne_of_lt→zE,lt_irrefl→zT,lt_succ_self→zU,lt_succ_of_lt→qC,ne_of_gt→jJ,le_succ→jk,zero_le→j8,le_add_right→jN,lt_or_ge→jS,mul_le_mul→jU
open Int renaming le_refl→qq,emod_nonneg→qR,emod_lt_of_pos→jZ,mul_nonneg→j3,natCast_add→jB
open Option renaming map_eq_some_iff→zI,isSome_iff_exists→qL
open Bool renaming false_ne_true→zy,and_eq_true→zC,and_eq_true_iff→jK,false_eq_true→jx,or_eq_true→j9
open Array renaming length_toList→qw,getElem?_toList→qH
open PySem.Heap renaming get?_push_of_some→zQ,lt_size→zj,get?_push_size→z0,SameBut→qj,size_push→qy,get?_update_self→jH
open PySem renaming Addr→xZ,Around→xJ,Expr→xX,FuncData→xV,NameKind→xW,Program→xK,Scope→xY,Shared→xq,Stmt→xz,Value→xj,World→xw,assignEach→xk,attributeBase→xy,backTo→x0,backToKw→xB,behindInMarks→xC,binaryOp→xD,bootBuiltins→xE,call_isinstance→xF,checkBuiltinCall→xG,codeAny_mono→xH,compareOp→xI,importedModules→xL,isSubtype→xM,isinstance_false_int→xN,isinstance_false_list→xO,isinstance_false_none→xP,isinstance_false_str→xR,isinstance_false_tuple→xS,keywordEach→xT,letOwnedTupleGo→xU,mainGlobals→vQ,model→vZ,rawInt→vJ,sizeLine_eq→vX,sliceBounds→vV,starEach→vW,treeTable→vK,wpAny→vY,wpAny_Call_Name_kw→vq,wpAny_bind→vz,wpAny_callSpecial?_slot→vj,wpAny_call_entry→vx,wpAny_field→vv,wpAny_holding→vk,wpAny_mono→v4,wpAny_newObj_type→v5,wpAny_passesOwn→v6,wpAny_pure→v7,wpAny_setField_rec→v8,wpAny_truthy_bool→v9
open PySem.W renaming Frag→vA,boot_heap→vB,kas_rev→vC
set_option maxHeartbeats 0
noncomputable section
namespace _L
open PySem PySem.Spec PyProof.Rows
noncomputable def K8(s:xz):Arguments:=match s with
 |.FunctionDef _ a _ _ _ _ _ _ _ _=>a
 |_=>{posonlyargs:=[],args:=[],vararg:=vF,kwonlyargs:=[],kw_defaults:=[],kwarg:=vF,defaults:=[]}
noncomputable def Ja(s:xz):List xz:=match s with
 |.FunctionDef _ _ b _ _ _ _ _ _ _=>b
 |_=>[]
noncomputable def Ar(s:xz):xY:=match s with
 |.FunctionDef _ _ _ _ _ _ sc _ _ _=>sc
 |_=>{kind:=.function,names:=[],isGenerator:=vH,isCoroutine:=vH}
end _L
namespace _D
open PySem PySem.W _L
variable{h:Heap}{C:xZ}{m x q:Str}{st:xz}{mg:Str->Option xj}
noncomputable def Ou:List Obj->Nat->vA
 |[],_=>[]
 |o::r,n=>match o.cls,o.data with
  |.none,.fields _=>Ou r (n+1)
  |_,.freed=>Ou r (n+1)
  |_,_=>(n,o)::Ou r (n+1)
def Ue(h:Heap):vA:=Ou h.objs.toList 0
noncomputable abbrev XtOf(l:OpenLaw)(q:xK)(s:xq):Bool:=xlAt q [] s&&recOk l.row.toRowW.records s
noncomputable def Bu(K:vA)(n:Str):xZ:=match nsIn K vQ n with
 |some (vE (.ref f))=>f
 |_=>0
noncomputable def gOk(K:vA)(n:Str):Bool:=match nsIn K vQ n with
 |some (vE (.ref _))=>vG
 |_=>vH
noncomputable def I8(K:vA)(C:xZ)(m:Str):xZ:=match findIn K (.ref C) m with
 |some (vE (.ref f))=>f
 |_=>0
noncomputable def mOk(K:vA)(C:xZ)(m:Str):Bool:=match findIn K (.ref C) m with
 |some (vE (.ref f))=>isFn K (.ref f)
 |_=>vH
noncomputable def noF(K:vA)(C:xZ)(m:Str):Bool:=match findIn K (.ref C) m with
 |some vF=>vG
 |_=>vH
noncomputable def zOk(K:vA)(n:Str):Bool:=match nsIn K vQ n with
 |some vF=>vG
 |_=>vH
noncomputable def ZC7(K:vA)(C:xZ):Bool:=match findIn K (.ref C) "__setattr__" with
 |some (vE (.builtin s))=>s == "object.__setattr__"
 |_=>vH
noncomputable def iOk(K:vA)(n:Str)(v:Int):Bool:=match nsIn K vQ n with
 |some (vE (.int u _))=>decide (u=v)
 |_=>vH
noncomputable def sOk(K:vA)(n:Str)(v:Str):Bool:=match nsIn K vQ n with
 |some (vE (.str u _))=>decide (u=v)
 |_=>vH
noncomputable def Oh(K:vA)(f:xZ):Obj:=match K.lookup f with
 |some o=>o
 |none=>⟨.none,vF,.plain,#[]⟩
def Ek(K:vA)(f:xZ):xV:=match(Oh K f).data with
 |.func fd=>fd
 |_=>default
noncomputable def ZRN:xj->Bool
 |.none=>vG
 |_=>vH
noncomputable def ZSO:FuncBody->Option (List xz)
 |.stmts b=>vE b
 |_=>vF
def Z6(K:vA)(x q:Str)(f:xZ):Bool:=match K.lookup f with
 |some ⟨_,_,.func fd,_⟩=>decide (fd.name=x)&&decide (fd.qualname=q)&&(fd.globals==vQ&&fd.builtins==builtinsNs&&fd.closure.isEmpty&&ZRN fd.defaults)&&(codeIn K fd.code q&&keepIn K (.ref f))
 |_=>vH
noncomputable abbrev DefTxt:=Arguments×Option (List xz)×xY
def Xi(K:vA)(f:xZ):DefTxt:=((Ek K f).params,ZSO (Ek K f).body,(Ek K f).scope)
def Vb(st:xz):DefTxt:=(K8 st,vE (Ja st),Ar st)
noncomputable def strsOf:List xj->Option (List Str)
 |[]=>vE []
 |.str s _::r=>(strsOf r).map (s::·)
 |_::_=>vF
def ZBQ(K:vA)(n:Str)(vs:List Str):Bool:=match nsIn K vQ n with
 | some (vE (.ref p))=>(match K.lookup p with
   |some ⟨.type t,_,.seq its _,_⟩=>t == "tuple"&&decide (strsOf its.toList=vE vs)&&Nat.ble its.toList.length 1000
   |_=>vH)
 |_=>vH
def ZBS(K:vA)(n:Str)(kvs:List (Str×Str)):Bool:=match nsIn K vQ n with
 | some (vE (.ref p))=>(match K.lookup p with
   |some ⟨.type t,_,.dict es _,_⟩=>t == "dict" && !(p==sysModules)&&decide (strsOf (es.toList.map (·.key))=vE (kvs.map (·.1)))&&decide (strsOf (es.toList.map (·.val))=vE (kvs.map (·.2)))
   |_=>vH)
 |_=>vH
inductive Ask where
 |fn (n:Str) (st:xz)
 |mt (c m q:Str) (st:xz)
 |cl (c:Str)
 |no (c x:Str)
 |z (n:Str)
 |gi (n:Str) (v:Int)
 |gs (n v:Str)
 |gt (n:Str) (vs:List Str)
 |gd (n:Str) (kvs:List (Str×Str))
def Ask.chk(K:vA):Ask->Bool
 |.fn n _=>gOk K n&&Z6 K n n (Bu K n)
 |.mt c m q _=>mOk K (Bu K c) m&&Z6 K m q (I8 K (Bu K c) m)
 |.cl c=>gOk K c&&(plainGet K (Bu K c) Str.empty&&hasDictIn K (Bu K c)&&plainOver K (Bu K c))&&(ZC7 K (Bu K c)&&makesIn K (Bu K c)&&keepIn K (.ref (Bu K c)))
 |.no c x=>noF K (Bu K c) x
 |.z n=>zOk K n
 |.gi n v=>iOk K n v
 |.gs n v=>sOk K n v
 |.gt n vs=>ZBQ K n vs
 |.gd n kvs=>ZBS K n kvs
def Ask.txt(K:vA):Ask->Option DefTxt
 |.fn n _=>vE (Xi K (Bu K n))
 |.mt c m _ _=>vE (Xi K (I8 K (Bu K c) m))
 |_=>vF
def Ask.want:Ask->Option DefTxt
 |.fn _ st=>vE (Vb st)
 |.mt _ _ _ st=>vE (Vb st)
 |_=>vF
def Tj(l:List Ask)(h:Heap):Bool×List (Option DefTxt):=(l.all (Ask.chk (Ue h)),l.map (Ask.txt (Ue h)))
noncomputable abbrev U5(l:List Ask):Bool×List (Option DefTxt):=(vG,l.map Ask.want)
noncomputable def Wa(p:xK)(w:xw)(n₀:Nat)(ann:Option xj):Nat->SharedT->Thread->Option SharedT
 |0,_,_=>vF
 | n+1,s,t=>match through t with
  |true=>vE s
  | false=>match PySem.W.Fast.tw6613529449190102663 n₀ ann t with
   |false=>vF
   |true=>match PySem.W.Fast.tw10156331382660048174 (PySem.W.Fast.tw11892475500146522536 PySem.W.Fast.tw14364793385576792824) p w s t with
    |some (s',t')=>Wa p w n₀ ann n s' t'
    |none=>vF
noncomputable def ZIL:List Obj->Nat->BT->BT
 |[],_,t=>t
 |o::r,n,t=>ZIL r (n+1) (t.ins n o)
def ZKF(w:xw)(os:OsState):SharedT:=⟨ZIL (vB w.params).objs.toList 0 .nil,(vB w.params).objs.size,(vB w.params).life,Array.mk [],boot_drawn,boot_toks,os⟩
def Ru(p:xK)(w:xw)(os:OsState):Option SharedT:=Wa p w (vB w.params).objs.size (PySem.W.Fast.tw8920871248978507458 (vB w.params) vQ "__annotations__") 100000 (ZKF w os) (topStub p)
noncomputable def Up(p:xK)(w:xw)(s:xq):Bool:=staticsOk (PySem.W.Fast.tw5923862056798008813 p.main.body) (vB w.params) s.heap&&namesBound p s.heap&&gensDone s&&laidKept (vB w.params) s.heap
noncomputable def ftW(w:xw)(b:Bool):xw:={w with params:={w.params with followText:=λx=>match x == "special-get-raises" with |true=>b|false=>w.params.followText x}}
end _D
namespace _W
open PySem PySem.W _L _D
noncomputable def top(i:Nat):xz:=PySem.Challenge.pw_sluiceway_k52_what_look_tells.main.body.getD i (.Pass ⟨0,0,0,0⟩)
noncomputable def inC(s:xz)(j:Nat):xz:=match s with
 |.ClassDef _ _ _ body _ _ _ _ _ _ _=>body.getD j (.Pass ⟨0,0,0,0⟩)
 |_=>.Pass ⟨0,0,0,0⟩
noncomputable abbrev ZDE:xz:=top 65
noncomputable abbrev ZDe:xz:=top 61
noncomputable abbrev ZAf:xz:=top 60
noncomputable abbrev ZEY:xz:=top 62
noncomputable abbrev ZCW:xz:=top 64
noncomputable abbrev O7:xz:=top 75
noncomputable abbrev ZAx:xz:=top 76
noncomputable abbrev ZD7:xz:=top 77
noncomputable abbrev ZEb:xz:=top 79
noncomputable abbrev T9:xz:=top 73
noncomputable abbrev ZDy:xz:=top 69
noncomputable abbrev ZCq:xz:=top 67
noncomputable abbrev ZCm:xz:=top 66
noncomputable abbrev Rq:xz:=top 68
noncomputable abbrev V7:xz:=top 70
noncomputable abbrev ZEA:xz:=top 63
noncomputable abbrev W2:xz:=top 71
noncomputable abbrev ZBe:xz:=top 74
noncomputable abbrev ZAr:xz:=top 72
noncomputable abbrev ZBz:xz:=top 78
noncomputable abbrev ZB1:xz:=top 57
noncomputable abbrev ZC4:xz:=top 58
noncomputable abbrev Zh:xz:=top 56
noncomputable abbrev ZD9:xz:=top 53
noncomputable abbrev Yu:xz:=top 51
noncomputable abbrev Vk:xz:=top 50
noncomputable abbrev ZDf:xz:=top 49
noncomputable abbrev ZDA:xz:=top 54
noncomputable abbrev ZAv:xz:=top 55
noncomputable abbrev T7:xz:=inC (top 42) 0
noncomputable abbrev ZBR:xz:=inC (top 42) 5
noncomputable abbrev ZC9:xz:=top 20
noncomputable abbrev ZED:xz:=top 21
noncomputable abbrev ZDK:xz:=inC (top 42) 4
noncomputable abbrev ZB9:xz:=top 33
noncomputable abbrev ZBK:xz:=top 32
noncomputable abbrev ZCE:xz:=inC (top 42) 2
noncomputable abbrev Wj:xz:=top 28
noncomputable abbrev ZBL:xz:=top 44
noncomputable abbrev ZCr:xz:=top 45
noncomputable abbrev Ry:xz:=top 29
noncomputable abbrev ZC0:xz:=top 30
noncomputable abbrev Yy:xz:=top 27
noncomputable abbrev ZDV:xz:=inC (top 42) 3
noncomputable abbrev ZCR:xz:=top 43
noncomputable abbrev ZAZ:xz:=inC (top 42) 1
noncomputable abbrev Su:xz:=inC (top 42) 6
noncomputable abbrev ZEG:xz:=top 40
noncomputable abbrev ZBM:xz:=top 41
noncomputable abbrev ZEB:xz:=top 52
noncomputable abbrev J6:xz:=top 80
def asks:List Ask:=[.cl "Course",.fn "_law_amount" ZDE,.fn "_law_off" ZDe,.fn "_law_tape" ZAf,.fn "_law_cell_at" ZEY,.fn "_law_unit" ZCW,.fn "_law_added" O7,.fn "_law_ask" ZAx,.fn "_law_column" ZD7,.fn "_law_due" ZEb,.fn "_law_floods" T9,.fn "_law_pumped" ZDy,.fn "_law_steps" ZCq,.fn "_law_year" ZCm,.fn "_law_rule" Rq,.fn "_law_basin" V7,.fn "_law_name" ZEA,.fn "_law_house" W2,.fn "_law_number" ZBe,.fn "_law_state" ZAr,.fn "_law_told" ZBz,.fn "is_beyond" ZB1,.fn "part_asked" ZC4,.fn "answered" Zh,.fn "check_ask" ZD9,.fn "none_above" Yu,.fn "rows_under" Vk,.fn "under" ZDf,.fn "check_bounds" ZDA,.fn "looked_through" ZAv,.mt "Course" "__init__" "Course.__init__" T7,.mt "Course" "send" "Course.send" ZBR,.fn "number_of" ZC9,.fn "down_of" ZED,.mt "Course" "send_down" "Course.send_down" ZDK,.fn "opened" ZB9,.fn "stairs_at" ZBK,.mt "Course" "go_basin" "Course.go_basin" ZCE,.fn "passed" Wj,.fn "down_in_reach" ZBL,.fn "reach_rows" ZCr,.fn "served" Ry,.fn "way_down" ZC0,.fn "shares" Yy,.mt "Course" "go_reach" "Course.go_reach" ZDV,.fn "lasts_of_reaches" ZCR,.mt "Course" "go" "Course.go" ZAZ,.mt "Course" "state_behind" "Course.state_behind" Su,.fn "turn" ZEG,.fn "run" ZBM,.fn "look" ZEB,.fn "law" J6,.no "Course" "came",.no "Course" "coming",.no "Course" "house",.no "Course" "levels",.no "Course" "page",.no "Course" "reaches",.no "Course" "year_turn",.z "all",.z "bool",.z "enumerate",.z "int",.z "isinstance",.z "len",.z "list",.z "max",.z "min",.z "range",.z "sorted",.z "str",.z "tuple",.z "zip",.gi "BRIM" 4,.gi "DELAY" 3,.gi "DOWN" 2,.gi "KIND" 0,.gi "LET" 3,.gi "LIES" 5,.gi "NAME" 1,.gi "NEED" 4,.gi "PLACES" 1,.gi "PUMP" 6,.gi "PUMPED" 4,.gi "PUMP_DELAY" 1,.gi "PUMP_TO" 0,.gi "RANK" 5,.gi "ROW_DOWN" 0,.gi "ROW_NEED" 2,.gi "ROW_RANK" 3,.gi "ROW_WATER" 1,.gi "RULE" 5,.gs "SEA" "sea",.gi "SPILLED" 2,.gi "TOOK" 1,.gi "YEAR" 0,.gt "SENSES" ["least","most"],.gd "KINDS_ASKED" [("lies","basin"),("spilled","basin"),("let","basin"),("pumped","basin"),("took","town")]]
abbrev rw_:OpenLaw:=PySem.Challenge.rw_sluiceway_k52_what_look_tells
abbrev pw:xK:=OpenLaw.prog PySem.Challenge.rw_sluiceway_k52_what_look_tells
def vw:xK:=view pw (zZ 81)
theorem ZTQ:∀w os,(Ru pw (ftW w vG) os).map (λs=>(Up pw (ftW w vG) s.abs,PySem.W.Fast.tw4187177175401517315 vw ["KINDS_ASKED"] (PySem.W.Fast.tw5923862056798008813 pw.main.body) (XtOf rw_ vw) vG s.abs,Tj asks s.abs.heap))=vE (vG,openGood vw ["KINDS_ASKED"],U5 asks):=λw os=>by kernel_rfl
theorem ZMd:∀w os,(Ru pw (ftW w vH) os).map (λs=>(Up pw (ftW w vH) s.abs,PySem.W.Fast.tw4187177175401517315 vw ["KINDS_ASKED"] (PySem.W.Fast.tw5923862056798008813 pw.main.body) (XtOf rw_ vw) vG s.abs,Tj asks s.abs.heap))=vE (vG,openGood vw ["KINDS_ASKED"],U5 asks):=λw os=>by kernel_rfl
end _W
namespace _L
open PySem PySem.Spec PyProof.Rows
variable{us:List xj}{u:xj}{a b C:xZ}{P:xK}{w:xw}{h base:Heap}{t' i:Nat}{ch fp:List xZ}{x:Str}{e c tg:xX}{A:xJ}{E Q:xj->xq->Prop}{s:xq}{vD:List (xZ×Obj)}{K:PySem.W.Frag}{body:List xz}{f:xj->xj->Sem xj}{op:CmpOp}{kw:List (Str×xj)}{mg:Str->Option xj}{kindOf:Str->Option xW}
noncomputable abbrev Key:=Sum Int Str
noncomputable def Q7:Key->xj->Bool
 |.inl k,v=>Value.isInt k v
 |.inr x,v=>Value.isStrOf x v
noncomputable def keyH(w:xw):Key->Int
 |.inl k=>hashInt k
 |.inr x=>hashStr w x
theorem Ks:∀{k:Key}{v:xj},Q7 k v=vG->(∃i t,k=Sum.inl i/\v=Value.int i t)∨(∃x t,k=Sum.inr x/\v=Value.str x t)
 |.inl i,v,h=>by obtain⟨t,e⟩:=Value.isInt_shape (k:=i) (v:=v) h;exact .inl ⟨i,t,rfl,e⟩
 |.inr x,v,h=>by obtain⟨t,e⟩:=Value.isStrOf_shape (x:=x) (v:=v) h;exact .inr ⟨x,t,rfl,e⟩
theorem ZLO(i:Int)(t:Tok):Q7 (.inl i) (.int i t)=vG:=by simp[Q7,Value.isInt]
theorem ZMb(x:Str)(t:Tok):Q7 (.inr x) (.str x t)=vG:=by simp[Q7,Value.isStrOf]
theorem ZO0(a b:Int):decide ((Sum.inl a:Key)=Sum.inl b)=(a==b):=by
 by_cases e:a=b
 ·subst e;simp
 ·have h:¬(Sum.inl a:Key)=Sum.inl b:=λq=>e (Sum.inl.inj q)
  rw[decide_eq_false h];exact(beq_eq_false_iff_ne.mpr e).symm
theorem ZOu(a b:Str):decide ((Sum.inr a:Key)=Sum.inr b)=decide (a=b):=by
 by_cases e:a=b
 ·subst e;simp
 ·have h:¬(Sum.inr a:Key)=Sum.inr b:=λq=>e (Sum.inr.inj q)
  rw[decide_eq_false h,decide_eq_false e]
theorem ZK9(a:Int)(b:Str):decide ((Sum.inl a:Key)=Sum.inr b)=vH:=decide_eq_false (λq=>nomatch q)
theorem ZTY(a:Str)(b:Int):decide ((Sum.inr a:Key)=Sum.inl b)=vH:=decide_eq_false (λq=>nomatch q)
noncomputable def Ih(prog:xK)(w:xw):PySem.KeyKind prog w Key where
 is:=Q7
 hash:=keyH w
 inj:=λv a b ha hb=>by
  rcases Ks ha with⟨i,t,rfl,rfl⟩|⟨x,t,rfl,rfl⟩
  ·rcases Ks hb with⟨j,u,rfl,e⟩|⟨y,u,rfl,e⟩
   ·injection e with e1 _;rw[e1]
   ·exact nomatch e
  ·rcases Ks hb with⟨j,u,rfl,e⟩|⟨y,u,rfl,e⟩
   ·exact nomatch e
   ·injection e with e1 _;rw[e1]
 byValue:=λk v h=>by rcases Ks h with⟨i,t,rfl,rfl⟩|⟨x,t,rfl,rfl⟩<;>rfl
 pyHash:=λhv h=>by
  rcases Ks hv with⟨i,t,rfl,rfl⟩|⟨x,t,rfl,rfl⟩
  ·exact wpAny_pyHash_int h
  ·exact wpAny_pyHash_str h
 eqBool:=λhu hv h=>by
  rcases Ks hu with⟨i,t,rfl,rfl⟩|⟨x,t,rfl,rfl⟩
  ·rcases Ks hv with⟨j,u,rfl,rfl⟩|⟨y,u,rfl,rfl⟩
   ·rw[ZO0]at h;exact wpAny_eqBool_int h
   ·rw[ZK9]at h;exact SeqAt.EqAt.int_str i t y u _ _ _ _ h
  ·rcases Ks hv with⟨j,u,rfl,rfl⟩|⟨y,u,rfl,rfl⟩
   ·rw[ZTY]at h;exact SeqAt.EqAt.str_int x t j u _ _ _ _ h
   ·rw[ZOu]at h;exact wpAny_eqBool_str h
 «strs»:=λk x t v h=>by
  rcases Ks h with⟨i,u,rfl,e⟩|⟨y,u,rfl,e⟩
  ·exact nomatch e
  ·injection e with e1 _
   subst e1
   cases v<;>rfl
theorem ZPN(prog:xK)(w:xw)(i:Int)(t:Tok):(Ih prog w).is (.inl i) (.int i t)=vG:=ZLO i t
theorem ZSd(prog:xK)(w:xw)(x:Str)(t:Tok):(Ih prog w).is (.inr x) (.str x t)=vG:=ZMb x t
inductive V where
 |non|bl (b:Bool)|int (i:Int)|str (x:Str)|byt (b:Array UInt8)|flt (b:UInt64)|ref (a:xZ)|ty (n:String)
 deriving DecidableEq
variable{v y:V}{vs:List V}
def RelV:V->xj->Prop
 |.non,u=>u=Value.none
 |.bl b,u=>u=Value.bool b
 |.int i,u=>∃t,u=Value.int i t
 |.str x,u=>∃t,u=Value.str x t
 |.byt b,u=>∃t,u=Value.bytes b t
 |.flt b,u=>∃t,u=Value.float b t
 |.ref a,u=>u=Value.ref a
 |.ty n,u=>u=Value.type n
abbrev Vals:List V->List xj->Prop:=Paired RelV
theorem Vals.length{xs:List V}(r:Vals xs us):xs.length=us.length:=Paired.length r
theorem Vals.get:∀{xs:List V}{us:List xj}{i:Nat}{x:V},Vals xs us->xs[i]?=vE x->∃u,us[i]?=vE u/\RelV x u
 |_,_,_,_,.nil,e=>by simp at e
 |_,_,0,_,.cons r _,e=>by simp at e;subst e;exact⟨_,rfl,r⟩
 |_,_,i+1,x,.cons _ t,e=>by obtain⟨u,h1,h2⟩:=Vals.get (i:=i) (x:=x) t (by simpa using e);exact⟨u,by simpa using h1,h2⟩
theorem Vals.set{x:V}(r:RelV x u):∀{xs:List V}{us:List xj}(i:Nat),Vals xs us->Vals (xs.set i x) (us.set i u)
 |_,_,_,.nil=>.nil
 |_,_,0,.cons _ t=>.cons r t
 |_,_,i+1,.cons q t=>.cons q (Vals.set r i t)
theorem Vals.append:∀{xs ys:List V}{us ws:List xj},Vals xs us->Vals ys ws->Vals (xs++ys) (us++ws)
 |_,_,_,_,.nil,s=>s
 |_,_,_,_,.cons r t,s=>.cons r (Vals.append t s)
theorem Vals.take:∀{xs:List V}{us:List xj}(n:Nat),Vals xs us->Vals (xs.take n) (us.take n)
 |_,_,0,_=>.nil
 |_,_,_+1,.nil=>.nil
 |_,_,n+1,.cons r t=>.cons r (Vals.take n t)
theorem Vals.drop:∀{xs:List V}{us:List xj}(n:Nat),Vals xs us->Vals (xs.drop n) (us.drop n)
 |_,_,0,r=>r
 |_,_,_+1,.nil=>.nil
 |_,_,n+1,.cons _ t=>Vals.drop n t
def RelO:Option V->Option xj->Prop
 |some v,vE u=>RelV v u
 |none,vF=>True
 |_,_=>False
def KV{κ:Type}:List (κ×V)->List (κ×xj)->Prop:=Paired λ(p:κ×V)(q:κ×xj)=>p.1=q.1/\RelV p.2 q.2
noncomputable def kV:Key->V
 |.inl i=>.int i
 |.inr x=>.str x
inductive HO where
 |lst (xs:List V)
 |tup (xs:List V)
 |dK (kvs:List (Key×V))|dT (kvs:List (List Key×V))
 |set (S:Int->Bool) (n:Nat)
 |ins (C dx:xZ) (fs:List (Str×V))
 |own (x:xZ)
 |xd (fs:List (Str×V))
 |met (f x:xZ)
 |rng (lo hi:Int)
 |frz (o:Obj) (u:HO)
 |tbl (ps:Array xj)
 |ext (φ:Heap->Prop)
variable{o:HO}
noncomputable abbrev Hp:=xZ->Option HO
variable{H:Hp}
noncomputable def upd(H:Hp)(a:xZ)(o:HO):Hp:=λb=>if b=a then vE o else H b
theorem Gj:upd H a o a=vE o:=by unfold upd;rw[if_pos rfl]
theorem Bd(h:b≠a):upd H a o b=H b:=by unfold upd;rw[if_neg h]
theorem J8(h:H a=vE o)(h':H b=vF):a≠b:=by intro e;subst e;rw[h]at h';cases h'
section
variable(P:xK)(w:xw)
def ObjOk(H:Hp)(h:Heap)(a:xZ):HO->Prop
 |.lst xs=>xs.length<=sizeLine/\∃(its:List xj)(n:Nat),Vals xs its/\h.get? a=vE {cls:=.type "list",data:=.seq its.toArray n}
 |.tup xs=>xs.length<=sizeLine/\∃its:List xj,Vals xs its/\IsTup h a its.toArray
 |.dK kvs=>kvs.length<=sizeLine/\(a==sysModules)=vH/\∃vs,KV kvs vs/\h.DictOf (Ih P w) a vs
 | .dT kvs=>kvs.length<=sizeLine/\(a==sysModules)=vH/\∃xs:List (List Key×xZ×xj),
   Paired (λ(p:List Key×V)(q:List Key×xZ×xj)=>p.1=q.1/\H q.2.1=vE (.tup (p.1.map kV))/\RelV p.2 q.2.2) kvs xs/\
   ∃o es ep,h.get? a=vE o/\o.ExactDict/\o.data=.dict es ep/\es.toList=xs.map (entryOfKey (tupleKind (Ih P w)))/\(xs.map (·.1)).Nodup
 |.set S n=>h.SetOf (intKind P w) a S n
 | .ins C dx fs=>H dx=vE (.own a)/\fs.length<=1000/\dx≠a/\h.get? a=vE (PySem.W.instObj C dx)/\
   ∃mA,h.Ns1 dx mA/\(∀f,RelO (fs.lookup f) (mA f))/\PySem.Within mA (fs.map (·.1))
 |.own _=>∃o,h.get? a=vE o
 |.xd fs=>∃mA,h.Ns1 a mA/\∀f,RelO (fs.lookup f) (mA f)
 |.rng lo hi=>∃t u v,h.get? a=vE {cls:=.type "range",data:=.fields #[.int lo t,.int hi u,.int 1 v]}
 |.frz o u=>h.get? a=vE o/\ObjOk H h a u
 |.tbl ps=>h.get? a=vE {cls:=.none,data:=.fields ps}
 |.met f x=>h.get? a=vE (PySem.W.methodObj (.ref f) (.ref x))
 |.ext φ=>φ h/\(∃o,h.get? a=vE o)/\∀h1 h2:Heap,φ h1->(∀o,h1.get? a=vE o->h2.get? a=vE o)->φ h2
def HOk(H:Hp)(h:Heap):Prop:=∀a o,H a=vE o->ObjOk P w H h a o
end
section
variable{P:xK}{w:xw}{H H':Hp}{h h':Heap}{a:xZ}{o:HO}
theorem ObjOk.lt(x:ObjOk P w H h a o):a<h.objs.size:=by
 cases o with
 |lst xs=>obtain⟨_,_,_,_,e⟩:=x;exact zj e
 |tup xs=>obtain⟨_,_,_,p⟩:=x;exact p.lt
 |dK kvs=>obtain⟨_,_,_,_,o,_,_,e,_⟩:=x;exact zj e
 |dT kvs=>obtain⟨_,_,_,_,o,_,_,e,_⟩:=x;exact zj e
 |set S n=>obtain⟨o,_,_,_,e,_⟩:=x;exact zj e
 |ins C dx fs=>obtain⟨_,_,_,e,_⟩:=x;exact zj e
 |own y=>obtain⟨_,e⟩:=x;exact zj e
 |xd fs=>obtain⟨_,⟨_,_,_,e,_⟩,_⟩:=x;exact zj e
 |rng lo hi=>obtain⟨_,_,_,e⟩:=x;exact zj e
 |frz ob u=>obtain⟨e,_⟩:=x;exact zj e
 |tbl ps=>exact zj (show h.get? a=vE _ from x)
 |met f y=>exact zj (show h.get? a=vE _ from x)
 |ext φ=>obtain⟨_,⟨_,e⟩,_⟩:=x;exact zj e
theorem Paired.mapP{α β:Type}{F G:α->β->Prop}:∀{l₁:List α}{l₂:List β},Paired F l₁ l₂->(∀a b,F a b->G a b)->Paired G l₁ l₂
 |_,_,.nil,_=>.nil
 |_,_,.cons r t,f=>.cons (f _ _ r) (Paired.mapP t f)
theorem ObjOk.stay(x:ObjOk P w H h a o)(k:∀b u,(b=a∨H b=vE (.own a))->h.get? b=vE u->h'.get? b=vE u)
  (ho:∀b,H b=vE (.own a)->H' b=vE (.own a)) (ht:∀b xs,H b=vE (.tup xs)->H' b=vE (.tup xs)):ObjOk P w H' h' a o:=by
 induction o with
 |lst xs=>obtain⟨z,its,n,r,e⟩:=x;exact⟨z,its,n,r,k _ _ (.inl rfl) e⟩
 |tup xs=>obtain⟨z,its,r,ob,e,c⟩:=x;exact⟨z,its,r,ob,k _ _ (.inl rfl) e,c⟩
 |dK kvs=>obtain⟨z,y,vs,r,ob,es,ep,e,c⟩:=x;exact⟨z,y,vs,r,ob,es,ep,k _ _ (.inl rfl) e,c⟩
 |dT kvs=>
  obtain⟨z,y,xs,r,ob,es,ep,e,c⟩:=x;exact⟨z,y,xs,Paired.mapP r λp q z=>⟨z.1,ht _ _ z.2.1,z.2.2⟩,ob,es,ep,k _ _ (.inl rfl) e,c⟩
 |set S n=>obtain⟨ob,es,ep,t,e,c⟩:=x;exact⟨ob,es,ep,t,k _ _ (.inl rfl) e,c⟩
 |ins C dx fs=>
  obtain⟨d,z,ne,e,mA,⟨od,es,ep,e2,c⟩,r⟩:=x;exact⟨ho _ d,z,ne,k _ _ (.inl rfl) e,mA,⟨od,es,ep,k _ _ (.inr d) e2,c⟩,r⟩
 |own y=>obtain⟨ob,e⟩:=x;exact⟨ob,k _ _ (.inl rfl) e⟩
 |xd fs=>obtain⟨mA,⟨od,es,ep,e,c⟩,r⟩:=x;exact⟨mA,⟨od,es,ep,k _ _ (.inl rfl) e,c⟩,r⟩
 |rng lo hi=>obtain⟨t,u,v,e⟩:=x;exact⟨t,u,v,k _ _ (.inl rfl) e⟩
 |frz ob u ih=>obtain⟨e,q⟩:=x;exact⟨k _ _ (.inl rfl) e,ih q⟩
 |tbl ps=>
  have e:h.get? a=vE {cls:=.none,data:=.fields ps}:=x;show h'.get? a=vE {cls:=.none,data:=.fields ps};exact k a _ (.inl rfl) e
 |met f y=>
  have e:h.get? a=vE (PySem.W.methodObj (.ref f) (.ref y)):=x;show h'.get? a=vE (PySem.W.methodObj (.ref f) (.ref y));exact k a _ (.inl rfl) e
 |ext φ=>obtain⟨p,⟨o,e⟩,st⟩:=x;exact⟨st _ _ p λo q=>k _ _ (.inl rfl) q,⟨o,k _ _ (.inl rfl) e⟩,st⟩
theorem HOk.lt(x:HOk P w H h)(e:H a=vE o):a<h.objs.size:=(x a o e).lt
theorem HOk.fresh(x:HOk P w H h)(e:h.objs.size<=a):H a=vF:=by
 cases q:H a with
 |none=>rfl
 |some u=>exact absurd (zq (x.lt q) e) (zT _)
theorem HOk.kept(x:HOk P w H h)(k:∀b u,h.get? b=vE u->h'.get? b=vE u):HOk P w H h':=λa o e=>
 (x a o e).stay (λb u _ q=>k b u q) (λ_ q=>q) λ_ _ q=>q
theorem HOk.laid(x:HOk P w H h)(k:∀b u,h.get? b=vE u->h'.get? b=vE u)(hp:h.objs.size<=a)(new:ObjOk P w (upd H a o) h' a o):HOk P w (upd H a o) h':=λb u e=>by
 have hn:=x.fresh hp;by_cases hb:b=a
 ·subst hb;rw[Gj]at e;cases e;exact new
 ·rw[Bd hb]at e;exact(x b u e).stay (λc v _ q=>k c v q) (λc q=>by rw[Bd (J8 q hn)];exact q) λc xs q=>by rw[Bd (J8 q hn)];exact q
end
def Rd(H:Hp)(a:xZ)(u:HO):Prop:=H a=vE u∨∃o,H a=vE (.frz o u)
theorem Rd.ok{u:HO}(r:Rd H a u)(x:HOk P w H h):ObjOk P w H h a u:=by
 rcases r with r|⟨o,r⟩
 ·exact x a u r
 ·obtain⟨_,q⟩:=x a _ r;exact q
def Mut:Option HO->Prop
 |some (.lst _)=>True
 |some (.dK _)=>True
 |some (.dT _)=>True
 |some (.set _ _)=>True
 |some (.ins _ _ _)=>True
 |some (.ext _)=>True
 |_=>False
section
variable{P:xK}{w:xw}{H:Hp}{h h':Heap}{x e:xZ}{o':HO}
theorem HOk.write(ok:HOk P w H h)(mu:Mut (H x))(he:e=x∨H e=vE (.own x))(k:∀b u,b≠e->h.get? b=vE u->h'.get? b=vE u)(heo:∃u,h'.get? e=vE u)
  (new:ObjOk P w (upd H x o') h' x o'):HOk P w (upd H x o') h':=λb u q=>by
 have nown:∀c y,H c=vE (.own y)->c≠x:=λc y r z=>by subst z;rw[r]at mu;exact mu
 have ntup:∀c xs,H c=vE (.tup xs)->c≠x:=λc xs r z=>by subst z;rw[r]at mu;exact mu
 by_cases hb:b=x
 ·subst hb;rw[Gj]at q;cases q;exact new
 ·rw[Bd hb]at q;by_cases hbe:b=e
  ·have q':H b=vE (.own x):=by
    rcases he with z|z
    ·exact absurd (hbe.trans z) hb
    ·rw[hbe];exact z
   rw[q]at q';cases q';obtain⟨v,hv⟩:=heo;exact⟨v,by rw[hbe];exact hv⟩
  ·refine(ok b u q).stay (λc v hc r=>k c v ?_ r) (λc r=>by rw[Bd (nown c b r)];exact r) λc xs r=>by rw[Bd (ntup c xs r)];exact r
   rcases hc with rfl|hc
   ·exact hbe
   ·rintro rfl;rcases he with z|z
    ·exact nown c b hc z
    ·rw[hc]at z;cases z;exact hb rfl
end
structure Un (fs ex:List xZ) (H H':Hp) (h h':Heap):Prop where
 keep:∀b o,h.get? b=vE o->H b=vF->b∉fs->b∉ex->h'.get? b=vE o
 slot:∀b o,h.get? b=vE o->H b=vF->b∈fs->b∉ex->∃sl,h'.get? b=vE {o with slots:=sl}
 free:∀b o,h.get? b=vE o->H b=vF->b∉ex->H' b=vF
 there:∀b o,h.get? b=vE o->b∉ex->∃o',h'.get? b=vE o'
 tups:∀b xs,H b=vE (.tup xs)->H' b=vE (.tup xs)
 frzs:∀b o u,H b=vE (.frz o u)->H' b=vE (.frz o u)
 tbls:∀b ps,H b=vE (.tbl ps)->∃more,H' b=vE (.tbl (ps++more))
section
variable{fs fs' ex ex':List xZ}{H H1 H2:Hp}{h h1 h2 h':Heap}{a x e:xZ}{o:HO}
theorem Un.any(u:Un fs ex H H1 h h1){ob:Obj}(q:h.get? b=vE ob)(n:H b=vF)(hx:b∉ex):∃sl,h1.get? b=vE {ob with slots:=sl}:=by
 by_cases hb:b∈fs
 ·exact u.slot b ob q n hb hx
 ·exact⟨ob.slots,u.keep b ob q n hb hx⟩
theorem Un.kept(k:∀b u,h.get? b=vE u->h'.get? b=vE u):Un fs ex H H h h':=
 ⟨λb ob q _ _ _=>k b ob q,λb ob q _ _ _=>⟨ob.slots,k b ob q⟩,λ_ _ _ n _=>n,λb ob q _=>⟨ob,k b ob q⟩,λ_ _ q=>q,λ_ _ _ q=>q,λ_ ps q=>⟨#[],by rw[q];simp⟩⟩
theorem Un.refl:Un fs ex H H h h:=Un.kept λ_ _ q=>q
theorem Un.laid(k:∀b u,h.get? b=vE u->h'.get? b=vE u)(hp:h.objs.size<=a)(hn:H a=vF):Un fs ex H (upd H a o) h h' where
 keep:=λb u q _ _ _=>k b u q
 slot:=λb u q _ _ _=>⟨u.slots,k b u q⟩
 free:=λb u q n _=>by rw[Bd (zE (zq (zj q) hp))];exact n
 there:=λb u q _=>⟨u,k b u q⟩
 tups:=λb xs q=>by rw[Bd (J8 q hn)];exact q
 frzs:=λb u xs q=>by rw[Bd (J8 q hn)];exact q
 tbls:=λb ps q=>⟨#[],by rw[Bd (J8 q hn),q];simp⟩
theorem Un.write(mu:Mut (H x))(he:e=x∨H e=vE (.own x))(k:∀b u,b≠e->h.get? b=vE u->h'.get? b=vE u)(heo:∃u,h'.get? e=vE u):Un fs ex H (upd H x o) h h':=by
 have hx:∀b,H b=vF->b≠x:=λb n z=>by subst z;rw[n]at mu;exact mu
 have hb:∀b,H b=vF->b≠e:=λb n z=>by
  subst z;rcases he with r|r
  ·exact hx b n r
  ·rw[n]at r;cases r
 have hm:∀b u,H b=vE u->¬Mut (vE u)->b≠x:=λb u q nm z=>by subst z;rw[q]at mu;exact nm mu
 refine⟨λb u q n _ _=>k b u (hb b n) q,λb u q n _ _=>⟨u.slots,k b u (hb b n) q⟩,λb u q n _=>by rw[Bd (hx b n)];exact n,λb u q _=>?_,
  λb xs q=>by rw[Bd (hm b _ q λz=>z)];exact q,λb u xs q=>by rw[Bd (hm b _ q λz=>z)];exact q,λb ps q=>⟨#[],by rw[Bd (hm b _ q λz=>z),q];simp⟩⟩
 by_cases hbe:b=e
 ·subst hbe;exact heo
 ·exact⟨u,k b u hbe q⟩
end
noncomputable def trk(h:Heap)(H:Hp):List xZ:=(zZ h.objs.size).filter λa=>(H a).isSome
def Ku(h:Heap)(H:Hp):Heap:=PySem.W.hideAll h (trk h H)
theorem ZNr(h:Heap)(H:Hp):(Ku h H).objs.size=h.objs.size:=PySem.W.hideAll_size _ _
theorem ZS1{o:Obj}(e:h.get? b=vE o)(n:H b=vF):(Ku h H).get? b=vE o:=
 PySem.W.hideAll_get _ e λhm=>by have q:(H b).isSome=vG:=(List.mem_filter.mp hm).2;rw[n]at q;simp at q
theorem ZLx{o:Obj}(e:(Ku h H).get? b=vE o):h.get? b=vE o/\H b=vF:=by
 have e':h.get? b=vE o:=PySem.W.of_hideAll (trk h H) e;refine⟨e',?_⟩;cases q:H b with
 |none=>rfl
 |some x=>
  have hm:b∈trk h H:=List.mem_filter.mpr ⟨qW.mpr (zj e'),by simp[q]⟩;have z:(Ku h H).get? b=vF:=PySem.W.hideAll_none (trk h H) hm;rw[z]at e;cases e
noncomputable def ZKz(g h:Heap)(L:xZ):List (xZ×Obj):=(zZ h.objs.size).filterMap λa=>if a=L∨(g.get? a).isSome=vG then vF else(h.get? a).map λo=>(a,o)
def rest(g h:Heap)(L d:xZ):List (xZ×Obj):=(ZKz g h L).filter λp=>decide (p.1≠d)
structure Mod (K:PySem.W.Frag) (mg:Str->Option xj) (base:Heap):Prop where
 kin:K.In base
 glob:base.Ns vQ mg
 blt:∃mb,base.Ns builtinsNs mb/\∀x:Str,x≠"__name__"->mb x=xE x
 nolimit:base.NoLimit
structure Cx where
 prog:xK
 w:xw
 K:PySem.W.Frag
 mg:Str->Option xj
 base:Heap
 A:xJ
 N:List Str
 s₀:xq
 H₀:Hp
 env:Env
 outer:List Env
 stack:List Env
 ex:List xZ
 fn:Str->Bool
 calm:Bool
 pn:List (xZ×Obj)
 xe:xj->xq->Prop
variable{X:Cx}
noncomputable def frs(l:List Env):List xZ:=l.filterMap (·.frame)
noncomputable abbrev Cx.fs(X:Cx):List xZ:=frs X.outer
def Vis(sc:xY)(x:Str):Prop:=sc.names.lookup x=vE .local∨sc.names.lookup x=vE .cell∨sc.names.lookup x=vE .free
def Loc(sc:xY)(x:Str):Prop:=sc.names.lookup x=vE .local∨sc.names.lookup x=vE .cell
def Look(env:Env)(h:Heap)(m:Str->Option xj)(x:Str)(u:xj):Prop:=
 (env.kindOf x=vE .local/\m x=vE u)∨((env.kindOf x=vE .cell∨env.kindOf x=vE .free)/\∃c,env.cells.lookup x=vE c/\h.IsCell c (vE u))
structure Cx.Ok (X:Cx):Prop where
 mod:Mod X.K X.mg X.base
 kind:X.env.scope.kind=.function
 glob:X.env.globals=vQ
 blt:X.env.builtins=builtinsNs
 above:X.s₀.heap.objs.size<=X.env.locals
 inj:∀x y c,X.env.cells.lookup x=vE c->X.env.cells.lookup y=vE c->x=y
 has:∀x,(X.env.kindOf x=vE .cell∨X.env.kindOf x=vE .free)->∃c,X.env.cells.lookup x=vE c
 cab:∀x c,X.fn x=vG->X.env.cells.lookup x=vE c->X.s₀.heap.objs.size<=c
 hd:X.calm=vG->X.A.handled=vF
 frames:X.A.frames=vE X.stack
 stk:X.stack=X.outer∨(X.stack=X.env::X.outer/\X.env.frame=vE X.env.locals)
 exf:∀b∈X.ex,b≠X.env.locals/\∀x c,X.env.cells.lookup x=vE c->c≠b
 bs:∀b o,X.base.get? b=vE o->X.s₀.heap.get? b=vE o/\X.H₀ b=vF
 bsz:X.base.objs.size<=X.s₀.heap.objs.size
 noex:∀b o,X.base.get? b=vE o->b∉X.ex
 exfs:∀b∈X.ex,b∉X.fs
 funs:X.s₀.heap.FunFrames X.base X.outer
 frf:∀b∈X.fs,X.H₀ b=vF
structure Inv (X:Cx) (vD:List (xZ×Obj)) (σ:List (Option V)) (H:Hp) (s:xq):Prop where
 ok:X.Ok
 os:s.os=X.s₀.os
 bare:AllBare s.gens
 base:Un X.fs X.ex X.H₀ H X.s₀.heap s.heap
 loc:∃m,s.heap.Ns X.env.locals m/\∀(i:Nat)(x:Str)(v:V),X.N[i]?=vE x->σ[i]?=vE (vE v)->Vis X.env.scope x->∃u,RelV v u/\Look X.env s.heap m x u
 cell:∀x c,X.env.cells.lookup x=vE c->∃v,s.heap.IsCell c v
 free:H X.env.locals=vF
 Jr:∀x c,X.env.cells.lookup x=vE c->H c=vF
 pin:∀p∈X.pn++vD,s.heap.get? p.1=vE p.2/\H p.1=vF/\p.1≠X.env.locals/\p.1∉X.fs/\∀v,p.2.data≠ .cell v
 hok:HOk X.prog X.w H s.heap
 len:σ.length=X.N.length
section
variable{X:Cx}{vD:List (xZ×Obj)}{σ:List (Option V)}{H H':Hp}{s:xq}{h':Heap}
theorem Cx.Ok.nofr(ok:X.Ok){o:Obj}(e:X.base.get? b=vE o):b∉X.fs:=λhb=>by have:=(ok.funs.mem hb).1;rw[e]at this;cases this
theorem Inv.bs(I:Inv X vD σ H s):∀b o,X.base.get? b=vE o->s.heap.get? b=vE o/\H b=vF:=λb o e=>
 ⟨I.base.keep b o (I.ok.bs b o e).1 (I.ok.bs b o e).2 (I.ok.nofr e) (I.ok.noex b o e),I.base.free b o (I.ok.bs b o e).1 (I.ok.bs b o e).2 (I.ok.noex b o e)⟩
theorem Inv.bk(I:Inv X vD σ H s):∀b o,X.base.get? b=vE o->s.heap.get? b=vE o:=λb o e=>(I.bs b o e).1
theorem Inv.mod(I:Inv X vD σ H s):Mod X.K X.mg X.base:=I.ok.mod
theorem Inv.kIn(I:Inv X vD σ H s):X.K.In s.heap:=I.ok.mod.kin.keeps I.bk
theorem Inv.lt(I:Inv X vD σ H s):X.env.locals<s.heap.objs.size:=let⟨_,hn,_⟩:=I.loc;hn.lt
theorem Inv.sz(I:Inv X vD σ H s):X.s₀.heap.objs.size<=s.heap.objs.size:=zB I.ok.above (Nat.le_of_lt I.lt)
theorem Inv.nofs(I:Inv X vD σ H s)(h:s.heap.objs.size<=a):a∉X.fs:=λhb=>by obtain⟨_,o,ho,_⟩:=I.ok.funs.mem hb;exact absurd (zq (zj ho) (zB I.sz h)) (zT _)
theorem Inv.cne(I:Inv X vD σ H s):∀x c,X.env.cells.lookup x=vE c->c≠X.env.locals:=λx c e z=>by obtain⟨v,o,ho,hd⟩:=I.cell x c e;obtain⟨m,⟨o',es,ep,ho',hd',_⟩,_⟩:=I.loc;rw[z,ho']at ho;cases ho;rw[hd']at hd;cases hd
theorem Inv.funs(I:Inv X vD σ H s):s.heap.FunFrames X.base X.outer:=by
 have all:∀(l:List Env),(∀b∈frs l,b∈X.fs)->X.s₀.heap.FunFrames X.base l->s.heap.FunFrames X.base l:=by
  intro l
  induction l with
  |nil=>intro _ _;trivial
  |cons env r ih=>
   intro hs hl;obtain⟨hk,⟨L,o,hf,hn,ho,hd⟩,hr⟩:=hl;have hL:L∈X.fs:=hs L (by unfold frs;rw[qY,hf];exact zW);obtain⟨sl,e⟩:=I.base.slot L o ho (I.ok.frf L hL) hL λz=>I.ok.exfs L z hL
   exact⟨hk,⟨L,_,hf,hn,e,hd⟩,ih (λb hb=>hs b (by unfold frs;rw[qY,hf];exact zX _ hb)) hr⟩
 exact all X.outer (λ_ hb=>hb) I.ok.funs
theorem Inv.stack(I:Inv X vD σ H s):s.heap.FunFrames X.base X.stack:=by
 rcases I.ok.stk with e|⟨e,hf⟩
 ·rw[e];exact I.funs
 ·rw[e];obtain⟨m,hn,_⟩:=I.loc;refine .cons (by rw[I.ok.kind];decide) hf hn ?_ I.funs;exact Heap.get?_none_of_le (zB I.ok.bsz I.ok.above)
theorem Inv.Wv(I:Inv X vD σ H s):∀b∈frs X.stack,b∈X.env.locals::X.fs:=λb hb=>by
 rcases I.ok.stk with e|⟨e,hf⟩
 ·rw[e]at hb;exact zX _ hb
 ·rw[e]at hb;unfold frs at hb;rw[qY,hf]at hb;exact hb
theorem Inv.ZHx(I:Inv X vD σ H s):∀b∈frs X.stack,H b=vF:=λb hb=>by
 rcases zw.mp (I.Wv b hb)with e|hb
 ·rw[e];exact I.free
 ·obtain⟨_,o,ho,_⟩:=I.ok.funs.mem hb;exact I.base.free b o ho (I.ok.frf b hb) λz=>I.ok.exfs b z hb
theorem Inv.step{g':Array GenState}{d':Drawn}(I:Inv X vD σ H s)
  (hch:∀b∈ch,(b∈X.ex∨X.s₀.heap.objs.size<=b)/\b≠X.env.locals/\(∀x c,X.env.cells.lookup x=vE c->c≠b)/\∀p∈X.pn++vD,p.1≠b)
  (keep:∀b o,b≠X.env.locals->b∉X.fs->b∉ch->s.heap.get? b=vE o->H b=vF->h'.get? b=vE o)
  (slot:∀b o,b≠X.env.locals->b∈X.fs->b∉ch->s.heap.get? b=vE o->H b=vF->∃sl,h'.get? b=vE {o with slots:=sl}) (free:∀b o,b∉ch->s.heap.get? b=vE o->H b=vF->H' b=vF)
  (there:∀b o,b∉ch->s.heap.get? b=vE o->∃o',h'.get? b=vE o')
  (tups:∀b xs,H b=vE (.tup xs)->H' b=vE (.tup xs)) (frzs:∀b o u,H b=vE (.frz o u)->H' b=vE (.frz o u)) (tbls:∀b ps,H b=vE (.tbl ps)->∃more,H' b=vE (.tbl (ps++more)))
  (ns:∀m,s.heap.Ns X.env.locals m->h'.Ns X.env.locals m) (hok:HOk X.prog X.w H' h') (hg:AllBare g'):
  Inv X vD σ H' {s with heap:=h',gens:=g',drawn:=d',toks:=t'}:=by
 have neL:∀b o,X.s₀.heap.get? b=vE o->b≠X.env.locals:=λb o e=>zE (zq (zj e) I.ok.above)
 have neC:∀b o,X.s₀.heap.get? b=vE o->b∉X.ex->b∉ch:=λb o e hx hb=>by
  rcases(hch b hb).1 with z|z
  ·exact hx z
  ·exact absurd (zq (zj e) z) (zT _)
 have cellK:∀x c,X.env.cells.lookup x=vE c->∀v,s.heap.IsCell c v->h'.IsCell c v:=λx c e v ⟨o,ho,hd⟩=>by
  have nch:c∉ch:=λz=>(hch c z).2.2.1 x c e rfl
  by_cases hc:c∈X.fs
  ·obtain⟨sl,q⟩:=slot c o (I.cne x c e) hc nch ho (I.Jr x c e);exact⟨_,q,hd⟩
  ·exact⟨o,keep c o (I.cne x c e) hc nch ho (I.Jr x c e),hd⟩
 refine⟨I.ok,I.os,hg,⟨λb o e n hb hx=>?_,λb o e n hb hx=>?_,λb o e n hx=>?_,λb o e hx=>?_,λb xs e=>tups b xs (I.base.tups b xs e),λb o xs e=>frzs b o xs (I.base.frzs b o xs e),λb ps e=>?_⟩,?_,λx c e=>?_,?_,λx c e=>?_,λp hp=>?_,hok,I.len⟩
 ·exact keep b o (neL b o e) hb (neC b o e hx) (I.base.keep b o e n hb hx) (I.base.free b o e n hx)
 ·obtain⟨sl,e1⟩:=I.base.slot b o e n hb hx;obtain⟨sl',e2⟩:=slot b _ (neL b o e) hb (neC b o e hx) e1 (I.base.free b o e n hx);exact⟨sl',e2⟩
 ·obtain⟨o',e1⟩:=I.base.there b o e hx;exact free b o' (neC b o e hx) e1 (I.base.free b o e n hx)
 ·obtain⟨o',e1⟩:=I.base.there b o e hx;exact there b o' (neC b o e hx) e1
 ·obtain⟨m1,e1⟩:=I.base.tbls b ps e;obtain⟨m2,e2⟩:=tbls b _ e1;exact⟨m1++m2,by rw[e2,Array.append_assoc]⟩
 ·obtain⟨m,hn,hl⟩:=I.loc;refine⟨m,ns m hn,λi x v e1 e2 e3=>?_⟩;obtain⟨u,r,l⟩:=hl i x v e1 e2 e3;refine⟨u,r,?_⟩;rcases l with l|⟨k,c,e,z⟩
  ·exact .inl l
  ·exact .inr ⟨k,c,e,cellK x c e _ z⟩
 ·obtain⟨v,z⟩:=I.cell x c e;exact⟨v,cellK x c e v z⟩
 ·obtain⟨m,⟨o,_,_,ho,_⟩,_⟩:=I.loc;exact free _ o (λz=>(hch _ z).2.1 rfl) ho I.free
 ·obtain⟨v,o,ho,hd⟩:=I.cell x c e;exact free c o (λz=>(hch c z).2.2.1 x c e rfl) ho (I.Jr x c e)
 ·obtain⟨e,n,ne,nf,d⟩:=I.pin p hp;have nch:p.1∉ch:=λz=>(hch p.1 z).2.2.2 p hp rfl
  exact⟨keep p.1 p.2 ne nf nch e n,free p.1 p.2 nch e n,ne,nf,d⟩
theorem Inv.un(I:Inv X vD σ H s)(u:Un X.fs [] H H' s.heap h')(hok:HOk X.prog X.w H' h'):Inv X vD σ H' {s with heap:=h',toks:=t'}:=by
 obtain⟨m,⟨o,es,ep,ho,r⟩,_⟩:=id I.loc;obtain⟨sl,hL⟩:=u.any ho I.free (by simp)
 exact I.step (g':=s.gens) (d':=s.drawn) (ch:=[]) (λ_ z=>nomatch z) (λb o _ hb _ e n=>u.keep b o e n hb (by simp)) (λb o _ hb _ e n=>u.slot b o e n hb (by simp)) (λb o _ e n=>u.free b o e n (by simp)) (λb o _ e=>u.there b o e (by simp)) u.tups u.frzs u.tbls (λm' hm=>by obtain⟨o',es',ep',ho',r'⟩:=hm;rw[ho]at ho';cases ho';exact⟨_,es',ep',hL,r'⟩) hok I.bare
theorem Inv.call{g':Array GenState}{d':Drawn}(I:Inv X vD σ H s)(u:Un (frs X.stack) ch H H' s.heap h')(hok:HOk X.prog X.w H' h')(hg:AllBare g')
  (hch:∀b∈ch,(b∈X.ex∨X.s₀.heap.objs.size<=b)/\b≠X.env.locals/\(∀x c,X.env.cells.lookup x=vE c->c≠b)/\∀p∈X.pn++vD,p.1≠b):
  Inv X vD σ H' {s with heap:=h',gens:=g',drawn:=d',toks:=t'}:=by
 obtain⟨m,⟨o,es,ep,ho,r⟩,_⟩:=id I.loc;obtain⟨sl,hL⟩:=u.any ho I.free λz=>(hch _ z).2.1 rfl
 exact I.step (ch:=ch) hch (λb o hL hb hc e n=>u.keep b o e n (λz=>(zw.mp (I.Wv b z)).elim hL hb) hc) (λb o _ _ hc e n=>u.any e n hc) (λb o hc e n=>u.free b o e n hc) (λb o hc e=>u.there b o e hc) u.tups u.frzs u.tbls (λm' hm=>by obtain⟨o',es',ep',ho',r'⟩:=hm;rw[ho]at ho';cases ho';exact⟨_,es',ep',hL,r'⟩) hok hg
theorem Inv.turned{it:xZ}(I:Inv X vD σ H s)(k:∀b o,b≠it->s.heap.get? b=vE o->h'.get? b=vE o)(hn:H it=vF)(hL:it≠X.env.locals)
  (h1:it∈X.ex∨X.s₀.heap.objs.size<=it) (h2:∀x c,X.env.cells.lookup x=vE c->c≠it) (h3:∀p∈X.pn++vD,p.1≠it):Inv X vD σ H {s with heap:=h',toks:=t'}:=by
 have nit:∀b u,H b=vE u->b≠it:=λb u e z=>by rw[z,hn]at e;cases e
 refine I.step (g':=s.gens) (d':=s.drawn) (ch:=[it]) (λb hb=>?_) (λb o _ _ hc e _=>k b o (λz=>hc (by simp[z])) e) (λb o _ _ hc e _=>⟨o.slots,k b o (λz=>hc (by simp[z])) e⟩) (λ_ _ _ _ n=>n)
  (λb o hc e=>⟨o,k b o (λz=>hc (by simp[z])) e⟩) (λ_ _ e=>e) (λ_ _ _ e=>e) (λb ps e=>⟨#[],by rw[e];simp⟩) (λm hm=>?_) (λb u e=>?_) I.bare
 ·have e:b=it:=by simpa using hb
  subst e;exact⟨h1,hL,h2,h3⟩
 ·obtain⟨o,es,ep,ho,r⟩:=hm;exact⟨o,es,ep,k _ o (Ne.symm hL) ho,r⟩
 ·refine(I.hok b u e).stay (λc v hc q=>k c v ?_ q) (λ_ q=>q) λ_ _ q=>q
  rcases hc with z|z
  ·rw[z];exact nit b u e
  ·exact nit c _ z
theorem Inv.tok(I:Inv X vD σ H s)(t:Nat):Inv X vD σ H {s with toks:=t}:=I.un (h':=s.heap) (t':=t) Un.refl I.hok
theorem Inv.kept(I:Inv X vD σ H s)(k:∀b u,s.heap.get? b=vE u->h'.get? b=vE u):Inv X vD σ H {s with heap:=h',toks:=t'}:=I.un (Un.kept k) (I.hok.kept k)
theorem Inv.laid(I:Inv X vD σ H s)(k:∀b u,s.heap.get? b=vE u->h'.get? b=vE u)(hp:s.heap.objs.size<=a)(new:ObjOk X.prog X.w (upd H a o) h' a o):
  Inv X vD σ (upd H a o) {s with heap:=h',toks:=t'}:=I.un (Un.laid k hp (I.hok.fresh hp)) (I.hok.laid k hp new)
theorem Inv.write{x e:xZ}(I:Inv X vD σ H s)(mu:Mut (H x))(he:e=x∨H e=vE (.own x))(k:∀b u,b≠e->s.heap.get? b=vE u->h'.get? b=vE u)(heo:∃u,h'.get? e=vE u)
  (new:ObjOk X.prog X.w (upd H x o) h' x o):Inv X vD σ (upd H x o) {s with heap:=h',toks:=t'}:=I.un (Un.write mu he k heo) (I.hok.write mu he k heo new)
theorem Inv.Ma{pins':List (xZ×Obj)}(I:Inv X vD σ H s)(h:∀p∈pins',s.heap.get? p.1=vE p.2/\H p.1=vF/\p.1≠X.env.locals/\p.1∉X.fs/\∀v,p.2.data≠ .cell v):Inv X pins' σ H s:=
 ⟨I.ok,I.os,I.bare,I.base,I.loc,I.cell,I.free,I.Jr,λp hp=>(j7.mp hp).elim (λz=>I.pin p (jO _ z)) (h p),I.hok,I.len⟩
theorem ZGv{N:List Str}(hN:N.Nodup){j:Nat}(a:N[i]?=vE x)(b:N[j]?=vE x):i=j:=by obtain⟨h1,e1⟩:=zF.mp a;obtain⟨h2,e2⟩:=zF.mp b;exact(List.getElem_inj hN).mp (e1.trans e2.symm)
theorem ZHb{M:Model}{A:xJ}{E:xj->xq->Prop}{Q:Unit->xq->Prop}(I:Inv X vD σ H s)(hN:X.N.Nodup)(hi:X.N[i]?=vE x)(hx:Loc X.env.scope x)(r:RelV v u)
  (h:∀s',Inv X vD (σ.set i (vE v)) H s'->(∃a,qj a s.heap s'.heap/\(a=X.env.locals∨X.env.cells.lookup x=vE a))->Q () s') (hf:X.fn x=vG∨X.env.scope.names.lookup x=vE .local:=by first|exact .inl rfl|exact .inr rfl|assumption):vY M A (storeName X.env x u) Q E s:=by
 obtain⟨m,hn,hl⟩:=id I.loc;have hcls:(X.env.scope.kind == .class||(X.env.scope.kind == .module&&X.env.locals != X.env.globals))=vH:=by rw[I.ok.kind];rfl
 have hiσ:i<σ.length:=by rw[I.len];exact(zF.mp hi).1
 have cne:=I.cne;have tracked:∀{a:xZ}{h':Heap},(∃o,s.heap.get? a=vE o/\H a=vF)->qj a s.heap h'->HOk X.prog X.w H h':=λ{a h'}ha hs b ob e=>by
  obtain⟨_,_,hfree⟩:=ha;refine(I.hok b ob e).stay (λc w' hc q=>(hs.2 c ?_).trans q) (λ_ q=>q) λ_ _ q=>q
  rintro rfl;rcases hc with rfl|hc
  ·rw[hfree]at e;cases e
  ·rw[hfree]at hc;cases hc
 rcases hx with hk|hk
 ·refine wpAny_storeName_local hk hn (λh' hn' hs=>?_) hcls;obtain⟨oL,_,_,hoL,_⟩:=id hn;refine h _ ⟨I.ok,I.os,I.bare,⟨λb o e n hb hx=>?_,λb o e n hb hx=>?_,I.base.free,λb o e hx=>?_,I.base.tups,I.base.frzs,I.base.tbls⟩,⟨_,hn',λj y v' e1 e2 e3=>?_⟩,λy c e=>?_,I.free,I.Jr,λp hp=>?_,tracked ⟨oL,hoL,I.free⟩ hs,by simpa using I.len⟩ ⟨_,hs,.inl rfl⟩
  ·exact(hs.2 b (zE (zq (zj e) I.ok.above))).trans (I.base.keep b o e n hb hx)
  ·obtain⟨sl,e1⟩:=I.base.slot b o e n hb hx;exact⟨sl,(hs.2 b (zE (zq (zj e) I.ok.above))).trans e1⟩
  ·obtain⟨o',e1⟩:=I.base.there b o e hx;exact⟨o',(hs.2 b (zE (zq (zj e) I.ok.above))).trans e1⟩
  ·by_cases hj:j=i
   ·subst hj;rw[hi]at e1;cases e1;rw[qU hiσ]at e2;cases e2;exact⟨u,r,.inl ⟨hk,by simp⟩⟩
   ·rw[qM (Ne.symm hj)]at e2;obtain⟨u',r',q⟩:=hl j y v' e1 e2 e3;refine⟨u',r',?_⟩;rcases q with⟨k,e⟩|⟨k,c,e,z⟩
    ·refine .inl ⟨k,?_⟩;have:y≠x:=λe=>hj (ZGv hN e1 (e▸hi))
     simp[this,e]
    ·exact .inr ⟨k,c,e,z.sameBut hs (cne y c e)⟩
  ·obtain⟨w',z⟩:=I.cell y c e;exact⟨w',z.sameBut hs (cne y c e)⟩
  ·obtain⟨e,n,ne,nf,d⟩:=I.pin p hp;exact⟨(hs.2 p.1 ne).trans e,n,ne,nf,d⟩
 ·have hfn:X.fn x=vG:=by
   rcases hf with z|z
   ·exact z
   ·rw[z]at hk;cases hk
  obtain⟨c,hc⟩:=I.ok.has x (.inl hk);obtain⟨w',z⟩:=I.cell x c hc;refine wpAny_storeName_cell I.ok.kind hk hc z (λh' hc' hs=>?_);obtain⟨oc,hoc,hocd⟩:=id z;refine h {s with heap:=h'} ⟨I.ok,I.os,I.bare,⟨λb o e n hb hx=>?_,λb o e n hb hx=>?_,I.base.free,λb o e hx=>?_,I.base.tups,I.base.frzs,I.base.tbls⟩,⟨m,hn.sameBut hs (Ne.symm (cne x c hc)),λj y v' e1 e2 e3=>?_⟩,λy c' e=>?_,I.free,I.Jr,λp hp=>?_,tracked ⟨oc,hoc,I.Jr x c hc⟩ hs,by simpa using I.len⟩ ⟨c,hs,.inr hc⟩
  ·exact(hs.2 b (zE (zq (zj e) (I.ok.cab x c hfn hc)))).trans (I.base.keep b o e n hb hx)
  ·obtain⟨sl,e1⟩:=I.base.slot b o e n hb hx;exact⟨sl,(hs.2 b (zE (zq (zj e) (I.ok.cab x c hfn hc)))).trans e1⟩
  ·obtain⟨o',e1⟩:=I.base.there b o e hx;exact⟨o',(hs.2 b (zE (zq (zj e) (I.ok.cab x c hfn hc)))).trans e1⟩
  ·by_cases hj:j=i
   ·subst hj;rw[hi]at e1;cases e1;rw[qU hiσ]at e2;cases e2;exact⟨u,r,.inr ⟨.inl hk,c,hc,hc'⟩⟩
   ·rw[qM (Ne.symm hj)]at e2;obtain⟨u',r',q⟩:=hl j y v' e1 e2 e3;refine⟨u',r',?_⟩;rcases q with q|⟨k,c',e,z'⟩
    ·exact .inl q
    ·refine .inr ⟨k,c',e,z'.sameBut hs ?_⟩;rintro rfl;exact hj (ZGv hN e1 (I.ok.inj _ _ _ e hc▸hi))
  ·by_cases hcc:c'=c
   ·subst hcc;exact⟨_,hc'⟩
   ·obtain⟨w2,z2⟩:=I.cell y c' e;exact⟨w2,z2.sameBut hs hcc⟩
  ·obtain⟨e,n,ne,nf,d⟩:=I.pin p hp;refine⟨(hs.2 p.1 ?_).trans e,n,ne,nf,d⟩;intro q;rw[q,hoc]at e;have q':oc=p.2:=Option.some.inj e;exact d w' (by rw[<-q'];exact hocd)
theorem ZCz{M:Model}{A:xJ}{E:xj->xq->Prop}{Q:Unit->xq->Prop}(I:Inv X vD σ H s)(hN:X.N.Nodup)(hi:X.N[i]?=vE x)(hx:Loc X.env.scope x)(r:RelV v u)
  (h:∀s',Inv X vD (σ.set i (vE v)) H s'->Q () s') (hf:X.fn x=vG∨X.env.scope.names.lookup x=vE .local:=by first|exact .inl rfl|exact .inr rfl|assumption):vY M A (storeName X.env x u) Q E s:=
 ZHb I hN hi hx r (λs' I' _=>h s' I') hf
theorem Inv.call'{s':xq}(I:Inv X vD σ H s)(ho:s'.os=s.os)(u:Un (frs X.stack) ch H H' s.heap s'.heap)(hok:HOk X.prog X.w H' s'.heap)(hg:AllBare s'.gens)
  (hch:∀b∈ch,(b∈X.ex∨X.s₀.heap.objs.size<=b)/\b≠X.env.locals/\(∀x c,X.env.cells.lookup x=vE c->c≠b)/\∀p∈X.pn++vD,p.1≠b):Inv X vD σ H' s':=by
 obtain⟨h',g',d',t',o'⟩:=s';have e:o'=s.os:=ho;subst e;exact I.call (g':=g') (t':=t') (d':=d') u hok hg hch
end
noncomputable abbrev XK:=xj->Option xZ->Hp->Prop
noncomputable abbrev St:=List (Option V)
variable{σ:St}
noncomputable abbrev VK:=V->Hp->Prop
noncomputable abbrev TE:=St->Hp->VK->Prop
variable{te:TE}
noncomputable abbrev TT:=St->Hp->(Bool->Hp->Prop)->Prop
noncomputable abbrev TA:=St->Hp->(List V->Hp->Prop)->Prop
structure Ends where
 nx:St->Hp->Prop
 rt:VK
 bk:St->Hp->Prop:=λ_ _=>False
 ct:St->Hp->Prop:=λ_ _=>False
noncomputable abbrev TS:=Ends->St->Hp->Prop
def EP(X:Cx)(vD:List (xZ×Obj))(σ:St)(Q:VK)(u:xj)(s':xq):Prop:=∃v H',Inv X vD σ H' s'/\RelV v u/\Q v H'
def TP(X:Cx)(vD:List (xZ×Obj))(σ:St)(Q:Bool->Hp->Prop)(b:Bool)(s':xq):Prop:=∃H',Inv X vD σ H' s'/\Q b H'
def AP(X:Cx)(vD:List (xZ×Obj))(σ:St)(Q:List V->Hp->Prop)(us:List xj)(s':xq):Prop:=∃vs H',Inv X vD σ H' s'/\Vals vs us/\Q vs H'
def SP(X:Cx)(vD:List (xZ×Obj))(D:Ends)(f:Flow)(s':xq):Prop:=
 match f with
 |.next=>∃σ' H',Inv X vD σ' H' s'/\D.nx σ' H'
 |.brk=>∃σ' H',Inv X vD σ' H' s'/\D.bk σ' H'
 |.cont=>∃σ' H',Inv X vD σ' H' s'/\D.ct σ' H'
 |.ret u=>∃v σ' H',Inv X vD σ' H' s'/\RelV v u/\D.rt v H'
def PE(X:Cx)(e:xX)(t:TE):Prop:=
 ∀(vD:List (xZ×Obj))(s:xq)(σ:St)(H:Hp)(Q:VK),Inv X vD σ H s->t σ H Q->vY (vZ X.prog X.w) X.A (eval e X.env) (EP X vD σ Q) X.xe s
def PT(X:Cx)(e:xX)(t:TT):Prop:=
 ∀(vD:List (xZ×Obj))(s:xq)(σ:St)(H:Hp)(Q:Bool->Hp->Prop),Inv X vD σ H s->t σ H Q->vY (vZ X.prog X.w) X.A (isTrue e X.env (eval e X.env)) (TP X vD σ Q) X.xe s
def PW(X:Cx)(e:xX)(t:TT):Prop:=
 ∀(whole:Sem xj)(vD:List (xZ×Obj))(s:xq)(σ:St)(H:Hp)(Q:Bool->Hp->Prop),Inv X vD σ H s->t σ H Q->vY (vZ X.prog X.w) X.A (isTrue e X.env whole) (TP X vD σ Q) X.xe s
theorem PW.pt{t:TT}(h:PW X e t):PT X e t:=h _
def PA(X:Cx)(es:List xX)(t:TA):Prop:=
 ∀(pos:Pos)(vD:List (xZ×Obj))(s:xq)(σ:St)(H:Hp)(Q:List V->Hp->Prop),Inv X vD σ H s->t σ H Q->vY (vZ X.prog X.w) X.A (spliced (x0 pos (vW es X.env))) (AP X vD σ Q) X.xe s
def PS(X:Cx)(st:xz)(t:TS):Prop:=
 ∀(vD:List (xZ×Obj))(s:xq)(σ:St)(H:Hp)(D:Ends),Inv X vD σ H s->t D σ H->vY (vZ X.prog X.w) X.A (exec st X.env) (SP X vD D) X.xe s
def PSs(X:Cx)(st:List xz)(t:TS):Prop:=
 ∀(vD:List (xZ×Obj))(s:xq)(σ:St)(H:Hp)(D:Ends),Inv X vD σ H s->t D σ H->vY (vZ X.prog X.w) X.A (execs st X.env) (SP X vD D) X.xe s
theorem thn{α:Type}{t:Sem α}{Q Q':α->xq->Prop}{M:Model}(h:vY M A t Q E s)(hQ:∀a s,Q a s->Q' a s):vY M A t Q' E s:=v4 h hQ λ_ _ x=>x
section
variable{X:Cx}
noncomputable def tVar(i:Nat):TE:=λσ H Q=>∃v,σ[i]?=vE (vE v)/\Q v H
noncomputable def tC(v:V):TE:=λ_ H Q=>Q v H
theorem ZKw{pos:Pos}(hN:X.N[i]?=vE x)(hv:Vis X.env.scope x)(hd:(x==("__debug__":Str))=vH:=by decide)(hcd:(x==("__classdict__":Str))=vH:=by decide):PE X (.Name x pos) (tVar i):=by
 intro vD s σ H Q I h;obtain⟨v,e,h⟩:=h;obtain⟨m,hn,hl⟩:=I.loc;obtain⟨u,r,l⟩:=hl i x v hN e hv;have fin:EP X vD σ Q u s:=⟨v,H,I,r,h⟩;rcases l with⟨hk,hm⟩|⟨hk,c,hc,hcell⟩
 ·exact wpAny_Name (wpAny_loadName_local I.ok.kind hk hn hm fin) hd
 ·rcases hk with hk|hk
  ·exact wpAny_Name (wpAny_loadName_cell I.ok.kind hk hc hcell fin) hd
  ·exact wpAny_Name (wpAny_loadName_free I.ok.kind hk hc hcell fin hcd) hd
theorem ZRF{i j pos}:PE X (.Constant (.int i) j pos) (tC (.int i)):=λ_ _ _ H _ I h=>wpAny_Constant_int ⟨.int i,H,I.tok _,⟨_,rfl⟩,h⟩
theorem ZRR{b j pos}:PE X (.Constant (.bool b) j pos) (tC (.bl b)):=λ_ _ _ H _ I h=>Constant_bool ⟨.bl b,H,I,rfl,h⟩
theorem ZRv{j pos}:PE X (.Constant .none j pos) (tC .non):=λ_ _ _ H _ I h=>Constant_none ⟨.non,H,I,rfl,h⟩
theorem ZG2{x j pos}:PE X (.Constant (.str x) j pos) (tC (.str x)):=λ_ _ _ H _ I h=>Calls.Constant_str ⟨.str x,H,I.tok _,⟨_,rfl⟩,h⟩
def Gl(X:Cx)(x:Str):Prop:=X.env.kindOf x=vE .globalImplicit
theorem ZEU{E:xj->xq->Prop}{pos:Pos}(I:Inv X vD σ H s)(hg:Gl X x)(hm:X.mg x=vE u)(h:Q u s)
  (hd:(x==("__debug__":Str))=vH:=by decide):vY (vZ X.prog X.w) X.A (eval (.Name x pos) X.env) Q E s:=
 Calls.Name_function_global I.ok.kind hg (Calls.loadGlobal_global (by rw[I.ok.glob];exact I.mod.glob.keeps I.bk) hm h) hd
theorem Jo{E:xj->xq->Prop}{pos:Pos}(I:Inv X vD σ H s)(hg:Gl X x)(hm:X.mg x=vF)(hv:xE x=vE u)(h:Q u s)
  (hn:x≠"__name__":=by decide) (hd:(x==("__debug__":Str))=vH:=by decide):vY (vZ X.prog X.w) X.A (eval (.Name x pos) X.env) Q E s:=by
 obtain⟨mb,h1,h2⟩:=I.mod.blt;exact Calls.Name_function_global I.ok.kind hg (Calls.loadGlobal_builtin (by rw[I.ok.glob];exact I.mod.glob.keeps I.bk) hm (by rw[I.ok.blt];exact h1.keeps I.bk) ((h2 x hn).trans hv) h) hd
theorem ZCn{pos:Pos}(hg:Gl X x)(hm:X.mg x=vE u)(r:RelV v u)(hd:(x==("__debug__":Str))=vH:=by decide):PE X (.Name x pos) (tC v):=
 λ_ _ _ H _ I h=>ZEU I hg hm ⟨v,H,I,r,h⟩ hd
theorem ZQA{pos:Pos}(hg:Gl X x)(hm:X.mg x=vF)(hv:xE x=vE u)(r:RelV v u)(hn:x≠"__name__":=by decide)(hd:(x==("__debug__":Str))=vH:=by decide):PE X (.Name x pos) (tC v):=
 λ_ _ _ H _ I h=>Jo I hg hm hv ⟨v,H,I,r,h⟩ hn hd
variable{a b:xX}{ta tb:TE}{pos:Pos}
noncomputable def tB(t:TE):TT:=λσ H Q=>t σ H λx H1=>∃c,x=.bl c/\Q c H1
theorem ZP0{t:TE}(h:PE X e t)(he:∀whole,isTrue e X.env whole=(do let v<-whole;standAt e.pos;holding [v] (truthy v)):=by intro _;rfl):PT X e (tB t):=by intro vD s σ H Q I hw;refine isTrue_plain (thn (h vD s σ H _ I hw) λv s1 ⟨x,H1,I1,r1,q1⟩=>?_) (he _);obtain⟨d,rfl,q⟩:=q1;cases r1;exact v9 ⟨H1,I1,q⟩
variable{tA tB':TT}{rest:List xX}
noncomputable def tAnd(t u:TT):TT:=λσ H Q=>t σ H λc H1=>if c=vG then u σ H1 Q else Q vH H1
noncomputable def tOr(t u:TT):TT:=λσ H Q=>t σ H λc H1=>if c=vG then Q vG H1 else u σ H1 Q
noncomputable def tNot(t:TT):TT:=λσ H Q=>t σ H λc H1=>Q (!c) H1
theorem pw_and1(ha:PT X a tA):PW X (.BoolOp .And [a] pos) tA:=by
 intro wh vD s σ H Q I h;refine isTrue_and (thn (ha vD s σ H Q I h) λc s1 e=>?_);cases c with
 |true=>exact isTrue_and_nil e
 |false=>exact e
theorem pw_or1(ha:PT X a tA):PW X (.BoolOp .Or [a] pos) tA:=by
 intro wh vD s σ H Q I h;refine isTrue_or (thn (ha vD s σ H Q I h) λc s1 e=>?_);cases c with
 |false=>exact isTrue_or_nil e
 |true=>exact e
theorem pw_and(ha:PT X a tA)(hb:PW X (.BoolOp .And (b::rest) pos) tB'):PW X (.BoolOp .And (a::b::rest) pos) (tAnd tA tB'):=by
 intro wh vD s σ H Q I h;refine isTrue_and (thn (ha vD s σ H _ I h) λc s1 ⟨H1,I1,q1⟩=>?_);cases c with
 |true=>exact hb wh vD s1 σ H1 Q I1 q1
 |false=>exact⟨H1,I1,q1⟩
theorem pw_or(ha:PT X a tA)(hb:PW X (.BoolOp .Or (b::rest) pos) tB'):PW X (.BoolOp .Or (a::b::rest) pos) (tOr tA tB'):=by
 intro wh vD s σ H Q I h;refine isTrue_or (thn (ha vD s σ H _ I h) λc s1 ⟨H1,I1,q1⟩=>?_);cases c with
 |true=>exact⟨H1,I1,q1⟩
 |false=>exact hb wh vD s1 σ H1 Q I1 q1
theorem ZOm(ha:PT X a tA):PT X (.UnaryOp .Not a pos) (tNot tA):=by intro vD s σ H Q I h;exact isTrue_not (ha vD s σ H (λc H1=>Q (!c) H1) I h)
noncomputable def ZSD(ta tb:TE):TE:=λσ H Q=>ta σ H λx H1=>∃c,x=.bl c/\if c=vG then tb σ H1 Q else Q (.bl vH) H1
noncomputable def tOrV(ta tb:TE):TE:=λσ H Q=>ta σ H λx H1=>∃c,x=.bl c/\if c=vG then Q (.bl vG) H1 else tb σ H1 Q
theorem ZNh{op}{t:TE}(h:PE X a t):PE X (.BoolOp op [a] pos) t:=λvD s σ H Q I hw=>BoolOp_one (h vD s σ H Q I hw)
theorem ZR7(ha:PE X a ta)(hb:PE X (.BoolOp .And (b::rest) pos) tb):PE X (.BoolOp .And (a::b::rest) pos) (ZSD ta tb):=by
 intro vD s σ H Q I h;refine BoolOp_and (thn (ha vD s σ H _ I h) λv s1 ⟨x,H1,I1,r1,q1⟩=>?_);obtain⟨c,rfl,q1⟩:=q1;cases r1;refine v9 ?_;cases c with
 |true=>exact hb vD s1 σ H1 Q I1 q1
 |false=>exact⟨.bl vH,H1,I1,rfl,q1⟩
theorem ZR0(ha:PE X a ta)(hb:PE X (.BoolOp .Or (b::rest) pos) tb):PE X (.BoolOp .Or (a::b::rest) pos) (tOrV ta tb):=by
 intro vD s σ H Q I h;refine BoolOp_or (thn (ha vD s σ H _ I h) λv s1 ⟨x,H1,I1,r1,q1⟩=>?_);obtain⟨c,rfl,q1⟩:=q1;cases r1;refine v9 ?_;cases c with
 |false=>exact hb vD s1 σ H1 Q I1 q1
 |true=>exact⟨.bl vG,H1,I1,rfl,q1⟩
noncomputable def tIf(t:TT)(ta tb:TE):TE:=λσ H Q=>t σ H λc H1=>if c=vG then ta σ H1 Q else tb σ H1 Q
theorem ZQ7(hc:PT X c tA)(ha:PE X a ta)(hb:PE X b tb):PE X (.IfExp c a b pos) (tIf tA ta tb):=by
 intro vD s σ H Q I h;refine wpAny_IfExp (thn (hc vD s σ H _ I h) λd s1 ⟨H1,I1,q1⟩=>?_);cases d with
 |true=>exact ha vD s1 σ H1 Q I1 q1
 |false=>exact hb vD s1 σ H1 Q I1 q1
end
def SqL(K:PySem.W.Frag)(H:Hp)(a:xZ)(xs:List V):Prop:=
 Rd H a (.lst xs)∨
  ∃(o:Obj)(its:Array xj)(n:Nat),K.lookup a=vE o/\o.cls=.type "list"/\o.dict=vF/\o.data=.seq its n/\its.size<=sizeLine/\Vals xs its.toList
def SqT(K:PySem.W.Frag)(H:Hp)(a:xZ)(xs:List V):Prop:=
 Rd H a (.tup xs)∨
  ∃(o:Obj)(its:Array xj)(n:Nat),K.lookup a=vE o/\o.cls=.type "tuple"/\o.data=.seq its n/\its.size<=sizeLine/\Vals xs its.toList
noncomputable def absV:xj->Option V
 |.none=>vE .non
 |.bool b=>vE (.bl b)
 |.int i _=>vE (.int i)
 |.str x _=>vE (.str x)
 |.bytes b _=>vE (.byt b)
 |.float b _=>vE (.flt b)
 |.ref a=>vE (.ref a)
 |.type n=>vE (.ty n)
 |_=>vF
theorem RelV.abs{x:V}(r:RelV x u):absV u=vE x:=by
 cases x with
 |non=>cases r;rfl
 |bl _=>cases r;rfl
 |int _=>obtain⟨t,rfl⟩:=r;rfl
 |str _=>obtain⟨t,rfl⟩:=r;rfl
 |byt _=>obtain⟨t,rfl⟩:=r;rfl
 |flt _=>obtain⟨t,rfl⟩:=r;rfl
 |ref _=>cases r;rfl
 |ty _=>cases r;rfl
theorem RelV.inj{x:V}(r:RelV x u)(q:RelV y u):x=y:=Option.some.inj (r.abs.symm.trans q.abs)
theorem Vals.inj:∀{xs ys:List V}{us:List xj},Vals xs us->Vals ys us->xs=ys
 |_,_,_,.nil,.nil=>rfl
 |_,_,_,.cons r t,.cons r' t'=>by rw[r.inj r',Vals.inj t t']
section
variable{X:Cx}{vD:List (xZ×Obj)}{σ:St}{H:Hp}{s:xq}{a:xZ}{xs ys:List V}
theorem SqL.of(h:H a=vE (.lst xs)):SqL K H a xs:=.inl (.inl h)
theorem SqT.of(h:H a=vE (.tup xs)):SqT K H a xs:=.inl (.inl h)
theorem Inv.list(I:Inv X vD σ H s)(h:SqL X.K H a xs):∃its:List xj,Vals xs its/\PlainL s.heap a its.toArray/\xs.length<=sizeLine:=by
 rcases h with h|⟨o,its,n,hk,hc,hd,hs,hz,r⟩
 ·obtain⟨z,its,n,r,e⟩:=h.ok I.hok;exact⟨its,r,⟨_,n,e,rfl,rfl,rfl⟩,z⟩
 ·refine⟨its.toList,r,⟨o,n,I.kIn a o hk,hc,hd,by simpa using hs⟩,?_⟩;have e:=r.length;simp only[qw]at e;lia
theorem Inv.tuple(I:Inv X vD σ H s)(h:SqT X.K H a xs):∃its:List xj,Vals xs its/\IsTup s.heap a its.toArray/\xs.length<=sizeLine:=by
 rcases h with h|⟨o,its,n,hk,hc,hs,hz,r⟩
 ·obtain⟨z,its,r,p⟩:=h.ok I.hok;exact⟨its,r,p,z⟩
 ·refine⟨its.toList,r,⟨o,I.kIn a o hk,hc,n,by simpa using hs⟩,?_⟩;have e:=r.length;simp only[qw]at e;lia
theorem Inv.ZCV(I:Inv X vD σ H s)(h:SqL X.K H a xs)(h':SqL X.K H a ys):xs=ys:=by
 obtain⟨its,r,⟨o,n,e,_,_,d⟩,_⟩:=I.list h;obtain⟨its',r',⟨o',n',e',_,_,d'⟩,_⟩:=I.list h';rw[e]at e';cases e';rw[d]at d';injection d' with d1 _
 have:its=its':=by simpa using congrArg Array.toList d1
 subst this;exact r.inj r'
theorem Inv.ZBh(I:Inv X vD σ H s)(h:SqT X.K H a xs)(h':SqT X.K H a ys):xs=ys:=by
 obtain⟨its,r,⟨o,e,_,n,d⟩,_⟩:=I.tuple h;obtain⟨its',r',⟨o',e',_,n',d'⟩,_⟩:=I.tuple h';rw[e]at e';cases e';rw[d]at d';injection d' with d1 _
 have:its=its':=by simpa using congrArg Array.toList d1
 subst this;exact r.inj r'
end
noncomputable abbrev Cx.wish(X:Cx)(E:xj->xq->Prop):Cx:={X with xe:=E}
noncomputable abbrev Cx.nox(X:Cx):Cx:=X.wish λ_ _=>False
theorem Cx.Ok.wish(ok:X.Ok)(E:xj->xq->Prop):(X.wish E).Ok:=
 ⟨ok.mod,ok.kind,ok.glob,ok.blt,ok.above,ok.inj,ok.has,ok.cab,ok.hd,ok.frames,ok.stk,ok.exf,ok.bs,ok.bsz,ok.noex,ok.exfs,ok.funs,ok.frf⟩
theorem Cx.Ok.unwish(ok:(X.wish E).Ok):X.Ok:=
 ⟨ok.mod,ok.kind,ok.glob,ok.blt,ok.above,ok.inj,ok.has,ok.cab,ok.hd,ok.frames,ok.stk,ok.exf,ok.bs,ok.bsz,ok.noex,ok.exfs,ok.funs,ok.frf⟩
section
variable{X:Cx}{vD:List (xZ×Obj)}{σ:St}{H:Hp}{s:xq}{E:xj->xq->Prop}
theorem Inv.wish(I:Inv X vD σ H s)(E:xj->xq->Prop):Inv (X.wish E) vD σ H s:=⟨I.ok.wish E,I.os,I.bare,I.base,I.loc,I.cell,I.free,I.Jr,I.pin,I.hok,I.len⟩
theorem Inv.unwish(I:Inv (X.wish E) vD σ H s):Inv X vD σ H s:=⟨I.ok.unwish,I.os,I.bare,I.base,I.loc,I.cell,I.free,I.Jr,I.pin,I.hok,I.len⟩
theorem SP.unwish{D:Ends}{f:Flow}{s':xq}(h:SP (X.wish E) vD D f s'):SP X vD D f s':=by
 cases f with
 |next=>obtain⟨σ',H',I,q⟩:=h;exact⟨σ',H',I.unwish,q⟩
 |brk=>obtain⟨σ',H',I,q⟩:=h;exact⟨σ',H',I.unwish,q⟩
 |cont=>obtain⟨σ',H',I,q⟩:=h;exact⟨σ',H',I.unwish,q⟩
 |ret u=>obtain⟨v,σ',H',I,r,q⟩:=h;exact⟨v,σ',H',I.unwish,r,q⟩
theorem PSs.nox{st:List xz}{t:TS}(h:PSs X.nox st t):PSs X st t:=λvD s σ H D I hw=>
 v4 (h vD s σ H D (I.wish _) hw) (λ_ _ q=>q.unwish) λ_ _ z=>False.elim z
end
section
variable{X:Cx}{st:xz}{rest:List xz}{t u:TS}{e:xX}{te:TE}{pos:Pos}
noncomputable def ZNi:TS:=λD σ H=>D.nx σ H
noncomputable def tSeq(t u:TS):TS:=λD σ H=>t {D with nx:=u D} σ H
theorem ZNM:PSs X [] ZNi:=λ_ _ σ H _ I h=>wpAny_execs_nil ⟨σ,H,I,h⟩
theorem ZOB(h1:PS X st t)(h2:PSs X rest u):PSs X (st::rest) (tSeq t u):=by
 intro vD s σ H D I h;refine wpAny_execs_cons (thn (h1 vD s σ H {D with nx:=u D} I h) λf s1 q=>?_);cases f with
 |next=>
  obtain⟨σ',H',I',q⟩:=q;exact h2 vD s1 σ' H' D I' q
 |ret v=>exact q
 |brk=>exact q
 |cont=>exact q
theorem ZQy(h1:PS X st t):PSs X [st] t:=by
 intro vD s σ H D I h;refine wpAny_execs_cons (thn (h1 vD s σ H D I h) λf s1 q=>?_);cases f with
 |next=>exact wpAny_execs_nil q
 |ret v=>exact q
 |brk=>exact q
 |cont=>exact q
theorem Inv.quiet(I:Inv X vD σ H s):interactive X.env=vH:=by simp[interactive,I.ok.kind]
noncomputable def ZLd(te:TE):TS:=λD σ H=>te σ H λ_ H1=>D.nx σ H1
theorem ZNv(he:PE X e te)(hs:swapsWith e vF pos.line X.env=pure vH:=by rfl):PS X (.Expr e pos) (ZLd te):=by intro vD s σ H D I h;exact wpAny_Expr_any (thn (he vD s σ H _ I h) λv s1 ⟨x,H1,I1,r1,q1⟩=>⟨σ,H1,I1,q1⟩) I.quiet hs
noncomputable def tRet(te:TE):TS:=λD σ H=>te σ H D.rt
theorem ZN9(he:PE X e te):PS X (.Return (vE e) pos) (tRet te):=by intro vD s σ H D I h;exact wpAny_Return_some (thn (he vD s σ H _ I h) λv s1 ⟨x,H1,I1,r1,q1⟩=>⟨x,σ,H1,I1,r1,q1⟩)
noncomputable def tIfS(c:TT)(t u:TS):TS:=λD σ H=>c σ H λb H1=>if b=vG then t D σ H1 else u D σ H1
theorem ZLn{a b:List xz}{tc:TT}(hc:PT X c tc)(ha:PSs X a t)(hb:PSs X b u):PS X (.If c a b pos) (tIfS tc t u):=by
 intro vD s σ H D I h;refine wpAny_If (thn (hc vD s σ H _ I h) λd s1 ⟨H1,I1,q1⟩=>?_);cases d with
 |true=>exact ha vD s1 σ H1 D I1 q1
 |false=>exact hb vD s1 σ H1 D I1 q1
end
noncomputable abbrev TG:=V->St->Hp->(St->Hp->Prop)->Prop
noncomputable abbrev TGs:=List V->St->Hp->(St->Hp->Prop)->Prop
def PG(X:Cx)(target:xX)(t:TG):Prop:=
 ∀(vD:List (xZ×Obj))(s:xq)(σ:St)(H:Hp)(v:V)(u:xj)(Q:St->Hp->Prop),Inv X vD σ H s->RelV v u->t v σ H Q->
  vY (vZ X.prog X.w) X.A (assign target X.env u) (λ_ s'=>∃σ' H',Inv X vD σ' H' s'/\Q σ' H') X.xe s
def PGs(X:Cx)(ts:List xX)(t:TGs):Prop:=
 ∀(vD:List (xZ×Obj))(s:xq)(σ:St)(H:Hp)(vs:List V)(us:List xj)(Q:St->Hp->Prop),Inv X vD σ H s->Vals vs us->t vs σ H Q->
  vY (vZ X.prog X.w) X.A (assignInOrder ((xk ts X.env).map (·.2)) us) (λ_ s'=>∃σ' H',Inv X vD σ' H' s'/\Q σ' H') X.xe s
noncomputable abbrev TSet:=V->V->V->Hp->(Hp->Prop)->Prop
def PSet(X:Cx)(t:TSet):Prop:=
 ∀(vD:List (xZ×Obj))(s:xq)(σ:St)(H:Hp)(o i v:V)(ov iv u:xj)(Q:Hp->Prop),Inv X vD σ H s->RelV o ov->RelV i iv->RelV v u->t o i v H Q->
  vY (vZ X.prog X.w) X.A (setItem ov iv u) (λ_ s'=>∃H',Inv X vD σ H' s'/\Q H') X.xe s
noncomputable abbrev TIp:=V->V->Hp->VK->Prop
def PIp(X:Cx)(op:Operator)(t:TIp):Prop:=
 ∀(vD:List (xZ×Obj))(s:xq)(σ:St)(H:Hp)(x y:V)(v u:xj)(Q:VK),Inv X vD σ H s->RelV x v->RelV y u->t x y H Q->
  vY (vZ X.prog X.w) X.A (inplaceOp op v u) (EP X vD σ Q) X.xe s
section
variable{X:Cx}{pos:Pos}
noncomputable def ZII(i:Nat):TG:=λv σ H Q=>Q (σ.set i (vE v)) H
theorem ZNs(hN:X.N.Nodup)(hi:X.N[i]?=vE x)(hx:Loc X.env.scope x)(hf:X.fn x=vG∨X.env.scope.names.lookup x=vE .local:=by first|exact .inl rfl|exact .inr rfl|assumption):PG X (.Name x pos) (ZII i):=by intro vD s σ H v u Q I r h;exact wpAny_assign_Name (ZCz I hN hi hx r (λs' I'=>⟨_,H,I',h⟩) hf)
noncomputable def gNil:TGs:=λvs σ H Q=>vs=[]/\Q σ H
noncomputable def ZLr(t:TG)(u:TGs):TGs:=λvs σ H Q=>∃v r,vs=v::r/\t v σ H λσ' H'=>u r σ' H' Q
theorem ZN2:PGs X [] gNil:=by intro vD s σ H vs us Q I r h;obtain⟨e,h⟩:=h;subst e;cases r;exact assignInOrder_nil ⟨σ,H,I,h⟩
theorem ZPK{es:List xX}{t:TG}{u:TGs}(h1:PG X e t)(h2:PGs X es u)
  (hs:(xk (e::es) X.env).map (·.2)=assign e X.env::(xk es X.env).map (·.2):=by rfl):PGs X (e::es) (ZLr t u):=by
 intro vD s σ H vs us Q I r h;obtain⟨v,vr,e1,h⟩:=h;subst e1;cases r with
 |cons r rr=>
  rw[hs];refine assignInOrder_cons (thn (h1 vD s σ H _ _ _ I r h) λ_ s1 ⟨σ1,H1,I1,q1⟩=>?_);exact h2 vD s1 σ1 H1 _ _ Q I1 rr q1
noncomputable def gTup(K:PySem.W.Frag)(n:Nat)(t:TGs):TG:=λv σ H Q=>∃a xs,v=.ref a/\SqT K H a xs/\xs.length=n/\t xs σ H Q
theorem ZN0{es:List xX}{k:Nat}{t:TGs}{n:Nat}(hc:X.calm=vG)(h:PGs X es t)
  (hn:(xk es X.env).length=n:=by rfl) (hst:(xk es X.env).findIdx? (·.1)=vF:=by rfl):PG X (.Tuple es k pos) (gTup X.K n t):=by
 intro vD s σ H v u Q I r hw;obtain⟨a,xs,e1,hq,hl,hw⟩:=hw;subst e1;cases r;obtain⟨its,rv,ht,hz⟩:=I.tuple hq;refine assign_Tuple_tuple (I.ok.hd hc) ht (by simp[hn,<-hl,rv.length]) hst λh' hx=>?_
 have I1:Inv X vD σ H {s with heap:=h'}:=I.kept (t':=s.toks) λb o e=>hx b o (zE (zj e)) e
 exact h vD _ σ H xs _ Q I1 (by simpa using rv) hw
noncomputable def gSub(to ti:TE)(t:TSet):TG:=λv σ H Q=>to σ H λo H1=>ti σ H1 λi H2=>t o i v H2 λH3=>Q σ H3
theorem ZRQ{o i:xX}{to ti:TE}{t:TSet}(ho:PE X o to)(hi:PE X i ti)(hs:PSet X t)
  (ha:∀v,assign (.Subscript o i pos) X.env v=(do
   let ov<-holding [v] (eval o X.env);let iv<-holding [v,ov] (eval i X.env)
   standAt pos
   holding [v,ov,iv] (setItem ov iv v)
   release [v,ov,iv] []):=by intro _;rfl):PG X (.Subscript o i pos) (gSub to ti t):=by
 intro vD s σ H v u Q I r h;rw[ha];refine vz (vk (thn (ho vD s σ H _ I h) λov s1 ⟨x,H1,I1,r1,q1⟩=>?_));refine vz (vk (thn (hi vD s1 σ H1 _ I1 q1) λiv s2 ⟨y,H2,I2,r2,q2⟩=>?_));refine vz (wpAny_standAt (vz (vk (thn (hs vD s2 σ H2 x y v ov iv u _ I2 r1 r2 r q2) λ_ s3 ⟨H3,I3,q3⟩=>?_))));exact wpAny_release ⟨σ,H3,I3,q3⟩
noncomputable def ZBD(te:TE)(g:TG):TS:=λD σ H=>te σ H λx H1=>g x σ H1 D.nx
theorem ZNp{g:TG}(he:PE X e te)(hg:PG X tg g)(hs:swapsWithSole [tg] e pos.line X.env=pure vH:=by rfl)(hw:swappedStores [tg] e X.env=pure vF:=by rfl)
  (h1:(xk [tg] X.env).map (·.2)=[assign tg X.env]:=by rfl):PS X (.Assign [tg] e pos) (ZBD te g):=by
 intro vD s σ H D I h;refine wpAny_Assign_stores (thn (he vD s σ H _ I h) λv s1 ⟨x,H1,I1,r1,q1⟩=>?_) hs hw;rw[h1];exact thn (hg vD s1 σ H1 x v _ I1 r1 q1) λ_ s2 q=>q
theorem ZSM{pos':Pos}(hN:X.N.Nodup)(hi:X.N[i]?=vE x)(hx:Loc X.env.scope x)(he:PE X e te)(hs:swapsWith e (vE (.Name x pos')) pos.line X.env=pure vH:=by rfl)(hf:X.fn x=vG∨X.env.scope.names.lookup x=vE .local:=by first|exact .inl rfl|exact .inr rfl|assumption):
  PS X (.Assign [.Name x pos'] e pos) (ZBD te (ZII i)):=by
 intro vD s σ H D I h;refine wpAny_Assign_Name (thn (he vD s σ H _ I h) λv s1 ⟨y,H1,I1,r1,q1⟩=>?_) hs;exact ZCz I1 hN hi hx r1 (λs2 I2=>⟨_,H1,I2,q1⟩) hf
noncomputable def tAug(i:Nat)(te:TE)(ti:TIp):TS:=λD σ H=>∃x,σ[i]?=vE (vE x)/\te σ H λy H1=>ti x y H1 λz H2=>D.nx (σ.set i (vE z)) H2
theorem ZK4{op:Operator}{ti:TIp}{pos':Pos}(hN:X.N.Nodup)(hi:X.N[i]?=vE x)(hx:Loc X.env.scope x)(he:PE X e te)(ho:PIp X op ti)(hf:X.fn x=vG∨X.env.scope.names.lookup x=vE .local:=by first|exact .inl rfl|exact .inr rfl|assumption):
  PS X (.AugAssign (.Name x pos') op e pos) (tAug i te ti):=by
 intro vD s σ H D I h;obtain⟨v,e1,h⟩:=h;obtain⟨m,hn,hl⟩:=I.loc;have vis:Vis X.env.scope x:=by rcases hx with k|k;exact .inl k;exact .inr (.inl k)
 obtain⟨u,r,l⟩:=hl i x v hi e1 vis;refine wpAny_AugAssign_Name ?_
 have go:vY (vZ X.prog X.w) X.A (eval e X.env) (λw s₂=>vY (vZ X.prog X.w) X.A (inplaceOp op u w) (λr s₃=>vY (vZ X.prog X.w) X.A (storeName X.env x r) (λ_=>SP X vD D .next) X.xe s₃) X.xe s₂) X.xe s:=by
  refine thn (he vD s σ H _ I h) λw s1 ⟨y,H1,I1,r1,q1⟩=>?_
  refine thn (ho vD s1 σ H1 v y u w _ I1 r r1 q1) λz s2 ⟨zv,H2,I2,r2,q2⟩=>?_
  exact ZCz I2 hN hi hx r2 (λs3 I3=>⟨_,H2,I3,q2⟩) hf
 rcases l with⟨hk,hm⟩|⟨hk,c,hc,hcell⟩
 ·exact wpAny_loadName_local I.ok.kind hk hn hm go
 ·rcases hk with hk|hk
  ·exact wpAny_loadName_cell I.ok.kind hk hc hcell go
  ·rcases hx with k|k
   ·have:X.env.scope.names.lookup x=vE .free:=hk;rw[k]at this;cases this
   ·have:X.env.scope.names.lookup x=vE .free:=hk;rw[k]at this;cases this
noncomputable def ipI(f:Int->Int->Int):TIp:=λx y H Q=>∃i j,x=.int i/\y=.int j/\Q (.int (f i j)) H
theorem ZR9:PIp X .Add (ipI λi j=>i+j):=by intro vD s σ H x y v u Q I r1 r2 h;obtain⟨i,j,e1,e2,q⟩:=h;subst e1;subst e2;obtain⟨t,rfl⟩:=r1;obtain⟨t',rfl⟩:=r2;exact iadd_int ⟨.int _,H,I.tok _,⟨_,rfl⟩,q⟩
theorem ZO5:PIp X .Sub (ipI λi j=>i-j):=by intro vD s σ H x y v u Q I r1 r2 h;obtain⟨i,j,e1,e2,q⟩:=h;subst e1;subst e2;obtain⟨t,rfl⟩:=r1;obtain⟨t',rfl⟩:=r2;exact isub_int ⟨.int _,H,I.tok _,⟨_,rfl⟩,q⟩
end
section
variable{X:Cx}{pos:Pos}
def ZML(c:TT)(tb:TS):TS:=λD σ H=>∃W:Nat->St->Hp->Prop,(∃m,W m σ H)/\∀m σ H,W m σ H->
 c σ H λb H1=>if b=vG then∃N:St->Hp->Prop,(∀σ' H',N σ' H'->∃m',m'<m/\W m' σ' H')/\tb {D with nx:=N,ct:=N,bk:=D.nx} σ H1 else D.nx σ H1
theorem ZQw{tc:TT}{tb:TS}(hp:PassesOwn (vZ X.prog X.w) X.A X.env X.xe)(hc:PT X c tc)(hb:PSs X body tb):PS X (.While c body [] pos) (ZML tc tb):=by
 intro vD s σ H D I h;obtain⟨W,⟨m0,w0⟩,turn⟩:=h;refine wpAny_While (codeAny_whileLoop (λn s'=>∃σ' H',Inv X vD σ' H' s'/\W n σ' H') ?_ m0 ⟨σ,H,I,w0⟩);rintro n s1 ⟨σ1,H1,I1,w1⟩;refine v6 hp (thn (hc vD s1 σ1 H1 _ I1 (turn n σ1 H1 w1)) λb s2 ⟨H2,I2,q2⟩=>?_);cases b with
 | true=>
  obtain⟨N,hN,q2⟩:=q2;rw[if_pos rfl];refine v6 hp (thn (hb vD s2 σ1 H2 _ I2 q2) λf s3 q3=>?_);cases f with
  |next=>
   obtain⟨σ3,H3,I3,n3⟩:=q3;obtain⟨m',hm,w3⟩:=hN σ3 H3 n3;exact⟨m',hm,σ3,H3,I3,w3⟩
  |cont=>
   obtain⟨σ3,H3,I3,n3⟩:=q3;obtain⟨m',hm,w3⟩:=hN σ3 H3 n3;exact⟨m',hm,σ3,H3,I3,w3⟩
  |brk=>exact q3
  |ret v=>exact q3
 |false=>
  rw[if_neg zy];exact wpAny_execs_nil ⟨σ1,H2,I2,q2⟩
end
structure It where
 go:Nat->Hp->Prop
 yld:Nat->Hp->V->Hp->Prop
 stop:Nat->Hp->Prop
def FpOk(X:Cx)(vD:List (xZ×Obj))(H:Hp)(b:xZ):Prop:=
 H b=vF/\b≠X.env.locals/\b∉X.fs/\(b∈X.ex∨X.s₀.heap.objs.size<=b)/\(∀x c,X.env.cells.lookup x=vE c->c≠b)/\∀p∈X.pn++vD,p.1≠b
theorem Inv.Ke{H':Hp}(I:Inv X vD σ H s)(hb:s.heap.objs.size<=b)(hn:H' b=vF):FpOk X vD H' b:=by
 refine⟨hn,jJ (zq I.lt hb),I.nofs hb,.inr (zB I.sz hb),λx c e z=>?_,λp hp z=>?_⟩
 ·obtain⟨v,q⟩:=I.cell x c e;exact absurd (zq q.lt (by rw[z];exact hb)) (zT _)
 ·exact absurd (zq (zj (I.pin p hp).1) (by rw[z];exact hb)) (zT _)
structure Turn (P:xK) (w:xw) (K:PySem.W.Frag) (tg:xX) (J:It) (fp:List xZ) (it:xZ) (tn:Nat->Heap->Prop):Prop where
 mem:it∈fp
 obj:∀i h,tn i h->∀b∈fp,∃o,h.get? b=vE o/\∀v,o.data≠ .cell v
 keep:∀i h h',tn i h->(∀b∈fp,∀o,h.get? b=vE o->h'.get? b=vE o)->tn i h'
 item:∀(X:Cx),X.prog=P->X.w=w->X.K=K->X.calm=vG->∀(i:Nat)(vD:List (xZ×Obj))(s:xq)(σ:St)(H:Hp)(E:xj->xq->Prop),Inv X vD σ H s->(∀b∈fp,FpOk X vD H b)->tn i s.heap->J.go i H->
  vY (vZ P w) X.A (pyNext (.ref it)) (λr s1=>∃u,r=vE u/\
   vY (vZ P w) X.A (xU tg (.ref it) u) (λ_ s2=>∃x H',Inv X vD σ H' s2/\RelV x u/\J.yld i H x H'/\tn (i+1) s2.heap/\∀b∈fp,H' b=vF) E s1) E s
 done:∀(X:Cx),X.prog=P->X.w=w->X.K=K->X.calm=vG->∀(i:Nat)(vD:List (xZ×Obj))(s:xq)(σ:St)(H:Hp)(E:xj->xq->Prop),Inv X vD σ H s->(∀b∈fp,FpOk X vD H b)->tn i s.heap->J.stop i H->
  vY (vZ P w) X.A (pyNext (.ref it)) (λr s1=>r=vF/\Inv X vD σ H s1) E s
 self:∀(A:xJ)(i:Nat)(s:xq)(Q:xj->xq->Prop)(E:xj->xq->Prop),tn i s.heap->Q (.ref it) s->vY (vZ P w) A (pyIter (.ref it)) Q E s
noncomputable abbrev TI:=St->Hp->(It->Hp->Prop)->Prop
def PIE(X:Cx)(vD:List (xZ×Obj))(σ:St)(tg:xX)(R:It->Hp->Prop)(itv:xj)(s2:xq):Prop:=
 ∃(it:xZ)(fp:List xZ)(tn:Nat->Heap->Prop)(J:It)(H':Hp),itv=.ref it/\Inv X vD σ H' s2/\Turn X.prog X.w X.K tg J fp it tn/\tn 0 s2.heap/\(∀b∈fp,FpOk X vD H' b)/\R J H'
def PI(X:Cx)(tg iter:xX)(wi:TI):Prop:=
 ∀(vD:List (xZ×Obj))(s:xq)(σ:St)(H:Hp)(R:It->Hp->Prop),Inv X vD σ H s->wi σ H R->
  vY (vZ X.prog X.w) X.A (eval iter X.env) (λv s1=>vY (vZ X.prog X.w) X.A (pyIter v) (PIE X vD σ tg R) X.xe s1) X.xe s
theorem R8{M:Model}{it:xZ}{o:Obj}{n:String}{vs:Array xj}{Q:Unit->xq->Prop}(ho:s.heap.get? it=vE o)(hc:o.cls=.type n)(hd:o.data=.fields vs)
  (hn: ["enumerate","zip","dict_itemiterator","dict_reverseitemiterator","odict_iterator","itertools.zip_longest","itertools.pairwise"].contains n=vH) (hQ:Q () s):vY M A (xU tg (.ref it) u) Q E s:=by
 unfold xU
 cases tg<;>first
  |exact v7 hQ
  | (cases u<;>first
    |exact v7 hQ
    | (
      refine vz (wpAny_load ho ?_);rw[hc,hd];show vY M A (if(["enumerate","zip","dict_itemiterator","dict_reverseitemiterator","odict_iterator","itertools.zip_longest","itertools.pairwise"].contains n&&vs[0]?==vE (vJ _))=vG then _ else _) Q E s;rw[if_neg (by intro h;rw[hn,Bool.false_and]at h;cases h)];exact v7 hQ))
noncomputable def Itl(K:PySem.W.Frag)(a:xZ):It:=
 ⟨λi H=>∃xs x,SqL K H a xs/\xs[i]?=vE x,λi H x H'=>H'=H/\∀xs,SqL K H a xs->xs[i]?=vE x,λi H=>∃xs,SqL K H a xs/\xs.length<=i⟩
noncomputable def Itt(K:PySem.W.Frag)(a:xZ):It:=
 ⟨λi H=>∃xs x,SqT K H a xs/\xs[i]?=vE x,λi H x H'=>H'=H/\∀xs,SqT K H a xs->xs[i]?=vE x,λi H=>∃xs,SqT K H a xs/\xs.length<=i⟩
noncomputable def Itr(lo:Int)(n:Nat):It:=⟨λi _=>i<n,λi H x H'=>H'=H/\x=.int (lo+i),λi _=>n<=i⟩
theorem ZLa(a it:xZ):Turn P w K tg (Itl K a) [it] it (λi h=>h.IsListIter it a i) where
 mem:=by simp
 obj:=λi h st b hb=>by
  have e:b=it:=by simpa using hb
  subst e;obtain⟨o,e,c,d⟩:=st;exact⟨o,e,λv z=>by rw[d]at z;cases z⟩
 keep:=λi h h' st k=>st.at λo e=>k it (by simp) o e
 item:=by
  intro X hP hw hK hc i vD s σ H E I hf st hg;subst hP hw hK;obtain⟨xs,x,hq,hx⟩:=hg;obtain⟨its,rv,p,hz⟩:=I.list hq;obtain⟨u,hu,ru⟩:=rv.get hx;obtain⟨f0,f1,f2,f3,f4,f5⟩:=hf it (by simp);refine wpAny_pyNext_list_item st p.isList (x:=u) (by simpa using hu) λh' st' sb=>?_
  have I1:Inv X vD σ H {s with heap:=h'}:=I.turned (t':=s.toks) (λb o hb e=>(sb.2 b hb).trans e) f0 f1 f3 f4 f5;obtain⟨o,e,c,d⟩:=id st';exact⟨u,rfl,R8 (s:={s with heap:=h'}) e c d (by decide) ⟨x,H,I1,ru,⟨rfl,λys hy=>by rw[I.ZCV hy hq];exact hx⟩,st',λb hb=>(hf b hb).1⟩⟩
 done:=by intro X hP hw hK hc i vD s σ H E I hf st hg;subst hP hw hK;obtain⟨xs,hq,hx⟩:=hg;obtain⟨its,rv,p,hz⟩:=I.list hq;obtain⟨f0,f1,f2,f3,f4,f5⟩:=hf it (by simp);have hl:=rv.length;exact wpAny_pyNext_list_end (I.ok.hd hc) st p.isList (by simp;lia) λh' eb=>⟨rfl,I.turned (t':=s.toks) (λb o hb e=>eb b o hb e) f0 f1 f3 f4 f5⟩
 self:=λ_ _ _ _ _ st h=>wpAny_pyIter_listiter st h
theorem ZQE(a it:xZ):Turn P w K tg (Itt K a) [it] it (λi h=>h.IsTupleIter it a i) where
 mem:=by simp
 obj:=λi h st b hb=>by
  have e:b=it:=by simpa using hb
  subst e;obtain⟨o,e,c,d⟩:=st;exact⟨o,e,λv z=>by rw[d]at z;cases z⟩
 keep:=λi h h' st k=>st.at λo e=>k it (by simp) o e
 item:=by
  intro X hP hw hK hc i vD s σ H E I hf st hg;subst hP hw hK;obtain⟨xs,x,hq,hx⟩:=hg;obtain⟨its,rv,p,hz⟩:=I.tuple hq;obtain⟨u,hu,ru⟩:=rv.get hx;obtain⟨f0,f1,f2,f3,f4,f5⟩:=hf it (by simp)
  refine wpAny_pyNext_tuple_item st (show s.heap.IsTuple a its.toArray from p) (x:=u) (by simpa using hu) λh' st' sb=>?_
  have I1:Inv X vD σ H {s with heap:=h'}:=I.turned (t':=s.toks) (λb o hb e=>(sb.2 b hb).trans e) f0 f1 f3 f4 f5;obtain⟨o,e,c,d⟩:=id st';exact⟨u,rfl,R8 (s:={s with heap:=h'}) e c d (by decide) ⟨x,H,I1,ru,⟨rfl,λys hy=>by rw[I.ZBh hy hq];exact hx⟩,st',λb hb=>(hf b hb).1⟩⟩
 done:=by
  intro X hP hw hK hc i vD s σ H E I hf st hg;subst hP hw hK;obtain⟨xs,hq,hx⟩:=hg;obtain⟨its,rv,p,hz⟩:=I.tuple hq;obtain⟨f0,f1,f2,f3,f4,f5⟩:=hf it (by simp);have hl:=rv.length
  exact wpAny_pyNext_tuple_end (I.ok.hd hc) st (show s.heap.IsTuple a its.toArray from p) (by simp;lia) λh' eb=>⟨rfl,I.turned (t':=s.toks) (λb o hb e=>eb b o hb e) f0 f1 f3 f4 f5⟩
 self:=λ_ _ _ _ _ st h=>wpAny_pyIter_tupleiter st h
theorem ZQD(it:xZ)(lo:Int)(n:Nat):Turn P w K tg (Itr lo n) [it] it (λi h=>IsRangeIter h it (lo+(i:Nat)*1) ((n:Int)-(i:Nat)) 1) where
 mem:=by simp
 obj:=λi h st b hb=>by
  have e:b=it:=by simpa using hb
  subst e;exact⟨_,st,λv z=>by have z':Data.fields _=Data.cell v:=z;cases z'⟩
 keep:=λi h h' st k=>k it (by simp) _ st
 item:=by
  intro X hP hw hK hc i vD s σ H E I hf st hg;subst hP hw hK;obtain⟨f0,f1,f2,f3,f4,f5⟩:=hf it (by simp);have W:=Walks.range (prog:=X.prog) (w:=X.w) (I.ok.hd hc) it lo 1 n;refine W.item i s _ _ hg st λv h' tk hv st' kk=>?_
  obtain⟨t,rfl⟩:=hv;have I1:Inv X vD σ H {s with heap:=h',toks:=tk}:=I.turned (λb o hb e=>kk b o (by simpa using hb) e) f0 f1 f3 f4 f5;refine⟨_,rfl,R8 (s:={s with heap:=h',toks:=tk}) (n:="range_iterator") st' rfl rfl (by decide) ⟨.int (lo+i),H,I1,⟨t,?_⟩,⟨rfl,rfl⟩,st',λb hb=>(hf b hb).1⟩⟩;rw[Int.mul_one]
 done:=by intro X hP hw hK hc i vD s σ H E I hf st hg;subst hP hw hK;obtain⟨f0,f1,f2,f3,f4,f5⟩:=hf it (by simp);exact wpAny_pyNext_range_end (I.ok.hd hc) st (by have:n<=i:=hg;lia) λh' eb=>⟨rfl,I.turned (t':=s.toks) (λb o hb e=>eb b o hb e) f0 f1 f3 f4 f5⟩
 self:=λ_ _ _ _ _ st h=>wpAny_pyIter_rangeiter st h
section
variable{X:Cx}{tg:xX}
def ZOE(K:PySem.W.Frag)(tl:TE):TI:=λσ H R=>tl σ H λx H1=>∃a,x=.ref a/\(∃xs,SqL K H1 a xs)/\R (Itl K a) H1
def iTup(K:PySem.W.Frag)(tl:TE):TI:=λσ H R=>tl σ H λx H1=>∃a,x=.ref a/\(∃xs,SqT K H1 a xs)/\R (Itt K a) H1
theorem ZBm{l:xX}{tl:TE}(hl:PE X l tl):PI X tg l (ZOE X.K tl):=by
 intro vD s σ H R I h;refine thn (hl vD s σ H _ I h) λv s1 ⟨x,H1,I1,r1,q1⟩=>?_
 obtain⟨a,e,⟨xs,hq⟩,q⟩:=q1;subst e;cases r1;obtain⟨its,rv,p,hz⟩:=I1.list hq;refine wpAny_pyIter_list p.isList ?_;refine⟨s1.heap.objs.size,[s1.heap.objs.size],_,_,H1,rfl,I1.kept (t':=s1.toks) λb o e=>zQ _ e,ZLa a _,⟨_,z0 _ rfl,rfl,rfl⟩,λb hb=>?_,q⟩;have e:b=s1.heap.objs.size:=by simpa using hb
 subst e;exact I1.Ke (zK _) (I1.hok.fresh (zK _))
theorem ZMu{l:xX}{tl:TE}(hl:PE X l tl):PI X tg l (iTup X.K tl):=by
 intro vD s σ H R I h;refine thn (hl vD s σ H _ I h) λv s1 ⟨x,H1,I1,r1,q1⟩=>?_
 obtain⟨a,e,⟨xs,hq⟩,q⟩:=q1;subst e;cases r1;obtain⟨its,rv,p,hz⟩:=I1.tuple hq
 refine wpAny_pyIter_tuple (show s1.heap.IsTuple a its.toArray from p) ?_
 refine⟨s1.heap.objs.size,[s1.heap.objs.size],_,_,H1,rfl,I1.kept (t':=s1.toks) λb o e=>zQ _ e,ZQE a _,⟨_,z0 _ rfl,rfl,rfl⟩,λb hb=>?_,q⟩;have e:b=s1.heap.objs.size:=by simpa using hb
 subst e;exact I1.Ke (zK _) (I1.hok.fresh (zK _))
theorem ZRM{R:It->Hp->Prop}{lo hi:Int}{t u v:Tok}{tk:Nat}(I:Inv X vD σ H s)(h1: -(2^62)<=lo)(h2:lo<2^62)(h3: -(2^62)<=hi)(h4:hi<2^62)
  (q:R (Itr lo (hi-lo).toNat) H):vY (vZ X.prog X.w) X.A (pyIter (.ref s.heap.objs.size)) (PIE X vD σ tg R) E {s with heap:=s.heap.push {cls:=.type "range",data:=.fields #[.int lo t,.int hi u,.int 1 v]},toks:=tk}:=by
 refine wpAny_pyIter_range (IsRange.new ..) (small_one h1 h2 h3 h4) ?_;have I1:Inv X vD σ H {s with heap:=s.heap.push {cls:=.type "range",data:=.fields #[.int lo t,.int hi u,.int 1 v]},toks:=tk}:=I.kept λb o e=>zQ _ e
 refine⟨(s.heap.push {cls:=.type "range",data:=.fields #[.int lo t,.int hi u,.int 1 v]}).objs.size,[(s.heap.push {cls:=.type "range",data:=.fields #[.int lo t,.int hi u,.int 1 v]}).objs.size],_,_,H,rfl,
  I1.kept (t':=tk) λb o e=>zQ _ e,ZQD _ lo (hi-lo).toNat,?_,λb hb=>?_,q⟩
 ·have e1:lo+((0:Nat):Int)*1=lo:=by simp
  have e2:(((hi-lo).toNat:Nat):Int)-((0:Nat):Int)=Builtin.Range.rangeSize lo hi 1:=by rw[rangeSize_one];split <;> lia
  show IsRangeIter _ _ (lo+((0:Nat):Int)*1) ((((hi-lo).toNat:Nat):Int)-((0:Nat):Int)) 1;rw[e1,e2];exact z0 _ rfl
 ·have e:b=(s.heap.push {cls:=.type "range",data:=.fields #[.int lo t,.int hi u,.int 1 v]}).objs.size:=by simpa using hb
  subst e;exact I1.Ke (zK _) (I1.hok.fresh (zK _))
def ZOv(ta:TA):TI:=λσ H R=>ta σ H λvs H1=>∃j:Int,vs=[.int j]/\ -(2^62)<=j/\j<2^62/\R (Itr 0 j.toNat) H1
theorem ZSh{a:xX}{ta:TA}{p pos:Pos}(hg:Gl X "range")(hm:X.mg "range"=vF)(ha:PA X [a] ta)(hs:vW [a] X.env=[(vH,eval a X.env)]:=by rfl):PI X tg (.Call (.Name "range" p) [a] [] pos) (ZOv ta):=by
 intro vD s σ H R I h;refine Call_ (Jo I hg hm boot_range (PyProof.Rows.callWith_type1 (thn (ha pos vD s σ H _ I h) λus s1 ⟨vs,H1,I1,r1,q1⟩=>?_) hs rfl));obtain⟨j,e,q1,q2,q⟩:=q1;subst e;cases r1 with
 |cons r rr=>
  cases rr;obtain⟨t,rfl⟩:=r;exact call_range_1 (ZRM I1 (by lia) (by lia) q1 q2 (by simpa using q))
def tFor(wi:TI)(g:TG)(tb:TS):TS:=λD σ H=>wi σ H λJ H1=>∃W:Nat->Nat->St->Hp->Prop,(∃m,W 0 m σ H1)/\∀i m σ H,W i m σ H->
 (J.stop i H/\D.nx σ H)∨(J.go i H/\∃N:St->Hp->Prop,(∀σ' H',N σ' H'->∃m',m'<m/\W (i+1) m' σ' H')/\∀x H',J.yld i H x H'->g x σ H' λσ2 H2=>tb {D with nx:=N,ct:=N,bk:=D.nx} σ2 H2)
noncomputable def Px(fp:List xZ)(h:Heap):List (xZ×Obj):=fp.filterMap λb=>(h.get? b).map λo=>(b,o)
theorem Wx{o:Obj}(hb:b∈fp)(e:h.get? b=vE o):(b,o)∈Px fp h:=List.mem_filterMap.mpr ⟨b,hb,by rw[e];rfl⟩
theorem ZFJ{p:xZ×Obj}(hp:p∈Px fp h):p.1∈fp/\h.get? p.1=vE p.2:=by
 obtain⟨b,hb,e⟩:=List.mem_filterMap.mp hp;cases q:h.get? b with
 |none=>rw[q]at e;cases e
 |some o=>
  rw[q]at e;have e':(b,o)=p:=Option.some.inj e;subst e';exact⟨hb,q⟩
theorem Inv.pinned(I:Inv X vD σ H s)(hf:∀b∈fp,FpOk X vD H b)(ho:∀b∈fp,∃o,s.heap.get? b=vE o/\∀v,o.data≠ .cell v):Inv X (vD++Px fp s.heap) σ H s:=
 I.Ma λp hp=>(j7.mp hp).elim (λz=>I.pin p (zN _ z)) λz=>by obtain⟨hb,e⟩:=ZFJ z;obtain⟨f0,f1,f2,_⟩:=hf p.1 hb;obtain⟨o,e',d⟩:=ho p.1 hb;rw[e]at e';cases e';exact⟨e,f0,f1,f2,d⟩
theorem Inv.unpinned{pl:List (xZ×Obj)}(I:Inv X (vD++pl) σ H s):Inv X vD σ H s:=I.Ma λp hp=>I.pin p (zN _ (jO _ hp))
theorem ZMQ{iter:xX}{wi:TI}{g:TG}{tb:TS}{pos:Pos}(hp:PassesOwn (vZ X.prog X.w) X.A X.env X.xe)(hc:X.calm=vG)(hi:PI X tg iter wi)(hg:PG X tg g)(hb:PSs X body tb)
  (hs:∀x,foldedSetIterable iter X.env x=pure x:=by intro _;rfl):PS X (.For tg iter body [] pos) (tFor wi g tb):=by
 intro vD s σ H D I h;refine wpAny_For (thn (hi vD s σ H _ I h) λv s1 h1=>thn h1 λitv s2 h2=>?_) hs;obtain⟨it,fp,tn,J,H2,e,I2,T,st2,f2,W,⟨m0,w0⟩,turn⟩:=h2;subst e;have stat:∀{H':Hp},(∀b∈fp,H' b=vF)->∀b∈fp,FpOk X vD H' b:=λhn b hb=>⟨hn b hb,(f2 b hb).2⟩
 refine codeAny_forLoop_any (λn s'=>∃i σ' H',Inv X vD σ' H' s'/\tn i s'.heap/\(∀b∈fp,H' b=vF)/\W i n σ' H') ?_ m0 ⟨0,σ,H2,I2,st2,λb hb=>(f2 b hb).1,w0⟩;rintro n s3 ⟨i,σ3,H3,I3,st3,fr3,w3⟩;rcases turn i n σ3 H3 w3 with⟨stop,qn⟩|⟨go,N,hN,step⟩
 ·refine v6 hp (thn (T.done X rfl rfl rfl hc i vD s3 σ3 H3 X.xe I3 (stat fr3) st3 stop) λr s4 ⟨hr,I4⟩=>?_);subst hr;exact wpAny_execs_nil ⟨σ3,H3,I4,qn⟩
 ·refine v6 hp (thn (T.item X rfl rfl rfl hc i vD s3 σ3 H3 X.xe I3 (stat fr3) st3 go) λr s4 ⟨u,hr,h4⟩=>?_);subst hr;refine v6 hp (thn h4 λ_ s5 ⟨x,H5,I5,r5,y5,st5,fr5⟩=>?_);have I5':=I5.pinned (stat fr5) (T.obj _ _ st5);refine v6 hp (thn (hg _ s5 σ3 H5 x u _ I5' r5 (step x H5 y5)) λ_ s6 ⟨σ6,H6,I6,q6⟩=>?_);refine v6 hp (thn (hb _ s6 σ6 H6 _ I6 q6) λf s7 q7=>?_)
  have again:∀{σ7:St}{H7:Hp},Inv X (vD++Px fp s5.heap) σ7 H7 s7->N σ7 H7->∃m,m<n/\∃i σ' H',Inv X vD σ' H' s7/\tn i s7.heap/\(∀b∈fp,H' b=vF)/\W i m σ' H':=λ{σ7 H7}I7 n7=>by obtain⟨m',hm,w7⟩:=hN σ7 H7 n7;refine⟨m',hm,i+1,σ7,H7,I7.unpinned,T.keep _ _ _ st5 λb hb o e=>(I7.pin (b,o) (zN _ (zN _ (Wx hb e)))).1,λb hb=>?_,w7⟩;obtain⟨o,e,d⟩:=T.obj _ _ st5 b hb;exact(I7.pin (b,o) (zN _ (zN _ (Wx hb e)))).2.1
  cases f with
  |next=>obtain⟨σ7,H7,I7,n7⟩:=q7;exact again I7 n7
  |cont=>obtain⟨σ7,H7,I7,n7⟩:=q7;exact again I7 n7
  |brk=>obtain⟨σ7,H7,I7,q7⟩:=q7;exact⟨σ7,H7,I7.unpinned,q7⟩
  |ret v=>obtain⟨x7,σ7,H7,I7,r7,q7⟩:=q7;exact⟨x7,σ7,H7,I7.unpinned,r7,q7⟩
end
noncomputable abbrev R2:=V->V->Hp->VK->Prop
variable{r:R2}
def OpR(X:Cx)(f:xj->xj->Sem xj)(r:R2):Prop:=
 ∀(vD:List (xZ×Obj))(s:xq)(σ:St)(H:Hp)(x y:V)(v u:xj)(Q:VK),Inv X vD σ H s->RelV x v->RelV y u->r x y H Q->
  vY (vZ X.prog X.w) X.A (f v u) (EP X vD σ Q) X.xe s
def UnR(X:Cx)(f:xj->Sem xj)(r:V->Hp->VK->Prop):Prop:=
 ∀(vD:List (xZ×Obj))(s:xq)(σ:St)(H:Hp)(x:V)(v:xj)(Q:VK),Inv X vD σ H s->RelV x v->r x H Q->
  vY (vZ X.prog X.w) X.A (f v) (EP X vD σ Q) X.xe s
def CallR(X:Cx)(f:xj)(r:List V->Hp->VK->Prop):Prop:=
 ∀(vD:List (xZ×Obj))(s:xq)(σ:St)(H:Hp)(xs:List V)(us:List xj)(Q:VK),Inv X vD σ H s->Vals xs us->r xs H Q->
  vY (vZ X.prog X.w) X.A (call f us) (EP X vD σ Q) X.xe s
noncomputable def tOp(r:R2)(ta tb:TE):TE:=λσ H Q=>ta σ H λx H1=>tb σ H1 λy H2=>r x y H2 Q
noncomputable def tUn(r:V->Hp->VK->Prop)(ta:TE):TE:=λσ H Q=>ta σ H λx H1=>r x H1 Q
noncomputable def rI(C:Int->Int->Prop)(g:Int->Int->V):R2:=λx y H Q=>∃i j,x=.int i/\y=.int j/\C i j/\Q (g i j) H
noncomputable def rI0(g:Int->Int->V):R2:=λx y H Q=>∃i j,x=.int i/\y=.int j/\Q (g i j) H
def rU(g:Int->V):V->Hp->VK->Prop:=λx H Q=>∃i,x=.int i/\Q (g i) H
section
variable{X:Cx}{a b c:xX}{ta tb tc:TE}{pos:Pos}
theorem ZDH(ha:PE X a ta)(hb:PE X b tb){R:V->V->Hp->Prop}(I:Inv X vD σ H s)
  (h:ta σ H λx H1=>tb σ H1 λy H2=>R x y H2) {Q:xj->xq->Prop} {f:xj->xj->Sem xj}
  (hf:∀v u s2 x y H2,Inv X vD σ H2 s2->RelV x v->RelV y u->R x y H2->vY (vZ X.prog X.w) X.A (f v u) Q X.xe s2):
  vY (vZ X.prog X.w) X.A (eval a X.env) (λv s₁=>vY (vZ X.prog X.w) X.A (eval b X.env) (λu s₂=>vY (vZ X.prog X.w) X.A (f v u) Q X.xe s₂) X.xe s₁) X.xe s:=by
 refine thn (ha vD s σ H _ I h) λv s1 ⟨x,H1,I1,r1,q1⟩=>?_
 refine thn (hb vD s1 σ H1 _ I1 q1) λu s2 ⟨y,H2,I2,r2,q2⟩=>?_
 exact hf v u s2 x y H2 I2 r1 r2 q2
theorem ZQX{op:Operator}(ho:OpR X (xD op) r)(ha:PE X a ta)(hb:PE X b tb):PE X (.BinOp a op b pos) (tOp r ta tb):=by intro vD s σ H Q I h;exact wpAny_BinOp (ZDH ha hb I h λv u s2 x y H2 I2 rx ry q=>ho vD s2 σ H2 x y v u Q I2 rx ry q)
theorem ZMc{op:UnaryOp}{r:V->Hp->VK->Prop}(ho:UnR X (unaryOp op) r)(ha:PE X a ta):PE X (.UnaryOp op a pos) (tUn r ta):=by intro vD s σ H Q I h;exact UnaryOp_ (thn (ha vD s σ H _ I h) λv s1 ⟨x,H1,I1,r1,q1⟩=>ho vD s1 σ H1 x v Q I1 r1 q1)
theorem opI{C:Int->Int->Prop}{g:Int->Int->Int}
  (rule:∀(i j:Int)(t u:Tok)(s:xq)(Q:xj->xq->Prop)(E:xj->xq->Prop),C i j->Q (.int (g i j) s.toks) {s with toks:=s.toks+1}->vY (vZ X.prog X.w) X.A (f (.int i t) (.int j u)) Q E s):
  OpR X f (rI C λi j=>.int (g i j)):=by
 intro vD s σ H x y v u Q I rx ry h;obtain⟨i,j,rfl,rfl,hc,q⟩:=h;obtain⟨t,rfl⟩:=rx;obtain⟨t',rfl⟩:=ry;exact rule i j t t' s _ _ hc ⟨.int (g i j),H,I.tok _,⟨_,rfl⟩,q⟩
theorem opI0{g:Int->Int->Int}
  (rule:∀(i j:Int)(t u:Tok)(s:xq)(Q:xj->xq->Prop)(E:xj->xq->Prop),Q (.int (g i j) s.toks) {s with toks:=s.toks+1}->vY (vZ X.prog X.w) X.A (f (.int i t) (.int j u)) Q E s):
  OpR X f (rI0 λi j=>.int (g i j)):=by
 intro vD s σ H x y v u Q I rx ry h;obtain⟨i,j,rfl,rfl,q⟩:=h;obtain⟨t,rfl⟩:=rx;obtain⟨t',rfl⟩:=ry;exact rule i j t t' s _ _ ⟨.int (g i j),H,I.tok _,⟨_,rfl⟩,q⟩
theorem Wf{g:Int->Int->Bool}
  (rule:∀(i j:Int)(t u:Tok)(s:xq)(Q:xj->xq->Prop)(E:xj->xq->Prop),Q (.bool (g i j)) s->vY (vZ X.prog X.w) X.A (f (.int i t) (.int j u)) Q E s):
  OpR X f (rI0 λi j=>.bl (g i j)):=by
 intro vD s σ H x y v u Q I rx ry h;obtain⟨i,j,rfl,rfl,q⟩:=h;obtain⟨t,rfl⟩:=rx;obtain⟨t',rfl⟩:=ry;exact rule i j t t' s _ _ ⟨.bl (g i j),H,I,rfl,q⟩
def CPow(i j:Int):Prop:=0<=j/\j<=1000000/\i.natAbs<2^64
def CMul(i j:Int):Prop:=(-(2^64)<i/\i<2^64)∨(-(2^64)<j/\j<2^64)
theorem CMul.ok{i j:Int}(h:CMul i j):IntMulOk i j:=by
 rcases h with⟨h1,h2⟩|⟨h1,h2⟩
 ·exact .of_left (intBits_le_64 h1 h2)
 ·exact .of_right (intBits_le_64 h1 h2)
theorem ZMP:OpR X (xD .Add) (rI0 λi j=>.int (i+j)):=opI0 λ_ _ _ _ _ _ _ q=>add_int q
theorem ZTI:OpR X (xD .Sub) (rI0 λi j=>.int (i-j)):=opI0 λ_ _ _ _ _ _ _ q=>sub_int q
theorem ZMn:OpR X (xD .Mod) (rI (λ_ j=>0<j) λi j=>.int (i%j)):=opI λi j _ _ _ _ _ hc q=>by have h1:(0:Int)<j:=hc;exact mod_int' (by lia) (by rw[Int.fmod_eq_emod_of_nonneg i (by lia)];exact q)
theorem ZSY:OpR X (xD .Pow) (rI CPow λi j=>.int (i^j.toNat)):=opI λ_ _ _ _ _ _ _ hc q=>pow_int_small hc.1 hc.2.1 hc.2.2 q
theorem unI{f:xj->Sem xj}{g:Int->Int}
  (rule:∀(i:Int)(t:Tok)(s:xq)(Q:xj->xq->Prop)(E:xj->xq->Prop),Q (.int (g i) s.toks) {s with toks:=s.toks+1}->vY (vZ X.prog X.w) X.A (f (.int i t)) Q E s):
  UnR X f (rU λi=>.int (g i)):=by
 intro vD s σ H x v Q I rx h;obtain⟨i,rfl,q⟩:=h;obtain⟨t,rfl⟩:=rx;exact rule i t s _ _ ⟨.int (g i),H,I.tok _,⟨_,rfl⟩,q⟩
theorem ZSn:UnR X (unaryOp .USub) (rU λi=>.int (-i)):=unI λ_ _ _ _ _ q=>neg_int q
end
section
variable{X:Cx}{a b c:xX}{ta tb tc:TE}{pos:Pos}
theorem X4{Q:VK}{k k':Bool}(I:Inv X vD σ H s)(q:Q (.bl k) H)(e:k=k'):EP X vD σ Q (.bool k') s:=by subst e;exact⟨.bl k,H,I,rfl,q⟩
theorem ZLm:OpR X (xI .Lt) (rI0 λi j=>.bl (decide (i<j))):=Wf λ_ _ _ _ _ _ _ q=>lt_int q
theorem ZTB:OpR X (xI .LtE) (rI0 λi j=>.bl (decide (i<=j))):=Wf λ_ _ _ _ _ _ _ q=>le_int q
theorem ZO7:OpR X (xI .Gt) (rI0 λi j=>.bl (decide (j<i))):=Wf λ_ _ _ _ _ _ _ q=>gt_int q
theorem ZNV:OpR X (xI .GtE) (rI0 λi j=>.bl (decide (j<=i))):=Wf λ_ _ _ _ _ _ _ q=>ge_int q
theorem ZPn:OpR X (xI .Lt) (λx y H Q=>∃i j,x=.str i/\y=.str j/\Q (.bl (decide (i.cps.toList<j.cps.toList))) H):=by intro vD s σ H x y v u Q I rx ry h;obtain⟨i,j,rfl,rfl,q⟩:=h;obtain⟨t,rfl⟩:=rx;obtain⟨t',rfl⟩:=ry;exact lt_str (X4 I q rfl)
theorem ZMZ:OpR X (xI .Is) (λx y H Q=>y=.non/\Q (.bl (decide (x=.non))) H):=by
 intro vD s σ H x y v u Q I rx ry h;obtain⟨rfl,q⟩:=h;cases ry;refine is_none_gen (X4 I q ?_)
 cases x<;>first
  |(cases rx;rfl)
  |(obtain⟨t,rfl⟩:=rx;rfl)
theorem ZLh:OpR X (xI .IsNot) (λx y H Q=>y=.non/\Q (.bl (!decide (x=.non))) H):=by
 intro vD s σ H x y v u Q I rx ry h;obtain⟨rfl,q⟩:=h;cases ry;refine isnot_none_gen (X4 I q ?_)
 cases x<;>first
  |(cases rx;rfl)
  |(obtain⟨t,rfl⟩:=rx;rfl)
theorem ZPq:OpR X (xI .NotIn) (λx y H Q=>∃i j,x=.str i/\y=.str j/\Q (.bl (!(!(Builtin.Str.occurrences j i 0 j.length 1).isEmpty))) H):=by intro vD s σ H x y v u Q I rx ry h;obtain⟨i,j,rfl,rfl,q⟩:=h;obtain⟨t,rfl⟩:=rx;obtain⟨t',rfl⟩:=ry;exact notIn_str (X4 I q rfl)
theorem OpR.or{r':R2}(h:OpR X f r)(h':OpR X f r'):OpR X f (λx y H Q=>r x y H Q∨r' x y H Q):=by
 intro vD s σ H x y v u Q I rx ry q;rcases q with q|q
 ·exact h vD s σ H x y v u Q I rx ry q
 ·exact h' vD s σ H x y v u Q I rx ry q
theorem nomark(b:xX)(h:op≠ .In:=by decide)(h2:op≠ .NotIn:=by decide):xC op b=vH:=by
 have e1:(op==CmpOp.In)=vH:=by cases op<;>first|rfl|exact absurd rfl h
 have e2:(op==CmpOp.NotIn)=vH:=by cases op<;>first|rfl|exact absurd rfl h2
 cases b<;>simp[xC,e1,e2]
theorem ZQV(ho:OpR X (xI op) r)(ha:PE X a ta)(hb:PE X b tb)(hm:xC op b=vH):PE X (.Compare a [op] [b] pos) (tOp r ta tb):=by intro vD s σ H Q I h;exact wpAny_Compare1 (ZDH ha hb I h λv u s2 x y H2 I2 rx ry q=>ho vD s2 σ H2 x y v u Q I2 rx ry q) hm
noncomputable def Ro(t:TE):TT:=λσ H Q=>t σ H λx H'=>∃k,x=.bl k/\Q k H'
theorem ZFE(ho:OpR X (xI op) r)(ha:PE X a ta)(hb:PE X b tb)(hm:xC op b=vH):PT X (.Compare a [op] [b] pos) (Ro (tOp r ta tb)):=by
 intro vD s σ H Q I h;refine wpAny_isTrue_Compare1 (thn (ha vD s σ H _ I h) λv s1 ⟨x,H1,I1,r1,q1⟩=>thn (hb vD s1 σ H1 _ I1 q1) λu s2 ⟨y,H2,I2,r2,q2⟩=>
  thn (ho vD s2 σ H2 x y v u _ I2 r1 r2 q2) λc s3 ⟨z,H3,I3,r3,k,e,q3⟩=>?_) hm
 subst e;cases r3;exact v9 ⟨H3,I3,q3⟩
noncomputable def ZFN(r r':R2)(ta tb tc:TE):TE:=λσ H Q=>ta σ H λx H1=>tb σ H1 λy H2=>r x y H2 λz H3=>∃k,z=.bl k/\
 (if k=vG then tc σ H3 λw' H4=>r' y w' H4 Q else Q (.bl vH) H3)
theorem ZLF{op':CmpOp}{r':R2}(ho:OpR X (xI op) r)(ho':OpR X (xI op') r')(ha:PE X a ta)(hb:PE X b tb)(hc:PE X c tc)
  (hm:lastMarks [op,op'] [b,c]=vH:=by with_unfolding_all rfl):PT X (.Compare a [op,op'] [b,c] pos) (Ro (ZFN r r' ta tb tc)):=by
 intro vD s σ H Q I h;refine isTrue_chain (thn (ha vD s σ H _ I h) λv s1 ⟨x,H1,I1,r1,q1⟩=>test_link (thn (hb vD s1 σ H1 _ I1 q1) λu s2 ⟨y,H2,I2,r2,q2⟩=>
  thn (ho vD s2 σ H2 x y v u _ I2 r1 r2 q2) λd s3 ⟨z,H3,I3,r3,k,e,q3⟩=>?_)) hm
 subst e;cases r3;refine v9 ?_;cases k with
 |false=>
  obtain⟨k',e',q'⟩:=q3;cases e';exact ite_ff ⟨H3,I3,q'⟩
 |true=>
  refine ite_tt (test_last (thn (hc vD s3 σ H3 _ I3 q3) λw' s4 ⟨z',H4,I4,r4,q4⟩=>thn (ho' vD s4 σ H4 y z' u w' _ I4 r2 r4 q4) λd' s5 ⟨z2,H5,I5,r5,k2,e2,q5⟩=>?_));subst e2;cases r5;exact v9 ⟨H5,I5,q5⟩
theorem line63:(sizeLine:Nat)<2^63:=by rw[vX];decide
theorem ZMt:OpR X (xD .Add) (λx y H Q=>∃i j,x=.str i/\y=.str j/\i.length+j.length<=sizeLine/\Q (.str (i++j)) H):=by intro vD s σ H x y v u Q I rx ry h;obtain⟨i,j,rfl,rfl,hz,q⟩:=h;obtain⟨t,rfl⟩:=rx;obtain⟨t',rfl⟩:=ry;exact add_str (λt' tk=>⟨.str (i++j),H,I.tok _,⟨_,rfl⟩,q⟩) hz
theorem ZOy:OpR X (inplaceOp .Add) (λx y H Q=>∃i j,x=.str i/\y=.str j/\i.length+j.length<=sizeLine/\Q (.str (i++j)) H):=by intro vD s σ H x y v u Q I rx ry h;obtain⟨i,j,rfl,rfl,hz,q⟩:=h;obtain⟨t,rfl⟩:=rx;obtain⟨t',rfl⟩:=ry;exact iadd_str (λt' tk=>⟨.str (i++j),H,I.tok _,⟨_,rfl⟩,q⟩) hz
theorem vals1{x:V}(r:Vals [x] us):∃u,us=[u]/\RelV x u:=by
 cases r with
 |cons r1 r2=>cases r2;exact⟨_,rfl,r1⟩
theorem vals2{x:V}(r:Vals [x,y] us):∃u w',us=[u,w']/\RelV x u/\RelV y w':=by
 cases r with
 |cons r1 r2=>
  cases r2 with
  |cons r3 r4=>cases r4;exact⟨_,_,rfl,r1,r3⟩
theorem ZNz(hc:X.calm=vG):CallR X (.builtin "max") (λxs H Q=>∃i j,xs=[.int i,.int j]/\Q (.int (if j>i then j else i)) H):=by
 intro vD s σ H xs us Q I r h;obtain⟨i,j,rfl,q⟩:=h;obtain⟨u,w',rfl,⟨t,rfl⟩,⟨t',rfl⟩⟩:=vals2 r;refine max_two_ints (I.ok.hd hc) λh' tk k=>⟨_,H,I.kept k,?_,q⟩
 by_cases hj:j>i
 ·rw[if_pos hj,if_pos hj];exact⟨_,rfl⟩
 ·rw[if_neg hj,if_neg hj];exact⟨_,rfl⟩
theorem ZQZ(hc:X.calm=vG):CallR X (.builtin "min") (λxs H Q=>∃i j,xs=[.int i,.int j]/\Q (.int (if j<i then j else i)) H):=by
 intro vD s σ H xs us Q I r h;obtain⟨i,j,rfl,q⟩:=h;obtain⟨u,w',rfl,⟨t,rfl⟩,⟨t',rfl⟩⟩:=vals2 r;refine min_two_ints (I.ok.hd hc) λh' tk k=>⟨_,H,I.kept k,?_,q⟩
 by_cases hj:j<i
 ·rw[if_pos hj,if_pos hj];exact⟨_,rfl⟩
 ·rw[if_neg hj,if_neg hj];exact⟨_,rfl⟩
end
structure ObjM (h:Heap) (x dx C:xZ) (mA:Str->Option xj):Prop where
 obj:h.get? x=vE (PySem.W.instObj C dx)
 ns:h.Ns1 dx mA
 ne:dx≠x
theorem ZS2{dx:xZ}{mA:Str->Option xj}(n:h.Ns1 dx mA):∃od,h.get? dx=vE od/\∀name,PySem.W.lookIn name od=vE (mA name):=by
 obtain⟨o,es,ep,ho,hd,hk,_,hm⟩:=n;refine⟨o,ho,λname=>?_⟩;have e:=hm name;unfold nsFind findBy at e;rw[<-Array.find?_toList]at e;unfold PySem.W.lookIn;rw[hd];dsimp only;split
 ·rename_i y q;rw[q]at e;exact congrArg vE e
 ·rename_i q;rw[q]at e
  have a:es.toList.any (·.refKey)=vH:=by rw[List.any_eq_false];intro y hy;obtain⟨z,t,hkey⟩:=hk y (Array.mem_toList_iff.mp hy);simp[DictEntry.refKey,hkey]
  have a':¬es.toList.any (·.refKey)=vG:=by rw[a];exact zy
  rw[if_neg a'];exact congrArg vE e
theorem ObjM.look{x dx:xZ}{mA:Str->Option xj}(I:ObjM h x dx C mA):∃od,PySem.W.InstAt h x (PySem.W.instObj C dx) C (vE od)/\∀name,PySem.W.lookIn name od=vE (mA name):=
 let⟨od,ho,hl⟩:=ZS2 I.ns
 ⟨od,⟨I.obj,rfl,rfl,ho⟩,hl⟩
section
variable{prog:xK}{w:xw}{A:xJ}{E:xj->xq->Prop}{s:xq}{K:PySem.W.Frag}{x dx C f:xZ}{mA:Str->Option xj}{name:Str}{v:xj}
theorem ZSJ{expr:Bool}(X:K.In s.heap)(I:ObjM s.heap x dx C mA)(hg:PySem.W.plainGet K C name=vG)(hh:PySem.W.hasDictIn K C=vG)
  (ha:PySem.W.findIn K (.ref C) name=vE vF) (hv:mA name=vE v) (hv':PySem.W.handedIn v=vG) (h:Q v {s with toks:=s.toks+1}):
  vY (vZ prog w) A (getAttr (.ref x) name expr) Q E s:=by
 obtain⟨od,J,hl⟩:=I.look;exact PySem.W.get_value X J (PySem.W.plainGet_of hg).1 (PySem.W.findObj_own hh ha rfl (by rw[hl,hv])) hv' h
theorem ZTW{pl:Sem Bool}{Q:xj×List xj->xq->Prop}(X:K.In s.heap)(I:ObjM s.heap x dx C mA)(hg:PySem.W.plainGet K C name=vG)
  (hf:PySem.W.findIn K (.ref C) name=vE (vE (.ref f))) (ht:PySem.W.isFn K (.ref f)=vG) (hv:mA name=vF) (h:Q (.ref f,[.ref x]) s):
  vY (vZ prog w) A (getMethod (.ref x) name pl) Q E s:=by
 obtain⟨od,J,hl⟩:=I.look
 exact PySem.W.method_fn X J (PySem.W.plainGet_of hg).1 (PySem.W.plainGet_of hg).2 hf (beq_iff_eq.mp ht) (by show(PySem.W.lookIn name od).map (·.isSome)=vE vH;rw[hl,hv];rfl) h
theorem ZPu{ns:List Str}{Q:Unit->xq->Prop}(X:K.In s.heap)(I:ObjM s.heap x dx C mA)
  (hs:PySem.W.findIn K (.ref C) "__setattr__"=vE (vE (.builtin "object.__setattr__"))) (hp:PySem.W.plainOver K C=vG) (ht:PySem.W.takerIn K C name=vE vF) (hh:PySem.W.hasDictIn K C=vG)
  (hw:PySem.Within mA ns) (hsz:ns.length<=sizeLine)
  (h:∀h',ObjM h' x dx C (λy=>if y=name then vE v else mA y)->qj dx s.heap h'->Q () {s with heap:=h',toks:=s.toks+2}):
  vY (vZ prog w) A (setAttr (.ref x) name v) Q E s:=by
 obtain⟨od,J,hl⟩:=I.look;refine PySem.W.set_plain X J hs (PySem.W.osa_open (s:={s with toks:=s.toks+1}) (r:=vF) X J hp ht λb=>?_);obtain⟨cd,hc,hd'⟩:=PySem.W.any_some hh;have hx:s.heap.get? x=vE ⟨.ref C,vE dx,.plain,#[]⟩:=I.obj;refine vz (v7 (vz (vz (wpAny_loadPart hx (vz (PySem.W.Looks.here (s:={s with toks:=s.toks+1}) (PySem.W.looks_clsIn X hc) ?_))))))
 rw[hd'];refine v7 (a:=vE dx) (vz (v7 (vz ?_)));refine wpAny_nsSet1 (s:={s with toks:=s.toks+1}) I.ns λh' hn2 hs2=>?_
 obtain⟨oD,esD,epD,hoD,hdD,hcD⟩:=hn2.count (PySem.Within.cons name v hw);refine vz (wpAny_lookBehind hoD (by rw[hdD];exact pastItsLine_dict (zB hcD (by rw[zO];lia))) ?_);exact v7 (h _ ⟨(hs2.2 _ (Ne.symm I.ne)).trans I.obj,hn2,I.ne⟩ hs2)
theorem ZQg{R:Result->xq->Prop}{vs:List xj}(X:K.In s.heap)(hm:PySem.W.makesIn K C=vG)
  (hi:PySem.W.findIn K (.ref C) "__init__"=vE (vE (.ref f))) (hf:PySem.W.typeIn K (.ref f)=vE (.type "function"))
  (h:codeAny (vZ prog w) (A.under (.builtin "type.__call__" ⟨.ref C::vs,kw⟩)) (.call (.ref f) ⟨.ref (s.heap.objs.size+1)::vs,kw⟩) (PySem.W.InitBack (s.heap.objs.size+1) R)
   {s with heap:=(s.heap.push PySem.W.emptyDict).push (PySem.W.instObj C s.heap.objs.size)}):
  codeAny (vZ prog w) A (.call (.ref C) ⟨vs,kw⟩) R s:=by
 obtain⟨hh,g,d,t,os⟩:=s;exact PySem.W.make_core (PySem.W.makes_of X hm) (PySem.W.looks_findIn X hi) (λself=>PySem.W.bind_fn X self hf) (.inl rfl) h
end
noncomputable def Gg(f:Str)(v:V):List (Str×V)->List (Str×V)
 |[]=>[(f,v)]
 |(g,x)::r=>if g=f then(g,v)::r else(g,x)::Gg f v r
theorem ZGc(f g:Str)(v:V):∀fs:List (Str×V),(Gg f v fs).lookup g=if g=f then vE v else fs.lookup g
 |[]=>by
  show qS g [(f,v)]=_;by_cases h:g=f
  ·have hb:(g==f)=vG:=beq_iff_eq.mpr h;simp only[qS,hb,if_pos h]
  ·have hb:(g==f)=vH:=beq_eq_false_iff_ne.mpr h;simp only[qS,hb,if_neg h]
 | (k,x)::r=>by
  have ih:=ZGc f g v r
  rw[show Gg f v ((k,x)::r)=(if k=f then(k,v)::r else(k,x)::Gg f v r)from rfl]
  by_cases hk:k=f
  ·rw[if_pos hk];by_cases h:g=k
   ·have hb:(g==k)=vG:=beq_iff_eq.mpr h;simp only[qS,hb,if_pos (h.trans hk)]
   ·have hb:(g==k)=vH:=beq_eq_false_iff_ne.mpr h;simp only[qS,hb,if_neg (λe:g=f=>h (e.trans hk.symm))]
  ·rw[if_neg hk];by_cases h:g=k
   ·have hb:(g==k)=vG:=beq_iff_eq.mpr h;simp only[qS,hb,if_neg (λe:g=f=>hk (h.symm.trans e))]
   ·have hb:(g==k)=vH:=beq_eq_false_iff_ne.mpr h;simp only[qS,hb];exact ih
theorem ZDd(f:Str)(v:V):∀fs:List (Str×V),f∈(Gg f v fs).map (·.1)/\∀g,g∈fs.map (·.1)->g∈(Gg f v fs).map (·.1)
 |[]=>⟨by simp[Gg],λg h=>by simp at h⟩
 | (k,x)::r=>by
  obtain⟨i1,i2⟩:=ZDd f v r
  rw[show Gg f v ((k,x)::r)=(if k=f then(k,v)::r else(k,x)::Gg f v r)from rfl]
  by_cases hk:k=f
  ·rw[if_pos hk];subst hk;exact⟨by simp,λg h=>by simpa using h⟩
  ·rw[if_neg hk];refine⟨?_,λg h=>?_⟩
   ·rw[zk];exact zX _ i1
   ·rw[zk]at h⊢;rcases zw.mp h with e|e
    ·exact zw.mpr (.inl e)
    ·exact zX _ (i2 g e)
theorem ZGH(f:Str)(v:V):∀fs:List (Str×V),(Gg f v fs).length<=fs.length+1
 |[]=>by simp[Gg]
 |(k,x)::r=>by
  have ih:=ZGH f v r
  rw[show Gg f v ((k,x)::r)=(if k=f then(k,v)::r else(k,x)::Gg f v r)from rfl]
  by_cases hk:k=f
  ·rw[if_pos hk,zO,zO];lia
  ·rw[if_neg hk,zO,zO];lia
theorem RelO.some_of{o:Option xj}(r:RelO (vE v) o):∃u,o=vE u/\RelV v u:=by
 cases o with
 |none=>exact(show False from r).elim
 |some u=>exact⟨u,rfl,r⟩
theorem RelO.none_of{o:Option xj}(r:RelO vF o):o=vF:=by
 cases o with
 |none=>rfl
 |some u=>exact(show False from r).elim
theorem ZO3(r:RelV v u):PySem.W.handedIn u=vG:=by
 cases v with
 |non=>cases(show u=Value.none from r);rfl
 |bl b=>cases(show u=Value.bool b from r);rfl
 |int i=>obtain⟨t,e⟩:=(show∃t,u=Value.int i t from r);cases e;rfl
 |str x=>obtain⟨t,e⟩:=(show∃t,u=Value.str x t from r);cases e;rfl
 |byt b=>obtain⟨t,e⟩:=(show∃t,u=Value.bytes b t from r);cases e;rfl
 |flt b=>obtain⟨t,e⟩:=(show∃t,u=Value.float b t from r);cases e;rfl
 |ref a=>cases(show u=Value.ref a from r);rfl
 |ty n=>cases(show u=Value.type n from r);rfl
section
variable{P:xK}{w:xw}{H H':Hp}{h h':Heap}{a C dx:xZ}{fs fs':List (Str×V)}
theorem ZDk(hok:HOk P w H h)(e:H a=vE (.ins C dx fs)):∃mA,ObjM h a dx C mA/\(∀f,RelO (fs.lookup f) (mA f))/\PySem.Within mA (fs.map (·.1))/\fs.length<=1000/\H dx=vE (.own a):=by
 obtain⟨d,z,ne,ob,mA,n,r,q⟩:=(show ObjOk P w H h a (.ins C dx fs)from hok a _ e)
 exact⟨mA,⟨ob,n,ne⟩,r,q,z,d⟩
end
structure Cls (K:PySem.W.Frag) (C:xZ):Prop where
 pg:PySem.W.plainGet K C Str.empty=vG
 hd:PySem.W.hasDictIn K C=vG
 po:PySem.W.plainOver K C=vG
 sa:PySem.W.findIn K (.ref C) "__setattr__"=vE (vE (.builtin "object.__setattr__"))
theorem Cls.get(c:Cls K C)(f:Str):PySem.W.plainGet K C f=vG:=c.pg
def NoAttr(K:PySem.W.Frag)(C:xZ)(f:Str):Prop:=PySem.W.findIn K (.ref C) f=vE vF
theorem NoAttr.taker{f:Str}(n:NoAttr K C f):PySem.W.takerIn K C f=vE vF:=by
 unfold PySem.W.takerIn
 rw[show PySem.W.findIn K (.ref C) f=vE vF from n]
 rfl
structure Meth (K:PySem.W.Frag) (C:xZ) (m:Str) (f:xZ):Prop where
 at_:PySem.W.findIn K (.ref C) m=vE (vE (.ref f))
 fn:PySem.W.isFn K (.ref f)=vG
 kp:PySem.W.keepIn K (.ref f)=vG
section
variable{X:Cx}{vD:List (xZ×Obj)}{σ:St}{H:Hp}{s:xq}{a C dx:xZ}{fs:List (Str×V)}{f:Str}{v:V}{A:xJ}{E:xj->xq->Prop}
theorem ZNZ{b:Bool}(I:Inv X vD σ H s)(e:H a=vE (.ins C dx fs))(c:Cls X.K C)(n:NoAttr X.K C f)(l:fs.lookup f=vE v)
  (h:∀u s',Inv X vD σ H s'->RelV v u->Q u s'):vY (vZ X.prog X.w) A (getAttr (.ref a) f b) Q E s:=by
 obtain⟨mA,O,r,_,_,_⟩:=ZDk I.hok e;obtain⟨u,hu,ru⟩:=RelO.some_of (v:=v) (o:=mA f) (by rw[<-l];exact r f);exact ZSJ I.kIn O (c.get f) c.hd n hu (ZO3 ru) (h u _ (I.tok _) ru)
theorem ZFR{m:Str}{g:xZ}{pl:Sem Bool}{Q:xj×List xj->xq->Prop}(I:Inv X vD σ H s)(e:H a=vE (.ins C dx fs))(c:Cls X.K C)(k:Meth X.K C m g)(l:fs.lookup m=vF)
  (h:Q (.ref g,[.ref a]) s):vY (vZ X.prog X.w) A (getMethod (.ref a) m pl) Q E s:=by
 obtain⟨mA,O,r,_,_,_⟩:=ZDk I.hok e;have hn:mA m=vF:=RelO.none_of (by rw[<-l];exact r m);exact ZTW I.kIn O (c.get m) k.at_ k.fn hn h
theorem ZPI{Q:Unit->xq->Prop}(I:Inv X vD σ H s)(e:H a=vE (.ins C dx fs))(c:Cls X.K C)(n:NoAttr X.K C f)(hl:fs.length<1000)(ry:RelV y u)
  (h:∀s',Inv X vD σ (upd H a (.ins C dx (Gg f y fs))) s'->Q () s'):vY (vZ X.prog X.w) A (setAttr (.ref a) f u) Q E s:=by
 obtain⟨mA,O,r,wi,_,ho⟩:=ZDk I.hok e
 have hz:(fs.map (·.1)).length<=sizeLine:=by rw[qQ,vX];lia
 refine ZPu I.kIn O c.sa c.po n.taker c.hd wi hz λh' O' sb=>h _ ?_
 have hd:∃o,h'.get? dx=vE o:=let⟨o,_,_,e',_⟩:=O'.ns;⟨o,e'⟩;refine I.write (x:=a) (e:=dx) (by rw[e];exact True.intro) (.inr ho) (λb q hb z=>(sb.2 b hb).trans z) hd ?_;refine⟨by rw[Bd O.ne];exact ho,?_,O.ne,O'.obj,_,O'.ns,λg=>?_,λg hg=>?_⟩
 ·have:=ZGH f y fs;lia
 ·show RelO ((Gg f y fs).lookup g) (if g=f then vE u else mA g);rw[ZGc];by_cases q:g=f
  ·rw[if_pos q,if_pos q];exact ry
  ·rw[if_neg q,if_neg q];exact r g
 ·by_cases q:g=f
  ·rw[q];exact(ZDd f y fs).1
  ·refine(ZDd f y fs).2 g (wi g λz=>hg ?_);show(if g=f then vE u else mA g)=vF;rw[if_neg q];exact z
theorem Inv.made(I:Inv X vD σ H s):Inv X vD σ (upd (upd H s.heap.objs.size (.own (s.heap.objs.size+1))) (s.heap.objs.size+1) (.ins C s.heap.objs.size []))
  {s with heap:=(s.heap.push PySem.W.emptyDict).push (PySem.W.instObj C s.heap.objs.size)}:=by
 have e1:(s.heap.push PySem.W.emptyDict).get? s.heap.objs.size=vE PySem.W.emptyDict:=z0 s.heap rfl;have e2:((s.heap.push PySem.W.emptyDict).push (PySem.W.instObj C s.heap.objs.size)).get? (s.heap.objs.size+1)=vE (PySem.W.instObj C s.heap.objs.size):=by have:=z0 (s.heap.push PySem.W.emptyDict) (o:=PySem.W.instObj C s.heap.objs.size) rfl;rwa[qy]at this
 have e3:(s.heap.push PySem.W.emptyDict).Ns s.heap.objs.size (λ_=>vF):=⟨PySem.W.emptyDict,#[],_,e1,rfl,(λe he=>absurd he (by simp)),λ_=>rfl⟩;have I1:=I.laid (a:=s.heap.objs.size) (o:=.own (s.heap.objs.size+1)) (h':=s.heap.push PySem.W.emptyDict) (t':=s.toks) (λb u q=>zQ _ q) (zK _) ⟨_,e1⟩;refine I1.laid (a:=s.heap.objs.size+1) (o:=.ins C s.heap.objs.size []) (t':=s.toks) (λb u q=>zQ _ q) (Nat.le_of_eq (qy _ _)) ?_
 have ne:s.heap.objs.size≠s.heap.objs.size+1:=zE (zU _);refine⟨by rw[Bd ne,Gj],j8 _,ne,e2,λ_=>vF,(Heap.Ns1.of_empty e3).at λo q=>zQ _ q,λ_=>True.intro,λy hy=>absurd rfl hy⟩
theorem ZLu{prog:xK}{env:Env}{f:Str}{pos:Pos}(hb:xy e f env (eval e env)=eval e env)
  (h:vY (vZ prog w) A (eval e env) (λo s₁=>vY (vZ prog w) A (getAttr o f vG) Q E s₁) E s):vY (vZ prog w) A (eval (.Attribute e f pos) env) Q E s:=
 Attribute_any_ h (by rw[arm_eval_Attribute,hb])
end
def tFld(K:PySem.W.Frag)(ta:TE)(f:Str):TE:=λσ H Q=>ta σ H λx H1=>∃a C dx fs v,x=.ref a/\H1 a=vE (.ins C dx fs)/\Cls K C/\NoAttr K C f/\fs.lookup f=vE v/\Q v H1
def sFld(K:PySem.W.Frag)(ta tv:TE)(f:Str):TS:=λD σ H=>tv σ H λy H1=>ta σ H1 λx H2=>∃a C dx fs,x=.ref a/\H2 a=vE (.ins C dx fs)/\Cls K C/\NoAttr K C f/\fs.length<1000/\
 D.nx σ (upd H2 a (.ins C dx (Gg f y fs)))
section
variable{X:Cx}{o e value:xX}{f:Str}{pos pos' tpos:Pos}{ta tv:TE}
theorem ZRx(he:PE X e ta)(hb:xy e f X.env (eval e X.env)=eval e X.env):PE X (.Attribute e f pos) (tFld X.K ta f):=by intro vD s σ H Q I h;refine ZLu hb (thn (he vD s σ H _ I h) λu s1 ⟨x,H1,I1,rx,a,C,dx,fs,v,ex,ea,c,n,l,q⟩=>?_);subst ex;obtain rfl:u=Value.ref a:=rx;exact ZNZ I1 ea c n l λu' s2 I2 ru=>⟨v,H1,I2,ru,q⟩
theorem ZMv(ha:PE X o ta)(hv:PE X value tv)(hs:swapsWith value (vE (.Attribute o f pos')) pos.line X.env=pure vH):PS X (.Assign [.Attribute o f pos'] value pos) (sFld X.K ta tv f):=by intro vD s σ H D I h;refine plainObj_wpAny_Assign_Attribute (thn (hv vD s σ H _ I h) λu s1 ⟨y,H1,I1,ry,q⟩=>thn (ha vD s1 σ H1 _ I1 q) λov s2 ⟨x,H2,I2,rx,a,C,dx,fs,ex,ea,c,n,l,q2⟩=>?_) hs;subst ex;obtain rfl:ov=Value.ref a:=rx;exact ZPI I2 ea c n l ry λs3 I3=>⟨σ,_,I3,q2⟩
end
section
variable{X:Cx}{vD:List (xZ×Obj)}{σ:St}{H:Hp}{s:xq}{A:xJ}{E:xj->xq->Prop}{Q:xj->xq->Prop}{c:xj}{b:Bool}
end
structure Room (k:Nat) (A:xJ):Prop where
 hd:A.handled=vF
 dp:A.depth+3*k+5<recursionLimit
 un:A.units+16*k+200<cLine
theorem Room.mono{j k:Nat}(r:Room k A)(h:j<=k):Room j A:=⟨r.hd,by have:=r.dp;lia,by have:=r.un;lia⟩
theorem Room.deeper{k:Nat}(r:Room (k+1) A)(env:Env):Room k (A.deeper env):=
 ⟨r.hd,by have:=r.dp;show A.depth+1+3*k+5<_;lia,by have:=r.un;show A.units+3+16*k+200<_;lia⟩
theorem ZNS:(A.under (.builtin "type.__call__" ⟨.ref C::us,kw⟩)).depth=A.depth+1:=by
 first|rfl|simp[Around.under,Code.weight,Code.isCreation,Code.isGuard,Code.isCaller,Code.frames,Code.isFrame,guardIds]
theorem ZQe:(A.under (.builtin "type.__call__" ⟨.ref C::us,kw⟩)).units=A.units+1:=by
 first|rfl|simp[Around.under,Code.cUnits,Code.frames,Code.isFrame]
theorem Room.make{k:Nat}(r:Room (k+1) A)(C:xZ)(us:List xj)(kw:List (Str×xj)):Room k (A.under (.builtin "type.__call__" ⟨.ref C::us,kw⟩)):=
 ⟨r.hd,by have:=r.dp;rw[ZNS];lia,by have:=r.un;rw[ZQe];lia⟩
theorem Room.depth{k:Nat}(r:Room k A):A.depth<recursionLimit:=by have:=r.dp;lia
theorem Room.units{k:Nat}(r:Room k A):A.units+64<cLine:=by have:=r.un;lia
noncomputable def Y4:TA:=λ_ H Q=>Q [] H
noncomputable def ZCX(ta:TE)(tr:TA):TA:=λσ H Q=>ta σ H λx H1=>tr σ H1 λxs H2=>Q (x::xs) H2
section
variable{X:Cx}{e:xX}{es:List xX}{te:TE}{t:TA}{pos:Pos}
theorem ZN5:PA X [] Y4:=λ_ _ _ _ H Q I h=>Calls.spliced_nil ⟨[],H,I,.nil,h⟩
theorem ZLz(ha:PE X e te)(hr:PA X es t)(hs:vW (e::es) X.env=(vH,eval e X.env)::vW es X.env:=by rfl):PA X (e::es) (ZCX te t):=by intro pos vD s σ H Q I h;rw[hs];show vY _ _ (spliced ((vH,eval e X.env)::x0 pos (vW es X.env))) _ _ s;refine Calls.spliced_cons (thn (ha vD s σ H _ I h) λu s1 ⟨x,H1,I1,r1,q1⟩=>?_);exact thn (hr pos vD s1 σ H1 _ I1 q1) λus s2 ⟨xs,H2,I2,r2,q2⟩=>⟨x::xs,H2,I2,.cons r1 r2,q2⟩
def tTup(t:TA):TE:=λσ H Q=>t σ H λxs H1=>xs.length<=sizeLine/\∀p,H1 p=vF->Q (.ref p) (upd H1 p (.tup xs))
def tLst(t:TA):TE:=λσ H Q=>t σ H λxs H1=>xs.length<=sizeLine/\∀p,H1 p=vF->Q (.ref p) (upd H1 p (.lst xs))
theorem ZMz{x1}(h:PA X es t):PE X (.Tuple es x1 pos) (tTup t):=by intro vD s σ H Q I hq;refine wpAny_Tuple_spliced (thn (h pos vD s σ H _ I hq) λus s1 ⟨xs,H1,I1,r,z,q⟩=>⟨by rw[<-r.length];exact z,?_⟩);have hf:H1 s1.heap.objs.size=vF:=I1.hok.fresh (zK _);refine⟨.ref s1.heap.objs.size,upd H1 s1.heap.objs.size (.tup xs),I1.laid (t':=s1.toks) (λb u e=>zQ _ e) (zK _) ?_,rfl,q _ hf⟩;exact⟨z,us,r,⟨_,z0 _ rfl,rfl,_,rfl⟩⟩
theorem ZL4(h:PA X es t):PE X (.List es pos) (tLst t):=by intro vD s σ H Q I hq;refine wpAny_List_spliced (thn (h pos vD s σ H _ I hq) λus s1 ⟨xs,H1,I1,r,z,q⟩=>⟨by rw[<-r.length];exact z,?_⟩);have hf:H1 s1.heap.objs.size=vF:=I1.hok.fresh (zK _);refine⟨.ref s1.heap.objs.size,upd H1 s1.heap.objs.size (.lst xs),I1.laid (t':=s1.toks) (λb u e=>zQ _ e) (zK _) ?_,rfl,q _ hf⟩;exact⟨z,us,0,r,z0 _ rfl⟩
end
noncomputable abbrev Sp:=List V->Hp->VK->XK->Prop
noncomputable abbrev CXT:=List Env->Hp->xq->XK->xj->xq->Prop
structure Env0 (P:xK) (w:xw) (K:PySem.W.Frag) (mg:Str->Option xj) (base:Heap) (A:xJ) (outer:List Env) (s:xq) (H:Hp):Prop where
 frames:A.frames=vE outer
 mod:Mod K mg base
 bs:∀b o,base.get? b=vE o->s.heap.get? b=vE o/\H b=vF
 bsz:base.objs.size<=s.heap.objs.size
 funs:s.heap.FunFrames base outer
 frf:∀b∈frs outer,H b=vF
 hok:HOk P w H s.heap
 bare:AllBare s.gens
def CE(outer:List Env)(P:xK)(w:xw)(H:Hp)(s:xq)(Q:VK)(u:xj)(s':xq):Prop:=
 ∃v H',s'.os=s.os/\AllBare s'.gens/\Un (frs outer) [] H H' s.heap s'.heap/\HOk P w H' s'.heap/\RelV v u/\Q v H'
def CR(CX:CXT)(outer:List Env)(P:xK)(w:xw)(H:Hp)(s:xq)(Q:VK)(E:XK)(r:Result)(s':xq):Prop:=
 match r with
 |.ok (.ret u)=>CE outer P w H s Q u s'
 |.ok _=>False
 |.error e=>CX outer H s E e s'
structure FnOk (P:xK) (w:xw) (K:PySem.W.Frag) (mg:Str->Option xj) (base:Heap) (CX:CXT) (k:Nat) (f:xZ) (fd:xV) (ps:List Str) (sp:Sp):Prop where
 len:∀vs H Q E,sp vs H Q E->vs.length=ps.length
 run:∀(A:xJ)(outer:List Env)(s:xq)(H:Hp)(args:Args)(us:List xj)(vs:List V)(Q:VK)(E:XK),Room k A->Env0 P w K mg base A outer s H->BindsTo s fd args (ps.zip us)->Vals vs us->sp vs H Q E->
  codeAny (vZ P w) A (.call (.ref f) args) (CR CX outer P w H s Q E) s
theorem Env0.make{outer:List Env}(e:Env0 P w K mg base A outer s H)(C:xZ)(us:List xj)(kw:List (Str×xj)):
  Env0 P w K mg base (A.under (.builtin "type.__call__" ⟨.ref C::us,kw⟩)) outer s H:=⟨by first|exact e.frames|(simpa[Around.under,Code.envs,Code.isFrame,pushEnvs]using e.frames),e.mod,e.bs,e.bsz,e.funs,e.frf,e.hok,e.bare⟩
section
variable{X:Cx}{vD:List (xZ×Obj)}{σ:St}{H:Hp}{s s':xq}
theorem Inv.env0(I:Inv X vD σ H s):Env0 X.prog X.w X.K X.mg X.base X.A X.stack s H:=
 ⟨I.ok.frames,I.ok.mod,I.bs,zB I.ok.bsz I.sz,I.stack,I.ZHx,I.hok,I.bare⟩
theorem Inv.after{Q:VK}(I:Inv X vD σ H s)(h:CE X.stack X.prog X.w H s Q u s'):EP X vD σ Q u s':=by obtain⟨v,H',os,bare,un,hok,r,q⟩:=h;obtain⟨hh,g,d,t,os'⟩:=s';obtain rfl:os'=s.os:=os;exact⟨v,H',I.call (h':=hh) (g':=g) (d':=d) (t':=t) (ch:=[]) un hok bare (λb z=>absurd z (by simp)),r,q⟩
end
noncomputable def ZSG(sp:Sp)(dvs:List V)(E:XK)(t:TA):TE:=λσ H Q=>t σ H λvs H1=>sp (vs++dvs) H1 Q E
def ZDZ(C:xZ)(m:Str)(sp:Sp)(dvs:List V)(E:XK)(ta:TE)(t:TA):TE:=λσ H Q=>ta σ H λx H1=>∃a dx fs,x=.ref a/\H1 a=vE (.ins C dx fs)/\fs.lookup m=vF/\
 t σ H1 λvs H2=>sp (x::(vs++dvs)) H2 Q E
def ZS9(C:xZ)(sp:Sp)(dvs:List V)(E:XK)(t:TA):TE:=λσ H Q=>t σ H λvs H1=>∀x dx,H1 x=vF->H1 dx=vF->dx≠x->
 sp (.ref x::(vs++dvs)) (upd (upd H1 dx (.own x)) x (.ins C dx [])) (λv H2=>v=.non/\Q (.ref x) H2) E
def Binds(K:PySem.W.Frag)(fd:xV)(ps:List Str)(ds:List xj):Prop:=
 ∀(s:xq)(us:List xj),K.In s.heap->(us++ds).length=ps.length->BindsTo s fd ⟨us,[]⟩ (ps.zip (us++ds))
theorem Binds.all{fd:xV}{ps:List Str}(h:∀us:List xj,us.length=ps.length->bindArgs fd ⟨us,[]⟩=pure (ps.zip us)):Binds K fd ps []:=λs us _ hl=>by rw[jX]at hl⊢;exact .of_eq (h us hl)
def Passes(CX:CXT)(X:Cx)(E:XK):Prop:=∀(vD:List (xZ×Obj))(σ:St)(H:Hp)(s:xq)(e:xj)(s':xq),Inv X vD σ H s->CX X.stack H s E e s'->X.xe e s'
section
variable{X:Cx}{CX:CXT}{k:Nat}{f C:xZ}{fd:xV}{ps:List Str}{sp:Sp}{dvs:List V}{ds:List xj}{E:XK}{x m:Str}{p pos apos:Pos}{e o:xX}{es:List xX}{ta:TE}{t:TA}
theorem ZCa{Q:VK}(F:FnOk X.prog X.w X.K X.mg X.base CX k f fd ps sp)(hr:Room k X.A)(hb:Binds X.K fd ps ds)(hd:Vals dvs ds)(hx:Passes CX X E)
  (I:Inv X vD σ H s) (r:Vals vs us) (h:sp (vs++dvs) H Q E):vY (vZ X.prog X.w) X.A (call (.ref f) us) (EP X vD σ Q) X.xe s:=by
 have r2:Vals (vs++dvs) (us++ds):=r.append hd;have hl:(us++ds).length=ps.length:=by rw[<-r2.length];exact F.len _ _ _ _ h
 refine wpAny_call (xH (F.run X.A X.stack s H ⟨us,[]⟩ (us++ds) (vs++dvs) Q E hr I.env0 (hb s us I.kIn hl) r2 h) λr s' hq=>?_);cases r with
 |error e=>exact hx vD σ H s e s' I hq
 |ok fl=>
  cases fl with
  |ret u=>exact I.after hq
  |next=>exact False.elim hq
  |brk=>exact False.elim hq
  |cont=>exact False.elim hq
theorem ZMD(F:FnOk X.prog X.w X.K X.mg X.base CX k f fd ps sp)(hr:Room k X.A)(hg:Gl X x)(hm:X.mg x=vE (.ref f))(hk:PySem.W.keepIn X.K (.ref f)=vG)(hb:Binds X.K fd ps ds)(hd:Vals dvs ds)(hx:Passes CX X E)
  (ha:PA X (e::es) t) (hdb:(x==("__debug__":Str))=vH:=by decide) (he:vW (e::es) X.env=(vH,eval e X.env)::vW es X.env:=by rfl) (hpl:(x0 pos (vW es X.env)).any (·.1)=vH:=by rfl):
  PE X (.Call (.Name x p) (e::es) [] pos) (ZSG sp dvs E t):=by
 intro vD s σ H Q I h;refine vq (ZEU I hg hm ?_ hdb);refine PySem.W.callWith_K (h₀:=X.base) I.ok.mod.kin hk (thn (ha pos vD s σ H _ I h) λus s1 ⟨vs,H1,I1,r,q⟩=>⟨I1.kIn,?_⟩) he hpl;exact ZCa F hr hb hd hx I1 r q
theorem ZSL{pl:Sem Bool}(he:PE X o ta)(c:Cls X.K C)(hm:Meth X.K C m f)(F:FnOk X.prog X.w X.K X.mg X.base CX k f fd ps sp)(hr:Room k X.A)(hb:Binds X.K fd ps ds)(hd:Vals dvs ds)(hx:Passes CX X E)(ha:PA X (e::es) t)
  (hst:vW (e::es) X.env=(vH,eval e X.env)::vW es X.env:=by rfl) (hpl:(x0 pos (vW es X.env)).any (·.1)=vH:=by rfl)
  (ht:eval (.Call (.Attribute o m apos) (e::es) [] pos) X.env=(do
   let ov<-eval o X.env
   standAt apos.atName
   let(f,first)<-holding [ov] (getMethod ov m pl)
   callWith pos f first (x0 pos (vW (e::es) X.env)) (xB pos (xT [] X.env))):=by rfl):
  PE X (.Call (.Attribute o m apos) (e::es) [] pos) (ZDZ C m sp dvs E ta t):=by
 intro vD s σ H Q I h;refine PySem.W.methodCall_KW (pl:=pl) (thn (he vD s σ H _ I h) λu s1 ⟨x,H1,I1,rx,a,dx,fs,ex,ea,l,q⟩=>?_) ht;subst ex;obtain rfl:u=Value.ref a:=rx;refine ZFR I1 ea c hm l ?_
 refine PySem.W.callWith_K (first:=[.ref a]) (h₀:=X.base) I.ok.mod.kin hm.kp (thn (ha pos vD s1 σ H1 _ I1 q) λus s2 ⟨vs,H2,I2,r,q2⟩=>⟨I2.kIn,?_⟩) hst hpl
 exact ZCa (us:=.ref a::us) (vs:=.ref a::vs) F hr hb hd hx I2 (.cons rfl r) q2
theorem ZM6{pl:Sem Bool}(he:PE X o ta)(c:Cls X.K C)(hm:Meth X.K C m f)(F:FnOk X.prog X.w X.K X.mg X.base CX k f fd ps sp)(hr:Room k X.A)(hb:Binds X.K fd ps ds)(hd:Vals dvs ds)(hx:Passes CX X E)
  (ht:eval (.Call (.Attribute o m apos) [] [] pos) X.env=(do
   let ov<-eval o X.env
   standAt apos.atName
   let(f,first)<-holding [ov] (getMethod ov m pl)
   callWith pos f first (x0 pos (vW [] X.env)) (xB pos (xT [] X.env))):=by rfl):
  PE X (.Call (.Attribute o m apos) [] [] pos) (ZDZ C m sp dvs E ta Y4):=by
 intro vD s σ H Q I h;refine PySem.W.methodCall_KW (pl:=pl) (thn (he vD s σ H _ I h) λu s1 ⟨x,H1,I1,rx,a,dx,fs,ex,ea,l,q⟩=>?_) ht;subst ex;obtain rfl:u=Value.ref a:=rx;refine ZFR I1 ea c hm l ?_
 exact PySem.W.callWith_K0 (first:=[.ref a]) I1.kIn hm.kp (ZCa (us:=[.ref a]) (vs:=[.ref a]) F hr hb hd hx I1 (.cons rfl .nil) q)
structure Mk (K:PySem.W.Frag) (C f:xZ):Prop where
 makes:PySem.W.makesIn K C=vG
 init:PySem.W.findIn K (.ref C) "__init__"=vE (vE (.ref f))
 fn:PySem.W.isFn K (.ref f)=vG
 kp:PySem.W.keepIn K (.ref C)=vG
theorem ZQn{Q:VK}(M:Mk X.K C f)(F:FnOk X.prog X.w X.K X.mg X.base CX k f fd ps sp)(hr:Room (k+1) X.A)(hb:Binds X.K fd ps ds)(hd:Vals dvs ds)
  (hx:Passes CX X E) (I:Inv X vD σ H s) (r:Vals vs us)
  (h:∀x dx,H x=vF->H dx=vF->dx≠x->sp (.ref x::(vs++dvs)) (upd (upd H dx (.own x)) x (.ins C dx [])) (λv H2=>v=.non/\Q (.ref x) H2) E):
  vY (vZ X.prog X.w) X.A (call (.ref C) us) (EP X vD σ Q) X.xe s:=by
 have hq:=h (s.heap.objs.size+1) s.heap.objs.size (I.hok.fresh (jk _)) (I.hok.fresh (zK _)) (zE (zU _));have I2:=Inv.made (C:=C) I;have r2:Vals (V.ref (s.heap.objs.size+1)::(vs++dvs)) (Value.ref (s.heap.objs.size+1)::(us++ds)):=.cons rfl (r.append hd);have hl:(Value.ref (s.heap.objs.size+1)::us++ds).length=ps.length:=by have e:=r2.length;rw[F.len _ _ _ _ hq]at e;exact e.symm
 refine wpAny_call (ZQg (f:=f) I.kIn M.makes M.init (beq_iff_eq.mp M.fn) (xH (F.run _ X.stack _ _ ⟨Value.ref (s.heap.objs.size+1)::us,[]⟩ (Value.ref (s.heap.objs.size+1)::(us++ds)) _ _ E (hr.make C us [])
  (I2.env0.make C us []) (hb _ (Value.ref (s.heap.objs.size+1)::us) I2.kIn hl) r2 hq) λr s' hq'=>?_))
 cases r with
 |error e=>exact hx vD σ _ _ e s' I2 hq'
 | ok fl=>
  cases fl with
  |ret u=>
   obtain⟨v,H',I3,rv,ev,q3⟩:=I2.after hq';subst ev;exact⟨rv,⟨V.ref (s.heap.objs.size+1),H',I3,rfl,q3⟩⟩
  |next=>exact False.elim hq'
  |brk=>exact False.elim hq'
  |cont=>exact False.elim hq'
theorem ZK8(M:Mk X.K C f)(F:FnOk X.prog X.w X.K X.mg X.base CX k f fd ps sp)(hr:Room (k+1) X.A)(hg:Gl X x)(hm:X.mg x=vE (.ref C))(hb:Binds X.K fd ps ds)(hd:Vals dvs ds)(hx:Passes CX X E)
  (ha:PA X (e::es) t) (hdb:(x==("__debug__":Str))=vH:=by decide) (he:vW (e::es) X.env=(vH,eval e X.env)::vW es X.env:=by rfl) (hpl:(x0 pos (vW es X.env)).any (·.1)=vH:=by rfl):
  PE X (.Call (.Name x p) (e::es) [] pos) (ZS9 C sp dvs E t):=by
 intro vD s σ H Q I h;refine vq (ZEU I hg hm ?_ hdb);refine PySem.W.callWith_K (h₀:=X.base) I.ok.mod.kin M.kp (thn (ha pos vD s σ H _ I h) λus s1 ⟨vs,H1,I1,r,q⟩=>⟨I1.kIn,?_⟩) he hpl;exact ZQn M F hr hb hd hx I1 r q
end
def PK(X:Cx)(kws:List Keyword)(t:TA):Prop:=
 ∀(pos:Pos)(vD:List (xZ×Obj))(s:xq)(σ:St)(H:Hp)(Q:List V->Hp->Prop),Inv X vD σ H s->t σ H Q->vY (vZ X.prog X.w) X.A (evalAll ((xB pos (xT kws X.env)).map (·.2))) (AP X vD σ Q) X.xe s
section
variable{X:Cx}{CX:CXT}{k:Nat}{f C:xZ}{fd:xV}{ps ks:List Str}{sp:Sp}{E:XK}{x m:Str}{p pos apos kpos:Pos}{e o:xX}{es:List xX}{kws:List Keyword}{te ta:TE}{t tk:TA}{nm:Option Str}
theorem ZOg:PK X [] Y4:=λ_ _ _ _ H Q I h=>wpAny_evalAll_nil ⟨[],H,I,.nil,h⟩
theorem ZMS(ha:PE X e te)(hr:PK X kws t):PK X (⟨nm,e,kpos⟩::kws) (ZCX te t):=by
 intro pos vD s σ H Q I h
 show vY _ _ (evalAll ((do let v<-eval e X.env;standAt pos;pure v)::(xB pos (xT kws X.env)).map (·.2))) _ _ s
 refine wpAny_evalAll_cons (vz (thn (ha vD s σ H _ I h) λu s1 ⟨x,H1,I1,r1,q1⟩=>vz (wpAny_standAt (v7 ?_))));exact thn (hr pos vD s1 σ H1 _ I1 q1) λus s2 ⟨xs,H2,I2,r2,q2⟩=>⟨x::xs,H2,I2,.cons r1 r2,q2⟩
variable{g:List xj->List xj->List xj}{gV:List V->List V->List V}
end
structure FnScope (N P:List Str) (sc:xY):Prop where
 kind:sc.kind=.function
 co:sc.isCoroutine=vH
 gen:sc.isGenerator=vH
 nd:N.Nodup
 pre:N.take P.length=P
 par:∀x∈P,sc.names.lookup x=vE .local∨sc.names.lookup x=vE .cell
 nofree:∀y∈sc.names,y.2≠ .free
theorem ZFe:∀{binds:List (Str×xj)}{m:Str->Option xj},(∀v,(x,v)∉binds)->bindL kindOf binds m x=m x
 |[],_,_=>rfl
 | (n,v)::r,m,h=>by
  unfold bindL;rw[ZFe λw hw=>h w (zX _ hw)];split
  ·have:x≠n:=by rintro rfl;exact h v zW
   simp[this]
  ·rfl
theorem ZKm:∀{binds:List (Str×xj)}{m:Str->Option xj},(∀v,(x,v)∉binds)->bindC kindOf binds m x=m x
 |[],_,_=>rfl
 | (n,v)::r,m,h=>by
  unfold bindC;rw[ZKm λw hw=>h w (zX _ hw)];split
  ·rfl
  ·have:x≠n:=by rintro rfl;exact h v zW
   simp[this]
theorem ZHT{v:xj}:∀{P:List Str}{vs:List xj}{i:Nat}{m:Str->Option xj},P.Nodup->P[i]?=vE x->vs[i]?=vE v->kindOf x=vE .local->
  bindL kindOf (P.zip vs) m x=vE v
 |[],_,_,_,_,h,_,_=>by simp at h
 |_::_,[],_,_,_,_,h,_=>by simp at h
 |p::P,w::vs,0,m,nd,h1,h2,hk=>by simp at h1 h2;subst h1;subst h2;show bindL kindOf ((p,w)::P.zip vs) m p=_;unfold bindL;rw[ZFe λv hv=>(qD.mp nd).1 (List.of_mem_zip hv).1,if_pos hk];simp
 |p::P,w::vs,i+1,m,nd,h1,h2,hk=>by show bindL kindOf ((p,w)::P.zip vs) m x=_;unfold bindL;exact ZHT (i:=i) (qD.mp nd).2 (by simpa using h1) (by simpa using h2) hk
theorem ZJt{v:xj}:∀{P:List Str}{vs:List xj}{i:Nat}{m:Str->Option xj},P.Nodup->P[i]?=vE x->vs[i]?=vE v->kindOf x≠vE .local->
  bindC kindOf (P.zip vs) m x=vE v
 |[],_,_,_,_,h,_,_=>by simp at h
 |_::_,[],_,_,_,_,h,_=>by simp at h
 |p::P,w::vs,0,m,nd,h1,h2,hk=>by simp at h1 h2;subst h1;subst h2;show bindC kindOf ((p,w)::P.zip vs) m p=_;unfold bindC;rw[ZKm λv hv=>(qD.mp nd).1 (List.of_mem_zip hv).1,if_neg hk];simp
 |p::P,w::vs,i+1,m,nd,h1,h2,hk=>by show bindC kindOf ((p,w)::P.zip vs) m x=_;unfold bindC;exact ZJt (i:=i) (qD.mp nd).2 (by simpa using h1) (by simpa using h2) hk
noncomputable def start(N:List Str)(vs:List V):St:=vs.map vE++zV (N.length-vs.length) vF
noncomputable def O1(CX:CXT)(P:xK)(w:xw)(K:PySem.W.Frag)(mg:Str->Option xj)(base:Heap)(N:List Str)(qual:Str)(scope:xY)(f:xZ)(cd:xj)(A:xJ)(outer:List Env)(s:xq)(H:Hp)(E:XK):Cx where
 prog:=P
 w:=w
 K:=K
 mg:=mg
 base:=base
 A:=A.deeper (envOfC qual scope s.heap.objs.size f cd)
 N:=N
 s₀:=s
 H₀:=H
 env:=envOfC qual scope s.heap.objs.size f cd
 outer:=outer
 stack:=envOfC qual scope s.heap.objs.size f cd::outer
 ex:=[]
 calm:=vG
 fn:=λ_=>vG
 pn:=[]
 xe:=λe s'=>vY (vZ P w) (A.deeper (envOfC qual scope s.heap.objs.size f cd)) (leaving (envOfC qual scope s.heap.objs.size f cd) e) (λ_ s''=>CX outer H s E e s'') (λe' s''=>CX outer H s E e' s'') s'
theorem ZHj{sc:xY}{n:Nat}(h:sc.names.lookup x=vE .cell):∃c,(cellsFrom n sc.names []).lookup x=vE c:=by have q:=PySem.W.cellsFrom_some sc.names n [] (.inl h);exact qL.mp q
theorem ZOt{CX:CXT}{N ps:List Str}{qual:Str}{scope:xY}{f:xZ}{cd:xj}{outer:List Env}{s1:xq}{E:XK} 
  (S:FnScope N ps scope) (hd:A.handled=vF) (e0:Env0 P w K mg base A outer s H) (hl:vs.length=ps.length) (r:Vals vs us)
  (x:InCallC s s.heap.objs.size (bindL (envOfC qual scope s.heap.objs.size f cd).kindOf (ps.zip us) λ_=>vF) (cellsFrom (s.heap.objs.size+1) scope.names []) (bindC (envOfC qual scope s.heap.objs.size f cd).kindOf (ps.zip us) λ_=>vF) s1):
  Inv (O1 CX P w K mg base N qual scope f cd A outer s H E) [] (start N vs) H s1:=by
 have hpl:ps.length<=N.length:=by have:=congrArg xQ S.pre;rw[j4]at this;lia
 obtain⟨h1,tk,rfl,hk⟩:=x.done
 have noA:∀b:xZ,b∉(O1 CX P w K mg base N qual scope f cd A outer s H E).ex:=λb z=>absurd (show b∈([]:List xZ)from z) (by simp)
 refine⟨⟨e0.mod,S.kind,rfl,rfl,zK _,λy z c h1 h2=>?_,λy hy=>?_,λy c _ h=>?_,λ_=>hd,Around.frames_deeper e0.frames,.inr ⟨rfl,rfl⟩,λb z=>absurd z (noA b),e0.bs,e0.bsz,λb _ _=>noA b,λb z=>absurd z (noA b),e0.funs,e0.frf⟩,
  rfl,e0.bare,Un.kept hk,⟨_,x.toInCall.ns,λi y v h1 h2 h3=>?_⟩,λy c h=>⟨_,x.cell y c h⟩,e0.hok.fresh (zK _),λy c h=>?_,λp hp=>absurd (show p∈([]:List (xZ×Obj))from hp) (by simp),e0.hok.kept hk,?_⟩
 ·exact name_of_addr x.apart (PySem.mem_of_lookup h1) (PySem.mem_of_lookup h2)
 ·have hy:scope.names.lookup y=vE .cell∨scope.names.lookup y=vE .free:=hy;rcases hy with hy|hy
  ·exact ZHj hy
  ·exact absurd rfl (S.nofree _ (PySem.mem_of_lookup hy))
 ·exact Nat.le_of_lt (x.above y c (PySem.mem_of_lookup h))
 ·have hi:i<vs.length:=by
   unfold start at h2;by_cases hi:i<vs.length
   ·exact hi
   ·rw[zG (by simpa using hi)]at h2;rw[qT]at h2
    split at h2<;>cases h2
  have ha:vs[i]?=vE v:=by
   unfold start at h2;rw[zR (by simpa using hi),zx]at h2;cases e:vs[i]? with
   |none=>rw[e]at h2;cases h2
   |some a=>rw[e]at h2;cases h2;rfl
  obtain⟨u,hu,rv⟩:=r.get ha;have hp:ps[i]?=vE y:=by rw[<-S.pre,jY (by lia)];exact h1
  have ndP:ps.Nodup:=by rw[<-S.pre];exact S.nd.sublist (List.take_sublist _ _)
  refine⟨u,rv,?_⟩;rcases S.par y (List.mem_of_getElem? hp)with k|k
  ·exact .inl ⟨k,ZHT ndP hp hu k⟩
  ·obtain⟨c,e⟩:=ZHj (n:=s.heap.objs.size+1) k;refine .inr ⟨.inl k,c,e,?_⟩;have q:=x.cell y c e;rw[ZJt ndP hp hu (by show scope.names.lookup y≠_;rw[k];decide)]at q;exact q
 ·exact e0.hok.fresh (Nat.le_of_lt (x.above y c (PySem.mem_of_lookup h)))
 ·unfold start;show _=N.length;rw[qZ,qQ,jF];lia
theorem ZP1{CX:CXT}{k:Nat}{f:xZ}{name qual:Str}{params:Arguments}{scope:xY}{dV kV doc pm cdv ct oc:xj}{an od:Option xZ}
  {osl:Array (Option xj)} {N ps:List Str} {sp:Sp} (lk:K.lookup f=vE ⟨oc,od,.func (PySem.W.fnOf name qual params body scope dV kV doc pm an cdv ct),osl⟩) (hcd:PySem.W.codeIn K cdv qual=vG) (S:FnScope N ps scope)
  (len:∀vs H Q E,sp vs H Q E->vs.length=ps.length)
  (hbody:∀(A:xJ)(outer:List Env)(s:xq)(H:Hp)(vs:List V)(Q:VK)(E:XK),Room k (A.deeper (envOfC qual scope s.heap.objs.size f cdv))->sp vs H Q E->
   ∃t,PSs (O1 CX P w K mg base N qual scope f cdv A outer s H E) body t/\t {nx:=λ_ H'=>Q .non H',rt:=Q} (start N vs) H):
  FnOk P w K mg base CX (k+1) f (PySem.W.fnOf name qual params body scope dV kV doc pm an cdv ct) ps sp:=by
 refine⟨len,λA outer s H args us vs Q E hr e0 hb r hsp=>?_⟩;have hl:=len _ _ _ _ hsp;have KX:K.In s.heap:=e0.mod.kin.keeps λb o e=>(e0.bs b o e).1
 have lim:s.heap.NoLimit:=e0.mod.nolimit.keeps λb o e=>(e0.bs b o e).1
 have hkind:∀y∈ps.zip us,scope.names.lookup y.1=vE .local∨(scope.names.lookup y.1=vE .cell/\((cellsFrom (s.heap.objs.size+1) scope.names []).lookup y.1).isSome=vG):=λ⟨n,v⟩ hy=>by
  rcases S.par n (List.of_mem_zip hy).1 with q|q
  ·exact .inl q
  ·exact .inr ⟨q,PySem.W.cellsFrom_some _ _ _ (.inl q)⟩
 refine codeAny_call_function hr.depth (KX _ _ lk) rfl S.co S.gen rfl (PySem.W.codeRec_of KX hcd) (hb _ _ _ _ ?_);refine wpAny_newFunctionEnv_cells S.kind hkind λenv he s1 x=>?_
 subst he;refine⟨lim.keeps x.toInCall.keep,codeAny_func ?_⟩;obtain⟨t,ht,hq⟩:=hbody A outer s H vs Q E (hr.deeper _) hsp;have I:Inv (O1 CX P w K mg base N qual scope f cdv A outer s H E) [] (start N vs) H s1:=ZOt S hr.hd e0 hl r x;refine v4 (ht [] s1 (start N vs) H _ I hq) (λfl s' hs=>?_) λe s' hs=>hs
 have fin:∀{σ':St}{H':Hp}{v:V}{u:xj},Inv (O1 CX P w K mg base N qual scope f cdv A outer s H E) [] σ' H' s'->RelV v u->Q v H'->CE outer P w H s Q u s':=
  λ{σ' H' v u}J rv q=>⟨v,H',J.os,J.bare,J.base,J.hok,rv,q⟩
 cases fl with
 |ret u=>
  obtain⟨v,σ',H',J,rv,q⟩:=hs;exact fin J rv q
 |next=>
  obtain⟨σ',H',J,q⟩:=hs;exact fin (v:=V.non) (u:=Value.none) J rfl q
 |brk=>
  obtain⟨_,_,_,q⟩:=hs;exact False.elim q
 |cont=>
  obtain⟨_,_,_,q⟩:=hs;exact False.elim q
section
variable{X:Cx}{x:Str}{p pos:Pos}{e:xX}{es:List xX}{t:TA}{id T:String}{r:List V->Hp->VK->Prop}
noncomputable def tCB(r:List V->Hp->VK->Prop)(t:TA):TE:=λσ H Q=>t σ H λvs H1=>r vs H1 Q
theorem ZLy(hc:CallR X (.builtin id) r)(hg:Gl X x)(hm:X.mg x=vF)(hv:xE x=vE (.builtin id))(ha:PA X (e::es) t)(hn:x≠"__name__":=by decide)(hdb:(x==("__debug__":Str))=vH:=by decide)
  (he:vW (e::es) X.env=(vH,eval e X.env)::vW es X.env:=by rfl) (hpl:(x0 pos (vW es X.env)).any (·.1)=vH:=by rfl):PE X (.Call (.Name x p) (e::es) [] pos) (tCB r t):=by
 intro vD s σ H Q I h;refine vq (Jo I hg hm hv ?_ hn hdb);exact PyProof.Rows.callWith_builtin1 (thn (ha pos vD s σ H _ I h) λus s1 ⟨vs,H1,I1,r1,q1⟩=>hc vD s1 σ H1 vs us Q I1 r1 q1) he hpl
theorem ZQU(hc:CallR X (.type T) r)(hg:Gl X x)(hm:X.mg x=vF)(hv:xE x=vE (.type T))(ha:PA X (e::es) t)(hn:x≠"__name__":=by decide)(hdb:(x==("__debug__":Str))=vH:=by decide)
  (he:vW (e::es) X.env=(vH,eval e X.env)::vW es X.env:=by rfl) (hpl:(x0 pos (vW es X.env)).any (·.1)=vH:=by rfl):PE X (.Call (.Name x p) (e::es) [] pos) (tCB r t):=by
 intro vD s σ H Q I h;refine vq (Jo I hg hm hv ?_ hn hdb);exact PyProof.Rows.callWith_type1 (thn (ha pos vD s σ H _ I h) λus s1 ⟨vs,H1,I1,r1,q1⟩=>hc vD s1 σ H1 vs us Q I1 r1 q1) he hpl
end
end _L
namespace HT
open PySem PyProof.Rows
section
open PySem.SeqAt
open PySem.AutoSeq1 (wpAny_loadPart')
open PySem.MeetsSeq PySem.MeetsSeq2 PySem.MeetsSeq3
end
section
variable{prog:xK}{w:xw}{A:xJ}{E:xj->xq->Prop}{s:xq}
theorem ZP2{t b:xZ}{vs ws:List xj}{Q:xj->xq->Prop}(ht:IsTup s.heap t vs.toArray)(hb:IsTup s.heap b ws.toArray)(hv:vs≠[])
  (h1:ws=[]->Q (.ref t) s) (h2:ws≠[]->Q (.ref s.heap.objs.size) {s with heap:=s.heap.push {cls:=.type "tuple",data:=.seq (vs++ws).toArray}})
  (hsz:vs.length+ws.length<=sizeLine):vY (vZ prog w) A (xD .Add (.ref t) (.ref b)) Q E s:=by
 obtain⟨⟨cls,dd,data,sl⟩,ho,hc,n,hd⟩:=id ht;obtain⟨⟨cls2,dd2,data2,sl2⟩,ho2,hc2,n2,hd2⟩:=id hb;simp only at hc hd hc2 hd2;subst hc hd hc2 hd2;have e:vs.toArray++ws.toArray=(vs++ws).toArray:=by simp
 by_cases hw:ws=[]
 ·exact concat_meets ⟨_,ho,rfl⟩ ⟨_,ho2,rfl⟩ noFill_tuple_add seq_tuple_add PySem.F.slot_tuple_add PySem.F.entry_tuple_add (PySem.F.args_tuple_add_2 _ _)
   (tuple_addW1 t b vs.toArray ws.toArray n n2 dd dd2 sl sl2 (by simpa using hv) (by simp[hw])) ⟨ho,ho2,h1 hw⟩
 ·refine concat_meets ⟨_,ho,rfl⟩ ⟨_,ho2,rfl⟩ noFill_tuple_add seq_tuple_add PySem.F.slot_tuple_add PySem.F.entry_tuple_add (PySem.F.args_tuple_add_2 _ _)
   (tuple_addW2 t b vs.toArray ws.toArray n n2 dd dd2 sl sl2 (by simpa using hv) (by simpa using hw) (by rw[zY,zY];exact hsz)) ⟨ho,ho2,?_⟩
  rw[e];exact h2 hw
noncomputable def sIx(n d:Nat):Option Int->Nat
 |none=>d
 |some v=>if v<0 then(v+(n:Int)).toNat else min v.toNat n
theorem ZEy(n d:Nat)(hd:d<=n)(o:Option Int):sIx n d o<=n:=by
 cases o with
 |none=>exact hd
 |some v=>
  show(if v<0 then(v+(n:Int)).toNat else min v.toNat n)<=n;by_cases hv:v<0
  ·rw[if_pos hv];lia
  ·rw[if_neg hv];exact Nat.min_le_right _ _
theorem ZIj(v:Int)(n d:Nat):(if v<0 then max (v+(n:Int)) 0 else min v (n:Int))=((sIx n d (vE v):Nat):Int):=by
 show(if v<0 then max (v+(n:Int)) 0 else min v (n:Int))=(((if v<0 then(v+(n:Int)).toNat else min v.toNat n):Nat):Int);by_cases hv:v<0
 ·simp only[if_pos hv];lia
 ·simp only[if_neg hv];lia
theorem ZPo(lo hi:Option Int)(n:Nat):Builtin.Slice.sliceAdjust lo hi 1 (n:Int)=(((sIx n 0 lo:Nat):Int),((sIx n n hi:Nat):Int)):=by
 have h1:¬((1:Int)<0):=by lia
 unfold Builtin.Slice.sliceAdjust;simp only[h1,if_false];refine Prod.ext ?_ ?_
 ·cases lo with
  |none=>rfl
  |some v=>exact ZIj v n 0
 ·cases hi with
  |none=>rfl
  |some v=>exact ZIj v n n
theorem ZOJ(i j:Nat):Builtin.Slice.slicePlaces (i:Int) (j:Int) 1=j-i:=by
 unfold Builtin.Slice.slicePlaces;have h1:(1:Int)>0:=by lia
 simp only[h1,if_true,Int.ediv_one]
 split <;> lia
theorem ZJ3{v:xj}{o:Option Int}{Q:Option Int->xq->Prop}(p:IsPart v o)(h:Q o s):vY (vZ prog w) A (Builtin.Slice.slicePartIndex v) Q E s:=by
 cases p with
 |none=>exact slicePart_none h
 |int i t=>exact slicePart_int h
theorem ZG8{sl:xZ}{vl vu:xj}{lo hi:Option Int}{n:Nat}{Q:Int×Int×Nat->xq->Prop}(hs:s.heap.IsSliceOf sl vl vu .none)(pl:IsPart vl lo)(pu:IsPart vu hi)
  (h:Q (((sIx n 0 lo:Nat):Int),1,sIx n n hi-sIx n 0 lo) s):vY (vZ prog w) A (Builtin.Slice.sliceApplied (.ref sl) (pure (n:Int))) Q E s:=by
 obtain⟨os,hos,hcs,hds⟩:=id hs;unfold Builtin.Slice.sliceApplied Builtin.Slice.sliceFields;refine vz (vz (vv hos hds (x:=vl) rfl (vz (vv hos hds (x:=vu) rfl (vz (vv hos hds (x:=.none) rfl (v7 ?_)))))));refine vz (slicePart_none ?_);show vY _ _ (if((1:Int)==0)=vG then _ else _) _ _ s;rw[if_neg (by decide)];refine vz (ZJ3 pl (vz (ZJ3 pu (vz (v7 ?_)))))
 show vY _ _ (match Builtin.Slice.sliceAdjust lo hi 1 (n:Int)with |(lo,hi)=>pure (lo,(1:Int),Builtin.Slice.slicePlaces lo hi 1)) _ _ s
 rw[ZPo lo hi n];show vY _ _ (pure (((sIx n 0 lo:Nat):Int),(1:Int),Builtin.Slice.slicePlaces ((sIx n 0 lo:Nat):Int) ((sIx n n hi:Nat):Int) 1)) _ _ s;rw[ZOJ];exact v7 h
theorem ZPs(xs:Array xj)(i k:Nat):((zZ k).filterMap λ(m:Nat)=>xs[((i:Int)+(m:Int)*1).toNat]?).toArray=((xs.toList.drop i).take k).toArray:=by
 have e:(λ(m:Nat)=>xs[((i:Int)+(m:Int)*1).toNat]?)=λm=>xs[i+m]? :=by
  funext m;have:((i:Int)+(m:Int)*1).toNat=i+m:=by lia
  rw[this]
 rw[e];have:=pick_run xs i k;rw[qX]at this;have e2:((λx=>xs[x]?) ∘ λx=>i+x)=λm=>xs[i+m]? :=rfl
 rw[e2]at this;rw[this]
theorem ZSq{t sl:xZ}{items:Array xj}{vl vu:xj}{lo hi:Option Int}{Q:xj->xq->Prop}(ht:IsTup s.heap t items)(hs:s.heap.IsSliceOf sl vl vu .none)(pl:IsPart vl lo)(pu:IsPart vu hi)
  (hw:¬(sIx items.size 0 lo=0/\sIx items.size items.size hi=items.size))
  (h:Q (.ref s.heap.objs.size) {s with heap:=s.heap.push {cls:=.type "tuple",data:=.seq ((items.toList.drop (sIx items.size 0 lo)).take (sIx items.size items.size hi-sIx items.size 0 lo)).toArray}})
  (hsz:items.size<=sizeLine):vY (vZ prog w) A (getItem (.ref t) (.ref sl)) Q E s:=by
 have htake:sizeOk (.seq ((items.toList.drop (sIx items.size 0 lo)).take (sIx items.size items.size hi-sIx items.size 0 lo)).toArray):=by show((items.toList.drop (sIx items.size 0 lo)).take (sIx items.size items.size hi-sIx items.size 0 lo)).toArray.size<=sizeLine;rw[zY,j4,jG,qw];lia
 have hj:sIx items.size items.size hi<=items.size:=ZEy _ _ (zK _) hi;obtain⟨os,hos,hcs,hds⟩:=id hs;have hTs:s.TypeIs (.ref sl) "slice":=⟨os,hos,hcs⟩;unfold getItem
 try with_reducible refine vk ?_
 first|refine vz (v7 ?_)|skip
 refine vz (wpAny_sequenceKey ht.typeIs (by decide) ?_);refine vz (vj (name:=Str.ofString "__getitem__") ht.typeIs PyProof.Rows.slot_tuple_getitem
  (vx PyProof.Rows.slot_tuple_getitem ht.typeIs entry_tuple_getitem ?_ (args_tuple_getitem _ _)))
 show vY _ _ (Builtin.Tuple.tupleItemsOf (.ref t) >>=_) _ _ s;refine vz (tupleItemsOf_ ht ?_);refine vz (wpAny_typeOf hTs ?_);rw[if_pos (by decide)];refine vz (ZG8 hs pl pu ?_);have hno:¬((((sIx items.size 0 lo:Nat):Int)==0&&(1:Int)==1&&(sIx items.size items.size hi-sIx items.size 0 lo)==items.size)=vG):=by intro q;rw[zC,zC]at q;have q1:((sIx items.size 0 lo:Nat):Int)=0:=eq_of_beq q.1.1;have q2:sIx items.size items.size hi-sIx items.size 0 lo=items.size:=eq_of_beq q.2;exact hw ⟨by lia,by lia⟩
 show vY _ _ (if(((sIx items.size 0 lo:Nat):Int)==0&&(1:Int)==1&&(sIx items.size items.size hi-sIx items.size 0 lo)==items.size)=vG then _ else _) _ _ s;rw[if_neg hno,ZPs]
 first
  |exact vz (m:=Builtin.Tuple.tupleExact _) (v5 (v7 ⟨_,rfl,v7 h⟩) htake)
  |exact vz (m:=Builtin.Tuple.tupleExact _) (v5 (vz (v7 (v7 ⟨_,rfl,v7 h⟩))) htake)
  |exact vz (vz (m:=Builtin.Tuple.tupleExact _) (v5 (v7 (v7 ⟨_,rfl,v7 h⟩)) htake))
  |exact vz (vz (m:=Builtin.Tuple.tupleExact _) (v5 (v7 ⟨_,rfl,v7 h⟩) htake))
end
end HT
namespace _L
open PySem PySem.Spec PyProof.Rows
variable{xs:List V}{vD:List (xZ×Obj)}{σ:St}{H:Hp}{s:xq}{its:List xj}
noncomputable abbrev TO:=St->Hp->(Option Int->Hp->Prop)->Prop
def PO(X:Cx)(e:Option xX)(t:TO):Prop:=
 ∀(vD:List (xZ×Obj))(s:xq)(σ:St)(H:Hp)(Q:Option Int->Hp->Prop),Inv X vD σ H s->t σ H Q->
  vY (vZ X.prog X.w) X.A (evalPart e X.env) (λu s'=>∃o H',Inv X vD σ H' s'/\IsPart u o/\Q o H') X.xe s
noncomputable def ZPX:TO:=λ_ H Q=>Q vF H
noncomputable def ZQv(t:TE):TO:=λσ H Q=>t σ H λx H1=>∃i,x=.int i/\Q (vE i) H1
section
variable{X:Cx}{e:xX}{te:TE}{lo hi:Option xX}{tl th:TO}{pos p2:Pos}
theorem ZSs:PO X vF ZPX:=by intro vD s σ H Q I h;rw[evalPart_none];exact v7 ⟨vF,H,I,.none,h⟩
theorem ZQ3(h:PE X e te):PO X (vE e) (ZQv te):=by
 intro vD s σ H Q I hw;rw[evalPart_some];refine thn (h vD s σ H _ I hw) λu s1 ⟨x,H1,I1,r1,q1⟩=>?_
 obtain⟨i,rfl,q⟩:=q1;obtain⟨t,rfl⟩:=r1;exact⟨vE i,H1,I1,.int i t,q⟩
def SlR(X:Cx)(r:V->Option Int->Option Int->Hp->VK->Prop):Prop:=
 ∀(vD:List (xZ×Obj))(s:xq)(σ:St)(H:Hp)(x:V)(v vl vu:xj)(lo hi:Option Int)(sl:xZ)(Q:VK),Inv X vD σ H s->RelV x v->s.heap.IsSliceOf sl vl vu .none->IsPart vl lo->IsPart vu hi->r x lo hi H Q->
  ∃T id,typeLookup (.type T) "__getitem__"=pure (vE (.builtin id))/\s.TypeIs v T/\vY (vZ X.prog X.w) X.A (getItem v (.ref sl)) (EP X vD σ Q) X.xe s
theorem SlR.or{r r':V->Option Int->Option Int->Hp->VK->Prop}(h:SlR X r)(h':SlR X r'):SlR X (λx lo hi H Q=>r x lo hi H Q∨r' x lo hi H Q):=by
 intro vD s σ H x v vl vu lo hi sl Q I rx hs pl pu q;rcases q with q|q
 ·exact h vD s σ H x v vl vu lo hi sl Q I rx hs pl pu q
 ·exact h' vD s σ H x v vl vu lo hi sl Q I rx hs pl pu q
noncomputable def tSl(r:V->Option Int->Option Int->Hp->VK->Prop)(te:TE)(tl th:TO):TE:=λσ H Q=>te σ H λx H1=>tl σ H1 λl H2=>th σ H2 λu H3=>r x l u H3 Q
theorem ZPU{r:V->Option Int->Option Int->Hp->VK->Prop}(hr:SlR X r)(he:PE X e te)(hl:PO X lo tl)(hu:PO X hi th):PE X (.Subscript e (.Slice lo hi vF p2) pos) (tSl r te tl th):=by
 intro vD s σ H Q I h;refine Subscript_ (thn (he vD s σ H _ I h) λv s1 ⟨x,H1,I1,r1,q1⟩=>?_);refine wpAny_Slice (thn (hl vD s1 σ H1 _ I1 q1) λvl s2 ⟨l,H2,I2,pl,q2⟩=>thn (hu vD s2 σ H2 _ I2 q2) λvu s3 ⟨u,H3,I3,pu,q3⟩=>?_);rw[evalPart_none];refine v7 ?_;have I4:Inv X vD σ H3 {s3 with heap:=s3.heap.push {cls:=.type "slice",data:=.fields #[vl,vu,.none]}}:=I3.kept (t':=s3.toks) λb ob q=>zQ _ q
 obtain⟨T,id,hT,ht,hg⟩:=hr vD {s3 with heap:=s3.heap.push {cls:=.type "slice",data:=.fields #[vl,vu,.none]}} σ H3 x v vl vu l u s3.heap.objs.size Q I4 r1 (Heap.IsSliceOf.new ..) pl pu q3;show vY (vZ X.prog X.w) X.A (subscriptTail e (.Slice lo hi vF p2) v (.ref s3.heap.objs.size)) (EP X vD σ Q) X.xe {s3 with heap:=s3.heap.push {cls:=.type "slice",data:=.fields #[vl,vu,.none]}}
 exact tail_any (ops:=[.ref s3.heap.objs.size,v]) ht hT hg (by with_unfolding_all rfl)
def Lr(xs:List V)(lo hi:Option Int):List V:=(xs.drop (HT.sIx xs.length 0 lo)).take (HT.sIx xs.length xs.length hi-HT.sIx xs.length 0 lo)
theorem ZHk(xs:List V)(lo hi:Option Int):(Lr xs lo hi).length<=xs.length:=by unfold Lr;rw[j4,jG];lia
def rSlT(K:PySem.W.Frag):V->Option Int->Option Int->Hp->VK->Prop:=λx lo hi H Q=>∃a xs,x=.ref a/\SqT K H a xs/\
 ¬(HT.sIx xs.length 0 lo=0/\HT.sIx xs.length xs.length hi=xs.length)/\∀p,H p=vF->Q (.ref p) (upd H p (.tup (Lr xs lo hi)))
theorem ZL8:SlR X (rSlT X.K):=by
 intro vD s σ H x v vl vu lo hi sl Q I rx hs pl pu h;obtain⟨a,xs,rfl,hx,hw,q⟩:=h;cases rx;obtain⟨its,r,ht,hz⟩:=I.tuple hx;have hlen:its.toArray.size=xs.length:=by rw[zY];exact r.length.symm
 refine⟨"tuple",_,PyProof.Rows.slot_tuple_getitem.lookup,ht.typeIs,?_⟩;refine HT.ZSq ht hs pl pu (by rw[hlen];exact hw) ?_ (by rw[hlen];exact hz);rw[hlen];refine⟨.ref s.heap.objs.size,_,I.laid (t':=s.toks) (o:=.tup (Lr xs lo hi)) (λb ob q=>zQ _ q) (zK _) ?_,rfl,q _ (I.hok.fresh (zK _))⟩;exact⟨zB (ZHk xs lo hi) hz,_,(r.drop (HT.sIx xs.length 0 lo)).take (HT.sIx xs.length xs.length hi-HT.sIx xs.length 0 lo),IsTup.new _ _⟩
def ZFt(K:PySem.W.Frag):R2:=λx y H Q=>∃a b xs ys,x=.ref a/\y=.ref b/\SqT K H a xs/\SqT K H b ys/\xs≠[]/\xs.length+ys.length<=sizeLine/\
 (ys=[]->Q (.ref a) H)/\(ys≠[]->∀p,H p=vF->Q (.ref p) (upd H p (.tup (xs++ys))))
theorem Vals.ZBt{us:List xj}(r:Vals xs us):us=[]↔xs=[]:=by
 cases r with
 |nil=>simp
 |cons _ _=>simp
theorem ZSS:OpR X (xD .Add) (ZFt X.K):=by
 intro vD s σ H x y v u Q I rx ry h;obtain⟨a,b,xs,ys,rfl,rfl,ha,hb,hx,hz,q1,q2⟩:=h;cases rx;cases ry;obtain⟨its,r1,p1,_⟩:=I.tuple ha;obtain⟨its2,r2,p2,_⟩:=I.tuple hb;refine HT.ZP2 p1 p2 (λz=>hx (r1.ZBt.mp z)) (λz=>⟨.ref a,H,I,rfl,q1 (r2.ZBt.mp z)⟩) (λz=>?_) (by rw[<-r1.length,<-r2.length];exact hz);refine⟨.ref s.heap.objs.size,_,I.laid (t':=s.toks) (o:=.tup (xs++ys)) (λb ob q=>zQ _ q) (zK _) ?_,rfl,q2 (λw=>z (r2.ZBt.mpr w)) _ (I.hok.fresh (zK _))⟩
 exact⟨by rw[qZ];exact hz,_,r1.append r2,IsTup.new _ _⟩
end
noncomputable def ixN(n:Nat)(i:Int):Option Nat:=if 0<=i then(if i<n then vE i.toNat else vF)else if -(n:Int)<=i then vE (i+n).toNat else vF
def atI{α:Type}(xs:List α)(i:Int):Option α:=(ixN xs.length i).bind λj=>xs[j]?
theorem ZJk{n:Nat}{i:Int}{j:Nat}(h:ixN n i=vE j):seqIndex? i n=vE j/\j<n/\ -(n:Int)<=i/\i<n:=by
 unfold ixN at h;by_cases h0:0<=i
 ·rw[if_pos h0]at h;by_cases h1:i<n
  ·rw[if_pos h1]at h;have e:i.toNat=j:=Option.some.inj h;exact⟨by rw[seqIndex_of h0 h1,e],by lia,by lia,h1⟩
  ·rw[if_neg h1]at h;cases h
 ·rw[if_neg h0]at h;by_cases h1: -(n:Int)<=i
  ·rw[if_pos h1]at h;have e:(i+n).toNat=j:=Option.some.inj h;exact⟨by rw[seqIndex_neg (by lia) h1,e],by lia,h1,by lia⟩
  ·rw[if_neg h1]at h;cases h
theorem Xh{α:Type}{xs:List α}{i:Int}{v:α}(h:atI xs i=vE v):∃j,seqIndex? i xs.length=vE j/\xs[j]?=vE v/\j<xs.length/\ -(xs.length:Int)<=i/\i<xs.length:=by
 unfold atI at h;cases e:ixN xs.length i with
 |none=>rw[e]at h;cases h
 |some j=>
  rw[e]at h;obtain⟨h1,h2,h3,h4⟩:=ZJk e;exact⟨j,h1,h,h2,h3,h4⟩
def PlainIx(b:xX):Prop:=∀o i,subscripted b vH o i=operate [o,i] (getItem o i)
def IxR(X:Cx)(r:R2):Prop:=
 ∀(value slice:xX)(vD:List (xZ×Obj))(s:xq)(σ:St)(H:Hp)(x y:V)(v u:xj)(Q:VK),Inv X vD σ H s->RelV x v->RelV y u->r x y H Q->
  subscripted slice vH v u=operate [v,u] (getItem v u)->vY (vZ X.prog X.w) X.A (subscriptTail value slice v u) (EP X vD σ Q) X.xe s
def MtR(X:Cx)(id:String)(r:V->List V->Hp->VK->Prop):Prop:=
 ∀(vD:List (xZ×Obj))(s:xq)(σ:St)(H:Hp)(x:V)(xs:List V)(v:xj)(us:List xj)(Q:VK),Inv X vD σ H s->RelV x v->Vals xs us->r x xs H Q->
  vY (vZ X.prog X.w) X.A (call (.builtin id) (v::us)) (EP X vD σ Q) X.xe s
section
variable{X:Cx}{a b:xX}{ta tb:TE}{pos:Pos}
theorem IxR.or{r r':R2}(h:IxR X r)(h':IxR X r'):IxR X (λx y H Q=>r x y H Q∨r' x y H Q):=by
 intro value slice vD s σ H x y v u Q I rx ry q hs;rcases q with q|q
 ·exact h value slice vD s σ H x y v u Q I rx ry q hs
 ·exact h' value slice vD s σ H x y v u Q I rx ry q hs
theorem ZJC{r:R2}(hr:IxR X r)(ha:PE X a ta)(hb:PE X b tb)(hs:PlainIx b):PE X (.Subscript a b pos) (tOp r ta tb):=by intro vD s σ H Q I h;exact Subscript_ (ZDH ha hb I h λv u s2 x y H2 I2 rx ry q=>hr a b vD s2 σ H2 x y v u Q I2 rx ry q (hs _ _))
def rIxL(K:PySem.W.Frag):R2:=λx y H Q=>∃p xs i v,x=.ref p/\y=.int i/\SqL K H p xs/\atI xs i=vE v/\Q v H
def rIxT(K:PySem.W.Frag):R2:=λx y H Q=>∃p xs i v,x=.ref p/\y=.int i/\SqT K H p xs/\atI xs i=vE v/\Q v H
def rIxS:R2:=λx y H Q=>∃z i c,x=.str z/\y=.int i/\z.length<=sizeLine/\atI z.cps.toList i=vE c/\Q (.str ⟨#[c]⟩) H
theorem ZMA:IxR X (rIxL X.K):=by
 intro value slice vD s σ H x y v u Q I rx ry h hs;obtain⟨p,xs,i,z,rfl,rfl,hq,he,q⟩:=h;cases rx;obtain⟨t,rfl⟩:=ry;obtain⟨its,r,pl,hz⟩:=I.list hq;obtain⟨j,h1,h2,h3,h4,h5⟩:=Xh he;obtain⟨w,ew,rw'⟩:=r.get h2;have hl:=r.length;have hn:=line63;have fin:EP X vD σ Q w s:=⟨z,H,I,rw',q⟩;by_cases h0:0<=i
 ·have hj:i.toNat=j:=by rw[seqIndex_of h0 h5]at h1;exact Option.some.inj h1
  exact item_listR pl.isList h0 (by lia) (by rw[hj];simpa using ew) fin hs
 ·have hj:(i+(its.toArray.size:Int)).toNat=j:=by rw[seqIndex_neg (by lia) h4]at h1;rw[zY,<-hl];exact Option.some.inj h1
  exact subscriptTail_builtinR (x:=w) pl.isList.typeIs slot_list_getitem.lookup
   (wpAny_getItem_list_neg (Q:=λr s'=>r=w/\EP X vD σ Q r s') pl.isList (by lia) (by rw[zY]<;>lia) (by lia) (by rw[hj];simpa using ew) ⟨rfl,fin⟩) hs
theorem ZNE:IxR X (rIxT X.K):=by
 intro value slice vD s σ H x y v u Q I rx ry h hs;obtain⟨p,xs,i,z,rfl,rfl,hq,he,q⟩:=h;cases rx;obtain⟨t,rfl⟩:=ry;obtain⟨its,r,pl,hz⟩:=I.tuple hq;obtain⟨j,h1,h2,h3,h4,h5⟩:=Xh he;obtain⟨w,ew,rw'⟩:=r.get h2;have hl:=r.length;have hn:=line63;have fin:EP X vD σ Q w s:=⟨z,H,I,rw',q⟩;exact subscriptTail_builtinR (x:=w) pl.typeIs slot_tuple_getitem.lookup
  (getItem_tuple (j:=j) (Q:=λr s'=>r=w/\EP X vD σ Q r s') pl (by lia) (by lia) (by rw[zY,<-hl];exact h1) (by simpa using ew) ⟨rfl,fin⟩) hs
theorem ZLI:IxR X rIxS:=by
 intro value slice vD s σ H x y v u Q I rx ry h hs;obtain⟨z,i,c,rfl,rfl,hz,he,q⟩:=h;obtain⟨t,rfl⟩:=rx;obtain⟨t',rfl⟩:=ry;obtain⟨j,h1,h2,h3,h4,h5⟩:=Xh he;have hl:z.cps.toList.length=z.length:=by simp[Str.length]
 rw[hl]at h1 h4 h5;have hn:=line63;exact tail_any (typeIs_str s z t) slot_str_getitem.lookup (getItem_str (c:=c) (by have e1:decide (i < -(2^63:Int))=vH:=decide_eq_false (by lia);have e2:decide (i ≥ 2^63)=vH:=decide_eq_false (by lia);rw[e1,e2,Bool.or_false]) (by rw[h1];simpa using h2) ⟨.str ⟨#[c]⟩,H,I.tok _,⟨_,rfl⟩,q⟩) hs
def rIx(K:PySem.W.Frag):R2:=λx y H Q=>rIxL K x y H Q∨rIxT K x y H Q∨rIxS x y H Q
theorem ZMr:IxR X (rIx X.K):=ZMA.or (ZNE.or ZLI)
theorem ZLQ(its:List xj)(n j:Nat)(u:xj):Obj.mapSeq (·.setIfInBounds j u) {cls:=.type "list",data:=.seq its.toArray n}={cls:=.type "list",data:=.seq (its.set j u).toArray n}:=by simp[Obj.mapSeq]
theorem Inv.lst{p:xZ}(I:Inv X vD σ H s)(h:H p=vE (.lst xs)):
  ∃(its:List xj)(n:Nat),Vals xs its/\s.heap.get? p=vE {cls:=.type "list",data:=.seq its.toArray n}/\xs.length<=sizeLine:=by
 obtain⟨z,its,n,r,e⟩:=I.hok p _ h;exact⟨its,n,r,e,z⟩
theorem Inv.ZK0{p:xZ}{ys:List V}{its':List xj}{n n':Nat}{f:Obj->Obj}(I:Inv X vD σ H s)(h:H p=vE (.lst xs))
  (ho:s.heap.get? p=vE {cls:=.type "list",data:=.seq its.toArray n}) (hf:f {cls:=.type "list",data:=.seq its.toArray n}={cls:=.type "list",data:=.seq its'.toArray n'}) (r:Vals ys its') (hz:ys.length<=sizeLine) (t:Nat):
  Inv X vD σ (upd H p (.lst ys)) {s with heap:=s.heap.update p f,toks:=t}:=by
 have e:(s.heap.update p f).get? p=vE {cls:=.type "list",data:=.seq its'.toArray n'}:=by rw[jH f ho (by rw[hf]<;>rfl),hf]
 refine I.write (x:=p) (e:=p) (by rw[h];trivial) (.inl rfl) (λb u hb q=>(Heap.get?_update_other _ _ (Ne.symm hb)).trans q) ⟨_,e⟩ ?_;exact⟨hz,its',n',r,e⟩
def ZOV:V->V->V->Hp->(Hp->Prop)->Prop:=λo i v H Q=>∃p xs k j,o=.ref p/\i=.int k/\H p=vE (.lst xs)/\ixN xs.length k=vE j/\Q (upd H p (.lst (xs.set j v)))
theorem set_list:PSet X ZOV:=by
 intro vD s σ H o i v ov iv u Q I ro ri rv h;obtain⟨p,xs,k,j,rfl,rfl,hp,hj,q⟩:=h;cases ro;obtain⟨t,rfl⟩:=ri;obtain⟨its,n,r,ho,hz⟩:=I.lst hp;obtain⟨h1,h2,h3,h4⟩:=ZJk hj;have hl:=r.length;have hn:=line63
 have I':Inv X vD σ (upd H p (.lst (xs.set j v))) {s with heap:=s.heap.update p (Obj.mapSeq (·.setIfInBounds j u))}:=
  I.ZK0 hp ho (ZLQ its n j u) (r.set rv j) (by rw[jv];exact hz) s.toks
 by_cases h0:0<=k
 ·have hk:k.toNat=j:=by rw[seqIndex_of h0 h4]at h1;exact Option.some.inj h1
  exact PySem.W.ki_setAt ho h0 (by lia) (by rw[zY,<-hl];exact h4) (by rw[hk];exact⟨_,I',q⟩)
 ·have hk:(k+(its.toArray.size:Int)).toNat=j:=by rw[seqIndex_neg (by lia) h3]at h1;rw[zY,<-hl];exact Option.some.inj h1
  exact PySem.W.ki_setBack ho (by lia) (by rw[zY,<-hl];exact h3) (by lia) (by rw[hk];exact⟨_,I',q⟩)
theorem ZNm(lo hi:Option Int)(n:Nat):(vV lo hi vF n).1=((HT.sIx n 0 lo:Nat):Int)/\(vV lo hi vF n).2.1=((HT.sIx n n hi:Nat):Int)/\(vV lo hi vF n).2.2=1:=by
 refine⟨?_,?_,rfl⟩
 ·cases lo with
  |none=>simp[vV,HT.sIx]
  |some i=>
   simp only[vV,HT.sIx,Option.getD_none,show(1:Int)>0 by decide,if_true];by_cases h:i<0
   ·simp only[h,if_true]<;>lia
   ·simp only[h,if_false]<;>lia
 ·cases hi with
  |none=>simp[vV,HT.sIx]
  |some i=>
   simp only[vV,HT.sIx,Option.getD_none,show(1:Int)>0 by decide,if_true];by_cases h:i<0
   ·simp only[h,if_true]<;>lia
   ·simp only[h,if_false]<;>lia
theorem ZQx(its:List xj)(lo hi:Option Int):slicePick its.toArray lo hi vF=((its.drop (HT.sIx its.length 0 lo)).take (HT.sIx its.length its.length hi-HT.sIx its.length 0 lo)).toArray:=by
 obtain⟨h1,h2,h3⟩:=ZNm lo hi its.toArray.size;unfold slicePick;rw[h1,h2,h3]
 simp only[sliceRange_one,pick_run,zY]<;>rfl
def rSlL(K:PySem.W.Frag):V->Option Int->Option Int->Hp->VK->Prop:=λx lo hi H Q=>∃a xs,x=.ref a/\SqL K H a xs/\∀p,H p=vF->Q (.ref p) (upd H p (.lst (Lr xs lo hi)))
theorem ZPl:SlR X (rSlL X.K):=by
 intro vD s σ H x v vl vu lo hi sl Q I rx hs pl pu h;obtain⟨a,xs,rfl,hx,q⟩:=h;cases rx;obtain⟨its,r,ht,hz⟩:=I.list hx;have hlen:=r.length;refine⟨"list",_,slot_list_getitem.lookup,ht.isList.typeIs,?_⟩
 refine wpAny_getItem_list_slice ht.isList hs pl pu .none (by simp) ?_ (by rw[zY]<;>lia)
 rw[ZQx,<-hlen];refine⟨.ref s.heap.objs.size,_,I.laid (t':=s.toks) (o:=.lst (Lr xs lo hi)) (λb ob q=>zQ _ q) (zK _) ?_,rfl,q _ (I.hok.fresh (zK _))⟩;exact⟨zB (ZHk xs lo hi) hz,_,0,(r.drop (HT.sIx xs.length 0 lo)).take (HT.sIx xs.length xs.length hi-HT.sIx xs.length 0 lo),z0 _ rfl⟩
noncomputable def Ef:V->Bool
 |.non=>vG
 |.bl _=>vG
 |.int _=>vG
 |.str _=>vG
 |_=>vH
noncomputable def eqV:V->V->Bool
 |.non,.non=>vG
 |.bl a,.bl b=>a==b
 |.bl a,.int b=>(if a then 1 else 0)==b
 |.int a,.bl b=>a==(if b then 1 else 0)
 |.int a,.int b=>a==b
 |.str a,.str b=>a==b
 |_,_=>vH
theorem ZEj{A:xJ}{y x:V}{u v:xj}(ry:RelV y u)(rx:RelV x v)(fy:Ef y=vG)(fx:Ef x=vG):SeqAt.EqAt A s u v (eqV y x):=by
 cases y with
 |non=>
  cases ry;cases x with
  |non=>cases rx;exact SeqAt.EqAt.same _
  |bl b=>cases rx;exact SeqAt.EqAt.none_bool b
  |int b=>obtain⟨t,rfl⟩:=rx;exact SeqAt.EqAt.none_int b t
  |str b=>obtain⟨t,rfl⟩:=rx;exact SeqAt.EqAt.none_str b t
  |_=>exact absurd (show vH=vG from fx) zy
 |bl a=>
  cases ry;cases x with
  |non=>cases rx;exact SeqAt.EqAt.bool_none a
  |bl b=>cases rx;exact SeqAt.EqAt.bool_bool a b
  |int b=>obtain⟨t,rfl⟩:=rx;exact SeqAt.EqAt.bool_int a b t
  |str b=>obtain⟨t,rfl⟩:=rx;exact SeqAt.EqAt.bool_str a b t
  |_=>exact absurd (show vH=vG from fx) zy
 |int a=>
  obtain⟨t',rfl⟩:=ry;cases x with
  |non=>cases rx;exact SeqAt.EqAt.int_none a t'
  |bl b=>cases rx;exact SeqAt.EqAt.int_bool a t' b
  |int b=>obtain⟨t,rfl⟩:=rx;exact SeqAt.EqAt.int_int a t' b t
  |str b=>obtain⟨t,rfl⟩:=rx;exact SeqAt.EqAt.int_str a t' b t
  |_=>exact absurd (show vH=vG from fx) zy
 |str a=>
  obtain⟨t',rfl⟩:=ry;cases x with
  |non=>cases rx;exact SeqAt.EqAt.str_none a t'
  |bl b=>cases rx;exact SeqAt.EqAt.str_bool a t' b
  |int b=>obtain⟨t,rfl⟩:=rx;exact SeqAt.EqAt.str_int a t' b t
  |str b=>obtain⟨t,rfl⟩:=rx;exact SeqAt.EqAt.str_str a t' b t
  |_=>exact absurd (show vH=vG from fx) zy
 |_=>exact absurd (show vH=vG from fy) zy
def eqU(x:V)(u:xj):Bool:=match u with
 |.none=>eqV .non x
 |.bool b=>eqV (.bl b) x
 |.int i _=>eqV (.int i) x
 |.str z _=>eqV (.str z) x
 |_=>vH
theorem ZFW{x y:V}{u:xj}(r:RelV y u)(f:Ef y=vG):eqU x u=eqV y x:=by
 cases y with
 |non=>cases r;rfl
 |bl b=>cases r;rfl
 |int i=>obtain⟨t,rfl⟩:=r;rfl
 |str z=>obtain⟨t,rfl⟩:=r;rfl
 |_=>exact absurd (show vH=vG from f) zy
theorem ZEO{x:V}:∀{xs:List V}{us:List xj},Vals xs us->xs.all Ef=vG->us.any (eqU x)=xs.any λy=>eqV y x
 |_,_,.nil,_=>rfl
 |y::xs,u::us,.cons r t,f=>by rw[qB,zC]at f;rw[j5,j5,ZFW r f.1,ZEO t f.2]
theorem ZAh{A:xJ}{x:V}{v:xj}(rx:RelV x v)(fx:Ef x=vG):∀{xs:List V}{us:List xj},Vals xs us->xs.all Ef=vG->∀u∈us,SeqAt.EqAt A s u v (eqU x u)
 |_,_,.nil,_=>λu hu=>by cases hu
 |y::xs,u::us,.cons r t,f=>λu' hu=>by
  rw[qB,zC]at f;rcases zw.mp hu with rfl|hu
  ·rw[ZFW r f.1];exact ZEj r rx f.1 fx
  ·exact ZAh rx fx t f.2 u' hu
def inV(x:V)(xs:List V):Bool:=xs.any λy=>eqV y x
def rIn(K:PySem.W.Frag)(neg:Bool):R2:=λx y H Q=>∃p xs,y=.ref p/\(SqL K H p xs∨SqT K H p xs)/\Ef x=vG/\xs.all Ef=vG/\Q (.bl (if neg then !inV x xs else inV x xs)) H
theorem ZSE:OpR X (xI .NotIn) (rIn X.K vG):=by
 intro vD s σ H x y v u Q I rx ry h;obtain⟨p,xs,rfl,hq,fx,fs,q⟩:=h;cases ry;rcases hq with hq|hq
 ·obtain⟨its,r,pl,hz⟩:=I.list hq;refine SeqAt.notIn_listAt (eqU x) pl.isList (λw hw=>ZAh rx fx r fs w (by simpa using hw)) ⟨.bl _,H,I,rfl,?_⟩;rw[show its.toArray.any (eqU x)=its.any (eqU x) by simp,ZEO r fs];exact q
 ·obtain⟨its,r,pl,hz⟩:=I.tuple hq;refine SeqAt.notIn_tupleAt (eqU x) pl (λw hw=>ZAh rx fx r fs w (by simpa using hw)) ⟨.bl _,H,I,rfl,?_⟩;rw[show its.toArray.any (eqU x)=its.any (eqU x) by simp,ZEO r fs];exact q
theorem ZLg:CallR X (.builtin "len") (λxs H Q=>∃p ys,xs=[.ref p]/\(SqL X.K H p ys∨SqT X.K H p ys)/\Q (.int ys.length) H):=by
 intro vD s σ H xs us Q I r h;obtain⟨p,ys,rfl,hq,q⟩:=h;obtain⟨u,rfl,rx⟩:=vals1 r;cases rx;have hn:=line63;rcases hq with hq|hq
 ·obtain⟨its,r',pl,hz⟩:=I.list hq;have hlen:=r'.length
  exact Calls.call_len_list pl.isList (by simp only[zY]<;>lia) ⟨.int ys.length,H,I.tok _,⟨s.toks+1,by rw[zY,hlen]⟩,q⟩
 ·obtain⟨its,r',pl,hz⟩:=I.tuple hq;have hlen:=r'.length
  exact len_tuple pl (by simp only[zY]<;>lia) ⟨.int ys.length,H,I.tok _,⟨s.toks+1,by rw[zY,hlen]⟩,q⟩
theorem ZQ1:CallR X (.builtin "len") (λxs H Q=>∃z,xs=[.str z]/\z.length<=sizeLine/\Q (.int z.length) H):=by intro vD s σ H xs us Q I r h;obtain⟨z,rfl,hz,q⟩:=h;obtain⟨u,rfl,t,rfl⟩:=vals1 r;have hn:=line63;exact len_str (by lia) ⟨.int z.length,H,I.tok _,⟨_,rfl⟩,q⟩
theorem CallR.or{f:xj}{r r':List V->Hp->VK->Prop}(h:CallR X f r)(h':CallR X f r'):CallR X f (λxs H Q=>r xs H Q∨r' xs H Q):=by
 intro vD s σ H xs us Q I rs q;rcases q with q|q
 ·exact h vD s σ H xs us Q I rs q
 ·exact h' vD s σ H xs us Q I rs q
theorem ZTX:CallR X (.type "list") (λxs H Q=>∃p ys,xs=[.ref p]/\(SqL X.K H p ys∨SqT X.K H p ys)/\∀l,H l=vF->Q (.ref l) (upd H l (.lst ys))):=by
 intro vD s σ H xs us Q I r h;obtain⟨p,ys,rfl,hq,q⟩:=h;obtain⟨u,rfl,rx⟩:=vals1 r;cases rx;have fin:∀(its:List xj),Vals ys its->ys.length<=sizeLine->∀(h':Heap)(c':Nat),(∀b o',s.heap.get? b=vE o'->h'.get? b=vE o')->
   h'.get? s.heap.objs.size=vE {cls:=.type "list",dict:=vF,data:=.seq its.toArray c',slots:= #[]}->EP X vD σ Q (.ref s.heap.objs.size) {s with heap:=h'}:=λits r' hz h' c' kp e=>
  ⟨.ref s.heap.objs.size,_,I.laid (t':=s.toks) kp (zK _) (show ObjOk X.prog X.w _ h' _ (.lst ys)from⟨hz,its,c',r',e⟩),rfl,q _ (I.hok.fresh (zK _))⟩
 rcases hq with hq|hq
 ·obtain⟨its,r',pl,hz⟩:=I.list hq;have hlen:=r'.length;obtain⟨o,ho,hc,n,hd⟩:=pl.isList
  exact call_list_seq p (.inl rfl) ho hc hd (λh' c' kp e=>fin its r' hz h' c' kp e) (by simp only[zY]<;>lia)
 ·obtain⟨its,r',pl,hz⟩:=I.tuple hq;have hlen:=r'.length;obtain⟨o,ho,hc,n,hd⟩:=pl
  exact call_list_seq p (.inr rfl) ho hc hd (λh' c' kp e=>fin its r' hz h' c' kp e) (by simp only[zY]<;>lia)
theorem ZRT:CallR X (.type "tuple") (λxs H Q=>∃p ys,xs=[.ref p]/\((SqL X.K H p ys/\∀l,H l=vF->Q (.ref l) (upd H l (.tup ys)))∨(SqT X.K H p ys/\Q (.ref p) H))):=by
 intro vD s σ H xs us Q I r h;obtain⟨p,ys,rfl,h⟩:=h;obtain⟨u,rfl,rx⟩:=vals1 r;cases rx;rcases h with⟨hq,q⟩|⟨hq,q⟩
 ·obtain⟨its,r',pl,hz⟩:=I.list hq;have hlen:=r'.length
  refine call_tuple_list pl.isList (λh' kp=>?_) (by simp only[zY]<;>lia)
  have I1:Inv X vD σ H {s with heap:=h'}:=I.kept (t':=s.toks) kp;have I2:Inv X vD σ (upd H h'.objs.size (.tup ys)) {s with heap:=h'.push {cls:=.type "tuple",data:=.seq its.toArray}}:=
   I1.laid (t':=s.toks) (λb o e=>zQ _ e) (zK _) (show ObjOk X.prog X.w _ _ _ (.tup ys)from⟨hz,its,r',IsTup.new _ _⟩)
  exact⟨.ref h'.objs.size,_,I2,rfl,q _ (I1.hok.fresh (zK _))⟩
 ·obtain⟨its,r',pl,hz⟩:=I.tuple hq;exact call_tuple_same pl ⟨.ref p,H,I,rfl,q⟩
def tyV(K:PySem.W.Frag)(T:String)(x:V)(H:Hp):Prop:=match x with
 |.str _=>T="str"
 |.int _=>T="int"
 | .ref p=>(T="list"/\∃xs,SqL K H p xs)∨(T="tuple"/\∃o,K.lookup p=vE o/\o.cls=.type "tuple"/\o.dict=vF)∨
   (T="dict"/\((∃kvs,H p=vE (.dK kvs))∨∃kvs,H p=vE (.dT kvs)))∨(T="set"/\∃S n,H p=vE (.set S n))
 |_=>False
theorem ZRu{T:String}{x:V}{v:xj}(I:Inv X vD σ H s)(r:RelV x v)(ty:tyV X.K T x H):
  s.TypeIs v T/\∀a,v=.ref a->∃ob,s.heap.get? a=vE ob/\ob.dict=vF:=by
 cases x with
 |str z=>
  obtain⟨t,rfl⟩:=r
  cases(show T="str" from ty)
  exact⟨typeIs_str s z t,λ_ e=>nomatch e⟩
 |int i=>
  obtain⟨t,rfl⟩:=r
  cases(show T="int" from ty)
  exact⟨typeIs_int s i t,λ_ e=>nomatch e⟩
 | ref p=>
  cases r;rcases ty with⟨rfl,xs,hq⟩|⟨rfl,o,hk,hc,hd⟩|⟨rfl,hk⟩|⟨rfl,S,n,hk⟩
  ·obtain⟨its,_,pl,_⟩:=I.list hq;refine⟨pl.isList.typeIs,λa e=>?_⟩;cases e;obtain⟨o,n,e,c,hd,_⟩:=pl;exact⟨o,e,hd⟩
  ·refine⟨⟨o,I.kIn p o hk,hc⟩,λa e=>?_⟩;cases e;exact⟨o,I.kIn _ o hk,hd⟩
  ·have z:∃o,s.heap.get? p=vE o/\o.ExactDict:=by
    rcases hk with⟨kvs,hk⟩|⟨kvs,hk⟩
    ·obtain⟨_,_,_,_,o,_,_,e,ex,_⟩:=I.hok p _ hk;exact⟨o,e,ex⟩
    ·obtain⟨_,_,_,_,o,_,_,e,ex,_⟩:=I.hok p _ hk;exact⟨o,e,ex⟩
   obtain⟨o,e,ex⟩:=z;refine⟨⟨o,e,ex.1⟩,λa e2=>?_⟩;cases e2;exact⟨o,e,ex.2.1⟩
  ·obtain⟨o,_,_,_,e,ex,_⟩:=I.hok p _ hk;refine⟨⟨o,e,ex.1⟩,λa e2=>?_⟩;cases e2;exact⟨o,e,ex.2.1⟩
 |_=>exact False.elim ty
noncomputable def tBM(K:PySem.W.Frag)(T:String)(r:V->List V->Hp->VK->Prop)(to:TE)(t:TA):TE:=λσ H Q=>to σ H λx H1=>tyV K T x H1/\t σ H1 λxs H2=>r x xs H2 Q
variable{o e:xX}{es:List xX}{to:TE}{t:TA}{name:Str}{apos cpos:Pos}{T id:String}{r:V->List V->Hp->VK->Prop}
theorem ZM4(pa:PlainAttrs T)(slot:Slot T name id)(hty:typeOf (.builtin id)=pure (.type "method_descriptor"))(hm:MtR X id r)(ho:PE X o to)(ha:PA X (e::es) t)
  (hbase:xy o name X.env (eval o X.env)=eval o X.env:=by rfl)
  (hfew:((x0 cpos (vW (e::es) X.env)).all (λx=> !x.1)&&(xB cpos (xT [] X.env)).all (λx=>x.1.isSome)
   && decide ((e::es).length+([]:List Keyword).length+(if([]:List Keyword).isEmpty then 0 else 1)<30))=vG:=by rfl)
  (hline:(apos.endLine==cpos.line)=vG:=by rfl) (hs:vW (e::es) X.env=(vH,eval e X.env)::vW es X.env:=by rfl) (hplain:(x0 cpos (vW es X.env)).any (·.1)=vH:=by rfl):
  PE X (.Call (.Attribute o name apos) (e::es) [] cpos) (tBM X.K T r to t):=by
 intro vD s σ H Q I h;refine wpAny_Call_method_late hbase hfew hline rfl (thn (ho vD s σ H _ I h) λv s1 ⟨x,H1,I1,r1,ty,q1⟩=>?_);obtain⟨h1,h2⟩:=ZRu I1 r1 ty;refine⟨T,id,pa,slot,hty,h1,h2,?_⟩;have hA:=ha cpos vD s1 σ H1 _ I1 q1;rw[hs]at hA⊢
 refine Calls.callWith_builtin (by show(vH||(x0 cpos (vW es X.env)).any (·.1))=vH;rw[hplain]<;>rfl) (Calls.evalArgs_plain ?_)
 exact thn hA λus s2 ⟨vs,H2,I2,r2,q2⟩=>hm vD s2 σ H2 x vs v us Q I2 r1 r2 q2
end
def MtM(X:Cx)(id:String)(r:V->List V->Hp->VK->Prop):Prop:=
 ∀(vD:List (xZ×Obj))(s:xq)(σ:St)(H:Hp)(x:V)(xs:List V)(v:xj)(us:List xj)(Q:VK),Inv X vD σ H s->RelV x v->Vals xs us->r x xs H Q->
  vY (vZ X.prog X.w) X.A (call (.builtin id) (v::us)) (EP X vD σ Q) X.xe s
theorem Vals.one:∀{x:V}{us:List xj},Vals [x] us->∃u,us=[u]/\RelV x u
 |_,_,.cons r .nil=>⟨_,rfl,r⟩
theorem Vals.rep{us:List xj}(h:Vals xs us):∀k:Nat,Vals (zV k xs).flatten (zV k us).flatten
 |0=>.nil
 |k+1=>by rw[zS,zS,q8,q8];exact Vals.append h (Vals.rep h k)
theorem foldl_rep(its:List xj):∀(k:Nat)(acc:List xj),
  List.foldl (λx1 x2=>x1++x2) acc.toArray (zV k its.toArray)=(acc++(zV k its).flatten).toArray
 |0,acc=>by simp
 |k+1,acc=>by
  have e:acc.toArray++its.toArray=(acc++its).toArray:=by simp
  have e2:(acc++its)++(zV k its).flatten=acc++(zV (k+1) its).flatten:=by rw[zS,q8,jy]
  rw[<-e2,<-foldl_rep its k (acc++its),<-e,zS,jV]
section
variable{X:Cx}{vD:List (xZ×Obj)}{σ:St}{H:Hp}{s:xq}{l b:xZ}{xs ys zs:List V}
theorem Inv.lset{its':List xj}{n:Nat}{f:Array xj->Array xj}{t':Nat}(I:Inv X vD σ H s)(hH:H l=vE (.lst xs))
  (e:s.heap.get? l=vE {cls:=.type "list",data:=.seq its.toArray n}) (hf:f its.toArray=its'.toArray) (hv:Vals ys its') (hz:ys.length<=sizeLine):
  Inv X vD σ (upd H l (.lst ys)) {s with heap:=s.heap.update l (Obj.mapSeq f),toks:=t'}:=by
 have q:=PySem.IsL.update e f;rw[hf]at q;refine I.write (x:=l) (e:=l) (by rw[hH];exact trivial) (.inl rfl) (λb' u hb hu=>(Heap.get?_update_other s.heap (Obj.mapSeq f) (Ne.symm hb)).trans hu) ⟨_,q⟩ ?_;exact⟨hz,its',_,hv,q⟩
theorem Inv.lnew{t':Nat}(I:Inv X vD σ H s)(hv:Vals ys its)(hz:ys.length<=sizeLine):
  Inv X vD σ (upd H s.heap.objs.size (.lst ys)) {s with heap:=s.heap.push {cls:=.type "list",data:=.seq its.toArray},toks:=t'}:=
 I.laid (λ_ _ q=>zQ _ q) (zK _) ⟨hz,its,0,hv,z0 _ rfl⟩
theorem Inv.fresh(I:Inv X vD σ H s):H s.heap.objs.size=vF:=I.hok.fresh (zK _)
theorem Inv.lstM(I:Inv X vD σ H s)(hH:H l=vE (.lst xs)):xs.length<=sizeLine/\∃(its:List xj)(n:Nat),Vals xs its/\xs.length=its.length/\s.heap.get? l=vE {cls:=.type "list",data:=.seq its.toArray n}:=by obtain⟨z,its,n,r,e⟩:=I.hok l _ hH;exact⟨z,its,n,r,r.length,e⟩
theorem ZNI{n:Nat}(h:n<=sizeLine):Builtin.List.listTooLong n=vH:=by unfold Builtin.List.listTooLong;exact decide_eq_false (by lia)
end
section
variable{X:Cx}
def ZLe:V->List V->Hp->VK->Prop:=λx vs H Q=>∃l xs y,x=.ref l/\vs=[y]/\H l=vE (.lst xs)/\xs.length<sizeLine/\Q .non (upd H l (.lst (xs++[y])))
theorem ZMl:MtM X "list.append" ZLe:=by
 intro vD s σ H x vs v us Q I rx rv h;obtain⟨l,xs,y,rfl,rfl,hH,hz,q⟩:=h;cases rx;obtain⟨u,rfl,ru⟩:=rv.one;obtain⟨z,its,n,r,hl,e⟩:=I.lstM hH;refine call_meets F.slot_list_append ⟨_,e,rfl⟩ F.entry_list_append (F.args_list_append_2 _ _) (PySem.list_append l its.toArray n u (by rw[zY];lia)) ⟨e,?_⟩;refine⟨.non,_,I.lset (its':=its++[u]) hH e (by simp) (r.append (.cons ru .nil)) ?_,rfl,q⟩
 rw[qZ,j0];lia
def rRep:R2:=λx y H Q=>∃l k xs,x=.ref l/\y=.int k/\H l=vE (.lst xs)/\ -(2^63)<=k/\k<2^63/\xs.length*k.toNat<=sizeLine/\
 ∀p,H p=vF->Q (.ref p) (upd H p (.lst (zV k.toNat xs).flatten))
theorem len_rep{α:Type}(xs:List α)(k:Nat):(zV k xs).flatten.length=k*xs.length:=by
 induction k with
 |zero=>simp
 |succ k ih=>rw[zS,q8,qZ,ih,Nat.succ_mul,Nat.add_comm]
theorem ZRX:OpR X (xD .Mult) rRep:=by
 intro vD s σ H x y v u Q I rx ry h;obtain⟨l,k,xs,rfl,rfl,hH,h1,h2,hz,q⟩:=h;cases rx;obtain⟨t,rfl⟩:=ry;obtain⟨z,its,n,r,hl,e⟩:=I.lstM hH;have hlen:its.toArray.size*k.toNat<=sizeLine:=by rw[zY,<-hl];exact hz
 have hcap:¬its.toArray.size*k.toNat>(2^63-1)/8:=by
  have:(sizeLine:Nat)<=(2^63-1)/8:=by decide
  lia
 have hfit:¬(!Builtin.List.listFitsIndex k)=vG:=by rw[fitsIndex_both h1 h2];exact zy
 have hlong:¬Builtin.List.listTooLong (its.toArray.size*k.toNat)=vG:=by rw[ZNI hlen];exact zy
 have hnew:List.foldl (λx1 x2=>x1++x2) #[] (zV (if its.toArray.isEmpty=vG then 0 else k.toNat) its.toArray)=(zV k.toNat its).flatten.toArray:=by
  have f0:∀m:Nat,List.foldl (λx1 x2=>x1++x2) #[] (zV m its.toArray)=(zV m its).flatten.toArray:=λm=>by have:=foldl_rep its m [];rw[jP]at this;exact this
  rw[f0];cases its with
  |nil=>simp
  |cons a r'=>rw[if_neg (by simp)]
 refine wpAny_binaryOp_repeat_ref (T:="list") (U:="int") (by decide) ⟨_,e,rfl⟩ (λs'=>typeIs_int s' k t) noFill_list_mul F.fills_int_mul F.slot_int_rmul repeat_list F.slot_int_index.lookup
  (call_meets F.slot_int_rmul (typeIs_int s k t) F.entry_int_rmul (F.args_int_rmul_2 _ _) (int___rmul___int_list k t l its.toArray n)
   ⟨e,rfl,⟨_,e,rfl⟩,call_meets F.slot_list_mul ⟨_,e,rfl⟩ F.entry_list_mul (F.args_list_mul_2 _ _) (AutoListH.list___mul___list_int_3 l its.toArray n k t hfit hcap hlong) ⟨e,?_⟩⟩)
 rw[hnew];exact⟨.ref _,_,I.lnew (t':=s.toks) (r.rep k.toNat) (by rw[len_rep,Nat.mul_comm];exact hz),rfl,q _ I.fresh⟩
end
section
variable{prog:xK}{w:xw}{A:xJ}{E:xj->xq->Prop}{s:xq}
end
section
variable{X:Cx}
end
end _L
namespace Att
open PySem PySem.W PySem.Calls PyProof.Rows
variable{h:Heap}
theorem ZMq{P:Params}:∀(ns:List Int)(vs:List xj),WellAll P h vs (ns.map WData.int)->IntsAre vs ns:=by
 intro ns
 induction ns with
 |nil=>
  intro vs w;rw[jC]at w;cases w;exact .nil
 | cons n ns ih=>
  intro vs w;rw[zk]at w;cases w with
  |cons a b=>
   cases a;exact .cons _ _ (ih _ b)
theorem ZQ5{l:OpenLaw}{n:Nat}(hn:l.most=vE n){P:Params}{args:List WData}{vals:List xj}
  (hpre:l.row.toRowW.claim.pre args=vG) (hwl:WellAll P h vals args):
  ∃a vs ns,vals=[Value.ref a]/\args=[WData.list (ns.map WData.int)]/\h.get? a=vE {cls:=.type "list",data:=.seq vs.toArray}/\IntsAre vs ns/\ns.length<=n:=by
 have hsh:WShape.hasAll [] args [.list .int]=vG:=(pre_splitW hpre).1;have hc:l.pre.holds [] {args:=args}=vG:=(pre_splitW hpre).2;obtain⟨d,r,rfl,h1,h2⟩:=hasAllW_cons hsh;obtain rfl:=hasAllW_nil h2;obtain⟨xs,rfl,h3⟩:=hasW_list h1;obtain⟨ns,rfl⟩:=items_int h3;have hlen:ns.length<=n:=by
  unfold OpenLaw.pre at hc;have h4:(WTm.not (.lt (.lit (.int (n:Int))) (.len (.arg 0)))).holds [] {args:=[.list (ns.map .int)]}=vG:=by have h4:=(holds_andW hc).1;rw[hn]at h4;exact h4
  have h5:=condW_of h4 (w_not (w_lt w_lit (w_len_list (w_arg rfl))));rw[qQ]at h5;refine Nat.le_of_not_lt λq=>?_
  have q':(n:Int)<((ns.length:Nat):Int):=by lia
  first
   |(rw[decide_eq_true q']at h5;exact absurd h5 (by decide))
   |(simp at h5;lia)
 cases hwl with
 |cons w1 w2=>
  cases w2;cases w1 with
  |list ho hall=>exact⟨_,_,ns,rfl,rfl,ho,ZMq ns _ hall,hlen⟩
theorem ZMx(l:OpenLaw)(args:List WData):l.row.toRowW.claim.post args (.bool vG) args=vG:=
 postW_of (r:=l.row.toRowW) (X:=(vG==vG))
  (show WShape.has [] (.bool vG) .bool=vG by first|rfl|decide|simp[WShape.has,WShape.arms,WShape.armsAll])
  (show(WTm.eq .res (.lit (.bool vG))).value [] {args:=args,res:=vE (.bool vG),after:=args}=vE (.bool (vG==vG))from w_eq_bool (w_res rfl) w_lit) rfl
theorem ZLM{l:OpenLaw}{n:Nat}{q:xK}{loose:List Str}{XP:(Str->Option xj)->Heap->Prop}{YP:xw->Heap->Prop}{d:DefRec}
  (hn:l.most=vE n) (hdf:d.params.defaults=[])
  (call:∀(w:xw)(s₀ s₁:xq)(mg mb:Str->Option xj)(fa:xZ)(o:Obj)(pm cd doc:xj)(a:xZ)(vs:List xj)(ns:List Int),
   Ground q loose [] XP w s₀ mg mb s₁.heap->YP w s₁.heap->
   s₁.heap.get? fa=vE o->o.data=.func (docDef d.name d.params d.body d.scope pm cd doc)->s₁.heap.CodeRec cd d.name->mg d.name=vE (.ref fa)->
   s₁.heap.get? a=vE {cls:=.type "list",data:=.seq vs.toArray}->IntsAre vs ns->ns.length<=n->s₁.gens= #[]->
   codeAny (vZ l.prog w) callerA (.call (.ref fa) ⟨[.ref a],[]⟩) (λr s'=>r=.ok (.ret (.bool vG))/\OldK s₁.heap s'.heap/\s'.os=s₁.os/\AllBare s'.gens) s₁):
  WalkO q loose XP YP l.row.toRowW d [] (λf vs=>PySem.call f vs):=by
 intro w s₀ s₁ mg mb G Y fa o pm cd doc dV kV ho hd hcd hD hmg hg args vals as hpre hlay hrd hwl hlo;obtain rfl:dV=.none:=Dflts.none hD hdf;obtain rfl:kV=.none:=Dflts.noKw hD;obtain⟨a,vs,ns,rfl,rfl,hobj,hints,hlen⟩:=ZQ5 hn hpre hwl;refine enter_call (xH (call w s₀ s₁ mg mb fa o pm cd doc a vs ns G Y ho (fd_plain hd) hcd hmg hobj hints hlen hg) λr s' hq=>?_);obtain⟨rfl,h2,h3,h4⟩:=hq
 exact⟨.inl ⟨.bool vG,.bool vG,[],rfl,λ_=>rfl,.bool vG,ZMx l _,λ_=>⟨List.Pairwise.nil,λ_ hm=>(nomatch hm)⟩⟩,h2,h3,h4⟩
section
variable{prog:xK}{w:xw}{A:xJ}{E:xj->xq->Prop}{s:xq}{K:vA}
noncomputable def Xd(h:Heap):Heap:={h with objs:= #[]}
theorem ZAm(h:Heap)(b:xZ):(Xd h).get? b=vF:=by
 cases e:(Xd h).get? b with
 |none=>rfl
 |some o=>exact absurd (zj e) (Nat.not_lt_zero _)
noncomputable def ledger(h:Heap)(L d:xZ):List (xZ×Obj):=(zZ h.objs.size).filterMap λa=>if a=L∨a=d then vF else(h.get? a).map λo=>(a,o)
theorem Uy{L d a:xZ}{o:Obj}:(a,o)∈ledger h L d↔a≠L/\a≠d/\h.get? a=vE o:=by
 unfold ledger;rw[List.mem_filterMap];constructor
 ·rintro⟨b,_,e⟩;split at e
  ·cases e
  ·rename_i hb;obtain⟨o',ho,e'⟩:=zI.mp e;cases e';exact⟨λq=>hb (.inl q),λq=>hb (.inr q),ho⟩
 ·rintro⟨n1,n2,ho⟩;refine⟨a,qW.mpr (zj ho),?_⟩
  rw[if_neg (show¬(a=L∨a=d)from λq=>q.elim n1 n2),ho]<;>rfl
theorem ZPO{L:xZ}{m:Str->Option xj}(n:h.Ns L m):Fr (Xd h) L h m:=
 ⟨n,λb o e=>(by rw[ZAm]at e;cases e),j8 _⟩
end
end Att
namespace _L
open PySem PySem.Spec PyProof.Rows
variable{P:xK}{w:xw}{a:xZ}{fd:xV}{x:Str}{X:Cx}{y:V}{u:xj}{H:Hp}{kvs:List (Key×V)}{pos:Pos}
theorem Th:∀{vs:List xj}{ns:List Int},IntsAre vs ns->Vals (ns.map V.int) vs
 |_,_,.nil=>.nil
 |_,_,.cons n t h=>.cons ⟨t,rfl⟩ (Th h)
def Only(H:Hp):Prop:=∀b,H b=vF∨∃o xs,H b=vE (.frz o (.lst xs))
theorem ZMM{K:PySem.W.Frag}{mg mb:Str->Option xj}{CX:CXT}{k:Nat}{fa:xZ}{sp:Sp}{s₁:xq}{vs:List xj}{ns:List Int}
  (KX:K.In s₁.heap) (hns:s₁.heap.Ns vQ mg) (hb:s₁.heap.Ns builtinsNs mb) (hbb:∀x:Str,x≠"__name__"->mb x=xE x) (hlim:s₁.heap.NoLimit) (hg:s₁.gens= #[])
  (ha:s₁.heap.get? a=vE {cls:=.type "list",data:=.seq vs.toArray}) (hi:IntsAre vs ns) (hl:ns.length<=sizeLine) (hr:Room k callerA)
  (F:∀base:Heap,K.In base->base.Ns vQ mg->FnOk P w K mg base CX k fa fd [x] sp) (hbind:∀(s:xq)(u:xj),BindsTo s fd ⟨[u],[]⟩ [(x,u)])
  (hsp:∀H:Hp,Only H->SqL K H a (ns.map V.int)->sp [.ref a] H (λv _=>v=.bl vG) λ_ _ _=>False)
  (hCX:∀H e s',CX [] H s₁ (λ_ _ _=>False) e s'->False):
  codeAny (vZ P w) callerA (.call (.ref fa) ⟨[.ref a],[]⟩) (λr s'=>r=.ok (.ret (.bool vG))/\OldK s₁.heap s'.heap/\s'.os=s₁.os/\AllBare s'.gens) s₁:=by
 have rv:=Th hi;have lenV:=hi.length;have core:∀H:Hp,Only H->SqL K H a (ns.map V.int)->HOk P w H s₁.heap->(∀b,H b≠vF->b=a)->(H a≠vF->K.lookup a=vF)->
   codeAny (vZ P w) callerA (.call (.ref fa) ⟨[.ref a],[]⟩) (λr s'=>r=.ok (.ret (.bool vG))/\OldK s₁.heap s'.heap/\s'.os=s₁.os/\AllBare s'.gens) s₁:=by
  intro H hO hS hok hA hK;have base_of:∀{b:xZ}{o:Obj},s₁.heap.get? b=vE o->H b=vF->(Ku s₁.heap H).get? b=vE o:=λe n=>ZS1 e n
  have noA:∀{b:xZ}{o:Obj}{es:Array DictEntry}{ep:Nat},s₁.heap.get? b=vE o->o.data=.dict es ep->H b=vF:=λ{b o es ep}e d=>by
   cases q:H b with
   |none=>rfl
   |some u=>
    have e':b=a:=hA b (by rw[q];simp);subst e';rw[ha]at e;cases e;have d':Data.seq vs.toArray _=Data.dict es ep:=d;cases d'
  have nsK:∀{b:xZ}{m:Str->Option xj},s₁.heap.Ns b m->(Ku s₁.heap H).Ns b m:=λ{b m}⟨o,es,ep,e,d,r⟩=>⟨o,es,ep,base_of e (noA e d),d,r⟩
  have hKb:K.In (Ku s₁.heap H):=λb o e=>base_of (KX b o e) (by
   cases q:H b with
   |none=>rfl
   |some u=>
    have e':b=a:=hA b (by rw[q];simp);subst e';rw[hK (by rw[q];simp)]at e;cases e)
  have hM:Mod K mg (Ku s₁.heap H):=⟨hKb,nsK hns,⟨mb,nsK hb,hbb⟩,let⟨mc,h1,h2⟩:=hlim;⟨mc,nsK h1,h2⟩⟩
  have e0:Env0 P w K mg (Ku s₁.heap H) callerA [] s₁ H:=⟨rfl,hM,λb o e=>ZLx e,Nat.le_of_eq (ZNr _ _),trivial,λb hb=>absurd (show b∈([]:List xZ)from hb) (by simp),hok,.of_eq hg⟩
  refine xH ((F _ hKb (nsK hns)).run callerA [] s₁ H ⟨[.ref a],[]⟩ [.ref a] [.ref a] _ _ hr e0 (hbind s₁ (.ref a)) (.cons rfl .nil) (hsp H hO hS)) λr s' h=>?_
  cases r with
  |error e=>exact(hCX H e s' h).elim
  | ok fl=>
   cases fl with
   |next=>exact False.elim h
   |brk=>exact False.elim h
   |cont=>exact False.elim h
   | ret u=>
    obtain⟨v,H',os,bare,un,hok',r',q⟩:=h;have q':v=.bl vG:=q;subst q';obtain rfl:u=Value.bool vG:=r';refine⟨rfl,OldK.of_keep λb o e=>?_,os,bare⟩;cases q:H b with
    |none=>exact un.keep b o e q (by intro z;exact absurd (show b∈([]:List xZ)from z) (by simp)) (by simp)
    |some u=>
     rcases hO b with z|⟨ob,xs,z⟩
     ·rw[q]at z;cases z
     ·have z2:=un.frzs b ob _ z;obtain⟨e1,_⟩:=hok b _ z;obtain⟨e2,_⟩:=hok' b _ z2;rw[e]at e1;cases e1;exact e2
 cases hk:K.lookup a with
 |some o=>
  have e:=KX a o hk;rw[ha]at e;cases e;refine core (λ_=>vF) (λ_=>.inl rfl) (.inr ⟨_,vs.toArray,_,hk,rfl,rfl,rfl,by rw[zY,lenV];exact hl,by simpa using rv⟩) (λb u z=>by have z':(vF:Option HO)=vE u:=z;cases z') (λb z=>absurd rfl z) λz=>absurd rfl z
 | none=>
  refine core (λb=>if b=a then vE (.frz {cls:=.type "list",data:=.seq vs.toArray} (.lst (ns.map V.int)))else vF) (λb=>?_) (.inl (.inr ⟨{cls:=.type "list",data:=.seq vs.toArray},if_pos rfl⟩)) (λb u z=>?_) (λb z=>?_) λ_=>hk
  ·by_cases hb:b=a
   ·exact .inr ⟨_,_,if_pos hb⟩
   ·exact .inl (if_neg hb)
  ·by_cases hb:b=a
   ·have z':=(if_pos hb).symm.trans z;cases z';subst hb;exact⟨ha,by rw[qQ];exact hl,vs,_,rv,ha⟩
   ·have z':=(if_neg hb).symm.trans z;cases z'
  ·by_cases hb:b=a
   ·exact hb
   ·exact absurd (if_neg hb) z
theorem ZLE{l:PySem.W.OpenLaw}{n k:Nat}{q:xK}{loose:List Str}{XP:(Str->Option xj)->Heap->Prop}{YP:xw->Heap->Prop}{d:DefRec}{K:xw->PySem.W.Frag}{CX:xw->CXT}{sp:xw->Sp} 
  (hn:l.most=vE n) (hn2:n<=sizeLine) (hdf:d.params.defaults=[]) (hr:Room k callerA)
  (hY:∀(w:xw)(h:Heap),YP w h->(K w).In h)
  (F:∀(w:xw)(mg:Str->Option xj)(fa:xZ)(h:Heap),(K w).In h->h.Ns vQ mg->mg d.name=vE (.ref fa)->
   ∃fd:xV,(∀(s:xq)(u:xj),BindsTo s fd ⟨[u],[]⟩ [(x,u)])/\
    ∀base:Heap,(K w).In base->base.Ns vQ mg->FnOk l.prog w (K w) mg base (CX w) k fa fd [x] (sp w))
  (hsp:∀(w:xw)(H:Hp)(a:xZ)(ns:List Int),ns.length<=n->Only H->SqL (K w) H a (ns.map V.int)->sp w [.ref a] H (λv _=>v=.bl vG) λ_ _ _=>False)
  (hCX:∀(w:xw)(H:Hp)(s:xq)(e:xj)(s':xq),CX w [] H s (λ_ _ _=>False) e s'->False):
  PySem.W.WalkO q loose XP YP l.row.toRowW d [] (λf vs=>PySem.call f vs):=by
 refine Att.ZLM hn hdf λw s₀ s₁ mg mb fa o pm cd doc a vs ns G Y ho hd hcd hmg hobj hints hlen hg=>?_
 have KX:=hY w _ Y;obtain⟨fd,hb,hF⟩:=F w mg fa _ KX G.T.g hmg;exact ZMM KX G.T.g G.T.b G.T.builtins G.T.nolimit hg hobj hints (zB hlen hn2) hr hF hb (λH hO hS=>hsp w H a ns hlen hO hS) λH e s'=>hCX w H s₁ e s'
noncomputable abbrev CX0:CXT:=λ_ _ _ _ _ _=>False
noncomputable abbrev E0:XK:=λ_ _ _=>False
theorem pass0:Passes CX0 X E0:=λ_ _ _ _ _ _ _ h=>h.elim
structure Fun (K:PySem.W.Frag) (x qual:Str) (st:xz) (f:xZ) (fd:xV):Prop where
 ex:∃(oc:xj)(od:Option xZ)(kV doc pm:xj)(an:Option xZ)(cdv ct:xj)(osl:Array (Option xj)),
  fd=PySem.W.fnOf x qual (K8 st) (Ja st) (Ar st) .none kV doc pm an cdv ct/\K.lookup f=vE ⟨oc,od,.func fd,osl⟩/\PySem.W.codeIn K cdv qual=vG
 kp:PySem.W.keepIn K (.ref f)=vG
section
variable{P:xK}{w:xw}{K:PySem.W.Frag}{mg:Str->Option xj}{base:Heap}
theorem Fun.ok{qual:Str}{st:xz}{f:xZ}{N ps:List Str}{k:Nat}{sp:Sp}(F:Fun K x qual st f fd)(S:FnScope N ps (Ar st))(len:∀vs H Q E,sp vs H Q E->vs.length=ps.length)
  (hbody:∀(cdv:xj)(A:xJ)(outer:List Env)(s:xq)(H:Hp)(vs:List V)(Q:VK)(E:XK),Room k (A.deeper (envOfC qual (Ar st) s.heap.objs.size f cdv))->sp vs H Q E->
   ∃t,PSs (O1 CX0 P w K mg base N qual (Ar st) f cdv A outer s H E).nox (Ja st) t/\t {nx:=λ_ H'=>Q .non H',rt:=Q} (start N vs) H):FnOk P w K mg base CX0 (k+1) f fd ps sp:=by
 obtain⟨oc,od,kV,doc,pm,an,cdv,ct,osl,rfl,lk,hcd⟩:=F.ex;refine ZP1 lk hcd S len λA outer s H vs Q E hr hsp=>?_
 obtain⟨t,h,q⟩:=hbody cdv A outer s H vs Q E hr hsp;exact⟨t,h.nox,q⟩
theorem Fun.binds{qual:Str}{st:xz}{f:xZ}{ps:List Str}(F:Fun K x qual st f fd)
  (h:∀(kV doc pm:xj)(an:Option xZ)(cdv ct:xj)(us:List xj),us.length=ps.length->bindArgs (PySem.W.fnOf x qual (K8 st) (Ja st) (Ar st) .none kV doc pm an cdv ct) ⟨us,[]⟩=pure (ps.zip us)):Binds K fd ps []:=by
 obtain⟨oc,od,kV,doc,pm,an,cdv,ct,osl,rfl,lk,hcd⟩:=F.ex;exact .all (h kV doc pm an cdv ct)
end
section
variable{X:Cx}
end
section
variable{κ:Type}[DecidableEq κ]
noncomputable def Hu(kvs:List (κ×V))(k:κ):Option V:=(kvs.find? λkv=>decide (kv.1=k)).map (·.2)
noncomputable def putK(kvs:List (κ×V))(k:κ)(v:V):List (κ×V):=
 if(kvs.any λkv=>decide (kv.1=k))=vG then kvs.map (λkv=>if kv.1=k then(kv.1,v)else kv)else kvs++[(k,v)]
theorem ZFz{p:κ×V}{r:List (κ×V)}{k:κ}(e:p.1=k):Hu (p::r) k=vE p.2:=by simp[Hu,qV,e]
theorem ZIh{p:κ×V}{r:List (κ×V)}{k:κ}(e:¬p.1=k):Hu (p::r) k=Hu r k:=by simp[Hu,qV,e]
theorem ZPh(kvs:List (κ×V))(k:κ)(v:V):(putK kvs k v).length<=kvs.length+1:=by
 unfold putK;split
 ·rw[qQ];lia
 ·rw[qZ,zO,qN];lia
theorem KV.val{kvs:List (κ×V)}{vs:List (κ×xj)}(r:KV kvs vs)(k:κ):RelO (Hu kvs k) (valueAt vs k):=by
 unfold KV at r
 induction r with
 |nil=>exact True.intro
 | @cons p q ps qs h t ih=>
  obtain⟨h1,h2⟩:=h;by_cases e:p.1=k
  ·have e':q.1=k:=h1.symm.trans e;have b:valueAt (q::qs) k=vE q.2:=by simp[valueAt,qV,e']
   rw[ZFz e,b];exact h2
  ·have e':¬q.1=k:=λz=>e (h1.trans z)
   have b:valueAt (q::qs) k=valueAt qs k:=by simp[valueAt,qV,e']
   rw[ZIh e,b];exact ih
theorem KV.any{kvs:List (κ×V)}{vs:List (κ×xj)}(r:KV kvs vs)(k:κ):(kvs.any λkv=>decide (kv.1=k))=vs.any λkv=>decide (kv.1=k):=by
 unfold KV at r
 induction r with
 |nil=>rfl
 |cons h t ih=>rw[j5,j5,ih,h.1]
theorem KV.repl{kvs:List (κ×V)}{vs:List (κ×xj)}(r:KV kvs vs)(k:κ)(ry:RelV y u):
  KV (kvs.map λkv=>if kv.1=k then(kv.1,y)else kv) (vs.map λkv=>if kv.1=k then(kv.1,u)else kv):=by
 unfold KV at r⊢
 induction r with
 |nil=>exact .nil
 |@cons p q ps qs h t ih=>
  rw[zk,zk];refine .cons ?_ ih;obtain⟨h1,h2⟩:=h;by_cases e:p.1=k
  ·rw[if_pos e,if_pos (h1.symm.trans e)];exact⟨h1,ry⟩
  ·rw[if_neg e,if_neg (λz=>e (h1.trans z))];exact⟨h1,h2⟩
theorem KV.put{kvs:List (κ×V)}{vs:List (κ×xj)}(r:KV kvs vs)(k:κ)(ry:RelV y u):KV (putK kvs k y) (stored vs k u):=by
 unfold putK stored;rw[r.any k];by_cases e:(vs.any λkv=>decide (kv.1=k))=vG
 ·rw[if_pos e,if_pos e];exact r.repl k ry
 ·rw[if_neg e,if_neg e];exact Paired.snoc r ⟨rfl,ry⟩
end
theorem ZD6{k:Key}(r:RelV (kV k) u):(Ih P w).is k u=vG:=by
 cases k with
 |inl i=>obtain⟨t,e⟩:=(show∃t,u=Value.int i t from r);subst e;exact ZPN P w i t
 |inr x=>obtain⟨t,e⟩:=(show∃t,u=Value.str x t from r);subst e;exact ZSd P w x t
theorem ZHm:∀{ks:List Key}{us:List xj},Vals (ks.map kV) us->ItemsAre (Ih P w) ks us
 |[],_,r=>by rw[jC]at r;cases r;exact .nil
 |k::ks,_,r=>by
  rw[zk]at r;cases r with
  |cons h t=>exact .cons (ZD6 h) (ZHm t)
abbrev KT(H:Hp):List (List Key×V)->List (List Key×xZ×xj)->Prop:=Paired λp q=>p.1=q.1/\H q.2.1=vE (.tup (p.1.map kV))/\RelV p.2 q.2.2
theorem KT.val{kvs:List (List Key×V)}{xs:List (List Key×xZ×xj)}(r:KT H kvs xs)(k:List Key):RelO (Hu kvs k) ((atKey xs k).map (·.2)):=by
 induction r with
 |nil=>exact True.intro
 | @cons p q ps qs h t ih=>
  obtain⟨h1,_,h2⟩:=h;by_cases e:p.1=k
  ·have e':q.1=k:=h1.symm.trans e;have b:atKey (q::qs) k=vE q.2:=by simp[atKey,qV,e']
   rw[ZFz e,b];exact h2
  ·have e':¬q.1=k:=λz=>e (h1.trans z)
   have b:atKey (q::qs) k=atKey qs k:=by simp[atKey,qV,e']
   rw[ZIh e,b];exact ih
section
variable{P:xK}{w:xw}{H:Hp}{h:Heap}{a:xZ}
theorem ZJV{u:HO}(ok:HOk P w H h)(e:Rd H a u):ObjOk P w H h a u:=e.ok ok
theorem ZAn(ok:HOk P w H h)(e:Rd H a (.dK kvs)):kvs.length<=sizeLine/\(a==sysModules)=vH/\∃vs,KV kvs vs/\h.DictOf (Ih P w) a vs:=
 show ObjOk P w H h a (.dK kvs)from ZJV ok e
theorem ZN6(ok:HOk P w H h)(e:H a=vE (.dK kvs)):kvs.length<=sizeLine/\(a==sysModules)=vH/\∃vs,KV kvs vs/\h.DictOf (Ih P w) a vs:=ZAn ok (.inl e)
theorem ZE4{ks:List Key}(ok:HOk P w H h)(e:H a=vE (.tup (ks.map kV))):(tupleKind (Ih P w)).is h ks a:=by
 obtain⟨_,its,r,o,h1,h2,n,h3⟩:=(show ObjOk P w H h a (.tup (ks.map kV))from ok a _ e)
 exact⟨o,its.toArray,n,h1,h2,h3,by simpa using ZHm r⟩
theorem ZHg{kvs:List (List Key×V)}(ok:HOk P w H h)(e:Rd H a (.dT kvs)):kvs.length<=sizeLine/\(a==sysModules)=vH/\
  ∃xs,KT H kvs xs/\h.DictOfH (tupleKind (Ih P w)) a xs:=by
 obtain⟨z,y,xs,r,o,es,ep,h1,h2,h3,h4,h5⟩:=(show ObjOk P w H h a (.dT kvs)from ZJV ok e)
 refine⟨z,y,xs,r,o,es,ep,h1,h2,h3,h4,λx hx=>?_,h5⟩;have all:∀{l:List (List Key×V)}{m:List (List Key×xZ×xj)},KT H l m->∀x∈m,(tupleKind (Ih P w)).is h x.1 x.2.1:=by
  intro l m q
  induction q with
  |nil=>intro x hx;exact nomatch hx
  |@cons p q ps qs hq t ih=>
   intro x hx;rcases zw.mp hx with e|hx
   ·subst e;exact ZE4 ok (by rw[<-hq.1];exact hq.2.1)
   ·exact ih x hx
 exact all r x hx
end
def DGet(H:Hp)(a:xZ)(y:V)(r:Option V):Prop:=
 (∃kvs k,Rd H a (.dK kvs)/\y=kV k/\r=Hu kvs k)∨∃kvs k b,Rd H a (.dT kvs)/\y=.ref b/\H b=vE (.tup (k.map kV))/\r=Hu kvs k
theorem DGet.k{k:Key}(e:H a=vE (.dK kvs)):DGet H a (kV k) (Hu kvs k):=.inl ⟨kvs,k,.inl e,rfl,rfl⟩
section
variable{X:Cx}{vD:List (xZ×Obj)}{σ:St}{H:Hp}{s:xq}{a:xZ}{y v:V}{u r:xj}{o:Option V}{A:xJ}{E:xj->xq->Prop}
theorem Inv.big(I:Inv X vD σ H s):sysModules<s.heap.objs.size:=by have h:vQ<s.heap.objs.size:=(I.mod.glob.keeps I.bk).lt;exact Nat.lt_trans (by decide) h
theorem ZPB{Q:xj->xq->Prop}(hu:A.units+1<cLine)(I:Inv X vD σ H s)(g:DGet H a y (vE v))(ry:RelV y u)(h:∀w' s',Inv X vD σ H s'->RelV v w'->Q w' s'):
  vY (vZ X.prog X.w) A (getItem (.ref a) u) Q E s:=by
 rcases g with⟨kvs,k,e,ey,l⟩|⟨kvs,k,b,e,ey,eb,l⟩
 ·subst ey;obtain⟨z,hd,vs,rel,dd⟩:=ZAn I.hok e;obtain⟨w',hw,rw'⟩:=RelO.some_of (v:=v) (o:=valueAt vs k) (by rw[l];exact rel.val k);exact wpAny_getItem_of (ZD6 ry) dd.mapOf hw (h w' _ (I.tok _) rw')
 ·subst ey
  cases(show u=Value.ref b from ry)
  obtain⟨z,hd,xs,rel,dd⟩:=ZHg I.hok e
  obtain⟨w',hw,rw'⟩:=RelO.some_of (v:=v) (o:=(atKey xs k).map (·.2)) (by rw[l];exact rel.val k)
  obtain⟨p,hp,hp2⟩:=zI.mp hw;refine wpAny_getItem_heap (tupleKind_room_in1 hu) (ZE4 I.hok eb) dd hp ?_;rw[hp2];exact h w' _ (I.tok _) rw'
theorem ZM3{h':Heap}{t':Nat}{ob:HO}(I:Inv X vD σ H s)(mu:Mut (H a))(hs:qj a s.heap h')(he:∃q,h'.get? a=vE q)(new:ObjOk X.prog X.w (upd H a ob) h' a ob):
  Inv X vD σ (upd H a ob) {s with heap:=h',toks:=t'}:=
 I.write (x:=a) (e:=a) mu (.inl rfl) (λb q hb z=>(hs.2 b hb).trans z) he new
theorem ZMC{H':Hp}{h':Heap}{vs:List (Key×xj)}(z:kvs.length<=sizeLine)(hd:(a==sysModules)=vH)(rel:KV kvs vs)(dd:h'.DictOf (Ih P w) a vs):
  ObjOk P w H' h' a (.dK kvs):=⟨z,hd,vs,rel,dd⟩
end
section
variable{X:Cx}{vD:List (xZ×Obj)}{σ:St}{H:Hp}{s:xq}{a:xZ}{kvs:List (Key×V)}{k:Key}{u:xj}{A:xJ}{E:xj->xq->Prop}
end
theorem ZOi{vD:List (xZ×Obj)}{σ:St}{s:xq}{o:Option V}(I:Inv X vD σ H s)(g:DGet H a y o):s.TypeIs (.ref a) "dict":=by
 rcases g with⟨kvs,k,e,_,_⟩|⟨kvs,k,b,e,_,_,_⟩
 ·obtain⟨_,_,vs,_,dd⟩:=ZAn I.hok e;exact dd.typeIs
 ·obtain⟨_,_,xs,_,dd⟩:=ZHg I.hok e;exact dd.typeIs
section
variable{X:Cx}{o i e value:xX}{pos pos' tpos:Pos}{td ty tv:TE}
end
theorem ZSu(h:Heap)(hb:sysModules<h.objs.size):ObjOk P w H (h.push {cls:=.type "dict",data:=.dict #[]}) h.objs.size (.dK []):=
 ⟨j8 _,beq_eq_false_iff_ne.mpr (Ne.symm (zE hb)),[],.nil,Heap.DictOf.new h⟩
section
variable{X:Cx}{pos:Pos}
end
def Wo:List (TE×TE)->St->Hp->(List (V×V)->Hp->Prop)->Prop
 |[],_,H,Q=>Q [] H
 |(tk,tv)::r,σ,H,Q=>tk σ H λx H1=>tv σ H1 λy H2=>Wo r σ H2 λps H3=>Q ((x,y)::ps) H3
abbrev VV:List (V×V)->List (xj×xj)->Prop:=Paired λp q=>RelV p.1 q.1/\RelV p.2 q.2
def PPs(X:Cx)(pos:Pos)(keys:List (Option xX))(values:List xX)(trs:List (TE×TE)):Prop:=
 ∀(vD:List (xZ×Obj))(s:xq)(σ:St)(H:Hp)(Q:List (V×V)->Hp->Prop),Inv X vD σ H s->Wo trs σ H Q->
  vY (vZ X.prog X.w) X.A (evalPairs (pairTrees keys values X.env pos)) (λvs s'=>∃ps H',Inv X vD σ H' s'/\VV ps vs/\Q ps H') X.xe s
theorem ZLf:PPs X pos [] [] []:=λvD s σ H Q I h=>pairTrees_nil_walk ⟨[],H,I,.nil,h⟩
theorem ZRr{k v:xX}{ks:List (Option xX)}{vs:List xX}{tk tv:TE}{trs:List (TE×TE)}(hk:PE X k tk)(hv:PE X v tv)(hr:PPs X pos ks vs trs):
  PPs X pos (vE k::ks) (v::vs) ((tk,tv)::trs):=λvD s σ H Q I h=>
 pairTrees_cons_walk (thn (hk vD s σ H _ I h) λu s1 ⟨x,H1,I1,rx,q1⟩=>thn (hv vD s1 σ H1 _ I1 q1) λw2 s2 ⟨y,H2,I2,ry,q2⟩=>
  thn (hr vD s2 σ H2 _ I2 q2) λws s3 ⟨ps,H3,I3,rel,q3⟩=>⟨(x,y)::ps,H3,I3,.cons ⟨rx,ry⟩ rel,q3⟩)
def Ni(kvs more:List (Key×V)):List (Key×V):=more.foldl (λacc kv=>putK acc kv.1 kv.2) kvs
theorem KV.merge:∀{more:List (Key×V)}{rs:List (Key×xj)}{kvs:List (Key×V)}{vs:List (Key×xj)},KV more rs->KV kvs vs->KV (Ni kvs more) (merged vs rs):=by
 intro more rs kvs vs r;unfold KV at r
 induction r generalizing kvs vs with
 |nil=>intro q;exact q
 |@cons p q ps qs h t ih=>
  intro r0;have e:KV (putK kvs p.1 p.2) (stored vs q.1 q.2):=by have:=r0.put p.1 h.2;rw[<-h.1];exact this
  exact ih e
theorem ZFw:∀(more kvs:List (Key×V)),(Ni kvs more).length<=kvs.length+more.length
 |[],kvs=>by show kvs.length<=kvs.length+0;lia
 |p::r,kvs=>by have h1:=ZFw r (putK kvs p.1 p.2);have h2:=ZPh kvs p.1 p.2;show(Ni (putK kvs p.1 p.2) r).length<=_;rw[zO];lia
theorem ZIb{P:xK}{w:xw}:∀{kvs:List (Key×V)}{ws:List (xj×xj)},VV (kvs.map λkv=>(kV kv.1,kv.2)) ws->∃rs,Carries (Ih P w) ws rs/\KV kvs rs
 |[],_,r=>by rw[jC]at r;cases r;exact⟨[],True.intro,.nil⟩
 | p::kvs,_,r=>by
  rw[zk]at r;cases r with
  |@cons a b as bs h t=>
   obtain⟨rs,c,q⟩:=ZIb (P:=P) (w:=w) t;obtain⟨b1,b2⟩:=b;exact⟨(p.1,b2)::rs,⟨ZD6 h.1,rfl,c⟩,.cons ⟨rfl,h.2⟩ q⟩
def ZPQ(trs:List (TE×TE)):TE:=λσ H Q=>∀p,H p=vF->Wo trs σ (upd H p (.dK [])) λps H2=>H2 p=vE (.dK [])/\∃kvs:List (Key×V),ps=kvs.map (λkv=>(kV kv.1,kv.2))/\kvs.length<=15/\Q (.ref p) (upd H2 p (.dK (Ni [] kvs)))
theorem ZMs{keys:List (Option xX)}{values:List xX}{trs:List (TE×TE)}(h:PPs X pos keys values trs)(hall:keys.all (·.isSome)=vG)(hl:keys.length=values.length)(h0:keys≠[])
  (h15:keys.length<=15):PE X (.Dict keys values pos) (ZPQ trs):=by
 intro vD s σ H Q I q;have hn:=I.hok.fresh (zK s.heap.objs.size);have I1:=I.laid (a:=s.heap.objs.size) (o:=.dK []) (h':=s.heap.push {cls:=.type "dict",data:=.dict #[]}) (t':=s.toks) (λ_ _ q=>zQ _ q) (zK _) (ZSu s.heap I.big);refine wpAny_Dict_walk (knd:=Ih X.prog X.w) hall hl h0 h15 (thn (h vD _ σ _ _ I1 (q _ hn)) λws s2 ⟨ps,H2,I2,rel,e,kvs,ep,lk,q2⟩=>?_)
 subst ep;obtain⟨rs,c,rk⟩:=ZIb (P:=X.prog) (w:=X.w) rel;obtain⟨z,hd,vs0,r0,dd⟩:=ZN6 I2.hok e;cases r0;refine⟨rs,c,dd,λh' dd' hs=>⟨.ref s.heap.objs.size,_,?_,rfl,q2⟩⟩;have hz:(Ni [] kvs).length<=sizeLine:=by have h1:=ZFw kvs [];rw[qN]at h1;rw[vX];lia
 have he:∃q,h'.get? s.heap.objs.size=vE q:=let⟨q,_,_,hq,_⟩:=dd';⟨q,hq⟩;exact ZM3 I2 (by rw[e];exact True.intro) hs he (ZMC hz hd (rk.merge .nil) dd')
section
variable{X:Cx}{vD:List (xZ×Obj)}{σ:St}{H:Hp}{s:xq}{a:xZ}{y d:V}{u r:xj}{o:Option V}{A:xJ}{E:xj->xq->Prop}
end
section
variable{X:Cx}{o e f:xX}{apos cpos:Pos}{td ty tx:TE}
end
section
variable{X:Cx}{vD:List (xZ×Obj)}{σ:St}{H:Hp}{s:xq}{a:xZ}{kvs:List (Key×V)}{A:xJ}{E:xj->xq->Prop}
end
section
variable{X:Cx}{vD:List (xZ×Obj)}{σ:St}{H:Hp}{s:xq}{a:xZ}{y:V}{u:xj}{A:xJ}{E:xj->xq->Prop}
end
section
variable{X:Cx}
end
end _L
namespace _L
section
variable{κ:Type}[DecidableEq κ]
end
end _L
namespace _D
open PySem PySem.Spec _L
open PyProof.Rows hiding St
variable{α β:Type}{K:PySem.W.Frag}{H:Hp}{p:xZ}{v y:V}{vs:List V}{σ:St}{E:XK}{Q:VK}{W:Ends}{e tg:xX}{ho:HO}{i j nt:Nat}{x:Str}{A:xJ}{s:xq}{P:xK}{w:xw}{scope:xY}{env:Env}{X:Cx}
inductive D where
 |non|bl (b:Bool)|int (i:Int)|str (x:Str)|ty (n:String)
 |tup (xs:List D)
 |fl (xs:List D)
 |ref (i:Nat)
variable{d:D}{ds xs:List D}{kvs:List (Key×D)}
inductive DO where
 |lst (xs:List D)
 |dct (kvs:List (Key×D))
 |ins (c:Str) (fs:List (Str×D))
 |tab (c m:Str)
 |gone
variable{o:DO}
noncomputable abbrev DH:=List DO
variable{G G' L:DH}
noncomputable abbrev DSt:=List (Option D)
variable{S:DSt}
structure Xn where
 cls:Str
 fs:List (Str×D)
inductive R (α:Type) where
 |ok (a:α) (G:DH)
 |err (x:Xn) (G:DH)
 |bad
variable{r:R D}{f:D->D->DH->R D}
noncomputable def R.bind{α β:Type}(r:R α)(f:α->DH->R β):R β:=match r with
 |.ok a G=>f a G
 |.err x G=>.err x G
 |.bad=>.bad
@[simp]theorem R.Ji(a:α)(G:DH)(f:α->DH->R β):(R.ok a G).bind f=f a G:=id rfl
@[simp]theorem R.ZUu(f:α->DH->R β):(R.bad:R α).bind f=.bad:=id rfl
inductive SR where
 |nx (S:DSt) (G:DH)
 |rt (d:D) (G:DH)
 |bk (S:DSt) (G:DH)
 |ct (S:DSt) (G:DH)
 |err (x:Xn) (G:DH)
 |bad
noncomputable abbrev DE:=DSt->DH->R D
variable{t te:DE}
noncomputable abbrev DB:=DSt->DH->R Bool
noncomputable abbrev DA:=DSt->DH->R (List D)
noncomputable abbrev DS:=DSt->DH->SR
variable{u:DS}
def FzL(K:PySem.W.Frag)(H:Hp)(a:xZ)(xs:List V):Prop:=
 (∃o,H a=vE (.frz o (.lst xs)))∨
  ∃(o:Obj)(its:Array xj)(n:Nat),K.lookup a=vE o/\o.cls=.type "list"/\o.dict=vF/\o.data=.seq its n/\its.size<=sizeLine/\Vals xs its.toList
theorem FzL.sq{a:xZ}{xs:List V}(h:FzL K H a xs):SqL K H a xs:=by
 rcases h with⟨o,h⟩|h
 ·exact .inl (.inr ⟨o,h⟩)
 ·exact .inr h
structure Wd where
 K:PySem.W.Frag
 n:Nat
 m:Nat->xZ
 H:Hp
variable{a b c:Wd}
mutual
def Rep(a:Wd):D->V->Prop
 |.non,v=>v=.non
 |.bl b,v=>v=.bl b
 |.int i,v=>v=.int i
 |.str x,v=>v=.str x
 |.ty n,v=>v=.ty n
 |.tup ds,v=>∃p vs,v=.ref p/\SqT a.K a.H p vs/\Reps a ds vs
 |.fl ds,v=>∃p vs,v=.ref p/\FzL a.K a.H p vs/\Reps a ds vs
 |.ref i,v=>i<a.n/\v=.ref (a.m i)
def Reps(a:Wd):List D->List V->Prop
 |[],vs=>vs=[]
 |d::ds,vs=>∃v r,vs=v::r/\Rep a d v/\Reps a ds r
end
noncomputable def lamQ:Str:="Sending.send_by.<locals>.<lambda>"
def TabOk(H:Hp)(P:xZ):Prop:=
 ∃ps:Array xj,H P=vE (.tbl ps)/\TriplesOk ps.toList/\∀pos cv,codeAmong pos ps.toList=vE cv->∃(c:xZ)(oc:Obj)(vs:Array xj)(t:Tok),cv=.ref c/\H c=vE (.frz oc (.own 0))/\oc.data=.fields vs/\vs[1]?=vE (.str lamQ t)
theorem TabOk.mono{H':Hp}{P:xZ}(h:TabOk H P)(ht:∀p ps,H p=vE (.tbl ps)->H' p=vE (.tbl ps))(hf:∀p o u,H p=vE (.frz o u)->H' p=vE (.frz o u)):TabOk H' P:=by obtain⟨ps,e,t,k⟩:=h;refine⟨ps,ht _ _ e,t,λpos cv hc=>?_⟩;obtain⟨c,oc,vs,tk,e1,e2,e3,e4⟩:=k pos cv hc;exact⟨c,oc,vs,tk,e1,hf _ _ _ e2,e3,e4⟩
def TabAt(K:PySem.W.Frag)(C m:Str)(c P:xZ):Prop:=
 ∃(Ca f:xZ)(oc:xj)(od:Option xZ)(fd:xV)(sl:Array (Option xj)),PySem.W.nsIn K vQ C=vE (vE (.ref Ca))/\PySem.W.findIn K (.ref Ca) m=vE (vE (.ref f))/\K.lookup f=vE ⟨oc,od,.func fd,sl⟩/\fd.code=.ref c/\PySem.W.codeHdIn K c P=vG
structure Ext (a b:Wd):Prop where
 k:b.K=a.K
 n:a.n<=b.n
 m:∀i,i<a.n->b.m i=a.m i
 tup:∀p xs,a.H p=vE (.tup xs)->b.H p=vE (.tup xs)
 frz:∀p o u,a.H p=vE (.frz o u)->b.H p=vE (.frz o u)
 tab:∀p,TabOk a.H p->TabOk b.H p
theorem Ext.refl(a:Wd):Ext a a:=⟨rfl,zK _,λ_ _=>rfl,λ_ _ h=>h,λ_ _ _ h=>h,λ_ h=>h⟩
theorem Ext.trans(x:Ext a b)(y:Ext b c):Ext a c:=
 ⟨y.k.trans x.k,zB x.n y.n,λi h=>(y.m i (zq h x.n)).trans (x.m i h),λp xs h=>y.tup p xs (x.tup p xs h),λp o u h=>y.frz p o u (x.frz p o u h),λp h=>y.tab p (x.tab p h)⟩
theorem Ext.sqT(x:Ext a b){xs:List V}(h:SqT a.K a.H p xs):SqT b.K b.H p xs:=by
 rcases h with(h|⟨o,h⟩)|h
 ·exact .inl (.inl (x.tup _ _ h))
 ·exact .inl (.inr ⟨o,x.frz _ _ _ h⟩)
 ·exact .inr (by rw[x.k];exact h)
theorem Ext.fzL(x:Ext a b){xs:List V}(h:FzL a.K a.H p xs):FzL b.K b.H p xs:=by
 rcases h with⟨o,h⟩|h
 ·exact .inl ⟨o,x.frz _ _ _ h⟩
 ·exact .inr (by rw[x.k];exact h)
mutual
theorem Rep.mono(x:Ext a b):∀{d:D}{v:V},Rep a d v->Rep b d v
 |.non,_,h=>h
 |.bl _,_,h=>h
 |.int _,_,h=>h
 |.str _,_,h=>h
 |.ty _,_,h=>h
 |.tup ds,v,h=>by obtain⟨p,vs,e,q,r⟩:=h;exact⟨p,vs,e,x.sqT q,Reps.mono x r⟩
 |.fl ds,v,h=>by obtain⟨p,vs,e,q,r⟩:=h;exact⟨p,vs,e,x.fzL q,Reps.mono x r⟩
 |.ref i,v,h=>by obtain⟨l,e⟩:=h;exact⟨zq l x.n,by rw[x.m i l];exact e⟩
theorem Reps.mono(x:Ext a b):∀{ds:List D}{vs:List V},Reps a ds vs->Reps b ds vs
 |[],_,h=>h
 |d::ds,vs,h=>by obtain⟨v,r,e,h1,h2⟩:=h;exact⟨v,r,e,Rep.mono x h1,Reps.mono x h2⟩
end
theorem Reps.length:∀{ds:List D}{vs:List V},Reps a ds vs->ds.length=vs.length
 |[],vs,h=>by cases(show vs=[]from h);rfl
 |d::ds,vs,h=>by obtain⟨v,r,e,h1,h2⟩:=h;subst e;show ds.length+1=r.length+1;rw[Reps.length h2]
theorem Reps.get:∀{ds:List D}{vs:List V}{i:Nat}{d:D},Reps a ds vs->ds[i]?=vE d->∃v,vs[i]?=vE v/\Rep a d v
 |[],vs,_,_,h,e=>by simp at e
 |d::ds,vs,0,d',h,e=>by obtain⟨v,r,e1,h1,h2⟩:=h;subst e1;simp at e;subst e;exact⟨v,rfl,h1⟩
 |d::ds,vs,i+1,d',h,e=>by obtain⟨v,r,e1,h1,h2⟩:=h;subst e1;obtain⟨w,e2,h3⟩:=Reps.get (i:=i) (d:=d') h2 (by simpa using e);exact⟨w,by simpa using e2,h3⟩
theorem Reps.get':∀{ds:List D}{vs:List V}{i:Nat}{v:V},Reps a ds vs->vs[i]?=vE v->∃d,ds[i]?=vE d/\Rep a d v
 |[],vs,_,_,h,e=>by cases(show vs=[]from h);simp at e
 |d::ds,vs,0,v',h,e=>by obtain⟨v,r,e1,h1,h2⟩:=h;subst e1;simp at e;subst e;exact⟨d,rfl,h1⟩
 |d::ds,vs,i+1,v',h,e=>by obtain⟨v,r,e1,h1,h2⟩:=h;subst e1;obtain⟨w,e2,h3⟩:=Reps.get' (i:=i) (v:=v') h2 (by simpa using e);exact⟨w,by simpa using e2,h3⟩
theorem Reps.append:∀{ds es:List D}{vs us:List V},Reps a ds vs->Reps a es us->Reps a (ds++es) (vs++us)
 |[],_,vs,_,h,h'=>by cases(show vs=[]from h);exact h'
 |d::ds,es,vs,us,h,h'=>by obtain⟨v,r,e1,h1,h2⟩:=h;subst e1;exact⟨v,r++us,rfl,h1,Reps.append h2 h'⟩
theorem Reps.cons(h:Rep a d v)(r:Reps a ds vs):Reps a (d::ds) (v::vs):=⟨v,vs,rfl,h,r⟩
theorem Reps.nil:Reps a [] []:=rfl
theorem Reps.set(h:Rep a d v):∀{ds:List D}{vs:List V}(i:Nat),Reps a ds vs->Reps a (ds.set i d) (vs.set i v)
 |[],vs,_,r=>by cases(show vs=[]from r);exact rfl
 |d'::ds,vs,0,r=>by obtain⟨v',r',e1,h1,h2⟩:=r;subst e1;exact⟨v,r',rfl,h,h2⟩
 |d'::ds,vs,i+1,r=>by obtain⟨v',r',e1,h1,h2⟩:=r;subst e1;exact⟨v',r'.set i v,rfl,h1,Reps.set h i h2⟩
theorem Reps.take:∀{ds:List D}{vs:List V}(i:Nat),Reps a ds vs->Reps a (ds.take i) (vs.take i)
 |_,_,0,_=>rfl
 |[],vs,_+1,r=>by cases(show vs=[]from r);exact rfl
 |d'::ds,vs,i+1,r=>by obtain⟨v',r',e1,h1,h2⟩:=r;subst e1;exact⟨v',r'.take i,rfl,h1,Reps.take i h2⟩
theorem Reps.drop:∀{ds:List D}{vs:List V}(i:Nat),Reps a ds vs->Reps a (ds.drop i) (vs.drop i)
 |_,_,0,r=>r
 |[],vs,_+1,r=>by cases(show vs=[]from r);exact rfl
 |d'::ds,vs,i+1,r=>by obtain⟨v',r',e1,h1,h2⟩:=r;subst e1;exact Reps.drop i h2
theorem Reps.ints:∀(ns:List Int),Reps a (ns.map D.int) (ns.map V.int)
 |[]=>rfl
 |n::ns=>⟨.int n,ns.map V.int,rfl,rfl,Reps.ints ns⟩
def RepKV(a:Wd)(kvs:List (Key×D))(us:List (Key×V)):Prop:=kvs.map (·.1)=us.map (·.1)/\Reps a (kvs.map (·.2)) (us.map (·.2))
def RepF(a:Wd)(fs:List (Str×D))(us:List (Str×V)):Prop:=fs.map (·.1)=us.map (·.1)/\Reps a (fs.map (·.2)) (us.map (·.2))
def ORep(a:Wd):DO->Option HO->Prop
 |.lst ds,o=>∃vs,o=vE (.lst vs)/\Reps a ds vs
 |.dct kvs,o=>∃us,o=vE (.dK us)/\RepKV a kvs us
 |.ins c fs,o=>∃C dx us,PySem.W.nsIn a.K vQ c=vE (vE (.ref C))/\o=vE (.ins C dx us)/\RepF a fs us
 |.tab C m,_=>∃c P,TabAt a.K C m c P/\TabOk a.H P
 |.gone,_=>True
structure Sim (a:Wd) (G:DH):Prop where
 len:G.length=a.n
 inj:∀i j,i<a.n->j<a.n->a.m i=a.m j->i=j
 obj:∀(i:Nat)(o:DO),G[i]?=vE o->ORep a o (a.H (a.m i))
 tr:∀i,i<a.n->a.H (a.m i)≠vF
structure RepS (a:Wd) (S:DSt) (σ:St):Prop where
 len:S.length=σ.length
 get:∀(i:Nat)(d:D),S[i]?=vE (vE d)->∃v,σ[i]?=vE (vE v)/\Rep a d v
theorem RepS.mono(x:Ext a b)(r:RepS a S σ):RepS b S σ:=⟨r.len,λi d h=>let⟨v,e,q⟩:=r.get i d h;⟨v,e,q.mono x⟩⟩
theorem RepS.set(r:RepS a S σ)(i:Nat)(h:Rep a d v):RepS a (S.set i (vE d)) (σ.set i (vE v)):=by
 refine⟨by simpa using r.len,λj e he=>?_⟩;rw[qO]at he⊢;by_cases hij:i=j
 ·subst hij;rw[if_pos rfl]at he⊢;by_cases hl:i<S.length
  ·rw[if_pos hl]at he;have e1:d=e:=by simpa using he
   subst e1;rw[if_pos (by rw[<-r.len];exact hl)];exact⟨v,rfl,h⟩
  ·rw[if_neg hl]at he;cases he
 ·rw[if_neg hij]at he⊢;exact r.get j e he
def XOk(E:XK)(a:Wd)(x:Xn)(G:DH):Prop:=False
def out(E:XK)(a:Wd)(r:R D)(Q:VK):Prop:=match r with
 |.ok d G=>∀(b:Wd)(v:V),Ext a b->Sim b G->Rep b d v->Q v b.H
 |.err x G=>XOk E a x G
 |.bad=>False
def Hb(E:XK)(a:Wd)(r:R Bool)(Q:Bool->Hp->Prop):Prop:=match r with
 |.ok k G=>∀(b:Wd),Ext a b->Sim b G->Q k b.H
 |.err x G=>XOk E a x G
 |.bad=>False
def Ha(E:XK)(a:Wd)(r:R (List D))(Q:List V->Hp->Prop):Prop:=match r with
 |.ok ds G=>∀(b:Wd)(vs:List V),Ext a b->Sim b G->Reps b ds vs->Q vs b.H
 |.err x G=>XOk E a x G
 |.bad=>False
def Dg(E:XK)(a:Wd)(r:SR)(W:Ends):Prop:=match r with
 |.nx S G=>∀(b:Wd)(σ:St),Ext a b->Sim b G->RepS b S σ->W.nx σ b.H
 |.bk S G=>∀(b:Wd)(σ:St),Ext a b->Sim b G->RepS b S σ->W.bk σ b.H
 |.ct S G=>∀(b:Wd)(σ:St),Ext a b->Sim b G->RepS b S σ->W.ct σ b.H
 |.rt d G=>∀(b:Wd)(v:V),Ext a b->Sim b G->Rep b d v->W.rt v b.H
 |.err x G=>XOk E a x G
 |.bad=>False
theorem XOk.mono(x:Ext a b){e:Xn}(h:XOk E a e G):XOk E b e G:=h
theorem out.mono(x:Ext a b)(h:out E a r Q):out E b r Q:=by
 cases r with
 |ok d G=>exact λc v y s q=>h c v (x.trans y) s q
 |err e G=>exact XOk.mono (E:=E) (e:=e) (G:=G) x h
 |bad=>exact h
theorem Hb.mono(x:Ext a b){r:R Bool}{Q:Bool->Hp->Prop}(h:Hb E a r Q):Hb E b r Q:=by
 cases r with
 |ok d G=>exact λc y s=>h c (x.trans y) s
 |err e G=>exact XOk.mono (E:=E) (e:=e) (G:=G) x h
 |bad=>exact h
theorem Ha.mono(x:Ext a b){r:R (List D)}{Q:List V->Hp->Prop}(h:Ha E a r Q):Ha E b r Q:=by
 cases r with
 |ok d G=>exact λc vs y s q=>h c vs (x.trans y) s q
 |err e G=>exact XOk.mono (E:=E) (e:=e) (G:=G) x h
 |bad=>exact h
theorem Dg.mono(x:Ext a b){r:SR}(h:Dg E a r W):Dg E b r W:=by
 cases r with
 |nx d G=>exact λc vs y s q=>h c vs (x.trans y) s q
 |bk d G=>exact λc vs y s q=>h c vs (x.trans y) s q
 |ct d G=>exact λc vs y s q=>h c vs (x.trans y) s q
 |rt d G=>exact λc vs y s q=>h c vs (x.trans y) s q
 |err e G=>exact XOk.mono (E:=E) (e:=e) (G:=G) x h
 |bad=>exact h
def lE(K:PySem.W.Frag)(E:XK)(t:DE):TE:=λσ H Q=>∃(a:Wd)(S:DSt)(G:DH),a.K=K/\a.H=H/\Sim a G/\RepS a S σ/\out E a (t S G) Q
def lB(K:PySem.W.Frag)(E:XK)(t:DB):TT:=λσ H Q=>∃(a:Wd)(S:DSt)(G:DH),a.K=K/\a.H=H/\Sim a G/\RepS a S σ/\Hb E a (t S G) Q
def lA(K:PySem.W.Frag)(E:XK)(t:DA):TA:=λσ H Q=>∃(a:Wd)(S:DSt)(G:DH),a.K=K/\a.H=H/\Sim a G/\RepS a S σ/\Ha E a (t S G) Q
def lS(K:PySem.W.Frag)(E:XK)(t:DS):TS:=λW σ H=>∃(a:Wd)(S:DSt)(G:DH),a.K=K/\a.H=H/\Sim a G/\RepS a S σ/\Dg E a (t S G) W
def lR2(K:PySem.W.Frag)(E:XK)(f:D->D->DH->R D):R2:=λx y H Q=>∃(a:Wd)(G:DH)(d e:D),a.K=K/\a.H=H/\Sim a G/\Rep a d x/\Rep a e y/\out E a (f d e G) Q
def lR1(K:PySem.W.Frag)(E:XK)(f:D->DH->R D):V->Hp->VK->Prop:=λx H Q=>∃(a:Wd)(G:DH)(d:D),a.K=K/\a.H=H/\Sim a G/\Rep a d x/\out E a (f d G) Q
def lRn(K:PySem.W.Frag)(E:XK)(f:List D->DH->R D):List V->Hp->VK->Prop:=λxs H Q=>∃(a:Wd)(G:DH)(ds:List D),a.K=K/\a.H=H/\Sim a G/\Reps a ds xs/\out E a (f ds G) Q
def lF(K:PySem.W.Frag)(f:List D->DH->R D):Sp:=λxs H Q E=>∃(a:Wd)(G:DH)(ds:List D),a.K=K/\a.H=H/\Sim a G/\Reps a ds xs/\out E a (f ds G) Q
section
variable{X:Cx}{E:XK}
def QE(X:Cx)(E:XK)(e:xX)(t:DE):Prop:=PE X e (lE X.K E t)
def QT(X:Cx)(E:XK)(e:xX)(t:DB):Prop:=PT X e (lB X.K E t)
def QA(X:Cx)(E:XK)(es:List xX)(t:DA):Prop:=PA X es (lA X.K E t)
def QS(X:Cx)(E:XK)(st:xz)(t:DS):Prop:=PS X st (lS X.K E t)
def QSs(X:Cx)(E:XK)(st:List xz)(t:DS):Prop:=PSs X st (lS X.K E t)
theorem _root_._L.PE.mono{t t':TE}(h:PE X e t)(w:∀σ H Q,t' σ H Q->t σ H Q):PE X e t':=λvD s σ H Q I q=>h vD s σ H Q I (w σ H Q q)
theorem _root_._L.PT.mono{t t':TT}(h:PT X e t)(w:∀σ H Q,t' σ H Q->t σ H Q):PT X e t':=λvD s σ H Q I q=>h vD s σ H Q I (w σ H Q q)
theorem _root_._L.PA.mono{e:List xX}{t t':TA}(h:PA X e t)(w:∀σ H Q,t' σ H Q->t σ H Q):PA X e t':=λpos vD s σ H Q I q=>h pos vD s σ H Q I (w σ H Q q)
theorem _root_._L.PS.mono{e:xz}{t t':TS}(h:PS X e t)(w:∀W σ H,t' W σ H->t W σ H):PS X e t':=λvD s σ H W I q=>h vD s σ H W I (w W σ H q)
theorem _root_._L.PSs.mono{e:List xz}{t t':TS}(h:PSs X e t)(w:∀W σ H,t' W σ H->t W σ H):PSs X e t':=λvD s σ H W I q=>h vD s σ H W I (w W σ H q)
theorem _root_._L.OpR.mono{f:xj->xj->Sem xj}{r r':R2}(h:OpR X f r)(w:∀x y H Q,r' x y H Q->r x y H Q):OpR X f r':=λvD s σ H x y v u Q I rx ry q=>h vD s σ H x y v u Q I rx ry (w _ _ _ _ q)
end
theorem Gp{f:D->DH->R D}(h:out E a (r.bind f) Q):
  out E a r (λv H=>∃(b:Wd)(d:D)(G:DH),b.H=H/\Ext a b/\Sim b G/\Rep b d v/\r=.ok d G/\out E b (f d G) Q):=by
 cases r with
 |ok d G=>exact λb v x s q=>⟨b,d,G,rfl,x,s,q,rfl,out.mono x h⟩
 |err e G=>exact h
 |bad=>exact h
theorem Nf{r:R (List D)}{f:List D->DH->R D}(h:out E a (r.bind f) Q):
  Ha E a r (λvs H=>∃(b:Wd)(ds:List D)(G:DH),b.H=H/\Ext a b/\Sim b G/\Reps b ds vs/\r=.ok ds G/\out E b (f ds G) Q):=by
 cases r with
 |ok d G=>exact λb v x s q=>⟨b,d,G,rfl,x,s,q,rfl,out.mono x h⟩
 |err e G=>exact h
 |bad=>exact h
theorem ZFh{r:R Bool}{f:Bool->DH->R D}(h:out E a (r.bind f) Q):
  Hb E a r (λk H=>∃(b:Wd)(G:DH),b.H=H/\Ext a b/\Sim b G/\r=.ok k G/\out E b (f k G) Q):=by
 cases r with
 |ok d G=>exact λb x s=>⟨b,G,rfl,x,s,rfl,out.mono x h⟩
 |err e G=>exact h
 |bad=>exact h
theorem ZNO{f:D->DH->R Bool}{Q:Bool->Hp->Prop}(h:Hb E a (r.bind f) Q):
  out E a r (λv H=>∃(b:Wd)(d:D)(G:DH),b.H=H/\Ext a b/\Sim b G/\Rep b d v/\r=.ok d G/\Hb E b (f d G) Q):=by
 cases r with
 |ok d G=>exact λb v x s q=>⟨b,d,G,rfl,x,s,q,rfl,Hb.mono x h⟩
 |err e G=>exact h
 |bad=>exact h
theorem ZAi{r:R Bool}{f:Bool->DH->R Bool}{Q:Bool->Hp->Prop}(h:Hb E a (r.bind f) Q):
  Hb E a r (λk H=>∃(b:Wd)(G:DH),b.H=H/\Ext a b/\Sim b G/\r=.ok k G/\Hb E b (f k G) Q):=by
 cases r with
 |ok d G=>exact λb x s=>⟨b,G,rfl,x,s,rfl,Hb.mono x h⟩
 |err e G=>exact h
 |bad=>exact h
theorem ZNu{f:D->DH->R (List D)}{Q:List V->Hp->Prop}(h:Ha E a (r.bind f) Q):
  out E a r (λv H=>∃(b:Wd)(d:D)(G:DH),b.H=H/\Ext a b/\Sim b G/\Rep b d v/\r=.ok d G/\Ha E b (f d G) Q):=by
 cases r with
 |ok d G=>exact λb v x s q=>⟨b,d,G,rfl,x,s,q,rfl,Ha.mono x h⟩
 |err e G=>exact h
 |bad=>exact h
theorem ZTT{r:R (List D)}{f:List D->DH->R (List D)}{Q:List V->Hp->Prop}(h:Ha E a (r.bind f) Q):
  Ha E a r (λvs H=>∃(b:Wd)(ds:List D)(G:DH),b.H=H/\Ext a b/\Sim b G/\Reps b ds vs/\r=.ok ds G/\Ha E b (f ds G) Q):=by
 cases r with
 |ok d G=>exact λb v x s q=>⟨b,d,G,rfl,x,s,q,rfl,Ha.mono x h⟩
 |err e G=>exact h
 |bad=>exact h
noncomputable def R.toS{α:Type}(r:R α)(f:α->DH->SR):SR:=match r with
 |.ok a G=>f a G
 |.err x G=>.err x G
 |.bad=>.bad
@[simp]theorem R.Dl(a:α)(G:DH)(f:α->DH->SR):(R.ok a G).toS f=f a G:=id rfl
@[simp]theorem R.ZTo(f:α->DH->SR):(R.bad:R α).toS f=.bad:=id rfl
theorem J9{f:D->DH->SR}(h:Dg E a (r.toS f) W):
  out E a r (λv H=>∃(b:Wd)(d:D)(G:DH),b.H=H/\Ext a b/\Sim b G/\Rep b d v/\r=.ok d G/\Dg E b (f d G) W):=by
 cases r with
 |ok d G=>exact λb v x s q=>⟨b,d,G,rfl,x,s,q,rfl,Dg.mono x h⟩
 |err e G=>exact h
 |bad=>exact h
theorem ZFs{r:R Bool}{f:Bool->DH->SR}(h:Dg E a (r.toS f) W):
  Hb E a r (λk H=>∃(b:Wd)(G:DH),b.H=H/\Ext a b/\Sim b G/\r=.ok k G/\Dg E b (f k G) W):=by
 cases r with
 |ok d G=>exact λb x s=>⟨b,G,rfl,x,s,rfl,Dg.mono x h⟩
 |err e G=>exact h
 |bad=>exact h
section
theorem out.imp{Q':VK}(h:out E a r Q)(w:∀v H,Q v H->Q' v H):out E a r Q':=by
 cases r with
 |ok d G=>exact λb v x s q=>w _ _ (h b v x s q)
 |err e G=>exact h
 |bad=>exact h
theorem Ha.imp{r:R (List D)}{Q Q':List V->Hp->Prop}(h:Ha E a r Q)(w:∀v H,Q v H->Q' v H):Ha E a r Q':=by
 cases r with
 |ok d G=>exact λb v x s q=>w _ _ (h b v x s q)
 |err e G=>exact h
 |bad=>exact h
theorem Hb.imp{r:R Bool}{Q Q':Bool->Hp->Prop}(h:Hb E a r Q)(w:∀v H,Q v H->Q' v H):Hb E a r Q':=by
 cases r with
 |ok d G=>exact λb x s=>w _ _ (h b x s)
 |err e G=>exact h
 |bad=>exact h
def Wd.push(a:Wd)(p:xZ)(ho:HO):Wd:=⟨a.K,a.n+1,λk=>if k=a.n then p else a.m k,upd a.H p ho⟩
def Wd.put(a:Wd)(p:xZ)(ho:HO):Wd:={a with H:=upd a.H p ho}
theorem Ext.put(h:a.H p=vF):Ext a (a.put p ho):=
 ⟨rfl,zK _,λ_ _=>rfl,λq xs e=>by show upd a.H p ho q=_;rw[Bd (J8 e h)];exact e,λq o u e=>by show upd a.H p ho q=_;rw[Bd (J8 e h)];exact e,λ_ t=>t.mono (λq ps e=>by show upd a.H p ho q=_;rw[Bd (J8 e h)];exact e) (λq o u e=>by show upd a.H p ho q=_;rw[Bd (J8 e h)];exact e)⟩
theorem Ext.push(h:a.H p=vF):Ext a (a.push p ho):=
 ⟨rfl,jk _,λi hi=>by show(if i=a.n then p else a.m i)=a.m i;rw[if_neg (zE hi)],λq xs e=>by show upd a.H p ho q=_;rw[Bd (J8 e h)];exact e,λq o u e=>by show upd a.H p ho q=_;rw[Bd (J8 e h)];exact e,λ_ t=>t.mono (λq ps e=>by show upd a.H p ho q=_;rw[Bd (J8 e h)];exact e) (λq o u e=>by show upd a.H p ho q=_;rw[Bd (J8 e h)];exact e)⟩
theorem ORep.mono(x:Ext a b){q:Option HO}(h:ORep a o q):ORep b o q:=by
 cases o with
 |lst ds=>obtain⟨vs,e,r⟩:=h;exact⟨vs,e,r.mono x⟩
 |dct kvs=>obtain⟨us,e,k,r⟩:=h;exact⟨us,e,k,r.mono x⟩
 |ins c fs=>obtain⟨C,dx,us,n,e,k,r⟩:=h;exact⟨C,dx,us,by rw[x.k];exact n,e,k,r.mono x⟩
 |tab C m=>obtain⟨c,P,e,t⟩:=h;exact⟨c,P,by rw[x.k];exact e,x.tab _ t⟩
 |gone=>trivial
theorem Sim.lt(s:Sim a G)(h:G[i]?=vE o):i<a.n:=by rw[<-s.len];exact(zF.mp h).1
theorem Sim.put(s:Sim a G)(h:a.H p=vF):Sim (a.put p ho) G:=by
 refine⟨s.len,s.inj,λi o e=>?_,λi hi=>?_⟩
 ·have z:a.H (a.m i)≠vF:=s.tr i (s.lt e);have ne:a.m i≠p:=λq=>z (by rw[q];exact h)
  show ORep _ o (upd a.H p ho (a.m i));rw[Bd ne];exact(s.obj i o e).mono (Ext.put h)
 ·have z:a.H (a.m i)≠vF:=s.tr i hi;have ne:a.m i≠p:=λq=>z (by rw[q];exact h)
  show upd a.H p ho (a.m i)≠vF;rw[Bd ne];exact z
theorem Sim.push(s:Sim a G)(h:a.H p=vF)(r:ORep (a.push p ho) o (vE ho)):Sim (a.push p ho) (G++[o]):=by
 have nep:∀i,i<a.n->a.m i≠p:=λi hi q=>s.tr i hi (by rw[q];exact h)
 have old:∀i,i<a.n->(a.push p ho).m i=a.m i:=λi hi=>by show(if i=a.n then p else a.m i)=_;rw[if_neg (zE hi)]
 have new:(a.push p ho).m a.n=p:=by show(if a.n=a.n then p else a.m a.n)=_;rw[if_pos rfl]
 refine⟨by simp[s.len,Wd.push],λi j hi hj e=>?_,λi u e=>?_,λi hi=>?_⟩
 ·have hi':i<a.n+1:=hi;have hj':j<a.n+1:=hj;by_cases h1:i<a.n
  ·by_cases h2:j<a.n
   ·rw[old i h1,old j h2]at e;exact s.inj i j h1 h2 e
   ·have:j=a.n:=by lia
    subst this;rw[old i h1,new]at e;exact absurd e (nep i h1)
  ·have:i=a.n:=by lia
   subst this;by_cases h2:j<a.n
   ·rw[old j h2,new]at e;exact absurd e.symm (nep j h2)
   ·lia
 ·by_cases h1:i<a.n
  ·rw[zR (by rw[s.len];exact h1)]at e;rw[old i h1];show ORep _ u (upd a.H p ho (a.m i));rw[Bd (nep i h1)];exact(s.obj i u e).mono (Ext.push h)
  ·have hl:i<(G++[o]).length:=(zF.mp e).1;have:i=a.n:=by rw[qZ,s.len]at hl;simp at hl;lia
   subst this;rw[zG (by rw[s.len];exact zK _),s.len]at e;simp at e;subst e;rw[new];show ORep _ o (upd a.H p ho p);rw[Gj];exact r
 ·have hi':i<a.n+1:=hi;by_cases h1:i<a.n
  ·rw[old i h1];show upd a.H p ho (a.m i)≠vF;rw[Bd (nep i h1)];exact s.tr i h1
  ·have:i=a.n:=by lia
   subst this;rw[new];show upd a.H p ho p≠vF;rw[Gj];simp
theorem Ext.wr(h:a.H p=vE (.lst vs)):Ext a (a.put p ho):=
 ⟨rfl,zK _,λ_ _=>rfl,λq xs e=>by
  show upd a.H p ho q=_;rw[Bd (λz=>by subst z;rw[h]at e;cases e)];exact e,λq o u e=>by
  show upd a.H p ho q=_;rw[Bd (λz=>by subst z;rw[h]at e;cases e)];exact e,λ_ t=>t.mono (λq ps e=>by show upd a.H p ho q=_;rw[Bd (λz=>by subst z;rw[h]at e;cases e)];exact e) (λq o u e=>by show upd a.H p ho q=_;rw[Bd (λz=>by subst z;rw[h]at e;cases e)];exact e)⟩
theorem Sim.wr(s:Sim a G)(hi:i<a.n){vs':List V}{ds':List D}(h:a.H (a.m i)=vE (.lst vs))(r:Reps (a.put (a.m i) (.lst vs')) ds' vs'):Sim (a.put (a.m i) (.lst vs')) (G.set i (.lst ds')):=by
 refine⟨by rw[jv];exact s.len,s.inj,λj o e=>?_,λj hj=>?_⟩
 ·rw[qO]at e;show ORep _ o (upd a.H (a.m i) (.lst vs') (a.m j));by_cases hij:i=j
  ·subst hij;rw[if_pos rfl,if_pos (by rw[s.len];exact hi)]at e;cases e;rw[Gj];exact⟨vs',rfl,r⟩
  ·rw[if_neg hij]at e;rw[Bd λz=>hij (s.inj _ _ (s.lt e) hi z).symm];exact(s.obj j o e).mono (Ext.wr h)
 ·show upd a.H (a.m i) (.lst vs') (a.m j)≠vF;by_cases hij:a.m j=a.m i
  ·rw[hij,Gj];simp
  ·rw[Bd hij];exact s.tr j hj
mutual
noncomputable def bel(n:Nat):D->Bool
 |.ref i=>decide (i<n)
 |.tup ds=>bels n ds
 |.fl ds=>bels n ds
 |_=>vG
noncomputable def bels(n:Nat):List D->Bool
 |[]=>vG
 |d::ds=>bel n d&&bels n ds
end
def Mx(n:Nat):DO->Bool
 |.lst ds=>bels n ds
 |.dct kvs=>bels n (kvs.map (·.2))
 |.ins _ fs=>bels n (fs.map (·.2))
 |.tab _ _=>vG
 |.gone=>vG
mutual
theorem Rep.bel:∀{d:D}{v:V},Rep a d v->bel a.n d=vG
 |.non,_,_=>by simp[_D.bel]
 |.bl _,_,_=>by simp[_D.bel]
 |.int _,_,_=>by simp[_D.bel]
 |.str _,_,_=>by simp[_D.bel]
 |.ty _,_,_=>by simp[_D.bel]
 |.tup ds,v,h=>by obtain⟨p,vs,e,q,r⟩:=h;simp only[_D.bel];exact Reps.bels r
 |.fl ds,v,h=>by obtain⟨p,vs,e,q,r⟩:=h;simp only[_D.bel];exact Reps.bels r
 |.ref i,v,h=>by obtain⟨l,e⟩:=h;simp only[_D.bel];exact decide_eq_true l
theorem Reps.bels:∀{ds:List D}{vs:List V},Reps a ds vs->bels a.n ds=vG
 |[],_,_=>by simp[_D.bels]
 |d::ds,vs,h=>by
  obtain⟨v,r,e,h1,h2⟩:=h;simp only[_D.bels];rw[Rep.bel h1,Reps.bels h2]
  rfl
end
structure Cut (b c:Wd):Prop where
 k:c.K=b.K
 h:c.H=b.H
mutual
theorem Rep.cut(x:Cut b c){n:Nat}(hn:n<=c.n)(hm:∀i,i<n->c.m i=b.m i):∀{d:D}{v:V},Rep b d v->bel n d=vG->Rep c d v
 |.non,_,h,_=>h
 |.bl _,_,h,_=>h
 |.int _,_,h,_=>h
 |.str _,_,h,_=>h
 |.ty _,_,h,_=>h
 |.tup ds,v,h,q=>by obtain⟨p,vs,e,t,r⟩:=h;simp only[_D.bel]at q;exact⟨p,vs,e,by rw[x.k,x.h];exact t,Reps.cut x hn hm r q⟩
 |.fl ds,v,h,q=>by obtain⟨p,vs,e,t,r⟩:=h;simp only[_D.bel]at q;exact⟨p,vs,e,by rw[x.k,x.h];exact t,Reps.cut x hn hm r q⟩
 |.ref i,v,h,q=>by obtain⟨l,e⟩:=h;simp only[_D.bel]at q;have q':=of_decide_eq_true q;exact⟨zq q' hn,by rw[hm i q'];exact e⟩
theorem Reps.cut(x:Cut b c){n:Nat}(hn:n<=c.n)(hm:∀i,i<n->c.m i=b.m i):∀{ds:List D}{vs:List V},Reps b ds vs->bels n ds=vG->Reps c ds vs
 |[],_,h,_=>h
 |d::ds,vs,h,q=>by obtain⟨v,r,e,h1,h2⟩:=h;simp only[_D.bels,zC]at q;exact⟨v,r,e,Rep.cut x hn hm h1 q.1,Reps.cut x hn hm h2 q.2⟩
end
theorem ORep.cut(x:Cut b c){n:Nat}(hn:n<=c.n)(hm:∀i,i<n->c.m i=b.m i){q:Option HO}(h:ORep b o q)(l:Mx n o=vG):ORep c o q:=by
 cases o with
 |lst ds=>obtain⟨vs,e,r⟩:=h;exact⟨vs,e,Reps.cut x hn hm r l⟩
 |dct kvs=>obtain⟨us,e,k,r⟩:=h;exact⟨us,e,k,Reps.cut x hn hm r l⟩
 |ins c fs=>obtain⟨C,dx,us,n,e,k,r⟩:=h;exact⟨C,dx,us,by rw[x.k];exact n,e,k,Reps.cut x hn hm r l⟩
 |tab C m=>obtain⟨c,P,e,t⟩:=h;exact⟨c,P,by rw[x.k];exact e,by rw[x.h];exact t⟩
 |gone=>trivial
theorem ORep.Mx{q:Option HO}(h:ORep a o q):Mx a.n o=vG:=by
 cases o with
 |lst ds=>obtain⟨vs,e,r⟩:=h;exact r.bels
 |dct kvs=>obtain⟨us,e,k,r⟩:=h;exact r.bels
 |ins c fs=>obtain⟨C,dx,us,n,e,k,r⟩:=h;exact r.bels
 |tab C m=>rfl
 |gone=>rfl
open Classical in
def tidy (G:DH) (r:R D):R D:=match r with
 | .ok d G'=>if G'.take G.length=G then
   (if bel G.length d=vG then .ok d G else match d with
    |.ref i=>match G'[i]? with
     |some o=>if Mx G.length o=vG then .ok (.ref G.length) (G++[o])else .ok d G'
     |none=>.ok d G'
    |_=>.ok d G')else .ok d G'
 |r=>r
theorem ZIc (s:Sim a G) (h:out E a (tidy G r) Q):out E a r Q:=by
 cases r with
 |err e G'=>exact h
 |bad=>exact h
 | ok d G'=>
  intro b v x sb rb;unfold tidy at h;dsimp only at h;split at h
  ·rename_i hG;have hlen:∀i o,G[i]?=vE o->G'[i]?=vE o:=λi o e=>by have hi:i<G.length:=(zF.mp e).1;rw[<-hG,jY hi]at e;exact e
   have base:∀(c:Wd),Cut b c->a.n<=c.n->(∀i,i<a.n->c.m i=b.m i)->∀i o,G[i]?=vE o->ORep c o (c.H (c.m i)):=λc cc hn hm i o e=>by have q:=sb.obj i o (hlen i o e);rw[cc.h,hm i (s.lt e)];exact q.cut cc hn hm (s.obj i o e).Mx
   split at h
   ·rename_i hb;rw[s.len]at hb;let c:Wd:=⟨b.K,a.n,b.m,b.H⟩;have cc:Cut b c:=⟨rfl,rfl⟩;refine h c v ⟨x.k,zK _,x.m,x.tup,x.frz,x.tab⟩ ⟨s.len,λi j hi hj=>sb.inj i j (zq hi x.n) (zq hj x.n),base c cc (zK _) (λ_ _=>rfl),λi hi=>sb.tr i (zq hi x.n)⟩ ?_;exact rb.cut cc (zK _) (λ_ _=>rfl) hb
   ·rename_i hb;split at h
    ·rename_i i;obtain⟨il,iv⟩:=rb;split at h
     ·rename_i o ho;split at h
      ·rename_i hbo;rw[s.len]at hbo hb h;simp only[_D.bel,decide_eq_true_eq]at hb;let c:Wd:=⟨b.K,a.n+1,λk=>if k=a.n then b.m i else b.m k,b.H⟩;have cc:Cut b c:=⟨rfl,rfl⟩;have cm:∀j,j<a.n->c.m j=b.m j:=λj hj=>by show(if j=a.n then b.m i else b.m j)=_;rw[if_neg (zE hj)]
       have cn:c.m a.n=b.m i:=by show(if a.n=a.n then b.m i else b.m a.n)=_;rw[if_pos rfl]
       have lt':∀j,j<a.n->j<b.n:=λj hj=>zq hj x.n
       refine h c v ⟨x.k,jk _,λj hj=>(cm j hj).trans (x.m j hj),x.tup,x.frz,x.tab⟩ ⟨by simp[s.len,c],λj k hj hk e=>?_,λj u e=>?_,λj hj=>?_⟩ ⟨zU _,by rw[cn];exact iv⟩
       ·have hj':j<a.n+1:=hj;have hk':k<a.n+1:=hk;by_cases h1:j<a.n
        ·by_cases h2:k<a.n
         ·rw[cm j h1,cm k h2]at e;exact sb.inj j k (lt' j h1) (lt' k h2) e
         ·have:k=a.n:=by lia
          subst this;rw[cm j h1,cn]at e;have:=sb.inj j i (lt' j h1) il e;lia
        ·have:j=a.n:=by lia
         subst this;by_cases h2:k<a.n
         ·rw[cm k h2,cn]at e;have:=sb.inj i k il (lt' k h2) e;lia
         ·lia
       ·by_cases h1:j<a.n
        ·rw[zR (by rw[s.len];exact h1)]at e;exact base c cc (jk _) cm j u e
        ·have hl:j<(G++[o]).length:=(zF.mp e).1;have:j=a.n:=by rw[qZ,s.len]at hl;simp at hl;lia
         subst this;rw[zG (by rw[s.len];exact zK _),s.len]at e;simp at e;subst e;rw[cn];exact(sb.obj i o ho).cut cc (jk _) cm hbo
       ·have hj':j<a.n+1:=hj;by_cases h1:j<a.n
        ·rw[cm j h1];exact sb.tr j (lt' j h1)
        ·have:j=a.n:=by lia
         subst this;rw[cn];exact sb.tr i il
      ·exact h b v x sb ⟨il,iv⟩
     ·exact h b v x sb ⟨il,iv⟩
    ·exact h b v x sb rb
  ·exact h b v x sb rb
end
noncomputable def dV(i:Nat):DE:=λS G=>match S[i]? with
 |some (vE d)=>.ok d G
 |_=>.bad
noncomputable def dC(d:D):DE:=λ_ G=>.ok d G
def dOp(f:D->D->DH->R D)(a b:DE):DE:=λS G=>(a S G).bind λx G1=>(b S G1).bind λy G2=>f x y G2
def dUn(f:D->DH->R D)(a:DE):DE:=λS G=>(a S G).bind f
noncomputable def Ad:DA:=λ_ G=>.ok [] G
def Ab(a:DE)(r:DA):DA:=λS G=>(a S G).bind λx G1=>(r S G1).bind λxs G2=>.ok (x::xs) G2
def dFn(f:List D->DH->R D)(t:DA):DE:=λS G=>(t S G).bind f
def Ff(t:DE):DE:=λS G=>tidy G (t S G)
noncomputable def asB:D->DH->R Bool
 |.bl k,G=>.ok k G
 |_,_=>.bad
def Aw(t:DE):DB:=λS G=>(t S G).bind asB
def Jv(t u:DB):DB:=λS G=>(t S G).bind λk G1=>if k=vG then u S G1 else .ok vH G1
def dOr(t u:DB):DB:=λS G=>(t S G).bind λk G1=>if k=vG then .ok vG G1 else u S G1
def Jc(t:DB):DB:=λS G=>(t S G).bind λk G1=>.ok (!k) G1
def Oi(t u:DE):DE:=λS G=>(t S G).bind λx G1=>(asB x G1).bind λk G2=>if k=vG then u S G2 else .ok (.bl vH) G2
def ZCM(t u:DE):DE:=λS G=>(t S G).bind λx G1=>(asB x G1).bind λk G2=>if k=vG then .ok (.bl vG) G2 else u S G2
def dIf(c:DB)(t u:DE):DE:=λS G=>(c S G).bind λk G1=>if k=vG then t S G1 else u S G1
def Qx(f g:D->D->DH->R D)(a b c:DE):DE:=λS G=>(a S G).bind λx G1=>(b S G1).bind λy G2=>(f x y G2).bind λz G3=>(asB z G3).bind λk G4=>
 if k=vG then(c S G4).bind λw G5=>g y w G5 else .ok (.bl vH) G4
noncomputable def Bb(ds:List D)(G:DH):R D:=if ds.length<=1000000 then .ok (.tup ds) G else .bad
noncomputable def Av(ds:List D)(G:DH):R D:=if ds.length<=1000000 then .ok (.ref G.length) (G++[.lst ds])else .bad
noncomputable def Ci(d:D)(G:DH):Option (List D):=match d with
 |.tup xs=>vE xs
 |.fl xs=>vE xs
 |.ref i=>match G[i]? with
  |some (.lst xs)=>vE xs
  |_=>vF
 |_=>vF
theorem size6:(1000000:Nat)<=sizeLine:=by decide
section
variable{X:Cx}{E:XK}{a b c:xX}{ta tb tc:DE}{pos:Pos}
theorem two(h:lE K E (dOp f ta tb) σ H Q):tOp (lR2 K E f) (lE K E ta) (lE K E tb) σ H Q:=by obtain⟨a,S,G,hk,rfl,s,r,h⟩:=h;refine⟨a,S,G,hk,rfl,s,r,(Gp h).imp ?_⟩;rintro v _ ⟨b,d,G1,rfl,x,s1,q,_,h1⟩;refine⟨b,S,G1,x.k.trans hk,rfl,s1,r.mono x,(Gp h1).imp ?_⟩;rintro w _ ⟨c,e,G2,rfl,y,s2,q2,_,h2⟩;exact⟨c,G2,d,e,y.k.trans (x.k.trans hk),rfl,s2,q.mono y,q2,h2⟩
theorem Aa(i:Nat){pos:Pos}(hN:X.N[i]?=vE x:=by rfl)(hv:Vis X.env.scope x:=by first|exact Or.inl rfl|exact Or.inr (Or.inl rfl)|exact Or.inr (Or.inr rfl))(hd:(x==("__debug__":Str))=vH:=by decide)
  (hcd:(x==("__classdict__":Str))=vH:=by decide):QE X E (.Name x pos) (dV i):=by
 refine(ZKw hN hv hd hcd).mono λσ H Q h=>?_
 obtain⟨a,S,G,hk,rfl,s,r,h⟩:=h;unfold dV at h;split at h
 ·rename_i d e;obtain⟨v,e',q⟩:=r.get i d e;exact⟨v,e',h a v (Ext.refl a) s q⟩
 ·exact h.elim
theorem Qe(h:lE K E (dC d) σ H Q)(r:∀a:Wd,a.K=K->Rep a d v):Q v H:=by obtain⟨a,S,G,hk,rfl,s,_,h⟩:=h;exact h a v (Ext.refl a) s (r a hk)
theorem Af{i:Int}:QE X E (.Constant (.int i) j pos) (dC (.int i)):=ZRF.mono λσ H Q h=>Qe h λ_ _=>rfl
theorem Oj{i:Bool}:QE X E (.Constant (.bool i) j pos) (dC (.bl i)):=ZRR.mono λσ H Q h=>Qe h λ_ _=>rfl
theorem G7:QE X E (.Constant .none j pos) (dC .non):=ZRv.mono λσ H Q h=>Qe h λ_ _=>rfl
theorem Dc{i:Str}:QE X E (.Constant (.str i) j pos) (dC (.str i)):=ZG2.mono λσ H Q h=>Qe h λ_ _=>rfl
theorem Cp{u:xj}(hg:Gl X x)(hm:X.mg x=vE u)(r:RelV v u)(rd:∀a:Wd,a.K=X.K->Rep a d v)(hd:(x==("__debug__":Str))=vH:=by decide):QE X E (.Name x pos) (dC d):=
 (ZCn hg hm r hd).mono λσ H Q h=>Qe h rd
theorem Ag{op:Operator}(ho:OpR X (xD op) (lR2 X.K E f))(ha:QE X E a ta)(hb:QE X E b tb):QE X E (.BinOp a op b pos) (dOp f ta tb):=
 (ZQX ho ha hb).mono λ_ _ _ h=>two h
theorem Jg{op:CmpOp}(ho:OpR X (xI op) (lR2 X.K E f))(ha:QE X E a ta)(hb:QE X E b tb)(hm:xC op b=vH):QE X E (.Compare a [op] [b] pos) (dOp f ta tb):=
 (ZQV ho ha hb hm).mono λ_ _ _ h=>two h
theorem Xy{Q:Bool->Hp->Prop}(h:lB K E (Aw t) σ H Q):Ro (lE K E t) σ H Q:=by
 obtain⟨a,S,G,hk,rfl,s,r,h⟩:=h;refine⟨a,S,G,hk,rfl,s,r,(ZNO h).imp ?_⟩;rintro v _ ⟨b,d,G1,rfl,x,s1,q,_,h1⟩;cases d with
 |bl k=>exact⟨k,q,h1 b (Ext.refl b) s1⟩
 |_=>exact h1.elim
theorem ZCI{t t':TE}(w:∀σ H Q,t' σ H Q->t σ H Q)(σ:St)(H:Hp)(Q:Bool->Hp->Prop)(h:Ro t' σ H Q):Ro t σ H Q:=w _ _ _ h
theorem Bs{op:CmpOp}(ho:OpR X (xI op) (lR2 X.K E f))(ha:QE X E a ta)(hb:QE X E b tb)(hm:xC op b=vH):QT X E (.Compare a [op] [b] pos) (Aw (dOp f ta tb)):=
 (ZFE ho ha hb hm).mono λσ H Q h=>ZCI (λ_ _ _ z=>two z) σ H Q (Xy h)
theorem chain{g:D->D->DH->R D}(h:lE K E (Qx f g ta tb tc) σ H Q):ZFN (lR2 K E f) (lR2 K E g) (lE K E ta) (lE K E tb) (lE K E tc) σ H Q:=by
 obtain⟨a,S,G,hk,rfl,s,r,h⟩:=h;refine⟨a,S,G,hk,rfl,s,r,(Gp h).imp ?_⟩;rintro v _ ⟨b,d,G1,rfl,x,s1,q,_,h1⟩;refine⟨b,S,G1,x.k.trans hk,rfl,s1,r.mono x,(Gp h1).imp ?_⟩;rintro w _ ⟨c,e,G2,rfl,y,s2,q2,_,h2⟩;refine⟨c,G2,d,e,y.k.trans (x.k.trans hk),rfl,s2,q.mono y,q2,(Gp h2).imp ?_⟩;rintro z _ ⟨c3,e3,G3,rfl,y3,s3,q3,_,h3⟩;cases e3 with
 | bl k=>
  refine⟨k,q3,?_⟩;cases k with
  |false=>exact h3 c3 (.bl vH) (Ext.refl _) s3 rfl
  |true=>
   refine⟨c3,S,G3,(y3.k.trans (y.k.trans (x.k.trans hk))),rfl,s3,((r.mono x).mono y).mono y3,(Gp h3).imp ?_⟩;rintro z4 _ ⟨c4,e4,G4,rfl,y4,s4,q4,_,h4⟩;exact⟨c4,G4,e,e4,y4.k.trans (y3.k.trans (y.k.trans (x.k.trans hk))),rfl,s4,(q2.mono y3).mono y4,q4,h4⟩
 |_=>exact h3.elim
theorem ZGa{op op':CmpOp}{g:D->D->DH->R D}(ho:OpR X (xI op) (lR2 X.K E f))(ho':OpR X (xI op') (lR2 X.K E g))(ha:QE X E a ta)(hb:QE X E b tb)(hc:QE X E c tc)
  (hm:lastMarks [op,op'] [b,c]=vH:=by with_unfolding_all rfl):QT X E (.Compare a [op,op'] [b,c] pos) (Aw (Qx f g ta tb tc)):=
 (ZLF ho ho' ha hb hc hm).mono λσ H Q h=>ZCI (λ_ _ _ z=>chain z) σ H Q (Xy h)
theorem Hm(ha:QE X E a ta)(he:∀whole,isTrue a X.env whole=(do let v<-whole;standAt a.pos;holding [v] (truthy v)):=by intro _;rfl):QT X E a (Aw ta):=
 (ZP0 ha he).mono λσ H Q h=>Xy h
theorem Gf(ha:QE X E a ta):QE X E a (Ff ta):=_L.PE.mono ha λσ H Q h=>by obtain⟨w,S,G,hk,rfl,s,r,h⟩:=h;exact⟨w,S,G,hk,rfl,s,r,ZIc s h⟩
def QW(X:Cx)(E:XK)(e:xX)(t:DB):Prop:=PW X e (lB X.K E t)
theorem _root_._L.PW.mono{t t':TT}(h:PW X e t)(w:∀σ H Q,t' σ H Q->t σ H Q):PW X e t':=λwh vD s σ H Q I q=>h wh vD s σ H Q I (w σ H Q q)
variable{u t:DB}{rest:List xX}
theorem ZNx{Q:Bool->Hp->Prop}(h:lB K E (Jv t u) σ H Q):tAnd (lB K E t) (lB K E u) σ H Q:=by
 obtain⟨a,S,G,hk,rfl,s,r,h⟩:=h;refine⟨a,S,G,hk,rfl,s,r,(ZAi h).imp ?_⟩;rintro k _ ⟨b,G1,rfl,x,s1,_,h1⟩;cases k with
 |true=>exact⟨b,S,G1,x.k.trans hk,rfl,s1,r.mono x,h1⟩
 |false=>exact h1 b (Ext.refl b) s1
theorem ZTC{Q:Bool->Hp->Prop}(h:lB K E (dOr t u) σ H Q):tOr (lB K E t) (lB K E u) σ H Q:=by
 obtain⟨a,S,G,hk,rfl,s,r,h⟩:=h;refine⟨a,S,G,hk,rfl,s,r,(ZAi h).imp ?_⟩;rintro k _ ⟨b,G1,rfl,x,s1,_,h1⟩;cases k with
 |true=>exact h1 b (Ext.refl b) s1
 |false=>exact⟨b,S,G1,x.k.trans hk,rfl,s1,r.mono x,h1⟩
theorem Nz(ha:QT X E a t):QW X E (.BoolOp .And [a] pos) t:=pw_and1 ha
theorem Ky(ha:QT X E a t):QW X E (.BoolOp .Or [a] pos) t:=pw_or1 ha
theorem N6(ha:QT X E a t)(hb:QW X E (.BoolOp .And (b::rest) pos) u):QW X E (.BoolOp .And (a::b::rest) pos) (Jv t u):=(pw_and ha hb).mono λ_ _ _ h=>ZNx h
theorem Kl(ha:QT X E a t)(hb:QW X E (.BoolOp .Or (b::rest) pos) u):QW X E (.BoolOp .Or (a::b::rest) pos) (dOr t u):=(pw_or ha hb).mono λ_ _ _ h=>ZTC h
theorem Hg(h:QW X E a t):QT X E a t:=_L.PW.pt h
theorem Lj(ha:QT X E a t):QT X E (.UnaryOp .Not a pos) (Jc t):=(ZOm ha).mono λσ H Q h=>by obtain⟨a,S,G,hk,rfl,s,r,h⟩:=h;refine⟨a,S,G,hk,rfl,s,r,(ZAi h).imp ?_⟩;rintro k _ ⟨b,G1,rfl,x,s1,_,h1⟩;exact h1 b (Ext.refl b) s1
theorem Wu{op}(h:QE X E a ta):QE X E (.BoolOp op [a] pos) ta:=ZNh h
theorem ZEV(ha:QE X E a ta)(hb:QE X E (.BoolOp .And (b::rest) pos) tb):QE X E (.BoolOp .And (a::b::rest) pos) (Oi ta tb):=(ZR7 ha hb).mono λσ H Q h=>by
 obtain⟨a,S,G,hk,rfl,s,r,h⟩:=h;refine⟨a,S,G,hk,rfl,s,r,(Gp h).imp ?_⟩;rintro v _ ⟨b,d,G1,rfl,x,s1,q,_,h1⟩;cases d with
 |bl k=>
  refine⟨k,q,?_⟩;cases k with
  |true=>exact⟨b,S,G1,x.k.trans hk,rfl,s1,r.mono x,h1⟩
  |false=>exact h1 b _ (Ext.refl b) s1 rfl
 |_=>exact h1.elim
theorem ZTU(ha:QE X E a ta)(hb:QE X E (.BoolOp .Or (b::rest) pos) tb):QE X E (.BoolOp .Or (a::b::rest) pos) (ZCM ta tb):=(ZR0 ha hb).mono λσ H Q h=>by
 obtain⟨a,S,G,hk,rfl,s,r,h⟩:=h;refine⟨a,S,G,hk,rfl,s,r,(Gp h).imp ?_⟩;rintro v _ ⟨b,d,G1,rfl,x,s1,q,_,h1⟩;cases d with
 |bl k=>
  refine⟨k,q,?_⟩;cases k with
  |false=>exact⟨b,S,G1,x.k.trans hk,rfl,s1,r.mono x,h1⟩
  |true=>exact h1 b _ (Ext.refl b) s1 rfl
 |_=>exact h1.elim
theorem ZJX(hc:QT X E c t)(ha:QE X E a ta)(hb:QE X E b tb):QE X E (.IfExp c a b pos) (dIf t ta tb):=(ZQ7 hc ha hb).mono λσ H Q h=>by
 obtain⟨a,S,G,hk,rfl,s,r,h⟩:=h;refine⟨a,S,G,hk,rfl,s,r,(ZFh h).imp ?_⟩;rintro k _ ⟨b,G1,rfl,x,s1,_,h1⟩;cases k with
 |true=>exact⟨b,S,G1,x.k.trans hk,rfl,s1,r.mono x,h1⟩
 |false=>exact⟨b,S,G1,x.k.trans hk,rfl,s1,r.mono x,h1⟩
variable{es:List xX}{tr:DA}
theorem Ae:QA X E [] Ad:=ZN5.mono λσ H Q h=>by obtain⟨a,S,G,hk,rfl,s,r,h⟩:=h;exact h a [] (Ext.refl a) s rfl
noncomputable def notStar:xX->Bool
 |.Starred _ _=>vH
 |_=>vG
theorem Ov(a:xX)(es:List xX)(env:Env)(h:notStar a=vG):vW (a::es) env=(vH,eval a env)::vW es env:=by
 cases a<;>first
  |exact absurd h zy
  |rfl
theorem Qt(pos:Pos)(env:Env):∀es:List xX,es.all notStar=vG->(x0 pos (vW es env)).any (·.1)=vH
 |[],_=>rfl
 |a::es,h=>by
  rw[qB,zC]at h;rw[Ov a es env h.1];have ih:=Qt pos env es h.2;unfold x0 at ih⊢;rw[zk,j5,ih]
  rfl
theorem Ac(ha:QE X E a ta)(hr:QA X E es tr)(hs:notStar a=vG:=by rfl):QA X E (a::es) (Ab ta tr):=(ZLz ha hr (Ov a es X.env hs)).mono λσ H Q h=>by obtain⟨a,S,G,hk,rfl,s,r,h⟩:=h;refine⟨a,S,G,hk,rfl,s,r,(ZNu h).imp ?_⟩;rintro v _ ⟨b,d,G1,rfl,x,s1,q,_,h1⟩;refine⟨b,S,G1,x.k.trans hk,rfl,s1,r.mono x,(ZTT h1).imp ?_⟩;rintro vs _ ⟨c,ds,G2,rfl,y,s2,q2,_,h2⟩;exact h2 c _ (Ext.refl c) s2 (Reps.cons (q.mono y) q2)
theorem Do{x1}(h:QA X E es tr):QE X E (.Tuple es x1 pos) (dFn Bb tr):=(ZMz h).mono λσ H Q h=>by
 obtain⟨a,S,G,hk,rfl,s,r,h⟩:=h;refine⟨a,S,G,hk,rfl,s,r,(Nf h).imp ?_⟩;rintro vs _ ⟨b,ds,G1,rfl,x,s1,q,_,h1⟩;unfold Bb at h1;split at h1
 ·rename_i hl;refine⟨by rw[<-q.length];exact zB hl size6,λp hp=>?_⟩;exact h1 (b.put p (.tup vs)) (.ref p) (Ext.put hp) (s1.put hp) ⟨p,vs,rfl,.of Gj,q.mono (Ext.put hp)⟩
 ·exact h1.elim
theorem Es(h:QA X E es tr):QE X E (.List es pos) (dFn Av tr):=(ZL4 h).mono λσ H Q h=>by
 obtain⟨a,S,G,hk,rfl,s,r,h⟩:=h;refine⟨a,S,G,hk,rfl,s,r,(Nf h).imp ?_⟩;rintro vs _ ⟨b,ds,G1,rfl,x,s1,q,_,h1⟩;unfold Av at h1;split at h1
 ·rename_i hl;refine⟨by rw[<-q.length];exact zB hl size6,λp hp=>?_⟩;refine h1 (b.push p (.lst vs)) (.ref p) (Ext.push hp) (s1.push hp ⟨vs,rfl,q.mono (Ext.push hp)⟩) ⟨?_,?_⟩
  ·rw[s1.len];exact zU _
  ·rw[s1.len];show V.ref p=.ref (if b.n=b.n then p else b.m b.n);rw[if_pos rfl]
 ·exact h1.elim
variable{e:xX}{x:Str}{p:Pos}
theorem ZDJ{f:List D->DH->R D}(h:lE K E (dFn f tr) σ H Q):lA K E tr σ H (λvs H1=>lRn K E f vs H1 Q):=by obtain⟨a,S,G,hk,rfl,s,r,h⟩:=h;refine⟨a,S,G,hk,rfl,s,r,(Nf h).imp ?_⟩;rintro vs _ ⟨b,ds,G1,rfl,x,s1,q,_,h1⟩;exact⟨b,G1,ds,x.k.trans hk,rfl,s1,q,h1⟩
theorem Cu{id:String}{f:List D->DH->R D}(hc:CallR X (.builtin id) (lRn X.K E f))(hg:Gl X x)(hm:X.mg x=vF)(hv:xE x=vE (.builtin id))(ha:QA X E (e::es) tr)(hn:x≠"__name__":=by decide)(hdb:(x==("__debug__":Str))=vH:=by decide)
  (he:notStar e=vG:=by rfl) (hpl:es.all notStar=vG:=by rfl):QE X E (.Call (.Name x p) (e::es) [] pos) (dFn f tr):=
 (ZLy hc hg hm hv ha hn hdb (Ov e es X.env he) (Qt pos X.env es hpl)).mono λσ H Q h=>ZDJ h
theorem Gr{id:String}{f:List D->DH->R D}(hc:CallR X (.type id) (lRn X.K E f))(hg:Gl X x)(hm:X.mg x=vF)(hv:xE x=vE (.type id))(ha:QA X E (e::es) tr)(hn:x≠"__name__":=by decide)(hdb:(x==("__debug__":Str))=vH:=by decide)
  (he:notStar e=vG:=by rfl) (hpl:es.all notStar=vG:=by rfl):QE X E (.Call (.Name x p) (e::es) [] pos) (dFn f tr):=
 (ZQU hc hg hm hv ha hn hdb (Ov e es X.env he) (Qt pos X.env es hpl)).mono λσ H Q h=>ZDJ h
theorem ZMR{CX:CXT}{k:Nat}{f:xZ}{fd:xV}{ps:List Str}{F:List D->DH->R D}(FF:FnOk X.prog X.w X.K X.mg X.base CX k f fd ps (lF X.K F))(hr:Room k X.A)(hg:Gl X x)(hm:X.mg x=vE (.ref f))(hk:PySem.W.keepIn X.K (.ref f)=vG)(hb:Binds X.K fd ps [])
  (hx:Passes CX X E) (ha:QA X E (e::es) tr) (hdb:(x==("__debug__":Str))=vH:=by decide) (he:notStar e=vG:=by rfl) (hpl:es.all notStar=vG:=by rfl):
  QE X E (.Call (.Name x p) (e::es) [] pos) (dFn F tr):=
 (ZMD FF hr hg hm hk hb .nil hx ha hdb (Ov e es X.env he) (Qt pos X.env es hpl)).mono λσ H Q h=>by obtain⟨a,S,G,hk,rfl,s,r,h⟩:=ZDJ h;refine⟨a,S,G,hk,rfl,s,r,h.imp ?_⟩;rintro vs _ ⟨b,G1,ds,hk,rfl,s1,q,h1⟩;exact⟨b,G1,ds,hk,rfl,s1,by rw[jX];exact q,h1⟩
theorem Ak(hr:IxR X (lR2 X.K E f))(ha:QE X E a ta)(hb:QE X E b tb)(hs:PlainIx b:=by intro _ _;rfl):QE X E (.Subscript a b pos) (dOp f ta tb):=
 (ZJC hr ha hb hs).mono λ_ _ _ h=>two h
end
noncomputable instance (i j:Int):Decidable (CMul i j):=by unfold CMul;infer_instance
noncomputable instance (i j:Int):Decidable (CPow i j):=by unfold CPow;infer_instance
def CDivL(j:Int):Prop:=0<j/\j.natAbs.log2<9000
noncomputable instance (j:Int):Decidable (CDivL j):=by unfold CDivL;infer_instance
noncomputable def Ge:D->D->DH->R D
 |.int i,.int j,G=>.ok (.int (i-j)) G
 |_,_,_=>.bad
def Di:D->D->DH->R D
 |.int i,.int j,G=>if CDivL j then .ok (.int (i/j)) G else .bad
 |_,_,_=>.bad
noncomputable def Bq:D->D->DH->R D
 |.int i,.int j,G=>if 0<j then .ok (.int (i%j)) G else .bad
 |_,_,_=>.bad
def K6:D->D->DH->R D
 |.int i,.int j,G=>if CPow i j then .ok (.int (i^j.toNat)) G else .bad
 |_,_,_=>.bad
noncomputable def Hn:D->D->DH->R D
 |.int i,.int j,G=>.ok (.bl (decide (i<j))) G
 |.str i,.str j,G=>.ok (.bl (decide (i.cps.toList<j.cps.toList))) G
 |_,_,_=>.bad
noncomputable def Nu:D->D->DH->R D
 |.int i,.int j,G=>.ok (.bl (decide (i<=j))) G
 |.str i,.str j,G=>.ok (.bl (!decide (j.cps.toList<i.cps.toList))) G
 |_,_,_=>.bad
noncomputable def Iv:D->D->DH->R D
 |.int i,.int j,G=>.ok (.bl (decide (j<i))) G
 |.str i,.str j,G=>.ok (.bl (decide (j.cps.toList<i.cps.toList))) G
 |_,_,_=>.bad
noncomputable def ZBP:D->D->DH->R D
 |.int i,.int j,G=>.ok (.bl (decide (j<=i))) G
 |.str i,.str j,G=>.ok (.bl (!decide (i.cps.toList<j.cps.toList))) G
 |_,_,_=>.bad
noncomputable def Ir(d:D)(G:DH):Option (List D):=match d with
 |.fl xs=>vE xs
 |.ref i=>match G[i]? with
  |some (.lst xs)=>vE xs
  |_=>vF
 |_=>vF
def Ay:D->D->DH->R D
 |.int i,.int j,G=>.ok (.int (i+j)) G
 |.str i,.str j,G=>if i.length+j.length<=1000000 then .ok (.str (i++j)) G else .bad
 |.tup xs,.tup ys,G=>if xs≠[]/\xs.length+ys.length<=1000000 then .ok (.tup (xs++ys)) G else .bad
 |d,e,G=>match Ir d G,Ir e G with
  |some xs,vE ys=>if xs.length+ys.length<=1000000 then .ok (.ref G.length) (G++[.lst (xs++ys)])else .bad
  |_,_=>.bad
section
variable{X:Cx}{E:XK}
theorem Hk{f:xj->xj->Sem xj}{r:R2}{F:D->D->DH->R D}(ho:OpR X f r)
  (h:∀(a:Wd)(G:DH)(d e:D)(x y:V)(Q:VK),a.K=X.K->Sim a G->Rep a d x->Rep a e y->out E a (F d e G) Q->r x y a.H Q):OpR X f (lR2 X.K E F):=
 ho.mono λx y H Q ⟨a,G,d,e,hk,hH,s,rd,re,q⟩=>by subst hH;exact h a G d e x y Q hk s rd re q
theorem H8:OpR X (xD .Sub) (lR2 X.K E Ge):=Hk ZTI λa G d e x y Q hk s rd re q=>by
 cases d<;>cases e<;>first
  |exact q.elim
  |exact⟨_,_,rd,re,q a _ (Ext.refl a) s rfl⟩
theorem ZPS:OpR X (xD .FloorDiv) (rI (λ_ j=>CDivL j) λi j=>.int (i/j)):=opI λi j _ _ _ _ _ hc q=>by have e:i.fdiv j=i/j:=Int.fdiv_eq_ediv_of_nonneg _ (Int.le_of_lt hc.1);refine floordiv_int (by have:=hc.1;lia) (by rw[e];exact q) (.inl (PyProof.noPylong_of_log2 hc.2))
theorem Dw:OpR X (xD .FloorDiv) (lR2 X.K E Di):=Hk ZPS λa G d e x y Q hk s rd re q=>by
 cases d<;>cases e<;>first
  |exact q.elim
  | (
    rename_i i j;unfold Di at q;dsimp only at q;split at q
    ·exact⟨_,_,rd,re,by assumption,q a _ (Ext.refl a) s rfl⟩
    ·exact q.elim)
theorem Bx:OpR X (xD .Mod) (lR2 X.K E Bq):=Hk ZMn λa G d e x y Q hk s rd re q=>by
 cases d<;>cases e<;>first
  |exact q.elim
  | (
    rename_i i j;unfold Bq at q;dsimp only at q;split at q
    ·exact⟨_,_,rd,re,by assumption,q a _ (Ext.refl a) s rfl⟩
    ·exact q.elim)
theorem Mz:OpR X (xD .Pow) (lR2 X.K E K6):=Hk ZSY λa G d e x y Q hk s rd re q=>by
 cases d<;>cases e<;>first
  |exact q.elim
  | (
    rename_i i j;unfold K6 at q;dsimp only at q;split at q
    ·exact⟨_,_,rd,re,by assumption,q a _ (Ext.refl a) s rfl⟩
    ·exact q.elim)
theorem Jd:OpR X (xI .Lt) (lR2 X.K E Hn):=Hk (ZLm.or ZPn) λa G d e x y Q hk s rd re q=>by
 cases d<;>cases e<;>first
  |exact q.elim
  |exact .inl ⟨_,_,rd,re,q a _ (Ext.refl a) s rfl⟩
  |exact .inr ⟨_,_,rd,re,q a _ (Ext.refl a) s rfl⟩
theorem ZLt:OpR X (xI .LtE) (λx y H Q=>∃i j,x=.str i/\y=.str j/\Q (.bl (!decide (j.cps.toList<i.cps.toList))) H):=by intro vD s σ H x y v u Q I rx ry h;obtain⟨i,j,rfl,rfl,q⟩:=h;obtain⟨t,rfl⟩:=rx;obtain⟨t',rfl⟩:=ry;exact PySem.P.le_str ⟨.bl _,H,I,rfl,q⟩
theorem ZRs:OpR X (xI .Gt) (λx y H Q=>∃i j,x=.str i/\y=.str j/\Q (.bl (decide (j.cps.toList<i.cps.toList))) H):=by intro vD s σ H x y v u Q I rx ry h;obtain⟨i,j,rfl,rfl,q⟩:=h;obtain⟨t,rfl⟩:=rx;obtain⟨t',rfl⟩:=ry;exact PySem.P.gt_str ⟨.bl _,H,I,rfl,q⟩
theorem ZL2:OpR X (xI .GtE) (λx y H Q=>∃i j,x=.str i/\y=.str j/\Q (.bl (!decide (i.cps.toList<j.cps.toList))) H):=by intro vD s σ H x y v u Q I rx ry h;obtain⟨i,j,rfl,rfl,q⟩:=h;obtain⟨t,rfl⟩:=rx;obtain⟨t',rfl⟩:=ry;exact PySem.P.ge_str ⟨.bl _,H,I,rfl,q⟩
theorem Vy:OpR X (xI .LtE) (lR2 X.K E Nu):=Hk (ZTB.or ZLt) λa G d e x y Q hk s rd re q=>by
 cases d<;>cases e<;>first
  |exact q.elim
  |exact .inl ⟨_,_,rd,re,q a _ (Ext.refl a) s rfl⟩
  |exact .inr ⟨_,_,rd,re,q a _ (Ext.refl a) s rfl⟩
theorem La:OpR X (xI .Gt) (lR2 X.K E Iv):=Hk (ZO7.or ZRs) λa G d e x y Q hk s rd re q=>by
 cases d<;>cases e<;>first
  |exact q.elim
  |exact .inl ⟨_,_,rd,re,q a _ (Ext.refl a) s rfl⟩
  |exact .inr ⟨_,_,rd,re,q a _ (Ext.refl a) s rfl⟩
theorem o_ge:OpR X (xI .GtE) (lR2 X.K E ZBP):=Hk (ZNV.or ZL2) λa G d e x y Q hk s rd re q=>by
 cases d<;>cases e<;>first
  |exact q.elim
  |exact .inl ⟨_,_,rd,re,q a _ (Ext.refl a) s rfl⟩
  |exact .inr ⟨_,_,rd,re,q a _ (Ext.refl a) s rfl⟩
theorem Sim.lst(s:Sim a G)(h:G[i]?=vE (.lst xs)):∃vs,a.H (a.m i)=vE (.lst vs)/\Reps a xs vs:=s.obj i _ h
theorem M4(s:Sim a G)(r:Reps a ds vs)(h:out E a (.ok (.ref G.length) (G++[.lst ds])) Q)(p:xZ)(hp:a.H p=vF):Q (.ref p) (upd a.H p (.lst vs)):=by
 refine h (a.push p (.lst vs)) (.ref p) (Ext.push hp) (s.push hp ⟨vs,rfl,r.mono (Ext.push hp)⟩) ⟨?_,?_⟩
 ·rw[s.len];exact zU _
 ·rw[s.len];show V.ref p=.ref (if a.n=a.n then p else a.m a.n);rw[if_pos rfl]
theorem ZBU(s:Sim a G)(r:Reps a ds vs)(h:out E a (.ok (.tup ds) G) Q)(p:xZ)(hp:a.H p=vF):Q (.ref p) (upd a.H p (.tup vs)):=
 h (a.put p (.tup vs)) (.ref p) (Ext.put hp) (s.put hp) ⟨p,vs,rfl,.of Gj,r.mono (Ext.put hp)⟩
theorem Sx{x:V}(s:Sim a G)(r:Rep a d x)(h:Ir d G=vE xs):∃p vs,x=.ref p/\SqL a.K a.H p vs/\Reps a xs vs:=by
 cases d with
 |fl ys=>
  have e:ys=xs:=Option.some.inj h;subst e;obtain⟨p,vs,e,q,rr⟩:=r;exact⟨p,vs,e,q.sq,rr⟩
 |ref i=>
  unfold Ir at h;dsimp only at h;split at h
  ·rename_i ys hi;have e:ys=xs:=Option.some.inj h;subst e;obtain⟨vs,e1,r1⟩:=s.lst hi;exact⟨a.m i,vs,r.2,.of e1,r1⟩
  ·cases h
 |_=>cases h
def ZHR(K:PySem.W.Frag):R2:=λx y H Q=>∃l b xs zs,x=.ref l/\y=.ref b/\SqL K H l xs/\SqL K H b zs/\xs.length+zs.length<=sizeLine/\∀p,H p=vF->Q (.ref p) (upd H p (.lst (xs++zs)))
theorem ZMp:OpR X (xD .Add) (ZHR X.K):=by
 intro vD s σ H x y v u Q I rx ry h;obtain⟨l,b,xs,zs,rfl,rfl,hH,hB,hz,q⟩:=h;cases rx;cases ry;obtain⟨its,r,p1,_⟩:=I.list hH;obtain⟨its2,r2,p2,_⟩:=I.list hB;obtain⟨⟨cls,dd,data,sl⟩,n,ho,hc,_,hd⟩:=p1;obtain⟨⟨cls2,dd2,data2,sl2⟩,n2,ho2,hc2,_,hd2⟩:=p2;cases hc;cases hd;cases hc2;cases hd2;have hl:=r.length;have hl2:=r2.length;refine concat_meets ⟨_,ho,rfl⟩ ⟨_,ho2,rfl⟩ noFill_list_add seq_list_add PySem.F.slot_list_add PySem.F.entry_list_add (PySem.F.args_list_add_2 _ _) (list_addW l b its.toArray its2.toArray n n2 dd dd2 sl sl2 (by rw[zY,zY];lia)) ⟨ho,ho2,?_⟩
 have ea:its.toArray++its2.toArray=(its++its2).toArray:=by simp
 rw[ea];exact⟨.ref _,_,I.lnew (t':=s.toks) (r.append r2) (by rw[qZ];lia),rfl,q _ I.fresh⟩
theorem Bc:OpR X (xD .Add) (lR2 X.K E Ay):=Hk (ZMP.or (ZMt.or (ZMp.or ZSS))) λa G d e x y Q hk s rd re q=>by
 have lst:out E a (match Ir d G,Ir e G with
  |some xs,vE ys=>if xs.length+ys.length<=1000000 then .ok (.ref G.length) (G++[.lst (xs++ys)])else .bad
  |_,_=>.bad) Q->ZHR X.K x y a.H Q:=λq=>by
  split at q
  ·rename_i xs ys h1 h2;split at q
   ·rename_i hl;obtain⟨p,vs,e1,q1,r1⟩:=Sx s rd h1;obtain⟨p',vs',e2,q2,r2⟩:=Sx s re h2;rw[hk]at q1 q2;exact⟨p,p',vs,vs',e1,e2,q1,q2,by rw[<-r1.length,<-r2.length];exact zB hl size6,λp hp=>M4 s (r1.append r2) q p hp⟩
   ·exact q.elim
  ·exact q.elim
 have L:=λq=>Or.inr (a:=rI0 (λi j=>V.int (i+j)) x y a.H Q) (Or.inr (a:=∃i j,x=.str i/\y=.str j/\i.length+j.length<=sizeLine/\Q (.str (i++j)) a.H) (Or.inl (b:=ZFt X.K x y a.H Q) (lst q)))
 cases d<;>cases e<;>first
  |exact .inl ⟨_,_,rd,re,q a _ (Ext.refl a) s rfl⟩
  |exact L q
  |skip
 ·rename_i i j;unfold Ay at q;dsimp only at q;split at q
  ·rename_i hl;exact .inr (.inl ⟨_,_,rd,re,zB hl size6,q a _ (Ext.refl a) s rfl⟩)
  ·exact q.elim
 ·rename_i xs ys;unfold Ay at q;dsimp only at q;split at q
  ·rename_i hl;obtain⟨p,vs,e1,h1,r1⟩:=rd;obtain⟨p',vs',e2,h2,r2⟩:=re;rw[hk]at h1 h2;refine .inr (.inr (.inr ⟨p,p',vs,vs',e1,e2,h1,h2,λz=>hl.1 (qP (by rw[r1.length,z];rfl)),by rw[<-r1.length,<-r2.length];exact zB hl.2 size6,λz=>?_,λ_ p0 hp=>?_⟩))
   ·refine q a (.ref p) (Ext.refl a) s ⟨p,vs,rfl,by rw[hk];exact h1,?_⟩;have e3:ys=[]:=qP (by rw[r2.length,z];rfl);rw[e3,jX];exact r1
   ·exact ZBU s (r1.append r2) q p0 hp
  ·exact q.elim
inductive VD where
 |flat (v:V)
 |lst (xs:List D)
 |tup (xs:List D)
 |bad
noncomputable def view(G:DH):D->VD
 |.non=>.flat .non
 |.bl b=>.flat (.bl b)
 |.int i=>.flat (.int i)
 |.str x=>.flat (.str x)
 |.ty _=>.bad
 |.tup xs=>.tup xs
 |.fl xs=>.lst xs
 |.ref i=>match G[i]? with
  |some (.lst xs)=>.lst xs
  |_=>.bad
noncomputable def eqZ(f:D->D->Option Bool):List D->List D->Option Bool
 |x::xs,y::ys=>match f x y,eqZ f xs ys with
  |some a,vE b=>vE (a&&b)
  |_,_=>vF
 |_,_=>vE vG
def eqD:Nat->DH->D->D->Option Bool
 |0=>λ_ _ _=>vF
 | n+1=>λG d e=>match view G d,view G e with
  |.flat a,.flat b=>vE (eqV a b)
  |.lst xs,.lst ys=>if xs.length=ys.length then eqZ (eqD n G) xs ys else vE vH
  |.tup xs,.tup ys=>match eqZ (eqD n G) xs ys with
   |some b=>vE (b&&xs.length==ys.length)
   |none=>vF
  |.bad,_=>vF
  |_,.bad=>vF
  |_,_=>vE vH
theorem Y9{f:D->D->Option Bool}:∀{xs ys:List D}{k:Bool},eqZ f xs ys=vE k->∃e:Nat->Bool,(∀(j:Nat)(x y:D),xs[j]?=vE x->ys[j]?=vE y->f x y=vE (e j))/\k=(zZ (min xs.length ys.length)).all e
 | [],ys,k,h=>⟨λ_=>vG,λj x y e1 _=>by simp at e1,by
   have h':vE vG=vE k:=by cases ys<;>exact h
   cases h';simp⟩
 |x::xs,[],k,h=>⟨λ_=>vG,λj x y _ e1=>by simp at e1,by have h':vE vG=vE k:=h;cases h';simp⟩
 | x::xs,y::ys,k,h=>by
  unfold eqZ at h;split at h
  ·rename_i a b h1 h2;obtain⟨e,he,hk⟩:=Y9 h2;have h':(a&&b)=k:=Option.some.inj h
   refine⟨λj=>match j with |0=>a|j+1=>e j,λj x' y' e1 e2=>?_,?_⟩
   ·cases j with
    |zero=>simp at e1 e2;subst e1;subst e2;exact h1
    |succ j=>exact he j x' y' (by simpa using e1) (by simpa using e2)
   ·rw[<-h',hk];have:min (x::xs).length (y::ys).length=min xs.length ys.length+1:=by simp only[zO];lia
    rw[this,qE,qB,List.all_map]
    rfl
  ·cases h
theorem Z1(s:Sim a G){x:V}(r:Rep a d x):match view G d with
  |.flat v=>x=v/\Ef v=vG
  |.lst xs=>∃p vs,x=.ref p/\SqL a.K a.H p vs/\Reps a xs vs
  |.tup xs=>∃p vs,x=.ref p/\SqT a.K a.H p vs/\Reps a xs vs
  |.bad=>True:=by
 cases d with
 |non=>exact⟨r,rfl⟩
 |bl b=>exact⟨r,rfl⟩
 |int b=>exact⟨r,rfl⟩
 |str b=>exact⟨r,rfl⟩
 |ty n=>trivial
 |tup xs=>
  obtain⟨p,vs,e,h,q⟩:=r;exact⟨p,vs,e,h,q⟩
 |fl xs=>
  obtain⟨p,vs,e,h,q⟩:=r;exact⟨p,vs,e,h.sq,q⟩
 | ref i=>
  unfold view;dsimp only;split
  ·rename_i v hv
   split at hv<;>cases hv
  ·rename_i xs hv;split at hv
   ·rename_i ys hi;cases hv;obtain⟨vs,e1,r1⟩:=s.lst hi;exact⟨a.m i,vs,r.2,.of e1,r1⟩
   ·cases hv
  ·rename_i xs hv
   split at hv<;>cases hv
  ·trivial
theorem ZQP{x:V}{u v:xj}(ry:RelV y u)(rx:RelV x v)(fy:Ef y=vG)(fx:Ef x=vG):SeqAt.RcAt A s u v (eqV y x):=by
 cases y with
 |non=>
  cases ry;cases x with
  |non=>cases rx;exact SeqAt.RcAt.none_none
  |bl b=>cases rx;exact SeqAt.RcAt.none_bool b
  |int b=>obtain⟨t,rfl⟩:=rx;exact SeqAt.RcAt.none_int b t
  |str b=>obtain⟨t,rfl⟩:=rx;exact SeqAt.RcAt.none_str b t
  |_=>exact absurd (show vH=vG from fx) zy
 |bl a=>
  cases ry;cases x with
  |non=>cases rx;exact SeqAt.RcAt.bool_none a
  |bl b=>cases rx;exact SeqAt.RcAt.bool_bool a b
  |int b=>obtain⟨t,rfl⟩:=rx;exact SeqAt.RcAt.bool_int a b t
  |str b=>obtain⟨t,rfl⟩:=rx;exact SeqAt.RcAt.bool_str a b t
  |_=>exact absurd (show vH=vG from fx) zy
 |int a=>
  obtain⟨t',rfl⟩:=ry;cases x with
  |non=>cases rx;exact SeqAt.RcAt.int_none a t'
  |bl b=>cases rx;exact SeqAt.RcAt.int_bool a t' b
  |int b=>obtain⟨t,rfl⟩:=rx;exact SeqAt.RcAt.int_int a t' b t
  |str b=>obtain⟨t,rfl⟩:=rx;exact SeqAt.RcAt.int_str a t' b t
  |_=>exact absurd (show vH=vG from fx) zy
 |str a=>
  obtain⟨t',rfl⟩:=ry;cases x with
  |non=>cases rx;exact SeqAt.RcAt.str_none a t'
  |bl b=>cases rx;exact SeqAt.RcAt.str_bool a t' b
  |int b=>obtain⟨t,rfl⟩:=rx;exact SeqAt.RcAt.str_int a t' b t
  |str b=>obtain⟨t,rfl⟩:=rx;exact SeqAt.RcAt.str_str a t' b t
  |_=>exact absurd (show vH=vG from fx) zy
 |_=>exact absurd (show vH=vG from fy) zy
theorem ZR4{x:V}{u v:xj}(ry:RelV y u)(rx:RelV x v)(fy:Ef y=vG)(fx:Ef x=vG):SeqAt.RcNeAt A s u v (!eqV y x):=by
 cases y with
 |non=>
  cases ry;cases x with
  |non=>cases rx;exact SeqAt.RcNeAt.none_none
  |bl b=>cases rx;exact SeqAt.RcNeAt.none_bool b
  |int b=>obtain⟨t,rfl⟩:=rx;exact SeqAt.RcNeAt.none_int b t
  |str b=>obtain⟨t,rfl⟩:=rx;exact SeqAt.RcNeAt.none_str b t
  |_=>exact absurd (show vH=vG from fx) zy
 |bl a=>
  cases ry;cases x with
  |non=>cases rx;exact SeqAt.RcNeAt.bool_none a
  |bl b=>cases rx;exact SeqAt.RcNeAt.bool_bool a b
  |int b=>obtain⟨t,rfl⟩:=rx;exact SeqAt.RcNeAt.bool_int a b t
  |str b=>obtain⟨t,rfl⟩:=rx;exact SeqAt.RcNeAt.bool_str a b t
  |_=>exact absurd (show vH=vG from fx) zy
 |int a=>
  obtain⟨t',rfl⟩:=ry;cases x with
  |non=>cases rx;exact SeqAt.RcNeAt.int_none a t'
  |bl b=>cases rx;exact SeqAt.RcNeAt.int_bool a t' b
  |int b=>obtain⟨t,rfl⟩:=rx;exact SeqAt.RcNeAt.int_int a t' b t
  |str b=>obtain⟨t,rfl⟩:=rx;exact SeqAt.RcNeAt.int_str a t' b t
  |_=>exact absurd (show vH=vG from fx) zy
 |str a=>
  obtain⟨t',rfl⟩:=ry;cases x with
  |non=>cases rx;exact SeqAt.RcNeAt.str_none a t'
  |bl b=>cases rx;exact SeqAt.RcNeAt.str_bool a t' b
  |int b=>obtain⟨t,rfl⟩:=rx;exact SeqAt.RcNeAt.str_int a t' b t
  |str b=>obtain⟨t,rfl⟩:=rx;exact SeqAt.RcNeAt.str_str a t' b t
  |_=>exact absurd (show vH=vG from fx) zy
 |_=>exact absurd (show vH=vG from fy) zy
end
section
variable{X:Cx}{E:XK}{vD:List (xZ×Obj)}{σ:St}{s:xq}
theorem ZSz(v:V)(h:Ef v=vG):eqV v v=vG:=by cases v<;>first|rfl|exact absurd (show vH=vG from h) zy|(simp[eqV])
theorem ZGk(I:Inv X vD σ a.H s)(hk:a.K=X.K)(sm:Sim a G):∀(n:Nat){d e:D}{x:V}{k:Bool},Rep a d x->Rep a e x->eqD n G d e=vE k->k=vG
 |0,_,_,_,_,_,_,h=>by cases h
 | n+1,d,e,x,k,rd,re,h=>by
  have vd:=Z1 sm rd;have ve:=Z1 sm re;have items:∀{xs ys:List D}{vs:List V}{b:Bool},Reps a xs vs->Reps a ys vs->eqZ (eqD n G) xs ys=vE b->b=vG:=λ{xs ys vs b}r1 r2 hz=>by obtain⟨f,hf,hb⟩:=Y9 hz;rw[hb,qK];intro j hj;have hj':j<min xs.length ys.length:=qW.mp hj;have h1:xs[j]?=vE (xs[j]'(by lia)):=zJ (by lia);have h2:ys[j]?=vE (ys[j]'(by lia)):=zJ (by lia);obtain⟨v1,e1,q1⟩:=r1.get h1;obtain⟨v2,e2,q2⟩:=r2.get h2;rw[e1]at e2;cases e2;exact ZGk I hk sm n q1 q2 (hf j _ _ h1 h2)
  unfold eqD at h
  try dsimp only at h
  revert h vd ve
  cases view G d<;>cases view G e<;>intro vd ve h<;>dsimp only at h vd ve<;>first
   |cases h
   |skip
  ·
   rename_i v w;obtain⟨rfl,f1⟩:=vd;obtain⟨rfl,f2⟩:=ve;exact ZSz _ f1
  ·obtain⟨rfl,f1⟩:=vd;obtain⟨p,vs,e1,_⟩:=ve;subst e1;cases f1
  ·obtain⟨rfl,f1⟩:=vd;obtain⟨p,vs,e1,_⟩:=ve;subst e1;cases f1
  ·obtain⟨rfl,f1⟩:=ve;obtain⟨p,vs,e1,_⟩:=vd;subst e1;cases f1
  ·obtain⟨p,vs,e1,h1,r1⟩:=vd;obtain⟨p',vs',e2,h2,r2⟩:=ve;rw[e1]at e2;cases e2;rw[hk]at h1 h2;cases I.ZCV h1 h2;split at h
   ·exact items r1 r2 h
   ·rename_i hl;exact absurd (r1.length.trans r2.length.symm) hl
  ·obtain⟨p,vs,e1,h1,r1⟩:=vd;obtain⟨p',vs',e2,h2,r2⟩:=ve;rw[e1]at e2;cases e2;rw[hk]at h1 h2;obtain⟨_,_,pl,_⟩:=I.list h1;obtain⟨_,_,pt,_⟩:=I.tuple h2;exact absurd rfl (SeqAt.ne_of_list_tuple pl.isList pt)
  ·obtain⟨rfl,f1⟩:=ve;obtain⟨p,vs,e1,_⟩:=vd;subst e1;cases f1
  ·obtain⟨p,vs,e1,h1,r1⟩:=vd;obtain⟨p',vs',e2,h2,r2⟩:=ve;rw[e1]at e2;cases e2;rw[hk]at h1 h2;obtain⟨_,_,pl,_⟩:=I.list h2;obtain⟨_,_,pt,_⟩:=I.tuple h1;exact absurd rfl (SeqAt.ne_of_list_tuple pl.isList pt)
  ·obtain⟨p,vs,e1,h1,r1⟩:=vd;obtain⟨p',vs',e2,h2,r2⟩:=ve;rw[e1]at e2;cases e2;rw[hk]at h1 h2;cases I.ZBh h1 h2;split at h
   ·rename_i b hz;have h':(b&&_)=k:=Option.some.inj h;rw[<-h',items r1 r2 hz,r1.length,r2.length];simp
   ·cases h
theorem V8{its:List xj}(r:Reps a xs vs)(q:Vals vs its)(h:j<its.toArray.size):∃d v,xs[j]?=vE d/\Rep a d v/\RelV v its.toArray[j]:=by
 have hl:j<its.length:=by simpa using h
 have h2:j<vs.length:=by rw[q.length];exact hl
 obtain⟨v,e1⟩:∃v,vs[j]?=vE v:=⟨vs[j],zJ h2⟩;obtain⟨d,e2,rd⟩:=r.get' e1;obtain⟨u,e3,ru⟩:=q.get e1;have e4:u=its.toArray[j]:=by have:its[j]?=vE its[j]:=zJ hl;rw[this]at e3;simpa using(Option.some.inj e3).symm
 exact⟨d,v,e2,rd,by rw[<-e4];exact ru⟩
theorem Yw(I:Inv X vD σ a.H s)(hk:a.K=X.K)(sm:Sim a G):∀(n:Nat){A:xJ}{d e:D}{x y:V}{u w:xj}{k:Bool},A.units+n<cLine->Rep a d x->Rep a e y->RelV x u->RelV y w->eqD n G d e=vE k->
  SeqAt.EqAt A s u w k/\SeqAt.RcAt A s u w k/\SeqAt.RcNeAt A s u w (!k)
 |0,_,_,_,_,_,_,_,_,_,_,_,_,_,h=>by cases h
 | n + 1,A,d,e,x,y,u,w,k,hu,rd,re,ru,rw',h=>by
  have vd:=Z1 sm rd;have ve:=Z1 sm re;have hu1:A.units<cLine:=by lia
  have hu2:A.in1.units+n<cLine:=by show A.units+1+n<cLine;lia
  have same:∀{z:V},Rep a d z->Rep a e z->eqD (n+1) G d e=vE k->k=vG:=λr1 r2 r3=>ZGk I hk sm (n+1) r1 r2 r3
  have h0:=h;unfold eqD at h
  try dsimp only at h
  have refs:∀{p q:xZ}{k:Bool},(p=q->k=vG)->SeqAt.RcAt A s (.ref p) (.ref q) k->SeqAt.EqAt A s (.ref p) (.ref q) k:=λ{p q k}hs hr=>by
   by_cases e:p=q
   ·rw[hs e,e];exact SeqAt.EqAt.same _
   ·exact SeqAt.EqAt.of_refs e hr
  revert h vd ve
  cases hvd:view G d<;>cases hve:view G e<;>intro vd ve h<;>dsimp only at h vd ve<;>first
   |cases h
   |skip
  ·
   obtain⟨rfl,f1⟩:=vd;obtain⟨rfl,f2⟩:=ve;exact⟨ZEj ru rw' f1 f2,ZQP ru rw' f1 f2,ZR4 ru rw' f1 f2⟩
  ·
   obtain⟨rfl,f1⟩:=vd;obtain⟨q,vs,rfl,h2,r2⟩:=ve;cases rw';rw[hk]at h2;obtain⟨its,qv,pl,_⟩:=I.list h2;cases x with
   |non=>cases ru;exact⟨SeqAt.EqAt.none_list pl.isList hu1,SeqAt.RcAt.none_list pl.isList hu1,SeqAt.RcNeAt.none_list pl.isList hu1⟩
   |bl b=>cases ru;exact⟨SeqAt.EqAt.bool_list b pl.isList hu1,SeqAt.RcAt.bool_list b pl.isList hu1,SeqAt.RcNeAt.bool_list b pl.isList hu1⟩
   |int b=>obtain⟨t,rfl⟩:=ru;exact⟨SeqAt.EqAt.int_list b t pl.isList hu1,SeqAt.RcAt.int_list b t pl.isList hu1,SeqAt.RcNeAt.int_list b t pl.isList hu1⟩
   |str b=>obtain⟨t,rfl⟩:=ru;exact⟨SeqAt.EqAt.str_list b t pl.isList hu1,SeqAt.RcAt.str_list b t pl.isList hu1,SeqAt.RcNeAt.str_list b t pl.isList hu1⟩
   |_=>exact absurd (show vH=vG from f1) zy
  ·
   obtain⟨rfl,f1⟩:=vd;obtain⟨q,vs,rfl,h2,r2⟩:=ve;cases rw';rw[hk]at h2;obtain⟨its,qv,pl,_⟩:=I.tuple h2;cases x with
   |non=>cases ru;exact⟨SeqAt.EqAt.none_tuple pl hu1,SeqAt.RcAt.none_tuple pl hu1,SeqAt.RcNeAt.none_tuple pl hu1⟩
   |bl b=>cases ru;exact⟨SeqAt.EqAt.bool_tuple b pl hu1,SeqAt.RcAt.bool_tuple b pl hu1,SeqAt.RcNeAt.bool_tuple b pl hu1⟩
   |int b=>obtain⟨t,rfl⟩:=ru;exact⟨SeqAt.EqAt.int_tuple b t pl hu1,SeqAt.RcAt.int_tuple b t pl hu1,SeqAt.RcNeAt.int_tuple b t pl hu1⟩
   |str b=>obtain⟨t,rfl⟩:=ru;exact⟨SeqAt.EqAt.str_tuple b t pl hu1,SeqAt.RcAt.str_tuple b t pl hu1,SeqAt.RcNeAt.str_tuple b t pl hu1⟩
   |_=>exact absurd (show vH=vG from f1) zy
  ·
   obtain⟨rfl,f1⟩:=ve;obtain⟨q,vs,rfl,h2,r2⟩:=vd;cases ru;rw[hk]at h2;obtain⟨its,qv,pl,_⟩:=I.list h2;cases y with
   |non=>cases rw';exact⟨SeqAt.EqAt.list_none pl.isList hu1,SeqAt.RcAt.list_none pl.isList hu1,SeqAt.RcNeAt.list_none pl.isList hu1⟩
   |bl b=>cases rw';exact⟨SeqAt.EqAt.list_bool b pl.isList hu1,SeqAt.RcAt.list_bool b pl.isList hu1,SeqAt.RcNeAt.list_bool b pl.isList hu1⟩
   |int b=>obtain⟨t,rfl⟩:=rw';exact⟨SeqAt.EqAt.list_int b t pl.isList hu1,SeqAt.RcAt.list_int b t pl.isList hu1,SeqAt.RcNeAt.list_int b t pl.isList hu1⟩
   |str b=>obtain⟨t,rfl⟩:=rw';exact⟨SeqAt.EqAt.list_str b t pl.isList hu1,SeqAt.RcAt.list_str b t pl.isList hu1,SeqAt.RcNeAt.list_str b t pl.isList hu1⟩
   |_=>exact absurd (show vH=vG from f1) zy
  ·
   obtain⟨p,vs,rfl,h1,r1⟩:=vd;obtain⟨q,vs',rfl,h2,r2⟩:=ve;cases ru;cases rw';rw[hk]at h1 h2;obtain⟨its,q1,p1,_⟩:=I.list h1;obtain⟨its',q2,p2,_⟩:=I.list h2;have sz1:its.toArray.size=vs.length:=by rw[zY];exact q1.length.symm
   have sz2:its'.toArray.size=vs'.length:=by rw[zY];exact q2.length.symm
   split at h
   ·rename_i hl;obtain⟨f,hf,hb⟩:=Y9 h;have hsz:its.toArray.size=its'.toArray.size:=by rw[sz1,sz2,<-r1.length,<-r2.length];exact hl
    have he:∀j(g1:j<its.toArray.size)(g2:j<its'.toArray.size),SeqAt.EqAt A.in1 s its.toArray[j] its'.toArray[j] (f j):=λj g1 g2=>by obtain⟨d1,v1,e1,rd1,rv1⟩:=V8 r1 q1 g1;obtain⟨d2,v2,e2,rd2,rv2⟩:=V8 r2 q2 g2;exact(Yw I hk sm n hu2 rd1 rd2 rv1 rv2 (hf j d1 d2 e1 e2)).1
    have hk':k=(zZ its.toArray.size).all f:=by
     rw[hb]
     congr 2
     rw[sz1,<-r1.length,hl];lia
    have rc:SeqAt.RcAt A s (.ref p) (.ref q) k:=by rw[hk'];exact SeqAt.RcAt.lists p1.isList p2.isList hsz hu1 he
    refine⟨refs (λe=>?_) rc,rc,by rw[hk'];exact SeqAt.RcNeAt.lists p1.isList p2.isList hsz hu1 he⟩;subst e;exact same rd re h0
   ·rename_i hl;have h':vH=k:=Option.some.inj h;subst h';have hsz:(its.toArray.size != its'.toArray.size)=vG:=by rw[bne_iff_ne,sz1,sz2,<-r1.length,<-r2.length];exact hl
    refine⟨refs (λe=>?_) (SeqAt.RcAt.lists_lengths p1.isList p2.isList hsz hu1),SeqAt.RcAt.lists_lengths p1.isList p2.isList hsz hu1,SeqAt.RcNeAt.lists_lengths p1.isList p2.isList hsz hu1⟩;subst e;exact same rd re h0
  ·
   obtain⟨p,vs,rfl,h1,r1⟩:=vd;obtain⟨q,vs',rfl,h2,r2⟩:=ve;cases ru;cases rw';rw[hk]at h1 h2;obtain⟨its,q1,p1,_⟩:=I.list h1;obtain⟨its',q2,p2,_⟩:=I.tuple h2;exact⟨SeqAt.EqAt.list_tuple p1.isList p2 hu1,SeqAt.RcAt.list_tuple p1.isList p2 hu1,SeqAt.RcNeAt.list_tuple p1.isList p2 hu1⟩
  ·
   obtain⟨rfl,f1⟩:=ve;obtain⟨q,vs,rfl,h2,r2⟩:=vd;cases ru;rw[hk]at h2;obtain⟨its,qv,pl,_⟩:=I.tuple h2;cases y with
   |non=>cases rw';exact⟨SeqAt.EqAt.tuple_none pl hu1,SeqAt.RcAt.tuple_none pl hu1,SeqAt.RcNeAt.tuple_none pl hu1⟩
   |bl b=>cases rw';exact⟨SeqAt.EqAt.tuple_bool b pl hu1,SeqAt.RcAt.tuple_bool b pl hu1,SeqAt.RcNeAt.tuple_bool b pl hu1⟩
   |int b=>obtain⟨t,rfl⟩:=rw';exact⟨SeqAt.EqAt.tuple_int b t pl hu1,SeqAt.RcAt.tuple_int b t pl hu1,SeqAt.RcNeAt.tuple_int b t pl hu1⟩
   |str b=>obtain⟨t,rfl⟩:=rw';exact⟨SeqAt.EqAt.tuple_str b t pl hu1,SeqAt.RcAt.tuple_str b t pl hu1,SeqAt.RcNeAt.tuple_str b t pl hu1⟩
   |_=>exact absurd (show vH=vG from f1) zy
  ·
   obtain⟨p,vs,rfl,h1,r1⟩:=vd;obtain⟨q,vs',rfl,h2,r2⟩:=ve;cases ru;cases rw';rw[hk]at h1 h2;obtain⟨its,q1,p1,_⟩:=I.tuple h1;obtain⟨its',q2,p2,_⟩:=I.list h2;exact⟨SeqAt.EqAt.tuple_list p1 p2.isList hu1,SeqAt.RcAt.tuple_list p1 p2.isList hu1,SeqAt.RcNeAt.tuple_list p1 p2.isList hu1⟩
  ·
   rename_i xs ys;obtain⟨p,vs,rfl,h1,r1⟩:=vd;obtain⟨q,vs',rfl,h2,r2⟩:=ve;cases ru;cases rw';rw[hk]at h1 h2;obtain⟨its,q1,p1,_⟩:=I.tuple h1;obtain⟨its',q2,p2,_⟩:=I.tuple h2;have sz1:its.toArray.size=xs.length:=by rw[zY,r1.length];exact q1.length.symm
   have sz2:its'.toArray.size=ys.length:=by rw[zY,r2.length];exact q2.length.symm
   split at h
   ·rename_i b hz;have h':(b&&xs.length==ys.length)=k:=Option.some.inj h;obtain⟨f,hf,hb⟩:=Y9 hz;have he:∀j(g1:j<its.toArray.size)(g2:j<its'.toArray.size),SeqAt.EqAt A.in1 s its.toArray[j] its'.toArray[j] (f j):=λj g1 g2=>by obtain⟨d1,v1,e1,rd1,rv1⟩:=V8 r1 q1 g1;obtain⟨d2,v2,e2,rd2,rv2⟩:=V8 r2 q2 g2;exact(Yw I hk sm n hu2 rd1 rd2 rv1 rv2 (hf j d1 d2 e1 e2)).1
    have hk':k=((zZ (min its.toArray.size its'.toArray.size)).all f&&its.toArray.size==its'.toArray.size):=by rw[<-h',hb,sz1,sz2]
    have rc:SeqAt.RcAt A s (.ref p) (.ref q) k:=by rw[hk'];exact SeqAt.RcAt.tuples p1 p2 hu1 he
    refine⟨refs (λe=>?_) rc,rc,by rw[hk'];exact SeqAt.RcNeAt.tuples p1 p2 hu1 he⟩;subst e;exact same rd re h0
   ·cases h
def Cv(d e:D)(G:DH):R D:=match eqD 30 G d e with
 |some k=>.ok (.bl k) G
 |none=>.bad
def Hh(d e:D)(G:DH):R D:=match eqD 30 G d e with
 |some k=>.ok (.bl (!k)) G
 |none=>.bad
theorem Dr(hu:X.A.units+64<cLine):OpR X (xI .Eq) (lR2 X.K E Cv):=by
 intro vD s σ H x y v u Q I rx ry ⟨a,G,d,e,hk,hH,sm,rd,re,q⟩;subst hH;unfold Cv at q;split at q
 ·rename_i k hd;exact(Yw I hk sm 30 (by lia) rd re rx ry hd).2.1 _ _ _ _ ⟨.bl k,a.H,I,rfl,q a _ (Ext.refl a) sm rfl⟩
 ·exact q.elim
theorem P0(hu:X.A.units+64<cLine):OpR X (xI .NotEq) (lR2 X.K E Hh):=by
 intro vD s σ H x y v u Q I rx ry ⟨a,G,d,e,hk,hH,sm,rd,re,q⟩;subst hH;unfold Hh at q;split at q
 ·rename_i k hd;exact(Yw I hk sm 30 (by lia) rd re rx ry hd).2.2 _ _ _ _ ⟨.bl (!k),a.H,I,rfl,q a _ (Ext.refl a) sm rfl⟩
 ·exact q.elim
end
noncomputable abbrev DG:=D->DSt->DH->R DSt
variable{g:DG}
def Gs(E:XK)(a:Wd)(r:R DSt)(Q:St->Hp->Prop):Prop:=match r with
 |.ok S G=>∀(b:Wd)(σ:St),Ext a b->Sim b G->RepS b S σ->Q σ b.H
 |.err x G=>XOk E a x G
 |.bad=>False
def lG(K:PySem.W.Frag)(E:XK)(t:DG):TG:=λv σ H Q=>∃(a:Wd)(S:DSt)(G:DH)(d:D),a.K=K/\a.H=H/\Sim a G/\RepS a S σ/\Rep a d v/\Gs E a (t d S G) Q
def QG(X:Cx)(E:XK)(tg:xX)(t:DG):Prop:=PG X tg (lG X.K E t)
noncomputable abbrev DGs:=List D->DSt->DH->R DSt
def lGs(K:PySem.W.Frag)(E:XK)(t:DGs):TGs:=λvs σ H Q=>∃(a:Wd)(S:DSt)(G:DH)(ds:List D),a.K=K/\a.H=H/\Sim a G/\RepS a S σ/\Reps a ds vs/\Gs E a (t ds S G) Q
def QGs(X:Cx)(E:XK)(tg:List xX)(t:DGs):Prop:=PGs X tg (lGs X.K E t)
noncomputable def gV(i:Nat):DG:=λd S G=>.ok (S.set i (vE d)) G
noncomputable def Bk:DGs:=λds S G=>match ds with
 |[]=>.ok S G
 |_=>.bad
def Am(t:DG)(u:DGs):DGs:=λds S G=>match ds with
 |d::r=>(t d S G).bind λS1 G1=>u r S1 G1
 |[]=>.bad
noncomputable def Bg(n:Nat)(t:DGs):DG:=λd S G=>match d with
 |.tup ds=>if ds.length=n then t ds S G else .bad
 |_=>.bad
theorem Gs.imp{r:R DSt}{Q Q':St->Hp->Prop}(h:Gs E a r Q)(w:∀v H,Q v H->Q' v H):Gs E a r Q':=by
 cases r with
 |ok d G=>exact λb v x s q=>w _ _ (h b v x s q)
 |err e G=>exact h
 |bad=>exact h
theorem Gs.mono(x:Ext a b){r:R DSt}{Q:St->Hp->Prop}(h:Gs E a r Q):Gs E b r Q:=by
 cases r with
 |ok d G=>exact λc v y s q=>h c v (x.trans y) s q
 |err e G=>exact XOk.mono (E:=E) (e:=e) (G:=G) x h
 |bad=>exact h
theorem ZMi{r:R DSt}{f:DSt->DH->R DSt}{Q:St->Hp->Prop}(h:Gs E a (r.bind f) Q):
  Gs E a r (λσ H=>∃(b:Wd)(S:DSt)(G:DH),b.H=H/\Ext a b/\Sim b G/\RepS b S σ/\r=.ok S G/\Gs E b (f S G) Q):=by
 cases r with
 |ok d G=>exact λb v x s q=>⟨b,d,G,rfl,x,s,q,rfl,Gs.mono x h⟩
 |err e G=>exact h
 |bad=>exact h
theorem ZJ7{f:D->DH->R DSt}{Q:St->Hp->Prop}(h:Gs E a (r.bind f) Q):
  out E a r (λv H=>∃(b:Wd)(d:D)(G:DH),b.H=H/\Ext a b/\Sim b G/\Rep b d v/\r=.ok d G/\Gs E b (f d G) Q):=by
 cases r with
 |ok d G=>exact λb v x s q=>⟨b,d,G,rfl,x,s,q,rfl,Gs.mono x h⟩
 |err e G=>exact h
 |bad=>exact h
theorem ZIo{r:R DSt}{f:DSt->DH->SR}(h:Dg E a (r.toS f) W):
  Gs E a r (λσ H=>∃(b:Wd)(S:DSt)(G:DH),b.H=H/\Ext a b/\Sim b G/\RepS b S σ/\r=.ok S G/\Dg E b (f S G) W):=by
 cases r with
 |ok d G=>exact λb v x s q=>⟨b,d,G,rfl,x,s,q,rfl,Dg.mono x h⟩
 |err e G=>exact h
 |bad=>exact h
section
variable{X:Cx}{E:XK}
theorem _root_._L.PG.mono{t t':TG}(h:PG X e t)(w:∀v σ H Q,t' v σ H Q->t v σ H Q):PG X e t':=λvD s σ H v u Q I r q=>h vD s σ H v u Q I r (w v σ H Q q)
theorem _root_._L.PGs.mono{e:List xX}{t t':TGs}(h:PGs X e t)(w:∀v σ H Q,t' v σ H Q->t v σ H Q):PGs X e t':=λvD s σ H v u Q I r q=>h vD s σ H v u Q I r (w v σ H Q q)
theorem Aq(i:Nat){pos:Pos}(hN:X.N.Nodup)(hi:X.N[i]?=vE x:=by rfl)(hx:Loc X.env.scope x:=by first|exact Or.inl rfl|exact Or.inr rfl)
  (hf:X.fn x=vG∨X.env.scope.names.lookup x=vE .local:=by first|exact .inl rfl|exact .inr rfl|assumption):QG X E (.Name x pos) (gV i):=
 (ZNs hN hi hx hf).mono λv σ H Q h=>by obtain⟨a,S,G,d,hk,rfl,s,r,q,h⟩:=h;exact h a _ (Ext.refl a) s (r.set i q)
theorem El:QGs X E [] Bk:=ZN2.mono λvs σ H Q h=>by
 obtain⟨a,S,G,ds,hk,rfl,s,r,q,h⟩:=h;cases ds with
 |nil=>exact⟨q,h a σ (Ext.refl a) s r⟩
 |cons d ds=>exact h.elim
theorem Bh{es:List xX}{t:DG}{u:DGs}(h1:QG X E e t)(h2:QGs X E es u)
  (hs:(xk (e::es) X.env).map (·.2)=assign e X.env::(xk es X.env).map (·.2):=by rfl):QGs X E (e::es) (Am t u):=(ZPK h1 h2 hs).mono λvs σ H Q h=>by
 obtain⟨a,S,G,ds,hk,rfl,s,r,q,h⟩:=h;cases ds with
 |nil=>exact h.elim
 |cons d ds=>
  obtain⟨v,rest,e1,q1,q2⟩:=q;refine⟨v,rest,e1,a,S,G,d,hk,rfl,s,r,q1,(ZMi h).imp ?_⟩;rintro σ' _ ⟨b,S1,G1,rfl,x,s1,r1,_,h1⟩;exact⟨b,S1,G1,ds,x.k.trans hk,rfl,s1,r1,q2.mono x,h1⟩
theorem Em{es:List xX}{k:Nat}{t:DGs}{n:Nat}{pos:Pos}(hc:X.calm=vG)(h:QGs X E es t)
  (hn:(xk es X.env).length=n:=by rfl) (hst:(xk es X.env).findIdx? (·.1)=vF:=by rfl):QG X E (.Tuple es k pos) (Bg n t):=(ZN0 hc h hn hst).mono λv σ H Q h=>by
 obtain⟨a,S,G,d,hk,rfl,s,r,q,h⟩:=h;cases d with
 |tup ds=>
  obtain⟨p,vs,e,h1,r1⟩:=q;unfold Bg at h;dsimp only at h;split at h
  ·rename_i hl;exact⟨p,vs,e,by rw[<-hk];exact h1,by rw[<-r1.length];exact hl,a,S,G,ds,hk,rfl,s,r,r1,h⟩
  ·exact h.elim
 |_=>exact h.elim
def M8(o i v:D)(G:DH):R D:=match o,i with
 | .ref p,.int k=>match G[p]? with
  |some (.lst xs)=>match ixN xs.length k with
   |some j=>.ok .non (G.set p (.lst (xs.set j v)))
   |none=>.bad
  |_=>.bad
 |_,_=>.bad
def gIx(to ti:DE):DG:=λv S G=>(to S G).bind λo G1=>(ti S G1).bind λi G2=>(M8 o i v G2).bind λ_ G3=>.ok S G3
theorem ZCS{vs':List V}{ds':List D}(s:Sim a G)(hi:i<a.n)(h:a.H (a.m i)=vE (.lst vs))(r:Reps a ds' vs'):
  Ext a (a.put (a.m i) (.lst vs'))/\Sim (a.put (a.m i) (.lst vs')) (G.set i (.lst ds')):=⟨Ext.wr h,s.wr hi h (r.mono (Ext.wr h))⟩
theorem Xv{o i:xX}{to ti:DE}{pos:Pos}(ho:QE X E o to)(hi:QE X E i ti)
  (ha:∀v,assign (.Subscript o i pos) X.env v=(do
   let ov<-holding [v] (eval o X.env);let iv<-holding [v,ov] (eval i X.env)
   standAt pos
   holding [v,ov,iv] (setItem ov iv v)
   release [v,ov,iv] []):=by intro _;rfl):QG X E (.Subscript o i pos) (gIx to ti):=(ZRQ ho hi set_list ha).mono λv σ H Q h=>by
 obtain⟨a,S,G,d,hk,rfl,s,r,q,h⟩:=h;refine⟨a,S,G,hk,rfl,s,r,(ZJ7 h).imp ?_⟩;rintro ov _ ⟨b,e,G1,rfl,x,s1,q1,_,h1⟩;refine⟨b,S,G1,x.k.trans hk,rfl,s1,r.mono x,(ZJ7 h1).imp ?_⟩;rintro iv _ ⟨c,f,G2,rfl,y,s2,q2,_,h2⟩;cases e with
 | ref p=>
  cases f with
  | int k=>
   unfold M8 at h2;dsimp only at h2;split at h2
   ·rename_i xs hx;split at h2
    ·rename_i j hj;obtain⟨vs,e1,r1⟩:=s2.lst hx;have q1':=q1.mono y;have rv:=(q.mono x).mono y;obtain⟨x3,s3⟩:=ZCS s2 q1'.1 e1 (r1.set rv j);refine⟨c.m p,vs,k,j,q1'.2,q2,e1,by rw[<-r1.length];exact hj,?_⟩;exact h2 _ σ x3 s3 (((r.mono x).mono y).mono x3)
    ·exact h2.elim
   ·exact h2.elim
  |_=>exact h2.elim
 |_=>exact h2.elim
variable{st:xz}{rest:List xz}{t u:DS}{e:xX}{te:DE}{pos:Pos}
noncomputable def sNx:DS:=λS G=>.nx S G
noncomputable def Ah(t u:DS):DS:=λS G=>match t S G with
 |.nx S1 G1=>u S1 G1
 |r=>r
def sEx(te:DE):DS:=λS G=>(te S G).toS λ_ G1=>.nx S G1
def sRt(te:DE):DS:=λS G=>(te S G).toS λd G1=>.rt d G1
def sIf(c:DB)(t u:DS):DS:=λS G=>(c S G).toS λk G1=>if k=vG then t S G1 else u S G1
def sAs(te:DE)(g:DG):DS:=λS G=>(te S G).toS λd G1=>(g d S G1).toS λS2 G2=>.nx S2 G2
def sAu(i:Nat)(te:DE)(f:D->D->DH->R D):DS:=λS G=>match S[i]? with
 |some (vE x)=>(te S G).toS λy G1=>(f x y G1).toS λz G2=>.nx (S.set i (vE z)) G2
 |_=>.bad
theorem Cj:QSs X E [] sNx:=ZNM.mono λW σ H h=>by obtain⟨a,S,G,hk,rfl,s,r,h⟩:=h;exact h a σ (Ext.refl a) s r
theorem Dg.nxOf{t:DS}(hk:a.K=K)(h:Dg E a (Ah t u S G) W):Dg E a (t S G) {W with nx:=lS K E u W}:=by
 unfold Ah at h
 revert h
 cases t S G<;>intro h
 ·exact λb σ x s r=>⟨b,_,_,x.k.trans hk,rfl,s,r,Dg.mono x h⟩
 all_goals exact h
theorem Ai(h1:QS X E st t)(h2:QSs X E rest u):QSs X E (st::rest) (Ah t u):=(ZOB h1 h2).mono λW σ H h=>by obtain⟨a,S,G,hk,rfl,s,r,h⟩:=h;exact⟨a,S,G,hk,rfl,s,r,h.nxOf hk⟩
theorem An(h1:QS X E st t):QSs X E [st] t:=ZQy h1
theorem Er(he:QE X E e te)(hs:swapsWith e vF pos.line X.env=pure vH:=by rfl):QS X E (.Expr e pos) (sEx te):=(ZNv he hs).mono λW σ H h=>by obtain⟨a,S,G,hk,rfl,s,r,h⟩:=h;refine⟨a,S,G,hk,rfl,s,r,(J9 h).imp ?_⟩;rintro v _ ⟨b,d,G1,rfl,x,s1,q,_,h1⟩;exact h1 b σ (Ext.refl b) s1 (r.mono x)
theorem Bj(he:QE X E e te):QS X E (.Return (vE e) pos) (sRt te):=(ZN9 he).mono λW σ H h=>by obtain⟨a,S,G,hk,rfl,s,r,h⟩:=h;refine⟨a,S,G,hk,rfl,s,r,(J9 h).imp ?_⟩;rintro v _ ⟨b,d,G1,rfl,x,s1,q,_,h1⟩;exact h1 b v (Ext.refl b) s1 q
theorem Bw{c:xX}{tc:DB}{a b:List xz}(hc:QT X E c tc)(ha:QSs X E a t)(hb:QSs X E b u):QS X E (.If c a b pos) (sIf tc t u):=(ZLn hc ha hb).mono λW σ H h=>by
 obtain⟨a,S,G,hk,rfl,s,r,h⟩:=h;refine⟨a,S,G,hk,rfl,s,r,(ZFs h).imp ?_⟩;rintro k _ ⟨b,G1,rfl,x,s1,_,h1⟩;cases k with
 |true=>exact⟨b,S,G1,x.k.trans hk,rfl,s1,r.mono x,h1⟩
 |false=>exact⟨b,S,G1,x.k.trans hk,rfl,s1,r.mono x,h1⟩
theorem ZK5(h:lS K E (sAs te g) W σ H):ZBD (lE K E te) (lG K E g) W σ H:=by obtain⟨a,S,G,hk,rfl,s,r,h⟩:=h;refine⟨a,S,G,hk,rfl,s,r,(J9 h).imp ?_⟩;rintro v _ ⟨b,d,G1,rfl,x,s1,q,_,h1⟩;refine⟨b,S,G1,d,x.k.trans hk,rfl,s1,r.mono x,q,(ZIo h1).imp ?_⟩;rintro σ' _ ⟨c,S2,G2,rfl,y,s2,r2,_,h2⟩;exact h2 c σ' (Ext.refl c) s2 r2
theorem Hj(he:QE X E e te)(hg:QG X E tg g)(hs:swapsWithSole [tg] e pos.line X.env=pure vH:=by rfl)(hw:swappedStores [tg] e X.env=pure vF:=by rfl)
  (h1:(xk [tg] X.env).map (·.2)=[assign tg X.env]:=by rfl):QS X E (.Assign [tg] e pos) (sAs te g):=(ZNp he hg hs hw h1).mono λ_ _ _ h=>ZK5 h
theorem Ao(i:Nat){pos':Pos}(hN:X.N.Nodup)(he:QE X E e te)(hi:X.N[i]?=vE x:=by rfl)(hx:Loc X.env.scope x:=by first|exact Or.inl rfl|exact Or.inr rfl)(hs:swapsWith e (vE (.Name x pos')) pos.line X.env=pure vH:=by rfl)
  (hf:X.fn x=vG∨X.env.scope.names.lookup x=vE .local:=by first|exact .inl rfl|exact .inr rfl|assumption):QS X E (.Assign [.Name x pos'] e pos) (sAs te (gV i)):=
 (ZSM hN hi hx he hs hf).mono λW σ H h=>by obtain⟨a,S,G,hk,rfl,s,r,h⟩:=h;refine⟨a,S,G,hk,rfl,s,r,(J9 h).imp ?_⟩;rintro v _ ⟨b,d,G1,rfl,x,s1,q,_,h1⟩;exact h1 b _ (Ext.refl b) s1 ((r.mono x).set i q)
theorem ZIw(i:Nat){op:Operator}{pos':Pos}(hN:X.N.Nodup)(he:QE X E e te)(ho:OpR X (inplaceOp op) (lR2 X.K E f))(hi:X.N[i]?=vE x:=by rfl)(hx:Loc X.env.scope x:=by first|exact Or.inl rfl|exact Or.inr rfl)
  (hf:X.fn x=vG∨X.env.scope.names.lookup x=vE .local:=by first|exact .inl rfl|exact .inr rfl|assumption):QS X E (.AugAssign (.Name x pos') op e pos) (sAu i te f):=
 (ZK4 (ti:=lR2 X.K E f) hN hi hx he ho hf).mono λW σ H h=>by
  obtain⟨a,S,G,hk,rfl,s,r,h⟩:=h;unfold sAu at h;split at h
  ·rename_i d hd;obtain⟨v,e1,q⟩:=r.get i d hd;refine⟨v,e1,a,S,G,hk,rfl,s,r,(J9 h).imp ?_⟩;rintro w _ ⟨b,d1,G1,rfl,x,s1,q1,_,h1⟩;refine⟨b,G1,d,d1,x.k.trans hk,rfl,s1,q.mono x,q1,(J9 h1).imp ?_⟩;rintro z _ ⟨c,d2,G2,rfl,y,s2,q2,_,h2⟩;exact h2 c _ (Ext.refl c) s2 (((r.mono x).mono y).set i q2)
  ·exact h.elim
noncomputable def Ms:D->D->DH->R D
 |.int i,.int j,G=>.ok (.int (i+j)) G
 |.str i,.str j,G=>if i.length+j.length<=1000000 then .ok (.str (i++j)) G else .bad
 |_,_,_=>.bad
theorem Rf:OpR X (inplaceOp .Add) (lR2 X.K E Ms):=Hk (OpR.or (r:=ipI λi j=>i+j) ZR9 ZOy) λa G d e x y Q hk s rd re q=>by
 cases d<;>cases e<;>first
  |exact q.elim
  |exact .inl ⟨_,_,rd,re,q a _ (Ext.refl a) s rfl⟩
  | (
    unfold Ms at q;dsimp only at q;split at q
    ·rename_i hl;exact .inr ⟨_,_,rd,re,zB hl size6,q a _ (Ext.refl a) s rfl⟩
    ·exact q.elim)
theorem ZSC:OpR X (inplaceOp .Sub) (lR2 X.K E Ge):=Hk (r:=ipI λi j=>i-j) ZO5 λa G d e x y Q hk s rd re q=>by
 cases d<;>cases e<;>first
  |exact q.elim
  |exact⟨_,_,rd,re,q a _ (Ext.refl a) s rfl⟩
end
noncomputable def aft(r:SR)(k:DSt->DH->SR):SR:=match r with
 |.nx S G=>k S G
 |.ct S G=>k S G
 |.bk S G=>.nx S G
 |r=>r
def Bo(g:DG)(b:DS):List D->DS
 |[],S,G=>.nx S G
 |x::xs,S,G=>(g x S G).toS λS1 G1=>aft (b S1 G1) (Bo g b xs)
def forM(i:Nat)(g:DG)(b:DS):Nat->Nat->DS
 |0,j,S,G=>match G[i]? with
  |some (.lst xs)=>if xs.length<=j then .nx S G else .bad
  |_=>.bad
 | k+1,j,S,G=>match G[i]? with
  |some (.lst xs)=>match xs[j]? with
   |some x=>(g x S G).toS λS1 G1=>aft (b S1 G1) (forM i g b k (j+1))
   |none=>.nx S G
  |_=>.bad
def Eo(f:Nat->DH->Option (Option D))(g:DG)(b:DS):Nat->Nat->DS
 |0,j,S,G=>match f j G with
  |some vF=>.nx S G
  |_=>.bad
 |k+1,j,S,G=>match f j G with
  |some (vE x)=>(g x S G).toS λS1 G1=>aft (b S1 G1) (Eo f g b k (j+1))
  |some vF=>.nx S G
  |none=>.bad
inductive ItD where
 |pure (xs:List D)
 |mt (i:Nat)
 |fn (n:Nat) (f:Nat->DH->Option (Option D))
noncomputable abbrev DI:=DSt->DH->R ItD
def Du(it:DI)(g:DG)(b:DS):DS:=λS G=>(it S G).toS λJ G1=>match J with
 |.pure xs=>Bo g b xs S G1
 |.mt i=>match G1[i]? with
  |some (.lst xs)=>forM i g b xs.length 0 S G1
  |_=>.bad
 |.fn n f=>Eo f g b n 0 S G1
def RepI(a:Wd):ItD->It->Prop
 |.pure xs,J=>∃vs:List V,Reps a xs vs/\∀b:Wd,Ext a b->∀i,(∀v,vs[i]?=vE v->J.go i b.H/\∀x H',J.yld i b.H x H'->x=v/\H'=b.H)/\(vs.length<=i->J.stop i b.H)
 |.mt k,J=>k<a.n/\∀b:Wd,Ext a b->∀vs,b.H (b.m k)=vE (.lst vs)->∀i,(∀v,vs[i]?=vE v->J.go i b.H/\∀x H',J.yld i b.H x H'->x=v/\H'=b.H)/\(vs.length<=i->J.stop i b.H)
 |.fn _ f,J=>∀b:Wd,Ext a b->∀G,Sim b G->∀i,(∀d,f i G=vE (vE d)->J.go i b.H/\∀x H',J.yld i b.H x H'->∃c:Wd,c.H=H'/\Ext b c/\Sim c G/\Rep c d x)/\(f i G=vE vF->J.stop i b.H)
def outI(E:XK)(a:Wd)(r:R ItD)(Q:It->Hp->Prop):Prop:=match r with
 |.ok J G=>∀(b:Wd)(JJ:It),Ext a b->Sim b G->RepI b J JJ->Q JJ b.H
 |.err x G=>XOk E a x G
 |.bad=>False
def lI(K:PySem.W.Frag)(E:XK)(t:DI):TI:=λσ H Q=>∃(a:Wd)(S:DSt)(G:DH),a.K=K/\a.H=H/\Sim a G/\RepS a S σ/\outI E a (t S G) Q
def QI(X:Cx)(E:XK)(tg iter:xX)(t:DI):Prop:=PI X tg iter (lI X.K E t)
theorem outI.imp{r:R ItD}{Q Q':It->Hp->Prop}(h:outI E a r Q)(w:∀v H,Q v H->Q' v H):outI E a r Q':=by
 cases r with
 |ok d G=>exact λb v x s q=>w _ _ (h b v x s q)
 |err e G=>exact h
 |bad=>exact h
theorem ZRd{r:R ItD}{f:ItD->DH->SR}(h:Dg E a (r.toS f) W):
  outI E a r (λJ H=>∃(b:Wd)(d:ItD)(G:DH),b.H=H/\Ext a b/\Sim b G/\RepI b d J/\r=.ok d G/\Dg E b (f d G) W):=by
 cases r with
 |ok d G=>exact λb v x s q=>⟨b,d,G,rfl,x,s,q,rfl,Dg.mono x h⟩
 |err e G=>exact h
 |bad=>exact h
theorem ZE0 {r:SR} {k:DSt->DH->SR} (h:Dg E a (aft r k) W):
  Dg E a r {W with
            nx:=λσ H=>∃(b:Wd)(S:DSt)(G:DH),b.H=H/\Ext a b/\Sim b G/\RepS b S σ/\Dg E b (k S G) W,
            ct:=λσ H=>∃(b:Wd)(S:DSt)(G:DH),b.H=H/\Ext a b/\Sim b G/\RepS b S σ/\Dg E b (k S G) W,bk:=W.nx}:=by
 cases r with
 |nx S G=>exact λb σ x s q=>⟨b,S,G,rfl,x,s,q,Dg.mono x h⟩
 |ct S G=>exact λb σ x s q=>⟨b,S,G,rfl,x,s,q,Dg.mono x h⟩
 |bk S G=>exact h
 |rt d G=>exact h
 |err x G=>exact h
 |bad=>exact h
noncomputable def mtF(i j:Nat)(G:DH):Option (Option D):=match G[i]? with
 |some (.lst xs)=>vE xs[j]?
 |_=>vF
theorem ZJL{J:It}{n:Nat}(r:RepI a (.pure xs) J):RepI a (.fn n λj _=>vE xs[j]?) J:=by
 obtain⟨vs,rv,h⟩:=r;refine λb x G sm i=>⟨λd e=>?_,λe=>?_⟩
 ·obtain⟨v,ev,q⟩:=rv.get (Option.some.inj e);obtain⟨h1,h2⟩:=(h b x i).1 v ev;refine⟨h1,λy H' hy=>?_⟩;obtain⟨rfl,rfl⟩:=h2 y H' hy;exact⟨b,rfl,Ext.refl b,sm,q.mono x⟩
 ·exact(h b x i).2 (by rw[<-rv.length];exact qG.mp (Option.some.inj e))
theorem ZJo{k:Nat}{J:It}{n:Nat}(r:RepI a (.mt k) J):RepI a (.fn n (mtF k)) J:=by
 obtain⟨hk,h⟩:=r;refine λb x G sm i=>?_
 unfold mtF;cases hG:G[k]? with
 |none=>exact⟨λd e=>(by cases e),λe=>(by cases e)⟩
 | some o=>
  cases o with
  |lst xs=>
   obtain⟨vs,e1,rv⟩:=sm.lst hG;refine⟨λd e=>?_,λe=>?_⟩
   ·obtain⟨v,ev,q⟩:=rv.get (Option.some.inj e);obtain⟨h1,h2⟩:=(h b x vs e1 i).1 v ev;refine⟨h1,λy H' hy=>?_⟩;obtain⟨rfl,rfl⟩:=h2 y H' hy;exact⟨b,rfl,Ext.refl b,sm,q⟩
   ·exact(h b x vs e1 i).2 (by rw[<-rv.length];exact qG.mp (Option.some.inj e))
  |_=>exact⟨λd e=>(by cases e),λe=>(by cases e)⟩
theorem ZJB{b:DS}:∀(n j:Nat),j+n=xs.length->Bo g b (xs.drop j)=Eo (λj _=>vE xs[j]?) g b n j
 |0,j,h=>by
  funext S G;rw[zP (by lia)]
  show SR.nx S G=(match vE xs[j]? with |some vF=>SR.nx S G|_=>.bad)
  rw[zA (by lia)]
 |n+1,j,h=>by
  funext S G;have hj:j<xs.length:=by lia
  rw[zM hj]
  show(g xs[j] S G).toS (λS1 G1=>aft (b S1 G1) (Bo g b (xs.drop (j+1))))=(match vE xs[j]? with |some (vE x)=>(g x S G).toS (λS1 G1=>aft (b S1 G1) (Eo (λj _=>vE xs[j]?) g b n (j+1)))|some vF=>SR.nx S G|none=>.bad)
  rw[zJ hj,ZJB n (j+1) (by lia)]
theorem ZF3{b:DS}:∀(n j:Nat),forM i g b n j=Eo (mtF i) g b n j
 | 0,j=>by
  funext S G;unfold forM Eo mtF;cases G[i]? with
  |none=>rfl
  | some o=>
   cases o with
   |lst xs=>
    dsimp only;by_cases hj:j<xs.length
    ·rw[if_neg (by lia),zJ hj]
    ·rw[if_pos (by lia),zA (by lia)]
   |_=>rfl
 | n+1,j=>by
  funext S G;unfold forM Eo;rw[ZF3 n (j+1)];unfold mtF;cases G[i]? with
  |none=>rfl
  | some o=>
   cases o with
   |lst xs=>
    dsimp only
    cases xs[j]?<;>rfl
   |_=>rfl
section
variable{X:Cx}{E:XK}{tg iter:xX}{pos:Pos}
theorem ZPv{it:DI}{b:DS}(h:lS K E (Du it g b) W σ H):tFor (lI K E it) (lG K E g) (lS K E b) W σ H:=by
 obtain⟨a,S,G,hk,rfl,s,r,h⟩:=h;refine⟨a,S,G,hk,rfl,s,r,(ZRd h).imp ?_⟩;rintro J _ ⟨a1,d,G1,rfl,x1,s1,q1,_,h1⟩;have k1:a1.K=K:=x1.k.trans hk
 suffices fnc:∃n f,RepI a1 (.fn n f) J/\Dg E a1 (Eo f g b n 0 S G1) W by
  obtain⟨n,f,q1,h1⟩:=fnc;have walk:∀b:Wd,Ext a1 b->∀G,Sim b G->∀i,(∀d,f i G=vE (vE d)->J.go i b.H/\∀x H',J.yld i b.H x H'->∃c:Wd,c.H=H'/\Ext b c/\Sim c G/\Rep c d x)/\(f i G=vE vF->J.stop i b.H):=q1;refine⟨λi m σ H=>∃(c:Wd)(S:DSt)(G:DH),c.H=H/\Ext a1 c/\Sim c G/\RepS c S σ/\Dg E c (Eo f g b m i S G) W,⟨_,a1,S,G1,rfl,Ext.refl _,s1,r.mono x1,h1⟩,?_⟩;rintro i m σ2 _ ⟨c,S2,G2,rfl,x2,s2,r2,h2⟩
  cases m with
  |zero=>
   unfold Eo at h2;split at h2
   ·rename_i hf;exact .inl ⟨(walk c x2 G2 s2 i).2 hf,h2 c σ2 (Ext.refl c) s2 r2⟩
   ·exact h2.elim
  | succ m=>
   unfold Eo at h2;split at h2
   ·rename_i d hf;obtain⟨go,yl⟩:=(walk c x2 G2 s2 i).1 d hf;refine .inr ⟨go,λσ' H'=>∃(c:Wd)(S:DSt)(G:DH),c.H=H'/\Ext a1 c/\Sim c G/\RepS c S σ'/\Dg E c (Eo f g b m (i+1) S G) W,λσ' H' z=>⟨m,zU _,z⟩,λw H' y=>?_⟩;obtain⟨cc,rfl,xx,ss,rd⟩:=yl w H' y;refine⟨cc,S2,G2,d,xx.k.trans (x2.k.trans k1),rfl,ss,r2.mono xx,rd,(ZIo (Dg.mono xx h2)).imp ?_⟩;rintro σ3 _ ⟨c3,S3,G3,rfl,x3,s3,r3,_,h3⟩
    have fin:=ZE0 h3;refine⟨c3,S3,G3,x3.k.trans (xx.k.trans (x2.k.trans k1)),rfl,s3,r3,?_⟩
    revert fin
    cases b S3 G3 with
    | nx S4 G4=>
      intro fin c4 σ4 x4 s4 q4;obtain⟨c5,S5,G5,hh,x5,s5,r5,h5⟩:=fin c4 σ4 x4 s4 q4;exact⟨c5,S5,G5,hh,x2.trans (xx.trans (x3.trans x5)),s5,r5,h5⟩
    | ct S4 G4=>
      intro fin c4 σ4 x4 s4 q4;obtain⟨c5,S5,G5,hh,x5,s5,r5,h5⟩:=fin c4 σ4 x4 s4 q4;exact⟨c5,S5,G5,hh,x2.trans (xx.trans (x3.trans x5)),s5,r5,h5⟩
    |bk S4 G4=>exact λfin=>fin
    |rt S4 G4=>exact λfin=>fin
    |err S4 G4=>exact λfin=>fin
    |bad=>exact λfin=>fin
   ·rename_i hf;exact .inl ⟨(walk c x2 G2 s2 i).2 hf,h2 c σ2 (Ext.refl c) s2 r2⟩
   ·exact h2.elim
 cases d with
 |pure xs=>
  have h1':Dg E a1 (Bo g b (xs.drop 0) S G1) W:=h1;rw[ZJB xs.length 0 (by lia)]at h1';exact⟨_,_,ZJL q1,h1'⟩
 |mt k=>
  dsimp only at h1;split at h1
  ·rw[ZF3]at h1;exact⟨_,_,ZJo q1,h1⟩
  ·exact h1.elim
 |fn n f=>exact⟨n,f,q1,h1⟩
theorem Eu{body:List xz}{it:DI}{b:DS}(hp:PassesOwn (vZ X.prog X.w) X.A X.env X.xe)(hc:X.calm=vG)(hi:QI X E tg iter it)(hg:QG X E tg g)(hb:QSs X E body b)
  (hs:∀x,foldedSetIterable iter X.env x=pure x:=by intro _;rfl):QS X E (.For tg iter body [] pos) (Du it g b):=(ZMQ hp hc hi hg hb hs).mono λ_ _ _ h=>ZPv h
theorem _root_._L.PI.mono{t t':TI}(h:PI X tg iter t)(w:∀σ H Q,t' σ H Q->t σ H Q):PI X tg iter t':=λvD s σ H Q I q=>h vD s σ H Q I (w σ H Q q)
noncomputable def sgn(c:Nat):D:=.str ⟨#[c]⟩
def signs(x:Str):List D:=x.cps.toList.map sgn
noncomputable def Its(x:Str):It:=⟨λi _=>i<x.cps.size,λi H v H'=>H'=H/\∃c,x.cps[i]?=vE c/\v=.str ⟨#[c]⟩,λi _=>x.cps.size<=i⟩
theorem ZNw(it:xZ)(x:Str)(t:Tok):Turn P w K tg (Its x) [it] it (λi h=>h.IsStrIter it "str_ascii_iterator" x t i) where
 mem:=by simp
 obj:=λi h st b hb=>by
  have e:b=it:=by simpa using hb
  subst e;obtain⟨o,e,c,d⟩:=st;exact⟨o,e,λv z=>by rw[d]at z;cases z⟩
 keep:=λi h h' st k=>let⟨o,ho,r⟩:=st;⟨o,k it (by simp) o ho,r⟩
 item:=by
  intro X hP hw hK hc i vD s σ H E I hf st hg;subst hP hw hK;obtain⟨f0,f1,f2,f3,f4,f5⟩:=hf it (by simp);have hi:i<x.cps.size:=hg;refine wpAny_pyNext_ascii_item st (c:=x.cps[i]) (by simp[hi]) λh' st' sb=>?_
  have I1:Inv X vD σ H {s with heap:=h',toks:=s.toks+1}:=I.turned (λb o hb e=>(sb.2 b hb).trans e) f0 f1 f3 f4 f5;obtain⟨o,e,c,d⟩:=id st';exact⟨_,rfl,R8 (s:={s with heap:=h',toks:=s.toks+1}) e c d (by decide) ⟨.str ⟨#[x.cps[i]]⟩,H,I1,⟨_,rfl⟩,⟨rfl,_,by simp[hi],rfl⟩,st',λb hb=>(hf b hb).1⟩⟩
 done:=by intro X hP hw hK hc i vD s σ H E I hf st hg;subst hP hw hK;obtain⟨f0,f1,f2,f3,f4,f5⟩:=hf it (by simp);have hi:x.cps.size<=i:=hg;exact wpAny_pyNext_ascii_end (I.ok.hd hc) st (by simp[hi]) λh' eb=>⟨rfl,I.turned (t':=s.toks) (λb o hb e=>eb b o hb e) f0 f1 f3 f4 f5⟩
 self:=λ_ _ _ _ _ st h=>wpAny_pyIter_striter_ascii st h
theorem ZRY(it:xZ)(x:Str)(t:Tok):Turn P w K tg (Its x) [it] it (λi h=>h.IsStrIter it "str_iterator" x t i) where
 mem:=by simp
 obj:=λi h st b hb=>by
  have e:b=it:=by simpa using hb
  subst e;obtain⟨o,e,c,d⟩:=st;exact⟨o,e,λv z=>by rw[d]at z;cases z⟩
 keep:=λi h h' st k=>let⟨o,ho,r⟩:=st;⟨o,k it (by simp) o ho,r⟩
 item:=by
  intro X hP hw hK hc i vD s σ H E I hf st hg;subst hP hw hK;obtain⟨f0,f1,f2,f3,f4,f5⟩:=hf it (by simp);have hi:i<x.cps.size:=hg;refine wpAny_pyNext_wide_item st (c:=x.cps[i]) (by simp[hi]) λh' st' sb=>?_
  have I1:Inv X vD σ H {s with heap:=h',toks:=s.toks+1}:=I.turned (λb o hb e=>(sb.2 b hb).trans e) f0 f1 f3 f4 f5;obtain⟨o,e,c,d⟩:=id st';exact⟨_,rfl,R8 (s:={s with heap:=h',toks:=s.toks+1}) e c d (by decide) ⟨.str ⟨#[x.cps[i]]⟩,H,I1,⟨_,rfl⟩,⟨rfl,_,by simp[hi],rfl⟩,st',λb hb=>(hf b hb).1⟩⟩
 done:=by intro X hP hw hK hc i vD s σ H E I hf st hg;subst hP hw hK;obtain⟨f0,f1,f2,f3,f4,f5⟩:=hf it (by simp);have hi:x.cps.size<=i:=hg;exact wpAny_pyNext_wide_end (I.ok.hd hc) st (by simp[hi]) λh' eb=>⟨rfl,I.turned (t':=s.toks) (λb o hb e=>eb b o hb e) f0 f1 f3 f4 f5⟩
 self:=λ_ _ _ _ _ st h=>wpAny_pyIter_striter_wide st h
def iStr(tl:TE):TI:=λσ H R=>tl σ H λx H1=>∃z,x=.str z/\R (Its z) H1
theorem ZR8{l:xX}{tl:TE}(hl:PE X l tl):PI X tg l (iStr tl):=by
 intro vD s σ H R I h;refine thn (hl vD s σ H _ I h) λv s1 ⟨x,H1,I1,r1,q1⟩=>?_
 obtain⟨z,e,q⟩:=q1;subst e;obtain⟨t,rfl⟩:=r1;have fp:∀b∈[s1.heap.objs.size],FpOk X vD H1 b:=λb hb=>by
  have e:b=s1.heap.objs.size:=by simpa using hb
  subst e;exact I1.Ke (zK _) (I1.hok.fresh (zK _))
 cases ha:z.cps.all (· < 128)
 ·refine wpAny_pyIter_wide ha ?_;exact⟨s1.heap.objs.size,[s1.heap.objs.size],_,_,H1,rfl,I1.kept (t':=s1.toks) λb o e=>zQ _ e,ZRY _ z t,⟨_,z0 _ rfl,rfl,rfl⟩,fp,q⟩
 ·refine wpAny_pyIter_ascii ha ?_;exact⟨s1.heap.objs.size,[s1.heap.objs.size],_,_,H1,rfl,I1.kept (t':=s1.toks) λb o e=>zQ _ e,ZNw _ z t,⟨_,z0 _ rfl,rfl,rfl⟩,fp,q⟩
theorem Reps.signs(x:Str):Reps a (signs x) (x.cps.toList.map λc=>V.str ⟨#[c]⟩):=by
 unfold _D.signs
 induction x.cps.toList with
 |nil=>exact rfl
 |cons c r ih=>exact⟨_,_,rfl,rfl,ih⟩
def I9:D->DH->R ItD
 |.tup xs,G=>.ok (.pure xs) G
 |.str x,G=>.ok (.pure (signs x)) G
 |.fl xs,G=>.ok (.pure xs) G
 |.ref i,G=>match G[i]? with
  |some (.lst _)=>.ok (.mt i) G
  |_=>.bad
 |_,_=>.bad
def Fv(te:DE):DI:=λS G=>(te S G).bind I9
theorem Gn(he:QE X E iter te):QI X E tg iter (Fv te):=by
 intro vD s σ H R I h;obtain⟨a,S,G,hk,rfl,sm,r,h⟩:=h;cases ht:te S G with
 |bad=>
  have h':outI E a ((te S G).bind I9) R:=h;rw[ht]at h';exact h'.elim
 |err e G1=>
  have h':outI E a ((te S G).bind I9) R:=h;rw[ht]at h';refine ZBm (tg:=tg) he vD s σ a.H R I ⟨a,S,G,hk,rfl,sm,r,?_⟩;rw[ht];exact h'
 | ok d G1=>
  have h':outI E a ((te S G).bind I9) R:=h;rw[ht]at h';cases d with
  |tup xs=>
   refine ZMu (tg:=tg) he vD s σ a.H R I ⟨a,S,G,hk,rfl,sm,r,?_⟩;rw[ht];rintro b v x sb ⟨p,vs,rfl,hq,rv⟩;have hq':SqT X.K b.H p vs:=by rw[<-hk,<-x.k];exact hq
   refine⟨p,rfl,⟨vs,hq'⟩,h' b _ x sb ⟨vs,rv,λc y i=>⟨λv hv=>⟨⟨vs,v,?_,hv⟩,λw H' z=>?_⟩,λhl=>⟨vs,?_,hl⟩⟩⟩⟩
   ·have:=y.sqT hq;rw[y.k,x.k,hk]at this;exact this
   ·have:=y.sqT hq;rw[y.k,x.k,hk]at this;exact⟨Option.some.inj ((z.2 vs this).symm.trans hv),z.1⟩
   ·have:=y.sqT hq;rw[y.k,x.k,hk]at this;exact this
  |fl xs=>
   refine ZBm (tg:=tg) he vD s σ a.H R I ⟨a,S,G,hk,rfl,sm,r,?_⟩;rw[ht];rintro b v x sb ⟨p,vs,rfl,hq,rv⟩;have hq':SqL X.K b.H p vs:=by rw[<-hk,<-x.k];exact hq.sq
   refine⟨p,rfl,⟨vs,hq'⟩,h' b _ x sb ⟨vs,rv,λc y i=>⟨λv hv=>⟨⟨vs,v,?_,hv⟩,λw H' z=>?_⟩,λhl=>⟨vs,?_,hl⟩⟩⟩⟩
   ·have:=(y.fzL hq).sq;rw[y.k,x.k,hk]at this;exact this
   ·have:=(y.fzL hq).sq;rw[y.k,x.k,hk]at this;exact⟨Option.some.inj ((z.2 vs this).symm.trans hv),z.1⟩
   ·have:=(y.fzL hq).sq;rw[y.k,x.k,hk]at this;exact this
  |ref k=>
   have h2:outI E a (I9 (.ref k) G1) R:=h';unfold I9 at h2;dsimp only at h2;split at h2
   ·rename_i xs hx;refine ZBm (tg:=tg) he vD s σ a.H R I ⟨a,S,G,hk,rfl,sm,r,?_⟩;rw[ht];rintro b v x sb ⟨hkn,rfl⟩;obtain⟨vs,hx,_⟩:=sb.lst hx;refine⟨b.m k,rfl,⟨vs,.of hx⟩,h2 b _ x sb ⟨hkn,λc y us hu i=>?_⟩⟩;rw[y.m k hkn]at hu;exact⟨λv hv=>⟨⟨us,v,.of hu,hv⟩,λw H' z=>⟨Option.some.inj ((z.2 us (.of hu)).symm.trans hv),z.1⟩⟩,λhl=>⟨us,.of hu,hl⟩⟩
   ·exact h2.elim
  | str z=>
   refine ZR8 (tg:=tg) he vD s σ a.H R I ⟨a,S,G,hk,rfl,sm,r,?_⟩;rw[ht];intro b v x sb rv
   cases(show v=V.str z from rv)
   refine⟨z,rfl,h' b _ x sb ⟨_,Reps.signs z,λc y i=>⟨λv hv=>?_,λhl=>?_⟩⟩⟩
   ·rw[zx,zI]at hv;obtain⟨k,hk1,rfl⟩:=hv;have hk2:z.cps[i]?=vE k:=by rw[<-qH];exact hk1
    refine⟨(Array.getElem?_eq_some_iff.mp hk2).1,λw H' q=>?_⟩;obtain⟨e1,k',e2,e3⟩:=q;rw[hk2]at e2;cases e2;exact⟨e3,e1⟩
   ·rw[qQ,qw]at hl;exact hl
  |_=>exact h'.elim
end
noncomputable def Cm(lo:Int)(n:Nat):List D:=(zZ n).map λ(k:Nat)=>D.int (lo+(k:Int))
def inR(j:Int):Prop:= -(2^62)<=j/\j<2^62
noncomputable instance (j:Int):Decidable (inR j):=by unfold inR;infer_instance
def rng1(ds:List D)(G:DH):R ItD:=match ds with
 |[.int j]=>if inR j then .ok (.pure (Cm 0 j.toNat)) G else .bad
 |_=>.bad
def Cy(f:List D->DH->R ItD)(ta:DA):DI:=λS G=>(ta S G).bind f
def sWh(c:DB)(b:DS):Nat->DS
 |0,_,_=>.bad
 |n+1,S,G=>(c S G).toS λk G1=>if k=vG then aft (b S G1) (sWh c b n)else .nx S G1
def Bv(np nl:Nat)(b:DS):List D->DH->R D:=λds G=>if ds.length=np then tidy G (match b (ds.map vE++zV nl vF) G with
 |.nx _ G'=>.ok .non G'
 |.rt d G'=>.ok d G'
 |.err x G'=>.err x G'
 |_=>.bad)else .bad
theorem outI.mono(x:Ext a b){r:R ItD}{Q:It->Hp->Prop}(h:outI E a r Q):outI E b r Q:=by
 cases r with
 |ok d G=>exact λc v y s q=>h c v (x.trans y) s q
 |err e G=>exact XOk.mono (E:=E) (e:=e) (G:=G) x h
 |bad=>exact h
theorem T6{r:R (List D)}{f:List D->DH->R ItD}{Q:It->Hp->Prop}(h:outI E a (r.bind f) Q):
  Ha E a r (λvs H=>∃(b:Wd)(ds:List D)(G:DH),b.H=H/\Ext a b/\Sim b G/\Reps b ds vs/\r=.ok ds G/\outI E b (f ds G) Q):=by
 cases r with
 |ok d G=>exact λb v x s q=>⟨b,d,G,rfl,x,s,q,rfl,outI.mono x h⟩
 |err e G=>exact h
 |bad=>exact h
section
variable{X:Cx}{E:XK}{tg iter:xX}{pos:Pos}
theorem ZSb(lo:Int)(n:Nat):RepI a (.pure (Cm lo n)) (Itr lo n):=by
 refine⟨(zZ n).map λ(k:Nat)=>V.int (lo+(k:Int)),?_,λb x i=>⟨λv hv=>?_,λhl=>?_⟩⟩
 ·unfold Cm;generalize zZ n=l
  induction l with
  |nil=>exact rfl
  |cons k l ih=>exact⟨_,_,rfl,rfl,ih⟩
 ·rw[zx]at hv;by_cases hi:i<n
  ·rw[zL hi]at hv;have hv':V.int (lo+(i:Int))=v:=by simpa using hv
   exact⟨hi,λw H' y=>⟨y.2.trans hv',y.1⟩⟩
  ·rw[zA (by simpa using hi)]at hv;cases hv
 ·show n<=i;simpa using hl
theorem Gw{ta:DA}{p pos:Pos}(hg:Gl X "range")(hm:X.mg "range"=vF)(ha:QA X E [e] ta)(hs:vW [e] X.env=[(vH,eval e X.env)]:=by rfl):QI X E tg (.Call (.Name "range" p) [e] [] pos) (Cy rng1 ta):=
 (ZSh hg hm ha hs).mono λσ H Q h=>by
  obtain⟨a,S,G,hk,rfl,s,r,h⟩:=h;refine⟨a,S,G,hk,rfl,s,r,(T6 h).imp ?_⟩;rintro vs _ ⟨b,ds,G1,rfl,x,s1,q,-,h1⟩;unfold rng1 at h1;split at h1
  ·rename_i j;split at h1
   ·rename_i hj;obtain⟨v,r,e1,q1,q2⟩:=q
    cases(show v=V.int j from q1)
    cases(show r=[]from q2)
    exact⟨j,e1,hj.1,hj.2,h1 b _ (Ext.refl b) s1 (ZSb 0 j.toNat)⟩
   ·exact h1.elim
  ·exact h1.elim
theorem ZQ9(n:Nat){c:xX}{body:List xz}{tc:DB}{tb:DS}(hp:PassesOwn (vZ X.prog X.w) X.A X.env X.xe)(hc:QT X E c tc)(hb:QSs X E body tb):QS X E (.While c body [] pos) (sWh tc tb n):=(ZQw hp hc hb).mono λW σ H h=>by
 obtain⟨a,S,G,hk,rfl,s,r,h⟩:=h;refine⟨λm σ H=>∃(b:Wd)(S:DSt)(G:DH),b.H=H/\Ext a b/\Sim b G/\RepS b S σ/\Dg E b (sWh tc tb m S G) W,⟨n,a,S,G,rfl,Ext.refl a,s,r,h⟩,?_⟩;rintro m σ2 _ ⟨b,S2,G2,rfl,x2,s2,r2,h2⟩;cases m with
 |zero=>exact h2.elim
 | succ m=>
  refine⟨b,S2,G2,x2.k.trans hk,rfl,s2,r2,(ZFs h2).imp ?_⟩;rintro k _ ⟨c3,G3,rfl,x3,s3,_,h3⟩;cases k with
  |false=>exact h3 c3 σ2 (Ext.refl c3) s3 (r2.mono x3)
  | true=>
   refine⟨λσ' H'=>∃(b:Wd)(S:DSt)(G:DH),b.H=H'/\Ext a b/\Sim b G/\RepS b S σ'/\Dg E b (sWh tc tb m S G) W,λσ' H' z=>⟨m,zU _,z⟩,c3,S2,G3,x3.k.trans (x2.k.trans hk),rfl,s3,r2.mono x3,?_⟩;have fin:=ZE0 h3
   revert fin
   cases tb S2 G3 with
   |nx S4 G4=>
    intro fin c4 σ4 x4 s4 q4;obtain⟨c5,S5,G5,hh,x5,s5,r5,h5⟩:=fin c4 σ4 x4 s4 q4;exact⟨c5,S5,G5,hh,x2.trans (x3.trans x5),s5,r5,h5⟩
   |ct S4 G4=>
    intro fin c4 σ4 x4 s4 q4;obtain⟨c5,S5,G5,hh,x5,s5,r5,h5⟩:=fin c4 σ4 x4 s4 q4;exact⟨c5,S5,G5,hh,x2.trans (x3.trans x5),s5,r5,h5⟩
   |bk S4 G4=>exact λfin=>fin
   |rt S4 G4=>exact λfin=>fin
   |err S4 G4=>exact λfin=>fin
   |bad=>exact λfin=>fin
end
theorem ZRi(r:Reps a ds vs)(n m:Nat)(h:n=m):RepS a (ds.map vE++zV n vF) (vs.map vE++zV m vF):=by
 subst h;refine⟨by simp[r.length],λi d hd=>?_⟩;by_cases hi:i<ds.length
 ·rw[zR (by simpa using hi),zx]at hd;cases e:ds[i]? with
  |none=>rw[e]at hd;cases hd
  |some d'=>
   rw[e]at hd;have hd':d'=d:=by simpa using hd
   subst hd';obtain⟨v,ev,q⟩:=r.get e;exact⟨v,by rw[zR (by rw[qQ,<-r.length];exact hi),zx,ev];rfl,q⟩
 ·rw[zG (by simpa using hi),qT]at hd
  split at hd<;>cases hd
theorem Cg{mg:Str->Option xj}{base:Heap}{qual:Str}{st:xz}{f:xZ}{fd:xV}{N ps:List Str}{k:Nat}{b:DS}(F:Fun K x qual st f fd)(S:FnScope N ps (Ar st))
  (hbody:∀(cdv:xj)(A:xJ)(outer:List Env)(s:xq)(H:Hp)(E:XK),Room k (A.deeper (envOfC qual (Ar st) s.heap.objs.size f cdv))->QSs (O1 CX0 P w K mg base N qual (Ar st) f cdv A outer s H E).nox E0 (Ja st) b):
  FnOk P w K mg base CX0 (k+1) f fd ps (lF K (Bv ps.length (N.length-ps.length) b)):=by
 have hlen:∀vs H Q E,lF K (Bv ps.length (N.length-ps.length) b) vs H Q E->vs.length=ps.length:=λvs H Q E h=>by
  obtain⟨a,G,ds,hk,rfl,sm,r,h⟩:=h;unfold Bv at h;split at h
  ·rename_i hl;rw[<-r.length];exact hl
  ·exact h.elim
 refine F.ok S hlen (λcdv A outer s H vs Q E hr h=>?_);refine⟨lS K E0 b,hbody cdv A outer s H E hr,?_⟩;have hl:=hlen vs H Q E h;obtain⟨a,G,ds,hk,rfl,sm,r,h⟩:=h;unfold Bv at h;split at h
 ·have h2:=ZIc sm h;refine⟨a,ds.map vE++zV (N.length-ps.length) vF,G,hk,rfl,sm,ZRi r _ _ (by rw[hl]),?_⟩
  revert h2
  cases b (ds.map vE++zV (N.length-ps.length) vF) G with
  |nx S1 G1=>exact λh2 c σ x s1 _=>h2 c .non x s1 rfl
  |rt d G1=>exact λh2=>h2
  |err e G1=>exact λh2=>h2
  |bk S1 G1=>exact λh2=>h2.elim
  |ct S1 G1=>exact λh2=>h2.elim
  |bad=>exact λh2=>h2
 ·exact h.elim
theorem Mi{x:V}(s:Sim a G)(r:Rep a d x)(h:Ci d G=vE xs):∃p vs,x=.ref p/\(SqL a.K a.H p vs∨SqT a.K a.H p vs)/\Reps a xs vs:=by
 cases d with
 |tup ys=>
  have e:ys=xs:=Option.some.inj h;subst e;obtain⟨p,vs,e,q,rr⟩:=r;exact⟨p,vs,e,.inr q,rr⟩
 |fl ys=>
  have e:ys=xs:=Option.some.inj h;subst e;obtain⟨p,vs,e,q,rr⟩:=r;exact⟨p,vs,e,.inl q.sq,rr⟩
 |ref i=>
  unfold Ci at h;dsimp only at h;split at h
  ·rename_i ys hi;have e:ys=xs:=Option.some.inj h;subst e;obtain⟨vs,e1,r1⟩:=s.lst hi;exact⟨a.m i,vs,r.2,.inl (.of e1),r1⟩
  ·cases h
 |_=>cases h
def Aj (d e:D) (G:DH):R D:=match e with
 | .int i=>match d with
  | .str z=>if z.length<=1000000 then(match atI z.cps.toList i with
    |some c=>.ok (.str ⟨#[c]⟩) G
    |none=>.bad)else .bad
  | d=>match Ci d G with
   |some xs=>match atI xs i with
    |some v=>.ok v G
    |none=>.bad
   |none=>.bad
 |_=>.bad
theorem ZGX{i:Int}(r:Reps a xs vs)(h:atI xs i=vE d):∃v,atI vs i=vE v/\Rep a d v:=by
 unfold atI at h⊢;rw[<-r.length];cases e:ixN xs.length i with
 |none=>rw[e]at h;cases h
 |some j=>
  rw[e]at h
  obtain⟨v,ev,q⟩:=r.get (show xs[j]?=vE d from h)
  exact⟨v,ev,q⟩
section
variable{X:Cx}{E:XK}
theorem _root_._L.IxR.mono{r r':R2}(h:IxR X r)(w:∀x y H Q,r' x y H Q->r x y H Q):IxR X r':=λvalue slice vD s σ H x y v u Q I rx ry q hs=>h value slice vD s σ H x y v u Q I rx ry (w _ _ _ _ q) hs
theorem _root_._L.CallR.mono{f:xj}{r r':List V->Hp->VK->Prop}(h:CallR X f r)(w:∀xs H Q,r' xs H Q->r xs H Q):CallR X f r':=λvD s σ H xs us Q I rs q=>h vD s σ H xs us Q I rs (w _ _ _ q)
theorem _root_._L.MtM.mono{id:String}{r r':V->List V->Hp->VK->Prop}(h:MtM X id r)(w:∀x xs H Q,r' x xs H Q->r x xs H Q):MtM X id r':=λvD s σ H x xs v us Q I rx rs q=>h vD s σ H x xs v us Q I rx rs (w _ _ _ _ q)
theorem Al:IxR X (lR2 X.K E Aj):=ZMr.mono λx y H Q h=>by
 obtain⟨a,G,d,e,hk,rfl,s,rd,re,q⟩:=h;cases e with
 | int i=>
  have fin:∀{xs:List D},Ci d G=vE xs->out E a (match atI xs i with |some v=>.ok v G|none=>.bad) Q->rIx X.K x y a.H Q:=λ{xs}hs q=>by
   obtain⟨p,vs,e1,h1,r1⟩:=Mi s rd hs;rw[hk]at h1;split at q
   ·rename_i v hv;obtain⟨u,hu,ru⟩:=ZGX r1 hv;have z:=q a u (Ext.refl a) s ru;rcases h1 with h1|h1
    ·exact .inl ⟨p,vs,i,u,e1,re,h1,hu,z⟩
    ·exact .inr (.inl ⟨p,vs,i,u,e1,re,h1,hu,z⟩)
   ·exact q.elim
  have fin':out E a (match Ci d G with |some xs=>(match atI xs i with |some v=>.ok v G|none=>.bad)|none=>.bad) Q->rIx X.K x y a.H Q:=λq=>by
   cases hs:Ci d G with
   |none=>rw[hs]at q;exact q.elim
   |some xs=>rw[hs]at q;exact fin hs q
  cases d with
  | str z=>
   unfold Aj at q;dsimp only at q;split at q
   ·rename_i hl;split at q
    ·rename_i c hc;exact .inr (.inr ⟨z,i,c,rd,re,zB hl size6,hc,q a _ (Ext.refl a) s rfl⟩)
    ·exact q.elim
   ·exact q.elim
  |tup ys=>exact fin' q
  |fl ys=>exact fin' q
  |ref j=>exact fin' q
  |_=>exact fin' q
 |_=>exact q.elim
def Cz(ds:List D)(G:DH):R D:=match ds with
 |[.str z]=>if z.length<=1000000 then .ok (.int z.length) G else .bad
 |[d]=>match Ci d G with
  |some xs=>.ok (.int xs.length) G
  |none=>.bad
 |_=>.bad
theorem reps1(r:Reps a [d] vs):∃v,vs=[v]/\Rep a d v:=by
 obtain⟨v,r',e,q,z⟩:=r
 cases(show r'=[]from z)
 exact⟨v,e,q⟩
theorem reps2{d':D}(r:Reps a [d,d'] vs):∃v v',vs=[v,v']/\Rep a d v/\Rep a d' v':=by obtain⟨v,r',e,q,z⟩:=r;obtain⟨v',e',q'⟩:=reps1 z;subst e';exact⟨v,v',e,q,q'⟩
theorem Eh:CallR X (.builtin "len") (lRn X.K E Cz):=(ZLg.or ZQ1).mono λvs H Q h=>by
 obtain⟨a,G,ds,hk,rfl,s,r,q⟩:=h;unfold Cz at q;split at q
 ·rename_i z;split at q
  ·rename_i hl;obtain⟨v,rfl,rv⟩:=reps1 r
   cases(show v=V.str z from rv)
   exact .inr ⟨z,rfl,zB hl size6,q a _ (Ext.refl a) s rfl⟩
  ·exact q.elim
 ·rename_i d _;split at q
  ·rename_i xs hs;obtain⟨v,rfl,rv⟩:=reps1 r;obtain⟨p,us,rfl,h1,r1⟩:=Mi s rv hs;rw[hk]at h1;exact .inl ⟨p,us,rfl,h1,q a _ (Ext.refl a) s (by rw[<-r1.length];exact rfl)⟩
  ·exact q.elim
 ·exact q.elim
def Fy(ds:List D)(G:DH):R D:=match ds with
 |[d]=>match Ci d G with
  |some xs=>.ok (.tup xs) G
  |none=>.bad
 |_=>.bad
theorem Hi:CallR X (.type "tuple") (lRn X.K E Fy):=ZRT.mono λvs H Q h=>by
 obtain⟨a,G,ds,hk,rfl,s,r,q⟩:=h;unfold Fy at q;split at q
 ·rename_i d;split at q
  ·rename_i xs hs;obtain⟨v,rfl,rv⟩:=reps1 r;obtain⟨p,us,rfl,h1,r1⟩:=Mi s rv hs;refine⟨p,us,rfl,?_⟩;rcases h1 with h1|h1
   ·exact .inl ⟨by rw[<-hk];exact h1,λl hl=>ZBU s r1 q l hl⟩
   ·exact .inr ⟨by rw[<-hk];exact h1,q a _ (Ext.refl a) s ⟨p,us,rfl,h1,r1⟩⟩
  ·exact q.elim
 ·exact q.elim
def Oc(ds:List D)(G:DH):R D:=match ds with
 |[.str z]=>if z.length<=1000000 then .ok (.ref G.length) (G++[.lst (signs z)])else .bad
 |[d]=>match Ci d G with
  |some xs=>.ok (.ref G.length) (G++[.lst xs])
  |none=>.bad
 |_=>.bad
theorem ZBy:∀{vs:List V}{us:List xj},vs.length=us.length->(∀(i:Nat)(v:V)(u:xj),vs[i]?=vE v->us[i]?=vE u->RelV v u)->Vals vs us
 |[],[],_,_=>.nil
 |[],_::_,h,_=>by cases h
 |_::_,[],h,_=>by cases h
 |v::vs,u::us,h,f=>.cons (f 0 v u rfl rfl) (ZBy (by simpa using h) λi v' u' h1 h2=>f (i+1) v' u' (by simpa using h1) (by simpa using h2))
theorem ZM9(hc:X.calm=vG):CallR X (.type "list") (λxs H Q=>∃z:Str,xs=[.str z]/\z.length<=sizeLine/\∀l,H l=vF->Q (.ref l) (upd H l (.lst (z.cps.toList.map λc=>V.str ⟨#[c]⟩)))):=by
 intro vD s σ H xs us Q I r h;obtain⟨z,rfl,hz,q⟩:=h;obtain⟨u,rfl,t,rfl⟩:=vals1 r;refine PySem.call_list_str (I.ok.hd hc) z t (λh' tk acc c hk hS hacc=>?_) hz;have hn:H s.heap.objs.size=vF:=I.hok.fresh (zK _);refine⟨.ref s.heap.objs.size,upd H s.heap.objs.size (.lst (z.cps.toList.map λc=>V.str ⟨#[c]⟩)),I.laid (t':=tk) (h':=h') hk (zK _) ?_,rfl,q _ hn⟩;refine⟨by rw[qQ,qw];exact hz,acc.toList,c,ZBy ?_ λi v u h1 h2=>?_,by simpa using hS⟩
 ·rw[qQ,qw,qw];exact hacc.1.symm
 ·rw[zx,zI]at h1;obtain⟨k,e1,rfl⟩:=h1;obtain⟨k',t',e2,rfl⟩:=hacc.2 i u (by rw[<-qH];exact h2);rw[qH,e2]at e1;cases e1;exact⟨t',rfl⟩
theorem ZAp(hc:X.calm=vG):CallR X (.type "list") (lRn X.K E Oc):=(ZTX.or (ZM9 hc)).mono λvs H Q h=>by
 obtain⟨a,G,ds,hk,rfl,s,r,q⟩:=h;unfold Oc at q;split at q
 ·rename_i z;split at q
  ·rename_i hl;obtain⟨v,rfl,rv⟩:=reps1 r
   cases(show v=V.str z from rv)
   exact .inr ⟨z,rfl,zB hl size6,λl hl=>M4 s (Reps.signs z) q l hl⟩
  ·exact q.elim
 ·rename_i d _;split at q
  ·rename_i xs hs;obtain⟨v,rfl,rv⟩:=reps1 r;obtain⟨p,us,rfl,h1,r1⟩:=Mi s rv hs;exact .inl ⟨p,us,rfl,by rw[<-hk];exact h1,λl hl=>M4 s r1 q l hl⟩
  ·exact q.elim
 ·exact q.elim
noncomputable def Zu(ds:List D)(G:DH):R D:=match ds with
 |[.int i,.int j]=>.ok (.int (if j>i then j else i)) G
 |_=>.bad
noncomputable def Nk(ds:List D)(G:DH):R D:=match ds with
 |[.int i,.int j]=>.ok (.int (if j<i then j else i)) G
 |_=>.bad
theorem ZPf(hc:X.calm=vG):CallR X (.builtin "max") (lRn X.K E Zu):=(ZNz hc).mono λvs H Q h=>by
 obtain⟨a,G,ds,hk,rfl,s,r,q⟩:=h;unfold Zu at q;split at q
 ·obtain⟨v,v',rfl,h1,h2⟩:=reps2 r
  cases(show v=V.int _ from h1)
  cases(show v'=V.int _ from h2)
  exact⟨_,_,rfl,q a _ (Ext.refl a) s rfl⟩
 ·exact q.elim
theorem Wz(hc:X.calm=vG):CallR X (.builtin "min") (lRn X.K E Nk):=(ZQZ hc).mono λvs H Q h=>by
 obtain⟨a,G,ds,hk,rfl,s,r,q⟩:=h;unfold Nk at q;split at q
 ·obtain⟨v,v',rfl,h1,h2⟩:=reps2 r
  cases(show v=V.int _ from h1)
  cases(show v'=V.int _ from h2)
  exact⟨_,_,rfl,q a _ (Ext.refl a) s rfl⟩
 ·exact q.elim
noncomputable def Fq(o:D)(ds:List D)(G:DH):R D:=match o,ds with
 |.ref i,[d]=>match G[i]? with
  |some (.lst xs)=>if xs.length<1000000 then .ok .non (G.set i (.lst (xs++[d])))else .bad
  |_=>.bad
 |_,_=>.bad
def lRm(K:PySem.W.Frag)(E:XK)(f:D->List D->DH->R D):V->List V->Hp->VK->Prop:=λx xs H Q=>∃(a:Wd)(G:DH)(d:D)(ds:List D),a.K=K/\a.H=H/\Sim a G/\Rep a d x/\Reps a ds xs/\out E a (f d ds G) Q
theorem Sim.isList(s:Sim a G)(h:G[i]?=vE (.lst xs)):∃vs,SqL a.K a.H (a.m i) vs:=let⟨vs,e,_⟩:=s.lst h;⟨vs,.of e⟩
theorem Gy:MtM X "list.append" (lRm X.K E Fq):=ZMl.mono λx xs H Q h=>by
 obtain⟨a,G,d,ds,hk,rfl,s,rd,r,q⟩:=h;unfold Fq at q;split at q
 ·rename_i i d;obtain⟨v,rfl,rv⟩:=reps1 r;split at q
  ·rename_i ys hy;split at q
   ·rename_i hl;obtain⟨vs,e1,r1⟩:=s.lst hy;obtain⟨x3,s3⟩:=ZCS s rd.1 e1 (r1.append (Reps.cons rv Reps.nil));refine⟨a.m i,vs,v,rd.2,rfl,e1,by rw[<-r1.length];exact zq hl size6,?_⟩;exact q _ .non x3 s3 rfl
   ·exact q.elim
  ·exact q.elim
 ·exact q.elim
variable{o e:xX}{es:List xX}{to:DE}{t:DA}{name:Str}{apos cpos:Pos}{T id:String}{f:D->List D->DH->R D}
noncomputable def isL(d:D)(G:DH):Bool:=match d with
 |.ref i=>match G[i]? with
  |some (.lst _)=>vG
  |_=>vH
 |.fl _=>vG
 |_=>vH
def Fl(f:D->List D->DH->R D)(o:DE)(t:DA):DE:=λS G=>(o S G).bind λx G1=>if isL x G1=vG then(t S G1).bind λxs G2=>f x xs G2 else .bad
theorem ZQb{x:V}(s:Sim a G)(r:Rep a d x)(h:isL d G=vG):tyV a.K "list" x a.H:=by
 cases d with
 |ref i=>
  unfold isL at h;dsimp only at h;split at h
  ·rename_i xs hx;cases r.2;exact .inl ⟨rfl,s.isList hx⟩
  ·cases h
 |fl xs=>
  obtain⟨p,vs,rfl,q,_⟩:=r;exact .inl ⟨rfl,vs,q.sq⟩
 |_=>cases h
theorem Gh(slot:Slot "list" name id)(hty:typeOf (.builtin id)=pure (.type "method_descriptor"))(hm:MtM X id (lRm X.K E f))(ho:QE X E o to)(ha:QA X E (e::es) t)
  (hbase:xy o name X.env (eval o X.env)=eval o X.env:=by rfl)
  (hfew:((x0 cpos (vW (e::es) X.env)).all (λx=> !x.1)&&(xB cpos (xT [] X.env)).all (λx=>x.1.isSome)
   && decide ((e::es).length+([]:List Keyword).length+(if([]:List Keyword).isEmpty then 0 else 1)<30))=vG:=by rfl)
  (hline:(apos.endLine==cpos.line)=vG:=by rfl) (hs:vW (e::es) X.env=(vH,eval e X.env)::vW es X.env:=by rfl) (hplain:(x0 cpos (vW es X.env)).any (·.1)=vH:=by rfl):
  QE X E (.Call (.Attribute o name apos) (e::es) [] cpos) (Fl f to t):=(ZM4 PySem.F.plainAttrs_list slot hty hm ho ha hbase hfew hline hs hplain).mono λσ H Q h=>by
 obtain⟨a,S,G,hk,rfl,s,r,h⟩:=h;refine⟨a,S,G,hk,rfl,s,r,(Gp h).imp ?_⟩;rintro v _ ⟨b,d,G1,rfl,x,s1,q,-,h1⟩;split at h1
 ·rename_i hl;have ty:=ZQb s1 q hl;rw[x.k,hk]at ty;refine⟨ty,b,S,G1,x.k.trans hk,rfl,s1,r.mono x,(Nf h1).imp ?_⟩;rintro vs _ ⟨c,ds,G2,rfl,y,s2,q2,-,h2⟩;exact⟨c,G2,d,ds,y.k.trans (x.k.trans hk),rfl,s2,q.mono y,q2,h2⟩
 ·exact h1.elim
end
inductive Ty where|non|bl|int|str|tup|lst
noncomputable def tyD(G:DH):D->Option Ty
 |.non=>vE .non
 |.bl _=>vE .bl
 |.int _=>vE .int
 |.str _=>vE .str
 |.tup _=>vE .tup
 |.fl _=>vE .lst
 |.ref i=>match G[i]? with
  |some (.lst _)=>vE .lst
  |_=>vF
 |.ty _=>vF
noncomputable def Ty.sub(t:Ty):String->Option Bool
 |"int"=>vE (match t with | .int=>vG | .bl=>vG|_=>vH)
 |"bool"=>vE (match t with | .bl=>vG|_=>vH)
 |"str"=>vE (match t with | .str=>vG|_=>vH)
 |"tuple"=>vE (match t with | .tup=>vG|_=>vH)
 |"list"=>vE (match t with | .lst=>vG|_=>vH)
 |_=>vF
def Ig(ds:List D)(G:DH):R D:=match ds with
 | [d,.ty T]=>match tyD G d with
  |some t=>match t.sub T with
   |some k=>.ok (.bl k) G
   |none=>.bad
  |none=>.bad
 |_=>.bad
section
variable{prog:xK}{w:xw}{A:xJ}{E:xj->xq->Prop}{s:xq}
theorem O9{x:xj}{Tx T:String}{Q:xj->xq->Prop}(hx:s.TypeIs x Tx)(hty:typeOf (.type T)=pure (.type "type"))(hsub:xM (.type Tx) (.type T)=pure vG)(h:Q (.bool vG) s):
  vY (vZ prog w) A (call (.builtin "isinstance") [x,.type T]) Q E s:=xF (isinstance_true hty hsub) ⟨hx,h⟩
end
theorem ty_int:typeOf (.type "int")=pure (.type "type"):=by with_unfolding_all rfl
theorem ty_bool:typeOf (.type "bool")=pure (.type "type"):=by with_unfolding_all rfl
theorem ty_str:typeOf (.type "str")=pure (.type "type"):=by with_unfolding_all rfl
theorem ty_tuple:typeOf (.type "tuple")=pure (.type "type"):=by with_unfolding_all rfl
theorem ty_list:typeOf (.type "list")=pure (.type "type"):=by with_unfolding_all rfl
theorem ZO4:xM (.type "NoneType") (.type "int")=pure vH:=by with_unfolding_all rfl
theorem ZK7:xM (.type "NoneType") (.type "bool")=pure vH:=by with_unfolding_all rfl
theorem ZOn:xM (.type "NoneType") (.type "str")=pure vH:=by with_unfolding_all rfl
theorem ZLJ:xM (.type "NoneType") (.type "tuple")=pure vH:=by with_unfolding_all rfl
theorem ZNN:xM (.type "NoneType") (.type "list")=pure vH:=by with_unfolding_all rfl
theorem ZNC:xM (.type "bool") (.type "int")=pure vG:=by with_unfolding_all rfl
theorem ZNA:xM (.type "bool") (.type "bool")=pure vG:=by with_unfolding_all rfl
theorem ZRf:xM (.type "bool") (.type "str")=pure vH:=by with_unfolding_all rfl
theorem ZNk:xM (.type "bool") (.type "tuple")=pure vH:=by with_unfolding_all rfl
theorem ZMF:xM (.type "bool") (.type "list")=pure vH:=by with_unfolding_all rfl
theorem ZO8:xM (.type "int") (.type "int")=pure vG:=by with_unfolding_all rfl
theorem ZPH:xM (.type "int") (.type "bool")=pure vH:=by with_unfolding_all rfl
theorem ZN1:xM (.type "int") (.type "str")=pure vH:=by with_unfolding_all rfl
theorem ZSF:xM (.type "int") (.type "tuple")=pure vH:=by with_unfolding_all rfl
theorem ZOp:xM (.type "int") (.type "list")=pure vH:=by with_unfolding_all rfl
theorem ZSV:xM (.type "str") (.type "int")=pure vH:=by with_unfolding_all rfl
theorem ZRj:xM (.type "str") (.type "bool")=pure vH:=by with_unfolding_all rfl
theorem ZRH:xM (.type "str") (.type "str")=pure vG:=by with_unfolding_all rfl
theorem ZN3:xM (.type "str") (.type "tuple")=pure vH:=by with_unfolding_all rfl
theorem ZRz:xM (.type "str") (.type "list")=pure vH:=by with_unfolding_all rfl
theorem ZRa:xM (.type "tuple") (.type "int")=pure vH:=by with_unfolding_all rfl
theorem ZLB:xM (.type "tuple") (.type "bool")=pure vH:=by with_unfolding_all rfl
theorem ZOF:xM (.type "tuple") (.type "str")=pure vH:=by with_unfolding_all rfl
theorem ZL6:xM (.type "tuple") (.type "tuple")=pure vG:=by with_unfolding_all rfl
theorem ZNf:xM (.type "tuple") (.type "list")=pure vH:=by with_unfolding_all rfl
theorem ZGw:xM (.type "list") (.type "int")=pure vH:=by with_unfolding_all rfl
theorem ZIV:xM (.type "list") (.type "bool")=pure vH:=by with_unfolding_all rfl
theorem ZJA:xM (.type "list") (.type "str")=pure vH:=by with_unfolding_all rfl
theorem ZGR:xM (.type "list") (.type "tuple")=pure vH:=by with_unfolding_all rfl
theorem ZE1:xM (.type "list") (.type "list")=pure vG:=by with_unfolding_all rfl
section
variable{X:Cx}{E:XK}
theorem ZAF:CallR X (.builtin "isinstance") (lRn X.K E Ig):=by
 intro vD s σ H vs us Q I rs h;obtain⟨a,G,ds,hk,rfl,sm,r,q⟩:=h;unfold Ig at q;split at q
 ·rename_i d T;obtain⟨v,v',rfl,h1,h2⟩:=reps2 r
  cases(show v'=V.ty T from h2)
  obtain⟨u,u',rfl,ru,ru'⟩:∃u u',us=[u,u']/\RelV v u/\RelV (.ty T) u':=by
   cases rs with
   |cons p q=>cases q with
    |cons p' q'=>cases q';exact⟨_,_,rfl,p,p'⟩
  cases(show u'=Value.type T from ru')
  split at q
  ·rename_i t ht;split at q
   ·rename_i k hk';have fin:∀{n:Nat},EP X vD σ Q (.bool k) {s with toks:=n}:=λ{n}=>⟨.bl k,a.H,I.tok _,rfl,q a _ (Ext.refl a) sm rfl⟩
    have fin0:EP X vD σ Q (.bool k) s:=⟨.bl k,a.H,I,rfl,q a _ (Ext.refl a) sm rfl⟩;unfold Ty.sub at hk';split at hk'
    ·cases d with
     |non=>
      cases ht;cases hk'
      cases(show v=_ from h1)
      cases ru;exact xF (xP (by decide) ty_int ZO4) fin
     |bl b=>
      cases ht;cases hk'
      cases(show v=_ from h1)
      cases ru;exact O9 (Tx:="bool") rfl ty_int ZNC fin0
     |int b=>
      cases ht;cases hk'
      cases(show v=_ from h1)
      obtain⟨tk,rfl⟩:=ru;exact O9 (Tx:="int") (typeIs_int s _ _) ty_int ZO8 fin0
     |str b=>
      cases ht;cases hk'
      cases(show v=_ from h1)
      obtain⟨tk,rfl⟩:=ru;exact xF (xR (by decide) ty_int ZSV) fin
     |tup b=>
      cases ht;cases hk';obtain⟨p,ws,rfl,hq,_⟩:=h1;cases ru;rw[hk]at hq;obtain⟨its,_,pl,_⟩:=I.tuple hq;exact xF (xS (by decide) ty_int ZRa) ⟨(let⟨o,e,c,_⟩:=pl;⟨o,e,c⟩),fin⟩
     |fl b=>
      cases ht;cases hk';obtain⟨p,ws,rfl,hq,_⟩:=h1;cases ru;have hq:=hq.sq;rw[hk]at hq;obtain⟨its,_,pl,_⟩:=I.list hq;exact xF (xO (by decide) ty_int ZGw) ⟨(let⟨o,e,c,_⟩:=pl.isList;⟨o,e,c⟩),fin⟩
     |ref b=>
      unfold tyD at ht;dsimp only at ht;split at ht
      ·rename_i xs hx;cases ht;cases hk';obtain⟨ws,e1,_⟩:=sm.lst hx;cases h1.2;cases ru;obtain⟨its,_,pl,_⟩:=I.list (.of e1);exact xF (xO (by decide) ty_int ZGw) ⟨(let⟨o,e,c,_⟩:=pl.isList;⟨o,e,c⟩),fin⟩
      ·cases ht
     |ty n=>cases ht
    ·cases d with
     |non=>
      cases ht;cases hk'
      cases(show v=_ from h1)
      cases ru;exact xF (xP (by decide) ty_bool ZK7) fin
     |bl b=>
      cases ht;cases hk'
      cases(show v=_ from h1)
      cases ru;exact O9 (Tx:="bool") rfl ty_bool ZNA fin0
     |int b=>
      cases ht;cases hk'
      cases(show v=_ from h1)
      obtain⟨tk,rfl⟩:=ru;exact xF (xN (by decide) ty_bool ZPH) fin
     |str b=>
      cases ht;cases hk'
      cases(show v=_ from h1)
      obtain⟨tk,rfl⟩:=ru;exact xF (xR (by decide) ty_bool ZRj) fin
     |tup b=>
      cases ht;cases hk';obtain⟨p,ws,rfl,hq,_⟩:=h1;cases ru;rw[hk]at hq;obtain⟨its,_,pl,_⟩:=I.tuple hq;exact xF (xS (by decide) ty_bool ZLB) ⟨(let⟨o,e,c,_⟩:=pl;⟨o,e,c⟩),fin⟩
     |fl b=>
      cases ht;cases hk';obtain⟨p,ws,rfl,hq,_⟩:=h1;cases ru;have hq:=hq.sq;rw[hk]at hq;obtain⟨its,_,pl,_⟩:=I.list hq;exact xF (xO (by decide) ty_bool ZIV) ⟨(let⟨o,e,c,_⟩:=pl.isList;⟨o,e,c⟩),fin⟩
     |ref b=>
      unfold tyD at ht;dsimp only at ht;split at ht
      ·rename_i xs hx;cases ht;cases hk';obtain⟨ws,e1,_⟩:=sm.lst hx;cases h1.2;cases ru;obtain⟨its,_,pl,_⟩:=I.list (.of e1);exact xF (xO (by decide) ty_bool ZIV) ⟨(let⟨o,e,c,_⟩:=pl.isList;⟨o,e,c⟩),fin⟩
      ·cases ht
     |ty n=>cases ht
    ·cases d with
     |non=>
      cases ht;cases hk'
      cases(show v=_ from h1)
      cases ru;exact xF (xP (by decide) ty_str ZOn) fin
     |bl b=>
      cases ht;cases hk'
      cases(show v=_ from h1)
      cases ru;exact xF (isinstance_false_bool (by decide) ty_str ZRf) fin
     |int b=>
      cases ht;cases hk'
      cases(show v=_ from h1)
      obtain⟨tk,rfl⟩:=ru;exact xF (xN (by decide) ty_str ZN1) fin
     |str b=>
      cases ht;cases hk'
      cases(show v=_ from h1)
      obtain⟨tk,rfl⟩:=ru;exact O9 (Tx:="str") (typeIs_str s _ _) ty_str ZRH fin0
     |tup b=>
      cases ht;cases hk';obtain⟨p,ws,rfl,hq,_⟩:=h1;cases ru;rw[hk]at hq;obtain⟨its,_,pl,_⟩:=I.tuple hq;exact xF (xS (by decide) ty_str ZOF) ⟨(let⟨o,e,c,_⟩:=pl;⟨o,e,c⟩),fin⟩
     |fl b=>
      cases ht;cases hk';obtain⟨p,ws,rfl,hq,_⟩:=h1;cases ru;have hq:=hq.sq;rw[hk]at hq;obtain⟨its,_,pl,_⟩:=I.list hq;exact xF (xO (by decide) ty_str ZJA) ⟨(let⟨o,e,c,_⟩:=pl.isList;⟨o,e,c⟩),fin⟩
     |ref b=>
      unfold tyD at ht;dsimp only at ht;split at ht
      ·rename_i xs hx;cases ht;cases hk';obtain⟨ws,e1,_⟩:=sm.lst hx;cases h1.2;cases ru;obtain⟨its,_,pl,_⟩:=I.list (.of e1);exact xF (xO (by decide) ty_str ZJA) ⟨(let⟨o,e,c,_⟩:=pl.isList;⟨o,e,c⟩),fin⟩
      ·cases ht
     |ty n=>cases ht
    ·cases d with
     |non=>
      cases ht;cases hk'
      cases(show v=_ from h1)
      cases ru;exact xF (xP (by decide) ty_tuple ZLJ) fin
     |bl b=>
      cases ht;cases hk'
      cases(show v=_ from h1)
      cases ru;exact xF (isinstance_false_bool (by decide) ty_tuple ZNk) fin
     |int b=>
      cases ht;cases hk'
      cases(show v=_ from h1)
      obtain⟨tk,rfl⟩:=ru;exact xF (xN (by decide) ty_tuple ZSF) fin
     |str b=>
      cases ht;cases hk'
      cases(show v=_ from h1)
      obtain⟨tk,rfl⟩:=ru;exact xF (xR (by decide) ty_tuple ZN3) fin
     |tup b=>
      cases ht;cases hk';obtain⟨p,ws,rfl,hq,_⟩:=h1;cases ru;rw[hk]at hq;obtain⟨its,_,pl,_⟩:=I.tuple hq;exact O9 (Tx:="tuple") pl.typeIs ty_tuple ZL6 fin0
     |fl b=>
      cases ht;cases hk';obtain⟨p,ws,rfl,hq,_⟩:=h1;cases ru;have hq:=hq.sq;rw[hk]at hq;obtain⟨its,_,pl,_⟩:=I.list hq;exact xF (xO (by decide) ty_tuple ZGR) ⟨(let⟨o,e,c,_⟩:=pl.isList;⟨o,e,c⟩),fin⟩
     |ref b=>
      unfold tyD at ht;dsimp only at ht;split at ht
      ·rename_i xs hx;cases ht;cases hk';obtain⟨ws,e1,_⟩:=sm.lst hx;cases h1.2;cases ru;obtain⟨its,_,pl,_⟩:=I.list (.of e1);exact xF (xO (by decide) ty_tuple ZGR) ⟨(let⟨o,e,c,_⟩:=pl.isList;⟨o,e,c⟩),fin⟩
      ·cases ht
     |ty n=>cases ht
    ·cases d with
     |non=>
      cases ht;cases hk'
      cases(show v=_ from h1)
      cases ru;exact xF (xP (by decide) ty_list ZNN) fin
     |bl b=>
      cases ht;cases hk'
      cases(show v=_ from h1)
      cases ru;exact xF (isinstance_false_bool (by decide) ty_list ZMF) fin
     |int b=>
      cases ht;cases hk'
      cases(show v=_ from h1)
      obtain⟨tk,rfl⟩:=ru;exact xF (xN (by decide) ty_list ZOp) fin
     |str b=>
      cases ht;cases hk'
      cases(show v=_ from h1)
      obtain⟨tk,rfl⟩:=ru;exact xF (xR (by decide) ty_list ZRz) fin
     |tup b=>
      cases ht;cases hk';obtain⟨p,ws,rfl,hq,_⟩:=h1;cases ru;rw[hk]at hq;obtain⟨its,_,pl,_⟩:=I.tuple hq;exact xF (xS (by decide) ty_list ZNf) ⟨(let⟨o,e,c,_⟩:=pl;⟨o,e,c⟩),fin⟩
     |fl b=>
      cases ht;cases hk';obtain⟨p,ws,rfl,hq,_⟩:=h1;cases ru;have hq:=hq.sq;rw[hk]at hq;obtain⟨its,_,pl,_⟩:=I.list hq;exact O9 (Tx:="list") pl.isList.typeIs ty_list ZE1 fin0
     |ref b=>
      unfold tyD at ht;dsimp only at ht;split at ht
      ·rename_i xs hx;cases ht;cases hk';obtain⟨ws,e1,_⟩:=sm.lst hx;cases h1.2;cases ru;obtain⟨its,_,pl,_⟩:=I.list (.of e1);exact O9 (Tx:="list") pl.isList.typeIs ty_list ZE1 fin0
      ·cases ht
     |ty n=>cases ht
    ·cases hk'
   ·exact q.elim
  ·exact q.elim
 ·exact q.elim
end
noncomputable def Hr:List D->Option (List Int)
 |[]=>vE []
 |.int i::r=>(Hr r).map (i::·)
 |_=>vF
noncomputable def J1:List D->Option (List Bool)
 |[]=>vE []
 |.bl i::r=>(J1 r).map (i::·)
 |_=>vF
@[simp]theorem ZCh(ns:List Int):Hr (ns.map D.int)=vE ns:=by
 induction ns with
 |nil=>rfl
 |cons n ns ih=>simp[Hr,ih]
@[simp]theorem ZUN(ns:List Bool):J1 (ns.map D.bl)=vE ns:=by
 induction ns with
 |nil=>rfl
 |cons n ns ih=>simp[J1,ih]
theorem ZAc:∀{xs:List D}{ns:List Int},Hr xs=vE ns->xs=ns.map D.int
 |[],ns,h=>by cases h;rfl
 |.int i::r,ns,h=>by simp only[Hr,zI]at h;obtain⟨ms,h1,rfl⟩:=h;rw[zk,ZAc h1]
 |.non::r,ns,h=>by simp[Hr]at h
 |.bl _::r,ns,h=>by simp[Hr]at h
 |.str _::r,ns,h=>by simp[Hr]at h
 |.ty _::r,ns,h=>by simp[Hr]at h
 |.tup _::r,ns,h=>by simp[Hr]at h
 |.fl _::r,ns,h=>by simp[Hr]at h
 |.ref _::r,ns,h=>by simp[Hr]at h
theorem ZJ6:∀{xs:List D}{ns:List Bool},J1 xs=vE ns->xs=ns.map D.bl
 |[],ns,h=>by cases h;rfl
 |.bl i::r,ns,h=>by simp only[J1,zI]at h;obtain⟨ms,h1,rfl⟩:=h;rw[zk,ZJ6 h1]
 |.non::r,ns,h=>by simp[J1]at h
 |.int _::r,ns,h=>by simp[J1]at h
 |.str _::r,ns,h=>by simp[J1]at h
 |.ty _::r,ns,h=>by simp[J1]at h
 |.tup _::r,ns,h=>by simp[J1]at h
 |.fl _::r,ns,h=>by simp[J1]at h
 |.ref _::r,ns,h=>by simp[J1]at h
def Qi(ds:List D)(G:DH):R D:=match ds with
 | [d]=>match Ci d G with
  |some xs=>match J1 xs with
   |some ns=>.ok (.bl (ns.all id)) G
   |none=>.bad
  |none=>.bad
 |_=>.bad
section
variable{X:Cx}{E:XK}{vD:List (xZ×Obj)}{σ:St}{s:xq}{H:Hp}
theorem ZAs(I:Inv X vD σ H s)(hc:X.calm=vG)(h:SqL X.K H p vs∨SqT X.K H p vs){E':xj->xq->Prop}{Q:xj->xq->Prop}
  (hQ:∀(it:xZ)(fp wr:List xZ)(its:List xj)(St:Nat->Heap->Prop)(s₂:xq),Vals vs its->Walks X.prog X.w X.A.in1 it fp wr its.toArray.size (λi v=>its.toArray[i]?=vE v) St->St 0 s₂.heap->(∀b∈fp,b<s₂.heap.objs.size)->
   (∀h' tk,(∀b o,b∉wr->s₂.heap.get? b=vE o->h'.get? b=vE o)->Inv X vD σ H {s₂ with heap:=h',toks:=tk})->Q (.ref it) s₂):
  vY (vZ X.prog X.w) X.A.in1 (pyIter (.ref p)) Q E' s:=by
 have hh:X.A.in1.handled=vF:=I.ok.hd hc;rcases h with h|h
 ·obtain⟨its,r,pl,hz⟩:=I.list h;refine wpAny_pyIter_list pl.isList ?_;have hp:p<s.heap.objs.size:=by obtain⟨o,e,_⟩:=pl.isList;exact zj e
  refine hQ _ _ _ its _ _ r (Walks.list hh _ p (zE hp) its.toArray) ⟨⟨_,z0 _ rfl,rfl,rfl⟩,?_⟩ (λb hb=>?_) λh' tk kk=>?_
  ·obtain⟨o,e,c⟩:=pl.isList;exact⟨o,zQ _ e,c⟩
  ·show b<(s.heap.push _).objs.size;rw[qy];rcases zw.mp hb with rfl|hb
   ·exact zU _
   ·have e:b=p:=by simpa using hb
    subst e;exact qC hp
  ·refine I.kept λb o e=>kk b o (λhb=>?_) (zQ _ e)
   have e2:b=s.heap.objs.size:=by simpa using hb
   subst e2;exact absurd (zj e) (zT _)
 ·obtain⟨its,r,pl,hz⟩:=I.tuple h
  refine wpAny_pyIter_tuple (show s.heap.IsTuple p its.toArray from pl) ?_
  have hp:p<s.heap.objs.size:=by obtain⟨o,e,_⟩:=pl;exact zj e
  refine hQ _ _ _ its _ _ r (Walks.tuple hh _ p (zE hp) its.toArray) ⟨⟨_,z0 _ rfl,rfl,rfl⟩,?_⟩ (λb hb=>?_) λh' tk kk=>?_
  ·obtain⟨o,e,c⟩:=pl;exact⟨o,zQ _ e,c⟩
  ·show b<(s.heap.push _).objs.size;rw[qy];rcases zw.mp hb with rfl|hb
   ·exact zU _
   ·have e:b=p:=by simpa using hb
    subst e;exact qC hp
  ·refine I.kept λb o e=>kk b o (λhb=>?_) (zQ _ e)
   have e2:b=s.heap.objs.size:=by simpa using hb
   subst e2;exact absurd (zj e) (zT _)
theorem ZAu:∀{ns:List Int}{vs:List V},Reps a (ns.map D.int) vs->vs=ns.map V.int
 |[],vs,h=>h
 |n::ns,vs,h=>by
  obtain⟨v,r,e,h1,h2⟩:=h
  cases(show v=V.int n from h1)
  rw[e,ZAu h2]
  rfl
theorem ZHi:∀{ns:List Bool}{vs:List V},Reps a (ns.map D.bl) vs->vs=ns.map V.bl
 |[],vs,h=>h
 |n::ns,vs,h=>by
  obtain⟨v,r,e,h1,h2⟩:=h
  cases(show v=V.bl n from h1)
  rw[e,ZHi h2]
  rfl
theorem all_range(ns:List Bool):(zZ ns.length).all (λi=>ns.getD i vG)=ns.all id:=by
 rw[Bool.eq_iff_iff,qK,qK];constructor
 ·intro h b hb;obtain⟨i,hi,rfl⟩:=q9 hb;simpa[hi]using h i (qW.mpr hi)
 ·intro h i hi;have hi':i<ns.length:=qW.mp hi;simpa[hi']using h ns[i] (qx hi')
theorem ZGK(hc:X.calm=vG):CallR X (.builtin "all") (lRn X.K E Qi):=by
 intro vD s σ H vs us Q I rs h;obtain⟨a,G,ds,hk,rfl,sm,r,q⟩:=h;unfold Qi at q;split at q
 ·rename_i d;obtain⟨v,rfl,rv⟩:=reps1 r;split at q
  ·rename_i xs hs;split at q
   ·rename_i ns hn;cases ZJ6 hn;obtain⟨p,ws,rfl,h1,r1⟩:=Mi sm rv hs;cases ZHi r1;rw[hk]at h1;obtain⟨u,rfl,ru⟩:=vals1 rs;cases ru;refine call_all_walk (ZAs I hc h1 λit fp wr its St s₂ hv W st hfp fin=>⟨it,fp,wr,its.toArray.size,_,St,λi=>ns.getD i vG,rfl,W,st,λi w s' Q' E' hw hQ'=>?_,λh' tk kk=>?_⟩)
    ·have hw':its[i]?=vE w:=by simpa using hw
     have hl:i<(ns.map V.bl).length:=by rw[hv.length];exact(zF.mp hw').1
     have hl':i<ns.length:=by simpa using hl
     obtain⟨u,hu,ru⟩:=hv.get (i:=i) (x:=V.bl ns[i]) (by simp[hl']);rw[hw']at hu;cases hu;cases ru;refine v9 ?_;simpa[hl']using hQ'
    ·refine⟨.bl (ns.all id),a.H,fin h' tk kk,?_,q a _ (Ext.refl a) sm rfl⟩;have hl:its.toArray.size=ns.length:=by rw[zY,<-hv.length];simp
     rw[hl,all_range]
     rfl
   ·exact q.elim
  ·exact q.elim
 ·exact q.elim
end
section
variable{X:Cx}{vD:List (xZ×Obj)}{σ:St}{H:Hp}{s:xq}
theorem ZBH{a:xZ}{o:HO}(I:Inv X vD σ H s)(hn:H a=vF)(hy:X.s₀.heap.objs.size<=a)(hL:a≠X.env.locals)(hc:∀x c,X.env.cells.lookup x=vE c->c≠a)(hp:∀p∈X.pn++vD,p.1≠a)
  (new:ObjOk X.prog X.w (upd H a o) s.heap a o):Inv X vD σ (upd H a o) s:=by
 have ne:∀b u,H b=vE u->b≠a:=λb u e z=>by rw[z,hn]at e;cases e
 refine⟨I.ok,I.os,I.bare,⟨I.base.keep,I.base.slot,λb ob q n hx=>?_,I.base.there,λb xs q=>?_,λb ob u q=>?_,λb ps q=>?_⟩,I.loc,I.cell,?_,λx c e=>?_,λp hp'=>?_,λb u e=>?_,I.len⟩
 ·rw[Bd (zE (zq (zj q) hy))];exact I.base.free b ob q n hx
 ·have:=I.base.tups b xs q;rw[Bd (ne _ _ this)];exact this
 ·have:=I.base.frzs b ob u q;rw[Bd (ne _ _ this)];exact this
 ·obtain⟨more,this⟩:=I.base.tbls b ps q;exact⟨more,by rw[Bd (ne _ _ this)];exact this⟩
 ·rw[Bd (Ne.symm hL)];exact I.free
 ·rw[Bd (hc x c e)];exact I.Jr x c e
 ·obtain⟨e1,e2,e3⟩:=I.pin p hp';exact⟨e1,by rw[Bd (hp p hp')];exact e2,e3⟩
 ·by_cases hb:b=a
  ·subst hb;rw[Gj]at e;cases e;exact new
  ·rw[Bd hb]at e;exact(I.hok b u e).stay (λ_ _ _ q=>q) (λc q=>by rw[Bd (ne _ _ q)];exact q) λc xs q=>by rw[Bd (ne _ _ q)];exact q
end
noncomputable def Gm(env:Env):List (Str×xW)->List (Str×xZ)->List (Str×xZ)
 |[],cs=>cs
 |(n,k)::r,cs=>if(k==NameKind.free)=vG then Gm env r ((n,(env.cells.lookup n).getD 0)::cs)else Gm env r cs
theorem ZFm(h:∀y∈scope.names,y.2=.free->∃c,env.cells.lookup y.1=vE c):closureFor scope env=pure (Gm env scope.names []):=by
 unfold closureFor;obtain⟨kind,names,g1,g2⟩:=scope;have key:∀(names:List (Str×xW))(cs:List (Str×xZ)),(∀y∈names,y.2=.free->∃c,env.cells.lookup y.1=vE c)->
   (forIn names cs (λx r=>match x with
    |(name,kind)=>if(kind==NameKind.free)=vG then(do let c<-cellOf env name;pure (ForInStep.yield ((name,c)::r)))else pure (ForInStep.yield r)):Sem (List (Str×xZ)))=pure (Gm env names cs):=by
  intro names
  induction names with
  |nil=>intro cs _;rfl
  | cons y r ih=>
   intro cs hy;obtain⟨n,k⟩:=y;rw[jR];by_cases hk:(k==NameKind.free)=vG
   ·obtain⟨c,hc⟩:=hy (n,k) zW (by simpa using hk)
    have e1:cellOf env n=pure c:=by unfold cellOf;rw[show env.cells.lookup n=vE c from hc]
    have e2:Gm env ((n,k)::r) cs=Gm env r ((n,c)::cs):=by rw[Gm,if_pos hk,show env.cells.lookup n=vE c from hc];rfl
    rw[e2,<-ih ((n,c)::cs) λy' hy'=>hy y' (zX _ hy')];simp only[hk,if_true,e1]
    rfl
   ·have e2:Gm env ((n,k)::r) cs=Gm env r cs:=by rw[Gm,if_neg hk]
    rw[e2,<-ih cs λy' hy'=>hy y' (zX _ hy')];simp only[hk]
    rfl
 have:=key names [] h;exact congrArg (λm:Sem (List (Str×xZ))=>m >>=λr=>pure r) this
theorem ZBA:∀{names:List (Str×xW)}{cs:List (Str×xZ)},(∀y∈names,y.2=.free->∃c,env.cells.lookup y.1=vE c)->(∀p∈cs,env.cells.lookup p.1=vE p.2)->∀p∈Gm env names cs,env.cells.lookup p.1=vE p.2
 |[],cs,_,hc,p,hp=>hc p hp
 | (n,k)::r,cs,hn,hc,p,hp=>by
  rw[Gm]at hp;split at hp
  ·rename_i hk;obtain⟨c,e⟩:=hn (n,k) zW (by simpa using hk);refine ZBA (λy hy=>hn y (zX _ hy)) (λq hq=>?_) p hp;rcases zw.mp hq with rfl|hq
   ·rw[show env.cells.lookup n=vE c from e];rfl
   ·exact hc q hq
  ·exact ZBA (λy hy=>hn y (zX _ hy)) hc p hp
theorem Wy:∀{names:List (Str×xW)}{cs:List (Str×xZ)},((x,.free)∈names∨∃c,(x,c)∈cs)->∃c,(x,c)∈Gm env names cs
 |[],cs,h=>by
  rcases h with h|h
  ·cases h
  ·exact h
 | (n,k)::r,cs,h=>by
  rw[Gm];split
  ·refine Wy ?_;rcases h with h|⟨c,h⟩
   ·rcases zw.mp h with e|h
    ·cases e;exact .inr ⟨_,zW⟩
    ·exact .inl h
   ·exact .inr ⟨c,zX _ h⟩
  ·rename_i hk;refine Wy ?_;rcases h with h|h
   ·rcases zw.mp h with e|h
    ·cases e;exact absurd rfl hk
    ·exact .inl h
   ·exact .inr h
theorem ZBN{c:xZ}:∀{l:List (Str×xZ)},(x,c)∈l->∃d,l.lookup x=vE d
 |[],h=>by cases h
 | (y,d)::l,h=>by
  by_cases e:x=y
  ·subst e;exact⟨d,by simp⟩
  ·rcases zw.mp h with z|h
   ·cases z;exact absurd rfl e
   ·obtain⟨d',q⟩:=ZBN h;exact⟨d',by rw[jQ,beq_eq_false_iff_ne.mpr e];exact q⟩
theorem ZJI(x:Str):(relabel scope env).names.lookup x=(scope.names.lookup x).map λk=>if(k==NameKind.free&&env.scope.kind == .function&&env.kindOf x==vE .cell)=vG then .cell else k:=by
 unfold relabel;generalize scope.names=l
 induction l with
 |nil=>rfl
 | cons y r ih=>
  obtain⟨n,k⟩:=y;by_cases e:x=n
  ·subst e;simp only[zk]
   cases hc:(k==NameKind.free&&env.scope.kind==ScopeKind.function&&env.kindOf x==vE NameKind.cell) <;>
    simp only[hc,if_true,jQ,beq_self_eq_true,Option.map_some,jx,if_false]
  ·have hb:(x==n)=vH:=beq_eq_false_iff_ne.mpr e;simp only[zk];split
   ·rw[jQ,jQ,hb];exact ih
   ·rw[jQ,jQ,hb];exact ih
def blk(X:Cx)(N:List Str)(scope:xY)(C:xZ)(s₀:xq)(H₀:Hp)(ex:List xZ):Cx where
 prog:=X.prog
 w:=X.w
 K:=X.K
 mg:=X.mg
 base:=X.base
 A:=X.A
 N:=N
 s₀:=s₀
 H₀:=H₀
 env:=compEnvC scope (Gm X.env scope.names []) C X.env
 outer:=X.stack
 stack:=X.stack
 ex:=ex
 fn:=λ_=>vH
 calm:=X.calm
 pn:=[]
 xe:=λ_ _=>False
structure CompSc (X:Cx) (N:List Str) (scope:xY) (nt:Nat) (caps:List Nat):Prop where
 kind:scope.kind=.function
 names:∀y∈scope.names,y.2=.local->scope.names.lookup y.1=vE .local
 nocell:∀y∈scope.names,y.2≠ .cell
 free:∀y∈scope.names,y.2=.free->X.env.kindOf y.1=vE .cell∨X.env.kindOf y.1=vE .free
 nd:N.Nodup
 len:N.length=nt+caps.length
 cap:∀(k j:Nat),caps[k]?=vE j->∃x,X.N[j]?=vE x/\N[nt+k]?=vE x/\scope.names.lookup x=vE .free
section
variable{X:Cx}{vD:List (xZ×Obj)}{σ:St}{H:Hp}{s:xq}{N:List Str}{scope:xY}{nt:Nat}{caps:List Nat}
theorem CompSc.cells(c:CompSc X N scope nt caps)(ok:X.Ok):∀y∈scope.names,y.2=.free->∃c,X.env.cells.lookup y.1=vE c:=λy hy hk=>ok.has y.1 (c.free y hy hk)
theorem CompSc.cl(c:CompSc X N scope nt caps)(ok:X.Ok){d:xZ}(h:(Gm X.env scope.names []).lookup x=vE d):X.env.cells.lookup x=vE d:=
 ZBA (c.cells ok) (λp hp=>by cases hp) (x,d) (PySem.mem_of_lookup h)
theorem ZLv(c:CompSc X N scope nt caps)(I:Inv X vD σ H s){fp:List xZ}(hf:∀b∈fp,FpOk X vD H b){C:xZ}(hC:s.heap.objs.size<=C)(hCf:C∉fp):(blk X N scope C s H fp).Ok where
 mod:=I.ok.mod
 kind:=c.kind
 glob:=I.ok.glob
 blt:=I.ok.blt
 above:=hC
 inj:=λx y d h1 h2=>I.ok.inj x y d (c.cl I.ok h1) (c.cl I.ok h2)
 has:=λx h=>by
  have h':(relabel scope X.env).names.lookup x=vE .cell∨(relabel scope X.env).names.lookup x=vE .free:=h;rw[ZJI]at h';have hfree:scope.names.lookup x=vE .free:=by
   cases e:scope.names.lookup x with
   |none=>rw[e]at h';rcases h' with h'|h'<;>cases h'
   |some k=>
    rw[e]at h';cases k with
    |free=>rfl
    |cell=>exact absurd rfl (c.nocell _ (PySem.mem_of_lookup e))
    |_=>rcases h' with h'|h'<;>(simp at h')
  obtain⟨d,hd⟩:=Wy (env:=X.env) (x:=x) (names:=scope.names) (cs:=[]) (.inl (PySem.mem_of_lookup hfree));exact ZBN hd
 cab:=λx d h=>by cases h
 hd:=I.ok.hd
 frames:=I.ok.frames
 stk:=.inl rfl
 exf:=λb hb=>⟨λz=>hCf (by rw[<-show b=C from z];exact hb),λx d h=>(hf b hb).2.2.2.2.1 x d (c.cl I.ok h)⟩
 bs:=I.bs
 bsz:=zB I.ok.bsz I.sz
 noex:=λb o e hb=>by
  rcases(hf b hb).2.2.2.1 with h|h
  ·exact I.ok.noex b o e h
  ·exact absurd (zq (zj (I.ok.bs b o e).1) h) (zT _)
 exfs:=λb hb hz=>by
  rcases zw.mp (I.Wv b hz)with z|z
  ·exact(hf b hb).2.1 z
  ·exact(hf b hb).2.2.1 z
 funs:=I.stack
 frf:=I.ZHx
end
def Dt(g:DG)(c:DB)(te:DE)(S:DSt):List D->DH->R (List D)
 |[],G=>.ok [] G
 | x::xs,G=>(g x S G).bind λS1 G1=>(c S1 G1).bind λk G2=>
   if k=vG then(te S1 G2).bind λd G3=>(Dt g c te S xs G3).bind λds G4=>.ok (d::ds) G4 else Dt g c te S xs G2
def Hv(i:Nat)(g:DG)(c:DB)(te:DE)(S:DSt):Nat->Nat->DH->R (List D)
 |0,j,G=>match G[i]? with
  |some (.lst xs)=>if xs.length<=j then .ok [] G else .bad
  |_=>.bad
 | n + 1,j,G=>match G[i]? with
  |some (.lst xs)=>match xs[j]? with
   | some x=>(g x S G).bind λS1 G1=>(c S1 G1).bind λk G2=>
     if k=vG then(te S1 G2).bind λd G3=>(Hv i g c te S n (j+1) G3).bind λds G4=>.ok (d::ds) G4 else Hv i g c te S n (j+1) G2
   |none=>.ok [] G
  |_=>.bad
def Ds(f:Nat->DH->Option (Option D))(g:DG)(c:DB)(te:DE)(S:DSt):Nat->Nat->DH->R (List D)
 |0,j,G=>match f j G with
  |some vF=>.ok [] G
  |_=>.bad
 | n + 1,j,G=>match f j G with
  |some (vE x)=>(g x S G).bind λS1 G1=>(c S1 G1).bind λk G2=>
     if k=vG then(te S1 G2).bind λd G3=>(Ds f g c te S n (j+1) G3).bind λds G4=>.ok (d::ds) G4 else Ds f g c te S n (j+1) G2
  |some vF=>.ok [] G
  |none=>.bad
noncomputable def Bm(nt:Nat)(caps:List Nat)(S:DSt):DSt:=zV nt vF++caps.map λj=>(S[j]?).join
def Ej(it:DI)(nt:Nat)(caps:List Nat)(g:DG)(c:DB)(te:DE):DE:=λS G=>(it S G).bind λJ G1=>(match J with
 |.pure xs=>Dt g c te (Bm nt caps S) xs G1
 |.mt i=>match G1[i]? with
  |some (.lst xs)=>Hv i g c te (Bm nt caps S) xs.length 0 G1
  |_=>.bad
 |.fn n f=>Ds f g c te (Bm nt caps S) n 0 G1).bind Av
noncomputable def Cd:DB:=λ_ G=>.ok vG G
def GK(nt:Nat)(g:DG):Prop:=∀d S G S1 G1,g d S G=.ok S1 G1->∀i e,nt<=i->S[i]?=vE (vE e)->S1[i]?=vE (vE e)
def GKs(nt:Nat)(g:DGs):Prop:=∀d S G S1 G1,g d S G=.ok S1 G1->∀i e,nt<=i->S[i]?=vE (vE e)->S1[i]?=vE (vE e)
theorem Dv(h:i<nt):GK nt (gV i):=λd S G S1 G1 e j x hj hx=>by cases e;rw[qM (by lia)];exact hx
theorem Nr:GKs nt Bk:=λd S G S1 G1 e j x hj hx=>by
 cases d with
 |nil=>cases e;exact hx
 |cons _ _=>cases e
theorem Ib{t:DG}{u:DGs}(h1:GK nt t)(h2:GKs nt u):GKs nt (Am t u):=λd S G S1 G1 e j x hj hx=>by
 cases d with
 |nil=>cases e
 |cons a r=>
  have e':(t a S G).bind (λS1 G1=>u r S1 G1)=.ok S1 G1:=e;cases ht:t a S G with
  |ok S2 G2=>rw[ht]at e';exact h2 _ _ _ _ _ e' j x hj (h1 _ _ _ _ _ ht j x hj hx)
  |err _ _=>rw[ht]at e';cases e'
  |bad=>rw[ht]at e';cases e'
theorem Ng{n:Nat}{t:DGs}(h:GKs nt t):GK nt (Bg n t):=λd S G S1 G1 e j x hj hx=>by
 cases d with
 |tup ds=>
  unfold Bg at e;dsimp only at e;split at e
  ·exact h _ _ _ _ _ e j x hj hx
  ·cases e
 |_=>cases e
theorem ZL3{r:R DSt}{f:DSt->DH->R D}(h:out E a (r.bind f) Q):
  Gs E a r (λσ H=>∃(b:Wd)(S:DSt)(G:DH),b.H=H/\Ext a b/\Sim b G/\RepS b S σ/\r=.ok S G/\out E b (f S G) Q):=by
 cases r with
 |ok d G=>exact λb v x s q=>⟨b,d,G,rfl,x,s,q,rfl,out.mono x h⟩
 |err e G=>exact h
 |bad=>exact h
theorem R.bind_assoc{γ:Type}(r:R α)(f:α->DH->R β)(g:β->DH->R γ):(r.bind f).bind g=r.bind λa G=>(f a G).bind g:=by cases r<;>rfl
theorem ZFj{r:R ItD}{f:ItD->DH->R D}(h:out E a (r.bind f) Q):
  outI E a r (λJ H=>∃(b:Wd)(d:ItD)(G:DH),b.H=H/\Ext a b/\Sim b G/\RepI b d J/\r=.ok d G/\out E b (f d G) Q):=by
 cases r with
 |ok d G=>exact λb v x s q=>⟨b,d,G,rfl,x,s,q,rfl,out.mono x h⟩
 |err e G=>exact h
 |bad=>exact h
section
variable{prog:xK}{w:xw}{A:xJ}{R':Result->xq->Prop}{s:xq}
theorem ZNl{elt target iter:xX}{ifs:List xX}{scope:xY}{pos:Pos}{it acc:xj}{env:Env}(I:Nat->xq->Prop)
  (turn:∀n s,I n s->vY (vZ prog w) A (pyNext it) (λr s₁=>match r with
   |none=>R' (.ok .next) s₁
   | some v=>vY (vZ prog w) A (xU target it v) (λ_ s₁=>vY (vZ prog w) A (assign target env v) (λ_ s₂=>
     vY (vZ prog w) A (forIn ifs vG λc r=>if r=vG then do let ok<-isTrue c env (eval c env);pure (ForInStep.yield ok)else pure (ForInStep.yield r)) (λok s₃=>
      if ok=vG then vY (vZ prog w) A (eval elt env) (λx s₄=>
       vY (vZ prog w) A (call (.builtin "list.append") [acc,x]) (λ_ s₅=>∃m,m<n/\I m s₅) (λ_ _=>False) s₄) (λ_ _=>False) s₃
      else∃m,m<n/\I m s₃) (λ_ _=>False) s₂) (λ_ _=>False) s₁) (λ_ _=>False) s₁) (λ_ _=>False) s)
  (n:Nat) (h:I n s):
  codeAny (vZ prog w) A (.compLoop (.ListComp elt [⟨target,iter,ifs,0⟩] scope pos) 0 it acc env) R' s:=by
 refine codeAny_loop rfl I (λn s hI=>?_) n h
 show vY _ A ((compTurn (.ListComp elt [⟨target,iter,ifs,0⟩] scope pos) 0 it acc env).onRaise (λx=>do noteFrame x env;theTreesLotGoes x)) _ _ s
 refine wpAny_noted ?_;rw[compTurn_list];refine v4 ?_ (λ_ _ q=>q) (λ_ _(f:False)=>f.elim);refine vz (wpAny_standAt (vz (v4 (turn n s hI) (λr s₁ h₁=>?_) λ_ _ h'=>h')));cases r with
 |none=>exact v7 h₁
 | some v=>
  refine vz (v4 h₁ (λ_ s₂' h₁=>?_) λ_ _ h'=>h');refine vz (v4 h₁ (λ_ s₂ h₂=>vz (v4 h₂ (λok s₃ h₃=>?_) λ_ _ h'=>h')) λ_ _ h'=>h');cases ok with
  |false=>exact v7 ⟨rfl,h₃⟩
  |true=>
   exact vz (vz (v4 h₃ (λx s₄ h₄=>vz (v4 h₄ (λ_ s₅ h₅=>v7 (v7 ⟨rfl,h₅⟩)) λ_ _ h'=>h')) λ_ _ h'=>h'))
end
def QTs(X:Cx)(E:XK)(ifs:List xX)(t:DB):Prop:=
 ∀(vD:List (xZ×Obj))(s:xq)(σ:St)(H:Hp)(Q:Bool->Hp->Prop),Inv X vD σ H s->lB X.K E t σ H Q->
  vY (vZ X.prog X.w) X.A (forIn ifs vG λc r=>if r=vG then do let ok<-isTrue c X.env (eval c X.env);pure (ForInStep.yield ok)else pure (ForInStep.yield r)) (TP X vD σ Q) X.xe s
theorem Fi:QTs X E [] Cd:=λvD s σ H Q I h=>by obtain⟨a,S,G,hk,rfl,sm,r,h⟩:=h;exact wpAny_tests_nil ⟨a.H,I,h a (Ext.refl a) sm⟩
theorem ZPG{c:xX}{t:DB}(hc:QT X E c t):QTs X E [c] t:=λvD s σ H Q I h=>wpAny_tests_one (hc vD s σ H Q I h)
section
variable{X:Cx}{E:XK}{N:List Str}{scope:xY}{nt:Nat}{caps:List Nat}{tg elt iter:xX}{ifs:List xX}{pos:Pos}{it:DI}{g:DG}{c:DB}{te:DE}
theorem ZS4(r:RepS a S σ):RepS a (Bm nt caps S) (zV nt vF++caps.map λj=>(σ[j]?).join):=by
 refine⟨by simp[Bm],λi d h=>?_⟩;unfold Bm at h;by_cases hi:i<nt
 ·rw[zR (by simpa using hi),qT]at h
  split at h<;>cases h
 ·rw [zG (by simpa using hi),zx]at h;rw[zG (by simpa using hi),zx];rw[jF]at h⊢;cases e:caps[i-nt]? with
  |none=>rw[e]at h;cases h
  | some j=>
   rw[e]at h;have h1:(S[j]?).join=vE d:=by simpa using h
   have h2:S[j]?=vE (vE d):=by
    cases q:S[j]? with
    |none=>rw[q]at h1;cases h1
    |some o=>
     rw[q]at h1;have h1':o=vE d:=h1;rw[h1']
   obtain⟨v,ev,rv⟩:=r.get j d h2;exact⟨v,by simp[ev],rv⟩
theorem ZLK(h:(Bm nt caps S)[i]?=vE (vE d)):nt<=i:=by
 unfold Bm at h;by_cases hi:i<nt
 ·rw[zR (by simpa using hi),qT]at h
  split at h<;>cases h
 ·lia
theorem ZEC (hc:X.calm=vG) (cs:CompSc X N scope nt caps)
  (hg:∀C s₀ H₀ ex,QG (blk X N scope C s₀ H₀ ex) E0 tg g) (gk:GK nt g) (hts:∀C s₀ H₀ ex,QTs (blk X N scope C s₀ H₀ ex) E0 ifs c) (he:∀C s₀ H₀ ex,QE (blk X N scope C s₀ H₀ ex) E0 elt te)
  {vD:List (xZ×Obj)} {σ:St} {s:xq} {a:Wd} {S:DSt} {G:DH} {J:It} {n0:Nat} {f:Nat->DH->Option (Option D)} {i0:xZ} {fp:List xZ} {tn:Nat->Heap->Prop} (I:Inv X vD σ a.H s) (hk:a.K=X.K) (sm:Sim a G) (rS:RepS a S σ)
  (T:Turn X.prog X.w X.K tg J fp i0 tn) (t0:tn 0 s.heap) (hf:∀b∈fp,FpOk X vD a.H b) (rJ:RepI a (.fn n0 f) J) {Q:VK}
  (h:out E0 a ((Ds f g c te (Bm nt caps S) n0 0 G).bind Av) Q)
  {RR:xj->xZ->Result->xq->Prop} {E':xj->xq->Prop}
  (hRR:∀(D C:xZ)(s':xq)(b:Wd)(vs:List V),Inv X vD σ (upd b.H D (.lst vs)) s'->b.H D=vF->s.heap.objs.size<=C->D≠C->(∃m,s'.heap.Ns C m)->b.H C=vF->Q (.ref D) (upd b.H D (.lst vs))->RR (.ref D) C (.ok .next) s'):
  vY (vZ X.prog X.w) X.A (newList []) (λacc s₃=>vY (vZ X.prog X.w) X.A (newFunctionEnv scope X.env.globals (Gm X.env scope.names []) [] X.env.qual vF .none (vE X.env)) (λcenv s₄=>
   codeAny (vZ X.prog X.w) X.A (.compStart (.ListComp elt [⟨tg,iter,ifs,0⟩] scope pos) 0 (.ref i0) acc {cenv with scope:=relabel scope X.env}) (RR acc cenv.locals) s₄) E' s₃) E' s:=by
 refine v5 (wpAny_newFunctionEnv cs.nocell (by intro y hy;simp at hy) (λh₁ hns₁ hsb₁=>?_) cs.kind);dsimp only at hns₁ hsb₁⊢;generalize hH2:s.heap.push {cls:=.type "list",dict:=vF,data:=.seq ([]:List xj).toArray}=H2 at hns₁ hsb₁⊢;have hC:H2.objs.size=s.heap.objs.size+1:=by rw[<-hH2,qy]
 have hDC:s.heap.objs.size≠H2.objs.size:=by rw[hC];exact zE (zU _)
 have hCle:s.heap.objs.size<=H2.objs.size:=by rw[hC];exact jk _
 have fpOld:∀b∈fp,b<s.heap.objs.size:=λb hb=>by obtain⟨o,e,_⟩:=T.obj 0 _ t0 b hb;exact zj e
 have hDf:s.heap.objs.size∉fp:=λhm=>zT _ (fpOld _ hm)
 have hCf:H2.objs.size∉fp:=λhm=>by have:=fpOld _ hm;rw[hC]at this;exact zT _ (Nat.lt_of_succ_lt this)
 have old:∀b o,s.heap.get? b=vE o->h₁.get? b=vE o:=λb o e=>
  hsb₁.extBut b o (by rw[hC];exact zE (qC (zj e))) (zQ _ (hH2▸zQ _ e))
 have hacc:h₁.PlainList s.heap.objs.size ([]:List xj).toArray:=⟨_,hsb₁.extBut _ _ hDC (zQ _ (hH2▸z0 _ rfl))⟩;generalize hCe:H2.objs.size=C at*;generalize hDe:s.heap.objs.size=Dd at*;let B:=blk X N scope C s a.H fp;have okB:B.Ok:=ZLv cs I hf (by rw[hDe];exact hCle) hCf;let σ0:St:=zV nt vF++caps.map λj=>(σ[j]?).join
 have start:∀tk,Inv B [] σ0 a.H {s with heap:=h₁,toks:=tk}:=λtk=>by
  refine⟨okB,rfl,I.bare,Un.kept old,⟨_,hns₁,λi x v e1 e2 e3=>?_⟩,λx d' e=>?_,I.hok.fresh (by rw[hDe];exact hCle),λx d' e=>?_,λp hp=>?_,I.hok.kept old,?_⟩
  ·have hi:nt<=i:=by
    by_cases hi:i<nt
    ·have e2':σ0[i]?=vE (vE v):=e2;rw[zR (by simpa using hi),qT]at e2'
     split at e2'<;>cases e2'
    ·lia
   have e2':σ0[i]?=vE (vE v):=e2;rw[zG (by simpa using hi),zx,jF]at e2';cases ej:caps[i-nt]? with
   |none=>rw[ej]at e2';cases e2'
   | some j=>
    rw[ej]at e2';have h1:(σ[j]?).join=vE v:=by simpa using e2'
    have h2:σ[j]?=vE (vE v):=by
     cases q:σ[j]? with
     |none=>rw[q]at h1;cases h1
     |some o=>
      rw[q]at h1;have h1':o=vE v:=h1;rw[h1']
    obtain⟨y,ey,en,ek⟩:=cs.cap (i-nt) j ej;have exy:x=y:=by
     have:nt+(i-nt)=i:=by lia
     rw[this]at en;have e1':N[i]?=vE x:=e1;rw[e1']at en;exact Option.some.inj en
    subst exy;have kx:=cs.free (x,.free) (PySem.mem_of_lookup ek) rfl;have vis:Vis X.env.scope x:=by
     rcases kx with kx|kx
     ·exact .inr (.inl kx)
     ·exact .inr (.inr kx)
    obtain⟨m,hn,hl⟩:=I.loc;obtain⟨u,ru,lk⟩:=hl j x v ey h2 vis;refine⟨u,ru,?_⟩;rcases lk with⟨k1,_⟩|⟨k1,c1,ec,hcell⟩
    ·rcases kx with kx|kx
     ·rw[k1]at kx;cases kx
     ·rw[k1]at kx;cases kx
    ·refine .inr ⟨?_,c1,?_,?_⟩
     ·show(relabel scope X.env).names.lookup x=vE .cell∨(relabel scope X.env).names.lookup x=vE .free;rw[ZJI,ek];simp only[Option.map_some];split
      ·exact .inl rfl
      ·exact .inr rfl
     ·obtain⟨d1,hd1⟩:=Wy (env:=X.env) (x:=x) (names:=scope.names) (cs:=[]) (.inl (PySem.mem_of_lookup ek));obtain⟨d2,hd2⟩:=ZBN hd1;have:=cs.cl I.ok hd2;rw[ec]at this;cases this;exact hd2
     ·obtain⟨o,e,dd⟩:=hcell;exact⟨o,old _ _ e,dd⟩
  ·obtain⟨v,o,e',dd⟩:=I.cell x d' (cs.cl I.ok e);exact⟨v,o,old _ _ e',dd⟩
  ·exact I.Jr x d' (cs.cl I.ok e)
  ·exact absurd hp (by simp[B,blk])
  ·show σ0.length=N.length;rw[cs.len];simp[σ0]
 have rS0:RepS a (Bm nt caps S) σ0:=ZS4 rS;have aD:a.H Dd=vF:=I.hok.fresh (by rw[hDe];exact zK _);have young:∀b∈fp,b≠C:=λb hb z=>hCf (z▸hb)
 have fpB:∀{H':Hp}{ps:List (xZ×Obj)},(∀b∈fp,H' b=vF)->(∀p∈ps,p.1∉fp)->∀b∈fp,FpOk B ps H' b:=λ{H' ps}hn hps b hb=>
  ⟨hn b hb,young b hb,okB.exfs b hb,.inl hb,λx d' e=>(hf b hb).2.2.2.2.1 x d' (cs.cl I.ok e),λp hp z=>by
   have hp':p∈ps:=by simpa[B,blk]using hp
   exact hps p hp' (z▸hb)⟩
 have nstk:Dd∉frs X.stack:=λz=>by
  rcases zw.mp (I.Wv Dd z)with z|z
  ·have:=I.lt;rw[hDe,<-z]at this;exact zT _ this
  ·exact I.nofs (by rw[hDe];exact zK _) z
 have pinD:∀{σ':St}{H':Hp}{s':xq}{its:List xj}{nD:Nat},Inv B [] σ' H' s'->s'.heap.get? Dd=vE {cls:=.type "list",data:=.seq its.toArray nD}->H' Dd=vF->Inv B [(Dd,{cls:=.type "list",data:=.seq its.toArray nD})] σ' H' s':=λ{σ' H' s' its nD}J e n=>
  J.Ma λp hp=>by
   have ep:p=(Dd,{cls:=.type "list",data:=.seq its.toArray nD}):=by simpa using hp
   subst ep;exact⟨e,n,hDC,nstk,λv' z=>by cases z⟩
 have fin:∀(s':xq)(b:Wd)(σ':St)(its:List xj)(ds:List D)(G':DH),Inv B [] σ' b.H s'->Ext a b->Sim b G'->s'.heap.PlainList Dd its.toArray->b.H Dd=vF->(∃vs,Vals vs its/\Reps b ds vs)->out E0 b (Av ds G') Q->RR (.ref Dd) C (.ok .next) s':=by
  intro s' b σ' its ds G' IB x sb pl hD ⟨vs,hv,rv⟩ hq;have hz:ds.length<=1000000:=by
   unfold Av at hq;split at hq
   ·assumption
   ·exact hq.elim
  have Ix:Inv X vD σ b.H s':=I.call' IB.os IB.base IB.hok IB.bare λb hb=>⟨(hf b hb).2.2.2.1,(hf b hb).2.1,(hf b hb).2.2.2.2.1,(hf b hb).2.2.2.2.2⟩
  obtain⟨n,eD⟩:=pl;have ylt:∀{q:xZ}{o:Obj},s.heap.get? q=vE o->q≠Dd:=λe z=>by rw[z,<-hDe]at e;exact absurd (zj e) (zT _)
  have Ia:Inv X vD σ (upd b.H Dd (.lst vs)) s':=by
   refine ZBH Ix hD (by rw[<-hDe];exact I.sz) ?_ (λy c' ec=>?_) (λp hp=>?_) ⟨?_,its,n,hv,eD⟩
   ·rw[<-hDe];exact jJ I.lt
   ·obtain⟨v,o,e,_⟩:=I.cell y c' ec;exact ylt e
   ·exact ylt (I.pin p hp).1
   ·rw[<-rv.length];exact zB hz size6
  refine hRR Dd C s' b vs Ia hD hCle hDC (let⟨m,hn,_⟩:=IB.loc;⟨m,hn⟩) IB.free ?_;unfold Av at hq;rw[if_pos hz]at hq;exact M4 sb rv hq Dd hD
 have turnX:∀(n:Nat)(P:Nat->xq->Prop)(rest:DH->R (List D))(s1:xq)(b:Wd)(G1:DH)(σ1:St)(its:List xj)(acc:List D)(u:xj)(v:V)(x:D)(i:Nat),Inv B [] σ1 b.H s1->Ext a b->Sim b G1->RepS b (Bm nt caps S) σ1->tn i s1.heap->(∀q∈fp,b.H q=vF)->
   s1.heap.PlainList Dd its.toArray->b.H Dd=vF->(∃vs,Vals vs its/\Reps b acc vs)->RelV v u->Rep b x v->
   out E0 b (((g x (Bm nt caps S) G1).bind λS1 G1=>(c S1 G1).bind λk G2=>if k=vG then(te S1 G2).bind λd G3=>(rest G3).bind λds G4=>.ok (d::ds) G4 else rest G2).bind λds G=>Av (acc++ds) G) Q->
   (∀(s2:xq)(b2:Wd)(G2:DH)(σ2:St)(its2:List xj)(acc2:List D),Inv B [] σ2 b2.H s2->Ext a b2->Sim b2 G2->RepS b2 (Bm nt caps S) σ2->tn i s2.heap->(∀q∈fp,b2.H q=vF)->
    s2.heap.PlainList Dd its2.toArray->b2.H Dd=vF->(∃vs,Vals vs its2/\Reps b2 acc2 vs)->out E0 b2 ((rest G2).bind λds G=>Av (acc2++ds) G) Q->∃m,m<n/\P m s2)->
   vY (vZ X.prog X.w) X.A (assign tg B.env u) (λ_ s₂=>
     vY (vZ X.prog X.w) X.A (forIn ifs vG λc r=>if r=vG then do let ok<-isTrue c B.env (eval c B.env);pure (ForInStep.yield ok)else pure (ForInStep.yield r)) (λok s₃=>
      if ok=vG then vY (vZ X.prog X.w) X.A (eval elt B.env) (λx s₄=>
       vY (vZ X.prog X.w) X.A (call (.builtin "list.append") [.ref Dd,x]) (λ_ s₅=>∃m,m<n/\P m s₅) (λ_ _=>False) s₄) (λ_ _=>False) s₃
      else∃m,m<n/\P m s₃) (λ_ _=>False) s₂) (λ_ _=>False) s1:=by
  intro n P rest s1 b G1 σ1 its acc u v x i I1 x1 sb rSb t1 hfp pl hD hacc' ru rx hq next
  rw[R.bind_assoc]at hq;obtain⟨nD,eD⟩:=id pl;let pinD:List (xZ×Obj):=[(Dd,{cls:=.type "list",data:=.seq its.toArray nD})];have pinOk:∀{σ':St}{H':Hp}{s':xq},Inv B (pinD++Px fp s1.heap) σ' H' s'->s'.heap.PlainList Dd its.toArray/\H' Dd=vF/\tn i s'.heap/\∀q∈fp,H' q=vF:=λ{σ' H' s'}J=>by
   have p1:=J.pin (Dd,{cls:=.type "list",data:=.seq its.toArray nD}) (zN _ (jO _ (by simp[pinD])));refine⟨⟨nD,p1.1⟩,p1.2.1,T.keep _ _ _ t1 λq hq' o e=>(J.pin (q,o) (zN _ (zN _ (Wx hq' e)))).1,λq hq'=>?_⟩;obtain⟨o,e,_⟩:=T.obj _ _ t1 q hq';exact(J.pin (q,o) (zN _ (zN _ (Wx hq' e)))).2.1
  have I2:Inv B (pinD++Px fp s1.heap) σ1 b.H s1:=I1.Ma λp hp=>by
   rcases j7.mp hp with hp|hp
   ·have e:p=(Dd,{cls:=.type "list",data:=.seq its.toArray nD}):=by simpa[pinD]using hp
    subst e;refine⟨eD,hD,hDC,λz=>?_,λv' z=>by cases z⟩;exact nstk z
   ·obtain⟨hb,e⟩:=ZFJ hp;obtain⟨f0,f1,f2,_⟩:=fpB (ps:=[]) hfp (λp hp=>by cases hp) p.1 hb;obtain⟨o,e',dd⟩:=T.obj _ _ t1 p.1 hb;rw[e]at e';cases e';exact⟨e,f0,f1,f2,dd⟩
  refine thn (hg C s a.H fp _ s1 σ1 b.H v u _ I2 ru ⟨b,Bm nt caps S,G1,x,x1.k.trans hk,rfl,sb,rSb,rx,(ZL3 hq).imp λ_ _ z=>z⟩) ?_;rintro _ s2 ⟨σ2,H2',J2,b2,S2,G2,rfl,y2,sb2,rS2,eg,hq2⟩;rw[R.bind_assoc]at hq2;have rS2':RepS b2 (Bm nt caps S) σ2:=⟨by have h1:=J2.len;have h2:σ1.length=N.length:=I1.len;rw[rSb.len,h2];exact h1.symm,λj e' hj=>rS2.get j e' (gk _ _ _ _ _ eg j e' (ZLK hj) hj)⟩
  refine thn (hts C s a.H fp _ s2 σ2 b2.H _ J2 ⟨b2,S2,G2,y2.k.trans (x1.k.trans hk),rfl,sb2,rS2,(ZFh hq2).imp λ_ _ z=>z⟩) ?_;rintro k s3 ⟨H3,J3,b3,G3,rfl,y3,sb3,_,hq3⟩;cases k with
  |false=>
   obtain⟨p1,p2,p3,p4⟩:=pinOk J3;have Jn:Inv B [] σ2 b3.H s3:=J3.Ma λp hp=>by cases hp
   obtain⟨vs,hv,rv⟩:=hacc'
   exact next s3 b3 G3 σ2 its acc Jn (x1.trans (y2.trans y3)) sb3 (rS2'.mono y3) p3 p4 p1 p2 ⟨vs,hv,(rv.mono y2).mono y3⟩ hq3
  | true=>
   have hq3':out E0 b3 (((te S2 G3).bind λd G3=>(rest G3).bind λds G4=>.ok (d::ds) G4).bind λds G=>Av (acc++ds) G) Q:=hq3;rw[R.bind_assoc]at hq3';refine thn (he C s a.H fp _ s3 σ2 b3.H _ J3 ⟨b3,S2,G3,y3.k.trans (y2.k.trans (x1.k.trans hk)),rfl,sb3,rS2.mono y3,(Gp hq3').imp λ_ _ z=>z⟩) ?_;rintro w s4 ⟨vw,H4,J4,rw',b4,d4,G4,rfl,y4,sb4,q4,_,hq4⟩;obtain⟨p1,p2,p3,p4⟩:=pinOk J4;rw[R.bind_assoc]at hq4
   have hq4':out E0 b4 ((rest G4).bind λds G=>Av ((acc++[d4])++ds) G) Q:=by
    have e:(λ(ds:List D)(G:DH)=>(R.ok (d4::ds) G).bind λds G=>Av (acc++ds) G)=λds G=>Av ((acc++[d4])++ds) G:=by funext ds G;simp
    rw[<-e];exact hq4
   obtain⟨vs,hv,rv⟩:=hacc';have hsz:its.toArray.size<=sizeLine:=by
    have:acc.length<=1000000:=by
     cases hr:rest G4 with
     |ok ds G5=>
      rw[hr]at hq4';have hq5:out E0 b4 (Av ((acc++[d4])++ds) G5) Q:=hq4';unfold Av at hq5;split at hq5
      ·rename_i hl;simp at hl;lia
      ·exact hq5.elim
     |err e' G5=>rw[hr]at hq4';exact hq4'.elim
     |bad=>rw[hr]at hq4';exact hq4'.elim
    rw[zY,<-hv.length,<-rv.length];exact zB this size6
   refine wpAny_list_append_plain p1 (λh' hpl hsb=>?_) hsz;have Jn:Inv B [] σ2 b4.H s4:=J4.Ma λp hp=>by cases hp
   have J5:Inv B [] σ2 b4.H {s4 with heap:=h'}:=by refine Jn.turned (it:=Dd) (t':=s4.toks) (λq o hq' e=>(hsb.2 q hq').trans e) p2 hDC (.inr (by show s.heap.objs.size<=Dd;rw[hDe];exact zK _)) (λy c' ec=>?_) (λp hp=>absurd hp (by simp[B,blk]));obtain⟨v',o,e,_⟩:=I.cell y c' (cs.cl I.ok ec);intro z;rw[z,<-hDe]at e;exact absurd (zj e) (zT _)
   refine next _ b4 G4 σ2 (its++[w]) (acc++[d4]) J5 (x1.trans (y2.trans (y3.trans y4))) sb4 ((rS2'.mono y3).mono y4) (T.keep _ _ _ p3 λq hq' o e=>(hsb.2 q (λz=>hDf (z▸hq'))).trans e) p4 (by simpa using hpl) p2 ⟨vs++[vw],hv.append (.cons rw' .nil),(((rv.mono y2).mono y3).mono y4).append (Reps.cons q4 Reps.nil)⟩ hq4'
 have loop:∀s₃:xq,s₃={s with heap:=h₁,toks:=s.toks+([]:List (Str×xj)).length}->
   codeAny (vZ X.prog X.w) X.A (.compLoop (.ListComp elt [⟨tg,iter,ifs,0⟩] scope pos) 0 (.ref i0) (.ref Dd) B.env) (RR (.ref Dd) C) s₃:=by
  rintro s₃ rfl;have t1:tn 0 h₁:=T.keep _ _ _ t0 λq _ o e=>old q o e
  have fp0:∀q∈fp,a.H q=vF:=λq hq=>(hf q hq).1
  have walk:∀b:Wd,Ext a b->∀G,Sim b G->∀i,(∀d,f i G=vE (vE d)->J.go i b.H/\∀x H',J.yld i b.H x H'->∃c:Wd,c.H=H'/\Ext b c/\Sim c G/\Rep c d x)/\(f i G=vE vF->J.stop i b.H):=rJ;refine ZNl (λm s'=>∃(i:Nat)(b:Wd)(G':DH)(σ':St)(its:List xj)(acc:List D),Inv B [] σ' b.H s'/\Ext a b/\Sim b G'/\RepS b (Bm nt caps S) σ'/\tn i s'.heap/\(∀q∈fp,b.H q=vF)/\s'.heap.PlainList Dd its.toArray/\b.H Dd=vF/\(∃vs,Vals vs its/\Reps b acc vs)/\
   out E0 b ((Ds f g c te (Bm nt caps S) m i G').bind λds G=>Av (acc++ds) G) Q) ?_ n0 ⟨0,a,G,σ0,[],[],start _,Ext.refl a,sm,rS0,t1,fp0,hacc,aD,⟨[],.nil,rfl⟩,by simpa using h⟩
  rintro m s' ⟨i,b,G',σ',its,acc,IB,x,sb,rSb,ti,hfp,pl,hD,hac,hq⟩;obtain⟨nD,eD⟩:=pl;have I0:=pinD IB eD hD;have f0:=fpB (ps:=[(Dd,{cls:=.type "list",data:=.seq its.toArray nD})]) hfp (λp hp=>by
   have ep:p=(Dd,{cls:=.type "list",data:=.seq its.toArray nD}):=by simpa using hp
   subst ep;exact hDf)
  have stop:J.stop i b.H->out E0 b (Av acc G') Q->vY (vZ X.prog X.w) X.A (pyNext (.ref i0)) (λr s₁=>match r with
    |none=>RR (.ref Dd) C (.ok .next) s₁
    | some v=>vY (vZ X.prog X.w) X.A (xU tg (.ref i0) v) (λ_ s₁=>vY (vZ X.prog X.w) X.A (assign tg B.env v) (λ_ s₂=>
     vY (vZ X.prog X.w) X.A (forIn ifs vG λc r=>if r=vG then do let ok<-isTrue c B.env (eval c B.env);pure (ForInStep.yield ok)else pure (ForInStep.yield r)) (λok s₃=>
      if ok=vG then vY (vZ X.prog X.w) X.A (eval elt B.env) (λx s₄=>
       vY (vZ X.prog X.w) X.A (call (.builtin "list.append") [.ref Dd,x]) (λ_ s₅=>∃m',m'<m/\∃(i:Nat)(b:Wd)(G':DH)(σ':St)(its:List xj)(acc:List D),Inv B [] σ' b.H s₅/\Ext a b/\Sim b G'/\RepS b (Bm nt caps S) σ'/\tn i s₅.heap/\(∀q∈fp,b.H q=vF)/\s₅.heap.PlainList Dd its.toArray/\b.H Dd=vF/\(∃vs,Vals vs its/\Reps b acc vs)/\
        out E0 b ((Ds f g c te (Bm nt caps S) m' i G').bind λds G=>Av (acc++ds) G) Q) (λ_ _=>False) s₄) (λ_ _=>False) s₃
      else∃m',m'<m/\∃(i:Nat)(b:Wd)(G':DH)(σ':St)(its:List xj)(acc:List D),Inv B [] σ' b.H s₃/\Ext a b/\Sim b G'/\RepS b (Bm nt caps S) σ'/\tn i s₃.heap/\(∀q∈fp,b.H q=vF)/\s₃.heap.PlainList Dd its.toArray/\b.H Dd=vF/\(∃vs,Vals vs its/\Reps b acc vs)/\
        out E0 b ((Ds f g c te (Bm nt caps S) m' i G').bind λds G=>Av (acc++ds) G) Q) (λ_ _=>False) s₂) (λ_ _=>False) s₁) (λ_ _=>False) s₁) (λ_ _=>False) s':=by
   intro st hq';refine thn (T.done B rfl rfl rfl hc i _ s' σ' b.H _ I0 f0 ti st) ?_;rintro r s1 ⟨rfl,I2⟩;have pD:=(I2.pin (Dd,{cls:=.type "list",data:=.seq its.toArray nD}) (zN _ (by simp))).1;exact fin s1 b σ' its acc G' (I2.Ma λp hp=>by cases hp) x sb ⟨nD,pD⟩ hD hac hq'
  cases m with
  |zero=>
   unfold Ds at hq;split at hq
   ·rename_i hf;exact stop ((walk b x G' sb i).2 hf) (by have hq':out E0 b (Av (acc++[]) G') Q:=hq;rw[jX]at hq';exact hq')
   ·exact hq.elim
  | succ m=>
   unfold Ds at hq;split at hq
   ·rename_i d1 hf;obtain⟨go,yl⟩:=(walk b x G' sb i).1 d1 hf;refine thn (T.item B rfl rfl rfl hc i _ s' σ' b.H _ I0 f0 ti go) ?_;rintro r s1 ⟨u,rfl,hgo⟩;refine thn hgo ?_;rintro _ s2 ⟨v,H',I2,ru,y,t2,hfp2⟩;obtain⟨cc,rfl,xx,ss,rd⟩:=yl v H' y;have pD:=I2.pin (Dd,{cls:=.type "list",data:=.seq its.toArray nD}) (zN _ (by simp));obtain⟨vs1,hv1,rv1⟩:=hac;refine turnX _ _ (λG3=>Ds f g c te (Bm nt caps S) m (i+1) G3) s2 cc G' σ' its acc u _ d1 (i+1) (I2.Ma λp hp=>by cases hp) (x.trans xx) ss (rSb.mono xx) t2 hfp2 ⟨nD,pD.1⟩ pD.2.1 ⟨vs1,hv1,rv1.mono xx⟩ ru rd (out.mono xx hq) ?_
    intro s3 b3 G3 σ3 its3 acc3 a1 a2 a3 a4 a5 a6 a7 a8 a9 a10;exact⟨m,zU _,i+1,b3,G3,σ3,its3,acc3,a1,a2,a3,a4,a5,a6,a7,a8,a9,a10⟩
   ·rename_i hf;exact stop ((walk b x G' sb i).2 hf) (by have hq':out E0 b (Av (acc++[]) G') Q:=hq;rw[jX]at hq';exact hq')
   ·exact hq.elim
 exact codeAny_compStart_list (loop _ rfl) (T.self _ 0 _ _ _ (T.keep _ _ _ t0 λq _ o e=>old q o e) (loop _ rfl))
theorem ZDX{c:DB}:∀(n j:Nat)(G:DH),j+n=xs.length->Dt g c te S (xs.drop j) G=Ds (λj _=>vE xs[j]?) g c te S n j G
 |0,j,G,h=>by
  rw[zP (by lia)]
  show _=(match vE xs[j]? with |some vF=>R.ok [] G|_=>.bad)
  rw[zA (by lia)]
  rfl
 |n+1,j,G,h=>by
  have hj:j<xs.length:=by lia
  rw[zM hj]
  show(g xs[j] S G).bind _=(match vE xs[j]? with |some (vE x)=>_|some vF=>R.ok [] G|none=>.bad)
  rw[zJ hj];dsimp only
  congr 1
  funext S1 G1
  congr 1
  funext k G2;rw[ZDX n (j+1) G2 (by lia)]
  congr 1
  congr 1
  funext d G3;rw[ZDX n (j+1) G3 (by lia)]
theorem ZIz{c:DB}:∀(n j:Nat)(G:DH),Hv i g c te S n j G=Ds (mtF i) g c te S n j G
 | 0,j,G=>by
  unfold Hv Ds mtF;cases G[i]? with
  |none=>rfl
  | some o=>
   cases o with
   |lst xs=>
    dsimp only;by_cases hj:j<xs.length
    ·rw[if_neg (by lia),zJ hj]
    ·rw[if_pos (by lia),zA (by lia)]
   |_=>rfl
 | n+1,j,G=>by
  have ih:(Hv i g c te S n (j+1))=Ds (mtF i) g c te S n (j+1):=funext λG=>ZIz n (j+1) G
  unfold Hv Ds;rw[ih];unfold mtF;cases G[i]? with
  |none=>rfl
  | some o=>
   cases o with
   |lst xs=>
    dsimp only
    cases xs[j]?<;>rfl
   |_=>rfl
theorem ZEx(hc:X.calm=vG)(cs:CompSc X N scope nt caps)
  (hg:∀C s₀ H₀ ex,QG (blk X N scope C s₀ H₀ ex) E0 tg g) (gk:GK nt g) (hts:∀C s₀ H₀ ex,QTs (blk X N scope C s₀ H₀ ex) E0 ifs c) (he:∀C s₀ H₀ ex,QE (blk X N scope C s₀ H₀ ex) E0 elt te)
  {vD:List (xZ×Obj)} {σ:St} {s:xq} {a:Wd} {S:DSt} {G:DH} {J:It} {d:ItD} {i0:xZ} {fp:List xZ} {tn:Nat->Heap->Prop} (I:Inv X vD σ a.H s) (hk:a.K=X.K) (sm:Sim a G) (rS:RepS a S σ)
  (T:Turn X.prog X.w X.K tg J fp i0 tn) (t0:tn 0 s.heap) (hf:∀b∈fp,FpOk X vD a.H b) (rJ:RepI a d J) {Q:VK}
  (h:out E0 a ((match d with
   |.pure xs=>Dt g c te (Bm nt caps S) xs G
   |.mt i=>match G[i]? with
    |some (.lst xs)=>Hv i g c te (Bm nt caps S) xs.length 0 G
    |_=>.bad
   |.fn n f=>Ds f g c te (Bm nt caps S) n 0 G).bind Av) Q)
  {RR:xj->xZ->Result->xq->Prop} {E':xj->xq->Prop}
  (hRR:∀(D C:xZ)(s':xq)(b:Wd)(vs:List V),Inv X vD σ (upd b.H D (.lst vs)) s'->b.H D=vF->s.heap.objs.size<=C->D≠C->(∃m,s'.heap.Ns C m)->b.H C=vF->Q (.ref D) (upd b.H D (.lst vs))->RR (.ref D) C (.ok .next) s'):
  vY (vZ X.prog X.w) X.A (newList []) (λacc s₃=>vY (vZ X.prog X.w) X.A (newFunctionEnv scope X.env.globals (Gm X.env scope.names []) [] X.env.qual vF .none (vE X.env)) (λcenv s₄=>
   codeAny (vZ X.prog X.w) X.A (.compStart (.ListComp elt [⟨tg,iter,ifs,0⟩] scope pos) 0 (.ref i0) acc {cenv with scope:=relabel scope X.env}) (RR acc cenv.locals) s₄) E' s₃) E' s:=by
 cases d with
 |pure xs=>
  have h':out E0 a ((Dt g c te (Bm nt caps S) (xs.drop 0) G).bind Av) Q:=h;rw[ZDX xs.length 0 G (by lia)]at h';exact ZEC hc cs hg gk hts he I hk sm rS T t0 hf (ZJL rJ) h' hRR
 |mt k=>
  dsimp only at h;split at h
  ·rename_i xs hx;rw[ZIz]at h;exact ZEC hc cs hg gk hts he I hk sm rS T t0 hf (ZJo rJ) h hRR
  ·exact h.elim
 |fn n0 f=>exact ZEC hc cs hg gk hts he I hk sm rS T t0 hf rJ h hRR
end
section
variable{X:Cx}{N:List Str}{scope:xY}{nt:Nat}{caps:List Nat}{tg elt iter:xX}{ifs:List xX}{pos:Pos}{it:DI}{g:DG}{c:DB}{te:DE}
theorem letGo{vD:List (xZ×Obj)}{s2 s':xq}{h':Heap}{C:xZ}{t':Nat}{σ2:St}{H2:Hp}(I2:Inv X vD σ2 H2 s2)(Ia:Inv X vD σ H s')(hC:s2.heap.objs.size<=C)(hn:H C=vF)(hsb:qj C s'.heap h'):Inv X vD σ H {s' with heap:=h',toks:=t'}:=by
 have young:∀{b:xZ}{o:Obj},s2.heap.get? b=vE o->b≠C:=λe z=>by rw[z]at e;exact absurd (zq (zj e) hC) (zT _)
 refine Ia.turned (it:=C) (λb o hb e=>(hsb.2 b hb).trans e) hn (jJ (zq I2.lt hC)) (.inr (zB I2.sz hC)) (λx c' e=>?_) λp hp=>?_
 ·obtain⟨v,o,e',_⟩:=I2.cell x c' e;exact young e'
 ·exact young (I2.pin p hp).1
theorem Hz(hc:X.calm=vG)(cs:CompSc X N scope nt caps)(hi:QI X E0 tg iter it)
  (hg:∀C s₀ H₀ ex,QG (blk X N scope C s₀ H₀ ex) E0 tg g) (gk:GK nt g) (hts:∀C s₀ H₀ ex,QTs (blk X N scope C s₀ H₀ ex) E0 ifs c) (he:∀C s₀ H₀ ex,QE (blk X N scope C s₀ H₀ ex) E0 elt te)
  (hs:∀x,foldedSetIterable iter X.env x=pure x:=by intro _;rfl):QE X E0 (.ListComp elt [⟨tg,iter,ifs,0⟩] scope pos) (Ej it nt caps g c te):=by
 intro vD s σ H Q I h;obtain⟨a,S,G,hk,rfl,sm,r,h⟩:=h;rw[eval_ListComp];refine wpAny_comprehension_free (use:=vF) rfl hs (ZFm (cs.cells I.ok)) cs.kind cs.names (thn (hi vD s σ a.H _ I ⟨a,S,G,hk,rfl,sm,r,(ZFj h).imp λ_ _ z=>z⟩) λxv s1 h1=>thn h1 λitv s2 h2=>?_);obtain⟨i0,fp,tn,J,H2,rfl,I2,T,t0,f2,b,d,G1,rfl,x,sb,rJ,_,h1⟩:=h2;refine ZEx hc cs hg gk hts he I2 (x.k.trans hk) sb (r.mono x) T t0 f2 rJ h1 (RR:=λacc C=>compPost (vZ X.prog X.w) X.A X.xe vF (EP X vD σ Q) acc C) ?_
 intro D C s' b vs Ia hD hCle hDC ⟨m,hn⟩ hCn hq;refine⟨m,hn,λh' hsb=>⟨.ref D,_,letGo I2 Ia hCle ?_ hsb,rfl,hq⟩⟩;rw[Bd (Ne.symm hDC)];exact hCn
theorem Mj(i:Nat){y:Str}{py spos:Pos}(hc:X.calm=vG)(hN:X.N.Nodup)(cs:CompSc X N scope nt caps)(hi:QI X E0 tg iter it)
  (hg:∀C s₀ H₀ ex,QG (blk X N scope C s₀ H₀ ex) E0 tg g) (gk:GK nt g) (hts:∀C s₀ H₀ ex,QTs (blk X N scope C s₀ H₀ ex) E0 ifs c) (he:∀C s₀ H₀ ex,QE (blk X N scope C s₀ H₀ ex) E0 elt te)
  (hy:X.N[i]?=vE y:=by rfl) (hx:Loc X.env.scope y:=by first|exact Or.inl rfl|exact Or.inr rfl) (hf:X.fn y=vG∨X.env.scope.names.lookup y=vE .local:=by first|exact .inl rfl|exact .inr rfl|assumption)
  (hsw:swapsWith (.ListComp elt [⟨tg,iter,ifs,0⟩] scope pos) (vE (.Name y py)) spos.line X.env=pure vG:=by rfl)
  (hs:∀x,foldedSetIterable iter X.env x=pure x:=by intro _;rfl):QS X E0 (.Assign [.Name y py] (.ListComp elt [⟨tg,iter,ifs,0⟩] scope pos) spos) (sAs (Ej it nt caps g c te) (gV i)):=by
 intro vD s σ H W I h;obtain⟨a,S,G,hk,rfl,sm,r,h⟩:=h;have h0:=J9 h;rw[exec_Assign_Name_used _ _ _ _ hsw];refine vz (wpAny_standAt (vz ?_))
 show vY _ X.A (do let _<-comprehension (.ListComp elt [⟨tg,iter,ifs,0⟩] scope pos) scope X.env _ (newList []) vH (eval iter X.env) (vE (assign (.Name y py) X.env))) _ _ s
 refine vz (v4 (wpAny_comprehension_free (use:=vE (assign (.Name y py) X.env)) (Q:=λ_ s'=>SP X vD W .next s') rfl hs (ZFm (cs.cells I.ok)) cs.kind cs.names
  (thn (hi vD s σ a.H _ I ⟨a,S,G,hk,rfl,sm,r,(ZFj h0).imp λ_ _ z=>z⟩) λxv s1 h1=>thn h1 λitv s2 h2=>?_)) (λ_ s' hq=>v7 (v7 hq)) λ_ _ e=>e)
 obtain⟨i0,fp,tn,J,H2,rfl,I2,T,t0,f2,b,d,G1,rfl,x,sb,rJ,_,h1⟩:=h2
 refine ZEx hc cs hg gk hts he I2 (x.k.trans hk) sb (r.mono x) T t0 f2 rJ h1 (RR:=λacc C=>compPost (vZ X.prog X.w) X.A X.xe (vE (assign (.Name y py) X.env)) (λ_ s'=>SP X vD W .next s') acc C) ?_
 intro D C s' b' vs Ia hD hCle hDC ⟨m,hn⟩ hCn hq;show vY _ X.A (assign (.Name y py) X.env (.ref D)) _ _ _;refine wpAny_assign_Name (ZHb Ia hN hy hx (v:=.ref D) rfl (λs'' I'' hch=>?_) hf);obtain⟨a',hsb',ha'⟩:=hch;have hCa:C≠a':=by
  rintro rfl;rcases ha' with rfl|ha'
  ·exact absurd (zq I2.lt hCle) (zT _)
  ·obtain⟨v,o,e',_⟩:=I2.cell _ _ ha';exact absurd (zq (zj e') hCle) (zT _)
 refine⟨m,hn.sameBut hsb' hCa,λh' hsb=>⟨_,_,letGo I2 I'' hCle ?_ hsb,?_⟩⟩
 ·rw[Bd (Ne.symm hDC)];exact hCn
 ·obtain⟨b3,d3,G3,e3,x3,s3,q3,_,h3⟩:=hq;rw[<-e3];exact h3 b3 _ (Ext.refl b3) s3 ((r.mono x3).set i q3)
end
noncomputable def Rg:D->DH->R D
 |.int i,G=>.ok (.int (-i)) G
 |_,_=>.bad
noncomputable def Kz:D->Bool
 |.non=>vG
 |_=>vH
def Oz:D->D->DH->R D
 |d,.non,G=>.ok (.bl (Kz d)) G
 |_,_,_=>.bad
def Mv:D->D->DH->R D
 |d,.non,G=>.ok (.bl (!Kz d)) G
 |_,_,_=>.bad
noncomputable def ZAU:D->Option V
 |.non=>vE .non
 |.bl b=>vE (.bl b)
 |.int i=>vE (.int i)
 |.str x=>vE (.str x)
 |_=>vF
def T8:List D->Option (List V)
 |[]=>vE []
 |d::r=>match ZAU d,T8 r with
  |some v,vE vs=>vE (v::vs)
  |_,_=>vF
def inD(d e:D)(G:DH):Option Bool:=match e with
 |.str j=>match d with
  |.str i=>vE (!(Builtin.Str.occurrences j i 0 j.length 1).isEmpty)
  |_=>vF
 |e=>match Ci e G,ZAU d with
  |some xs,vE v=>(T8 xs).map λvs=>inV v vs
  |_,_=>vF
def Uv(d e:D)(G:DH):R D:=match inD d e G with
 |some k=>.ok (.bl (!k)) G
 |none=>.bad
section
variable{X:Cx}{E:XK}{a b:xX}{ta tb:DE}{pos:Pos}
theorem ZA1:UnR X (unaryOp .USub) (lR1 X.K E Rg):=λvD s σ H x v Q I rx h=>by
 obtain⟨a,G,d,hk,rfl,sm,rd,q⟩:=h;cases d with
 |int i=>exact ZSn vD s σ a.H x v Q I rx ⟨i,rd,q a _ (Ext.refl a) sm rfl⟩
 |_=>exact q.elim
theorem ZAl{op:UnaryOp}{f:D->DH->R D}(ho:UnR X (unaryOp op) (lR1 X.K E f))(ha:QE X E a ta):QE X E (.UnaryOp op a pos) (dUn f ta):=(ZMc ho ha).mono λσ H Q h=>by obtain⟨a,S,G,hk,rfl,s,r,h⟩:=h;refine⟨a,S,G,hk,rfl,s,r,(Gp h).imp ?_⟩;rintro v _ ⟨b,d,G1,rfl,x,s1,q,-,h1⟩;exact⟨b,G1,d,x.k.trans hk,rfl,s1,q,h1⟩
theorem Vj{n:String}(hg:Gl X x)(hm:X.mg x=vF)(hv:xE x=vE (.type n))(hn:x≠"__name__":=by decide)(hd:(x==("__debug__":Str))=vH:=by decide):QE X E (.Name x pos) (dC (.ty n)):=
 (ZQA (v:=.ty n) hg hm hv rfl hn hd).mono λσ H Q h=>Qe h λ_ _=>rfl
theorem ZGx{a:Wd}{x:V}(rd:Rep a d x):decide (x=V.non)=Kz d:=by
 cases d with
 |non=>rw[show x=V.non from rd];rfl
 |bl _=>rw[show x=V.bl _ from rd];rfl
 |int _=>rw[show x=V.int _ from rd];rfl
 |str _=>rw[show x=V.str _ from rd];rfl
 |ty _=>rw[show x=V.ty _ from rd];rfl
 |tup _=>obtain⟨p,vs,rfl,_⟩:=rd;rfl
 |fl _=>obtain⟨p,vs,rfl,_⟩:=rd;rfl
 |ref _=>rw[rd.2];rfl
theorem W6:OpR X (xI .Is) (lR2 X.K E Oz):=Hk ZMZ λa G d e x y Q hk s rd re q=>by
 cases e with
 |non=>exact⟨re,by rw[ZGx rd];cases d<;>exact q a _ (Ext.refl a) s rfl⟩
 |_=>cases d<;>exact q.elim
theorem Pu:OpR X (xI .IsNot) (lR2 X.K E Mv):=Hk ZLh λa G d e x y Q hk s rd re q=>by
 cases e with
 |non=>exact⟨re,by rw[ZGx rd];cases d<;>exact q a _ (Ext.refl a) s rfl⟩
 |_=>cases d<;>exact q.elim
theorem ZHy{a:Wd}{x:V}(r:Rep a d x)(h:ZAU d=vE v):x=v/\Ef v=vG:=by
 cases d<;>first
  |(cases h;exact⟨r,rfl⟩)
  |cases h
theorem ZI7{a:Wd}:∀{ds:List D}{xs vs:List V},Reps a ds xs->T8 ds=vE vs->xs=vs/\vs.all Ef=vG
 |[],xs,vs,r,h=>by cases h;exact⟨r,rfl⟩
 |d::ds,xs,vs,r,h=>by
  obtain⟨x,r',rfl,r1,r2⟩:=r;unfold T8 at h;split at h
  ·rename_i v ws h1 h2;cases h;obtain⟨e1,f1⟩:=ZHy r1 h1;obtain⟨e2,f2⟩:=ZI7 r2 h2;subst e1;subst e2;exact⟨rfl,by rw[qB,f1,f2];rfl⟩
  ·cases h
theorem ZSo{a:Wd}{e:D}{x:V}{k:Bool}(s:Sim a G)(rd:Rep a d x)(re:Rep a e y)(h:inD d e G=vE k):
  (∃i j,x=.str i/\y=.str j/\k= !(Builtin.Str.occurrences j i 0 j.length 1).isEmpty)∨(∃p xs,y=.ref p/\(SqL a.K a.H p xs∨SqT a.K a.H p xs)/\Ef x=vG/\xs.all Ef=vG/\k=inV x xs):=by
 have seq:(match Ci e G,ZAU d with |some xs,vE v=>(T8 xs).map λvs=>inV v vs|_,_=>vF)=vE k->(∃p xs,y=.ref p/\(SqL a.K a.H p xs∨SqT a.K a.H p xs)/\Ef x=vG/\xs.all Ef=vG/\k=inV x xs):=λh=>by
  split at h
  ·rename_i xs v h1 h2;obtain⟨p,ws,e1,q,r1⟩:=Mi s re h1;obtain⟨e2,f2⟩:=ZHy rd h2;subst e2;rw[zI]at h;obtain⟨us,h3,h4⟩:=h;obtain⟨e3,f3⟩:=ZI7 r1 h3;subst e3;exact⟨p,ws,e1,q,f2,f3,h4.symm⟩
  ·cases h
 cases e with
 |str j=>
  cases d with
  |str i=>exact .inl ⟨i,j,rd,re,(Option.some.inj h).symm⟩
  |_=>cases h
 |tup xs=>exact .inr (seq h)
 |fl xs=>exact .inr (seq h)
 |ref i=>exact .inr (seq h)
 |_=>exact .inr (seq h)
theorem ZQ6:OpR X (xI .NotIn) (lR2 X.K E Uv):=Hk (ZPq.or ZSE) λa G d e x y Q hk s rd re q=>by
 unfold Uv at q;split at q
 ·rename_i k h;have z:=q a _ (Ext.refl a) s rfl;rcases ZSo s rd re h with⟨i,j,e1,e2,rfl⟩|⟨p,xs,e1,hq,f1,f2,rfl⟩
  ·exact .inl ⟨i,j,e1,e2,z⟩
  ·exact .inr ⟨p,xs,e1,by rw[<-hk];exact hq,f1,f2,z⟩
 ·exact q.elim
end
theorem W5:xE "isinstance"=vE (.builtin "isinstance"):=by decide +kernel
theorem ZGD:xE "all"=vE (.builtin "all"):=by decide +kernel
theorem ZDS:xE "max"=vE (.builtin "max"):=by decide +kernel
theorem R3:xE "min"=vE (.builtin "min"):=by decide +kernel
theorem Ei:xE "len"=vE (.builtin "len"):=by decide +kernel
theorem ZPT:xE "int"=vE (.type "int"):=by decide +kernel
theorem ZP3:xE "bool"=vE (.type "bool"):=by decide +kernel
theorem ZLc:xE "str"=vE (.type "str"):=by decide +kernel
theorem H9:xE "tuple"=vE (.type "tuple"):=by decide +kernel
theorem Xe:xE "list"=vE (.type "list"):=by decide +kernel
noncomputable def Ob:xW->Bool | .local=>vG|_=>vH
noncomputable def Oe:xW->Bool | .cell=>vG|_=>vH
noncomputable def Mh:xW->Bool | .free=>vG|_=>vH
noncomputable def isK(p:xW->Bool):Option xW->Bool|some k=>p k|none=>vH
theorem ZNP{k:xW}(h:Ob k=vG):k=.local:=by cases k<;>first|rfl|cases h
theorem ZNd{k:xW}(h:Oe k=vG):k=.cell:=by cases k<;>first|rfl|cases h
theorem ZFH{k:xW}(h:Mh k=vG):k=.free:=by cases k<;>first|rfl|cases h
theorem Wi{p:xW->Bool}{k:xW}(hp:∀k',p k'=vG->k'=k){o:Option xW}(h:isK p o=vG):o=vE k:=by
 cases o with
 |none=>cases h
 |some k'=>rw[hp _ h]
def ZEq(dn:List (Str×xW))(N0 N:List Str)(names:List (Str×xW))(nt:Nat)(caps:List Nat):Bool:=
 names.all (λy=>(!Ob y.2||isK Ob (names.lookup y.1)) && !Oe y.2&&(!Mh y.2||isK Oe (dn.lookup y.1)||isK Mh (dn.lookup y.1)))&&decide N.Nodup&&decide (N.length=nt+caps.length) &&
 (zZ caps.length).all λk=>match caps[k]? with
  |some j=>match N0[j]? with
   |some x=>decide (N[nt+k]?=vE x)&&isK Mh (names.lookup x)
   |none=>vH
  |none=>vG
theorem Fg{X:Cx}{N0 N:List Str}{nt:Nat}{caps:List Nat}{dn:List (Str×xW)}(hk:scope.kind=.function:=by rfl)(hdn:∀x,X.env.kindOf x=dn.lookup x:=by intro _;rfl)(hN:X.N=N0:=by rfl)
  (h:ZEq dn N0 N scope.names nt caps=vG:=by decide +kernel):CompSc X N scope nt caps:=by
 unfold ZEq at h;rw[zC,zC,zC]at h;obtain⟨⟨⟨h1,h2⟩,h3⟩,h4⟩:=h;rw[qK]at h1 h4;have key:=λ(y:Str×xW)(hy:y∈scope.names)=>(by have:=h1 y hy;rw[zC,zC]at this;exact this:((!Ob y.2||isK Ob (scope.names.lookup y.1))=vG/\(!Oe y.2)=vG)/\(!Mh y.2||isK Oe (dn.lookup y.1)||isK Mh (dn.lookup y.1))=vG)
 refine⟨hk,λy hy hl=>?_,λy hy hl=>?_,λy hy hl=>?_,of_decide_eq_true h2,of_decide_eq_true h3,λk j hj=>?_⟩
 ·have:=(key y hy).1.1;rw[hl]at this;exact Wi (p:=Ob) (λ_ h=>ZNP h) (by have t:(vH||isK Ob (scope.names.lookup y.1))=vG:=this;simpa using t)
 ·have:=(key y hy).1.2;rw[hl]at this;exact absurd this (by decide)
 ·have:=(key y hy).2;rw[hl,j9]at this;rw[hdn];rcases this with h|h
  ·exact .inl (Wi (p:=Oe) (λ_ h=>ZNd h) (by have t:(vH||isK Oe (dn.lookup y.1))=vG:=h;simpa using t))
  ·exact .inr (Wi (p:=Mh) (λ_ h=>ZFH h) h)
 ·have hk':k<caps.length:=(zF.mp hj).1;have:=h4 k (qW.mpr hk');rw[hj]at this;dsimp only at this;cases e:N0[j]? with
  |none=>rw[e]at this;cases this
  |some x=>
   rw[e]at this;dsimp only at this;rw[zC]at this;exact⟨x,by rw[hN];exact e,of_decide_eq_true this.1,Wi (p:=Mh) (λ_ h=>ZFH h) this.2⟩
section
section
variable{X:Cx}{vD:List (xZ×Obj)}{σ:St}{H:Hp}{s:xq}
theorem ZMI{xs:List V}(I:Inv X vD σ H s)(h:H p=vE (.lst xs)):∃o,Inv X vD σ (upd H p (.frz o (.lst xs))) s:=by
 obtain⟨hl,its,n,r,e⟩:=I.hok p _ h;have nt:∀b(u:HO),H b=vE u->u≠ .lst xs->b≠p:=λb u q d z=>by subst z;rw[h]at q;exact d (Option.some.inj q).symm
 refine⟨_,I.un (t':=s.toks) (H':=upd H p (.frz {cls:=.type "list",data:=.seq its.toArray n} (.lst xs))) ⟨λb o q _ _ _=>q,λb o q _ _ _=>⟨o.slots,q⟩,λb o q z _=>?_,λb o q _=>⟨o,q⟩,λb ys q=>?_,λb o u q=>?_,λb ps q=>⟨#[],?_⟩⟩ ?_⟩
 ·rw[Bd (λz'=>by subst z';rw[h]at z;cases z)];exact z
 ·rw[Bd (nt b _ q (by intro z;cases z))];exact q
 ·rw[Bd (nt b _ q (by intro z;cases z))];exact q
 ·rw[Bd (nt b _ q (by intro z;cases z)),Array.append_empty];exact q
 ·intro b u q;by_cases hb:b=p
  ·subst hb;rw[Gj]at q;cases q;exact⟨e,hl,its,n,r,e⟩
  ·rw[Bd hb]at q;exact(I.hok b u q).stay (λc v _ z=>z) (λc z=>by rw[Bd (nt c _ z (by intro z;cases z))];exact z) λc ys z=>by rw[Bd (nt c _ z (by intro z;cases z))];exact z
def Fz(P:xZ->Prop)(H H':Hp):Prop:=∀p,(H' p=H p/\(∀vs,H p=vE (.lst vs)->¬P p))∨∃o vs,P p/\H p=vE (.lst vs)/\H' p=vE (.frz o (.lst vs))
theorem ZIY(I:Inv X vD σ H s)(m:Nat->xZ)(n:Nat):∀k:Nat,∃H',Inv X vD σ H' s/\Fz (λp=>∃i,n<=i/\i<n+k/\p=m i) H H'
 |0=>⟨H,I,λp=>.inl ⟨rfl,λ_ _ ⟨i,h1,h2,_⟩=>by lia⟩⟩
 | k + 1=>by
  obtain⟨H',I',F⟩:=ZIY I m n k;have keep:(∀vs,H' (m (n+k))≠vE (.lst vs))->Fz (λp=>∃i,n<=i/\i<n+(k+1)/\p=m i) H H':=λno p=>by
   rcases F p with⟨e,z⟩|⟨o,vs,⟨i,h1,h2,h3⟩,e1,e2⟩
   ·refine .inl ⟨e,λvs e1 ⟨i,h1,h2,h3⟩=>?_⟩;by_cases hi:i<n+k
    ·exact z vs e1 ⟨i,h1,hi,h3⟩
    ·have:i=n+k:=by lia
     subst this;subst h3;exact no vs (e.trans e1)
   ·exact .inr ⟨o,vs,⟨i,h1,by lia,h3⟩,e1,e2⟩
  cases hH:H' (m (n+k))with
  |none=>exact⟨H',I',keep λvs z=>by rw[hH]at z;cases z⟩
  | some u=>
   cases u with
   | lst vs=>
    obtain⟨o,I2⟩:=ZMI I' hH;refine⟨_,I2,λp=>?_⟩;by_cases hp:p=m (n+k)
    ·subst hp;rcases F (m (n+k))with⟨e,z⟩|⟨o',vs',_,e1,e2⟩
     ·exact .inr ⟨o,vs,⟨n+k,by lia,by lia,rfl⟩,e.symm.trans hH,Gj⟩
     ·rw[hH]at e2;cases e2
    ·rcases F p with⟨e,z⟩|⟨o',vs',⟨i,h1,h2,h3⟩,e1,e2⟩
     ·refine .inl ⟨by rw[Bd hp];exact e,λvs' e1 ⟨i,h1,h2,h3⟩=>?_⟩;by_cases hi:i<n+k
      ·exact z vs' e1 ⟨i,h1,hi,h3⟩
      ·have:i=n+k:=by lia
       subst this;exact hp h3
     ·exact .inr ⟨o',vs',⟨i,h1,by lia,h3⟩,e1,by rw[Bd hp];exact e2⟩
   |_=>exact⟨H',I',keep λvs z=>by rw[hH]at z;cases z⟩
end
noncomputable def Jx(f:D->Option D):List D->Option (List D)
 |[]=>vE []
 |d::r=>match f d,Jx f r with
  |some d',vE r'=>vE (d'::r')
  |_,_=>vF
def Fe(G:DH)(n:Nat):Nat->D->Option D
 |0,_=>vF
 | k+1,d=>if bel n d=vG then vE d else match d with
  |.ref i=>match G[i]? with
   |some (.lst xs)=>(Jx (Fe G n k) xs).map .fl
   |_=>vF
  |.tup xs=>(Jx (Fe G n k) xs).map .tup
  |.fl xs=>(Jx (Fe G n k) xs).map .fl
  |_=>vF
open Classical in
def freeze(G:DH)(r:R D):R D:=match r with
 | .ok d G'=>if G'.take G.length=G then(match Fe G' G.length 9 d with
   |some d'=>.ok d' G
   |none=>.ok d G')else .ok d G'
 |r=>r
def Bt(t:DE):DE:=λS G=>freeze G (t S G)
structure CutF (b c:Wd) (n:Nat):Prop where
 k:c.K=b.K
 n:c.n=n
 m:c.m=b.m
 tup:∀p xs,b.H p=vE (.tup xs)->c.H p=vE (.tup xs)
 frz:∀p o u,b.H p=vE (.frz o u)->c.H p=vE (.frz o u)
theorem CutF.sqT{n:Nat}(x:CutF b c n){xs:List V}(h:SqT b.K b.H p xs):SqT c.K c.H p xs:=by
 rcases h with(h|⟨o,h⟩)|h
 ·exact .inl (.inl (x.tup _ _ h))
 ·exact .inl (.inr ⟨o,x.frz _ _ _ h⟩)
 ·exact .inr (by rw[x.k];exact h)
theorem CutF.fzL{n:Nat}(x:CutF b c n){xs:List V}(h:FzL b.K b.H p xs):FzL c.K c.H p xs:=by
 rcases h with⟨o,h⟩|h
 ·exact .inl ⟨o,x.frz _ _ _ h⟩
 ·exact .inr (by rw[x.k];exact h)
mutual
theorem Rep.K5{n:Nat}(x:CutF b c n):∀{d:D}{v:V},Rep b d v->bel n d=vG->Rep c d v
 |.non,_,h,_=>h
 |.bl _,_,h,_=>h
 |.int _,_,h,_=>h
 |.str _,_,h,_=>h
 |.ty _,_,h,_=>h
 |.tup ds,v,h,q=>by obtain⟨p,vs,e,t,r⟩:=h;simp only[_D.bel]at q;exact⟨p,vs,e,x.sqT t,Reps.K5 x r q⟩
 |.fl ds,v,h,q=>by obtain⟨p,vs,e,t,r⟩:=h;simp only[_D.bel]at q;exact⟨p,vs,e,x.fzL t,Reps.K5 x r q⟩
 |.ref i,v,h,q=>by obtain⟨l,e⟩:=h;simp only[_D.bel]at q;have q':=of_decide_eq_true q;exact⟨by rw[x.n];exact q',by rw[x.m];exact e⟩
theorem Reps.K5{n:Nat}(x:CutF b c n):∀{ds:List D}{vs:List V},Reps b ds vs->bels n ds=vG->Reps c ds vs
 |[],_,h,_=>h
 |d::ds,vs,h,q=>by obtain⟨v,r,e,h1,h2⟩:=h;simp only[_D.bels,zC]at q;exact⟨v,r,e,Rep.K5 x h1 q.1,Reps.K5 x h2 q.2⟩
end
theorem Zd{f:D->Option D}(hf:∀d d' v,f d=vE d'->Rep b d v->Rep c d' v):∀{ds ds':List D}{vs:List V},Jx f ds=vE ds'->Reps b ds vs->Reps c ds' vs
 |[],ds',vs,e,h=>by cases e;exact h
 |d::ds,ds',vs,e,h=>by
  obtain⟨v,r,rfl,h1,h2⟩:=h;unfold Jx at e;split at e
  ·rename_i d' r' e1 e2;cases e;exact⟨v,r,rfl,hf _ _ _ e1 h1,Zd hf e2 h2⟩
  ·cases e
theorem ZHc{n:Nat}(s:Sim b G')(x:CutF b c n)(hz:∀i,n<=i->i<b.n->∀vs,b.H (b.m i)=vE (.lst vs)->∃o,c.H (b.m i)=vE (.frz o (.lst vs))):∀(k:Nat)(d d':D)(v:V),Fe G' n k d=vE d'->Rep b d v->Rep c d' v
 |0,d,d',v,e,h=>by cases e
 | k + 1,d,d',v,e,h=>by
  have ih:=ZHc s x hz k;unfold Fe at e;split at e
  ·rename_i hb;cases e;exact h.K5 x hb
  ·rename_i hb;cases d with
   | ref i=>
    dsimp only at e;split at e
    ·rename_i xs hx;rw[zI]at e;obtain⟨ys,e1,rfl⟩:=e;obtain⟨vs,e2,r2⟩:=s.obj i _ hx;obtain⟨il,rfl⟩:=h;have hi:n<=i:=by simp only[_D.bel,decide_eq_true_eq]at hb;lia
     obtain⟨o,e3⟩:=hz i hi il vs e2;exact⟨_,vs,rfl,.inl ⟨o,e3⟩,Zd ih e1 r2⟩
    ·cases e
   |tup xs=>
    dsimp only at e;rw[zI]at e;obtain⟨ys,e1,rfl⟩:=e;obtain⟨p,vs,rfl,t,r⟩:=h;exact⟨p,vs,rfl,x.sqT t,Zd ih e1 r⟩
   |fl xs=>
    dsimp only at e;rw[zI]at e;obtain⟨ys,e1,rfl⟩:=e;obtain⟨p,vs,rfl,t,r⟩:=h;exact⟨p,vs,rfl,x.fzL t,Zd ih e1 r⟩
   |_=>cases e
theorem ZJF{vD:List (xZ×Obj)}{sh:xq}(s:Sim a G)(hG:G'.take G.length=G)(x:Ext a b)(sb:Sim b G')(I:Inv X vD σ b.H sh):
  ∃c:Wd,Inv X vD σ c.H sh/\Ext a c/\Sim c G/\CutF b c a.n/\∀(k:Nat)(d d':D)(v:V),Fe G' G.length k d=vE d'->Rep b d v->Rep c d' v:=by
 have hlen:∀i o,G[i]?=vE o->G'[i]?=vE o:=λi o e=>by have hi:i<G.length:=(zF.mp e).1;rw[<-hG,jY hi]at e;exact e
 obtain⟨H',I',F⟩:=ZIY I b.m a.n (b.n-a.n);have hbn:a.n+(b.n-a.n)=b.n:=by have:=x.n;lia
 rw[hbn]at F;have ct:∀p(u:HO),(∀vs,u≠ .lst vs)->b.H p=vE u->H' p=vE u:=λp u nu e=>by
  rcases F p with⟨e1,_⟩|⟨o,vs,_,e1,_⟩
  ·exact e1.trans e
  ·rw[e]at e1;exact absurd (Option.some.inj e1) (nu vs)
 have tabs:∀p,TabOk b.H p->TabOk H' p:=λp t=>t.mono (λp ps e=>ct p _ (by intro _ z;cases z) e) λp o u e=>ct p _ (by intro _ z;cases z) e
 have cc:CutF b ⟨b.K,a.n,b.m,H'⟩ a.n:=⟨rfl,rfl,rfl,λp xs e=>ct p _ (by intro _ z;cases z) e,λp o u e=>ct p _ (by intro _ z;cases z) e⟩;have old:∀i,i<a.n->H' (b.m i)=b.H (b.m i):=λi hi=>by
  rcases F (b.m i)with⟨e1,_⟩|⟨o,vs,⟨j,h1,h2,h3⟩,e1,e2⟩
  ·exact e1
  ·have:=sb.inj i j (zq hi x.n) h2 h3;lia
 refine⟨⟨b.K,a.n,b.m,H'⟩,I',⟨x.k,zK _,x.m,λp xs e=>cc.tup p xs (x.tup p xs e),λp o u e=>cc.frz p o u (x.frz p o u e),λp t=>tabs p (x.tab p t)⟩,⟨s.len,λi j hi hj=>sb.inj i j (zq hi x.n) (zq hj x.n),λi o e=>?_,λi hi=>?_⟩,cc,λk d d' v hd rb=>?_⟩
 ·show ORep ⟨b.K,a.n,b.m,H'⟩ o (H' (b.m i));rw[old i (s.lt e)];have q:=sb.obj i o (hlen i o e);have lb:=(s.obj i o e).Mx;cases o with
  |lst ds=>obtain⟨vs,e1,r1⟩:=q;exact⟨vs,e1,r1.K5 cc lb⟩
  |dct kvs=>obtain⟨us,e1,k1,r1⟩:=q;exact⟨us,e1,k1,r1.K5 cc lb⟩
  |ins c fs=>obtain⟨C,dx,us,n1,e1,k1,r1⟩:=q;exact⟨C,dx,us,n1,e1,k1,r1.K5 cc lb⟩
  |tab C m=>obtain⟨c1,P1,e1,t1⟩:=q;exact⟨c1,P1,e1,tabs _ t1⟩
  |gone=>trivial
 ·show H' (b.m i)≠vF;rw[old i hi];exact sb.tr i (zq hi x.n)
 ·rw[s.len]at hd;refine ZHc sb cc (λi h1 h2 vs e=>?_) k d d' v hd rb;rcases F (b.m i)with⟨e1,z⟩|⟨o,vs',_,e1,e2⟩
  ·exact absurd ⟨i,h1,h2,rfl⟩ (z vs e)
  ·rw[e]at e1;cases e1;exact⟨o,e2⟩
theorem ZSy(s:Sim a G)(h:out E a (freeze G r) Q):
  out E a r λv H=>∀(vD:List (xZ×Obj))(σ:St)(sh:xq),Inv X vD σ H sh->∃H',Inv X vD σ H' sh/\Q v H':=by
 cases r with
 |err e G'=>exact h
 |bad=>exact h
 | ok d G'=>
  intro b v x sb rb vD σ sh I;unfold freeze at h;dsimp only at h;split at h
  ·rename_i hG;split at h
   ·rename_i d' hd;obtain⟨c,Ic,xc,sc,cc,hr⟩:=ZJF s hG x sb I;exact⟨c.H,Ic,h c v xc sc (hr _ _ _ _ hd rb)⟩
   ·exact⟨_,I,h b v x sb rb⟩
  ·exact⟨_,I,h b v x sb rb⟩
theorem Ck(ha:QE X E e t):QE X E e (Bt t):=λvD s σ H Q I h=>by
 obtain⟨a,S,G,hk,rfl,sm,r,h⟩:=h;refine thn (ha vD s σ a.H _ I ⟨a,S,G,hk,rfl,sm,r,ZSy (X:=X) sm h⟩) λu s' ⟨v,H',I',rv,q⟩=>?_
 obtain⟨H2,I2,q2⟩:=q vD σ s' I';exact⟨v,H2,I2,rv,q2⟩
theorem Lw {st:xz} (ha:QS X E st (sAs t (gV i))):QS X E st (sAs (Bt t) (gV i)):=λvD s σ H W I h=>by
 obtain ⟨a,S,G,hk,rfl,sm,r,h⟩:=h;have h2:Dg E a (sAs t (gV i) S G) {W with nx:=λσ H=>∀(vD:List (xZ×Obj))(sh:xq),Inv X vD σ H sh->∃H',Inv X vD σ H' sh/\W.nx σ H'}:=by
  unfold sAs Bt at h;unfold sAs;cases ht:t S G with
  |err e G'=>rw[ht]at h;exact h
  |bad=>rw[ht]at h;exact h
  | ok d G'=>
   rw[ht]at h;intro b σ' x sb rb vD sh I;unfold freeze at h;dsimp only at h;split at h
   ·rename_i hG;split at h
    ·rename_i d' hd;obtain⟨c,Ic,xc,sc,cc,hr⟩:=ZJF sm hG x sb I;refine⟨c.H,Ic,h c σ' xc sc ⟨?_,λj e he=>?_⟩⟩
     ·rw[jv,<-rb.len,jv]
     ·rw[qO]at he;by_cases hij:i=j
      ·subst hij;rw[if_pos rfl]at he;by_cases hl:i<S.length
       ·rw[if_pos hl]at he;have e1:d'=e:=by simpa using he
        subst e1;obtain⟨v,e2,rv⟩:=rb.get i d (by rw[qO,if_pos rfl,if_pos hl]);exact⟨v,e2,hr _ _ _ _ hd rv⟩
       ·rw[if_neg hl]at he;cases he
      ·rw[if_neg hij]at he;obtain⟨v,e2,rv⟩:=rb.get j e (by rw[qO,if_neg hij];exact he);obtain⟨v',_,rv'⟩:=r.get j e he;exact⟨v,e2,rv.K5 cc rv'.bel⟩
    ·exact⟨_,I,h b σ' x sb rb⟩
   ·exact⟨_,I,h b σ' x sb rb⟩
 refine thn (ha vD s σ a.H _ I ⟨a,S,G,hk,rfl,sm,r,h2⟩) λf s' hf=>?_
 cases f with
 |next=>
  obtain⟨σ',H',I',q⟩:=hf;obtain⟨H2,I2,q2⟩:=q vD s' I';exact⟨σ',H2,I2,q2⟩
 |brk=>exact hf
 |cont=>exact hf
 |ret u=>exact hf
end
section
variable{S:DSt}{G:DH}
@[simp]theorem ZDD:dV i S G=(match S[i]? with |some (vE d)=>.ok d G|_=>.bad):=id rfl
@[simp]theorem ev_C:dC d S G=.ok d G:=id rfl
@[simp]theorem ev_Op{a b:DE}:dOp f a b S G=(a S G).bind λx G1=>(b S G1).bind λy G2=>f x y G2:=id rfl
@[simp]theorem ev_Un{f:D->DH->R D}{a:DE}:dUn f a S G=(a S G).bind f:=id rfl
@[simp]theorem ev_Nil:Ad S G=.ok [] G:=id rfl
@[simp]theorem ZUp{a:DE}{r:DA}:Ab a r S G=(a S G).bind λx G1=>(r S G1).bind λxs G2=>.ok (x::xs) G2:=id rfl
@[simp]theorem ev_Fn{f:List D->DH->R D}{t:DA}:dFn f t S G=(t S G).bind f:=id rfl
@[simp]theorem ZUU:Ff t S G=tidy G (t S G):=id rfl
@[simp]theorem ev_Frz:Bt t S G=freeze G (t S G):=id rfl
@[simp]theorem ev_asB{k:Bool}:asB (.bl k) G=.ok k G:=id rfl
@[simp]theorem ev_Tst:Aw t S G=(t S G).bind asB:=id rfl
@[simp]theorem ev_And{t u:DB}:Jv t u S G=(t S G).bind λk G1=>if k=vG then u S G1 else .ok vH G1:=id rfl
@[simp]theorem ev_Or{t u:DB}:dOr t u S G=(t S G).bind λk G1=>if k=vG then .ok vG G1 else u S G1:=id rfl
@[simp]theorem ev_Not{t:DB}:Jc t S G=(t S G).bind λk G1=>.ok (!k) G1:=id rfl
@[simp]theorem ZUF{u:DE}:Oi t u S G=(t S G).bind λx G1=>(asB x G1).bind λk G2=>if k=vG then u S G2 else .ok (.bl vH) G2:=id rfl
@[simp]theorem ev_OrV{u:DE}:ZCM t u S G=(t S G).bind λx G1=>(asB x G1).bind λk G2=>if k=vG then .ok (.bl vG) G2 else u S G2:=id rfl
@[simp]theorem ev_If{c:DB}{u:DE}:dIf c t u S G=(c S G).bind λk G1=>if k=vG then t S G1 else u S G1:=id rfl
@[simp]theorem ZUl{g:D->D->DH->R D}{a b c:DE}:Qx f g a b c S G=(a S G).bind λx G1=>(b S G1).bind λy G2=>(f x y G2).bind λz G3=>(asB z G3).bind λk G4=>
 if k=vG then(c S G4).bind λw G5=>g y w G5 else .ok (.bl vH) G4:=id rfl
@[simp]theorem ev_sNx:sNx S G=.nx S G:=id rfl
noncomputable def SR.then(r:SR)(u:DS):SR:=match r with
 |.nx S1 G1=>u S1 G1
 |r=>r
@[simp]theorem Uh{t:DS}:Ah t u S G=(t S G).then u:=id rfl
@[simp]theorem Yd:(SR.nx S G).then u=u S G:=id rfl
@[simp]theorem ZUW:(SR.rt d G).then u=.rt d G:=id rfl
@[simp]theorem ev_sEx:sEx t S G=(t S G).toS λ_ G1=>.nx S G1:=id rfl
@[simp]theorem ev_sRt:sRt t S G=(t S G).toS λd G1=>.rt d G1:=id rfl
@[simp]theorem ev_sIf{c:DB}{t:DS}:sIf c t u S G=(c S G).toS λk G1=>if k=vG then t S G1 else u S G1:=id rfl
@[simp]theorem ev_sAs:sAs t g S G=(t S G).toS λd G1=>(g d S G1).toS λS2 G2=>.nx S2 G2:=id rfl
@[simp]theorem ev_sAu:sAu i t f S G=(match S[i]? with
 |some (vE x)=>(t S G).toS λy G1=>(f x y G1).toS λz G2=>.nx (S.set i (vE z)) G2
 |_=>.bad):=id rfl
@[simp]theorem ZT8{it:DI}{b:DS}:Du it g b S G=(it S G).toS λJ G1=>(match J with
 |.pure xs=>Bo g b xs S G1
 |.mt i=>match G1[i]? with
  |some (.lst xs)=>forM i g b xs.length 0 S G1
  |_=>.bad
 |.fn n f=>Eo f g b n 0 S G1):=id rfl
@[simp]theorem ZOr:Fv t S G=(t S G).bind I9:=id rfl
@[simp]theorem ZT4{f:List D->DH->R ItD}{t:DA}:Cy f t S G=(t S G).bind f:=id rfl
@[simp]theorem Dq:gV i d S G=.ok (S.set i (vE d)) G:=id rfl
@[simp]theorem Pk:Bk [] S G=.ok S G:=id rfl
@[simp]theorem Qc{t:DG}{u:DGs}{r:List D}:Am t u (d::r) S G=(t d S G).bind λS1 G1=>u r S1 G1:=id rfl
@[simp]theorem Q5{n:Nat}{t:DGs}:Bg n t (.tup ds) S G=if ds.length=n then t ds S G else .bad:=id rfl
@[simp]theorem ev_gIx{o i:DE}{v:D}:gIx o i v S G=(o S G).bind λo G1=>(i S G1).bind λi G2=>(M8 o i v G2).bind λ_ G3=>.ok S G3:=id rfl
@[simp]theorem ev_MtL{f:D->List D->DH->R D}{o:DE}{t:DA}:Fl f o t S G=(o S G).bind λx G1=>if isL x G1=vG then(t S G1).bind λxs G2=>f x xs G2 else .bad:=id rfl
@[simp]theorem ZMU{it:DI}{caps:List Nat}{c:DB}:Ej it nt caps g c te S G=(it S G).bind λJ G1=>(match J with
 |.pure xs=>Dt g c te (Bm nt caps S) xs G1
 |.mt i=>match G1[i]? with
  |some (.lst xs)=>Hv i g c te (Bm nt caps S) xs.length 0 G1
  |_=>.bad
 |.fn n f=>Ds f g c te (Bm nt caps S) n 0 G1).bind Av:=id rfl
@[simp]theorem ZHf:Cd S G=.ok vG G:=id rfl
@[simp]theorem Ea{k:DSt->DH->SR}:aft (.nx S G) k=k S G:=id rfl
@[simp]theorem aft_rt{k:DSt->DH->SR}:aft (.rt d G) k=.rt d G:=id rfl
theorem Ed{b:DS}:Bo g b [] S G=.nx S G:=id rfl
theorem Dh{b:DS}{x:D}:Bo g b (x::xs) S G=(g x S G).toS λS1 G1=>aft (b S1 G1) (Bo g b xs):=id rfl
theorem ZCH{c:DB}{x:D}:Dt g c te S (x::xs) G=(g x S G).bind λS1 G1=>(c S1 G1).bind λk G2=>
   if k=vG then(te S1 G2).bind λd G3=>(Dt g c te S xs G3).bind λds G4=>.ok (d::ds) G4 else Dt g c te S xs G2:=id rfl
noncomputable def SR.ret(r:SR):R D:=match r with
 |.nx _ G'=>.ok .non G'
 |.rt d G'=>.ok d G'
 |.err x G'=>.err x G'
 |_=>.bad
@[simp]theorem ZMO:(SR.nx S G).ret=.ok .non G:=id rfl
@[simp]theorem ret_rt:(SR.rt d G).ret=.ok d G:=id rfl
theorem Br{np nl:Nat}{b:DS}:Bv np nl b ds G=if ds.length=np then tidy G (b (ds.map vE++zV nl vF) G).ret else .bad:=id rfl
end
section
variable{n:Nat}{G:DH}
@[simp]theorem ZUE:bel n .non=vG:=by simp[_D.bel]
@[simp]theorem bel_bl{b:Bool}:bel n (.bl b)=vG:=by simp[_D.bel]
@[simp]theorem ZQi{b:Int}:bel n (.int b)=vG:=by simp[_D.bel]
@[simp]theorem ZUd{b:Str}:bel n (.str b)=vG:=by simp[_D.bel]
@[simp]theorem ZUY{b:List D}:bel n (.tup b)=bels n b:=by simp[_D.bel]
@[simp]theorem bel_fl{b:List D}:bel n (.fl b)=bels n b:=by simp[_D.bel]
@[simp]theorem ZTq{b:Nat}:bel n (.ref b)=decide (b<n):=by simp[_D.bel]
@[simp]theorem ZUs:bels n []=vG:=by simp[_D.bels]
@[simp]theorem ZOS:bels n (d::ds)=(bel n d&&bels n ds):=by simp[_D.bels]
theorem ZPd:bels n ds=vG↔∀d∈ds,bel n d=vG:=by
 induction ds with
 |nil=>simp
 |cons d ds ih=>simp[ih]
theorem Ga{f:α->D}{xs:List α}(h:∀x∈xs,bel n (f x)=vG):bels n (xs.map f)=vG:=by rw[ZPd];intro d hd;obtain⟨x,hx,rfl⟩:=zH.mp hd;exact h x hx
@[simp]theorem ZGZ{xs:List Int}:bels n (xs.map D.int)=vG:=Ga λ_ _=>ZQi
theorem By(h:bel G.length d=vG):tidy G (.ok d G)=.ok d G:=by unfold tidy;simp[h]
theorem Qv(h:bel G.length d=vG):tidy G (.ok d (G++L))=.ok d G:=by unfold tidy;simp[h]
theorem ZET(L:DH){k:Nat}(hk:L[k]?=vE (.lst ds))(h:bels G.length ds=vG):tidy G (.ok (.ref (G.length+k)) (G++L))=.ok (.ref G.length) (G++[.lst ds]):=by
 unfold tidy;have e:(G++L)[G.length+k]?=vE (.lst ds):=by rw[zG (by lia)];simpa using hk
 simp[e,Mx,h]
theorem Gb(h:bels G.length ds=vG):tidy G (.ok (.ref G.length) (G++ .lst ds::L))=.ok (.ref G.length) (G++[.lst ds]):=ZET (.lst ds::L) (k:=0) rfl h
theorem Ka(h:bel G.length d=vG):freeze G (.ok d G)=.ok d G:=by unfold freeze;simp[h,Fe]
theorem ZAK{n:Nat}{k:Nat}:∀{ds:List D},bels n ds=vG->Jx (Fe G' n (k+1)) ds=vE ds
 |[],_=>rfl
 |d::ds,h=>by simp only[ZOS,zC]at h;unfold Jx;rw[ZAK h.2];simp[Fe,h.1]
theorem ZMX(L:DH){k:Nat}(hk:L[k]?=vE (.lst ds))(h:bels G.length ds=vG):freeze G (.ok (.ref (G.length+k)) (G++L))=.ok (.fl ds) G:=by
 unfold freeze;have e:(G++L)[G.length+k]?=vE (.lst ds):=by rw[zG (by lia)];simpa using hk
 have m:Fe (G++L) G.length 9 (.ref (G.length+k))=vE (.fl ds):=by unfold Fe;simp[e,ZAK h]
 simp[m]
theorem Fd(h:bels G.length ds=vG):freeze G (.ok (.ref G.length) (G++ .lst ds::L))=.ok (.fl ds) G:=ZMX (.lst ds::L) (k:=0) rfl h
theorem Vl(L:DH)(k:Nat):(G++L)[G.length+k]?=L[k]? :=by rw[zG (by lia)];simp
theorem Eg(L:DH):(G++L)[G.length]?=L[0]? :=Vl L 0
theorem ZDI(L:DH)(k:Nat)(o:DO):(G++L).set (G.length+k) o=G++L.set k o:=by rw[jI _ _ (by lia)];simp
theorem Ft(L:DH)(o:DO):(G++L).set G.length o=G++L.set 0 o:=ZDI L 0 o
theorem Js{lo:Int}:Cm lo 0=[]:=id rfl
theorem Iu{lo:Int}{n:Nat}:Cm lo (n+1)=.int lo::Cm (lo+1) n:=by
 unfold Cm;rw[qE,zk,qF]
 congr 1
 ·simp
 ·apply qk;intro k _;simp only[Function.comp]
  congr 1
  lia
end
section
variable{G:DH}{i j:Int}{x y:Str}{k l:Bool}
@[simp]theorem ev_add:Ay (.int i) (.int j) G=.ok (.int (i+j)) G:=id rfl
@[simp]theorem ZUJ:Ay (.str x) (.str y) G=if x.length+y.length<=1000000 then .ok (.str (x++y)) G else .bad:=id rfl
@[simp]theorem ev_ip:Ms (.int i) (.int j) G=.ok (.int (i+j)) G:=id rfl
@[simp]theorem ev_sub:Ge (.int i) (.int j) G=.ok (.int (i-j)) G:=id rfl
theorem log2_small{n:Nat}(h:n<10^100):n.log2<9000:=by
 by_cases hn:n=0
 ·subst hn;decide
 ·rw[Nat.log2_lt hn];exact Nat.lt_trans h (by decide)
@[simp]theorem ZTs{n:Nat}[NeZero n](h:n<10^100):Di (.int i) (.int (no_index (OfNat.ofNat n))) G=.ok (.int (i/OfNat.ofNat n)) G:=
 if_pos ⟨Int.ofNat_lt.mpr (Nat.pos_of_ne_zero (NeZero.ne n)),log2_small h⟩
@[simp]theorem ev_mod:Bq (.int i) (.int j) G=if 0<j then .ok (.int (i%j)) G else .bad:=id rfl
@[simp]theorem ev_pow:K6 (.int i) (.int j) G=if 0<=j/\j<=1000000/\i.natAbs<18446744073709551616 then .ok (.int (i^j.toNat)) G else .bad:=id rfl
@[simp]theorem ev_lt:Hn (.int i) (.int j) G=.ok (.bl (decide (i<j))) G:=id rfl
@[simp]theorem ev_le:Nu (.int i) (.int j) G=.ok (.bl (decide (i<=j))) G:=id rfl
@[simp]theorem ev_gt:Iv (.int i) (.int j) G=.ok (.bl (decide (j<i))) G:=id rfl
@[simp]theorem ev_ge:ZBP (.int i) (.int j) G=.ok (.bl (decide (j<=i))) G:=id rfl
@[simp]theorem ev_eq:Cv (.int i) (.int j) G=.ok (.bl (decide (i=j))) G:=id rfl
@[simp]theorem ev_ne:Hh (.int i) (.int j) G=.ok (.bl (!decide (i=j))) G:=id rfl
@[simp]theorem ev_eqS:Cv (.str x) (.str y) G=.ok (.bl (decide (x=y))) G:=id rfl
@[simp]theorem ev_neS:Hh (.str x) (.str y) G=.ok (.bl (!decide (x=y))) G:=id rfl
@[simp]theorem ev_neg:Rg (.int i) G=.ok (.int (-i)) G:=id rfl
@[simp]theorem ev_is:Oz d .non G=.ok (.bl (Kz d)) G:=by cases d<;>exact id rfl
@[simp]theorem ZUb:Mv d .non G=.ok (.bl (!Kz d)) G:=by cases d<;>exact id rfl
@[simp]theorem ZUr:Kz .non=vG:=id rfl
@[simp]theorem ZUL:Kz (.int i)=vH:=id rfl
@[simp]theorem ZTv:Kz (.tup ds)=vH:=id rfl
@[simp]theorem ev_max:Zu [.int i,.int j] G=.ok (.int (max i j)) G:=by
 show R.ok (D.int (if j>i then j else i)) G=_
 congr 2
 split <;> lia
@[simp]theorem ev_min:Nk [.int i,.int j] G=.ok (.int (min i j)) G:=by
 show R.ok (D.int (if j<i then j else i)) G=_
 congr 2
 split <;> lia
@[simp]theorem ZTx:Ci (.tup ds) G=vE ds:=id rfl
@[simp]theorem ZT6:Ci (.fl ds) G=vE ds:=id rfl
@[simp]theorem ZGf{n:Nat}:Ci (.ref n) G=(match G[n]? with |some (.lst xs)=>vE xs|_=>vF):=id rfl
@[simp]theorem ZUf:Cz [.tup ds] G=.ok (.int ds.length) G:=id rfl
@[simp]theorem ZTt:Cz [.fl ds] G=.ok (.int ds.length) G:=id rfl
@[simp]theorem ev_ixT:Aj (.tup ds) (.int i) G=(match atI ds i with |some v=>.ok v G|none=>.bad):=id rfl
@[simp]theorem ev_ixF:Aj (.fl ds) (.int i) G=(match atI ds i with |some v=>.ok v G|none=>.bad):=id rfl
@[simp]theorem ev_ixR{n:Nat}:Aj (.ref n) (.int i) G=(match G[n]? with |some (.lst xs)=>(match atI xs i with |some v=>.ok v G|none=>.bad)|_=>.bad):=by
 unfold Aj;simp only[ZGf];cases G[n]? with
 |none=>rfl
 |some o=>cases o<;>rfl
theorem Jq{n k:Nat}(h:k<n):ixN n (k:Int)=vE k:=by unfold ixN;rw[if_pos (by lia),if_pos (by lia)];simp
theorem ZOe{xs:List α}{k:Nat}{d:α}(h:xs[k]?=vE d):atI xs (k:Int)=vE d:=by unfold atI;rw[Jq (zF.mp h).1];exact h
theorem Fb{xs:List α}{j:Int}{k:Nat}{d:α}(e:j=k)(h:xs[k]?=vE d):atI xs j=vE d:=by subst e;exact ZOe h
theorem ZNY{xs:List α}{j:Int}(h0:j<0)(h: -(xs.length:Int)<=j):atI xs j=vE (xs[(j+xs.length).toNat]'(by lia)):=by unfold atI ixN;rw[if_neg (by lia),if_pos h];exact zJ (by lia)
@[simp]theorem atI_0{a:α}{xs:List α}:atI (a::xs) 0=vE a:=Fb (k:=0) rfl rfl
@[simp]theorem atI_1{a b:α}{xs:List α}:atI (a::b::xs) 1=vE b:=Fb (k:=1) rfl rfl
@[simp]theorem atI_2{a b c:α}{xs:List α}:atI (a::b::c::xs) 2=vE c:=Fb (k:=2) rfl rfl
@[simp]theorem atI_3{a b c d:α}{xs:List α}:atI (a::b::c::d::xs) 3=vE d:=Fb (k:=3) rfl rfl
@[simp]theorem atI_4{a b c d e:α}{xs:List α}:atI (a::b::c::d::e::xs) 4=vE e:=Fb (k:=4) rfl rfl
@[simp]theorem atI_5{a b c d e f:α}{xs:List α}:atI (a::b::c::d::e::f::xs) 5=vE f:=Fb (k:=5) rfl rfl
@[simp]theorem atI_6{a b c d e f g:α}{xs:List α}:atI (a::b::c::d::e::f::g::xs) 6=vE g:=Fb (k:=6) rfl rfl
@[simp]theorem ZUK:Bb ds G=if ds.length<=1000000 then .ok (.tup ds) G else .bad:=id rfl
@[simp]theorem ZT7:Av ds G=if ds.length<=1000000 then .ok (.ref G.length) (G++[.lst ds])else .bad:=id rfl
@[simp]theorem ZTy:Fy [.fl ds] G=.ok (.tup ds) G:=id rfl
@[simp]theorem ZTp{n:Nat}:Fy [.ref n] G=(match G[n]? with |some (.lst xs)=>.ok (.tup xs) G|_=>.bad):=by
 unfold Fy;simp only[ZGf];cases G[n]? with
 |none=>rfl
 |some o=>cases o<;>rfl
@[simp]theorem ev_itT:I9 (.tup ds) G=.ok (.pure ds) G:=id rfl
@[simp]theorem ev_itF:I9 (.fl ds) G=.ok (.pure ds) G:=id rfl
@[simp]theorem ZUA:rng1 [.int j] G=if inR j then .ok (.pure (Cm 0 j.toNat)) G else .bad:=id rfl
theorem Gu(h0: -1000000000<=i)(h:i<=1000000000):inR i:=⟨by lia,by lia⟩
@[simp]theorem ZUS:isL (.fl ds) G=vG:=id rfl
@[simp]theorem ZTw{n:Nat}:isL (.ref n) G=(match G[n]? with |some (.lst _)=>vG|_=>vH):=id rfl
@[simp]theorem ev_app{n:Nat}:Fq (.ref n) [d] G=(match G[n]? with |some (.lst xs)=>if xs.length<1000000 then .ok .non (G.set n (.lst (xs++[d])))else .bad|_=>.bad):=id rfl
@[simp]theorem ZUC{n:Nat}:M8 (.ref n) (.int i) d G=(match G[n]? with |some (.lst xs)=>(match ixN xs.length i with |some j=>.ok .non (G.set n (.lst (xs.set j d)))|none=>.bad)|_=>.bad):=id rfl
@[simp]theorem ev_all{ks:List Bool}:Qi [.fl (ks.map D.bl)] G=.ok (.bl (ks.all id)) G:=by simp[Qi]
@[simp]theorem ZUe:Ig [d,.ty "int"] G=(match tyD G d with |some .int=>.ok (.bl vG) G|some .bl=>.ok (.bl vG) G|some _=>.ok (.bl vH) G|none=>.bad):=by
 unfold Ig;dsimp only;cases tyD G d with
 |none=>rfl
 |some t=>cases t<;>rfl
@[simp]theorem ZUH:Ig [d,.ty "bool"] G=(match tyD G d with |some .bl=>.ok (.bl vG) G|some _=>.ok (.bl vH) G|none=>.bad):=by
 unfold Ig;dsimp only;cases tyD G d with
 |none=>rfl
 |some t=>cases t<;>rfl
@[simp]theorem ZUQ:Ig [d,.ty "tuple"] G=(match tyD G d with |some .tup=>.ok (.bl vG) G|some _=>.ok (.bl vH) G|none=>.bad):=by
 unfold Ig;dsimp only;cases tyD G d with
 |none=>rfl
 |some t=>cases t<;>rfl
@[simp]theorem ZUi:Ig [d,.ty "str"] G=(match tyD G d with |some .str=>.ok (.bl vG) G|some _=>.ok (.bl vH) G|none=>.bad):=by
 unfold Ig;dsimp only;cases tyD G d with
 |none=>rfl
 |some t=>cases t<;>rfl
end
section
variable{c:Prop}[Decidable c]
@[simp]theorem ite_ok{a b:α}:(if c then R.ok a G else R.ok b G)=R.ok (if c then a else b) G:=by split <;> rfl
end
noncomputable def Il(kvs:List (Key×D))(k:Key):Option D:=(kvs.find? λkv=>decide (kv.1=k)).map (·.2)
noncomputable def putD(kvs:List (Key×D))(k:Key)(v:D):List (Key×D):=
 if(kvs.any λkv=>decide (kv.1=k))=vG then kvs.map (λkv=>if kv.1=k then(kv.1,v)else kv)else kvs++[(k,v)]
noncomputable def Gd:D->Option Key
 |.int i=>vE (.inl i)
 |.str x=>vE (.inr x)
 |_=>vF
noncomputable def Rp(d:D)(G:DH):Option (List (Key×D)):=match d with
 |.ref i=>match G[i]? with
  |some (.dct kvs)=>vE kvs
  |_=>vF
 |_=>vF
theorem ZSg{x:V}{k:Key}(r:Rep a d x)(h:Gd d=vE k):x=kV k:=by
 cases d<;>first
  |(cases h;exact r)
  |cases h
theorem RepKV.nil:RepKV a [] []:=⟨rfl,rfl⟩
theorem RepKV.cons{k:Key}{us:List (Key×V)}(h:RepKV a ((k,d)::kvs) us):∃v r,us=(k,v)::r/\Rep a d v/\RepKV a kvs r:=by
 obtain⟨h1,v,r,h2,h3,h4⟩:=h;cases us with
 |nil=>cases h2
 |cons p us=>
  obtain⟨q,w⟩:=p;simp only[zk,List.cons.injEq]at h1 h2;obtain⟨rfl,h1⟩:=h1;obtain⟨rfl,rfl⟩:=h2;exact⟨w,us,rfl,h3,h1,h4⟩
theorem RepKV.mk{k:Key}{us:List (Key×V)}(h:Rep a d v)(r:RepKV a kvs us):RepKV a ((k,d)::kvs) ((k,v)::us):=
 ⟨by simp only[zk,r.1],Reps.cons h r.2⟩
theorem RepKV.val{k:Key}:∀{kvs:List (Key×D)}{us:List (Key×V)},RepKV a kvs us->(Il kvs k=vF/\Hu us k=vF)∨∃d v,Il kvs k=vE d/\Hu us k=vE v/\Rep a d v
 |[],us,h=>by obtain⟨h1,_⟩:=h;have:us=[]:=jq.mp h1.symm;subst this;exact .inl ⟨rfl,rfl⟩
 | (q,d)::kvs,us,h=>by
  obtain⟨v,r,rfl,h1,h2⟩:=RepKV.cons h;by_cases e:q=k
  ·exact .inr ⟨d,v,by simp[Il,qV,e],by simp[Hu,qV,e],h1⟩
  ·rcases RepKV.val (k:=k) h2 with⟨e1,e2⟩|⟨d',v',e1,e2,e3⟩
   ·exact .inl ⟨by simpa[Il,qV,e]using e1,by simpa[Hu,qV,e]using e2⟩
   ·exact .inr ⟨d',v',by simpa[Il,qV,e]using e1,by simpa[Hu,qV,e]using e2,e3⟩
theorem RepKV.any{k:Key}:∀{kvs:List (Key×D)}{us:List (Key×V)},RepKV a kvs us->(kvs.any λkv=>decide (kv.1=k))=us.any λkv=>decide (kv.1=k)
 |[],us,h=>by
  obtain⟨h1,_⟩:=h;have:us=[]:=jq.mp h1.symm;subst this
  rfl
 |(q,d)::kvs,us,h=>by obtain⟨v,r,rfl,h1,h2⟩:=RepKV.cons h;simp only[j5,RepKV.any (k:=k) h2]
theorem RepKV.repl{k:Key}(hv:Rep a d v):∀{kvs:List (Key×D)}{us:List (Key×V)},RepKV a kvs us->RepKV a (kvs.map λkv=>if kv.1=k then(kv.1,d)else kv) (us.map λkv=>if kv.1=k then(kv.1,v)else kv)
 |[],us,h=>by obtain⟨h1,_⟩:=h;have:us=[]:=jq.mp h1.symm;subst this;exact RepKV.nil
 |(q,e)::kvs,us,h=>by
  obtain⟨w,r,rfl,h1,h2⟩:=RepKV.cons h;simp only[zk];by_cases hq:q=k
  ·rw[if_pos hq,if_pos hq];exact RepKV.mk hv (RepKV.repl hv h2)
  ·rw[if_neg hq,if_neg hq];exact RepKV.mk h1 (RepKV.repl hv h2)
theorem RepKV.put{k:Key}{us:List (Key×V)}(h:RepKV a kvs us)(hv:Rep a d v):RepKV a (putD kvs k d) (putK us k v):=by
 unfold putD putK;rw[RepKV.any (k:=k) h];split
 ·exact RepKV.repl hv h
 ·exact⟨by simp[h.1],by have:=Reps.append h.2 (Reps.cons hv (Reps.nil));simpa using this⟩
theorem Sim.dct{x:V}(s:Sim a G)(r:Rep a d x)(h:Rp d G=vE kvs):∃i us,d=.ref i/\i<a.n/\x=.ref (a.m i)/\G[i]?=vE (.dct kvs)/\a.H (a.m i)=vE (.dK us)/\RepKV a kvs us:=by
 cases d with
 |ref i=>
  unfold Rp at h;dsimp only at h;split at h
  ·rename_i ks hi;cases h;obtain⟨us,e1,r1⟩:=s.obj i _ hi;exact⟨i,us,rfl,r.1,r.2,hi,e1,r1⟩
  ·cases h
 |_=>cases h
def Mr(d e:D)(G:DH):R D:=match Rp d G,Gd e with
 |some kvs,vE k=>match Il kvs k with
  |some v=>.ok v G
  |none=>.bad
 |none,_=>Aj d e G
 |_,_=>.bad
section
variable{X:Cx}{E:XK}
theorem ZS0(hu:X.A.units+64<cLine):IxR X (λx y H Q=>∃a v,x=.ref a/\DGet H a y (vE v)/\Q v H):=by
 intro value slice vD s σ H x y v u Q I rx ry h hs;obtain⟨a,w,rfl,g,q⟩:=h;obtain rfl:v=Value.ref a:=rx;have hT:=ZOi I g;unfold subscriptTail;refine vz ?_;rw[getitemInPython_of_ne hT.not_modules];refine vz (wpAny_specialOf hT PySem.F.slot_dict_getitem.lookup ?_);have fin:vY (vZ X.prog X.w) X.A (subscripted slice vH (.ref a) u) (λr s₃=>vY (vZ X.prog X.w) X.A (letTemporaryGo value (.ref a) r >>=λ_=>pure r) (EP X vD σ Q) X.xe s₃) X.xe s:=by
  rw[hs];exact wpAny_operating (ZPB (by lia) I g ry λw' s3 I3 rw'=>vz (wpAny_letTemporaryGo (v7 ⟨w,H,I3,rw',q⟩)))
 first
  |exact v7 (vz fin)
  |exact vz (v7 (vz fin))
  |exact vz fin
theorem ZMf{e:D}{x:V}{k:Key}(s:Sim a G)(rd:Rep a d x)(re:Rep a e y)(h1:Rp d G=vE kvs)(h2:Gd e=vE k):
  ∃p,x=.ref p/\((Il kvs k=vF/\DGet a.H p y vF)∨∃v w,Il kvs k=vE v/\Rep a v w/\DGet a.H p y (vE w)):=by
 obtain⟨i,us,rfl,il,rfl,hg,hh,r⟩:=s.dct rd h1;have ey:=ZSg re h2;subst ey;refine⟨a.m i,rfl,?_⟩;have g:=DGet.k (k:=k) hh;rcases r.val (k:=k)with⟨e1,e2⟩|⟨v,w,e1,e2,e3⟩
 ·exact .inl ⟨e1,by rw[e2]at g;exact g⟩
 ·exact .inr ⟨v,w,e1,e3,by rw[e2]at g;exact g⟩
theorem ZGS(hu:X.A.units+64<cLine):IxR X (lR2 X.K E Mr):=(Al (E:=E).or (ZS0 hu)).mono λx y H Q h=>by
 obtain⟨a,G,d,e,hk,rfl,s,rd,re,q⟩:=h;unfold Mr at q;split at q
 ·rename_i kvs k h1 h2;obtain⟨p,rfl,⟨e1,_⟩|⟨v,w,e1,rv,g⟩⟩:=ZMf s rd re h1 h2
  ·rw[e1]at q;exact q.elim
  ·rw[e1]at q;exact .inr ⟨p,w,rfl,g,q a w (Ext.refl a) s rv⟩
 ·exact .inl ⟨a,G,d,e,hk,rfl,s,rd,re,q⟩
 ·exact q.elim
theorem Ext.wrD{us:List (Key×V)}(h:a.H p=vE (.dK us)):Ext a (a.put p ho):=
 ⟨rfl,zK _,λ_ _=>rfl,λq xs e=>by
  show upd a.H p ho q=_;rw[Bd (λz=>by subst z;rw[h]at e;cases e)];exact e,λq o u e=>by
  show upd a.H p ho q=_;rw[Bd (λz=>by subst z;rw[h]at e;cases e)];exact e,λ_ t=>t.mono (λq ps e=>by show upd a.H p ho q=_;rw[Bd (λz=>by subst z;rw[h]at e;cases e)];exact e) (λq o u e=>by show upd a.H p ho q=_;rw[Bd (λz=>by subst z;rw[h]at e;cases e)];exact e)⟩
theorem Sim.wrD(s:Sim a G)(hi:i<a.n){us us':List (Key×V)}{kvs':List (Key×D)}(h:a.H (a.m i)=vE (.dK us))(r:RepKV (a.put (a.m i) (.dK us')) kvs' us'):Sim (a.put (a.m i) (.dK us')) (G.set i (.dct kvs')):=by
 refine⟨by rw[jv];exact s.len,s.inj,λj o e=>?_,λj hj=>?_⟩
 ·rw[qO]at e;show ORep _ o (upd a.H (a.m i) (.dK us') (a.m j));by_cases hij:i=j
  ·subst hij;rw[if_pos rfl,if_pos (by rw[s.len];exact hi)]at e;cases e;rw[Gj];exact⟨us',rfl,r⟩
  ·rw[if_neg hij]at e;rw[Bd λz=>hij (s.inj _ _ (s.lt e) hi z).symm];exact(s.obj j o e).mono (Ext.wrD h)
 ·show upd a.H (a.m i) (.dK us') (a.m j)≠vF;by_cases hij:a.m j=a.m i
  ·rw[hij,Gj];simp
  ·rw[Bd hij];exact s.tr j hj
end
section
variable{S:DSt}{G:DH}{n:Nat}{kvs:List (Key×D)}
@[simp]theorem ZUg:Rp (.ref n) G=(match G[n]? with |some (.dct kvs)=>vE kvs|_=>vF):=id rfl
theorem ZQk{e:D}{k:Key}(h:G[n]?=vE (.dct kvs))(hk:Gd e=vE k):Mr (.ref n) e G=(match Il kvs k with |some v=>.ok v G|none=>.bad):=by unfold Mr;simp[h,hk]
end
section
noncomputable def okD:Nat->D->Bool
 |0,_=>vH
 |_+1,.non=>vG
 |_+1,.int _=>vG
 |_+1,.str _=>vG
 |n+1,.tup ds=>ds.all (okD n)
 |n+1,.fl ds=>ds.all (okD n)
 |_+1,_=>vH
theorem ZEJ{f:D->D->Option Bool}{P:D->Prop}(hf:∀x y,P x->P y->∃b,f x y=vE b/\(b=vG↔x=y)):∀{xs ys:List D},(∀x∈xs,P x)->(∀y∈ys,P y)->
  ∃b,eqZ f xs ys=vE b/\(b=vG↔xs.take ys.length=ys.take xs.length)
 |[],ys,_,_=>⟨vG,by cases ys<;>rfl,by simp⟩
 |x::xs,[],_,_=>⟨vG,rfl,by simp⟩
 |x::xs,y::ys,hx,hy=>by obtain⟨b,e1,h1⟩:=hf x y (hx x (by simp)) (hy y (by simp));obtain⟨c,e2,h2⟩:=ZEJ hf (λz hz=>hx z (zX _ hz)) (λz hz=>hy z (zX _ hz));refine⟨b&&c,by simp[eqZ,e1,e2],?_⟩;simp[h1,h2]
theorem ZCG{G:DH}:∀(n:Nat)(d e:D),okD n d=vG->okD n e=vG->∃b,eqD n G d e=vE b/\(b=vG↔d=e)
 |0,d,e,h,_=>by cases h
 | n+1,d,e,h1,h2=>by
  have ih:=ZCG (G:=G) n;cases d with
  |bl _=>simp[okD]at h1
  |ty _=>simp[okD]at h1
  |ref _=>simp[okD]at h1
  | tup xs=>
   cases e with
   |bl _=>simp[okD]at h2
   |ty _=>simp[okD]at h2
   |ref _=>simp[okD]at h2
   |tup ys=>
    simp only[okD,qK]at h1 h2;obtain⟨b,e1,h3⟩:=ZEJ ih (λx hx=>h1 x hx) (λx hx=>h2 x hx);refine⟨b&&xs.length==ys.length,by simp[eqD,view,e1],?_⟩;simp only[zC,h3,beq_iff_eq,D.tup.injEq];constructor
    ·rintro⟨e,hl⟩;rw[<-hl,jL]at e;rw[e,hl,jL]
    ·rintro rfl;exact⟨rfl,rfl⟩
   |_=>exact⟨vH,by simp[eqD,view],by simp⟩
  | fl xs=>
   cases e with
   |bl _=>simp[okD]at h2
   |ty _=>simp[okD]at h2
   |ref _=>simp[okD]at h2
   |fl ys=>
    simp only[okD,qK]at h1 h2;by_cases hl:xs.length=ys.length
    ·obtain⟨b,e1,h3⟩:=ZEJ ih (λx hx=>h1 x hx) (λx hx=>h2 x hx);refine⟨b,by simp[eqD,view,hl,e1],?_⟩;rw[h3,<-hl,jL,hl,jL];simp
    ·exact⟨vH,by simp[eqD,view,hl],by simp;rintro rfl;exact hl rfl⟩
   |_=>exact⟨vH,by simp[eqD,view],by simp⟩
  |non=>cases e<;>first|(simp[okD]at h2;done)|exact⟨_,rfl,by simp[eqV]⟩
  |int i=>cases e<;>first|(simp[okD]at h2;done)|exact⟨_,rfl,by simp[eqV]⟩
  |str i=>cases e<;>first|(simp[okD]at h2;done)|exact⟨_,rfl,by simp[eqV]⟩
open Classical in
theorem ZP4{e:D}(h1:okD 30 d=vG)(h2:okD 30 e=vG):Cv d e G=.ok (.bl (decide (d=e))) G:=by
 obtain⟨b,e1,h⟩:=ZCG (G:=G) 30 d e h1 h2;unfold Cv;rw[e1];cases b with
 |true=>simp[h.mp rfl]
 |false=>simp[show¬d=e from λz=>zy (h.mpr z)]
open Classical in
theorem ZOW{e:D}(h1:okD 30 d=vG)(h2:okD 30 e=vG):Hh d e G=.ok (.bl (!decide (d=e))) G:=by
 obtain⟨b,e1,h⟩:=ZCG (G:=G) 30 d e h1 h2;unfold Hh;rw[e1];cases b with
 |true=>simp[h.mp rfl]
 |false=>simp[show¬d=e from λz=>zy (h.mpr z)]
theorem ZQK(h1:okD 30 d=vG):Cv d d G=.ok (.bl vG) G:=by rw[ZP4 h1 h1];simp
theorem ZOd(h1:okD 30 d=vG):Hh d d G=.ok (.bl vH) G:=by rw[ZOW h1 h1];simp
theorem ZJ1{n:Nat}(h:∀d∈ds,okD n d=vG):okD (n+1) (.tup ds)=vG:=by simpa[okD]using h
theorem ZEh{n:Nat}(h:∀d∈ds,okD n d=vG):okD (n+1) (.fl ds)=vG:=by simpa[okD]using h
end
def cutD{α:Type}(xs:List α)(lo hi:Option Int):List α:=(xs.drop (HT.sIx xs.length 0 lo)).take (HT.sIx xs.length xs.length hi-HT.sIx xs.length 0 lo)
def Rx(z:Str)(lo hi:Option Int):Str:=⟨(cutD z.cps.toList lo hi).toArray⟩
theorem ZNU(xs:List α)(lo hi:Option Int):(cutD xs lo hi).length<=xs.length:=by unfold cutD;rw[j4,jG];lia
def M9(t:Option DE)(S:DSt)(G:DH):R (Option Int):=match t with
 |none=>.ok vF G
 |some t=>(t S G).bind λd G1=>match d with
  |.int i=>.ok (vE i) G1
  |_=>.bad
def Zv(d:D)(lo hi:Option Int)(G:DH):R D:=match d with
 |.str z=>if z.length<=1000000 then .ok (.str (Rx z lo hi)) G else .bad
 |.tup xs=>.ok (.tup (cutD xs lo hi)) G
 |d=>match Ir d G with
  |some xs=>.ok (.ref G.length) (G++[.lst (cutD xs lo hi)])
  |none=>.bad
def dSl(e:DE)(lo hi:Option DE):DE:=λS G=>(e S G).bind λd G1=>(M9 lo S G1).bind λl G2=>(M9 hi S G2).bind λh G3=>Zv d l h G3
theorem Zf(n:Nat)(v:Int):((HT.sIx n n (vE v):Nat):Int)=max 0 (min (if v<0 then v+(n:Int)else v) n)/\((HT.sIx n 0 (vE v):Nat):Int)=max 0 (min (if v<0 then v+(n:Int)else v) n):=by
 unfold HT.sIx;by_cases hv:v<0
 ·simp only[if_pos hv];lia
 ·simp only[if_neg hv];lia
theorem ZSH(xs:Array Nat)(i k:Nat):(zZ k).filterMap (λm=>xs[i+m]?)=(xs.toList.drop i).take k:=by
 induction k generalizing i with
 |zero=>simp
 | succ k ih=>
  rw[qE,qY];have e:(List.map Nat.succ (zZ k)).filterMap (λm=>xs[i+m]?)=(zZ k).filterMap (λm=>xs[i+1+m]?):=by
   rw[qX]
   congr 1
   funext m;simp only[Function.comp]
   congr 1
   lia
  rw[e,ih (i+1)];by_cases hi:i<xs.size
  ·have h1:xs[i+0]?=vE xs[i]:=by simp[hi]
   rw[h1];have h2:xs.toList.drop i=xs[i]::xs.toList.drop (i+1):=by rw[zM (by simpa using hi)];simp
   rw[h2];simp
  ·have h1:xs[i+0]?=vF:=by simp;lia
   rw[h1];simp only;rw[zP (by simp;lia),zP (by simp;lia)];simp
theorem ZSk(x:Str)(lo hi:Option Int):Txt.slice x lo hi=Rx x lo hi:=by
 have hlen:x.length=x.cps.toList.length:=by simp[Str.length]
 have key:(Builtin.Str.strSliceIndices lo hi 1 x.length).filterMap (x.cps[·]?)=cutD x.cps.toList lo hi:=by
  have e1:∀(v:Option Int),(match v with |none=>(0:Int)|some i=>max 0 (min (if i<0 then i+(x.length:Int)else i) x.length))=((HT.sIx x.length 0 v:Nat):Int):=λv=>by
   cases v with
   |none=>rfl
   |some i=>exact(Zf x.length i).2.symm
  have e2:∀(v:Option Int),(match v with |none=>(x.length:Int)|some i=>max 0 (min (if i<0 then i+(x.length:Int)else i) x.length))=((HT.sIx x.length x.length v:Nat):Int):=λv=>by
   cases v with
   |none=>rfl
   |some i=>exact(Zf x.length i).1.symm
  have e3:Builtin.Str.strSliceIndices lo hi 1 x.length=sliceRange ((HT.sIx x.length 0 lo:Nat):Int) ((HT.sIx x.length x.length hi:Nat):Int) 1:=by
   rw[<-e1 lo,<-e2 hi];unfold Builtin.Str.strSliceIndices
   cases lo<;>cases hi<;>simp
  rw[e3];unfold sliceRange cutD;rw[qX,<-hlen];generalize HT.sIx x.length 0 lo=i;generalize HT.sIx x.length x.length hi=j;have e4:((λa=>x.cps[a]?) ∘ λ(k:Nat)=>((i:Int)+1*(k:Int)).toNat)=λk=>x.cps[i+k]? :=by
   funext k;simp only[Function.comp]
   congr 1
   lia
  have e5:(if(1:Int)>0 then if(i:Int)<(j:Int)then((j:Int)-i+1-1)/1 else 0 else if(i:Int)>(j:Int)then((i:Int)-j-1-1) / -1 else 0).toNat=j-i:=by
   rw[if_pos (by lia)];split
   ·rw[Int.ediv_one];lia
   ·lia
  rw[e4,e5];exact ZSH x.cps i (j-i)
 unfold Txt.slice Rx;split
 ·rename_i h;have h':(Builtin.Str.strSliceIndices lo hi 1 x.length).length=x.length:=by simpa using h
  have hsz:(cutD x.cps.toList lo hi).length=x.cps.toList.length∨(cutD x.cps.toList lo hi).length<x.cps.toList.length:=by have:=ZNU x.cps.toList lo hi;lia
  have hall:(cutD x.cps.toList lo hi).length=x.cps.toList.length:=by
   have e3:(Builtin.Str.strSliceIndices lo hi 1 x.length).length=HT.sIx x.length x.length hi-HT.sIx x.length 0 lo:=by
    have e1:∀(v:Option Int),(match v with |none=>(0:Int)|some i=>max 0 (min (if i<0 then i+(x.length:Int)else i) x.length))=((HT.sIx x.length 0 v:Nat):Int):=λv=>by
     cases v with
     |none=>rfl
     |some i=>exact(Zf x.length i).2.symm
    have e2:∀(v:Option Int),(match v with |none=>(x.length:Int)|some i=>max 0 (min (if i<0 then i+(x.length:Int)else i) x.length))=((HT.sIx x.length x.length v:Nat):Int):=λv=>by
     cases v with
     |none=>rfl
     |some i=>exact(Zf x.length i).1.symm
    have e3:Builtin.Str.strSliceIndices lo hi 1 x.length=sliceRange ((HT.sIx x.length 0 lo:Nat):Int) ((HT.sIx x.length x.length hi:Nat):Int) 1:=by
     rw[<-e1 lo,<-e2 hi];unfold Builtin.Str.strSliceIndices
     cases lo<;>cases hi<;>simp
    rw[e3];unfold sliceRange;rw[qQ,List.length_range];generalize HT.sIx x.length 0 lo=i;generalize HT.sIx x.length x.length hi=j;rw[if_pos (by lia)];split
    ·rw[Int.ediv_one];lia
    ·lia
   have hj:HT.sIx x.length x.length hi<=x.length:=HT.ZEy _ _ (zK _) hi;unfold cutD;rw[j4,jG,<-hlen];lia
  have hs:(cutD x.cps.toList lo hi).Sublist x.cps.toList:=(List.take_sublist _ _).trans (List.drop_sublist _ _);rw[hs.eq_of_length hall]
 ·rw[key]
section
variable{X:Cx}{E:XK}
theorem ZNn:SlR X (λx lo hi H Q=>∃z:Str,x=.str z/\z.length<=sizeLine/\Q (.str (Rx z lo hi)) H):=by
 intro vD s σ H x v vl vu lo hi sl Q I rx hs pl pu h;obtain⟨z,rfl,hz,q⟩:=h;obtain⟨t,rfl⟩:=rx;refine⟨"str",_,PySem.F.slot_str_getitem.lookup,typeIs_str _ _ _,?_⟩
 have fin:∀(l u:Option (Int×Tok)),vl=partValue l->vu=partValue u->l.map (·.1)=lo->u.map (·.1)=hi->vY (vZ X.prog X.w) X.A (getItem (.str z t) (.ref sl)) (EP X vD σ Q) X.xe s:=by
  rintro l u rfl rfl rfl rfl
  refine wpAny_getItem_str_slice (l:=l) (u:=u) (st:=vF) (show s.heap.IsSlice sl l u vF from hs) rfl ?_
  have e:∀Q',(Txt.slice z (l.map (·.1)) (u.map (·.1))).length<=sizeLine/\(∀t' k,Q' (.str (Txt.slice z (l.map (·.1)) (u.map (·.1))) t') {s with toks:=k})->(sliceMade z t l u vF).post Q' s:=λQ' hq=>post_val_or_str hq
  refine e _ ⟨zB (Txt.slice_le z _ _) hz,λt' k=>?_⟩;rw[ZSk];exact⟨.str _,H,I.tok k,⟨t',rfl⟩,q⟩
 cases pl with
 |none=>cases pu with
  |none=>exact fin vF vF rfl rfl rfl rfl
  |int j tj=>exact fin vF (vE (j,tj)) rfl rfl rfl rfl
 |int i ti=>cases pu with
  |none=>exact fin (vE (i,ti)) vF rfl rfl rfl rfl
  |int j tj=>exact fin (vE (i,ti)) (vE (j,tj)) rfl rfl rfl rfl
theorem ZKr{prog:xK}{E:xj->xq->Prop}{t sl:xZ}{items:Array xj}{vl vu:xj}{lo hi:Option Int}{Q:xj->xq->Prop}(ht:IsTup s.heap t items)(hs:s.heap.IsSliceOf sl vl vu .none)(pl:IsPart vl lo)(pu:IsPart vu hi)
  (hw:HT.sIx items.size 0 lo=0/\HT.sIx items.size items.size hi=items.size) (h:Q (.ref t) s):vY (vZ prog w) A (getItem (.ref t) (.ref sl)) Q E s:=by
 obtain⟨os,hos,hcs,hds⟩:=id hs;have hTs:s.TypeIs (.ref sl) "slice":=⟨os,hos,hcs⟩;unfold getItem
 try with_reducible refine vk ?_
 first|refine vz (v7 ?_)|skip
 refine vz (wpAny_sequenceKey ht.typeIs (by decide) ?_);refine vz (vj (name:=Str.ofString "__getitem__") ht.typeIs PyProof.Rows.slot_tuple_getitem
  (vx PyProof.Rows.slot_tuple_getitem ht.typeIs entry_tuple_getitem ?_ (args_tuple_getitem _ _)))
 show vY _ _ (Builtin.Tuple.tupleItemsOf (.ref t) >>=_) _ _ s;refine vz (tupleItemsOf_ ht ?_);refine vz (wpAny_typeOf hTs ?_);rw[if_pos (by decide)];refine vz (HT.ZG8 hs pl pu ?_);have hyes:(((HT.sIx items.size 0 lo:Nat):Int)==0&&(1:Int)==1&&(HT.sIx items.size items.size hi-HT.sIx items.size 0 lo)==items.size)=vG:=by rw[hw.1,hw.2];simp
 show vY _ _ (if(((HT.sIx items.size 0 lo:Nat):Int)==0&&(1:Int)==1&&(HT.sIx items.size items.size hi-HT.sIx items.size 0 lo)==items.size)=vG then _ else _) _ _ s;rw[if_pos hyes];refine vz ?_;unfold Builtin.Tuple.tupleIsExact;refine vz (wpAny_typeOf ht.typeIs (v7 ?_));rw[if_pos (by decide)];exact vz (wpAny_rule (v7 ⟨_,rfl,v7 h⟩))
theorem ZSi:SlR X (λx lo hi H Q=>∃a xs,x=.ref a/\SqT X.K H a xs/\(HT.sIx xs.length 0 lo=0/\HT.sIx xs.length xs.length hi=xs.length)/\Q (.ref a) H):=by
 intro vD s σ H x v vl vu lo hi sl Q I rx hs pl pu h;obtain⟨a,xs,rfl,hx,hw,q⟩:=h;cases rx;obtain⟨its,r,ht,hz⟩:=I.tuple hx;have hlen:its.toArray.size=xs.length:=by rw[zY];exact r.length.symm
 exact⟨"tuple",_,PyProof.Rows.slot_tuple_getitem.lookup,ht.typeIs,ZKr ht hs pl pu (by rw[hlen];exact hw) ⟨.ref a,H,I,rfl,q⟩⟩
def Qs(E:XK)(a:Wd)(r:R (Option Int))(Q:Option Int->Hp->Prop):Prop:=match r with
 |.ok k G=>∀(b:Wd),Ext a b->Sim b G->Q k b.H
 |.err x G=>XOk E a x G
 |.bad=>False
def QO(X:Cx)(E:XK)(e:Option xX)(t:Option DE):Prop:=PO X e (λσ H Q=>∃(a:Wd)(S:DSt)(G:DH),a.K=X.K/\a.H=H/\Sim a G/\RepS a S σ/\Qs E a (M9 t S G) Q)
theorem _root_._L.PO.mono{e:Option xX}{t t':TO}(h:PO X e t)(w:∀σ H Q,t' σ H Q->t σ H Q):PO X e t':=λvD s σ H Q I q=>h vD s σ H Q I (w σ H Q q)
theorem ZHJ:QO X E vF vF:=ZSs.mono λσ H Q h=>by obtain⟨a,S,G,hk,rfl,s,r,h⟩:=h;exact h a (Ext.refl a) s
theorem ZKX(he:QE X E e t):QO X E (vE e) (vE t):=(ZQ3 he).mono λσ H Q h=>by
 obtain⟨a,S,G,hk,rfl,s,r,h⟩:=h;refine⟨a,S,G,hk,rfl,s,r,?_⟩
 have h':Qs E a ((t S G).bind λd G1=>match d with | .int i=>.ok (vE i) G1|_=>.bad) Q:=h
 cases ht:t S G with
 |ok d G1=>
  rw[ht]at h';intro b v x sb rv;cases d with
  |int i=>exact⟨i,rv,h' b x sb⟩
  |_=>exact h'.elim
 |err x G1=>rw[ht]at h';exact h'
 |bad=>rw[ht]at h';exact h'
theorem Reps.cutD(r:Reps a ds vs)(lo hi:Option Int):Reps a (_D.cutD ds lo hi) (Lr vs lo hi):=by unfold _D.cutD Lr;rw[r.length];exact(r.drop _).take _
theorem Qs.imp{r:R (Option Int)}{Q Q':Option Int->Hp->Prop}(h:Qs E a r Q)(w:∀v H,Q v H->Q' v H):Qs E a r Q':=by
 cases r with
 |ok d G=>exact λb x s=>w _ _ (h b x s)
 |err e G=>exact h
 |bad=>exact h
theorem ZGp{r:R (Option Int)}{f:Option Int->DH->R D}(h:out E a (r.bind f) Q):
  Qs E a r (λk H=>∃(b:Wd)(G:DH),b.H=H/\Ext a b/\Sim b G/\r=.ok k G/\out E b (f k G) Q):=by
 cases r with
 |ok d G=>exact λb x s=>⟨b,G,rfl,x,s,rfl,out.mono x h⟩
 |err e G=>exact h
 |bad=>exact h
theorem ZFo{lo hi:Option xX}{tl th:Option DE}{p2 pos:Pos}(he:QE X E e te)(hl:QO X E lo tl)(hu:QO X E hi th):QE X E (.Subscript e (.Slice lo hi vF p2) pos) (dSl te tl th):=
 (ZPU (ZPl.or (ZL8.or (ZSi.or ZNn))) he hl hu).mono λσ H Q h=>by
 obtain⟨a,S,G,hk,rfl,s,r,h⟩:=h;refine⟨a,S,G,hk,rfl,s,r,(Gp h).imp ?_⟩;rintro v _ ⟨b,d,G1,rfl,x,s1,q,_,h1⟩;refine⟨b,S,G1,x.k.trans hk,rfl,s1,r.mono x,(ZGp h1).imp ?_⟩;rintro l _ ⟨c,G2,rfl,y,s2,_,h2⟩;refine⟨c,S,G2,y.k.trans (x.k.trans hk),rfl,s2,(r.mono x).mono y,(ZGp h2).imp ?_⟩;rintro u _ ⟨c3,G3,rfl,y3,s3,_,h3⟩;have hk3:=y3.k.trans (y.k.trans (x.k.trans hk));have q3:=(q.mono y).mono y3
 have lst:out E c3 (match Ir d G3 with |some xs=>.ok (.ref G3.length) (G3++[.lst (cutD xs l u)])|none=>.bad) Q->rSlL X.K v l u c3.H Q:=λh3=>by
  split at h3
  ·rename_i xs hx;obtain⟨p,vs,e1,q1,r1⟩:=Sx s3 q3 hx;exact⟨p,vs,e1,by rw[<-hk3];exact q1,λp hp=>M4 s3 (Reps.cutD r1 l u) h3 p hp⟩
  ·exact h3.elim
 cases d with
 | str z=>
  have h4:out E c3 (if z.length<=1000000 then .ok (.str (Rx z l u)) G3 else .bad) Q:=h3;split at h4
  ·rename_i hl
   cases(show v=V.str z from q3)
   exact .inr (.inr (.inr ⟨z,rfl,zB hl size6,h4 c3 _ (Ext.refl _) s3 rfl⟩))
  ·exact h4.elim
 | tup xs=>
  have h4:out E c3 (.ok (.tup (cutD xs l u)) G3) Q:=h3;obtain⟨p,vs,e1,q1,r1⟩:=q3;by_cases hw:HT.sIx vs.length 0 l=0/\HT.sIx vs.length vs.length u=vs.length
  ·refine .inr (.inr (.inl ⟨p,vs,e1,by rw[<-hk3];exact q1,hw,h4 c3 _ (Ext.refl _) s3 ⟨p,vs,rfl,q1,?_⟩⟩));have:cutD xs l u=xs:=by unfold cutD;rw[r1.length,hw.1,hw.2,<-r1.length];simp
   rw[this];exact r1
  ·exact .inr (.inl ⟨p,vs,e1,by rw[<-hk3];exact q1,hw,λp hp=>ZBU s3 (Reps.cutD r1 l u) h4 p hp⟩)
 |fl xs=>exact .inl (lst h3)
 |ref i=>exact .inl (lst h3)
 |non=>exact(show False from h3).elim
 |bl _=>exact(show False from h3).elim
 |int _=>exact(show False from h3).elim
 |ty _=>exact(show False from h3).elim
section
variable{name:Str}{id:String}{f:D->List D->DH->R D}{o e:xX}{es:List xX}{to:DE}{t:DA}{apos cpos:Pos}
end
end
section
variable{S:DSt}{G:DH}
@[simp]theorem ev_Sl{e:DE}{lo hi:Option DE}:dSl e lo hi S G=(e S G).bind λd G1=>(M9 lo S G1).bind λl G2=>(M9 hi S G2).bind λh G3=>Zv d l h G3:=id rfl
@[simp]theorem ZUh:M9 vF S G=.ok vF G:=id rfl
@[simp]theorem ZUt:M9 (vE t) S G=(t S G).bind λd G1=>match d with | .int i=>.ok (vE i) G1|_=>.bad:=id rfl
@[simp]theorem ev_slT{lo hi:Option Int}:Zv (.tup xs) lo hi G=.ok (.tup (cutD xs lo hi)) G:=id rfl
@[simp]theorem ZUo:Oc [.fl xs] G=.ok (.ref G.length) (G++[.lst xs]):=id rfl
@[simp]theorem R7{z:Str}{i:Int}:Aj (.str z) (.int i) G=if z.length<=1000000 then(match atI z.cps.toList i with |some c=>.ok (sgn c) G|none=>.bad)else .bad:=id rfl
end
end _D
namespace _D
open PySem PySem.Spec _L
open PyProof.Rows hiding St
open Builtin.Str
variable{g:DG}{te:DE}{S:DSt}{G:DH}
section
variable(p:Nat->Bool)(m:Nat)
end
def CStep(g:DG)(c:DB)(te:DE)(S:DSt)(G:DH)(x:D)(r:Option D):Prop:=
 ∃S1,g x S G=.ok S1 G/\((c S1 G=.ok vH G/\r=vF)∨(c S1 G=.ok vG G/\∃d,te S1 G=.ok d G/\r=vE d))
theorem Yp{c:DB}{F:D->Option D}:∀{xs:List D},(∀x∈xs,CStep g c te S G x (F x))->Dt g c te S xs G=.ok (xs.filterMap F) G
 |[],_=>rfl
 |x::xs,h=>by
  obtain⟨S1,h1,h2⟩:=h x (by simp);have ih:=Yp (λy hy=>h y (zX _ hy));rw[ZCH,h1];rcases h2 with⟨h2,h3⟩|⟨h2,d,h3,h4⟩
  ·simp[h2,h3,ih,qY]
  ·simp[h2,h3,h4,ih,qY]
theorem ZJG{i:Nat}{c:DB}{F:D->Option D}{xs:List D}(hG:G[i]?=vE (.lst xs))(h:∀x∈xs,CStep g c te S G x (F x)):
  ∀(n j:Nat),j+n=xs.length->Hv i g c te S n j G=.ok ((xs.drop j).filterMap F) G
 |0,j,hj=>by
  unfold Hv;rw[hG];simp only;rw[if_pos (by lia),zP (by lia)]
  rfl
 |n+1,j,hj=>by
  have hlt:j<xs.length:=by lia
  have ih:=ZJG hG h n (j+1) (by lia);obtain⟨S1,h1,h2⟩:=h xs[j] (qx hlt);unfold Hv;rw[hG];simp only;rw[zJ hlt];simp only[h1,R.Ji];rw[zM hlt,qY];rcases h2 with⟨h2,h3⟩|⟨h2,d,h3,h4⟩
  ·simp[h2,h3,ih]
  ·simp[h2,h3,h4,ih]
theorem ZFq{i:Nat}{c:DB}{F:D->Option D}{xs:List D}(hG:G[i]?=vE (.lst xs))(h:∀x∈xs,CStep g c te S G x (F x)):
  Hv i g c te S xs.length 0 G=.ok (xs.filterMap F) G:=ZJG hG h xs.length 0 (by lia)
theorem ZHe{x y:Str}(h:x.cps.toList=y.cps.toList):x=y:=by obtain⟨a⟩:=x;obtain⟨b⟩:=y;simp only at h;rw[Array.toList_inj.mp h]
end _D
namespace _D
open PySem PySem.Spec _L
open PyProof.Rows hiding St
variable{h h':Heap}{p z:xZ}{old:xj}{i:Nat}{os:List xj}
inductive Src where
 |l (a:xZ)
 |t (a:xZ)
variable{sr:Src}{l:List (Src×xZ)}
noncomputable def Src.itn:Src->String
 |.l _=>"list_iterator"
 |.t _=>"tuple_iterator"
noncomputable def Src.adr:Src->xZ
 |.l a=>a
 |.t a=>a
def Src.it(h:Heap)(p:xZ)(k:Nat)(sr:Src):Prop:=∃o,h.get? p=vE o/\o.cls=.type sr.itn/\o.data=.fields #[.ref sr.adr,.int k 0]
def Src.val(h:Heap)(xs:Array xj):Src->Prop
 |.l a=>h.IsList a xs
 |.t a=>h.IsTuple a xs
theorem Src.it.at{k:Nat}(x:sr.it h p k)(e:∀o,h.get? p=vE o->h'.get? p=vE o):sr.it h' p k:=let⟨o,ho,r⟩:=x;⟨o,e o ho,r⟩
theorem Src.val.at{xs:Array xj}(x:sr.val h xs)(e:∀o,h.get? sr.adr=vE o->h'.get? sr.adr=vE o):sr.val h' xs:=by
 cases sr with
 |l a=>obtain⟨o,ho,r⟩:=x;exact⟨o,e o ho,r⟩
 |t a=>obtain⟨o,ho,r⟩:=x;exact⟨o,e o ho,r⟩
theorem Src.it.lt{k:Nat}(x:sr.it h p k):p<h.objs.size:=let⟨_,ho,_⟩:=x;zj ho
section
variable{prog:xK}{w:xw}{A:xJ}{E:xj->xq->Prop}{s:xq}
theorem Src.val.obj{xs:Array xj}(x:sr.val h xs):∃o n,h.get? sr.adr=vE o/\o.data=.seq xs n:=by
 cases sr with
 |l a=>obtain⟨o,ho,_,n,hd⟩:=x;exact⟨o,n,ho,hd⟩
 |t a=>obtain⟨o,ho,_,n,hd⟩:=x;exact⟨o,n,ho,hd⟩
theorem Src.next_item{k:Nat}{xs:Array xj}{x:xj}{Q:xj->xq->Prop}(hit:sr.it s.heap p k)(hv:sr.val s.heap xs)(hx:xs[k]?=vE x)
  (hQ:∀h',sr.it h' p (k+1)->qj p s.heap h'->Q x {s with heap:=h'}):vY (vZ prog w) A (Builtin.SmallTypes.nextOf (.ref p)) Q E s:=by
 cases sr with
 |l a=>exact wpAny_nextOf_list_item (show s.heap.IsListIter p a k from hit) hv hx hQ
 |t a=>
  obtain⟨o,ho,hc,hd⟩:=id hit;obtain⟨ol,hol,_,nl,hdl⟩:=hv;have hT:s.TypeIs (.ref p) "tuple_iterator":=⟨o,ho,hc⟩;unfold Builtin.SmallTypes.nextOf;refine vz (vj (name:=Str.ofString "__next__") hT PySem.F.slot_tuple_iterator_next (vx PySem.F.slot_tuple_iterator_next hT PySem.F.entry_tuple_iterator_next ?_ (PySem.F.args_tuple_iterator_next_1 _)));refine vz (m:=field (.ref p) 0) (vv ho hd (x:=.ref a) rfl ?_)
  show vY _ _ (if(Value.ref a==Value.none)=vG then _ else(field (.ref p) 1 >>=_)) _ _ s
  rw[if_neg (show¬((Value.ref a==Value.none)=vG)from zy)]
  refine vz (m:=field (.ref p) 1) (vv ho hd (x:=.int k 0) rfl (vz (m:=seqItems? (.ref a)) (wpAny_seqItems hol hdl ?_)));simp only[Int.toNat_natCast,hx];refine vz (wpAny_setField ho hd (by simp) (v7 ⟨x,rfl,v7 (hQ _ ⟨_,jH _ ho (Obj.isFreed_of_fields (Obj.data_mapFields hd _)),(Obj.cls_mapFields ..).trans hc,?_⟩ (qj.update ..))⟩))
  rw[Obj.data_mapFields hd];simp[vJ,Src.adr]
theorem Src.next_end{k:Nat}{xs:Array xj}{Q:xj->xq->Prop}(hh:A.handled=vF)(hit:sr.it s.heap p k)(hv:sr.val s.heap xs)(hx:xs[k]?=vF)
  (hE:∀h' e,Heap.ExtBut p s.heap h'->(∃o,h'.get? e=vE o/\o.cls=.type "StopIteration")->E (.ref e) {s with heap:=h'}):vY (vZ prog w) A (Builtin.SmallTypes.nextOf (.ref p)) Q E s:=by
 cases sr with
 |l a=>exact wpAny_nextOf_list_end hh (show s.heap.IsListIter p a k from hit) hv hx hE
 |t a=>
  obtain⟨o,ho,hc,hd⟩:=id hit;obtain⟨ol,hol,_,nl,hdl⟩:=hv;have hT:s.TypeIs (.ref p) "tuple_iterator":=⟨o,ho,hc⟩;unfold Builtin.SmallTypes.nextOf;refine vz (vj (name:=Str.ofString "__next__") hT PySem.F.slot_tuple_iterator_next (vx PySem.F.slot_tuple_iterator_next hT PySem.F.entry_tuple_iterator_next ?_ (PySem.F.args_tuple_iterator_next_1 _)));refine vz (m:=field (.ref p) 0) (vv ho hd (x:=.ref a) rfl ?_)
  show vY _ _ (if(Value.ref a==Value.none)=vG then _ else(field (.ref p) 1 >>=_)) _ _ s
  rw[if_neg (show¬((Value.ref a==Value.none)=vG)from zy)]
  refine vz (m:=field (.ref p) 1) (vv ho hd (x:=.int k 0) rfl (vz (m:=seqItems? (.ref a)) (wpAny_seqItems hol hdl ?_)));simp only[Int.toNat_natCast,hx];refine vz (wpAny_rule (vz (wpAny_setField ho hd (by simp) (vz (m:=newExc (.type "StopIteration") []) ?_))));simp only[newExc,newTuple]
  refine vz (v5 (vz (m:=firstArgMember _ _) (wpAny_of_eq (a:=Value.none) (by first|rfl|(simp only[firstArgMember];rfl)) (v5 ?_ (by size_fits)))) (by size_fits))
  simp only[raiseNew];refine vz (wpAny_handled ?_)
  first|rw[show A.in1.handled=vF from hh]|rw[hh]
  exact vz (v7 (wpAny_throw (hE _ _ (((qj.update ..).extBut.push _).push _) ⟨_,z0 _ rfl,rfl⟩)))
theorem Src.iter{xs:Array xj}{Q:xj->xq->Prop}(hv:sr.val s.heap xs)
  (hQ:Q (.ref s.heap.objs.size) {s with heap:=s.heap.push {cls:=.type sr.itn,data:=.fields #[.ref sr.adr,.int 0 0]}}):vY (vZ prog w) A (pyIter (.ref sr.adr)) Q E s:=by
 cases sr with
 |l a=>exact wpAny_pyIter_list hv hQ
 |t a=>exact wpAny_pyIter_tuple hv hQ
end
abbrev En(h:Heap)(e it:xZ)(f0:xj)(i:Int)(g old:xj):Prop:=
 h.get? e=vE {cls:=.type "enumerate",dict:=vF,data:=.fields #[f0,.bool vH,.ref it,vJ i,g,old],slots:= #[]}
def Gv(i:Int)(g:xj):Prop:=g=.none∨∃t,g=.int i t
section
variable{prog:xK}{w:xw}{A:xJ}{E:xj->xq->Prop}{s:xq}
theorem ZNt{e it:xZ}{k:Nat}{i:Int}{xs:Array xj}{x g:xj}{Q:xj->xq->Prop}(he:En s.heap e it .none i g old)(hg:Gv i g)(hit:sr.it s.heap it k)(hv:sr.val s.heap xs)(hx:xs[k]?=vE x)(hne:e≠it)
  (hQ:∀h' t tk,En h' e it (vJ s.heap.objs.size) (i+1) .none x->sr.it h' it (k+1)->h'.get? s.heap.objs.size=vE {cls:=.type "tuple",data:=.seq #[.int i t,x]}->h'.objs.size=s.heap.objs.size+1->
   (∀b o,b≠e->b≠it->s.heap.get? b=vE o->h'.get? b=vE o)->Q (.ref s.heap.objs.size) {s with heap:=h',toks:=tk}):
  vY (vZ prog w) A (Builtin.«enumerate.__next__» ⟨[.ref e],[]⟩) (λfin s'=>∃v,fin=.done (.ret v)/\Q v s') E s:=by
 obtain⟨hp,gg,d,tk,os⟩:=s;refine vz (m:=field (.ref e) 2) (vv he rfl (x:=.ref it) rfl (vz (m:=Builtin.SmallTypes.nextOf (.ref it)) (Src.next_item hit hv hx λh₁ hit₁ hs₁=>?_)));have he₁:En h₁ e it .none i g old:=(hs₁.2 e hne).trans he;have k₁:∀b o,b≠e->b≠it->hp.get? b=vE o->h₁.get? b=vE o:=λb o _ hb q=>hs₁.extBut b o hb q
 have z₁:h₁.objs.size=hp.objs.size:=hs₁.1;refine vz (m:=field (.ref e) 3) (vv he₁ rfl (x:=vJ i) rfl ?_);refine vz (m:=field (.ref e) 4) (vv he₁ rfl (x:=g) rfl ?_)
 have rest:∀(t:Tok)(tk':Nat),vY (vZ prog w) A (do
   setField (.ref e) 3 (vJ (i+1));setField (.ref e) 4 .none
   let result<-newTuple [.int i t,x]
   if<-Builtin.SmallTypes.ownedTupleIsFree (.ref e)then
    rule "enumerate.__next__.owned-tuple-again"
    let old<-field (.ref e) 5
    setField (.ref e) 5 x
    Builtin.SmallTypes.ownedTupleHandOut (.ref e) result
    PySem.letGo [old] [result]
   ret result) (λfin s'=>∃v,fin=.done (.ret v)/\Q v s') E ⟨h₁,gg,d,tk',os⟩:=by
  intro t tk';refine vz (v8 he₁ (by simp) λh₂ he₂ hs₂=>?_);refine vz (v8 he₂ (by simp) λh₃ he₃ hs₃=>?_)
  replace he₃:En h₃ e it .none (i+1) .none old:=he₃
  have z₃:h₃.objs.size=hp.objs.size:=by rw[hs₃.1];show h₂.objs.size=_;rw[hs₂.1];exact z₁
  have k₃:∀b o,b≠e->b≠it->hp.get? b=vE o->h₃.get? b=vE o:=λb o h1 h2 q=>hs₃.extBut b o h1 (hs₂.extBut b o h1 (k₁ b o h1 h2 q))
  have i₃:sr.it h₃ it (k+1):=(hit₁.at λo q=>hs₂.extBut it o (Ne.symm hne) q).at λo q=>hs₃.extBut it o (Ne.symm hne) q
  refine vz (wpAny_newTuple ?_);generalize hh₄:h₃.push {cls:=.type "tuple",data:=.seq [Value.int i t,x].toArray}=h₄;have he₄:En h₄ e it .none (i+1) .none old:=by rw[<-hh₄];exact zQ _ he₃
  have ht₄:h₄.get? hp.objs.size=vE {cls:=.type "tuple",data:=.seq #[.int i t,x]}:=by rw[<-hh₄,<-z₃];exact z0 _ rfl
  have z₄:h₄.objs.size=hp.objs.size+1:=by rw[<-hh₄,qy,z₃]
  have k₄:∀b o,b≠e->b≠it->hp.get? b=vE o->h₄.get? b=vE o:=λb o h1 h2 q=>by rw[<-hh₄];exact zQ _ (k₃ b o h1 h2 q)
  have i₄:sr.it h₄ it (k+1):=i₃.at λo q=>by rw[<-hh₄];exact zQ _ q
  have ez:e<hp.objs.size:=zj he;refine vz (m:=Builtin.SmallTypes.ownedTupleIsFree (.ref e)) ?_;unfold Builtin.SmallTypes.ownedTupleIsFree;refine vz (vv he₄ rfl (x:=.none) rfl (v7 ?_));simp only[if_true];refine vz (wpAny_rule (vz (vv he₄ rfl (x:=old) rfl (vz (v8 he₄ (by simp) λh₅ he₅ hs₅=>?_)))))
  replace he₅:En h₅ e it .none (i+1) .none x:=he₅
  refine vz (m:=Builtin.SmallTypes.ownedTupleHandOut _ _) ?_;unfold Builtin.SmallTypes.ownedTupleHandOut;refine vz (v8 he₅ (by simp) λh₆ he₆ hs₆=>?_);refine v8 he₆ (by simp) λh₇ he₇ hs₇=>?_
  refine vz (wpAny_letGo (v7 ⟨_,rfl,?_⟩));have up:∀b o,b≠e->h₄.get? b=vE o->h₇.get? b=vE o:=λb o hb q=>hs₇.extBut b o hb (hs₆.extBut b o hb (hs₅.extBut b o hb q))
  show Q (.ref h₃.objs.size) _;rw[z₃];rw[z₃]at he₇;exact hQ h₇ t tk' he₇ (i₄.at λo q=>up it o (Ne.symm hne) q) (up _ _ (jJ ez) ht₄) (by rw[hs₇.1];show h₆.objs.size=_;rw[hs₆.1];show h₅.objs.size=_;rw[hs₅.1];exact z₄) λb o h1 h2 q=>up b o h1 (k₄ b o h1 h2 q)
 rcases hg with rfl|⟨t,rfl⟩
 ·exact vz (m:=mkInt i) (wpAny_mkInt (rest tk (tk+1)))
 ·exact vz (m:=(pure (Value.int i t):Sem xj)) (v7 (rest t tk))
theorem ZRp{e it:xZ}{k:Nat}{i:Int}{xs:Array xj}{x g:xj}{Q:Option xj->xq->Prop}(he:En s.heap e it .none i g old)(hg:Gv i g)(hit:sr.it s.heap it k)(hv:sr.val s.heap xs)(hx:xs[k]?=vE x)(hne:e≠it)
  (hQ:∀h' t tk,En h' e it (vJ s.heap.objs.size) (i+1) .none x->sr.it h' it (k+1)->h'.get? s.heap.objs.size=vE {cls:=.type "tuple",data:=.seq #[.int i t,x]}->h'.objs.size=s.heap.objs.size+1->
   (∀b o,b≠e->b≠it->s.heap.get? b=vE o->h'.get? b=vE o)->Q (vE (.ref s.heap.objs.size)) {s with heap:=h',toks:=tk}):
  vY (vZ prog w) A (pyNext (.ref e)) Q E s:=by
 have hT:s.TypeIs (.ref e) "enumerate":=⟨_,he,rfl⟩;unfold pyNext;exact vz (wpAny_attempt (vj (name:=Str.ofString "__next__") hT PySem.F.slot_enumerate_next
  (vx PySem.F.slot_enumerate_next hT PySem.F.entry_enumerate_next (ZNt he hg hit hv hx hne λh' t tk a1 a2 a3 a4 a5=>v7 (hQ h' t tk a1 a2 a3 a4 a5)) (PySem.F.args_enumerate_next_1 _))))
theorem ZQf{e it:xZ}{k:Nat}{i:Int}{xs:Array xj}{g:xj}{Q:Option xj->xq->Prop}(hh:A.handled=vF)(he:En s.heap e it .none i g old)(hit:sr.it s.heap it k)(hv:sr.val s.heap xs)(hx:xs[k]?=vF)
  (hQ:∀h',Heap.ExtBut it s.heap h'->Q vF {s with heap:=h'}):vY (vZ prog w) A (pyNext (.ref e)) Q E s:=by
 have hT:s.TypeIs (.ref e) "enumerate":=⟨_,he,rfl⟩;unfold pyNext;refine vz (wpAny_attempt (vj (name:=Str.ofString "__next__") hT PySem.F.slot_enumerate_next
  (vx PySem.F.slot_enumerate_next hT PySem.F.entry_enumerate_next (vz (m:=field (.ref e) 2) (vv he rfl (x:=.ref it) rfl (vz (m:=Builtin.SmallTypes.nextOf (.ref it)) (Src.next_end hh hit hv hx λh' x he' hx'=>?_)))) (PySem.F.args_enumerate_next_1 _))))
 obtain⟨o,ho,hc⟩:=hx';exact vz (wpAny_isInstance (T:="StopIteration") (b:=vG) ⟨o,ho,hc⟩ isSubtype_stop (v7 (hQ _ he')))
theorem ZLq{elts:List xX}{x1}{pos:Pos}{e it a:xZ}{i:Int}{g:xj}{Q:Unit->xq->Prop}(he:En s.heap e it (vJ a) i g old)
  (hQ:∀h',En h' e it .none i g old->qj e s.heap h'->Q () {s with heap:=h'}):vY (vZ prog w) A (xU (.Tuple elts x1 pos) (.ref e) (.ref a)) Q E s:=by
 unfold xU;refine vz (wpAny_load he ?_);dsimp only;rw[if_pos (by simp)];exact vz (wpAny_rule (v8 he (by simp) λh' he' hs'=>hQ h' he' hs'))
theorem ZB3{e it:xZ}{f0:xj}{i:Int}{g:xj}{Q:xj->xq->Prop}(he:En s.heap e it f0 i g old)(h:Q (.ref e) s):vY (vZ prog w) A (pyIter (.ref e)) Q E s:=by have hT:s.TypeIs (.ref e) "enumerate":=⟨_,he,rfl⟩;exact wpAny_pyIter_slot hT PySem.F.slot_enumerate_iter (vx PySem.F.slot_enumerate_iter hT PySem.F.entry_enumerate_iter (v7 ⟨_,rfl,"enumerate",_,hT,PySem.F.slot_enumerate_next.lookup,h⟩) (PySem.F.args_enumerate_iter_1 _))
end
abbrev Tp(h:Heap)(T:xZ)(xs:List xj):Prop:=h.get? T=vE {cls:=.type "tuple",data:=.seq xs.toArray}
inductive Drw (h:Heap) (i:Nat):List (Src×xZ)->List xj->Prop where
 |nil:Drw h i [] []
 |cons {sr p r x us xs} (hit:Src.it h p i sr) (hv:sr.val h xs) (hx:xs[i]?=vE x) (t:Drw h i r us):Drw h i ((sr,p)::r) (x::us)
theorem Drw.length{us:List xj}(d:Drw h i l us):us.length=l.length:=by
 induction d with
 |nil=>rfl
 |cons _ _ _ _ ih=>simp[ih]
section
variable{prog:xK}{w:xw}{A:xJ}{E:xj->xq->Prop}{s:xq}
theorem ZLU{T:xZ}{xs:List xj}{x:xj}{k:Nat}{Q:Unit->xq->Prop}(hT:Tp s.heap T xs)(hz:xs.length<=1000000)
  (h:∀h',Tp h' T (xs.set k x)->qj T s.heap h'->Q () {s with heap:=h'}):vY (vZ prog w) A (updateSeq T (·.setIfInBounds k x)) Q E s:=by
 have h1:xs.toArray.size<=sizeLine:=by rw[zY];exact zB hz size6
 refine wpAny_updateSeq hT rfl (h _ ?_ (qj.update ..)) h1 (by rw[Array.size_setIfInBounds];exact Nat.le_succ_of_le h1);show(s.heap.update T _).get? T=_;rw[jH _ hT rfl];simp[Obj.mapSeq]
def ZS(prog:xK)(w:xw)(A:xJ)(E:xj->xq->Prop)(z TO p:xZ)(k:Nat)(R:xq->Prop)(s:xq):Prop:=
 vY (vZ prog w) A (Builtin.SmallTypes.nextOf (.ref p)) (λx s1=>∃os,Tp s1.heap TO os/\os.length<=1000000/\∀h',Tp h' TO (os.set k x)->qj TO s1.heap h'->R {s1 with heap:=h'})
  (λe s'=>vY (vZ prog w) A (setField (.ref z) 0 .none) (λ_ s''=>E e s'') E s') s
theorem ZGh{TO:xZ}{k:Nat}{xs:Array xj}{x:xj}{Q:xq->Prop}(hTO:Tp s.heap TO os)(hz:os.length<=1000000)(hit:sr.it s.heap p i)(hv:sr.val s.heap xs)(hx:xs[i]?=vE x)
  (h:∀h',Tp h' TO (os.set k x)->sr.it h' p (i+1)->(∀b o,b≠TO->b≠p->s.heap.get? b=vE o->h'.get? b=vE o)->h'.objs.size=s.heap.objs.size->Q {s with heap:=h'}):ZS prog w A E z TO p k Q s:=by
 have hne:TO≠p:=λe=>by
  obtain⟨o,ho,hc,_⟩:=hit;rw[<-e,hTO]at ho;cases ho
  cases sr<;>(simp[Src.itn]at hc)
 refine Src.next_item hit hv hx λh₁ it₁ sb₁=>⟨os,sb₁.extBut _ _ hne hTO,hz,λh₂ t₂ sb₂=>?_⟩
 exact h h₂ t₂ (it₁.at λo e=>sb₂.extBut _ _ (Ne.symm hne) e) (λb o b1 b2 e=>sb₂.extBut b o b1 (sb₁.extBut b o b2 e)) (by rw[sb₂.1];show h₁.objs.size=_;rw[sb₁.1])
theorem ZEe{TO:xZ}{body:xj×Nat->Option Fin×PUnit->Sem (ForInStep (Option Fin×PUnit))}{R:Option Fin×PUnit->xq->Prop}
  (hb:∀(p:xZ)(k:Nat)(s:xq)(R':ForInStep (Option Fin×PUnit)->xq->Prop),ZS prog w A E z TO p k (λs'=>R' (.yield (vF,⟨⟩)) s') s->
   vY (vZ prog w) A (body (.ref p,k) (vF,⟨⟩)) R' E s):
  ∀(l:List (Src×xZ))(us pre post:List xj)(s:xq),Drw s.heap i l us->Tp s.heap TO (pre++post)->post.length=l.length->(pre++post).length<=1000000->(l.map (·.2)).Nodup->(∀q∈l,q.1.adr≠TO)->(∀q∈l,∀r∈l,q.1.adr≠r.2)->
   (∀h',Tp h' TO (pre++us)->(∀q∈l,q.1.it h' q.2 (i+1))->(∀b o,b≠TO->b∉l.map (·.2)->s.heap.get? b=vE o->h'.get? b=vE o)->h'.objs.size=s.heap.objs.size->R (vF,⟨⟩) {s with heap:=h'})->
   vY (vZ prog w) A (forIn ((l.map λq=>Value.ref q.2).zipIdx pre.length) (vF,⟨⟩) body) R E s
 | [],us,pre,post,s,d,hT,hl,hz,nd,na,np,hR=>by
  cases d;cases post with
  |cons _ _=>simp at hl
  |nil=>
   rw[jC,List.zipIdx_nil,List.forIn_nil];exact v7 (hR s.heap hT (λq hq=>by cases hq) (λb o _ _ e=>e) rfl)
 | (sr,p)::l,us,pre,post,s,d,hT,hl,hz,nd,na,np,hR=>by
  cases d with
  |@cons _ _ _ x us xs hit hv hx d=>
  cases post with
  |nil=>simp at hl
  | cons y post=>
   rw[zk,jM,jR];refine vz (hb p pre.length s _ (ZGh hT hz hit hv hx λh' hT' it' kp sz=>?_));have e1:(pre++y::post).set pre.length x=(pre++[x])++post:=by simp
   rw[e1]at hT';have e2:pre.length+1=(pre++[x]).length:=by simp
   dsimp only;rw[e2]
   have nd':p∉l.map (·.2)/\(l.map (·.2)).Nodup:=by simpa using nd
   have hTOp:∀q∈l,q.2≠TO:=λq hq e=>by
    have:∃sr k,Src.it s.heap q.2 k sr:=by
     clear hR na np nd nd' e1 e2 hl hT' hz
     induction d with
     |nil=>cases hq
     |cons hit _ _ _ ih=>
      rcases zw.mp hq with rfl|hq
      ·exact⟨_,_,hit⟩
      ·exact ih hq
    obtain⟨sr',k,o,ho,hc,_⟩:=this;rw[e,hT]at ho;cases ho
    cases sr'<;>(simp[Src.itn]at hc)
   have d':Drw h' i l us:=by
    have na':∀q∈l,q.1.adr≠TO:=λq hq=>na q (zX _ hq)
    have np':∀q∈l,q.1.adr≠p:=λq hq=>np q (zX _ hq) (sr,p) zW
    have pp:∀q∈l,q.2≠p:=λq hq e=>nd'.1 (zH.mpr ⟨q,hq,e⟩)
    clear hR na np nd nd' e1 e2 hl hT' hz
    induction d with
    |nil=>exact .nil
    |@cons sr1 p1 r1 x1 us1 xs1 hit1 hv1 hx1 t1 ih=>
     refine .cons (hit1.at λo e=>kp _ o (hTOp _ zW) (pp _ zW) e) (hv1.at λo e=>kp _ o (na' _ zW) (np' _ zW) e) hx1 ?_;exact ih (λq hq=>hTOp q (zX _ hq)) (λq hq=>na' q (zX _ hq)) (λq hq=>np' q (zX _ hq)) (λq hq=>pp q (zX _ hq))
   refine ZEe hb l us (pre++[x]) post {s with heap:=h'} d' hT' (by simpa using hl) (by simpa using hz) nd'.2 (λq hq=>na q (zX _ hq)) (λq hq r hr=>np q (zX _ hq) r (zX _ hr)) λh'' t'' its'' kp'' sz''=>?_
   have hpTO:p≠TO:=λe=>by
    obtain⟨o,ho,hc,_⟩:=hit;rw[e,hT]at ho;cases ho
    cases sr<;>(simp[Src.itn]at hc)
   refine hR h'' (by simpa using t'') (λq hq=>?_) (λb o b1 b2 e=>?_) (sz''.trans sz)
   ·rcases zw.mp hq with rfl|hq
    ·exact it'.at λo e=>kp'' _ o hpTO nd'.1 e
    ·exact its'' q hq
   ·simp only[zk,zw,not_or]at b2;exact kp'' b o b1 b2.2 (kp b o b1 b2.1 e)
end
inductive DrwE (h:Heap) (i:Nat):List (Src×xZ)->Prop where
 |here {sr p r xs} (hit:Src.it h p i sr) (hv:sr.val h xs) (hx:xs[i]?=vF):DrwE h i ((sr,p)::r)
 |there {sr p r x xs} (hit:Src.it h p i sr) (hv:sr.val h xs) (hx:xs[i]?=vE x) (t:DrwE h i r):DrwE h i ((sr,p)::r)
structure ApZ (TO:xZ) (l:List (Src×xZ)):Prop where
 nd:(l.map (·.2)).Nodup
 na:∀q∈l,q.1.adr≠TO
 np:∀q∈l,∀r∈l,q.1.adr≠r.2
 to:∀q∈l,q.2≠TO
theorem ApZ.tail{TO:xZ}{q:Src×xZ}(a:ApZ TO (q::l)):ApZ TO l:=
 ⟨(qD.mp (by simpa using a.nd)).2,λq hq=>a.na q (zX _ hq),λq hq r hr=>a.np q (zX _ hq) r (zX _ hr),λq hq=>a.to q (zX _ hq)⟩
section
variable{prog:xK}{w:xw}{A:xJ}{E:xj->xq->Prop}{s:xq}
theorem DrwE.at{TO:xZ}(a:ApZ TO ((sr,p)::l))(kp:∀b o,b≠TO->b≠p->h.get? b=vE o->h'.get? b=vE o)(d:DrwE h i l):DrwE h' i l:=by
 have pp:∀q∈l,q.2≠p:=λq hq e=>(qD.mp (by simpa using a.nd)).1 (zH.mpr ⟨q,hq,e⟩)
 have np:∀q∈l,q.1.adr≠p:=λq hq=>a.np q (zX _ hq) (sr,p) zW
 have a':=a.tail;clear a
 induction d with
 |here hit hv hx=>exact .here (hit.at λo e=>kp _ o (a'.to _ zW) (pp _ zW) e) (hv.at λo e=>kp _ o (a'.na _ zW) (np _ zW) e) hx
 | there hit hv hx t ih=>
  exact .there (hit.at λo e=>kp _ o (a'.to _ zW) (pp _ zW) e) (hv.at λo e=>kp _ o (a'.na _ zW) (np _ zW) e) hx
   (ih (λq hq=>pp q (zX _ hq)) (λq hq=>np q (zX _ hq)) a'.tail)
theorem ZHw{TO:xZ}{body:xj×Nat->Option Fin×PUnit->Sem (ForInStep (Option Fin×PUnit))}{R:Option Fin×PUnit->xq->Prop}(hh:A.handled=vF)
  (hb:∀(p:xZ)(k:Nat)(s:xq)(R':ForInStep (Option Fin×PUnit)->xq->Prop),ZS prog w A E z TO p k (λs'=>R' (.yield (vF,⟨⟩)) s') s->
   vY (vZ prog w) A (body (.ref p,k) (vF,⟨⟩)) R' E s):
  ∀(l:List (Src×xZ))(os:List xj)(n:Nat)(s:xq),DrwE s.heap i l->Tp s.heap TO os->os.length<=1000000->ApZ TO l->
   (∀h' e,(∀b o,b≠TO->b∉l.map (·.2)->s.heap.get? b=vE o->h'.get? b=vE o)->(∃o,h'.get? e=vE o/\o.cls=.type "StopIteration")->vY (vZ prog w) A (setField (.ref z) 0 .none) (λ_ s''=>E (.ref e) s'') E {s with heap:=h'})->
   vY (vZ prog w) A (forIn ((l.map λq=>Value.ref q.2).zipIdx n) (vF,⟨⟩) body) R E s
 |[],os,n,s,d,hT,hz,a,hE=>by cases d
 | (sr,p)::l,os,n,s,d,hT,hz,a,hE=>by
  rw[zk,jM,jR];refine vz (hb p n s _ ?_);cases d with
  |here hit hv hx=>
   exact Src.next_end hh hit hv hx λh' e xb st=>hE h' e (λb o b1 b2 q=>xb b o (λz=>b2 (by rw[z];simp)) q) st
  |there hit hv hx t=>
   refine ZGh hT hz hit hv hx λh' hT' it' kp sz=>?_
   refine ZHw hh hb l _ (n+1) {s with heap:=h'} (t.at a kp) hT' (by simpa using hz) a.tail λh'' e kp'' st=>?_
   refine hE h'' e (λb o b1 b2 q=>?_) st;simp only[zk,zw,not_or]at b2;exact kp'' b o b1 b2.2 (kp b o b1 b2.1 q)
theorem ZKB{TI TO:xZ}{R:Fin->xq->Prop}(hz:IsZip s.heap z TI TO .none)(hTI:Tp s.heap TI (l.map λq=>Value.ref q.2))(hne:l≠[])
  (h:∀h₁,IsZip h₁ z TI TO .ellipsis->qj z s.heap h₁->∀body:xj×Nat->Option Fin×PUnit->Sem (ForInStep (Option Fin×PUnit)),
   (∀(p:xZ)(k:Nat)(s:xq)(R':ForInStep (Option Fin×PUnit)->xq->Prop),ZS prog w A E z TO p k (λs'=>R' (.yield (vF,⟨⟩)) s') s->
    vY (vZ prog w) A (body (.ref p,k) (vF,⟨⟩)) R' E s)->
   vY (vZ prog w) A (forIn ((l.map λq=>Value.ref q.2).zipIdx 0) (vF,⟨⟩) body) (λr s'=>r.1=vF/\∃us,Tp s'.heap TO us/\us.length<=1000000/\IsZip s'.heap z TI TO .ellipsis/\
    ∀h',IsZip h' z TI TO (vJ s'.heap.objs.size)->Tp h' s'.heap.objs.size us->h'.objs.size=s'.heap.objs.size+1->(∀b o,b≠z->s'.heap.get? b=vE o->h'.get? b=vE o)->R (.done (.ret (.ref s'.heap.objs.size))) {s' with heap:=h'}) E {s with heap:=h₁}):
  vY (vZ prog w) A (Builtin.«zip.__next__» ⟨[.ref z],[]⟩) R E s:=by
 refine vz (m:=field (.ref z) 2) (vv hz rfl (x:=.bool vH) rfl (vz (m:=field (.ref z) 3) (vv hz rfl (x:=.ref TI) rfl (vz (m:=seqItems? (.ref TI)) (wpAny_seqItems hTI rfl ?_)))));dsimp only;have hemp:(l.map λq=>Value.ref q.2).toArray.isEmpty=vH:=by cases l with
  |nil=>exact absurd rfl hne
  |cons _ _=>simp
 rw[hemp];refine vz (m:=Builtin.SmallTypes.ownedTupleIsFree (.ref z)) ?_;unfold Builtin.SmallTypes.ownedTupleIsFree;refine vz (vv hz rfl (x:=.none) rfl (v7 ?_));simp only[if_true];refine vz (wpAny_rule (vz (vv hz rfl (x:=.ref TO) rfl (vz (v8 hz (by simp) λh₁ hz₁ hs₁=>?_)))));refine vz (v4 (h h₁ hz₁ hs₁ _ λp k s R' hst=>?_) (λr s' hr=>?_) λ_ _ x=>x)
 ·refine vz (wpAny_onRaise ?_);show vY _ _ (Builtin.SmallTypes.nextOf (.ref p) >>=λv=>pure (vE v)) _ _ s;refine vz (v4 hst (λx s1 hx=>v7 ?_) λ_ _ x=>x);obtain⟨os,hT,hl,hR⟩:=hx;dsimp only;refine vz (wpAny_seqItems hT rfl ?_);dsimp only;exact vz (ZLU hT hl λh' t' sb=>vz (wpAny_letGo (v7 (hR h' t' sb))))
 ·obtain⟨hn,us,hT,hl,hzz,hR⟩:=hr;rw[hn];dsimp only;refine vz (wpAny_seqItems hT rfl ?_);dsimp only;refine vz (wpAny_newTuple ?_ (by show us.toArray.toList.length<=_;simpa using zB hl size6));have hzlt:z<s'.heap.objs.size:=zj hzz;refine vz (m:=Builtin.SmallTypes.ownedTupleHandOut _ _) ?_;unfold Builtin.SmallTypes.ownedTupleHandOut;have e1:us.toArray.toList.toArray=us.toArray:=by simp
  rw[e1];have hz2:IsZip (s'.heap.push {cls:=.type "tuple",data:=.seq us.toArray}) z TI TO .ellipsis:=zQ _ hzz;refine vz (v8 hz2 (by simp) λh₇ hz₇ hs₇=>?_);refine v8 hz₇ (by simp) λh₈ hz₈ hs₈=>?_
  refine v7 (hR h₈ hz₈ ?_ ?_ λb o hb q=>hs₈.extBut _ _ hb (hs₇.extBut _ _ hb (zQ _ q)))
  ·exact hs₈.extBut _ _ (jJ hzlt) (hs₇.extBut _ _ (jJ hzlt) (z0 _ rfl))
  ·rw[hs₈.1];show h₇.objs.size=_;rw[hs₇.1,qy]
theorem ZMY{TI TO:xZ}{us:List xj}{Q:Option xj->xq->Prop}(hz:IsZip s.heap z TI TO .none)(hTI:Tp s.heap TI (l.map λq=>Value.ref q.2))(hTO:Tp s.heap TO os)(hlen:os.length=l.length)(hsz:l.length<=1000000)(hne:l≠[])
  (a:ApZ TO l) (zz:z≠TO/\(∀q∈l,q.2≠z/\q.1.adr≠z)) (d:Drw s.heap i l us)
  (hQ:∀h',IsZip h' z TI TO (vJ s.heap.objs.size)->Tp h' TO us->(∀q∈l,q.1.it h' q.2 (i+1))->Tp h' s.heap.objs.size us->h'.objs.size=s.heap.objs.size+1->
   (∀b o,b≠z->b≠TO->b∉l.map (·.2)->s.heap.get? b=vE o->h'.get? b=vE o)->Q (vE (.ref s.heap.objs.size)) {s with heap:=h'}):vY (vZ prog w) A (pyNext (.ref z)) Q E s:=by
 have hT:s.TypeIs (.ref z) "zip":=⟨_,hz,rfl⟩;unfold pyNext;refine vz (wpAny_attempt (vj (name:=Str.ofString "__next__") hT PySem.F.slot_zip_next (vx PySem.F.slot_zip_next hT PySem.F.entry_zip_next ?_ (PySem.F.args_zip_next_1 _))));refine ZKB hz hTI hne λh₁ hz₁ hs₁ body hb=>?_
 have k₁:∀b o,b≠z->s.heap.get? b=vE o->h₁.get? b=vE o:=λb o hb q=>hs₁.extBut b o hb q
 have d₁:Drw h₁ i l us:=by
  have h1:∀q∈l,q.2≠z/\q.1.adr≠z:=zz.2;clear hTI hlen hsz hne a zz hQ
  induction d with
  |nil=>exact .nil
  |cons hit hv hx t ih=>exact .cons (hit.at λo e=>k₁ _ o (h1 _ zW).1 e) (hv.at λo e=>k₁ _ o (h1 _ zW).2 e) hx (ih λq hq=>h1 q (zX _ hq))
 refine ZEe (z:=z) (TO:=TO) (i:=i) hb l us [] os {s with heap:=h₁} d₁ (k₁ _ _ (Ne.symm zz.1) hTO) hlen (by simpa[hlen]using hsz) a.nd a.na a.np λh₂ t₂ it₂ k₂ sz₂=>⟨rfl,us,t₂,by rw[d.length];exact hsz,?_,λh₃ z₃ p₃ s₃ k₃=>?_⟩
 ·refine k₂ _ _ zz.1 (λhm=>?_) hz₁;obtain⟨q,hq,e⟩:=zH.mp hm;exact(zz.2 q hq).1 e
 ·have e2:h₂.objs.size=s.heap.objs.size:=by rw[sz₂];exact hs₁.1
  refine⟨_,rfl,v7 ?_⟩;show Q (vE (.ref h₂.objs.size)) _;have z₃':IsZip h₃ z TI TO (vJ h₂.objs.size):=z₃;have p₃':Tp h₃ h₂.objs.size us:=p₃;have s₃':h₃.objs.size=h₂.objs.size+1:=s₃;have k₃':∀b o,b≠z->h₂.get? b=vE o->h₃.get? b=vE o:=k₃;rw[e2]at z₃' p₃' s₃'⊢;exact hQ h₃ z₃' (k₃' _ _ (Ne.symm zz.1) t₂) (λq hq=>(it₂ q hq).at λo e=>k₃' _ o (zz.2 q hq).1 e) p₃' s₃' λb o b1 b2 b3 q=>k₃' b o b1 (k₂ b o b2 b3 (k₁ b o b1 q))
theorem ZLk{TI TO:xZ}{Q:Option xj->xq->Prop}(hh:A.handled=vF)(hz:IsZip s.heap z TI TO .none)(hTI:Tp s.heap TI (l.map λq=>Value.ref q.2))(hTO:Tp s.heap TO os)(hlen:os.length=l.length)(hsz:l.length<=1000000)(hne:l≠[])
  (a:ApZ TO l) (zz:z≠TO/\(∀q∈l,q.2≠z/\q.1.adr≠z)) (d:DrwE s.heap i l)
  (hQ:∀h',(∀b o,b≠z->b≠TO->b∉l.map (·.2)->s.heap.get? b=vE o->h'.get? b=vE o)->Q vF {s with heap:=h'}):vY (vZ prog w) A (pyNext (.ref z)) Q E s:=by
 have hT:s.TypeIs (.ref z) "zip":=⟨_,hz,rfl⟩;unfold pyNext;refine vz (wpAny_attempt (vj (name:=Str.ofString "__next__") hT PySem.F.slot_zip_next (vx PySem.F.slot_zip_next hT PySem.F.entry_zip_next ?_ (PySem.F.args_zip_next_1 _))));refine ZKB hz hTI hne λh₁ hz₁ hs₁ body hb=>?_
 have k₁:∀b o,b≠z->s.heap.get? b=vE o->h₁.get? b=vE o:=λb o hb q=>hs₁.extBut b o hb q
 have d₁:DrwE h₁ i l:=by
  have h1:∀q∈l,q.2≠z/\q.1.adr≠z:=zz.2;clear hTI hlen hsz hne a zz hQ
  induction d with
  |here hit hv hx=>exact .here (hit.at λo e=>k₁ _ o (h1 _ zW).1 e) (hv.at λo e=>k₁ _ o (h1 _ zW).2 e) hx
  |there hit hv hx t ih=>exact .there (hit.at λo e=>k₁ _ o (h1 _ zW).1 e) (hv.at λo e=>k₁ _ o (h1 _ zW).2 e) hx (ih λq hq=>h1 q (zX _ hq))
 refine ZHw (A:=A.in1) (z:=z) (TO:=TO) (i:=i) (show A.in1.handled=vF from hh) hb l os 0 {s with heap:=h₁} d₁ (k₁ _ _ (Ne.symm zz.1) hTO) (by rw[hlen];exact hsz) a λh₂ e k₂ st=>?_
 have hz₂:IsZip h₂ z TI TO .ellipsis:=by refine k₂ _ _ zz.1 (λhm=>?_) hz₁;obtain⟨q,hq,e⟩:=zH.mp hm;exact(zz.2 q hq).1 e
 obtain⟨o,ho,hc⟩:=st;have hez:e≠z:=λx=>by subst x;rw[hz₂]at ho;cases ho;simp at hc
 refine v8 hz₂ (by simp) λh₃ _ hs₃=>?_
 refine vz (wpAny_isInstance (T:="StopIteration") (b:=vG) ⟨o,hs₃.extBut _ _ hez ho,hc⟩ isSubtype_stop (v7 ?_));exact hQ h₃ λb o b1 b2 b3 q=>hs₃.extBut _ _ b1 (k₂ b o b2 b3 (k₁ b o b1 q))
theorem ZIR:∀(ls:List Src)(pre:Array xj)(s:xq){Q:Array xj->xq->Prop},(∀sr∈ls,∃xs,sr.val s.heap xs)->
  (∀h',(∀q∈ls.zipIdx s.heap.objs.size,q.1.it h' q.2 0)->h'.objs.size=s.heap.objs.size+ls.length->(∀b o,s.heap.get? b=vE o->h'.get? b=vE o)->Q (pre++((ls.zipIdx s.heap.objs.size).map λq=>Value.ref q.2).toArray) {s with heap:=h'})->
  vY (vZ prog w) A (forIn (ls.map λsr=>Value.ref sr.adr) pre λx r=>do let v<-holding r.toList (pyIter x);pure (ForInStep.yield (r.push v))) Q E s
 |[],pre,s,Q,hv,h=>by rw[jC,List.forIn_nil];refine v7 ?_;have:=h s.heap (λq hq=>by cases hq) rfl (λ_ _ e=>e);simpa using this
 | sr::ls,pre,s,Q,hv,h=>by
  rw[zk,jR];obtain⟨xs,hx⟩:=hv sr zW;refine vz (vz (vk (Src.iter hx (v7 ?_))));dsimp only;have z1:(s.heap.push {cls:=.type sr.itn,data:=.fields #[.ref sr.adr,.int 0 0]}).objs.size=s.heap.objs.size+1:=qy ..;refine ZIR ls (pre.push (.ref s.heap.objs.size)) {s with heap:=s.heap.push {cls:=.type sr.itn,data:=.fields #[.ref sr.adr,.int 0 0]}} (λsr' hm=>?_) λh' hi hz kp=>?_
  ·obtain⟨ys,hy⟩:=hv sr' (zX _ hm);exact⟨ys,hy.at λo e=>zQ _ e⟩
  ·dsimp only at hi hz kp⊢;rw[z1]at hi hz⊢;have:=h h' (λq hq=>?_) (by rw[hz,zO];lia) (λb o e=>kp b o (zQ _ e))
   ·rw[jM,zk]at this;simpa using this
   ·rw[jM]at hq;rcases zw.mp hq with rfl|hq
    ·exact⟨_,kp _ _ (z0 _ rfl),rfl,rfl⟩
    ·exact hi q hq
theorem ZPi{ls:List Src}{Q:xj->xq->Prop}(hv:∀sr∈ls,∃xs,sr.val s.heap xs)(hl:ls.length<=1000000)
  (hct:checkTypeCall "zip" ⟨ls.map λsr=>Value.ref sr.adr,[]⟩=pure ()) (hcn:xG "zip.__new__" ⟨.type "zip"::ls.map λsr=>Value.ref sr.adr,[]⟩=pure ()) (hok:∀obj,argsOk "object.__init__" ⟨obj::ls.map λsr=>Value.ref sr.adr,[]⟩)
  (h:∀h' n,n=s.heap.objs.size+ls.length->IsZip h' (n+2) n (n+1) .none->Tp h' n ((ls.zipIdx s.heap.objs.size).map λq=>Value.ref q.2)->Tp h' (n+1) (ls.map λ_=>Value.none)->(∀q∈ls.zipIdx s.heap.objs.size,q.1.it h' q.2 0)->
   (∀b o,s.heap.get? b=vE o->h'.get? b=vE o)->Q (.ref (n+2)) {s with heap:=h'}):
  vY (vZ prog w) A (call (.type "zip") (ls.map λsr=>Value.ref sr.adr)) Q E s:=by
 have g:Meets (Builtin.«zip.__new__» ⟨.type "zip"::ls.map λsr=>Value.ref sr.adr,[]⟩) (λ_ R s=>(∀sr∈ls,∃xs,sr.val s.heap xs)/\
   ∀h' n,n=s.heap.objs.size+ls.length->IsZip h' (n+2) n (n+1) .none->Tp h' n ((ls.zipIdx s.heap.objs.size).map λq=>Value.ref q.2)->Tp h' (n+1) (ls.map λ_=>Value.none)->(∀q∈ls.zipIdx s.heap.objs.size,q.1.it h' q.2 0)->
    (∀b o,s.heap.get? b=vE o->h'.get? b=vE o)->R (.ok (.ret (.ref (n+2)))) {s with heap:=h'}):=
  .of_wp λprog w A R s hh=>by
   obtain⟨hv,hR⟩:=hh;have hsub:=sub_zip;unfold Builtin.«zip.__new__» Builtin.SmallTypes.newClass
   wp_walk
   refine ZIR ls #[] s hv λh1 hi hz kp=>v7 ?_
   have e1:(#[]++((ls.zipIdx s.heap.objs.size).map λq=>Value.ref q.2).toArray:Array xj).toList=(ls.zipIdx s.heap.objs.size).map λq=>Value.ref q.2:=by simp
   rw[e1];have hlen:((ls.zipIdx s.heap.objs.size).map λq=>Value.ref q.2).length=ls.length:=by simp
   refine vz (wpAny_newTuple ?_ (by rw[hlen];exact zB hl size6));refine vz (wpAny_newTuple ?_ (by rw[qQ,hlen];exact zB hl size6));refine vz ?_;unfold Builtin.SmallTypes.newRecord;dsimp only;refine v5 (v7 ⟨_,rfl,?_⟩) (by simp[sizeOk,Builtin.SmallTypes.ownedTupleFields,vX]);generalize e2:s.heap.objs.size+ls.length=n at*
   have e3:((ls.zipIdx s.heap.objs.size).map λq=>Value.ref q.2).map (λ_=>Value.none)=ls.map λ_=>Value.none:=by refine qA (by simp) λi h1 h2=>by simp
   dsimp only;rw[e3];generalize((ls.zipIdx s.heap.objs.size).map λq=>Value.ref q.2)=us at*;generalize(ls.map λ_=>Value.none)=ns at*;have s1:(h1.push {cls:=.type "tuple",data:=.seq us.toArray}).objs.size=n+1:=by rw[qy,hz]
   have s2:((h1.push {cls:=.type "tuple",data:=.seq us.toArray}).push {cls:=.type "tuple",data:=.seq ns.toArray}).objs.size=n+2:=by rw[qy,s1]
   show R (.ok (.ret (.ref ((h1.push {cls:=.type "tuple",data:=.seq us.toArray}).push {cls:=.type "tuple",data:=.seq ns.toArray}).objs.size))) _;rw[s2];refine hR _ n rfl ?_ (zQ _ (zQ _ (by rw[<-hz];exact z0 _ rfl))) (zQ _ (by rw[<-s1];exact z0 _ rfl)) (λq hq=>(hi q hq).at λo e=>zQ _ (zQ _ (zQ _ e))) λb o e=>zQ _ (zQ _ (zQ _ (kp b o e)))
   have:=z0 ((h1.push {cls:=.type "tuple",data:=.seq us.toArray}).push {cls:=.type "tuple",data:=.seq ns.toArray}) (o:={cls:=.type "zip",data:=.fields #[.none,.bool vH,.bool vH,.ref h1.objs.size,.ref (h1.push {cls:=.type "tuple",data:=.seq us.toArray}).objs.size]}) rfl;rw[s2]at this;rw[hz,s1]at this;show _=_;rw[hz,s1];exact this
 refine callType_new PySem.F.called_zip (by decide) hct hcn hok PySem.F.entry_zip_new g ⟨hv,λh' n hn hz hTI hTO hi kp=>⟨⟨_,hz,rfl⟩,h h' n hn hz hTI hTO hi kp⟩⟩
end
end _D
namespace _D
open PySem PySem.W PyProof.Rows
variable{nrem:Nat}
section
noncomputable def Cw(lt:Nat->Nat->Bool){α:Type}:KasT α->α
 |.ret a=>a
 |.ask i j k=>Cw lt (k (lt i j))
theorem Q0(lt:Nat->Nat->Bool){α β:Type}(f:α->KasT β):∀t:KasT α,Cw lt (t.bind f)=Cw lt (f (Cw lt t))
 |.ret _=>rfl
 |.ask i j k=>Q0 lt f (k (lt i j))
structure WO (lt:Nat->Nat->Bool):Prop where
 asy:∀i j,lt i j=vG->lt j i=vH
 neg:∀i j k,lt i k=vG->lt i j=vG∨lt j k=vG
variable{lt:Nat->Nat->Bool}
theorem WO.refl(o:WO lt)(i:Nat):lt i i=vH:=by
 cases h:lt i i
 ·rfl
 ·have:=o.asy i i h;rw[h]at this;exact this
theorem WO.tr(o:WO lt){i j k:Nat}(h1:lt j i=vH)(h2:lt k j=vH):lt k i=vH:=by
 cases h:lt k i
 ·rfl
 ·rcases o.neg k j i h with z|z
  ·rw[z]at h2;cases h2
  ·rw[z]at h1;cases h1
noncomputable abbrev pt(p:Array Nat)(j:Nat):Nat:=p.getD j 0
theorem Qq(p:Array Nat)(j:Nat):pt p j=(p[j]?).getD 0:=by simp[pt]
def Srt(lt:Nat->Nat->Bool)(p:Array Nat)(k:Nat):Prop:=∀i j,i<=j->j<k->lt (pt p j) (pt p i)=vH
def NIn(lt:Nat->Nat->Bool)(p:Array Nat)(k:Nat):Prop:=∀i j,i<=j->j<k->lt (pt p i) (pt p j)=vH
theorem Jm{p:Array Nat}{i j:Nat}(hj:j<=p.size)(k:Nat):pt (vC p i j) k=if i<=k/\k<j then pt p (i+j-1-k)else pt p k:=by
 rw[Qq,vC,getElem?_mirror_all hj]
 split <;> exact(Qq ..).symm
theorem ZNq{p:Array Nat}{src d:Nat}(hs:src<p.size)(hd:d<=src)(k:Nat):pt (bubble p src d) k=if k=src-d then pt p src else if src-d<k/\k<=src then pt p (k-1)else pt p k:=by
 rw[Qq,getElem?_bubble hs d hd];by_cases h1:k=src-d
 ·rw[if_pos h1,if_pos h1];exact(Qq ..).symm
 ·rw[if_neg h1,if_neg h1];by_cases h2:src-d<k/\k<=src
  ·rw[if_pos h2,if_pos h2];exact(Qq ..).symm
  ·rw[if_neg h2,if_neg h2];exact(Qq ..).symm
theorem ZDO(o:WO lt)(p:Array Nat):∀f n,1<=n->Srt lt p n->∀m,Cw lt (kas_asc p f n)=m->n<=m/\m<=n+f/\Srt lt p m/\(m<n+f->lt (pt p m) (pt p (m-1))=vG)
 |0,n,h1,h,m,e=>by have e':n=m:=e;subst e';exact⟨zK _,zK _,h,λz=>absurd z (zT _)⟩
 | f + 1,n,h1,h,m,e=>by
  unfold kas_asc at e;have e1:Cw lt (if lt (pt p n) (pt p (n-1))=vG then KasT.ret n else kas_asc p f (n+1))=m:=e;cases hc:lt (pt p n) (pt p (n-1))with
  |true=>
   rw[hc,if_pos rfl]at e1;have e':n=m:=e1;subst e';exact⟨zK _,by lia,h,λ_=>hc⟩
  | false=>
   rw[hc,if_neg (by simp)]at e1;have h':Srt lt p (n+1):=λi j hij hj=>by
    by_cases e:j<n
    ·exact h i j hij e
    ·have e':j=n:=by lia
     subst e';by_cases e2:i=j
     ·rw[e2];exact o.refl _
     ·exact o.tr (h i (j-1) (by lia) (by lia)) hc
   obtain⟨a,b,c,d⟩:=ZDO o p f (n+1) (by lia) h' m e1;exact⟨by lia,by lia,c,λz=>d (by lia)⟩
structure Dn (lt:Nat->Nat->Bool) (p:Array Nat) (n q:Nat):Prop where
 ni:NIn lt p n
 al:∀i j,n-(q+1)<=i->i<n->n-(q+1)<=j->j<n->lt (pt p i) (pt p j)=vH
 qn:q+1<=n
theorem NIn.rev{p:Array Nat}{n q:Nat}(d:Dn lt p n q)(hn:n<=p.size):NIn lt (vC p (n-(q+1)) n) n:=λi j hij hj=>by
 have:=d.qn;rw[Jm hn,Jm hn];by_cases h1:n-(q+1)<=i
 ·rw[if_pos ⟨h1,by lia⟩,if_pos ⟨by lia,hj⟩];exact d.al _ _ (by lia) (by lia) (by lia) (by lia)
 ·rw[if_neg (by lia)];by_cases h2:n-(q+1)<=j
  ·rw[if_pos ⟨h2,hj⟩];exact d.ni _ _ (by lia) (by lia)
  ·rw[if_neg (by lia)];exact d.ni i j hij hj
theorem Yb(o:WO lt):∀f(p:Array Nat)n q,n+f<=p.size->Dn lt p n q->∀r,Cw lt (kas_desc f p n q)=r->r.1.Perm p/\r.2.1<=n+f/\n<=r.2.1/\Dn lt r.1 r.2.1 r.2.2
 |0,p,n,q,hz,d,r,e=>by have e':(p,n,q)=r:=e;subst e';exact⟨.refl _,zK _,zK _,d⟩
 | f + 1,p,n,q,hz,d,r,e=>by
  have qn:=d.qn;unfold kas_desc at e;have e1:Cw lt (if lt (pt p n) (pt p (n-1))=vG then(if q>0 then kas_desc f (vC p (n-(q+1)) n) (n+1) 0 else kas_desc f p (n+1) 0)
   else .ask (p.getD (n-1) 0) (p.getD n 0) λd=>if d=vG then .ret (p,n,q)else kas_desc f p (n+1) (q+1))=r:=e
  clear e;cases hc:lt (pt p n) (pt p (n-1))with
  | true=>
   rw [hc,if_pos rfl]at e1;have ext:∀p':Array Nat,NIn lt p' n->pt p' n=pt p n->(∀k,k<n->lt (pt p n) (pt p' k)=vG∨k<n)->lt (pt p' (n-1)) (pt p' n)=vH->Dn lt p' (n+1) 0:=λp' hni _ _ hl=>by
    refine⟨λi j hij hj=>?_,λi j h1 h2 h3 h4=>?_,by lia⟩
    ·by_cases e:j<n
     ·exact hni i j hij e
     ·have e':j=n:=by lia
      subst e';by_cases e2:i=j
      ·rw[e2];exact o.refl _
      ·exact o.tr hl (hni i (j-1) (by lia) (by lia))
    ·have e1:i=n:=by lia
     have e2:j=n:=by lia
     rw[e1,e2];exact o.refl _
   by_cases hq:q>0
   ·rw[if_pos hq]at e1;have hl:lt (pt (vC p (n-(q+1)) n) (n-1)) (pt (vC p (n-(q+1)) n) n)=vH:=by
     rw[Jm (by lia),Jm (by lia),if_pos (by lia),if_neg (by lia)];cases hx:lt (pt p (n-(q+1)+n-1-(n-1))) (pt p n)
     ·rfl
     ·rcases o.neg _ (pt p (n-1)) _ hx with z|z
      ·rw[d.al _ _ (by lia) (by lia) (by lia) (by lia)]at z;cases z
      ·rw[o.asy _ _ hc]at z;cases z
    obtain⟨a,b,c,dd⟩:=Yb o f _ (n+1) 0 (by rw[vC,mirror_size];lia) (ext _ (NIn.rev d (by lia)) (by rw[Jm (by lia),if_neg (by lia)]) (λk hk=>.inr hk) hl) r e1;exact⟨a.trans (mirror_perm ..),by lia,by lia,dd⟩
   ·rw[if_neg hq]at e1;obtain⟨a,b,c,dd⟩:=Yb o f p (n+1) 0 (by lia) (ext p d.ni rfl (λk hk=>.inr hk) (o.asy _ _ hc)) r e1;exact⟨a,by lia,by lia,dd⟩
  | false=>
   rw[hc,if_neg (by simp)]at e1;have e2:Cw lt (if lt (pt p (n-1)) (pt p n)=vG then .ret (p,n,q)else kas_desc f p (n+1) (q+1))=r:=e1;cases hd:lt (pt p (n-1)) (pt p n)with
   |true=>
    rw[hd,if_pos rfl]at e2;have e3:(p,n,q)=r:=e2;subst e3;exact⟨.refl _,by show n<=_;lia,zK _,d⟩
   | false=>
    rw[hd,if_neg (by simp)]at e2;have al':∀i,n-(q+1)<=i->i<n+1->lt (pt p i) (pt p n)=vH/\lt (pt p n) (pt p i)=vH:=λi h1 h2=>by
     by_cases e:i=n
     ·rw[e];exact⟨o.refl _,o.refl _⟩
     ·exact⟨o.tr hd (d.al i (n-1) h1 (by lia) (by lia) (by lia)),o.tr (d.al (n-1) i (by lia) (by lia) h1 (by lia)) hc⟩
    obtain⟨a,b,c,dd⟩:=Yb o f p (n+1) (q+1) (by lia) ⟨λi j hij hj=>by
     by_cases e:j<n
     ·exact d.ni i j hij e
     ·have e':j=n:=by lia
      subst e';by_cases e2:i=j
      ·rw[e2];exact o.refl _
      ·exact o.tr hd (d.ni i (j-1) (by lia) (by lia)),λi j h1 h2 h3 h4=>by
     by_cases ei:i=n
     ·rw[ei];exact(al' j (by lia) h4).2
     ·by_cases ej:j=n
      ·rw[ej];exact(al' i (by lia) h2).1
      ·exact d.al i j (by lia) (by lia) (by lia) (by lia),by lia⟩ r e2
    exact⟨a,by lia,by lia,dd⟩
theorem ZID(o:WO lt){p:Array Nat}{n:Nat}(h1:1<=n)(hn:n<=nrem)(hz:nrem<=p.size)(d:NIn lt p n):∀r,Cw lt (kas_tail3 n nrem p)=r->r.2.Perm p/\r.1<=nrem/\1<=r.1/\Srt lt r.2 r.1:=by
 intro r e;unfold kas_tail3 at e;rw[Q0]at e;have s0:Srt lt (vC p 0 n) n:=λi j hij hj=>by rw[Jm (by lia),Jm (by lia),if_pos (by lia),if_pos (by lia)];exact d _ _ (by lia) (by lia)
 obtain⟨a,b,c,_⟩:=ZDO o (vC p 0 n) (nrem-n) n h1 s0 _ rfl;have e':(Cw lt (kas_asc (vC p 0 n) (nrem-n) n),vC p 0 n)=r:=e;subst e';exact⟨mirror_perm ..,by show Cw lt (kas_asc (vC p 0 n) (nrem-n) n)<=nrem;lia,by show 1<=Cw lt (kas_asc (vC p 0 n) (nrem-n) n);lia,c⟩
theorem ZGA(o:WO lt){p:Array Nat}{n:Nat}(h1:1<=n)(hn:n<nrem)(hz:nrem<=p.size)(al:∀i j,i<n->j<n->lt (pt p i) (pt p j)=vH)(hl:lt (pt p n) (pt p (n-1))=vG):
  ∀r,Cw lt (kas_descPart n nrem p)=r->r.2.Perm p/\r.1<=nrem/\1<=r.1/\Srt lt r.2 r.1:=by
 intro r e;unfold kas_descPart at e;rw[Q0]at e;have d0:Dn lt p (n+1) 0:=⟨λi j hij hj=>by
  by_cases e:j<n
  ·exact al i j (by lia) e
  ·have e':j=n:=by lia
   subst e';by_cases e2:i=j
   ·rw[e2];exact o.refl _
   ·exact o.tr (o.asy _ _ hl) (al i (j-1) (by lia) (by lia)),λi j _ _ _ _=>by
  have e1:i=n:=by lia
  have e2:j=n:=by lia
  rw[e1,e2];exact o.refl _,by lia⟩
 obtain⟨a,b,c,dd⟩:=Yb o (nrem-(n+1)) p (n+1) 0 (by lia) d0 _ rfl
 revert a b c dd e
 generalize Cw lt (kas_desc (nrem-(n+1)) p (n+1) 0)=x;intro e a b c dd;have hx:x.1.size=p.size:=a.size_eq;split at e
 ·obtain⟨a',b',c',d'⟩:=ZID o (by lia) (by lia) (by rw[vC,mirror_size];lia) (NIn.rev dd (by lia)) r e;exact⟨(a'.trans (mirror_perm ..)).trans a,b',c',d'⟩
 ·obtain⟨a',b',c',d'⟩:=ZID o (by lia) (by lia) (by lia) dd.ni r e;exact⟨a'.trans a,b',c',d'⟩
theorem ZLG(o:WO lt){p:Array Nat}(h1:1<=nrem)(hz:nrem<=p.size):∀r,Cw lt (kas_count nrem p)=r->r.2.Perm p/\r.1<=nrem/\1<=r.1/\Srt lt r.2 r.1:=by
 intro r e;unfold kas_count at e;rw[Q0]at e;obtain⟨a,b,c,d⟩:=ZDO o p (nrem-1) 1 (zK _) (λi j hij hj=>by
  have e1:i=0:=by lia
  have e2:j=0:=by lia
  rw[e1,e2];exact o.refl _) _ rfl
 revert a b c d e
 generalize Cw lt (kas_asc p (nrem-1) 1)=n;intro e a b c d;split at e
 ·have e':(n,p)=r:=e;subst e';exact⟨.refl _,by show n<=nrem;lia,a,c⟩
 ·rename_i hne;have hn:n<nrem:=by
   have:n≠nrem:=by simpa using hne
   lia
  have hl:=d (by lia);split at e
  ·rename_i hgt;have e':Cw lt (if lt (pt p 0) (pt p (n-1))=vG then .ret (n,p)else kas_descPart n nrem (vC p 0 n))=r:=e;cases hc:lt (pt p 0) (pt p (n-1))with
   |true=>
    rw[hc,if_pos rfl]at e';have e2:(n,p)=r:=e';subst e2;exact⟨.refl _,by show n<=nrem;lia,a,c⟩
   | false=>
    rw[hc,if_neg (by simp)]at e';have al:∀i j,i<n->j<n->lt (pt p i) (pt p j)=vH:=λi j hi hj=>o.tr (c j (n-1) (by lia) (by lia) |> λz=>z) (o.tr hc (c 0 i (by lia) hi) |> λz=>by exact z)
    obtain⟨a',b',c',d'⟩:=ZGA o (p:=vC p 0 n) a hn (by rw[vC,mirror_size];lia) (λi j hi hj=>by
     rw[Jm (by lia),Jm (by lia),if_pos (by lia),if_pos (by lia)];exact al _ _ (by lia) (by lia)) (by
     rw[Jm (by lia),Jm (by lia),if_neg (by lia),if_pos (by lia)];rcases o.neg _ (pt p (0+n-1-(n-1))) _ hl with z|z
     ·exact z
     ·rw[al _ _ (by lia) (by lia)]at z;cases z) r e'
    exact⟨a'.trans (mirror_perm ..),b',c',d'⟩
  ·have e1:n=1:=by lia
   subst e1;exact ZGA o (zK _) hn hz (λi j hi hj=>by
    have e1:i=0:=by lia
    have e2:j=0:=by lia
    rw[e1,e2];exact o.refl _) hl r e
theorem ZCt(o:WO lt)(p:Array Nat)(k:Nat)(hs:Srt lt p k):∀f l r,r-l<=f->l<=r->r<=k->(∀i,i<l->lt (pt p k) (pt p i)=vH)->(∀i,r<=i->i<k->lt (pt p k) (pt p i)=vG)->
  ∀m,Cw lt (kas_place p k f l r)=m->m<=k/\(∀i,i<m->lt (pt p k) (pt p i)=vH)/\(∀i,m<=i->i<k->lt (pt p k) (pt p i)=vG)
 |0,l,r,hf,hlr,hr,h1,h2,m,e=>by have e':l=m:=e;subst e';exact⟨by lia,h1,λi hi hk=>h2 i (by lia) hk⟩
 | f+1,l,r,hf,hlr,hr,h1,h2,m,e=>by
  unfold kas_place at e;split at e
  ·have e':l=m:=e;subst e';exact⟨by lia,h1,λi hi hk=>h2 i (by lia) hk⟩
  ·rename_i hlt;have e':Cw lt (if lt (pt p k) (pt p ((l+r)/2))=vG then kas_place p k f l ((l+r)/2)else kas_place p k f ((l+r)/2+1) r)=m:=e;cases hc:lt (pt p k) (pt p ((l+r)/2))with
   |true=>
    rw[hc,if_pos rfl]at e';refine ZCt o p k hs f l ((l+r)/2) (by lia) (by lia) (by lia) h1 (λi hi hk=>?_) m e';rcases o.neg _ (pt p i) _ hc with z|z
    ·exact z
    ·rw[hs _ i hi hk]at z;cases z
   |false=>
    rw[hc,if_neg (by simp)]at e';exact ZCt o p k hs f ((l+r)/2+1) r (by lia) (by lia) hr (λi hi=>o.tr (hs i ((l+r)/2) (by lia) (by lia)) hc) h2 m e'
theorem ZFn(o:WO lt):∀f(p:Array Nat)k,k+f=p.size->Srt lt p k->(Cw lt (kas_bin f p k)).Perm p/\Srt lt (Cw lt (kas_bin f p k)) p.size
 |0,p,k,hz,hs=>⟨.refl _,by
  have:k=p.size:=by lia
  rw[<-this];exact hs⟩
 | f + 1,p,k,hz,hs=>by
  unfold kas_bin;rw[Q0];obtain⟨hm,h1,h2⟩:=ZCt o p k hs k 0 k (by lia) (by lia) (zK _) (λi hi=>by lia) (λi hi hk=>by lia) _ rfl
  revert hm h1 h2
  generalize Cw lt (kas_place p k k 0 k)=m;intro hm h1 h2;have sz:(bubble p k (k-m)).size=p.size:=bubble_size ..;have hk:k<p.size:=by lia
  have e:∀j,pt (bubble p k (k-m)) j=if j=m then pt p k else if m<j/\j<=k then pt p (j-1)else pt p j:=λj=>by
   rw[ZNq hk (by lia)];have:k-(k-m)=m:=by lia
   rw[this]
  obtain⟨a,b⟩:=ZFn o f (bubble p k (k-m)) (k+1) (by lia) (λi j hij hj=>by
   rw[e i,e j];by_cases ji:j=m
   ·rw[if_pos ji];by_cases ii:i=m
    ·rw[if_pos ii];exact o.refl _
    ·rw[if_neg ii,if_neg (by lia)];exact h1 i (by lia)
   ·rw[if_neg ji];by_cases jm:m<j
    ·rw[if_pos ⟨jm,by lia⟩];by_cases ii:i=m
     ·rw[if_pos ii];exact o.asy _ _ (h2 _ (by lia) (by lia))
     ·rw[if_neg ii];by_cases im:m<i
      ·rw[if_pos ⟨im,by lia⟩];exact hs _ _ (by lia) (by lia)
      ·rw[if_neg (by lia)];exact hs _ _ (by lia) (by lia)
    ·rw[if_neg (by lia),if_neg (by lia),if_neg (by lia)];exact hs i j hij (by lia))
  rw[sz]at b;exact⟨a.trans (bubble_perm ..),b⟩
theorem ZKI(o:WO lt){n:Nat}(hn:1<=n):(Cw lt (kas_sort n)).toList.Perm (zZ n)/\Srt lt (Cw lt (kas_sort n)) n:=by
 unfold kas_sort;rw[Q0];obtain⟨a,b,c,d⟩:=ZLG o (p:=(zZ n).toArray) (nrem:=n) hn (by simp) _ rfl
 revert a b c d
 generalize Cw lt (kas_count n (zZ n).toArray)=x;intro a b c d;have hx:x.2.size=n:=by rw[a.size_eq];simp
 split
 ·have e:max x.1 1=x.1:=by lia
  rw[e];obtain⟨a',b'⟩:=ZFn o (n-x.1) x.2 x.1 (by lia) d;rw[hx]at b';exact⟨by simpa using(a'.trans a).toList,b'⟩
 ·have e:x.1=n:=by lia
  rw[e]at d;exact⟨by simpa[Cw]using a.toList,d⟩
end
end _D
namespace _D
open PySem PySem.Spec _L
open PyProof.Rows hiding St
variable{vD:List (xZ×Obj)}{σ:St}{H:Hp}{s:xq}{w:xw}{K:PySem.W.Frag}{elts:List xX}{i:Nat}{a:Wd}{ta:DA}
section
variable{X:Cx}{vD:List (xZ×Obj)}{σ:St}{H:Hp}{s:xq}{h':Heap}
theorem ZB5{t':Nat}{fp:List xZ}(I:Inv X vD σ H s)(k:∀b o,b∉fp->s.heap.get? b=vE o->h'.get? b=vE o)(hf:∀b∈fp,FpOk X vD H b):Inv X vD σ H {s with heap:=h',toks:=t'}:=by
 have nit:∀b u,H b=vE u->b∉fp:=λb u e z=>by rw[(hf b z).1]at e;cases e
 refine I.step (g':=s.gens) (d':=s.drawn) (ch:=fp) (λb hb=>?_) (λb o _ _ hc e _=>k b o hc e) (λb o _ _ hc e _=>⟨o.slots,k b o hc e⟩) (λ_ _ _ _ n=>n)
  (λb o hc e=>⟨o,k b o hc e⟩) (λ_ _ e=>e) (λ_ _ _ e=>e) (λb ps e=>⟨#[],by rw[e];simp⟩) (λm hm=>?_) (λb u e=>?_) I.bare
 ·obtain⟨f0,f1,f2,f3,f4,f5⟩:=hf b hb;exact⟨f3,f1,f4,f5⟩
 ·obtain⟨o,es,ep,ho,r⟩:=hm;exact⟨o,es,ep,k _ o (λz=>(hf _ z).2.1 rfl) ho,r⟩
 ·refine(I.hok b u e).stay (λc v hc q=>k c v ?_ q) (λ_ q=>q) λ_ _ q=>q
  rcases hc with z|z
  ·rw[z];exact nit b u e
  ·exact nit c _ z
theorem ZEu{t':Nat}{fp:List xZ}{p:xZ}{xs:List V}{its:List xj}(I:Inv X vD σ H s)(k:∀b o,b∉fp->s.heap.get? b=vE o->h'.get? b=vE o)(hf:∀b∈fp,FpOk X vD H b)(hp:s.heap.objs.size<=p)
  (hz:xs.length<=sizeLine) (r:Vals xs its) (ht:Tp h' p its):Inv X vD σ (upd H p (.tup xs)) {s with heap:=h',toks:=t'}:=by
 obtain⟨g0,g1,g2,g3,g4,g5⟩:=I.Ke (H':=H) hp (I.hok.fresh hp);exact ZBH (ZB5 I k hf) g0 (zB I.sz hp) g1 g4 g5 ⟨hz,its,r,_,ht,rfl,_,rfl⟩
end
def Src.sq(K:PySem.W.Frag)(H:Hp)(xs:List V):Src->Prop
 |.l a=>SqL K H a xs
 |.t a=>SqT K H a xs
variable{sr:Src}{ls:List Src}
theorem Src.sq.val{X:Cx}{xs:List V}(I:Inv X vD σ H s)(h:sr.sq X.K H xs):∃its:List xj,Vals xs its/\sr.val s.heap its.toArray/\xs.length<=sizeLine:=by
 cases sr with
 |l a=>obtain⟨its,r,p,hz⟩:=I.list h;exact⟨its,r,p.isList,hz⟩
 |t a=>obtain⟨its,r,p,hz⟩:=I.tuple h;exact⟨its,r,p,hz⟩
theorem Src.sq.inj{X:Cx}{xs ys:List V}(I:Inv X vD σ H s)(h:sr.sq X.K H xs)(h':sr.sq X.K H ys):xs=ys:=by
 cases sr with
 |l a=>exact I.ZCV h h'
 |t a=>exact I.ZBh h h'
noncomputable def Ite(K:PySem.W.Frag)(sr:Src)(n:Int):It:=
 ⟨λi H=>∃xs x,sr.sq K H xs/\xs[i]?=vE x,λi H v H'=>∃p x,v=.ref p/\H p=vF/\H'=upd H p (.tup [.int (n+i),x])/\∀xs,sr.sq K H xs->xs[i]?=vE x,λi H=>∃xs,sr.sq K H xs/\xs.length<=i⟩
theorem ZJj{P:xK}{x1}{pos:Pos}(sr:Src)(n:Int)(e it:xZ)(hne:e≠it):
  Turn P w K (.Tuple elts x1 pos) (Ite K sr n) [e,it] e (λi h=>∃g old,En h e it .none (n+i) g old/\Gv (n+i) g/\sr.it h it i) where
 mem:=by simp
 obj:=λi h st b hb=>by
  obtain⟨g,old,he,_,o,ho,_,hd⟩:=st;rcases(show b=e∨b=it by simpa using hb)with rfl|rfl
  ·exact⟨_,he,λv z=>by cases z⟩
  ·exact⟨o,ho,λv z=>by rw[hd]at z;cases z⟩
 keep:=λi h h' st k=>by obtain⟨g,old,he,hg,hi⟩:=st;exact⟨g,old,k e (by simp) _ he,hg,hi.at λo q=>k it (by simp) o q⟩
 item:=by
  intro X hP hw hK hc i vD s σ H E I hf st hg;subst hP hw hK;obtain⟨xs,x,hq,hx⟩:=hg;obtain⟨its,rv,hv,hz⟩:=Src.sq.val I hq;obtain⟨u,hu,ru⟩:=rv.get hx;obtain⟨g,old,he,hgv,hi⟩:=st;refine ZRp he hgv hi hv (x:=u) (by simpa using hu) hne λh1 t tk e1 i1 t1 z1 k1=>⟨_,rfl,?_⟩
  refine ZLq (s:={s with heap:=h1,toks:=tk}) e1 λh2 e2 sb=>?_
  have hpe:s.heap.objs.size≠e:=jJ (zj he);have I2:Inv X vD σ (upd H s.heap.objs.size (.tup [.int (n+i),x])) {s with heap:=h2,toks:=tk}:=
   ZEu (fp:=[e,it]) (its:=[.int (n+i) t,u]) I (λb o hb q=>by
    have hb':b≠e/\b≠it:=by simpa using hb
    exact sb.extBut b o hb'.1 (k1 b o hb'.1 hb'.2 q)) hf (zK _) (by show 2<=sizeLine;decide) (.cons ⟨t,rfl⟩ (.cons ru .nil)) (sb.extBut _ _ hpe t1)
  have hfr:H s.heap.objs.size=vF:=I.hok.fresh (zK _);refine⟨.ref s.heap.objs.size,_,I2,rfl,⟨_,x,rfl,hfr,rfl,λys hy=>by rw[Src.sq.inj I hy hq];exact hx⟩,⟨.none,u,?_,.inl rfl,i1.at λo q=>sb.extBut _ _ (Ne.symm hne) q⟩,λb hb=>?_⟩
  ·have ee:n+(i:Int)+1=n+((i+1:Nat):Int):=by lia
   rw[<-ee];exact e2
  ·have hb':b=e∨b=it:=by simpa using hb
   rw[Bd (λz=>?_)]
   ·exact(hf b hb).1
   ·rcases hb' with rfl|rfl
    ·exact hpe z.symm
    ·have hlt:=Src.it.lt hi;rw[z]at hlt;exact zT _ hlt
 done:=by
  intro X hP hw hK hc i vD s σ H E I hf st hg;subst hP hw hK;obtain⟨xs,hq,hx⟩:=hg;obtain⟨its,rv,hv,hz⟩:=Src.sq.val I hq;obtain⟨g,old,he,hgv,hi⟩:=st;have hl:=rv.length;refine ZQf (I.ok.hd hc) he hi hv (by simp;lia) λh1 xb=>⟨rfl,?_⟩
  exact ZB5 (t':=s.toks) (fp:=[e,it]) I (λb o hb q=>xb b o (λz=>hb (by simp[z])) q) hf
 self:=λ_ _ _ _ _ st h=>by obtain⟨g,old,he,_⟩:=st;exact ZB3 he h
section
variable{X:Cx}{E:XK}
theorem ZPk{prog:xK}{A:xJ}{E:xj->xq->Prop}{xs:Array xj}{Q:xj->xq->Prop}(hv:sr.val s.heap xs)
  (h:∀h',En h' (s.heap.objs.size+1) s.heap.objs.size .none 0 .none .none->sr.it h' s.heap.objs.size 0->(∀b o,s.heap.get? b=vE o->h'.get? b=vE o)->Q (.ref (s.heap.objs.size+1)) {s with heap:=h'}):
  vY (vZ prog w) A (call (.type "enumerate") [.ref sr.adr]) Q E s:=by
 have g:Meets (Builtin.«enumerate.__new__» ⟨[.type "enumerate",.ref sr.adr],[]⟩) (λ_ R s=>sr.val s.heap xs/\
   R (.ok (.ret (.ref (s.heap.push {cls:=.type sr.itn,data:=.fields #[.ref sr.adr,.int 0 0]}).objs.size)))
    {s with heap:=(s.heap.push {cls:=.type sr.itn,data:=.fields #[.ref sr.adr,.int 0 0]}).push {cls:=.type "enumerate",data:=.fields #[.none,.bool vH,.ref s.heap.objs.size,vJ 0,.none,.none]}}):=
  .of_wp λprog w A R s h=>by
   obtain⟨hp,g,d,tk,os⟩:=s;obtain⟨hl,h⟩:=h;have hsub:=sub_enumerate;have hL:sr.val (Shared.heap ⟨hp,g,d,tk,os⟩) xs:=hl
   wp_walk
   refine wpAny_stack_any λst=>v7 ?_
   split
   ·rename_i c _ _ _ _ _
    cases(c==Value.type "enumerate")<;>(wp_walk using Src.iter hL;exact⟨_,rfl,h⟩)
   ·wp_walk using Src.iter hL
    exact⟨_,rfl,h⟩
 refine callType_new PySem.F.called_enumerate (by decide) (PySem.F.typeCall_enumerate_1 _) (PySem.F.newCall_enumerate_1 _) (λobj=>PySem.F.args_object_init_2 obj _) PySem.F.entry_enumerate_new g ⟨hv,?_⟩;have hz:(s.heap.push {cls:=.type sr.itn,data:=.fields #[.ref sr.adr,.int 0 0]}).objs.size=s.heap.objs.size+1:=qy ..;show _/\_;rw[hz];have he:En ((s.heap.push {cls:=.type sr.itn,data:=.fields #[.ref sr.adr,.int 0 0]}).push {cls:=.type "enumerate",data:=.fields #[.none,.bool vH,.ref s.heap.objs.size,vJ 0,.none,.none]}) (s.heap.objs.size+1) s.heap.objs.size .none 0 .none .none:=by
  have:=z0 (s.heap.push {cls:=.type sr.itn,data:=.fields #[.ref sr.adr,.int 0 0]}) (o:={cls:=.type "enumerate",data:=.fields #[.none,.bool vH,.ref s.heap.objs.size,vJ 0,.none,.none]}) rfl;rw[hz]at this;exact this
 exact⟨⟨_,he,rfl⟩,h _ he ⟨_,zQ _ (z0 _ rfl),rfl,rfl⟩ λb o x=>zQ _ (zQ _ x)⟩
def ZL7(K:PySem.W.Frag)(ta:TA):TI:=λσ H R=>ta σ H λvs H1=>∃sr xs,vs=[.ref (Src.adr sr)]/\sr.sq K H1 xs/\R (Ite K sr 0) H1
theorem ZRm{elts:List xX}{x1}{tp:Pos}{a:xX}{ta:TA}{p pos:Pos}(hg:Gl X "enumerate")(hm:X.mg "enumerate"=vF)(ha:PA X [a] ta)(hs:vW [a] X.env=[(vH,eval a X.env)]:=by rfl):PI X (.Tuple elts x1 tp) (.Call (.Name "enumerate" p) [a] [] pos) (ZL7 X.K ta):=by
 intro vD s σ H R I h;refine Call_ (Jo I hg hm PyProof.Rows.boot_enumerate (PyProof.Rows.callWith_type1 (thn (ha pos vD s σ H _ I h) λus s1 ⟨vs,H1,I1,r1,q1⟩=>?_) hs rfl));obtain⟨sr,xs,e,hq,q⟩:=q1;subst e;cases r1 with
 |cons r rr=>
  cases rr;cases r;obtain⟨its,rv,hv,hz⟩:=Src.sq.val I1 hq;refine ZPk hv λh' he hi kp=>?_
  refine ZB3 he ?_;have I2:Inv X vD σ H1 {s1 with heap:=h'}:=I1.kept (t':=s1.toks) kp;refine⟨s1.heap.objs.size+1,[s1.heap.objs.size+1,s1.heap.objs.size],_,_,H1,rfl,I2,ZJj sr 0 _ _ (Nat.succ_ne_self _),⟨.none,.none,by simpa using he,.inl rfl,hi⟩,λb hb=>?_,q⟩;have hb':b=s1.heap.objs.size+1∨b=s1.heap.objs.size:=by simpa using hb
  have hle:s1.heap.objs.size<=b:=by rcases hb' with rfl|rfl<;>lia
  exact I1.Ke hle (I1.hok.fresh hle)
end
inductive DrV (K:PySem.W.Frag) (H:Hp) (i:Nat):List Src->List V->Prop where
 |nil:DrV K H i [] []
 |cons {sr r v us xs} (hq:Src.sq K H xs sr) (hx:xs[i]?=vE v) (t:DrV K H i r us):DrV K H i (sr::r) (v::us)
inductive StV (K:PySem.W.Frag) (H:Hp) (i:Nat):List Src->Prop where
 |here {sr r xs} (hq:Src.sq K H xs sr) (hx:xs.length<=i):StV K H i (sr::r)
 |there {sr r v xs} (hq:Src.sq K H xs sr) (hx:xs[i]?=vE v) (t:StV K H i r):StV K H i (sr::r)
noncomputable def Itz(K:PySem.W.Frag)(ls:List Src):It:=
 ⟨λi H=>∃us,DrV K H i ls us,λi H v H'=>∃p us,v=.ref p/\H p=vF/\H'=upd H p (.tup us)/\∀us',DrV K H i ls us'->us'=us,λi H=>StV K H i ls⟩
theorem DrV.length{us:List V}(d:DrV K H i ls us):us.length=ls.length:=by
 induction d with
 |nil=>rfl
 |cons _ _ _ ih=>simp[ih]
section
variable{X:Cx}{vD:List (xZ×Obj)}{σ:St}{H:Hp}{s:xq}
theorem DrV.inj(I:Inv X vD σ H s):∀{ls:List Src}{us us':List V},DrV X.K H i ls us->DrV X.K H i ls us'->us=us'
 |[],_,_,d,d'=>by cases d;cases d';rfl
 | sr::ls,_,_,d,d'=>by
  cases d with
  | cons hq hx t=>
   cases d' with
   |cons hq' hx' t'=>
    have e:=Src.sq.inj I hq hq';subst e;rw[hx]at hx';cases hx';rw[DrV.inj I t t']
theorem DrV.drw(I:Inv X vD σ H s):∀{l:List (Src×xZ)}{us:List V},DrV X.K H i (l.map (·.1)) us->(∀q∈l,q.1.it s.heap q.2 i)->∃ws,Drw s.heap i l ws/\Vals us ws
 |[],us,d,h=>by cases d;exact⟨[],.nil,.nil⟩
 | (sr,p)::l,us,d,h=>by
  cases d with
  |cons hq hx t=>
   obtain⟨its,rv,hv,hz⟩:=Src.sq.val I hq;obtain⟨u,hu,ru⟩:=rv.get hx;obtain⟨ws,d',r'⟩:=DrV.drw I t λq hq=>h q (zX _ hq)
   exact⟨u::ws,.cons (h (sr,p) zW) hv (by simpa using hu) d',.cons ru r'⟩
theorem StV.drw(I:Inv X vD σ H s):∀{l:List (Src×xZ)},StV X.K H i (l.map (·.1))->(∀q∈l,q.1.it s.heap q.2 i)->DrwE s.heap i l
 |[],d,h=>by cases d
 | (sr,p)::l,d,h=>by
  cases d with
  |here hq hx=>
   obtain⟨its,rv,hv,hz⟩:=Src.sq.val I hq;have hl:=rv.length;exact .here (h (sr,p) zW) hv (by simp;lia)
  |there hq hx t=>
   obtain⟨its,rv,hv,hz⟩:=Src.sq.val I hq;obtain⟨u,hu,ru⟩:=rv.get hx;exact .there (h (sr,p) zW) hv (by simpa using hu) (StV.drw I t λq hq=>h q (zX _ hq))
end
theorem ZRW{P:xK}{x1}{pos:Pos}(l:List (Src×xZ))(z TI TO:xZ)(a:ApZ TO l)(zz:z≠TO/\(∀q∈l,q.2≠z/\q.1.adr≠z))(tt:TI≠z/\TI≠TO/\∀q∈l,q.2≠TI)(hsz:l.length<=1000000)(hne:l≠[]):
  Turn P w K (.Tuple elts x1 pos) (Itz K (l.map (·.1))) (z::TI::TO::l.map (·.2)) z
   (λi h=>IsZip h z TI TO .none/\Tp h TI (l.map λq=>Value.ref q.2)/\(∃os,Tp h TO os/\os.length=l.length)/\∀q∈l,q.1.it h q.2 i) where
 mem:=by simp
 obj:=λi h st b hb=>by
  obtain⟨hz,hTI,⟨os,hTO,_⟩,hi⟩:=st;rcases zw.mp hb with rfl|hb
  ·exact⟨_,hz,λv z=>by cases z⟩
  ·rcases zw.mp hb with rfl|hb
   ·exact⟨_,hTI,λv z=>by cases z⟩
   ·rcases zw.mp hb with rfl|hb
    ·exact⟨_,hTO,λv z=>by cases z⟩
    ·obtain⟨q,hq,rfl⟩:=zH.mp hb;obtain⟨o,ho,_,hd⟩:=hi q hq;exact⟨o,ho,λv z=>by rw[hd]at z;cases z⟩
 keep:=λi h h' st k=>by obtain⟨hz,hTI,⟨os,hTO,ho⟩,hi⟩:=st;exact⟨k z (by simp) _ hz,k TI (by simp) _ hTI,⟨os,k TO (by simp) _ hTO,ho⟩,λq hq=>(hi q hq).at λo e=>k q.2 (by simp only[zw];exact .inr (.inr (.inr (zH.mpr ⟨q,hq,rfl⟩)))) o e⟩
 item:=by
  intro X hP hw hK hc i vD s σ H E I hf st hg;subst hP hw hK;obtain⟨us,dv⟩:=hg;obtain⟨hz,hTI,⟨os,hTO,ho⟩,hi⟩:=st;obtain⟨ws,dw,rv⟩:=DrV.drw I dv hi;refine ZMY hz hTI hTO ho hsz hne a zz dw λh1 z1 t1 i1 p1 s1 k1=>⟨_,rfl,?_⟩
  refine wpAny_letOwnedTupleGo_zip (s:={s with heap:=h1}) z1 λh2 z2 sb=>?_
  have hpz:s.heap.objs.size≠z:=jJ (zj hz);have hul:us.length<=sizeLine:=by rw[dv.length,qQ];exact zB hsz size6
  have I2:Inv X vD σ (upd H s.heap.objs.size (.tup us)) {s with heap:=h2}:=
   ZEu (t':=s.toks) (fp:=z::TI::TO::l.map (·.2)) (its:=ws) I (λb o hb q=>by simp only[zw,not_or]at hb;exact sb.extBut b o hb.1 (k1 b o hb.1 hb.2.2.1 hb.2.2.2 q)) hf (zK _) hul rv (sb.extBut _ _ hpz p1)
  have hfr:H s.heap.objs.size=vF:=I.hok.fresh (zK _)
  have up:∀b o,b≠z->b≠TO->b∉l.map (·.2)->s.heap.get? b=vE o->h2.get? b=vE o:=λb o b1 b2 b3 q=>sb.extBut b o b1 (k1 b o b1 b2 b3 q)
  refine⟨.ref s.heap.objs.size,_,I2,rfl,⟨_,us,rfl,hfr,rfl,λus' d'=>DrV.inj I d' dv⟩,⟨z2,up TI _ tt.1 tt.2.1 (λhm=>?_) hTI,⟨ws,sb.extBut _ _ (Ne.symm zz.1) t1,dw.length⟩,λq hq=>(i1 q hq).at λo e=>sb.extBut _ _ (zz.2 q hq).1 e⟩,λb hb=>?_⟩
  ·obtain⟨q,hq,e⟩:=zH.mp hm;exact tt.2.2 q hq e
  ·rw [Bd (λe=>?_)]
   ·exact(hf b hb).1
   ·have lt:b<s.heap.objs.size:=by
     rcases zw.mp hb with rfl|hb
     ·exact zj hz
     ·rcases zw.mp hb with rfl|hb
      ·exact zj hTI
      ·rcases zw.mp hb with rfl|hb
       ·exact zj hTO
       ·obtain⟨q,hq,rfl⟩:=zH.mp hb;exact(hi q hq).lt
    rw[e]at lt;exact zT _ lt
 done:=by
  intro X hP hw hK hc i vD s σ H E I hf st hg;subst hP hw hK;obtain⟨hz,hTI,⟨os,hTO,ho⟩,hi⟩:=st;have dw:=StV.drw I hg hi;refine ZLk (I.ok.hd hc) hz hTI hTO ho hsz hne a zz dw λh1 k1=>⟨rfl,?_⟩
  exact ZB5 (t':=s.toks) (fp:=z::TI::TO::l.map (·.2)) I (λb o hb q=>by simp only[zw,not_or]at hb;exact k1 b o hb.1 hb.2.2.1 hb.2.2.2 q) hf
 self:=λ_ _ _ _ _ st h=>wpAny_pyIter_zip st.1 h
def Ip (G:DH) (j:Nat):List D->Option (Option (List D))
 |[]=>vE (vE [])
 | d::r=>match Ci d G with
  |none=>vF
  | some xs=>match xs[j]? with
   |none=>vE vF
   |some x=>match Ip G j r with
    |some (vE ys)=>vE (vE (x::ys))
    |o=>o
def Gz(ds:List D)(j:Nat)(G:DH):Option (Option D):=(Ip G j ds).map λo=>o.map D.tup
def lenOf(G:DH)(d:D):Nat:=match Ci d G with
 |some xs=>xs.length
 |none=>0
def Ld(G:DH)(d:D):Bool:=(Ci d G).isSome
def Ew(n:Int)(d:D)(j:Nat)(G:DH):Option (Option D):=match Ci d G with
 |none=>vF
 |some xs=>vE (xs[j]?.map λx=>.tup [.int (n+j),x])
def Im(ds:List D)(G:DH):R ItD:=match ds with
 |[d]=>if Ld G d=vG then .ok (.fn (lenOf G d) (Ew 0 d)) G else .bad
 |_=>.bad
def Ie(n:Nat)(ds:List D)(G:DH):R ItD:=if ds.all (Ld G)=vG/\ds.length=n then .ok (.fn (lenOf G (ds.headD .non)) (Gz ds)) G else .bad
section
variable{X:Cx}{E:XK}
theorem ZBZ{G:DH}{d:D}{v:V}{xs:List D}(s:Sim a G)(r:Rep a d v)(h:Ci d G=vE xs):
  ∃sr:Src,v=.ref sr.adr/\(∃vs,sr.sq a.K a.H vs)/\∀b:Wd,Ext a b->∀G',Sim b G'->∀ys,Ci d G'=vE ys->∃us,sr.sq b.K b.H us/\Reps b ys us:=by
 cases d with
 |tup ds=>
  obtain⟨p,vs,rfl,hq,rv⟩:=r;refine⟨.t p,rfl,⟨vs,hq⟩,λb x G' s' ys hy=>?_⟩
  cases(show vE ds=vE ys from hy)
  exact⟨vs,x.sqT hq,rv.mono x⟩
 |fl ds=>
  obtain⟨p,vs,rfl,hq,rv⟩:=r;refine⟨.l p,rfl,⟨vs,hq.sq⟩,λb x G' s' ys hy=>?_⟩
  cases(show vE ds=vE ys from hy)
  exact⟨vs,(x.fzL hq).sq,rv.mono x⟩
 | ref i=>
  obtain⟨hi,rfl⟩:=r;have hx:∃zs,G[i]?=vE (.lst zs):=by
   unfold Ci at h;dsimp only at h;split at h
   ·rename_i zs hz;exact⟨zs,hz⟩
   ·cases h
  obtain⟨zs,hz⟩:=hx;obtain⟨vs,e1,_⟩:=s.lst hz;refine⟨.l (a.m i),rfl,⟨vs,.of e1⟩,λb x G' s' ys hy=>?_⟩;unfold Ci at hy;dsimp only at hy;split at hy
  ·rename_i zs' hz';cases hy;obtain⟨us,e2,r2⟩:=s'.lst hz';rw[x.m i hi]at e2;exact⟨us,.of e2,r2⟩
  ·cases hy
 |_=>cases h
theorem ZPa{G:DH}{d:D}{v:V}(hk:a.K=X.K)(rd:∀b:Wd,Ext a b->∀G',Sim b G'->∀ys,Ci d G'=vE ys->∃us,sr.sq b.K b.H us/\Reps b ys us)(n:Nat):RepI a (.fn n (Ew 0 d)) (Ite X.K sr 0):=by
 intro b x G' s' i;have kb:b.K=X.K:=x.k.trans hk;constructor
 ·intro e he;unfold Ew at he;split at he
  ·cases he
  ·rename_i ys hy;obtain⟨us,hq,ru⟩:=rd b x G' s' ys hy;rw[kb]at hq;cases hyi:ys[i]? with
   |none=>rw[hyi]at he;cases he
   |some y=>
    rw[hyi]at he;have he':D.tup [.int (0+i),y]=e:=by simpa using he
    subst he';obtain⟨u,hu,rx⟩:=ru.get hyi;refine⟨⟨us,u,hq,hu⟩,?_⟩;rintro w H' ⟨p,u',rfl,hp,rfl,hu'⟩;refine⟨b.put p (.tup [.int (0+i),u']),rfl,Ext.put hp,s'.put hp,p,_,rfl,.of Gj,?_⟩;have e1:=hu' us hq;rw[hu]at e1;cases e1;exact⟨_,_,rfl,rfl,Reps.cons (rx.mono (Ext.put hp)) rfl⟩
 ·intro he;unfold Ew at he;split at he
  ·cases he
  ·rename_i ys hy;obtain⟨us,hq,ru⟩:=rd b x G' s' ys hy;rw[kb]at hq;cases hyi:ys[i]? with
   |none=>exact⟨us,hq,by rw[<-ru.length];exact qG.mp hyi⟩
   |some y=>rw[hyi]at he;cases he
theorem Pq{elts:List xX}{x1}{tp:Pos}{e:xX}{p pos:Pos}(hg:Gl X "enumerate")(hm:X.mg "enumerate"=vF)(ha:QA X E [e] ta)(hs:vW [e] X.env=[(vH,eval e X.env)]:=by rfl):
  QI X E (.Tuple elts x1 tp) (.Call (.Name "enumerate" p) [e] [] pos) (Cy Im ta):=(ZRm hg hm ha hs).mono λσ H Q h=>by
 obtain⟨a,S,G,hk,rfl,s,r,h⟩:=h;refine⟨a,S,G,hk,rfl,s,r,(T6 h).imp ?_⟩;rintro vs _ ⟨b,ds,G1,rfl,x,s1,q,-,h1⟩;unfold Im at h1;split at h1
 ·rename_i d;split at h1
  ·rename_i hok;obtain⟨v,r,e1,q1,q2⟩:=q
   cases(show r=[]from q2)
   subst e1
   obtain⟨xs,hx⟩:=qL.mp (show(Ci d G1).isSome=vG from hok)
   obtain⟨sr,rfl,⟨us,hq⟩,rd⟩:=ZBZ s1 q1 hx;have kb:b.K=X.K:=x.k.trans hk;exact⟨sr,us,rfl,by rw[<-kb];exact hq,h1 b _ (Ext.refl b) s1 (ZPa (G:=G1) (v:=.non) kb rd _)⟩
  ·exact h1.elim
 ·exact h1.elim
theorem ZHL{G:DH}(s:Sim a G):∀{ds:List D}{vs:List V},Reps a ds vs->ds.all (Ld G)=vG->∃ls:List Src,vs=ls.map (λsr=>V.ref sr.adr)/\(∀sr∈ls,∃us,sr.sq a.K a.H us)/\
   ∀b:Wd,Ext a b->∀G',Sim b G'->∀i,(∀ys,Ip G' i ds=vE (vE ys)->∃us,DrV b.K b.H i ls us/\Reps b ys us)/\(Ip G' i ds=vE vF->StV b.K b.H i ls)
 |[],vs,r,_=>by
  cases(show vs=[]from r)
  refine⟨[],rfl,(λ_ h=>nomatch h),λb x G' s' i=>⟨λys h=>?_,λh=>?_⟩⟩
  ·cases h;exact⟨[],.nil,rfl⟩
  ·cases h
 | d::ds,vs,r,h=>by
  rw[qB,zC]at h;obtain⟨v,vr,rfl,q1,q2⟩:=r
  obtain⟨xs,hx⟩:=qL.mp (show(Ci d G).isSome=vG from h.1)
  obtain⟨sr,rfl,hq,rd⟩:=ZBZ s q1 hx;obtain⟨ls,rfl,hqs,rds⟩:=ZHL s q2 h.2;refine⟨sr::ls,rfl,λsr' hm=>?_,λb x G' s' i=>⟨λys hy=>?_,λhy=>?_⟩⟩
  ·rcases zw.mp hm with rfl|hm
   ·exact hq
   ·exact hqs sr' hm
  ·unfold Ip at hy;split at hy
   ·cases hy
   ·rename_i zs hz;obtain⟨us,hu,ru⟩:=rd b x G' s' zs hz;split at hy
    ·cases hy
    ·rename_i y hyi;obtain⟨u,hui,rx⟩:=ru.get hyi;split at hy
     ·rename_i ys' hys;cases hy;obtain⟨us',d',r'⟩:=(rds b x G' s' i).1 ys' hys;exact⟨u::us',.cons hu hui d',Reps.cons rx r'⟩
     ·rename_i hno;exact absurd hy (hno _)
  ·unfold Ip at hy;split at hy
   ·cases hy
   ·rename_i zs hz;obtain⟨us,hu,ru⟩:=rd b x G' s' zs hz;split at hy
    ·rename_i hyi;exact .here hu (by rw[<-ru.length];exact qG.mp hyi)
    ·rename_i y hyi;obtain⟨u,hui,rx⟩:=ru.get hyi;split at hy
     ·cases hy
     ·exact .there hu hui ((rds b x G' s' i).2 hy)
theorem ZRg{ds:List D}(hk:a.K=X.K)(rd:∀b:Wd,Ext a b->∀G',Sim b G'->∀i,(∀ys,Ip G' i ds=vE (vE ys)->∃us,DrV b.K b.H i ls us/\Reps b ys us)/\(Ip G' i ds=vE vF->StV b.K b.H i ls))(n:Nat):
  RepI a (.fn n (Gz ds)) (Itz X.K ls):=by
 intro b x G' s' i;have kb:b.K=X.K:=x.k.trans hk;constructor
 ·intro e he;unfold Gz at he;cases hz:Ip G' i ds with
  |none=>rw[hz]at he;cases he
  | some o=>
   cases o with
   |none=>rw[hz]at he;cases he
   |some ys=>
    rw[hz]at he;have he':D.tup ys=e:=by simpa using he
    subst he';obtain⟨us,d,ru⟩:=(rd b x G' s' i).1 ys hz;rw[kb]at d;refine⟨⟨us,d⟩,?_⟩;rintro w H' ⟨p,us',rfl,hp,rfl,hu'⟩;cases hu' us d;exact⟨b.put p (.tup us),rfl,Ext.put hp,s'.put hp,p,us,rfl,.of Gj,ru.mono (Ext.put hp)⟩
 ·intro he;unfold Gz at he;cases hz:Ip G' i ds with
  |none=>rw[hz]at he;cases he
  | some o=>
   cases o with
   |none=>
    have:=(rd b x G' s' i).2 hz;rw[kb]at this;exact this
   |some ys=>rw[hz]at he;cases he
def ZB2(n:Nat)(K:PySem.W.Frag)(ta:TA):TI:=λσ H R=>ta σ H λvs H1=>∃ls:List Src,vs=ls.map (λsr=>V.ref sr.adr)/\(∀sr∈ls,∃us,sr.sq K H1 us)/\ls.length=n/\R (Itz K ls) H1
theorem ZBO:∀{ls:List Src}{us:List xj},Vals (ls.map λsr=>V.ref sr.adr) us->us=ls.map λsr=>Value.ref sr.adr
 |[],us,h=>by cases h;rfl
 | sr::ls,us,h=>by
  rw[zk]at h;cases h with
  |cons r rr=>
   cases r;rw[ZBO rr]
   rfl
theorem Y0{n:Nat}{q:Src×Nat}(h:q∈ls.zipIdx n):q.1∈ls/\n<=q.2/\q.2<n+ls.length:=by obtain⟨i,hi,rfl⟩:=q9 h;simp only[List.length_zipIdx]at hi;simp only[List.getElem_zipIdx];exact⟨qx hi,by lia,by lia⟩
theorem ZIF{x1}{tp:Pos}{R:It->Hp->Prop}(I:Inv X vD σ H s)(hq:∀sr∈ls,∃us,sr.sq X.K H us)(hne:ls≠[])(hl:ls.length<=1000000)
  (hct:checkTypeCall "zip" ⟨ls.map λsr=>Value.ref sr.adr,[]⟩=pure ()) (hcn:xG "zip.__new__" ⟨.type "zip"::ls.map λsr=>Value.ref sr.adr,[]⟩=pure ()) (hok:∀obj,argsOk "object.__init__" ⟨obj::ls.map λsr=>Value.ref sr.adr,[]⟩)
  (q:R (Itz X.K ls) H):vY (vZ X.prog X.w) X.A (call (.type "zip") (ls.map λsr=>Value.ref sr.adr)) (λv s1=>vY (vZ X.prog X.w) X.A (pyIter v) (PIE X vD σ (.Tuple elts x1 tp) R) X.xe s1) X.xe s:=by
 have hv:∀sr∈ls,∃xs,sr.val s.heap xs:=λsr hm=>by obtain⟨us,h⟩:=hq sr hm;obtain⟨its,_,h',_⟩:=Src.sq.val I h;exact⟨_,h'⟩
 have hlt:∀sr∈ls,sr.adr<s.heap.objs.size:=λsr hm=>by obtain⟨xs,h⟩:=hv sr hm;obtain⟨o,n,ho,_⟩:=h.obj;exact zj ho
 refine ZPi hv hl hct hcn hok λh' n hn hz hTI hTO hi kp=>?_
 refine wpAny_pyIter_zip hz ?_;have I2:Inv X vD σ H {s with heap:=h'}:=I.kept (t':=s.toks) kp
 have em:(ls.zipIdx s.heap.objs.size).map (·.1)=ls:=by refine qA (by simp) λi h1 h2=>by simp
 have e2:(ls.zipIdx s.heap.objs.size).map (·.2)=List.range' s.heap.objs.size ls.length:=by refine qA (by simp) λi h1 h2=>by simp[Nat.add_comm]
 have qb:∀q∈ls.zipIdx s.heap.objs.size,q.1.adr<s.heap.objs.size/\s.heap.objs.size<=q.2/\q.2<n:=λq hm=>⟨hlt _ (Y0 hm).1,(Y0 hm).2.1,by rw[hn];exact(Y0 hm).2.2⟩
 have hsn:s.heap.objs.size<=n:=by rw[hn];exact jN _ _
 have ap:ApZ (n+1) (ls.zipIdx s.heap.objs.size):=⟨by rw[e2];exact List.nodup_range',λq hm=>zE (zq (qb q hm).1 (Nat.le_succ_of_le hsn)),λq hm r hr=>zE (zq (qb q hm).1 (qb r hr).2.1),λq hm=>zE (qC (qb q hm).2.2)⟩;have T:=ZRW (P:=X.prog) (w:=X.w) (K:=X.K) (elts:=elts) (x1:=x1) (pos:=tp) (ls.zipIdx s.heap.objs.size) (n+2) n (n+1) ap ⟨Nat.succ_ne_self (n+1),λq hm=>⟨zE (zq (qb q hm).2.2 (jN n 2)),zE (zq (qb q hm).1 (zB hsn (jN n 2)))⟩⟩
  ⟨zE (Nat.lt_add_of_pos_right (by decide)),zE (zU n),λq hm=>zE (qb q hm).2.2⟩ (by simpa using hl) (by intro e;apply hne;rw[<-em,e];rfl)
 rw [em]at T;refine⟨n+2,_,_,_,H,rfl,I2,T,⟨hz,hTI,⟨_,hTO,by simp⟩,hi⟩,λb hb=>?_,q⟩;have hle:s.heap.objs.size<=b:=by
  rcases zw.mp hb with rfl|hb
  ·exact zB hsn (jN n 2)
  ·rcases zw.mp hb with rfl|hb
   ·exact hsn
   ·rcases zw.mp hb with rfl|hb
    ·exact Nat.le_succ_of_le hsn
    ·obtain⟨q,hq,rfl⟩:=zH.mp hb;exact(Y0 hq).2.1
 exact I.Ke hle (I.hok.fresh hle)
theorem ZRS(a b c:xj):checkTypeCall "zip" ⟨[a,b,c],[]⟩=pure ():=by kernel_rfl
theorem ZLl(a b c:xj):xG "zip.__new__" ⟨[.type "zip",a,b,c],[]⟩=pure ():=by kernel_rfl
theorem ZOC(a b c d:xj):argsOk "object.__init__" ⟨[a,b,c,d],[]⟩:=by unfold argsOk;rw[signature?_of (id:="object.__init__") (n:=['_','_','t','i','n','i','_','_']) (o:=['t','c','e','j','b','o']) (by kernel_rfl) PySem.F.owner_object];kernel_rfl
theorem ZLZ{elts:List xX}{x1}{tp:Pos}{a b:xX}{ta:TA}{p pos:Pos}(hg:Gl X "zip")(hm:X.mg "zip"=vF)(ha:PA X [a,b] ta)(hs:vW [a,b] X.env=[(vH,eval a X.env),(vH,eval b X.env)]:=by rfl)(hs2:vW [b] X.env=[(vH,eval b X.env)]:=by rfl):
  PI X (.Tuple elts x1 tp) (.Call (.Name "zip" p) [a,b] [] pos) (ZB2 2 X.K ta):=by
 intro vD s σ H R I h;refine Call_ (Jo I hg hm PyProof.Rows.boot_zip (PyProof.Rows.callWith_type1 (thn (ha pos vD s σ H _ I h) λus s1 ⟨vs,H1,I1,r1,q1⟩=>?_) (by rw[hs,hs2]) (by rw[hs2];rfl)));obtain⟨ls,rfl,hq,hl,q⟩:=q1;cases ZBO r1
 match ls,hl with
 |[x,y],_=>exact ZIF I1 hq (by simp) (by simp) (PySem.F.typeCall_zip_2 _ _) (PySem.F.newCall_zip_2 _ _) (λobj=>PySem.F.args_object_init_3 obj _ _) q
theorem ZPL{elts:List xX}{x1}{tp:Pos}{a b c:xX}{ta:TA}{p pos:Pos}(hg:Gl X "zip")(hm:X.mg "zip"=vF)(ha:PA X [a,b,c] ta)(hs:vW [a,b,c] X.env=[(vH,eval a X.env),(vH,eval b X.env),(vH,eval c X.env)]:=by rfl)
  (hs2:vW [b,c] X.env=[(vH,eval b X.env),(vH,eval c X.env)]:=by rfl):PI X (.Tuple elts x1 tp) (.Call (.Name "zip" p) [a,b,c] [] pos) (ZB2 3 X.K ta):=by
 intro vD s σ H R I h;refine Call_ (Jo I hg hm PyProof.Rows.boot_zip (PyProof.Rows.callWith_type1 (thn (ha pos vD s σ H _ I h) λus s1 ⟨vs,H1,I1,r1,q1⟩=>?_) (by rw[hs,hs2]) (by rw[hs2];rfl)));obtain⟨ls,rfl,hq,hl,q⟩:=q1;cases ZBO r1
 match ls,hl with
 |[x,y,z],_=>exact ZIF I1 hq (by simp) (by simp) (ZRS _ _ _) (ZLl _ _ _) (λobj=>ZOC obj _ _ _) q
theorem ZI6{n:Nat}{Q:It->Hp->Prop}(hK:K=X.K)(h:lI K E (Cy (Ie n) ta) σ H Q):ZB2 n K (lA K E ta) σ H Q:=by
 subst hK;obtain⟨a,S,G,hk,rfl,s,r,h⟩:=h;refine⟨a,S,G,hk,rfl,s,r,(T6 h).imp ?_⟩;rintro vs _ ⟨b,ds,G1,rfl,x,s1,q,-,h1⟩;unfold Ie at h1;split at h1
 ·rename_i hok;obtain⟨ls,e,hq,rd⟩:=ZHL s1 q hok.1;have kb:b.K=X.K:=x.k.trans hk;have hl:ls.length=n:=by have:=q.length;rw[e,qQ]at this;lia
  exact⟨ls,e,λsr hm=>by rw[<-kb];exact hq sr hm,hl,h1 b _ (Ext.refl b) s1 (ZRg kb rd _)⟩
 ·exact h1.elim
theorem ZAM{elts:List xX}{x1}{tp:Pos}{a b:xX}{p pos:Pos}(hg:Gl X "zip")(hm:X.mg "zip"=vF)(ha:QA X E [a,b] ta)(hs:vW [a,b] X.env=[(vH,eval a X.env),(vH,eval b X.env)]:=by rfl)(hs2:vW [b] X.env=[(vH,eval b X.env)]:=by rfl):
  QI X E (.Tuple elts x1 tp) (.Call (.Name "zip" p) [a,b] [] pos) (Cy (Ie 2) ta):=(ZLZ hg hm ha hs hs2).mono λσ H Q h=>ZI6 rfl h
theorem ZQl{elts:List xX}{x1}{tp:Pos}{a b c:xX}{p pos:Pos}(hg:Gl X "zip")(hm:X.mg "zip"=vF)(ha:QA X E [a,b,c] ta)(hs:vW [a,b,c] X.env=[(vH,eval a X.env),(vH,eval b X.env),(vH,eval c X.env)]:=by rfl)
  (hs2:vW [b,c] X.env=[(vH,eval b X.env),(vH,eval c X.env)]:=by rfl):QI X E (.Tuple elts x1 tp) (.Call (.Name "zip" p) [a,b,c] [] pos) (Cy (Ie 3) ta):=(ZPL hg hm ha hs hs2).mono λσ H Q h=>ZI6 rfl h
end
def ixL:D->D->DH->R D
 | .ref p,.int k,G=>match G[p]? with
  |some (.lst xs)=>match atI xs k with
   |some v=>.ok v G
   |none=>.bad
  |_=>.bad
 |_,_,_=>.bad
def Qy(to ti te:DE)(f:D->D->DH->R D):DS:=λS G=>(to S G).toS λo G1=>(ti S G1).toS λi G2=>(ixL o i G2).toS λx G3=>(te S G3).toS λy G4=>(f x y G4).toS λz G5=>(M8 o i z G5).toS λ_ G6=>.nx S G6
noncomputable def Lp:DS:=λ_ _=>.bad
section
variable{X:Cx}{E:XK}
theorem S9{st:xz}:QS X E st Lp:=λvD s σ H W I h=>by obtain⟨a,S,G,hk,rfl,sm,r,h⟩:=h;exact h.elim
theorem Wk{o i e:xX}{op:Operator}{to ti te:DE}{f:D->D->DH->R D}{tpos pos:Pos}(ho:QE X E o to)(hi:QE X E i ti)(he:QE X E e te)(hop:OpR X (inplaceOp op) (lR2 X.K E f))
  (ha:∀ov iv new,augStore i ov iv new=(do holding [new,ov,iv] (setItem ov iv new);release [new,ov,iv] [];pure .next):=by intros;rfl):QS X E (.AugAssign (.Subscript o i tpos) op e pos) (Qy to ti te f):=by
 intro vD s σ H W I h;obtain⟨a,S,G,hk,rfl,sm,r,h⟩:=h;refine wpAny_AugAssign_SubscriptAny (thn (ho vD s σ a.H _ I ⟨a,S,G,hk,rfl,sm,r,J9 h⟩) ?_) ha;rintro ov s1 ⟨vo,H1,I1,ro,b1,o,G1,rfl,x1,m1,q1,_,h1⟩;have k1:=x1.k.trans hk;refine thn (hi vD s1 σ b1.H _ I1 ⟨b1,S,G1,k1,rfl,m1,r.mono x1,J9 h1⟩) ?_;rintro iv s2 ⟨vi,H2,I2,ri,b2,i,G2,rfl,x2,m2,q2,_,h2⟩;have k2:=x2.k.trans k1;have q1':=q1.mono x2;cases i with
 | int k=>
  cases o with
  | ref p=>
   obtain⟨hp,rfl⟩:=q1'
   cases(show vi=V.int k from q2)
   cases ro;obtain⟨t,rfl⟩:=ri;unfold ixL at h2;dsimp only at h2;split at h2
   ·rename_i xs hx';obtain⟨vs,e1,r1⟩:=m2.lst hx';split at h2
    ·rename_i d hd;obtain⟨v,ev,rd⟩:=ZGX r1 hd;have h2':Dg E b2 ((te S G2).toS λy G4=>(f d y G4).toS λz G5=>(M8 (.ref p) (.int k) z G5).toS λ_ G6=>.nx S G6) W:=h2;obtain⟨its,rv,pl,hz⟩:=I2.list (.of e1);obtain⟨j,g1,g2,g3,g4,g5⟩:=Xh ev;obtain⟨w,ew,rw'⟩:=rv.get g2;have hl:=rv.length;have hn:=line63;have fin:vY (vZ X.prog X.w) X.A (getItem (.ref (b2.m p)) (.int k t)) (λold s3=>old=w/\s3=s2) X.xe s2:=by
      by_cases h0:0<=k
      ·have hj:k.toNat=j:=by rw[seqIndex_of h0 g5]at g1;exact Option.some.inj g1
       exact wpAny_getItem_list pl.isList h0 (by lia) (by rw[hj];simpa using ew) ⟨rfl,rfl⟩
      ·have hj:(k+(its.toArray.size:Int)).toNat=j:=by rw[seqIndex_neg (by lia) g4]at g1;rw[zY,<-hl];exact Option.some.inj g1
       exact wpAny_getItem_list_neg pl.isList (by lia) (by rw[zY]<;>lia) (by lia) (by rw[hj];simpa using ew) ⟨rfl,rfl⟩
     refine thn fin ?_;rintro old s3 ⟨rfl,rfl⟩;refine thn (he vD s3 σ b2.H _ I2 ⟨b2,S,G2,k2,rfl,m2,(r.mono x1).mono x2,J9 h2'⟩) ?_;rintro yv s4 ⟨vy,H4,I4,ry,b4,y,G4,rfl,x4,m4,q4,_,h4⟩;have k4:=x4.k.trans k2;refine thn (hop vD s4 σ b4.H v vy old yv _ I4 rw' ry ⟨b4,G4,d,y,k4,rfl,m4,rd.mono x4,q4,J9 h4⟩) ?_;rintro new s5 ⟨vn,H5,I5,rn,b5,z,G5,rfl,x5,m5,q5,_,h5⟩;unfold M8 at h5;dsimp only at h5;split at h5
     ·rename_i ys hy;split at h5
      ·rename_i jj hjj;obtain⟨ws,e5,r5⟩:=m5.lst hy;have hp5:p<b5.n:=zq hp (zB x4.n x5.n);have em:b5.m p=b2.m p:=(x5.m p (zq hp x4.n)).trans (x4.m p hp);obtain⟨x6,m6⟩:=ZCS m5 hp5 e5 (r5.set q5 jj);refine thn (set_list vD s5 σ b5.H (.ref (b2.m p)) (.int k) vn (.ref (b2.m p)) (.int k t) new (λH'=>W.nx σ H') I5 rfl ⟨t,rfl⟩ rn ⟨b5.m p,ws,k,jj,by rw[em],rfl,e5,by rw[<-r5.length];exact hjj,?_⟩) ?_
       ·exact h5 _ σ x6 m6 (((((r.mono x1).mono x2).mono x4).mono x5).mono x6)
       ·rintro _ s6 ⟨H6,I6,q6⟩;exact⟨σ,H6,I6,q6⟩
      ·exact h5.elim
     ·exact h5.elim
    ·exact h2.elim
   ·exact h2.elim
  |_=>exact(show False from h2).elim
 |_=>cases o<;>exact(show False from h2).elim
end
def Jz(ds:List D)(G:DH):R D:=match ds with
 | [d]=>match Ci d G with
  |some xs=>match Hr xs with
   |some (n::ns)=>.ok (.int (ns.foldl min n)) G
   |_=>.bad
  |none=>.bad
 |_=>.bad
def Jy(ds:List D)(G:DH):R D:=match ds with
 | [d]=>match Ci d G with
  |some xs=>match Hr xs with
   |some (n::ns)=>.ok (.int (ns.foldl max n)) G
   |_=>.bad
  |none=>.bad
 |_=>.bad
theorem ZAb:∀(ns:List Int)(n:Int),ns.foldl min n<=n/\(∀x∈ns,ns.foldl min n<=x)/\(ns.foldl min n=n∨ns.foldl min n∈ns)
 |[],n=>⟨qq _,λx h=>(by cases h),.inl rfl⟩
 | m::ns,n=>by
  obtain⟨h1,h2,h3⟩:=ZAb ns (min n m);rw[jV];refine⟨by lia,λx hx=>?_,?_⟩
  ·rcases zw.mp hx with rfl|hx
   ·lia
   ·exact h2 x hx
  ·rcases h3 with h|h
   ·by_cases e:n<=m
    ·exact .inl (by rw[h];lia)
    ·exact .inr (by rw[h];rw[show min n m=m by lia];exact zW)
   ·exact .inr (zX _ h)
theorem ZE6:∀(ns:List Int)(n:Int),n<=ns.foldl max n/\(∀x∈ns,x<=ns.foldl max n)/\(ns.foldl max n=n∨ns.foldl max n∈ns)
 |[],n=>⟨qq _,λx h=>(by cases h),.inl rfl⟩
 | m::ns,n=>by
  obtain⟨h1,h2,h3⟩:=ZE6 ns (max n m);rw[jV];refine⟨by lia,λx hx=>?_,?_⟩
  ·rcases zw.mp hx with rfl|hx
   ·lia
   ·exact h2 x hx
  ·rcases h3 with h|h
   ·by_cases e:m<=n
    ·exact .inl (by rw[h];lia)
    ·exact .inr (by rw[h];rw[show max n m=m by lia];exact zW)
   ·exact .inr (zX _ h)
section
variable{X:Cx}{E:XK}
theorem intAt{ns:List Int}{its:List xj}{w:xj}(hv:Vals (ns.map V.int) its)(hw:its.toArray[i]?=vE w):i<ns.length/\∃t,w=.int (ns.getD i 0) t:=by
 have hw':its[i]?=vE w:=by simpa using hw
 have hl:i<(ns.map V.int).length:=by rw[hv.length];exact(zF.mp hw').1
 have hl':i<ns.length:=by simpa using hl
 obtain⟨u,hu,ru⟩:=hv.get (i:=i) (x:=V.int ns[i]) (by simp[hl']);rw[hw']at hu;cases hu;obtain⟨t,rfl⟩:=ru;exact⟨hl',t,by simp[hl']⟩
theorem ZHp(hc:X.calm=vG):CallR X (.builtin "min") (lRn X.K E Jz):=by
 intro vD s σ H vs us Q I rs h;obtain⟨a,G,ds,hk,rfl,sm,r,q⟩:=h;unfold Jz at q;split at q
 ·rename_i d;obtain⟨v,rfl,rv⟩:=reps1 r;split at q
  ·rename_i xs hs;split at q
   ·rename_i n ns hn;cases ZAc hn;obtain⟨p,ws,rfl,h1,r1⟩:=Mi sm rv hs;cases ZAu r1;rw[hk]at h1;obtain⟨u,rfl,ru⟩:=vals1 rs;cases ru;refine call_min_walk (ZAs I hc h1 λit fp wr its St s₂ hv W st hfp fin=>⟨it,fp,wr,its.toArray.size,_,St,_,rfl,W,st,hfp,?_,CmpOf.ints_lt (λi=>(n::ns).getD i 0) (λi w hw=>(intAt hv hw).2),λw h' tk hw kk=>?_⟩)
    ·rw[zY,<-hv.length];simp
    ·obtain⟨hl,t,rfl⟩:=intAt hv hw;obtain⟨b1,b2⟩:=argBest_lt (λi=>(n::ns).getD i 0) (its.toArray.size-1);refine⟨.int (ns.foldl min n),a.H,fin h' tk kk,⟨t,?_⟩,q a _ (Ext.refl a) sm rfl⟩;have hsz:its.toArray.size=ns.length+1:=by rw[zY,<-hv.length];simp
     obtain⟨m1,m2,m3⟩:=ZAb ns n;have hle:∀x∈n::ns,ns.foldl min n<=x:=λx hx=>by
      rcases zw.mp hx with rfl|hx
      ·exact m1
      ·exact m2 x hx
     have hin:ns.foldl min n∈n::ns:=by
      rcases m3 with h|h
      ·rw[h];exact zW
      ·exact zX _ h
     obtain⟨j,hj,ej⟩:=q9 hin;have c1:=b2 j (by simp at hj;lia);have c2:=hle _ (qx hl);have e1:(n::ns).getD j 0=ns.foldl min n:=by rw[zD,zJ hj];exact ej
     have e2:(n::ns).getD (argBest (λi j=>decide ((λi=>(n::ns).getD i 0) i<(λi=>(n::ns).getD i 0) j)) (its.toArray.size-1)) 0=(n::ns)[argBest (λi j=>decide ((λi=>(n::ns).getD i 0) i<(λi=>(n::ns).getD i 0) j)) (its.toArray.size-1)]:=by rw[zD,zJ hl];rfl
     have c1':=c1;rw[e1]at c1';rw[<-e2]at c2
     congr 1
     exact Int.le_antisymm c1' c2
   ·exact q.elim
  ·exact q.elim
 ·exact q.elim
theorem ZE8(hc:X.calm=vG):CallR X (.builtin "max") (lRn X.K E Jy):=by
 intro vD s σ H vs us Q I rs h;obtain⟨a,G,ds,hk,rfl,sm,r,q⟩:=h;unfold Jy at q;split at q
 ·rename_i d;obtain⟨v,rfl,rv⟩:=reps1 r;split at q
  ·rename_i xs hs;split at q
   ·rename_i n ns hn;cases ZAc hn;obtain⟨p,ws,rfl,h1,r1⟩:=Mi sm rv hs;cases ZAu r1;rw[hk]at h1;obtain⟨u,rfl,ru⟩:=vals1 rs;cases ru;refine call_max_walk (ZAs I hc h1 λit fp wr its St s₂ hv W st hfp fin=>⟨it,fp,wr,its.toArray.size,_,St,_,rfl,W,st,hfp,?_,CmpOf.ints_gt (λi=>(n::ns).getD i 0) (λi w hw=>(intAt hv hw).2),λw h' tk hw kk=>?_⟩)
    ·rw[zY,<-hv.length];simp
    ·obtain⟨hl,t,rfl⟩:=intAt hv hw;obtain⟨b1,b2⟩:=argBest_gt (λi=>(n::ns).getD i 0) (its.toArray.size-1);refine⟨.int (ns.foldl max n),a.H,fin h' tk kk,⟨t,?_⟩,q a _ (Ext.refl a) sm rfl⟩;have hsz:its.toArray.size=ns.length+1:=by rw[zY,<-hv.length];simp
     obtain⟨m1,m2,m3⟩:=ZE6 ns n;have hle:∀x∈n::ns,x<=ns.foldl max n:=λx hx=>by
      rcases zw.mp hx with rfl|hx
      ·exact m1
      ·exact m2 x hx
     have hin:ns.foldl max n∈n::ns:=by
      rcases m3 with h|h
      ·rw[h];exact zW
      ·exact zX _ h
     obtain⟨j,hj,ej⟩:=q9 hin;have c1:=b2 j (by simp at hj;lia);have c2:=hle _ (qx hl);have e1:(n::ns).getD j 0=ns.foldl max n:=by rw[zD,zJ hj];exact ej
     have e2:(n::ns).getD (argBest (λi j=>decide ((λi=>(n::ns).getD i 0) i>(λi=>(n::ns).getD i 0) j)) (its.toArray.size-1)) 0=(n::ns)[argBest (λi j=>decide ((λi=>(n::ns).getD i 0) i>(λi=>(n::ns).getD i 0) j)) (its.toArray.size-1)]:=by rw[zD,zJ hl];rfl
     have c1':=c1;rw[e1]at c1';rw[<-e2]at c2
     congr 1
     exact Int.le_antisymm c2 c1'
   ·exact q.elim
  ·exact q.elim
 ·exact q.elim
noncomputable def Li:D->D->DH->R D
 |.ref p,.int k,G=>match G[p]? with
  |some (.lst xs)=>if -(2^63)<=k/\k<2^63/\xs.length*k.toNat<=1000000 then .ok (.ref G.length) (G++[.lst (zV k.toNat xs).flatten])else .bad
  |_=>.bad
 |_,_,_=>.bad
theorem Reps.rep{ds:List D}{vs:List V}(r:Reps a ds vs):∀k,Reps a (zV k ds).flatten (zV k vs).flatten
 |0=>rfl
 |k+1=>by rw[zS,zS,q8,q8];exact r.append (Reps.rep r k)
theorem ZE9:OpR X (xD .Mult) (lR2 X.K E Li):=ZRX.mono λx y H Q h=>by
 obtain⟨a,G,d,e,hk,rfl,s,rd,re,q⟩:=h;cases d with
 | ref p=>
  cases e with
  | int k=>
   unfold Li at q;dsimp only at q;split at q
   ·rename_i xs hx;split at q
    ·rename_i hc;obtain⟨vs,e1,r1⟩:=s.lst hx;obtain⟨hp,rfl⟩:=rd;refine⟨a.m p,k,vs,rfl,re,e1,hc.1,hc.2.1,?_,λp hp=>M4 s (Reps.rep r1 k.toNat) q p hp⟩;rw[<-r1.length];exact zB hc.2.2 size6
    ·exact q.elim
   ·exact q.elim
  |_=>exact(show False from q).elim
 |_=>exact(show False from q).elim
end
end _D
namespace _D
open PySem PySem.W PyProof.Rows
def Safe(n:Nat){α:Type}(P:α->Prop):KasT α->Prop
 |.ret a=>P a
 |.ask i j k=>i<n/\j<n/\∀b,Safe n P (k b)
theorem Safe.bind{n:Nat}{α β:Type}{f:α->KasT β}{P:α->Prop}{Q:β->Prop}(h2:∀a,P a->Safe n Q (f a)):∀{t:KasT α},Safe n P t->Safe n Q (t.bind f)
 |.ret a,h=>h2 a h
 |.ask _ _ _,h=>⟨h.1,h.2.1,λb=>Safe.bind h2 (h.2.2 b)⟩
def Ents(n:Nat)(p:Array Nat):Prop:=0<n/\p.Perm (zZ n).toArray
theorem Ents.lt{n:Nat}{p:Array Nat}(h:Ents n p){x:Nat}(hx:x∈p):x<n:=by have:=h.2.mem_iff.mp hx;simpa using this
theorem Ents.pt{n:Nat}{p:Array Nat}(h:Ents n p)(k:Nat):p.getD k 0<n:=by
 by_cases hk:k<p.size
 ·have:p.getD k 0=p[k]:=by simp[Array.getD,hk]
  rw[this];exact h.lt (Array.getElem_mem hk)
 ·have:p.getD k 0=0:=by simp[Array.getD,hk]
  rw[this];exact h.1
theorem Ents.perm{n:Nat}{p q:Array Nat}(h:Ents n p)(e:q.Perm p):Ents n q:=⟨h.1,e.trans h.2⟩
theorem ZDu{n:Nat}{p:Array Nat}(h:Ents n p):∀f m,Safe n (λ_=>True) (kas_asc p f m)
 |0,m=>trivial
 | f+1,m=>⟨h.pt _,h.pt _,λb=>by
   cases b with
   |true=>exact trivial
   |false=>exact ZDu h f (m+1)⟩
theorem Zb{n:Nat}:∀f{p:Array Nat}m q,Ents n p->Safe n (λr=>Ents n r.1) (kas_desc f p m q)
 |0,p,m,q,h=>h
 | f+1,p,m,q,h=>⟨h.pt _,h.pt _,λb=>by
   cases b with
   |true=>
    by_cases hq:q>0
    ·simp only[if_true,if_pos hq];exact Zb f _ _ (h.perm (mirror_perm ..))
    ·simp only[if_true,if_neg hq];exact Zb f _ _ h
   |false=>
    refine⟨h.pt _,h.pt _,λd=>?_⟩;cases d with
    |true=>exact h
    |false=>exact Zb f _ _ h⟩
theorem ZGQ{n:Nat}{p:Array Nat}(h:Ents n p)(m k:Nat):Safe n (λr=>Ents n r.2) (kas_tail3 m k p):=by unfold kas_tail3;refine Safe.bind (P:=λ_=>True) (λa _=>?_) (ZDu (h.perm (mirror_perm ..)) _ _);exact h.perm (mirror_perm ..)
theorem ZFc{n:Nat}{p:Array Nat}(h:Ents n p)(m k:Nat):Safe n (λr=>Ents n r.2) (kas_descPart m k p):=
 Safe.bind (P:=λr=>Ents n r.1) (λa ha=>by
  split
  ·exact ZGQ (ha.perm (mirror_perm ..)) _ _
  ·exact ZGQ ha _ _) (Zb _ _ _ h)
theorem ZKq{n:Nat}{p:Array Nat}(h:Ents n p)(k:Nat):Safe n (λr=>Ents n r.2) (kas_count k p):=
 Safe.bind (P:=λ_=>True) (λa _=>by
  split
  ·exact h
  ·split
   ·refine⟨h.pt _,h.pt _,λc=>?_⟩;cases c with
    |true=>exact h
    |false=>exact ZFc (h.perm (mirror_perm ..)) _ _
   ·exact ZFc h _ _) (ZDu h _ _)
theorem Z8{n:Nat}{p:Array Nat}(h:Ents n p)(k:Nat):∀f l r,Safe n (λ_=>True) (kas_place p k f l r)
 |0,l,r=>trivial
 | f+1,l,r=>by
  unfold kas_place;split
  ·trivial
  ·refine⟨h.pt _,h.pt _,λc=>?_⟩;cases c with
   |true=>exact Z8 h k f _ _
   |false=>exact Z8 h k f _ _
theorem ZFI{n:Nat}:∀f{p:Array Nat}k,Ents n p->Safe n (λ_=>True) (kas_bin f p k)
 |0,p,k,h=>trivial
 |f+1,p,k,h=>Safe.bind (P:=λ_=>True) (λa _=>ZFI f _ (h.perm (bubble_perm ..))) (Z8 h k _ _ _)
theorem ZQL{n:Nat}(hn:0<n):Safe n (λ_=>True) (kas_sort n):=
 Safe.bind (P:=λr=>Ents n r.2) (λa ha=>by
  split
  ·exact ZFI _ _ ha
  ·trivial) (ZKq ⟨hn,Array.Perm.refl _⟩ _)
end _D
namespace _D
open PySem PySem.Spec _L
open PyProof.Rows hiding St
variable{a:Wd}{d:D}{v:V}{xs ys:List D}{G:DH}{vs:List V}{te:DE}{g:DG}{us:List (Str×V)}{F:List D->DH->R D}{CX:CXT}{fd:xV}{ps:List Str}{e:xX}{ta:DA}{T:String}
noncomputable def ltL:List D->List D->Option Bool
 |[],[]=>vE vH
 |[],_::_=>vE vG
 |_::_,[]=>vE vH
 |.int a::r,.int b::r'=>if a=b then ltL r r' else vE (decide (a<b))
 |.str a::r,.str b::r'=>if a=b then ltL r r' else vE (decide (a.cps.toList<b.cps.toList))
 |_::_,_::_=>vF
noncomputable def ltD:D->D->Option Bool
 |.tup xs,.tup ys=>ltL xs ys
 |_,_=>vF
noncomputable def ltI(xs:List D)(i j:Nat):Bool:=(ltD (xs.getD i .non) (xs.getD j .non)).getD vH
noncomputable def isIt:D->Bool
 |.tup (.int _::_)=>vG
 |_=>vH
noncomputable def Vh:D->Bool
 |.tup (.str _::_)=>vG
 |_=>vH
def Q3(xs:List D):Bool:=(xs.all isIt||xs.all Vh)&&xs.all λx=>xs.all λy=>(ltD x y).isSome
noncomputable def Ly(xs:List D):List D:=if xs.length<2 then xs else(Cw (ltI xs) (PySem.W.kas_sort xs.length)).toList.map λi=>xs.getD i .non
def Rb(ds:List D)(G:DH):R D:=match ds with
 |[d]=>match Ir d G with
  |some xs=>if(xs.length<64/\(Ly xs).length<64)/\Q3 xs=vG then .ok (.ref G.length) (G++[.lst (Ly xs)])else .bad
  |none=>.bad
 |_=>.bad
theorem ZJN{n:Nat}{cmp:Nat->Nat->(Bool->xq->Prop)->xq->Prop}{lt:Nat->Nat->Bool}{s:xq}(h:∀i j,i<n->j<n->∀C:Bool->xq->Prop,C (lt i j) s->cmp i j C s){α:Type}{P:α->Prop}{Q:α->xq->Prop}:
  ∀{t:PySem.W.KasT α},Safe n P t->Q (Cw lt t) s->t.kasWp cmp Q s
 |.ret _,_,hq=>hq
 |.ask i j k,hs,hq=>h i j hs.1 hs.2.1 _ (ZJN h (hs.2.2 (lt i j)) hq)
section
variable{prog:xK}{w:xw}{A:xJ}{s:xq}
theorem ZPY{c:Bool}{a b:Int}{t u:Tok}{Q:Bool->xq->Prop}{E:xj->xq->Prop}(h:Q (decide (a<b)) s):vY (vZ prog w) A (oneLt' c (.int a t) (.int b u)) Q E s:=by
 cases c with
 |true=>exact oneLt_int h
 |false=>exact PySem.W.kat_one _ _ (lt_int (Q:=PySem.W.BoolBack Q) h)
theorem ZL5{c:Bool}{a b:Str}{t u:Tok}{Q:Bool->xq->Prop}{E:xj->xq->Prop}(h:Q (decide (a.cps.toList<b.cps.toList)) s):vY (vZ prog w) A (oneLt' c (.str a t) (.str b u)) Q E s:=by
 cases c with
 |true=>exact oneLt_str h
 |false=>exact PySem.W.kat_one _ _ (lt_str (Q:=PySem.W.BoolBack Q) h)
theorem ZDh{Q:Bool->xq->Prop}{fin:Bool}:∀{xs ys:List D}{vs ws:List V}{us zs:List xj}{i:Nat}{k:Bool},Reps a xs vs->Reps a ys ws->Vals vs us->Vals ws zs->ltL xs ys=vE k->fin=decide (us.length<zs.length)->Q k s->
  PySem.W.KatLex prog w A vG fin Q (us.zip zs) i s
 |[],[],vs,ws,us,zs,i,k,r1,r2,v1,v2,h,hf,hq=>by
  cases(show vs=[]from r1);cases(show ws=[]from r2);cases v1;cases v2
  cases h;subst hf;exact PySem.W.kat_nil hq
 |[],y::ys,vs,ws,us,zs,i,k,r1,r2,v1,v2,h,hf,hq=>by
  cases(show vs=[]from r1);cases v1
  obtain⟨w1,wr,rfl,_,_⟩:=r2;cases v2;cases h;subst hf;exact PySem.W.kat_nil (by simpa using hq)
 |x::xs,[],vs,ws,us,zs,i,k,r1,r2,v1,v2,h,hf,hq=>by
  cases(show ws=[]from r2);cases v2
  obtain⟨w1,wr,rfl,_,_⟩:=r1;cases v1;have hk:k=vH:=by cases x<;>(simp[ltL]at h;exact h)
  subst hk;subst hf;exact PySem.W.kat_nil (by simpa using hq)
 | x::xs,y::ys,vs,ws,us,zs,i,k,r1,r2,v1,v2,h,hf,hq=>by
  have hcase:(∃m n,x=.int m/\y=.int n)∨(∃m n,x=.str m/\y=.str n):=by
   cases x<;>cases y<;>first
    |exact .inl ⟨_,_,rfl,rfl⟩
    |exact .inr ⟨_,_,rfl,rfl⟩
    |(exfalso;simp[ltL]at h)
  obtain⟨v0,vr,rfl,e1,r1⟩:=r1;obtain⟨w0,wr,rfl,e2,r2⟩:=r2;rcases hcase with⟨m,n,rfl,rfl⟩|⟨m,n,rfl,rfl⟩
  ·cases(show v0=V.int m from e1)
   cases(show w0=V.int n from e2)
   cases v1 with
   | cons q1 v1=>
    cases v2 with
    | cons q2 v2=>
     obtain⟨t,rfl⟩:=q1;obtain⟨u,rfl⟩:=q2;rw[List.zip_cons_cons];refine PySem.W.kat_cons (wpAny_eqBool_int (PySem.W.kat_go (λhe=>?_) λhe=>?_))
     ·have e:m=n:=by simpa using he
      rw[show ltL (.int m::xs) (.int n::ys)=if m=n then ltL xs ys else vE (decide (m<n))from rfl,if_pos e]at h
      exact PySem.W.kat_yes (ZDh r1 r2 v1 v2 h (by simpa using hf) hq)
     ·have e:m≠n:=by simpa using he
      rw[show ltL (.int m::xs) (.int n::ys)=if m=n then ltL xs ys else vE (decide (m<n))from rfl,if_neg e]at h
      cases h;exact PySem.W.kat_no (ZPY hq)
  ·cases(show v0=V.str m from e1)
   cases(show w0=V.str n from e2)
   cases v1 with
   | cons q1 v1=>
    cases v2 with
    | cons q2 v2=>
     obtain⟨t,rfl⟩:=q1;obtain⟨u,rfl⟩:=q2;rw[List.zip_cons_cons];refine PySem.W.kat_cons (wpAny_eqBool_str (PySem.W.kat_go (λhe=>?_) λhe=>?_))
     ·have e:m=n:=by simpa using he
      rw[show ltL (.str m::xs) (.str n::ys)=if m=n then ltL xs ys else vE (decide (m.cps.toList<n.cps.toList))from rfl,if_pos e]at h
      exact PySem.W.kat_yes (ZDh r1 r2 v1 v2 h (by simpa using hf) hq)
     ·have e:m≠n:=by simpa using he
      rw[show ltL (.str m::xs) (.str n::ys)=if m=n then ltL xs ys else vE (decide (m.cps.toList<n.cps.toList))from rfl,if_neg e]at h
      cases h;exact PySem.W.kat_no (ZL5 hq)
end
section
variable{X:Cx}{E:XK}{vD:List (xZ×Obj)}{σ:St}{s:xq}{H:Hp}{h':Heap}
theorem ZHH{t':Nat}(I:Inv X vD σ H s)(k:∀b o,b≠X.env.locals->s.heap.get? b=vE o->h'.get? b=vE o)(ns:∀m,s.heap.Ns X.env.locals m->h'.Ns X.env.locals m):Inv X vD σ H {s with heap:=h',toks:=t'}:=by
 refine I.step (g':=s.gens) (d':=s.drawn) (ch:=[]) (λ_ z=>nomatch z) (λb o hL _ _ e _=>k b o hL e) (λb o hL _ _ e _=>⟨o.slots,k b o hL e⟩) (λ_ _ _ _ n=>n) (λb o _ e=>?_) (λ_ _ e=>e) (λ_ _ _ e=>e)
  (λb ps e=>⟨#[],by rw[e];simp⟩) ns (λb u e=>?_) I.bare
 ·by_cases hb:b=X.env.locals
  ·obtain⟨m,hn,_⟩:=I.loc;obtain⟨o',_,_,ho',_⟩:=ns m hn;exact⟨o',by rw[hb];exact ho'⟩
  ·exact⟨o,k b o hb e⟩
 ·have nL:∀c w,H c=vE w->c≠X.env.locals:=λc w e z=>by rw[z,I.free]at e;cases e
  refine(I.hok b u e).stay (λc v hc q=>k c v ?_ q) (λ_ q=>q) λ_ _ q=>q
  rcases hc with z|z
  ·rw[z];exact nL b u e
  ·exact nL c _ z
end
section
variable{prog:xK}{w:xw}{A:xJ}{E:xj->xq->Prop}{s:xq}
theorem ZS6{l:xZ}{vs:List xj}{Q:xj->xq->Prop}(hl:s.heap.IsList l vs.toArray)(hz:vs.length<64)
  (h:∀h1,h1.get? (s.heap.objs.size+1)=vE (seqObj "list" vs.toArray 0)->(∀b o,s.heap.get? b=vE o->h1.get? b=vE o)->
   vY (vZ prog w) A.in1.in1 (Builtin.«list.sort» ⟨[.ref (s.heap.objs.size+1)],[]⟩) (λfin s'=>fin=.done (.ret .none)/\Q (.ref (s.heap.objs.size+1)) s') E {s with heap:=h1}):
  vY (vZ prog w) A (call (.builtin "sorted") [.ref l]) Q E s:=by
 have h64:vs.length<=sizeLine:=by rw[vX];lia
 refine Calls.call_function_entry kind_sorted plain_sorted entry_sorted (args_sorted1 _) ?_;unfold Builtin.«sorted»;refine vz (m:=checkCount "sorted" 1 1 _) (v7 (vz (collect_list hl (vz (wpAny_newList ?_ h64)) h64)))
 generalize hh:(s.heap.push (seqObj "list" #[] 0)).update s.heap.objs.size (Obj.mapSeq (·++vs.toArray))=h0
 have e0:h0.objs.size=s.heap.objs.size+1:=by rw[<-hh,Heap.size_update,size_push']
 have k0:∀b o,s.heap.get? b=vE o->h0.get? b=vE o:=λb o q=>by have hlt:b<s.heap.objs.size:=zj q;rw[<-hh,Heap.get?_update_ne _ _ _ _ (zE hlt),Heap.get?_push_ne _ _ _ (zE hlt)];exact q
 have hD:(h0.push (seqObj "list" vs.toArray 0)).get? (s.heap.objs.size+1)=vE (seqObj "list" vs.toArray 0):=by rw[<-e0];exact z0 _ rfl
 have hq:=h (h0.push (seqObj "list" vs.toArray 0)) hD λb o q=>zQ _ (k0 b o q)
 show vY _ _ _ _ _ {s with heap:=h0.push (seqObj "list" vs.toArray 0)};rw[e0];refine vz (vk (vx slot_list_sort ⟨_,hD,rfl⟩ entry_list_sort ?_ (args_list_sort _)));refine v4 hq (λfin s' hf=>?_) λ_ _ x=>x
 exact⟨_,hf.1,v7 ⟨_,rfl,hf.2⟩⟩
theorem ZST{a:xZ}{vs:List xj}{n:Nat}{P:Fin->xq->Prop}(ho:s.heap.get? a=vE (seqObj "list" vs.toArray n))(h2:vs.length<2)
  (h:∀h' c,h'.get? a=vE (seqObj "list" vs.toArray c)->(∀b o,b≠a->s.heap.get? b=vE o->h'.get? b=vE o)->P (.done (.ret .none)) {s with heap:=h'}):vY (vZ prog w) A (Builtin.«list.sort» ⟨[.ref a],[]⟩) P E s:=by
 have ha:a<s.heap.objs.size:=zj ho;have s1:=qj.update s.heap a (Obj.mapSeq λ_=>(#[]:Array xj));obtain⟨e1,ho1⟩:∃e1,(s.heap.update a (Obj.mapSeq λ_=>(#[]:Array xj))).get? a=vE (seqObj "list" #[] e1):=⟨_,get?_update_seq ho λ_=> #[]⟩;rw[list_sort_plain];refine vz (listItems_at ho rfl (vz (listUpdate_at ho rfl ?_ (by rw[zY,vX];lia) (j8 _))))
 refine vz (seqEpoch_at ho1 rfl (vz (wpAny_newTuple (vz (wpAny_newList (vk ?_) (j8 _))) (by show vs.length<=_;rw[vX];lia))));dsimp only;have hn2:vs.toArray.size<2:=by rw[zY];lia
 rw[if_pos hn2,if_pos hn2];refine vz (v7 (vz (wpAny_of_eq (a:=((),SortSt.mk' general' (vs.toArray.zip vs.toArray) #[] 7 vF)) rfl ?_)));dsimp only
 have hout:(arrOf (SortSt.mk' general' (vs.toArray.zip vs.toArray) #[] 7 vF)).map (·.2)=vs.toArray:=by
  show(vs.toArray.zip vs.toArray).map (·.2)=vs.toArray
  refine Array.ext (by simp) λi h1 h2=>by simp
 rw[hout];generalize hh:((s.heap.update a (Obj.mapSeq λ_=>(#[]:Array xj))).push {cls:=.type "tuple",data:=.seq vs.toArray.toList.toArray}).push {cls:=.type "list",data:=.seq ([]:List xj).toArray}=h3;have ho3:h3.get? a=vE (seqObj "list" #[] e1):=by rw[<-hh];exact zQ _ (zQ _ ho1)
 have k3:∀b o,b≠a->s.heap.get? b=vE o->h3.get? b=vE o:=λb o hb q=>by rw[<-hh];exact zQ _ (zQ _ (s1.extBut b o hb q))
 refine vz (seqEpoch_at (o:=seqObj "list" #[] e1) ?_ rfl ?_)
 ·exact ho3
 have s2:=qj.update h3 a (Obj.mapSeq λ_=>vs.toArray);obtain⟨c2,hc2⟩:∃c2,(h3.update a (Obj.mapSeq λ_=>vs.toArray)).get? a=vE (seqObj "list" vs.toArray c2):=⟨_,get?_update_seq ho3 λ_=>vs.toArray⟩;refine vz (listUpdate_at ho3 rfl ?_ (j8 _) (by show vs.toArray.size<=_;rw[zY,vX];lia));simp only[bne_self_eq_false,jx,if_false];exact v7 (h _ c2 hc2 λb o hb q=>s2.extBut b o hb (k3 b o hb q))
end
theorem ZLj:xE "sorted"=vE (.builtin "sorted"):=by decide +kernel
section
variable{X:Cx}{E:XK}{vD:List (xZ×Obj)}{σ:St}{s:xq}{H:Hp}
theorem V6(I:Inv X vD σ a.H s)(hk:a.K=X.K){u:xj}(r:Rep a d v)(ru:RelV v u)(h:d=.tup xs):∃p o vs us n,u=.ref p/\s.heap.get? p=vE o/\o.cls=.type "tuple"/\o.data=.seq us n/\Vals vs us.toList/\Reps a xs vs:=by subst h;obtain⟨p,vs,rfl,hq,rv⟩:=r;cases ru;rw[hk]at hq;obtain⟨its,rr,⟨o,ho,hc,n,hd⟩,hz⟩:=I.tuple hq;exact⟨p,o,vs,its.toArray,n,rfl,ho,hc,hd,by simpa using rr,rv⟩
theorem ZO1(h:isIt d=vG):∃i r,d=.tup (.int i::r):=by
 unfold isIt at h;split at h
 ·exact⟨_,_,rfl⟩
 ·cases h
theorem ZQI(h:Vh d=vG):∃i r,d=.tup (.str i::r):=by
 unfold Vh at h;split at h
 ·exact⟨_,_,rfl⟩
 ·cases h
theorem ZIf(I:Inv X vD σ a.H s)(hk:a.K=X.K):∀{xs:List D}{vs:List V}{us:List xj},Reps a xs vs->Vals vs us->xs.all isIt=vG->∃fs,PySem.W.KatTups s.heap us fs/\fs.length=us.length/\∀v∈fs,∃i t,v=.int i t
 |[],vs,us,r,v,h=>by
  cases(show vs=[]from r);cases v
  exact⟨[],.nil,rfl,λ_ hm=>nomatch hm⟩
 | d::xs,vs,us,r,v,h=>by
  rw[qB,zC]at h;obtain⟨v0,vr,rfl,e1,r1⟩:=r;cases v with
  | cons q1 v1=>
   obtain⟨i,rr,rfl⟩:=ZO1 h.1;obtain⟨p,o,ws,zs,n,rfl,ho,hc,hd,hv,hr⟩:=V6 I hk e1 q1 rfl;obtain⟨w0,wr,rfl,g1,g2⟩:=hr
   cases(show w0=V.int i from g1)
   obtain⟨fs,k1,k2,k3⟩:=ZIf I hk r1 v1 h.2;have hz:∃t,zs[0]?=vE (.int i t):=by
    cases hz:zs.toList with
    |nil=>rw[hz]at hv;cases hv
    | cons z zr=>
     rw[hz]at hv;cases hv with
     |cons q _=>
      obtain⟨t,rfl⟩:=q;exact⟨t,by rw[<-qH,hz];rfl⟩
   obtain⟨t,hz⟩:=hz;refine⟨.int i t::fs,.cons ho hc hd hz k1,by simp[k2],λv hm=>?_⟩;rcases zw.mp hm with rfl|hm
   ·exact⟨i,t,rfl⟩
   ·exact k3 v hm
theorem ZKL(I:Inv X vD σ a.H s)(hk:a.K=X.K):∀{xs:List D}{vs:List V}{us:List xj},Reps a xs vs->Vals vs us->xs.all Vh=vG->∃fs,PySem.W.KatTups s.heap us fs/\fs.length=us.length/\∀v∈fs,∃i t,v=.str i t
 |[],vs,us,r,v,h=>by
  cases(show vs=[]from r);cases v
  exact⟨[],.nil,rfl,λ_ hm=>nomatch hm⟩
 | d::xs,vs,us,r,v,h=>by
  rw[qB,zC]at h;obtain⟨v0,vr,rfl,e1,r1⟩:=r;cases v with
  | cons q1 v1=>
   obtain⟨i,rr,rfl⟩:=ZQI h.1;obtain⟨p,o,ws,zs,n,rfl,ho,hc,hd,hv,hr⟩:=V6 I hk e1 q1 rfl;obtain⟨w0,wr,rfl,g1,g2⟩:=hr
   cases(show w0=V.str i from g1)
   obtain⟨fs,k1,k2,k3⟩:=ZKL I hk r1 v1 h.2;have hz:∃t,zs[0]?=vE (.str i t):=by
    cases hz:zs.toList with
    |nil=>rw[hz]at hv;cases hv
    | cons z zr=>
     rw[hz]at hv;cases hv with
     |cons q _=>
      obtain⟨t,rfl⟩:=q;exact⟨t,by rw[<-qH,hz];rfl⟩
   obtain⟨t,hz⟩:=hz;refine⟨.str i t::fs,.cons ho hc hd hz k1,by simp[k2],λv hm=>?_⟩;rcases zw.mp hm with rfl|hm
   ·exact⟨i,t,rfl⟩
   ·exact k3 v hm
theorem ZFT{ws:List V}{us:List xj}{Q:VK}{h2:Heap}{c:Nat}(I:Inv X vD σ a.H s)(sm:Sim a G)(q:out E a (.ok (.ref G.length) (G++[.lst ys])) Q)(r:Reps a ys ws)(v:Vals ws us)(hz:us.length<64)
  (hD:h2.get? (s.heap.objs.size+1)=vE (seqObj "list" us.toArray c)) (k:∀b o,b≠X.env.locals->s.heap.get? b=vE o->h2.get? b=vE o) (ns:∀m,s.heap.Ns X.env.locals m->h2.Ns X.env.locals m):
  EP X vD σ Q (.ref (s.heap.objs.size+1)) {s with heap:=h2}:=by
 have hle:s.heap.objs.size<=s.heap.objs.size+1:=jk _;obtain⟨g0,g1,g2,g3,g4,g5⟩:=I.Ke (H':=a.H) hle (I.hok.fresh hle);have I2:Inv X vD σ a.H {s with heap:=h2}:=ZHH (t':=s.toks) I k ns;refine⟨.ref (s.heap.objs.size+1),_,ZBH I2 g0 (zB I.sz hle) g1 g4 g5 (o:=.lst ws) ⟨?_,us,c,v,hD⟩,rfl,M4 sm r q _ g0⟩;rw[v.length,vX];lia
end
section
variable{X:Cx}{E:XK}
theorem ZSf(h:Q3 xs=vG){x y:D}(hx:x∈xs)(hy:y∈xs):∃k,ltD x y=vE k:=by unfold Q3 at h;rw[zC]at h;exact qL.mp (qK.mp (qK.mp h.2 x hx) y hy)
theorem ZQd{x y:D}{k:Bool}(h:ltD x y=vE k):∃xs ys,x=.tup xs/\y=.tup ys/\ltL xs ys=vE k:=by
 unfold ltD at h;split at h
 ·exact⟨_,_,rfl,rfl,h⟩
 ·cases h
theorem ZGU(r:Reps a xs vs):∀l:List Nat,(∀i∈l,i<xs.length)->Reps a (l.map λi=>xs.getD i .non) (l.map λi=>vs.getD i .non)
 |[],_=>rfl
 |i::l,h=>by
  have hi:i<xs.length:=h i zW;obtain⟨v,ev,rv⟩:=r.get (i:=i) (d:=xs[i]) (zJ hi);refine⟨vs.getD i .non,_,rfl,?_,ZGU r l λj hj=>h j (zX _ hj)⟩;have e1:xs.getD i .non=xs[i]:=by simp[hi]
  have e2:vs.getD i .non=v:=by rw[zD,ev];rfl
  show Rep a (xs.getD i .non) (vs.getD i .non);rw[e1,e2];exact rv
theorem ZJ5{us:List xj}(r:Vals vs us):∀l:List Nat,(∀i∈l,i<vs.length)->Vals (l.map λi=>vs.getD i .non) (l.map λi=>us.getD i .none)
 |[],_=>.nil
 |i::l,h=>by
  have hi:i<vs.length:=h i zW;obtain⟨u,eu,ru⟩:=r.get (i:=i) (x:=vs[i]) (zJ hi);rw[zk,zk];have e1:vs.getD i .non=vs[i]:=by simp[hi]
  have e2:us.getD i .none=u:=by rw[zD,eu];rfl
  rw[e1,e2];exact .cons ru (ZJ5 r l λj hj=>h j (zX _ hj))
theorem ZKh{n:Nat}{lt:Nat->Nat->Bool}{P:Array Nat->Prop}:∀{t:PySem.W.KasT (Array Nat)},Safe n P t->P (Cw lt t)
 |.ret _,h=>h
 |.ask i j k,h=>ZKh (t:=k (lt i j)) (h.2.2 (lt i j))
theorem ZJv{n:Nat}:∀f{p:Array Nat}k,Ents n p->Safe n (Ents n) (PySem.W.kas_bin f p k)
 |0,p,k,h=>h
 |f+1,p,k,h=>Safe.bind (P:=λ_=>True) (λa _=>ZJv f _ (h.perm (bubble_perm ..))) (Z8 h k _ _ _)
theorem ZKV{n:Nat}(hn:0<n):Safe n (Ents n) (PySem.W.kas_sort n):=
 Safe.bind (P:=λr=>Ents n r.2) (λa ha=>by
  split
  ·exact ZJv _ _ ha
  ·exact ha) (ZKq ⟨hn,Array.Perm.refl _⟩ _)
theorem ZRb:CallR X (.builtin "sorted") (lRn X.K E Rb):=by
 intro vD s σ H vs us Q I rs h;obtain⟨a,G,ds,hk,rfl,sm,r,q⟩:=h;unfold Rb at q;split at q
 ·rename_i d;obtain⟨v,rfl,rv⟩:=reps1 r;split at q
  ·rename_i xs hs;split at q
   ·rename_i hc;obtain⟨p,ws,rfl,h1,r1⟩:=Sx sm rv hs;rw[hk]at h1;obtain⟨u,rfl,ru⟩:=vals1 rs;cases ru;obtain⟨its,hv,pl,hz⟩:=I.list h1;have hlx:xs.length=its.length:=r1.length.trans hv.length;refine ZS6 pl.isList (by lia) λh1 hD k1=>?_
    obtain⟨m,hn,_⟩:=id I.loc;have hns1:h1.Ns X.env.locals m:=hn.keeps k1;have hDL:s.heap.objs.size+1≠X.env.locals:=jJ (qC I.lt);have nsAll:∀{h2:Heap},h2.Ns X.env.locals m->∀m',s.heap.Ns X.env.locals m'->h2.Ns X.env.locals m':=λ{h2}hh m' hm'=>by have e1:=hn.eq_nsMap;have e2:=hm'.eq_nsMap;rw[e2,<-e1];exact hh
    by_cases hlen:xs.length<2
    ·refine ZST (s:={s with heap:=h1}) hD (by lia) λh2 c hD2 k2=>⟨rfl,?_⟩
     have es:Ly xs=xs:=by unfold Ly;rw[if_pos hlen]
     rw[es]at q;refine ZFT I sm q r1 hv (by lia) hD2 (λb o hb e=>k2 b o ?_ (k1 b o e)) (nsAll (hns1.at λo e=>k2 _ o (Ne.symm hDL) e));exact zE (qC (zj e))
    ·have es:Ly xs=(Cw (ltI xs) (PySem.W.kas_sort xs.length)).toList.map λi=>xs.getD i .non:=by unfold Ly;rw[if_neg hlen]
     rw[es]at q;refine PySem.W.kat_list_sort (s:={s with heap:=h1}) (Att.ZPO hns1) (news:=Att.ledger h1 X.env.locals (s.heap.objs.size+1)) ?_ hD hDL (Att.ZAm _ _) (λ⟨_,_⟩ hp=>(Att.Uy.mp hp).2.1) (by lia) (by lia) λe1 h2 F2 N2=>?_
     ·rintro⟨b,o⟩ hp;obtain⟨n1,n2,e⟩:=Att.Uy.mp hp;exact⟨e,n1,Att.ZAm _ _⟩
     have k2:∀b o,b≠X.env.locals->s.heap.get? b=vE o->h2.get? b=vE o:=λb o hb e=>
      (N2 (b,o) (zX _ (Att.Uy.mpr ⟨hb,zE (qC (zj e)),k1 b o e⟩))).1
     have I2:Inv X vD σ a.H {s with heap:=h2}:=ZHH (t':=s.toks) I k2 (nsAll F2.ns);have hpos:0<its.length:=by lia
     have fin:(PySem.W.kas_sort its.length).kasWp (PySem.W.kas_ask X.prog X.w X.A.in1.in1 (tuples' vG) its) (λp s''=>PySem.W.KasFin (Att.Xd h1) X.env.locals m (s.heap.objs.size+1) e1 (p.toList.map λi=>its.getD i Value.none) (λs3=>PySem.Fin.done (.ret .none)=PySem.Fin.done (.ret .none)/\EP X vD σ Q (.ref (s.heap.objs.size+1)) s3) s'') {s with heap:=h2}:=by
      refine ZJN (lt:=ltI xs) (λi j hi hj C hC=>?_) (ZKV hpos) ?_
      ·have hxi:i<xs.length:=by lia
       have hxj:j<xs.length:=by lia
       obtain⟨v1,ev1,rv1⟩:=r1.get (i:=i) (d:=xs[i]) (zJ hxi);obtain⟨v2,ev2,rv2⟩:=r1.get (i:=j) (d:=xs[j]) (zJ hxj);obtain⟨u1,eu1,ru1⟩:=hv.get ev1;obtain⟨u2,eu2,ru2⟩:=hv.get ev2;obtain⟨k,hlt⟩:=ZSf hc.2 (qx hxi) (qx hxj);obtain⟨as,bs,ea,eb,hlL⟩:=ZQd hlt;obtain⟨p1,o1,vs1,us1,n1,rfl,ho1,_,hd1,hv1,hr1⟩:=V6 I2 hk rv1 ru1 ea;obtain⟨p2,o2,vs2,us2,n2,rfl,ho2,_,hd2,hv2,hr2⟩:=V6 I2 hk rv2 ru2 eb
       have hC':C k {s with heap:=h2}:=by
        have:ltI xs i j=k:=by
         unfold ltI;have e1:xs.getD i .non=xs[i]:=by simp[hxi]
         have e2:xs.getD j .non=xs[j]:=by simp[hxj]
         rw[e1,e2,hlt];rfl
        rw[<-this];exact hC
       unfold PySem.W.kas_ask;have g1:its.getD i Value.none=.ref p1:=by rw[zD,eu1];rfl
       have g2:its.getD j Value.none=.ref p2:=by rw[zD,eu2];rfl
       rw[g1,g2];exact PySem.W.kat_lt ho1 hd1 ho2 hd2 (ZDh hr1 hr2 hv1 hv2 hlL (by simp) hC')
      ·have hen:Ents its.length (Cw (ltI xs) (PySem.W.kas_sort its.length)):=ZKh (ZKV hpos);rw[hlx]at q;refine PySem.W.KasFin.intro F2 N2 (.head λ⟨_,_⟩ hp=>(Att.Uy.mp hp).2.1) λh3 c F3 N3=>⟨rfl,?_⟩
       have hin:∀i∈(Cw (ltI xs) (PySem.W.kas_sort its.length)).toList,i<its.length:=λi hi=>hen.lt (by simpa using hi)
       refine ZFT I sm q (ZGU r1 _ λi hi=>by rw[hlx];exact hin i hi) (ZJ5 hv _ λi hi=>by rw[hv.length];exact hin i hi) ?_ (N3 _ zW).1 (λb o hb e=>?_) (nsAll F3.ns)
       ·rw[hlx]at es;have:=hc.1.2;rw[es]at this;simpa using this
       ·exact(N3 (b,o) (zX _ (Att.Uy.mpr ⟨hb,zE (qC (zj e)),k1 b o e⟩))).1
     unfold Q3 at hc;rw[zC,j9]at hc;rcases hc.2.1 with hall|hall
     ·obtain⟨fs,t1,t2,t3⟩:=ZIf I2 hk r1 hv hall;refine PySem.W.kat_kind (T:=.type "int") t1 (by lia) (λv hm=>?_) (by decide) ?_
      ·obtain⟨i,t,rfl⟩:=t3 v hm;exact PySem.W.Looks.now
      ·exact fin
     ·obtain⟨fs,t1,t2,t3⟩:=ZKL I2 hk r1 hv hall;refine PySem.W.kat_kind (T:=.type "str") t1 (by lia) (λv hm=>?_) (by decide) ?_
      ·obtain⟨i,t,rfl⟩:=t3 v hm;exact PySem.W.Looks.now
      ·exact fin
   ·exact q.elim
  ·exact q.elim
 ·exact q.elim
end
section
variable{S:DSt}{G:DH}
@[simp]theorem ZUj{to ti:DE}{f:D->D->DH->R D}:Qy to ti te f S G=(to S G).toS λo G1=>(ti S G1).toS λi G2=>(ixL o i G2).toS λx G3=>(te S G3).toS λy G4=>(f x y G4).toS λz G5=>(M8 o i z G5).toS λ_ G6=>.nx S G6:=id rfl
theorem ZAO{p:Nat}{k:Int}(h:G[p]?=vE (.lst xs))(e:atI xs k=vE d):ixL (.ref p) (.int k) G=.ok d G:=by unfold ixL;simp only;rw[h];simp only;rw[e]
noncomputable def Et(xs:List D):List D:=xs.zipIdx.map λq=>.tup [.int q.2,q.1]
noncomputable def O6(xs ys:List D):List D:=(xs.zip ys).map λq=>.tup [q.1,q.2]
theorem ZKT{f:Nat->DH->Option (Option D)}{b:DS}(h:∀j G,f j G=vE xs[j]?):∀(n j:Nat),j+n=xs.length->∀S G,Eo f g b n j S G=Bo g b (xs.drop j) S G
 |0,j,e,S,G=>by
  unfold Eo;rw[h,zA (by lia),zP (by lia)]
  rfl
 |n+1,j,e,S,G=>by
  have hj:j<xs.length:=by lia
  unfold Eo;rw[h,zJ hj,zM hj,Dh];have:Eo f g b n (j+1)=Bo g b (xs.drop (j+1)):=by funext S G;exact ZKT h n (j+1) (by lia) S G
  rw[this]
theorem Rc{f:Nat->DH->Option (Option D)}{b:DS}{n:Nat}(h:∀j G,f j G=vE xs[j]?)(hn:n=xs.length):Eo f g b n 0 S G=Bo g b xs S G:=by rw[ZKT h n 0 (by lia)];rfl
theorem ZAa(j:Nat)(G:DH):Ew 0 (.fl xs) j G=vE (Et xs)[j]? :=by
 unfold Ew Et;simp only[Ci,zx,List.getElem?_zipIdx]
 cases xs[j]?<;>simp
theorem ZPM(j:Nat)(G:DH):Ew 0 (.tup xs) j G=vE (Et xs)[j]? :=by
 unfold Ew Et;simp only[Ci,zx,List.getElem?_zipIdx]
 cases xs[j]?<;>simp
theorem Lb:(Et xs).length=xs.length:=by simp[Et]
@[simp]theorem ZUZ:Im [.fl xs] G=.ok (.fn xs.length (Ew 0 (.fl xs))) G:=by simp[Im,Ld,Ci,lenOf]
@[simp]theorem ZME{b:DS}:Eo (Ew 0 (.fl xs)) g b xs.length 0 S G=Bo g b (Et xs) S G:=Rc ZAa Lb.symm
@[simp]theorem ZTz{b:DS}:Eo (Ew 0 (.tup xs)) g b xs.length 0 S G=Bo g b (Et xs) S G:=Rc ZPM Lb.symm
theorem ZFb{f:Nat->DH->Option (Option D)}{c:DB}{F:D->Option D}(hf:∀j,f j G=vE xs[j]?)(h:∀x∈xs,CStep g c te S G x (F x)):
  ∀(n j:Nat),xs.length<=j+n->Ds f g c te S n j G=.ok ((xs.drop j).filterMap F) G
 |0,j,hj=>by
  unfold Ds;rw[hf,zA (by lia)];simp only;rw[zP (by lia)]
  rfl
 | n+1,j,hj=>by
  unfold Ds;rw[hf];by_cases hlt:j<xs.length
  ·have ih:=ZFb hf h n (j+1) (by lia);obtain⟨S1,h1,h2⟩:=h xs[j] (qx hlt);rw[zJ hlt];simp only[h1,R.Ji];rw[zM hlt,qY];rcases h2 with⟨h2,h3⟩|⟨h2,d,h3,h4⟩
   ·simp[h2,h3,ih]
   ·simp[h2,h3,h4,ih]
  ·rw[zA (by lia),zP (by lia)]
   rfl
theorem Yg{f:Nat->DH->Option (Option D)}{c:DB}{F:D->Option D}{n:Nat}(hf:∀j,f j G=vE xs[j]?)(h:∀x∈xs,CStep g c te S G x (F x))(hn:xs.length<=n):
  Ds f g c te S n 0 G=.ok (xs.filterMap F) G:=ZFb hf h n 0 (by lia)
theorem ZDq{e:D}(hd:Ci d G=vE xs)(he:Ci e G=vE ys)(j:Nat):Gz [d,e] j G=vE (O6 xs ys)[j]? :=by
 unfold Gz O6;simp only[Ip,hd,he,zx,List.getElem?_zip_eq_some]
 have ez:(xs.zip ys)[j]?=match xs[j]?,ys[j]? with
  |some x,vE y=>vE (x,y)
  |_,_=>vF:=by
  rw[List.zip,List.getElem?_zipWith]
  cases xs[j]?<;>cases ys[j]?<;>rfl
 rw[ez];cases xs[j]? with
 |none=>rfl
 |some x=>
  cases ys[j]? with
  |none=>rfl
  |some y=>rfl
theorem ZAD{e:D}(hd:Ci d G=vE xs)(he:Ci e G=vE ys):Ie 2 [d,e] G=.ok (.fn xs.length (Gz [d,e])) G:=by simp[Ie,Ld,hd,he,lenOf]
@[simp]theorem ZKg:Ci (.fl xs) G=vE xs:=id rfl
@[simp]theorem Mf:Ci (.tup xs) G=vE xs:=id rfl
theorem ZSv{i:Nat}(h:G[i]?=vE (.lst xs)):Ci (.ref i) G=vE xs:=by simp[Ci,h]
theorem ZJc{n:Int}{ns:List Int}(h:Ci d G=vE ((n::ns).map D.int)):Jz [d] G=.ok (.int (ns.foldl min n)) G:=by simp only[Jz,h,ZCh]
theorem ZIm{n:Int}{ns:List Int}(h:Ci d G=vE ((n::ns).map D.int)):Jy [d] G=.ok (.int (ns.foldl max n)) G:=by simp only[Jy,h,ZCh]
theorem ZIZ{p:Nat}{k:Nat}(h:G[p]?=vE (.lst [d]))(hk:k<=1000000):Li (.ref p) (.int (k:Int)) G=.ok (.ref G.length) (G++[.lst (zV k d)]):=by
 unfold Li;simp only;rw[h];simp only;have e:(zV k [d]).flatten=zV k d:=by
  induction k with
  |zero=>rfl
  |succ k ih=>rw[zS,q8,ih (by lia),zS];rfl
 rw[if_pos ⟨by lia,by lia,by simpa using hk⟩,Int.toNat_natCast,e]
end
def Bts(i:Int):Prop:=i.natAbs.log2<33554432
def MulB(i j:Int):Prop:=CMul i j∨(Bts i/\Bts j)
noncomputable instance (i:Int):Decidable (Bts i):=by unfold Bts;infer_instance
noncomputable instance (i j:Int):Decidable (MulB i j):=by unfold MulB;infer_instance
theorem MulB.ok{i j:Int}(h:MulB i j):IntMulOk i j:=by
 rcases h with h|⟨h1,h2⟩
 ·exact h.ok
 ·have b:∀k:Int,Bts k->Builtin.Int.intBits k<=33554432:=λk hk=>by
   unfold Builtin.Int.intBits;split
   ·exact j8 _
   ·exact hk
  have c1:=b i h1;have c2:=b j h2;have h:Builtin.Int.intTooBig (Builtin.Int.intBits i+Builtin.Int.intBits j)=vH:=by unfold Builtin.Int.intTooBig bitsLine;exact decide_eq_false (by lia)
  unfold IntMulOk;rw[h];simp
section
variable{X:Cx}{E:XK}
theorem ZOU:OpR X (xD .Mult) (rI MulB λi j=>.int (i*j)):=opI λ_ _ _ _ _ _ _ hc q=>mul_int q hc.ok
end
section
variable{i j:Int}{G:DH}
end
section
variable{X:Cx}{E:XK}
end
noncomputable def Ht(f:Str)(v:D):List (Str×D)->List (Str×D)
 |[]=>[(f,v)]
 |(g,x)::r=>if g=f then(g,v)::r else(g,x)::Ht f v r
theorem RepF.mono{b:Wd}(x:Ext a b){fs:List (Str×D)}(h:RepF a fs us):RepF b fs us:=⟨h.1,h.2.mono x⟩
theorem RepF.cons{g:Str}{fs:List (Str×D)}(h:Rep a d v)(r:RepF a fs us):RepF a ((g,d)::fs) ((g,v)::us):=
 ⟨by simp[r.1],v,us.map (·.2),rfl,h,r.2⟩
theorem RepF.uncons{g:Str}{fs:List (Str×D)}(h:RepF a ((g,d)::fs) us):∃v us',us=(g,v)::us'/\Rep a d v/\RepF a fs us':=by
 obtain⟨h1,h2⟩:=h;cases us with
 |nil=>simp at h1
 |cons q us=>
  obtain⟨g',y⟩:=q;simp only[zk,List.cons.injEq]at h1;obtain⟨rfl,h1⟩:=h1;obtain⟨v,r,e1,r1,r2⟩:=h2;simp only[zk,List.cons.injEq]at e1;obtain⟨rfl,rfl⟩:=e1;exact⟨y,us,rfl,r1,h1,r2⟩
theorem RepF.nil'(h:RepF a [] us):us=[]:=by
 obtain⟨h1,_⟩:=h;cases us with
 |nil=>rfl
 |cons q us=>simp at h1
theorem lkc{α:Type}{f g:Str}{x:α}{fs:List (Str×α)}:qS f ((g,x)::fs)=if(f==g)=vG then vE x else fs.lookup f:=by
 show(match f==g with
  |true=>vE x
  |false=>qS f fs)=_
 cases f==g<;>rfl
theorem RepF.look{f:Str}:∀{fs:List (Str×D)}{us:List (Str×V)},RepF a fs us->fs.lookup f=vE d->∃u,us.lookup f=vE u/\Rep a d u
 |[],us,h,e=>by simp at e
 |(g,x)::fs,us,h,e=>by
  obtain⟨v,us',rfl,hv,hr⟩:=h.uncons;rw[lkc]at e⊢;by_cases q:(f==g)=vG
  ·rw[if_pos q]at e⊢;cases e;exact⟨v,rfl,hv⟩
  ·rw[if_neg q]at e⊢;exact RepF.look hr e
theorem RepF.ZEI{f:Str}:∀{fs:List (Str×D)}{us:List (Str×V)},RepF a fs us->fs.lookup f=vF->us.lookup f=vF
 |[],us,h,e=>by rw[h.nil'];rfl
 |(g,x)::fs,us,h,e=>by
  obtain⟨v,us',rfl,hv,hr⟩:=h.uncons;rw[lkc]at e⊢;by_cases q:(f==g)=vG
  ·rw[if_pos q]at e;cases e
  ·rw[if_neg q]at e⊢;exact RepF.ZEI hr e
theorem RepF.put{f:Str}(q:Rep a d v):∀{fs:List (Str×D)}{us:List (Str×V)},RepF a fs us->RepF a (Ht f d fs) (Gg f v us)
 |[],us,h=>by rw[h.nil'];exact RepF.cons (fs:=[]) (us:=[]) q ⟨rfl,rfl⟩
 |(g,x)::fs,us,h=>by
  obtain⟨w,us',rfl,hv,hr⟩:=h.uncons;unfold Ht Gg;by_cases e:g=f
  ·rw[if_pos e,if_pos e];exact .cons q hr
  ·rw[if_neg e,if_neg e];exact .cons hv (RepF.put q hr)
theorem RepF.len{fs:List (Str×D)}(h:RepF a fs us):us.length=fs.length:=by have:=congrArg xQ h.1;simpa using this.symm
theorem Ext.wrI{p C dx:xZ}{ho:HO}(h:a.H p=vE (.ins C dx us)):Ext a (a.put p ho):=
 ⟨rfl,zK _,λ_ _=>rfl,λq xs e=>by
  show upd a.H p ho q=_;rw[Bd (λz=>by subst z;rw[h]at e;cases e)];exact e,λq o u e=>by
  show upd a.H p ho q=_;rw[Bd (λz=>by subst z;rw[h]at e;cases e)];exact e,λ_ t=>t.mono (λq ps e=>by show upd a.H p ho q=_;rw[Bd (λz=>by subst z;rw[h]at e;cases e)];exact e) (λq o u e=>by show upd a.H p ho q=_;rw[Bd (λz=>by subst z;rw[h]at e;cases e)];exact e)⟩
theorem Sim.wrI(s:Sim a G){i:Nat}(hi:i<a.n){c:Str}{C dx:xZ}{us':List (Str×V)}{fs':List (Str×D)}(hn:PySem.W.nsIn a.K vQ c=vE (vE (.ref C)))(h:a.H (a.m i)=vE (.ins C dx us))(r:RepF (a.put (a.m i) (.ins C dx us')) fs' us'):
  Sim (a.put (a.m i) (.ins C dx us')) (G.set i (.ins c fs')):=by
 refine⟨by rw[jv];exact s.len,s.inj,λj o e=>?_,λj hj=>?_⟩
 ·rw[qO]at e;show ORep _ o (upd a.H (a.m i) (.ins C dx us') (a.m j));by_cases hij:i=j
  ·subst hij;rw[if_pos rfl,if_pos (by rw[s.len];exact hi)]at e;cases e;rw[Gj];exact⟨C,dx,us',hn,rfl,r⟩
  ·rw[if_neg hij]at e;rw[Bd λz=>hij (s.inj _ _ (s.lt e) hi z).symm];exact(s.obj j o e).mono (Ext.wrI h)
 ·show upd a.H (a.m i) (.ins C dx us') (a.m j)≠vF;by_cases hij:a.m j=a.m i
  ·rw[hij,Gj];simp
  ·rw[Bd hij];exact s.tr j hj
noncomputable def K7(c:Str)(d:D)(G:DH):Option (List (Str×D)):=match d with
 |.ref i=>match G[i]? with
  |some (.ins c' fs)=>if c'=c then vE fs else vF
  |_=>vF
 |_=>vF
theorem Sim.ins{x:V}{c:Str}{fs:List (Str×D)}(s:Sim a G)(r:Rep a d x)(h:K7 c d G=vE fs):
  ∃i C dx us,d=.ref i/\i<a.n/\x=.ref (a.m i)/\G[i]?=vE (.ins c fs)/\PySem.W.nsIn a.K vQ c=vE (vE (.ref C))/\a.H (a.m i)=vE (.ins C dx us)/\RepF a fs us:=by
 unfold K7 at h;split at h
 ·rename_i i;split at h
  ·rename_i c' fs' e;split at h
   ·rename_i hc;subst hc;cases h;obtain⟨l,ev⟩:=r;obtain⟨C,dx,us,n,e1,r1⟩:=s.obj i _ e;exact⟨i,C,dx,us,rfl,l,ev,e,n,e1,r1⟩
   ·cases h
  ·cases h
 ·cases h
def Fw(c:Str)(t:DE)(f:Str):DE:=λS G=>(t S G).bind λd G1=>match K7 c d G1 with
 |some fs=>match fs.lookup f with
  |some v=>.ok v G1
  |none=>.bad
 |none=>.bad
def Hd(c:Str)(to tv:DE)(f:Str):DS:=λS G=>(tv S G).toS λd G1=>(to S G1).toS λo G2=>match o with
 |.ref i=>match K7 c o G2 with
  |some fs=>if fs.length<1000 then .nx S (G2.set i (.ins c (Ht f d fs)))else .bad
  |none=>.bad
 |_=>.bad
def Jh(c:Str)(m:Str)(F:List D->DH->R D)(to:DE)(t:DA):DE:=λS G=>(to S G).bind λo G1=>match K7 c o G1 with
 |some fs=>match fs.lookup m with
  |none=>(t S G1).bind λds G2=>F (o::ds) G2
  |some _=>.bad
 |none=>.bad
def ZAj(c:Str)(F:List D->DH->R D)(t:DA):DE:=λS G=>(t S G).bind λds G1=>(F (.ref G1.length::ds) (G1++[.ins c []])).bind λv G2=>match v with
 |.non=>.ok (.ref G1.length) G2
 |_=>.bad
section
variable{X:Cx}{E:XK}{c f m:Str}{C:xZ}{e o:xX}{es:List xX}{t ta tv:DE}{tr:DA}{pos apos pos':Pos}
theorem Gi(hn:PySem.W.nsIn X.K vQ c=vE (vE (.ref C)))(hc:Cls X.K C)(hf:NoAttr X.K C f)(ha:QE X E e t)(hb:xy e f X.env (eval e X.env)=eval e X.env:=by rfl):QE X E (.Attribute e f pos) (Fw c t f):=
 (ZRx ha hb).mono λσ H Q h=>by
  obtain⟨a,S,G,hk,rfl,s,r,h⟩:=h;refine⟨a,S,G,hk,rfl,s,r,(Gp h).imp ?_⟩;rintro v _ ⟨b,d,G1,rfl,x,s1,q,-,h1⟩;split at h1
  ·rename_i fs hi;obtain⟨i,C',dx,us,rfl,_,rfl,_,n',e1,r1⟩:=s1.ins q hi;have hCC:C'=C:=by
    rw[x.k,hk,hn]at n';cases n'
    rfl
   subst hCC;split at h1
   ·rename_i d' hd;obtain⟨u,eu,ru⟩:=r1.look hd;exact⟨b.m i,C',dx,us,u,rfl,e1,hc,hf,eu,h1 b u (Ext.refl b) s1 ru⟩
   ·exact h1.elim
  ·exact h1.elim
theorem O5(hn:PySem.W.nsIn X.K vQ c=vE (vE (.ref C)))(hc:Cls X.K C)(hf:NoAttr X.K C f)(ha:QE X E o ta)(hv:QE X E e tv)(hs:swapsWith e (vE (.Attribute o f pos')) pos.line X.env=pure vH:=by rfl):
  QS X E (.Assign [.Attribute o f pos'] e pos) (Hd c ta tv f):=
 (ZMv ha hv hs).mono λW σ H h=>by
  obtain⟨a,S,G,hk,rfl,s,r,h⟩:=h;refine⟨a,S,G,hk,rfl,s,r,(J9 h).imp ?_⟩;rintro v _ ⟨b,d,G1,rfl,x,s1,q,-,h1⟩;refine⟨b,S,G1,x.k.trans hk,rfl,s1,r.mono x,(J9 h1).imp ?_⟩;rintro v2 _ ⟨b2,d2,G2,rfl,x2,s2,q2,-,h2⟩;split at h2
  ·rename_i i;split at h2
   ·rename_i fs hi;split at h2
    ·rename_i hl;obtain⟨i',C',dx,us,ei,li,rfl,eg,n',e1,r1⟩:=s2.ins q2 hi;cases ei;have hCC:C'=C:=by
      rw[x2.k,x.k,hk,hn]at n';cases n'
      rfl
     subst hCC;have x3:Ext b2 (b2.put (b2.m i) (.ins C' dx (Gg f v us))):=Ext.wrI e1;have s3:=s2.wrI (fs':=Ht f d fs) li n' e1 (RepF.put ((q.mono x2).mono x3) (r1.mono x3));exact⟨b2.m i,C',dx,us,rfl,e1,hc,hf,by rw[r1.len];exact hl,h2 _ σ x3 s3 (((r.mono x).mono x2).mono x3)⟩
    ·exact h2.elim
   ·exact h2.elim
  ·exact h2.elim
theorem ZM0{sp:List D->DH->R D}{σ:St}{H:Hp}{Q:VK}(hn:PySem.W.nsIn X.K vQ c=vE (vE (.ref C)))(h:lE X.K E (Jh c m F ta tr) σ H Q):ZDZ C m (lF X.K F) [] E (lE X.K E ta) (lA X.K E tr) σ H Q:=by
 obtain⟨a,S,G,hk,rfl,s,r,h⟩:=h;refine⟨a,S,G,hk,rfl,s,r,(Gp h).imp ?_⟩;rintro v _ ⟨b,d,G1,rfl,x,s1,q,-,h1⟩;split at h1
 ·rename_i fs hi;obtain⟨i,C',dx,us,rfl,_,rfl,_,n',e1,r1⟩:=s1.ins q hi;have hCC:C'=C:=by
   rw[x.k,hk,hn]at n';cases n'
   rfl
  subst hCC;split at h1
  ·rename_i hm;refine⟨b.m i,dx,us,rfl,e1,r1.ZEI hm,b,S,G1,x.k.trans hk,rfl,s1,r.mono x,(Nf h1).imp ?_⟩;rintro vs _ ⟨b2,ds,G2,rfl,x2,s2,q2,-,h2⟩;exact⟨b2,G2,.ref i::ds,(x2.k.trans x.k).trans hk,rfl,s2,⟨.ref (b.m i),vs,by rw[jX],q.mono x2,q2⟩,h2⟩
  ·exact h1.elim
 ·exact h1.elim
theorem Qh{k:Nat}{g:xZ}{pl:Sem Bool}(hn:PySem.W.nsIn X.K vQ c=vE (vE (.ref C)))(hc:Cls X.K C)(hm:Meth X.K C m g)(FF:FnOk X.prog X.w X.K X.mg X.base CX k g fd ps (lF X.K F))(hr:Room k X.A)(hb:Binds X.K fd ps [])
  (hx:Passes CX X E) (ho:QE X E o ta) (ha:QA X E (e::es) tr) (he:notStar e=vG:=by rfl) (hpl:es.all notStar=vG:=by rfl)
  (ht:eval (.Call (.Attribute o m apos) (e::es) [] pos) X.env=(do
   let ov<-eval o X.env
   standAt apos.atName
   let(f,first)<-holding [ov] (getMethod ov m pl)
   callWith pos f first (x0 pos (vW (e::es) X.env)) (xB pos (xT [] X.env))):=by rfl):QE X E (.Call (.Attribute o m apos) (e::es) [] pos) (Jh c m F ta tr):=
 (ZSL (pl:=pl) ho hc hm FF hr hb .nil hx ha (Ov e es X.env he) (Qt pos X.env es hpl) ht).mono λσ H Q h=>ZM0 (sp:=F) hn h
theorem ZFp{k:Nat}{g:xZ}{pl:Sem Bool}(hn:PySem.W.nsIn X.K vQ c=vE (vE (.ref C)))(hc:Cls X.K C)(hm:Meth X.K C m g)(FF:FnOk X.prog X.w X.K X.mg X.base CX k g fd ps (lF X.K F))(hr:Room k X.A)(hb:Binds X.K fd ps [])
  (hx:Passes CX X E) (ho:QE X E o ta)
  (ht:eval (.Call (.Attribute o m apos) [] [] pos) X.env=(do
   let ov<-eval o X.env
   standAt apos.atName
   let(f,first)<-holding [ov] (getMethod ov m pl)
   callWith pos f first (x0 pos (vW [] X.env)) (xB pos (xT [] X.env))):=by rfl):QE X E (.Call (.Attribute o m apos) [] [] pos) (Jh c m F ta Ad):=
 (ZM6 (pl:=pl) ho hc hm FF hr hb .nil hx ht).mono λσ H Q h=>by
  obtain⟨a,S,G,hk,rfl,s,r,h⟩:=h;refine⟨a,S,G,hk,rfl,s,r,(Gp h).imp ?_⟩;rintro v _ ⟨b,d,G1,rfl,x,s1,q,-,h1⟩;split at h1
  ·rename_i fs hi;obtain⟨i,C',dx,us,rfl,_,rfl,_,n',e1,r1⟩:=s1.ins q hi;have hCC:C'=C:=by
    rw[x.k,hk,hn]at n';cases n'
    rfl
   subst hCC;split at h1
   ·rename_i hm;exact⟨b.m i,dx,us,rfl,e1,r1.ZEI hm,b,G1,[.ref i],x.k.trans hk,rfl,s1,⟨.ref (b.m i),[],rfl,q,rfl⟩,h1⟩
   ·exact h1.elim
  ·exact h1.elim
theorem ZM2{ds:List D}{Q:VK}(hk:a.K=X.K)(hn:PySem.W.nsIn X.K vQ c=vE (vE (.ref C)))(s:Sim a G)(q:Reps a ds vs)
  (h:out E a ((F (.ref G.length::ds) (G++[.ins c []])).bind λv G2=>match v with
   |.non=>.ok (.ref G.length) G2
   |_=>.bad) Q):∀x dx,a.H x=vF->a.H dx=vF->dx≠x->lF X.K F (.ref x::(vs++[])) (upd (upd a.H dx (.own x)) x (.ins C dx [])) (λv H2=>v=.non/\Q (.ref x) H2) E:=λp dx hp hdx hne=>by
 have x1:Ext a (a.put dx (.own p)):=Ext.put hdx;have s1:Sim (a.put dx (.own p)) G:=s.put hdx;have hp1:(a.put dx (.own p)).H p=vF:=by show upd a.H dx (.own p) p=vF;rw[Bd λz=>hne z.symm];exact hp
 have x2:Ext (a.put dx (.own p)) ((a.put dx (.own p)).push p (.ins C dx [])):=Ext.push hp1;have s2:Sim ((a.put dx (.own p)).push p (.ins C dx [])) (G++[.ins c []]):=s1.push hp1 ⟨C,dx,[],by show PySem.W.nsIn a.K vQ c=_;rw[hk];exact hn,rfl,rfl,rfl⟩;have hgl:G.length=a.n:=s.len;have mnew:((a.put dx (.own p)).push p (.ins C dx [])).m a.n=p:=by show(if a.n=a.n then p else a.m a.n)=p;rw[if_pos rfl]
 have rp:Rep ((a.put dx (.own p)).push p (.ins C dx [])) (.ref G.length) (.ref p):=by rw[hgl];exact⟨zU _,by rw[mnew]⟩
 refine⟨(a.put dx (.own p)).push p (.ins C dx []),_,.ref G.length::ds,hk,rfl,s2,⟨.ref p,vs,by rw[jX],rp,(q.mono x1).mono x2⟩,(Gp (out.mono (x1.trans x2) h)).imp ?_⟩;rintro v _ ⟨b,d,G1,rfl,x3,s3,q3,-,h3⟩;split at h3
 ·have:v=.non:=q3;exact⟨this,h3 b _ (Ext.refl b) s3 (rp.mono x3)⟩
 ·exact h3.elim
theorem ZRk{k:Nat}{g:xZ}{p:Pos}(hn:PySem.W.nsIn X.K vQ c=vE (vE (.ref C)))(M:Mk X.K C g)(FF:FnOk X.prog X.w X.K X.mg X.base CX k g fd ps (lF X.K F))(hr:Room (k+1) X.A)(hg:Gl X c)(hm:X.mg c=vE (.ref C))(hb:Binds X.K fd ps [])
  (hx:Passes CX X E) (ha:QA X E (e::es) tr) (hdb:(c==("__debug__":Str))=vH:=by decide) (he:notStar e=vG:=by rfl) (hpl:es.all notStar=vG:=by rfl):QE X E (.Call (.Name c p) (e::es) [] pos) (ZAj c F tr):=
 (ZK8 M FF hr hg hm hb .nil hx ha hdb (Ov e es X.env he) (Qt pos X.env es hpl)).mono λσ H Q h=>by obtain⟨a,S,G,hk,rfl,s,r,h⟩:=h;refine⟨a,S,G,hk,rfl,s,r,(Nf h).imp ?_⟩;rintro vs _ ⟨b,ds,G1,rfl,x,s1,q,-,h1⟩;exact ZM2 (x.k.trans hk) hn s1 q h1
end
def Ls(d:D)(ds:List D)(G:DH):R D:=match ds with
 | [.int k]=>match Ir d G with
  |some xs=>match Hr xs with
   |some ns=>if k∈ns/\ns.length<=1000000 then .ok (.int (ns.idxOf k)) G else .bad
   |none=>.bad
  |none=>.bad
 |_=>.bad
theorem ZKc:∀{ns:List Int}{vs:List V},Reps a (ns.map D.int) vs->vs=ns.map V.int
 |[],vs,h=>h
 |n::ns,vs,h=>by
  obtain⟨v,r,e,h1,h2⟩:=h
  cases(show v=V.int n from h1)
  rw[e,ZKc h2]
  rfl
theorem Th:∀{ns:List Int}{us:List xj},Vals (ns.map V.int) us->us.length=ns.length/\∀(j:Nat)(u:xj),us[j]?=vE u->∃t,∃h:j<ns.length,u=.int ns[j] t
 |[],us,h=>by cases h;exact⟨rfl,λj u e=>by simp at e⟩
 | n::ns,us,h=>by
  cases h with
  | cons r rr=>
   obtain⟨h1,h2⟩:=Th rr;obtain⟨t,rfl⟩:=r;refine⟨by simp[h1],λj u e=>?_⟩;cases j with
   |zero=>simp at e;exact⟨t,by simp,by simpa using e.symm⟩
   |succ j=>
    obtain⟨t',hj,e'⟩:=h2 j u (by simpa using e);exact⟨t',by simpa using hj,by simpa using e'⟩
section
variable{X:Cx}{E:XK}
theorem ZEv:MtM X "list.index" (lRm X.K E Ls):=by
 intro vD s σ H x xs v us Q I rx rxs h;obtain⟨a,G,d,ds,hk,rfl,sm,rd,rds,q⟩:=h;unfold Ls at q;split at q
 ·rename_i k;split at q
  ·rename_i ys hy;split at q
   ·rename_i ns hns;split at q
    ·rename_i hk';obtain⟨hmem,hlen⟩:=hk';obtain⟨p,vs,rfl,hq,rv⟩:=Sx sm rd hy;rw[ZAc hns]at rv;rw[ZKc rv,hk]at hq;cases rx;obtain⟨v1,rfl,rv1⟩:=reps1 rds
     cases(show v1=V.int k from rv1)
     obtain⟨u,rfl,ru⟩:=rxs.one;obtain⟨t,rfl⟩:=ru;obtain⟨its,rits,⟨o,n,ho,hc,hdi,hd⟩,hz⟩:=I.list hq;obtain⟨hl1,hl2⟩:=Th rits;have hlt:ns.idxOf k<ns.length:=j2 hmem;have hjs:ns.idxOf k<its.toArray.size:=by simpa[hl1]using hlt
     have hob:o={cls:=.type "list",dict:=o.dict,data:=.seq its.toArray n,slots:=o.slots}:=by
      obtain⟨c1,c2,c3,c4⟩:=o;simp only at hc hd;subst hc;subst hd
      rfl
     rw[hob]at ho
     refine call_meets PySem.F.slot_list_index ⟨_,ho,rfl⟩ PySem.F.entry_list_index (PySem.F.args_list_index_2 _ _) (SeqAt.list_indexAt p its.toArray n o.dict o.slots (.int k t) (λy=>match y with | .int i _=>i==k|_=>vH) (ns.idxOf k) hjs (by lia) ?_ ?_) ⟨ho,λy hy=>?_,?_⟩
     ·have hg:its[ns.idxOf k]?=vE its.toArray[ns.idxOf k]:=by simp[zJ (by simpa[hl1]using hlt:ns.idxOf k<its.length)]
      obtain⟨t',h3,e3⟩:=hl2 _ _ hg;rw[e3];simp
     ·intro m hm hlt2;have hml:m<its.length:=by simpa using hm
      have hg:its[m]?=vE its.toArray[m]:=by simp[zJ hml]
      obtain⟨t',h3,e3⟩:=hl2 _ _ hg;rw[e3];have:=List.not_of_lt_findIdx (p:=λx=>x==k) (xs:=ns) hlt2;simpa using this
     ·have hy2:y∈its:=by simpa using hy
      obtain⟨m,hm,e⟩:=q9 hy2;obtain⟨t',h3,e3⟩:=hl2 m y (by rw[zJ hm,e]);rw[e3];exact SeqAt.EqAt.int_int _ _ _ _
     ·exact⟨.int (ns.idxOf k),a.H,I.tok _,⟨_,rfl⟩,q a _ (Ext.refl a) sm rfl⟩
    ·exact q.elim
   ·exact q.elim
  ·exact q.elim
 ·exact q.elim
def tLR(ta:TA):TE:=λσ H Q=>ta σ H λvs H1=>∃j:Int,vs=[.int j]/\ -(2^62)<=j/\j<=1000000/\∀l,H1 l=vF->Q (.ref l) (upd H1 l (.lst ((zZ j.toNat).map λ(i:Nat)=>V.int (i:Int))))
theorem ZQs{acc:Array xj}{n:Nat}(h:ItemsOf (λi v=>∃t,v=.int ((0:Int)+i*1) t) acc n):Vals ((zZ n).map λ(i:Nat)=>V.int (i:Int)) acc.toList:=by
 obtain⟨h1,h2⟩:=h;refine ZBy (by simp[h1]) λi v u hv hu=>?_
 have hi:i<n:=by have:=(zF.mp hv).1;simpa using this
 rw[zx,zL hi]at hv;have ev:v=V.int (i:Int):=by simpa using hv.symm
 obtain⟨t,e⟩:=h2 i u (by rw[<-qH];exact hu);subst ev;refine⟨t,?_⟩;rw[e]
 congr 1
 lia
theorem ZQJ{ta:TA}{p p' pos pos':Pos}(hc:X.calm=vG)(hg:Gl X "list")(hm:X.mg "list"=vF)(hg2:Gl X "range")(hm2:X.mg "range"=vF)(ha:PA X [e] ta)(hs:vW [e] X.env=[(vH,eval e X.env)]:=by rfl)
  (hs2:vW [.Call (.Name "range" p') [e] [] pos'] X.env=[(vH,eval (.Call (.Name "range" p') [e] [] pos') X.env)]:=by rfl):PE X (.Call (.Name "list" p) [.Call (.Name "range" p') [e] [] pos'] [] pos) (tLR ta):=by
 intro vD s σ H Q I h;refine Call_ (Jo I hg hm Xe (PyProof.Rows.callWith_type1 ?_ hs2 rfl));rw[hs2];refine Calls.spliced_cons (Call_ (Jo I hg2 hm2 PyProof.Rows.boot_range (PyProof.Rows.callWith_type1 (thn (ha pos' vD s σ H _ I h) λus s1 ⟨vs,H1,I1,r1,q1⟩=>?_) hs rfl)));obtain⟨j,rfl,b1,b2,q⟩:=q1;obtain⟨u,rfl,ru⟩:=r1.one;obtain⟨t,rfl⟩:=ru;refine call_range_1 (Calls.spliced_nil ?_)
 have hsz:Builtin.Range.rangeSize 0 j 1=(j.toNat:Int):=by rw[rangeSize_one];split <;> lia
 refine call_list_range (I.ok.hd hc) (IsRange.new ..) (small_one (by decide) (by decide) b1 (by lia)) hsz (by lia) λh' tk acc' c' hk hS' hacc=>?_
 have I2:=I1.kept (t':=s1.toks+1+1) (h':=s1.heap.push {cls:=.type "range",data:=.fields #[.int 0 s1.toks,.int j t,.int 1 (s1.toks+1)]}) λb o e=>zQ _ e
 refine⟨.ref _,_,I2.laid (o:=.lst ((zZ j.toNat).map λ(i:Nat)=>V.int (i:Int))) (t':=tk) hk (zK _) ⟨?_,acc'.toList,c',ZQs hacc,by simpa using hS'⟩,rfl,q _ (I2.hok.fresh (zK _))⟩;rw[qQ,List.length_range,vX];lia
def dLR(t:DA):DE:=λS G=>(t S G).bind λds G1=>match ds with
 |[.int j]=>if inR j/\j<=1000000 then .ok (.ref G1.length) (G1++[.lst (Cm 0 j.toNat)])else .bad
 |_=>.bad
theorem ZNb{p p' pos pos':Pos}(hc:X.calm=vG)(hg:Gl X "list")(hm:X.mg "list"=vF)(hg2:Gl X "range")(hm2:X.mg "range"=vF)(ha:QA X E [e] ta)(hs:vW [e] X.env=[(vH,eval e X.env)]:=by rfl)
  (hs2:vW [.Call (.Name "range" p') [e] [] pos'] X.env=[(vH,eval (.Call (.Name "range" p') [e] [] pos') X.env)]:=by rfl):QE X E (.Call (.Name "list" p) [.Call (.Name "range" p') [e] [] pos'] [] pos) (dLR ta):=
 (ZQJ hc hg hm hg2 hm2 ha hs hs2).mono λσ H Q h=>by
  obtain⟨a,S,G,hk,rfl,s,r,h⟩:=h;refine⟨a,S,G,hk,rfl,s,r,(Nf h).imp ?_⟩;rintro vs _ ⟨b,ds,G1,rfl,x,s1,q,-,h1⟩;split at h1
  ·rename_i j;split at h1
   ·rename_i hj;obtain⟨v,rfl,rv⟩:=reps1 q
    cases(show v=V.int j from rv)
    refine⟨j,rfl,hj.1.1,hj.2,λl hl=>M4 s1 ?_ h1 l hl⟩;unfold Cm;generalize zZ j.toNat=L
    induction L with
    |nil=>exact rfl
    |cons k L ih=>exact⟨_,_,rfl,(by show V.int (k:Int)=V.int (0+(k:Int));rw[Int.zero_add]),ih⟩
   ·exact h1.elim
  ·exact h1.elim
noncomputable def Itd(lo:Int)(n:Nat):It:=⟨λi _=>i<n,λi H x H'=>H'=H/\x=.int (lo-i),λi _=>n<=i⟩
theorem ZMN{P:xK}{w:xw}{K:PySem.W.Frag}{tg:xX}(it:xZ)(lo:Int)(n:Nat):Turn P w K tg (Itd lo n) [it] it (λi h=>IsRangeIter h it (lo+(i:Nat)*(-1)) ((n:Int)-(i:Nat)) (-1)) where
 mem:=by simp
 obj:=λi h st b hb=>by
  have e:b=it:=by simpa using hb
  subst e;exact⟨_,st,λv z=>by have z':Data.fields _=Data.cell v:=z;cases z'⟩
 keep:=λi h h' st k=>k it (by simp) _ st
 item:=by
  intro X hP hw hK hc i vD s σ H E I hf st hg;subst hP hw hK;obtain⟨f0,f1,f2,f3,f4,f5⟩:=hf it (by simp);have W:=Walks.range (prog:=X.prog) (w:=X.w) (I.ok.hd hc) it lo (-1) n;refine W.item i s _ _ hg st λv h' tk hv st' kk=>?_
  obtain⟨t,rfl⟩:=hv;have I1:Inv X vD σ H {s with heap:=h',toks:=tk}:=I.turned (λb o hb e=>kk b o (by simpa using hb) e) f0 f1 f3 f4 f5;refine⟨_,rfl,R8 (s:={s with heap:=h',toks:=tk}) (n:="range_iterator") st' rfl rfl (by decide) ⟨.int (lo-i),H,I1,⟨t,?_⟩,⟨rfl,rfl⟩,st',λb hb=>(hf b hb).1⟩⟩
  congr 1
  lia
 done:=by intro X hP hw hK hc i vD s σ H E I hf st hg;subst hP hw hK;obtain⟨f0,f1,f2,f3,f4,f5⟩:=hf it (by simp);exact wpAny_pyNext_range_end (I.ok.hd hc) st (by have:n<=i:=hg;lia) λh' eb=>⟨rfl,I.turned (t':=s.toks) (λb o hb e=>eb b o hb e) f0 f1 f3 f4 f5⟩
 self:=λ_ _ _ _ _ st h=>wpAny_pyIter_rangeiter st h
theorem rangeSize_down(a b:Int):Builtin.Range.rangeSize a b (-1)=if b<a then a-b else 0:=by
 unfold Builtin.Range.rangeSize;rw[if_neg (by decide)];have e:(- (-1:Int))=1:=by decide
 rw[e,Int.ediv_one]
 split <;> lia
theorem small_down{a b:Int}(ha: -(2^62)<=a)(ha':a<2^62)(hb: -(2^62)<=b)(hb':b<2^62):Builtin.Range.small a b (-1)=vG:=by
 unfold Builtin.Range.small;rw[rangeSize_down];simp only[Builtin.Range.rangeFitsLong,zC,j9,decide_eq_true_eq,beq_iff_eq,show¬((-1:Int)>0) by decide,if_false]
 split <;> lia
def iDn(ta:TA):TI:=λσ H R=>ta σ H λvs H1=>∃i j:Int,vs=[.int i,.int j,.int (-1)]/\(-(2^62)<=i/\i<2^62/\ -(2^62)<=j/\j<2^62)/\R (Itd i (i-j).toNat) H1
theorem ZLC{tg a b c:xX}{ta:TA}{p pos:Pos}(hg:Gl X "range")(hm:X.mg "range"=vF)(ha:PA X [a,b,c] ta)(hs:vW [a,b,c] X.env=(vH,eval a X.env)::vW [b,c] X.env:=by rfl)(hs2:(x0 pos (vW [b,c] X.env)).any (·.1)=vH:=by rfl):
  PI X tg (.Call (.Name "range" p) [a,b,c] [] pos) (iDn ta):=by
 intro vD s σ H R I h;refine Call_ (Jo I hg hm PyProof.Rows.boot_range (PyProof.Rows.callWith_type1 (thn (ha pos vD s σ H _ I h) λus s1 ⟨vs,H1,I1,r1,q1⟩=>?_) hs hs2));obtain⟨i,j,e,⟨q1,q2,q3,q4⟩,q⟩:=q1;subst e;cases r1 with
 | cons r rr=>
  cases rr with
  | cons r' rr=>
   cases rr with
   | cons r'' rr=>
    cases rr;obtain⟨t,rfl⟩:=r;obtain⟨t',rfl⟩:=r';obtain⟨t'',rfl⟩:=r'';refine call_range_3 (by decide) ?_ (.inl (PyProof.noPylong_small (by lia)));refine wpAny_pyIter_range (IsRange.new ..) (small_down q1 q2 q3 q4) ?_;have I2:Inv X vD σ H1 {s1 with heap:=s1.heap.push {cls:=.type "range",data:=.fields #[.int i t,.int j t',.int (-1) t'']},toks:=s1.toks}:=I1.kept λb o e=>zQ _ e
    refine⟨(s1.heap.push {cls:=.type "range",data:=.fields #[.int i t,.int j t',.int (-1) t'']}).objs.size,[(s1.heap.push {cls:=.type "range",data:=.fields #[.int i t,.int j t',.int (-1) t'']}).objs.size],_,_,H1,rfl,
     I2.kept (t':=s1.toks) λb o e=>zQ _ e,ZMN _ i (i-j).toNat,?_,λb hb=>?_,q⟩
    ·have e1:i+((0:Nat):Int)*(-1)=i:=by simp
     have e2:(((i-j).toNat:Nat):Int)-((0:Nat):Int)=Builtin.Range.rangeSize i j (-1):=by rw[rangeSize_down];split <;> lia
     show IsRangeIter _ _ (i+((0:Nat):Int)*(-1)) ((((i-j).toNat:Nat):Int)-((0:Nat):Int)) (-1);rw[e1,e2];exact z0 _ rfl
    ·have e:b=(s1.heap.push {cls:=.type "range",data:=.fields #[.int i t,.int j t',.int (-1) t'']}).objs.size:=by simpa using hb
     subst e;exact I2.Ke (zK _) (I2.hok.fresh (zK _))
noncomputable def Lg(lo:Int)(n:Nat):List D:=(zZ n).map λ(k:Nat)=>D.int (lo-(k:Int))
def rng3(ds:List D)(G:DH):R ItD:=match ds with
 |[.int i,.int j,.int k]=>if inR i/\inR j/\k= -1 then .ok (.pure (Lg i (i-j).toNat)) G else .bad
 |_=>.bad
theorem ZOG(lo:Int)(n:Nat):RepI a (.pure (Lg lo n)) (Itd lo n):=by
 refine⟨(zZ n).map λ(k:Nat)=>V.int (lo-(k:Int)),?_,λb x i=>⟨λv hv=>?_,λhl=>?_⟩⟩
 ·unfold Lg;generalize zZ n=l
  induction l with
  |nil=>exact rfl
  |cons k l ih=>exact⟨_,_,rfl,rfl,ih⟩
 ·rw[zx]at hv;by_cases hi:i<n
  ·rw[zL hi]at hv;have hv':V.int (lo-(i:Int))=v:=by simpa using hv
   exact⟨hi,λw H' y=>⟨y.2.trans hv',y.1⟩⟩
  ·rw[zA (by simpa using hi)]at hv;cases hv
 ·show n<=i;simpa using hl
theorem ZPg{tg e' e'':xX}{p pos:Pos}(hg:Gl X "range")(hm:X.mg "range"=vF)(ha:QA X E [e,e',e''] ta)(hs:vW [e,e',e''] X.env=(vH,eval e X.env)::vW [e',e''] X.env:=by rfl)(hs2:(x0 pos (vW [e',e''] X.env)).any (·.1)=vH:=by rfl):
  QI X E tg (.Call (.Name "range" p) [e,e',e''] [] pos) (Cy rng3 ta):=
 (ZLC hg hm ha hs hs2).mono λσ H Q h=>by
  obtain⟨a,S,G,hk,rfl,s,r,h⟩:=h;refine⟨a,S,G,hk,rfl,s,r,(T6 h).imp ?_⟩;rintro vs _ ⟨b,ds,G1,rfl,x,s1,q,-,h1⟩;unfold rng3 at h1;split at h1
  ·rename_i i j k;split at h1
   ·rename_i hj;obtain⟨hi,hj,rfl⟩:=hj;obtain⟨v,r,e1,q1,v2,r2,e2,q2,v3,r3,e3,q3,q4⟩:=q
    cases(show v=V.int i from q1)
    cases(show v2=V.int j from q2)
    cases(show v3=V.int (-1)from q3)
    cases(show r3=[]from q4)
    subst e3;subst e2;exact⟨i,j,e1,⟨hi.1,hi.2,hj.1,hj.2⟩,h1 b _ (Ext.refl b) s1 (ZOG i (i-j).toNat)⟩
   ·exact h1.elim
  ·exact h1.elim
end
theorem ZRP(a b:xj):checkTypeCall "enumerate" ⟨[a],[("start",b)]⟩=pure ():=by kernel_rfl
theorem ZMa(a b:xj):xG "enumerate.__new__" ⟨[.type "enumerate",a],[("start",b)]⟩=pure ():=by kernel_rfl
theorem ZRy(o a b:xj):argsOk "object.__init__" ⟨[o,a],[("start",b)]⟩:=by
 unfold argsOk;rw[signature?_of (id:="object.__init__") (n:=['_','_','t','i','n','i','_','_']) (o:=['t','c','e','j','b','o']) (by kernel_rfl) PySem.F.owner_object]
 kernel_rfl
section
variable{prog:xK}{w:xw}{A:xJ}{E:xj->xq->Prop}{s:xq}
theorem ZSW{newId:String}{self a:xj}{kw:List (Str×xj)}(hl:typeLookup (.type T) "__init__"=pure (vE (.builtin "object.__init__")))(hm:Bind.madeBy (.type T)=pure (vE newId))(hne:(vE newId != vE "object.__new__")=vG):
  Meets (Builtin.«object.__init__» ⟨[self,a],kw⟩) (λ_ R s=>s.TypeIs self T/\R (.ok (.ret .none)) s):=by
 refine Meets.of_wp λprog w A R s hs=>?_
 obtain⟨hT,hq⟩:=hs
 repeat (any_goals (first|assumption|wp_step))
 exact⟨_,rfl,hq⟩
theorem ZR1{newId initId:String}{Bn Bi:Builtin}{args:List xj}{kw:List (Str×xj)}{S:PySem.Spec}{Q Q₁:xj->xq->Prop}(ft:TypeCalled T newId initId)
  (hct:checkTypeCall T ⟨args,kw⟩=pure ()) (hcn:xG newId ⟨.type T::args,kw⟩=pure ())
  (entryN:entryFor table newId=vE Bn) (entryI:entryFor table initId=vE Bi) (g:Meets (Bn ⟨.type T::args,kw⟩) S) (h:S A.in1 (wants Q₁ E) s)
  (hnext:∀obj s₁,Q₁ obj s₁->s₁.TypeIs obj T/\argsOk initId ⟨obj::args,kw⟩/\∃Si,Meets (Bi ⟨obj::args,kw⟩) Si/\Si A.in1 (wants (λr s₂=>r=.none/\Q obj s₂) E) s₁):
  vY (vZ prog w) A (call (.type T) args kw) Q E s:=by
 obtain⟨c,tl,hmro⟩:=ft.mro;have hmade:=ft.made;have hsub:=ft.sub;refine wpAny_call (codeAny_of_tree ?_);show vY _ _ (callAny (.type T) _) _ _ _;refine v7 ⟨Code.quiet_builtin _ (by decide +kernel),codeAny_builtin PySem.F.entry_type_call ?_⟩;rw[Around.under_plain (weight_type_call_type T args kw) (units_type_call_type T args kw)];have h1:=ft.notType;have h2:=ft.canCreate
 repeat (any_goals (first|assumption|wp_step))
 refine xH (codeAny_call_builtin ft.plain entryN (wpAny_of_eq hcn (g prog w A.in1 _ s h))) λr s₁ hr=>?_
 cases r with
 |error e=>exact hr
 | ok fl=>
  cases fl with
  | ret obj=>
   obtain⟨hT,hok,Si,gi,hsi⟩:=hnext _ _ hr;have hli:=ft.init.lookup;have hbi:=ft.init.bind obj
   repeat (any_goals (first|assumption|wp_step))
   refine xH (codeAny_call_builtin ft.init.plain entryI (ft.init.check _ _ _ _ _ _ _ _ hT hok (gi prog w A.in1 _ s₁ hsi))) λr₂ s₂ hr₂=>?_
   cases r₂ with
   |error e=>exact hr₂
   | ok fl₂=>
    cases fl₂ with
    |ret r=>
     obtain⟨rfl,hq⟩:=hr₂
     repeat (any_goals (first|assumption|wp_step))
    |_=>exact hr₂.elim
  |_=>exact hr.elim
theorem ZQH{sr:Src}{xs:Array xj}{n:Int}{t:Tok}{Q:xj->xq->Prop}(hv:sr.val s.heap xs)
  (h:∀h' tk g,Gv n g->En h' (s.heap.objs.size+1) s.heap.objs.size .none n g .none->sr.it h' s.heap.objs.size 0->(∀b o,s.heap.get? b=vE o->h'.get? b=vE o)->Q (.ref (s.heap.objs.size+1)) {s with heap:=h',toks:=tk}):
  vY (vZ prog w) A (call (.type "enumerate") [.ref sr.adr] [("start",.int n t)]) Q E s:=by
 have g:Meets (Builtin.«enumerate.__new__» ⟨[.type "enumerate",.ref sr.adr],[("start",.int n t)]⟩) (λ_ R s=>sr.val s.heap xs/\∀g tk,Gv n g->
   R (.ok (.ret (.ref (s.heap.push {cls:=.type sr.itn,data:=.fields #[.ref sr.adr,.int 0 0]}).objs.size)))
    {s with heap:=(s.heap.push {cls:=.type sr.itn,data:=.fields #[.ref sr.adr,.int 0 0]}).push {cls:=.type "enumerate",data:=.fields #[.none,.bool vH,.ref s.heap.objs.size,vJ n,g,.none]},toks:=tk}):=
  .of_wp λprog w A R s h=>by
   obtain⟨hp,g,d,tk,os⟩:=s;obtain⟨hl,h⟩:=h;have hsub:=sub_enumerate;have hL:sr.val (Shared.heap ⟨hp,g,d,tk,os⟩) xs:=hl
   wp_walk
   refine wpAny_stack_any λst=>v7 ?_
   cases hf:Builtin.SmallTypes.fitsIndex n
   ·split
    ·rename_i c _ _ _ _ _
     cases(c==Value.type "enumerate")<;>(wp_walk using Src.iter hL;exact⟨_,rfl,h _ _ (.inr ⟨t,rfl⟩)⟩)
    ·wp_walk using Src.iter hL
     exact⟨_,rfl,h _ _ (.inr ⟨t,rfl⟩)⟩
   ·split
    ·rename_i c _ _ _ _ _
     cases(c==Value.type "enumerate")<;>(wp_walk using Src.iter hL;exact⟨_,rfl,h _ _ (.inl rfl)⟩)
    ·wp_walk using Src.iter hL
     exact⟨_,rfl,h _ _ (.inl rfl)⟩
 refine ZR1 (Q₁:=λobj s₁=>s₁.TypeIs obj "enumerate"/\Q obj s₁) PySem.F.called_enumerate (ZRP _ _) (ZMa _ _) PySem.F.entry_enumerate_new PySem.F.entry_object_init g ⟨hv,λg tk hg=>?_⟩ λobj s₁ hq=>⟨hq.1,ZRy obj _ _,_,ZSW PySem.F.called_enumerate.init.lookup PySem.F.called_enumerate.made (by decide),hq.1,rfl,hq.2⟩
 have hz:(s.heap.push {cls:=.type sr.itn,data:=.fields #[.ref sr.adr,.int 0 0]}).objs.size=s.heap.objs.size+1:=qy ..;show _/\_;rw[hz];have he:En ((s.heap.push {cls:=.type sr.itn,data:=.fields #[.ref sr.adr,.int 0 0]}).push {cls:=.type "enumerate",data:=.fields #[.none,.bool vH,.ref s.heap.objs.size,vJ n,g,.none]}) (s.heap.objs.size+1) s.heap.objs.size .none n g .none:=by
  have:=z0 (s.heap.push {cls:=.type sr.itn,data:=.fields #[.ref sr.adr,.int 0 0]}) (o:={cls:=.type "enumerate",data:=.fields #[.none,.bool vH,.ref s.heap.objs.size,vJ n,g,.none]}) rfl;rw[hz]at this;exact this
 exact⟨⟨_,he,rfl⟩,h _ tk g hg he ⟨_,zQ _ (z0 _ rfl),rfl,rfl⟩ λb o x=>zQ _ (zQ _ x)⟩
theorem ZMh{M:Model}{A:xJ}{E:xj->xq->Prop}{s:xq}{env:Env}{pos:Pos}{rest:List xX}{kws:List Keyword}{Q:xj->xq->Prop}
  (hall:(xB pos (xT kws env)).all (·.1.isSome)=vG)
  (h:vY M A (spliced (x0 pos (vW (e::rest) env))) (λvs s₁=>vY M A (evalAll ((xB pos (xT kws env)).map (·.2)))
   (λks s₂=>vY M A (call (.type T) vs (((xB pos (xT kws env)).filterMap (·.1)).zip ks)) Q E s₂) E s₁) E s)
  (hplain:(x0 pos (vW (e::rest) env)).any (·.1)=vH) (hkw:(xB pos (xT kws env)).any (·.1.isNone)=vH) (he:vW (e::rest) env=(vH,eval e env)::vW rest env):
  vY M A (callWith pos (.type T) [] (x0 pos (vW (e::rest) env)) (xB pos (xT kws env))) Q E s:=by
 unfold callWith;refine vz (vk (v4 (PyProof.Rows.evalArgs_kw2 (Q:=λa s₁=>vY M A (call (.type T) ([]++a.pos) a.kw) Q E s₁) hall h he) (λa s₁ h₁=>vz (wpAny_standAt ?_)) λ_ _ x=>x));simp only[hplain,hkw,Bool.or_false];refine vz (v7 ?_);exact vz (v4 h₁ (λr s₂ hr=>vz (vk (wpAny_point (v7 hr)))) λ_ _ x=>x)
end
section
variable{X:Cx}{E:XK}
def ZQm(K:PySem.W.Frag)(ta tk:TA):TI:=λσ H R=>ta σ H λvs H1=>tk σ H1 λws H2=>∃sr xs n,vs=[.ref (Src.adr sr)]/\ws=[.int n]/\sr.sq K H2 xs/\R (Ite K sr n) H2
theorem ZK2{elts:List xX}{x1}{tp:Pos}{a b:xX}{ta tk:TA}{p pos kp:Pos}(hg:Gl X "enumerate")(hm:X.mg "enumerate"=vF)(ha:PA X [a] ta)(hk:PK X [⟨vE "start",b,kp⟩] tk)(hs:vW [a] X.env=[(vH,eval a X.env)]:=by rfl):
  PI X (.Tuple elts x1 tp) (.Call (.Name "enumerate" p) [a] [⟨vE "start",b,kp⟩] pos) (ZQm X.K ta tk):=by
 intro vD s σ H R I h;refine vq (Jo I hg hm PyProof.Rows.boot_enumerate (ZMh rfl (thn (ha pos vD s σ H _ I h) λus s1 ⟨vs,H1,I1,r1,q1⟩=>thn (hk pos vD s1 σ H1 _ I1 q1) λus2 s2 ⟨ws,H2,I2,r2,q2⟩=>?_) (by rw[hs];rfl) rfl hs));obtain⟨sr,xs,n,e,e2,hq,q⟩:=q2;subst e;subst e2;cases r1 with
 |cons r rr=>
  cases rr;cases r;obtain⟨u,rfl,ru⟩:=r2.one;obtain⟨t,rfl⟩:=ru;obtain⟨its,rv,hv,hz⟩:=Src.sq.val I2 hq;refine ZQH hv λh' tk g hg he hi kp=>?_
  refine ZB3 he ?_;have I3:Inv X vD σ H2 {s2 with heap:=h',toks:=tk}:=I2.kept (t':=tk) kp;refine⟨s2.heap.objs.size+1,[s2.heap.objs.size+1,s2.heap.objs.size],_,_,H2,rfl,I3,ZJj sr n _ _ (Nat.succ_ne_self _),⟨g,.none,by simpa using he,by simpa using hg,hi⟩,λb hb=>?_,q⟩;have hb':b=s2.heap.objs.size+1∨b=s2.heap.objs.size:=by simpa using hb
  have hle:s2.heap.objs.size<=b:=by rcases hb' with rfl|rfl<;>lia
  exact I2.Ke hle (I2.hok.fresh hle)
theorem ZLH{sr:Src}{n0:Int}(hk:a.K=X.K)(rd:∀b:Wd,Ext a b->∀G',Sim b G'->∀ys,Ci d G'=vE ys->∃us,sr.sq b.K b.H us/\Reps b ys us)(n:Nat):RepI a (.fn n (Ew n0 d)) (Ite X.K sr n0):=by
 intro b x G' s' i;have kb:b.K=X.K:=x.k.trans hk;constructor
 ·intro e he;unfold Ew at he;split at he
  ·cases he
  ·rename_i ys hy;obtain⟨us,hq,ru⟩:=rd b x G' s' ys hy;rw[kb]at hq;cases hyi:ys[i]? with
   |none=>rw[hyi]at he;cases he
   |some y=>
    rw[hyi]at he;have he':D.tup [.int (n0+i),y]=e:=by simpa using he
    subst he';obtain⟨u,hu,rx⟩:=ru.get hyi;refine⟨⟨us,u,hq,hu⟩,?_⟩;rintro w H' ⟨p,u',rfl,hp,rfl,hu'⟩;refine⟨b.put p (.tup [.int (n0+i),u']),rfl,Ext.put hp,s'.put hp,p,_,rfl,.of Gj,?_⟩;have e1:=hu' us hq;rw[hu]at e1;cases e1;exact⟨_,_,rfl,rfl,Reps.cons (rx.mono (Ext.put hp)) rfl⟩
 ·intro he;unfold Ew at he;split at he
  ·cases he
  ·rename_i ys hy;obtain⟨us,hq,ru⟩:=rd b x G' s' ys hy;rw[kb]at hq;cases hyi:ys[i]? with
   |none=>exact⟨us,hq,by rw[<-ru.length];exact qG.mp hyi⟩
   |some y=>rw[hyi]at he;cases he
def ZBX(ta:DA)(tb:DE):DI:=λS G=>(ta S G).bind λds G1=>(tb S G1).bind λk G2=>match ds,k with
 |[d],.int n=>match Ci d G2 with
  |some xs=>.ok (.fn xs.length (Ew n d)) G2
  |none=>.bad
 |_,_=>.bad
theorem ZPe{b:xX}{nm:Option Str}{kp:Pos}{tb:DE}(hb:QE X E b tb):PK X [⟨nm,b,kp⟩] (ZCX (lE X.K E tb) Y4):=ZMS hb ZOg
theorem ZMB{E:XK}{r:R D}{f:D->DH->R ItD}{Q:It->Hp->Prop}(h:outI E a (r.bind f) Q):
  out E a r (λv H=>∃(b:Wd)(d:D)(G:DH),b.H=H/\Ext a b/\Sim b G/\Rep b d v/\outI E b (f d G) Q):=by
 cases r with
 |ok d G=>exact λb v x s q=>⟨b,d,G,rfl,x,s,q,outI.mono x h⟩
 |err e G=>exact h
 |bad=>exact h
theorem ZL1{elts:List xX}{x1}{tp:Pos}{b:xX}{tb:DE}{p pos kp:Pos}(hg:Gl X "enumerate")(hm:X.mg "enumerate"=vF)(ha:QA X E [e] ta)(hb:QE X E b tb)(hs:vW [e] X.env=[(vH,eval e X.env)]:=by rfl):
  QI X E (.Tuple elts x1 tp) (.Call (.Name "enumerate" p) [e] [⟨vE "start",b,kp⟩] pos) (ZBX ta tb):=(ZK2 hg hm ha (ZPe hb) hs).mono λσ H Q h=>by
 obtain⟨a,S,G,hk,rfl,s,r,h⟩:=h;refine⟨a,S,G,hk,rfl,s,r,(T6 h).imp ?_⟩;rintro vs _ ⟨b,ds,G1,rfl,x,s1,q,-,h1⟩;refine⟨b,S,G1,x.k.trans hk,rfl,s1,r.mono x,(ZMB h1).imp ?_⟩;rintro v _ ⟨c,k,G2,rfl,y,s2,q2,h2⟩;split at h2
 ·rename_i d n;split at h2
  ·rename_i xs hx;obtain⟨w,r,e1,q1,q3⟩:=q
   cases(show r=[]from q3)
   subst e1
   cases(show v=V.int n from q2)
   obtain⟨sr,rfl,⟨us,hq⟩,rd⟩:=ZBZ s2 (q1.mono y) hx;have kb:c.K=X.K:=(y.k.trans x.k).trans hk;exact⟨sr,us,n,rfl,rfl,by rw[<-kb];exact hq,h2 c _ (Ext.refl c) s2 (ZLH kb rd _)⟩
  ·exact h2.elim
 ·exact h2.elim
end
end _D
namespace _D
open PySem PySem.Spec _L
variable{d:D}
noncomputable def K9(c f:Str)(d:D)(G:DH):R D:=match K7 c d G with
 |some fs=>match fs.lookup f with
  |some v=>.ok v G
  |none=>.bad
 |none=>.bad
noncomputable def Pz(c f:Str)(o d:D)(S:DSt)(G:DH):SR:=match o with
 |.ref i=>match K7 c o G with
  |some fs=>if fs.length<1000 then .nx S (G.set i (.ins c (Ht f d fs)))else .bad
  |none=>.bad
 |_=>.bad
def Z4(c m:Str)(F:List D->DH->R D)(t:DA)(S:DSt)(o:D)(G:DH):R D:=match K7 c o G with
 |some fs=>match fs.lookup m with
  |none=>(t S G).bind λds G2=>F (o::ds) G2
  |some _=>.bad
 |none=>.bad
def ZBB(F:List D->DH->R D)(c:Str)(ds:List D)(G1:DH):R D:=(F (.ref G1.length::ds) (G1++[.ins c []])).bind λv G2=>match v with
 |.non=>.ok (.ref G1.length) G2
 |_=>.bad
section
variable{S:DSt}{G:DH}{c f m:Str}{t to tv:DE}{ta:DA}{F:List D->DH->R D}{i:Nat}{fs:List (Str×D)}{v d:D}
@[simp]theorem ev_fld:Fw c t f S G=(t S G).bind λd G1=>K9 c f d G1:=id rfl
@[simp]theorem Nq:Hd c to tv f S G=(tv S G).toS λd G1=>(to S G1).toS λo G2=>Pz c f o d S G2:=id rfl
@[simp]theorem ZUq:Jh c m F to ta S G=(to S G).bind λo G1=>Z4 c m F ta S o G1:=id rfl
@[simp]theorem ZUB:ZAj c F ta S G=(ta S G).bind λds G1=>ZBB F c ds G1:=id rfl
theorem ZB0(h:G[i]?=vE (.ins c fs)):K7 c (.ref i) G=vE fs:=by unfold K7;simp only[h,if_true]
theorem Oa(h:G[i]?=vE (.ins c fs))(h2:fs.lookup f=vE v):K9 c f (.ref i) G=.ok v G:=by unfold K9;rw[ZB0 h];simp only[h2]
theorem ZP8(h:G[i]?=vE (.ins c fs))(hl:fs.length<1000):Pz c f (.ref i) d S G=.nx S (G.set i (.ins c (Ht f d fs))):=by unfold Pz;simp only[ZB0 h,hl,if_true]
theorem ZRo(h:G[i]?=vE (.ins c fs))(h2:fs.lookup m=vF):Z4 c m F ta S (.ref i) G=(ta S G).bind λds G2=>F (.ref i::ds) G2:=by unfold Z4;rw[ZB0 h];simp only[h2]
@[simp]theorem ev_LR:dLR ta S G=(ta S G).bind λds G1=>match ds with
 |[.int j]=>if inR j/\j<=1000000 then .ok (.ref G1.length) (G1++[.lst (Cm 0 j.toNat)])else .bad
 |_=>.bad:=id rfl
@[simp]theorem ZLo{i j:Int}(hi:inR i)(hj:inR j):rng3 [.int i,.int j,.int (-1)] G=.ok (.pure (Lg i (i-j).toNat)) G:=by simp[rng3,hi,hj]
theorem ZKx{lo:Int}:Lg lo 0=[]:=rfl
theorem ZN7{lo:Int}{n:Nat}:Lg lo (n+1)=.int lo::Lg (lo-1) n:=by
 unfold Lg;rw[qE,zk,qF]
 congr 1
 ·simp
 ·refine qk λk _=>?_
  simp only[Function.comp]
  congr 1
  lia
theorem ZGg{ns:List Int}{k:Int}(h:Ir d G=vE (ns.map D.int))(hm:k∈ns)(hl:ns.length<=1000000):Ls d [.int k] G=.ok (.int (ns.idxOf k)) G:=by unfold Ls;simp only[h,ZCh,hm,hl,and_self,if_true]
theorem ZQz{G G':DH}(hl:G'.length=G.length)(hb:bel G.length d=vG):tidy G (.ok d G')=.ok d G':=by
 unfold tidy;simp only[hb,if_true];split
 ·rename_i h;rw[List.take_of_length_le (by lia)]at h;rw[h]
 ·rfl
theorem ZPp{G G':DH}(h:G'.take G.length≠G):tidy G (.ok d G')=.ok d G':=by unfold tidy;simp only[h,if_false]
end
end _D
namespace _D
open PySem PySem.Spec _L
open PyProof.Rows hiding St
variable{x:Str}
noncomputable def Nt(x:Str)(n:Int):Str:=if n<1 then Str.empty else if(n==1||x.length==0)=vG then x else⟨(zV n.toNat x.cps).foldl (·++·) #[]⟩
theorem ZDt{a:Array Nat}:∀(n:Nat)(b:Array Nat),((zV n a).foldl (·++·) b).toList=b.toList++(zV n a.toList).flatten
 |0,b=>by simp
 |n+1,b=>by rw[zS,jV,ZDt n (b++a),zS,q8];simp
theorem ZSr{a:Array Nat}(n:Nat):((zV n a).foldl (·++·) #[]).size=n*a.size:=by rw[<-qw,ZDt];simp
theorem ZKs{n:Int}:(Nt x n).cps.toList=(zV n.toNat x.cps.toList).flatten:=by
 unfold Nt;split
 ·rename_i h;have e:n.toNat=0:=by lia
  rw[e];rfl
 ·rename_i h;split
  ·rename_i hx;rw[j9,beq_iff_eq,beq_iff_eq]at hx;rcases hx with rfl|hx
   ·simp
   ·have e:x.cps.toList=[]:=by have:x.cps.size=0:=hx;rw[<-qw]at this;exact qP this
    rw[e];simp
  ·show((zV n.toNat x.cps).foldl (·++·) #[]).toList=_
   rw[ZDt];simp
def Bl:D->D->DH->R D
 |.int i,.int j,G=>if MulB i j then .ok (.int (i*j)) G else .bad
 |.str x,.int n,G=>if -1000<=n/\n<=1000/\x.length<=1000 then .ok (.str (Nt x n)) G else .bad
 |_,_,_=>.bad
section
variable{X:Cx}{E:XK}
theorem ZNL:OpR X (xD .Mult) (λx y H Q=>∃i n,x=.str i/\y=.int n/\(-1000<=n/\n<=1000/\i.length<=1000)/\Q (.str (Nt i n)) H):=by
 intro vD s σ H x y v u Q I rx ry h;obtain⟨i,n,rfl,rfl,⟨h1,h2,h3⟩,q⟩:=h;obtain⟨t,rfl⟩:=rx;obtain⟨t',rfl⟩:=ry;have hlen:∀m:Nat,m<=1000->i.length*m<=1000000:=λm hm=>zB (jU h3 hm) (by decide)
 refine P.mul_str ?_ (λhn hx=>?_) (λhn hx=>?_) ?_
 ·rw[decide_eq_false (by lia),decide_eq_false (by lia)];rfl
 ·intro hgt;have hm:0<n:=by lia
  have:(i.length:Int)*n<=2^63-1:=by have h4:(i.length:Int)*n<=1000*1000:=Int.mul_le_mul (by lia) h2 (by lia) (by lia);lia
  have h5:=(Int.le_ediv_iff_mul_le hm).mpr this;lia
 ·have:=hlen n.toNat (by lia);unfold Builtin.Str.tooLong;rw[vX];exact decide_eq_false (by lia)
 ·unfold Nt at q;split
  ·rename_i hn;rw[if_pos hn]at q;exact⟨by decide,.str Str.empty,H,I.tok _,⟨_,rfl⟩,q⟩
  ·rename_i hn;rw[if_neg hn]at q;split
   ·rename_i hx;rw[if_pos hx]at q;exact⟨.str i,H,I,⟨t,rfl⟩,q⟩
   ·rename_i hx;rw[if_neg hx]at q;refine⟨?_,.str _,H,I.tok _,⟨_,rfl⟩,q⟩
    show((zV n.toNat i.cps).foldl (·++·) #[]).size<=sizeLine
    have h6:i.cps.size<=1000:=h3;have h7:=jU (show n.toNat<=1000 by lia) h6;rw[ZSr,vX];lia
theorem Dj:OpR X (xD .Mult) (lR2 X.K E Bl):=Hk (ZOU.or ZNL) λa G d e x y Q hk s rd re q=>by
 cases d<;>cases e<;>first
  |exact q.elim
  | (
    rename_i i j;unfold Bl at q;dsimp only at q;split at q
    ·first
     |exact .inl ⟨_,_,rd,re,by assumption,q a _ (Ext.refl a) s rfl⟩
     |exact .inr ⟨_,_,rd,re,by assumption,q a _ (Ext.refl a) s rfl⟩
    ·exact q.elim)
end
section
variable{i j:Int}{G:DH}
theorem Jb(h1: -(2^64)<i)(h2:i<2^64):Bl (.int i) (.int j) G=.ok (.int (i*j)) G:=if_pos (.inl (.inl ⟨h1,h2⟩))
theorem Jj(h1: -(2^64)<j)(h2:j<2^64):Bl (.int i) (.int j) G=.ok (.int (i*j)) G:=if_pos (.inl (.inr ⟨h1,h2⟩))
@[simp]theorem ZT5{n:Nat}(h:n<18446744073709551616):Bl (.int (no_index (OfNat.ofNat n))) (.int j) G=.ok (.int (OfNat.ofNat n*j)) G:=
 Jb (by have:(0:Int)<=(OfNat.ofNat n:Int):=Int.natCast_nonneg n;lia) (by have:(OfNat.ofNat n:Int)<18446744073709551616:=Int.ofNat_lt.mpr h;lia)
@[simp]theorem ZUV{n:Nat}(h:n<18446744073709551616):Bl (.int i) (.int (no_index (OfNat.ofNat n))) G=.ok (.int (i*OfNat.ofNat n)) G:=
 Jj (by have:(0:Int)<=(OfNat.ofNat n:Int):=Int.natCast_nonneg n;lia) (by have:(OfNat.ofNat n:Int)<18446744073709551616:=Int.ofNat_lt.mpr h;lia)
theorem ZS8{n:Int}(h: -1000<=n/\n<=1000/\x.length<=1000):Bl (.str x) (.int n) G=.ok (.str (Nt x n)) G:=if_pos h
end
section
variable{X:Cx}{E:XK}{e st:xX}{te:TE}{ts:TO}{p2 pos:Pos}
end
section
variable{S:DSt}{G:DH}
end
section
variable{X:Cx}{E:XK}
theorem ZKJ{a:Wd}:∀(l:List Str),Reps a (l.map D.str) (l.map V.str)
 |[]=>Reps.nil
 |x::l=>Reps.cons (show Rep a (.str x) (V.str x)from rfl) (ZKJ l)
def TupG(K:PySem.W.Frag)(mg:Str->Option xj)(n:Str)(ss:List Str):Prop:=∃(p:xZ)(o:Obj)(its:Array xj)(k:Nat),mg n=vE (.ref p)/\K.lookup p=vE o/\o.cls=.type "tuple"/\o.data=.seq its k/\its.size<=sizeLine/\Vals (ss.map V.str) its.toList
theorem ZM1{K:PySem.W.Frag}{h:Heap}{mg:Str->Option xj}{n:Str}{p:xZ}{od:Option xZ}{sl:Array (Option xj)}{k:Nat}{its:List xj}{ss:List Str}(KX:K.In h)(G:h.Ns vQ mg)(a:PySem.W.nsIn K vQ n=vE (vE (.ref p)))
  (l:K.lookup p=vE ⟨.type "tuple",od,.seq its.toArray k,sl⟩) (hs:its.length<=1000) (v:Vals (ss.map V.str) its):TupG K mg n ss:=
 ⟨p,_,its.toArray,k,PySem.W.mg_of KX G a,l,rfl,rfl,by rw[zY];exact zB hs (by decide),by simpa using v⟩
theorem ZQY{ss:List Str}{pos:Pos}(hg:Gl X x)(h:TupG X.K X.mg x ss)(hd:(x==("__debug__":Str))=vH:=by decide):QE X E (.Name x pos) (dC (.tup (ss.map D.str))):=by obtain⟨p,o,its,k,h1,h2,h3,h4,h5,h6⟩:=h;exact Cp (v:=.ref p) hg h1 rfl (λa ha=>⟨p,ss.map V.str,rfl,.inr ⟨o,its,k,by rw[ha];exact h2,h3,h4,h5,h6⟩,ZKJ ss⟩) hd
end
section
variable{S:DSt}{G:DH}
end
section
variable{X:Cx}{vD:List (xZ×Obj)}{σ:St}{H:Hp}{s:xq}{N:List Str}{scope:xY}{caps:List Nat}{x qual:Str}{f:xZ}{cd:xj}{A:xJ}
end
section
variable{X:Cx}{vD:List (xZ×Obj)}{σ:St}{s:xq}{scope:xY}{a:Wd}
end
noncomputable def ltK(ks:List Int)(i j:Nat):Bool:=decide (ks.getD i 0<ks.getD j 0)
section
variable{prog:xK}{w:xw}{A:xJ}{E:xj->xq->Prop}{s:xq}
end
section
variable{X:Cx}{vD:List (xZ×Obj)}{σ:St}{H:Hp}{s:xq}{h':Heap}{m:Str->Option xj}
end
section
variable{X:Cx}{vD:List (xZ×Obj)}{σ:St}{N:List Str}{scope:xY}{caps:List Nat}{x:Str}{f:xZ}{A:xJ}{a:Wd}{S:DSt}{body:xX}{te:DE}{params:Arguments}{pm ctv:xj}{c':xZ}{ob oc:Obj}{vs0:Array xj}{t0:Tok}{E:XK}
 {Dd kS:xZ} {e1:Nat} {m:Str->Option xj} {h₀:Heap} {Q:VK}
end
end _D
namespace _D
open PySem PySem.Spec _L
open PyProof.Rows hiding St
open PySem.W (KatKeys KatFin katRev KatBack)
section
variable{prog:xK}{w:xw}{A:xJ}{E:xj->xq->Prop}{s:xq}{h₀:Heap}{L a kS:xZ}{m:Str->Option xj}{P:PySem.Fin->xq->Prop}
end
end _D
namespace _D
open PySem PySem.Spec _L
open PyProof.Rows hiding St
section
variable{X:Cx}{vD:List (xZ×Obj)}{σ:St}{N:List Str}{scope:xY}{caps:List Nat}{x:Str}{f:xZ}{A:xJ}{a:Wd}{S:DSt}{body:xX}{te:DE}{params:Arguments}{pm ctv:xj}{c':xZ}{ob oc:Obj}{vs0:Array xj}{t0:Tok}
 {Dd kS:xZ} {e1:Nat} {m:Str->Option xj} {h₀:Heap} {Q:VK}
end
section
variable{X:Cx}{vD:List (xZ×Obj)}{σ:St}{N:List Str}{scope:xY}{caps:List Nat}{x:Str}{f:xZ}{A:xJ}{a:Wd}{S:DSt}{body:xX}{te:DE}{params:Arguments}{pm ctv:xj}{c':xZ}{ob oc:Obj}{vs0:Array xj}{t0:Tok}{Q:VK}
end
section
variable{X:Cx}{N:List Str}{scope:xY}{caps:List Nat}{x:Str}{body:xX}{te:DE}{params:Arguments}{e:xX}{tn:DA}{p p' pos pos' lp kp kp' cp:Pos}{C m:Str}{cj:Nat}
end
end _D
namespace _D
open PySem PySem.W _L
variable{h:Heap}{C:xZ}{m x q:Str}{st:xz}{mg:Str->Option xj}
theorem ZGY{a:xZ}{o:Obj}:∀{l:List Obj}{n:Nat},(Ou l n).lookup a=vE o->n<=a/\l[a-n]?=vE o/\∀x y z,o≠⟨x,y,.freed,z⟩
 |[],n,h=>by cases h
 | p::r,n,h=>by
  have next:(Ou r (n+1)).lookup a=vE o->n<=a/\(p::r)[a-n]?=vE o/\∀x y z,o≠⟨x,y,.freed,z⟩:=λh=>by obtain⟨h1,h2,h3⟩:=ZGY h;obtain⟨k,rfl⟩:=Nat.exists_eq_add_of_le h1;rw[Nat.add_sub_cancel_left]at h2;refine⟨zB (jk n) h1,?_,h3⟩;rw[show n+1+k-n=k+1 by rw[Nat.add_assoc,Nat.add_sub_cancel_left,Nat.add_comm],jz];exact h2
  unfold Ou at h;split at h
  ·exact next h
  ·exact next h
  ·rename_i hz hf;rw[jQ]at h;split at h
   ·rename_i e;have e':a=n:=by simpa using e
    subst e';cases h;refine⟨zK _,by simp,λx y z q=>?_⟩;subst q;exact hz rfl
   ·exact next h
theorem ZQp(h:Heap):(Ue h).In h:=λa o e=>by
 obtain⟨_,h2,h3⟩:=ZGY e;have h4:h.objs[a]?=vE o:=by simpa using h2
 unfold Heap.get?;rw[h4];split
 ·rename_i q;cases q;exact absurd rfl (h3 _ _ _)
 ·rfl
noncomputable def Kw(p:xK)(N:Nat)(w:xw):Heap:=match openEnds vK p w N with
 |some s=>s.heap
 |none=>default
def Stays(p:xK)(N:Nat)(w:xw)(h:Heap):Prop:=∀b o,(Kw p N w).get? b=vE o->h.get? b=vE o
theorem Stays.in{p:xK}{N:Nat}{w:xw}(x:Stays p N w h):(Ue (Kw p N w)).In h:=λa o e=>x a o (ZQp _ a o e)
def Vi(p:xK)(N:Nat):Hook:=
 ⟨Heap,λs=>s.heap,Kw p N,Stays p N,λw s e b o q=>by rw[show s.heap=Kw p N w from e];exact q,λw h h' x k b o q=>k b o (x b o q)⟩
section
variable{p q:xK}{loose:List Str}{Xt:xq->Bool}{N:Nat}{β:Type}{see:Heap->β}{val:β}
theorem ZQF(E:∀w,(openEnds vK p w N).map (λs=>(openSeen q loose (xL p.main.body) Xt vG s,see s.heap))=vE (openGood q loose,val)):
  LeftO p q loose Xt (Vi p N).obs (Vi p N).val N:=λw=>by
 obtain⟨s,h1,h2⟩:=zI.mp (E w);show Option.map _ _=vE (openGood q loose,Kw p N w);unfold Kw;rw[h1];show vE (openSeen q loose (xL p.main.body) Xt vG s,s.heap)=_;rw[(Prod.mk.inj h2).1]
theorem ZRZ(E:∀w,(openEnds vK p w N).map (λs=>(openSeen q loose (xL p.main.body) Xt vG s,see s.heap))=vE (openGood q loose,val))(w:xw):see (Kw p N w)=val:=by obtain⟨s,h1,h2⟩:=zI.mp (E w);unfold Kw;rw[h1];exact(Prod.mk.inj h2).2
end
noncomputable def dOf(s:xz):DefRec:=match s with
 |Stmt.FunctionDef n a b _ _ _ s _ _ p=>⟨n,a,b,s,p⟩
 |_=>⟨Str.empty,⟨[],[],vF,[],[],vF,[]⟩,[],{kind:=.module,names:=[],isGenerator:=vH,isCoroutine:=vH,more:=[]},⟨0,0,0,0⟩⟩
theorem holds_top{l:OpenLaw}{q:xK}{loose:List Str}{N:Nat}{β:Type}{see:Heap->β}{val:β}{d:DefRec}(well:l.wellSaid=vG)
  (E:∀w,(openEnds vK l.prog w N).map (λs=>(openSeen q loose (xL l.prog.main.body) (XtOf l q) vG s,see s.heap))=vE (openGood q loose,val))
  (hdef:defOf q l.row.name=vE (d,[])) (hp:l.row.prog.theDef l.row.name=vE (d.params,d.body,d.scope)) (hk:kwWritten? d.params.kwonlyargs d.params.kw_defaults=vE []) (hwr:(!l.row.writes||l.row.records.isEmpty)=vG)
  (ok:(chainsOk q&&opensWell l.row.prog&&(frees l.row.toRowW&&l.row.within.isEmpty))=vG) (hb:l.row.prog.bare) (hw:l.row.toRowW.promised)
  (call:WalkO q loose (XL q []) (Stays l.prog N) l.row.toRowW d [] λf vs=>PySem.call f vs):l.Holds:=
 holds_law well λsaid=>holds_open (r:=l.row) (q:=q) (loose:=loose) (Xt:=XtOf l q) (XP:=XL q []) (YP:=Stays l.prog N) (N:=N) (ZQF E) (Vi l.prog N).of (Vi l.prog N).keeps
  (λs e=>xl_of s (jK.mp e).1) XL.keeps hdef hp hk (λs e=>recFacts_of (jK.mp e).2) hwr said ok hb hw call
theorem ZKY{K:vA}{n:Str}(h:gOk K n=vG):nsIn K vQ n=vE (vE (.ref (Bu K n))):=by
 unfold gOk at h;unfold Bu;split at h
 ·rename_i e;rw[e]
 ·cases h
theorem ZIn{K:vA}(h:mOk K C m=vG):findIn K (.ref C) m=vE (vE (.ref (I8 K C m)))/\isFn K (.ref (I8 K C m))=vG:=by
 unfold mOk at h;unfold I8;split at h
 ·rename_i e;rw[e];exact⟨rfl,h⟩
 ·cases h
theorem ZO9{K:vA}(h:noF K C m=vG):findIn K (.ref C) m=vE vF:=by
 unfold noF at h;split at h
 ·assumption
 ·cases h
theorem ZQ0{K:vA}{n:Str}(h:zOk K n=vG):nsIn K vQ n=vE vF:=by
 unfold zOk at h;split at h
 ·assumption
 ·cases h
theorem ZQh{K:vA}(h:ZC7 K C=vG):findIn K (.ref C) "__setattr__"=vE (vE (.builtin "object.__setattr__")):=by
 unfold ZC7 at h;split at h
 ·rename_i e;rw[e,beq_iff_eq.mp h]
 ·cases h
noncomputable def Dy(K:vA)(n:Str):Tok:=match nsIn K vQ n with
 |some (vE (.int _ t))=>t
 |some (vE (.str _ t))=>t
 |_=>0
theorem ZO6{K:vA}{n:Str}{v:Int}(h:iOk K n v=vG):nsIn K vQ n=vE (vE (.int v (Dy K n))):=by
 unfold iOk at h;unfold Dy;split at h
 ·rename_i e;rw[e,of_decide_eq_true h]
 ·cases h
theorem ZOh{K:vA}{n:Str}{v:Str}(h:sOk K n v=vG):nsIn K vQ n=vE (vE (.str v (Dy K n))):=by
 unfold sOk at h;unfold Dy;split at h
 ·rename_i e;rw[e,of_decide_eq_true h]
 ·cases h
abbrev FnSaid(K:vA)(x q:Str)(st:xz)(f:xZ):Prop:=
 K.lookup f=vE ⟨(Oh K f).cls,(Oh K f).dict,.func (fnOf x q (K8 st) (Ja st) (Ar st) .none (Ek K f).kwdefaults (Ek K f).doc (Ek K f).pyModule (Ek K f).annotations (Ek K f).code (Ek K f).closureTuple),(Oh K f).slots⟩/\
  codeIn K (Ek K f).code q=vG/\keepIn K (.ref f)=vG
theorem ZGN{K:vA}{f:xZ}(h:Z6 K x q f=vG)(t:Xi K f=Vb st):FnSaid K x q st f:=by
 unfold Z6 at h;split at h
 ·rename_i oc od fd sl e;have eo:Oh K f=⟨oc,od,.func fd,sl⟩:=by unfold Oh;rw[e]
  have ef:Ek K f=fd:=by unfold Ek;rw[eo]
  unfold Xi Vb at t;rw[ef]at t;obtain⟨t1,t2⟩:=Prod.mk.inj t;obtain⟨t2,t3⟩:=Prod.mk.inj t2;simp only[zC,decide_eq_true_eq,beq_iff_eq,List.isEmpty_iff]at h;obtain⟨⟨⟨h1,h2⟩,⟨⟨h3,h4⟩,h5⟩,h6⟩,h7,h8⟩:=h;unfold FnSaid;rw[ef,eo,e];refine⟨?_,h7,h8⟩;have h6':fd.defaults=.none:=by
   revert h6
   generalize fd.defaults=df;intro h6
   cases df<;>first|rfl|cases h6
  have h9:fd.body=.stmts (Ja st):=by
   revert t2
   generalize fd.body=bd;intro t2
   cases bd<;>first|(cases t2;rfl)|(cases t2)
  have ef':fd=fnOf x q (K8 st) (Ja st) (Ar st) .none fd.kwdefaults fd.doc fd.pyModule fd.annotations fd.code fd.closureTuple:=by show FuncData.mk fd.name fd.qualname fd.params fd.body fd.scope fd.globals fd.closure fd.defaults fd.kwdefaults fd.doc fd.pyModule fd.annotations fd.code fd.closureTuple fd.builtins=_;rw[h1,h2,t1,h9,t3,h3,h5,h6',h4]
  exact congrArg (λz=>vE (Obj.mk oc od (.func z) sl)) ef'
 ·cases h
theorem Wm:∀{l:List xj}{ss:List Str},strsOf l=vE ss->Vals (ss.map V.str) l
 |[],ss,h=>by cases h;exact .nil
 |v::r,ss,h=>by
  unfold strsOf at h;split at h
  ·rename_i q;cases q
  ·rename_i s t r' q;cases q;obtain⟨ss',h1,rfl⟩:=zI.mp h;exact .cons ⟨_,rfl⟩ (Wm h1)
  ·cases h
abbrev GtSaid(K:vA)(n:Str)(vs:List Str):Prop:=∃(p:xZ)(od:Option xZ)(sl:Array (Option xj))(k:Nat)(its:List xj),nsIn K vQ n=vE (vE (.ref p))/\K.lookup p=vE ⟨.type "tuple",od,.seq its.toArray k,sl⟩/\its.length<=1000/\Vals (vs.map V.str) its
theorem ZTR{K:vA}{n:Str}{vs:List Str}(h:ZBQ K n vs=vG):GtSaid K n vs:=by
 unfold ZBQ at h;split at h
 ·rename_i p e;split at h
  ·rename_i t od its k sl e2;simp only[zC,beq_iff_eq,decide_eq_true_eq]at h;obtain⟨⟨rfl,h2⟩,h3⟩:=h;exact⟨p,od,sl,k,its.toList,e,by rw[e2],Nat.le_of_ble_eq_true h3,Wm h2⟩
  ·cases h
 ·cases h
theorem ZQQ{K:vA}{n:Str}{vs:List Str}(X:K.In h)(G:h.Ns vQ mg)(s:GtSaid K n vs):TupG K mg n vs:=by obtain⟨p,od,sl,k,its,h1,h2,h3,h4⟩:=s;exact ZM1 X G h1 h2 h3 h4
abbrev GdSaid(K:vA)(n:Str)(kvs:List (Str×Str)):Prop:=∃(p:xZ)(od:Option xZ)(sl:Array (Option xj))(k:Nat)(es:Array DictEntry),nsIn K vQ n=vE (vE (.ref p))/\K.lookup p=vE ⟨.type "dict",od,.dict es k,sl⟩/\(p==sysModules)=vH/\Vals ((kvs.map (·.1)).map V.str) (es.toList.map (·.key))/\Vals ((kvs.map (·.2)).map V.str) (es.toList.map (·.val))
theorem ZOo{K:vA}{n:Str}{kvs:List (Str×Str)}(h:ZBS K n kvs=vG):GdSaid K n kvs:=by
 unfold ZBS at h;split at h
 ·rename_i p e;split at h
  ·rename_i t od es k sl e2;simp only[zC,beq_iff_eq,decide_eq_true_eq,Bool.not_eq_true']at h;obtain⟨⟨⟨rfl,h2⟩,h3⟩,h4⟩:=h;exact⟨p,od,sl,k,es,e,by rw[e2],h2,Wm h3,Wm h4⟩
  ·cases h
 ·cases h
def Ask.Said(K:vA):Ask->Prop
 |.fn n st=>nsIn K vQ n=vE (vE (.ref (Bu K n)))/\FnSaid K n n st (Bu K n)
 |.mt c m q st=>findIn K (.ref (Bu K c)) m=vE (vE (.ref (I8 K (Bu K c) m)))/\isFn K (.ref (I8 K (Bu K c) m))=vG/\FnSaid K m q st (I8 K (Bu K c) m)
 | .cl c=>nsIn K vQ c=vE (vE (.ref (Bu K c)))/\plainGet K (Bu K c) Str.empty=vG/\hasDictIn K (Bu K c)=vG/\plainOver K (Bu K c)=vG/\
   findIn K (.ref (Bu K c)) "__setattr__"=vE (vE (.builtin "object.__setattr__"))/\makesIn K (Bu K c)=vG/\keepIn K (.ref (Bu K c))=vG
 |.no c x=>findIn K (.ref (Bu K c)) x=vE vF
 |.z n=>nsIn K vQ n=vE vF
 |.gi n v=>nsIn K vQ n=vE (vE (.int v (Dy K n)))
 |.gs n v=>nsIn K vQ n=vE (vE (.str v (Dy K n)))
 |.gt n vs=>GtSaid K n vs
 |.gd n kvs=>GdSaid K n kvs
theorem Ask.said{K:vA}:∀{a:Ask},a.chk K=vG->a.txt K=a.want->a.Said K
 |.fn n st,h,t=>by obtain⟨h1,h2⟩:=jK.mp h;exact⟨ZKY h1,ZGN h2 (Option.some.inj t)⟩
 |.mt c m q st,h,t=>by obtain⟨h1,h2⟩:=jK.mp h;exact⟨(ZIn h1).1,(ZIn h1).2,ZGN h2 (Option.some.inj t)⟩
 |.cl c,h,_=>by simp only[Ask.chk,zC]at h;obtain⟨⟨h1,⟨h2,h3⟩,h4⟩,⟨h5,h6⟩,h7⟩:=h;exact⟨ZKY h1,h2,h3,h4,ZQh h5,h6,h7⟩
 |.no c x,h,_=>ZO9 h
 |.z n,h,_=>ZQ0 h
 |.gi n v,h,_=>ZO6 h
 |.gs n v,h,_=>ZOh h
 |.gt n vs,h,_=>ZTR h
 |.gd n kvs,h,_=>ZOo h
def AllSaid(K:vA):List Ask->Prop
 |[]=>True
 |a::r=>a.Said K/\AllSaid K r
theorem ZHS{K:vA}:∀{l:List Ask},(l.all (Ask.chk K),l.map (Ask.txt K))=(vG,l.map Ask.want)->AllSaid K l
 |[],_=>trivial
 |a::r,h=>by obtain⟨h1,h2⟩:=Prod.mk.inj h;rw[qB]at h1;obtain⟨h3,h4⟩:=jK.mp h1;rw[zk,zk]at h2;obtain⟨h5,h6⟩:=List.cons.inj h2;exact⟨Ask.said h3 h5,ZHS (by rw[h4,h6])⟩
theorem ZRK{K:vA}{a:Str}{f:xZ}{fd:xV}{s:xq}{v:xj}(F:Fun K x q st f fd)
  (h:∀(kV doc pm:xj)(an:Option xZ)(cdv ct:xj)(u:xj),bindArgs (fnOf x q (K8 st) (Ja st) (Ar st) .none kV doc pm an cdv ct) ⟨[u],[]⟩=pure [(a,u)]):BindsTo s fd ⟨[v],[]⟩ [(a,v)]:=by
 obtain⟨oc,od,kV,doc,pm,an,cdv,ct,osl,rfl,lk,hcd⟩:=F.ex;exact .of_eq (h kV doc pm an cdv ct v)
theorem ZJm{p:xK}{w:xw}{n₀:Nat}{ann:Option xj}:∀{n:Nat}{s s':SharedT}{t:Thread},Wa p w n₀ ann n s t=vE s'->topRun vK p w n₀ ann n s.abs t=vE s'.abs
 |0,_,_,_,h=>by cases h
 | n+1,s,s',t,h=>by
  unfold Wa at h;unfold topRun;rw[<-PySem.W.Fast.te6613529449190102663,<-PySem.W.Fast.te10156331382660048174,<-PySem.W.Fast.te11892475500146522536,<-PySem.W.Fast.te14364793385576792824]at h;cases ht:through t with
  |true=>
   rw[ht]at h;cases h
   rfl
  | false=>
   rw[ht]at h;dsimp only at h⊢;cases ho:stepOk n₀ ann t with
   |false=>rw[ho]at h;cases h
   |true=>
    rw[ho]at h;dsimp only at h⊢;split at h
    ·rename_i s2 t2 e;rw[stepT_spec e];exact ZJm h
    ·cases h
theorem boot_abs:∀w os,(ZKF w os).abs=⟨vB w.params,Array.mk [],boot_drawn,boot_toks,os⟩:=λw os=>by kernel_rfl
theorem ZTV:∀w:xw,((vB w.params).isNs vQ&&(Array.mk []:Array GenState).size==0)=vG:=λw=>by kernel_rfl
theorem ZQj{p q:xK}{loose:List Str}{Xt:xq->Bool}{β:Type}{see:Heap->β}{val:β}(e:opening p=plainProg p.main.scope.names)(f:∀s,fenceModules? p s=vE s)
  (R:∀w os,(Ru p w os).map (λs=>(Up p w s.abs,PySem.W.Fast.tw4187177175401517315 q loose (PySem.W.Fast.tw5923862056798008813 p.main.body) Xt vG s.abs,see s.abs.heap))=vE (vG,openGood q loose,val)):
  ∀w,(openEnds vK p w 100000).map (λs=>(openSeen q loose (xL p.main.body) Xt vG s,see s.heap))=vE (openGood q loose,val):=λw=>by
 obtain⟨⟨h,gs,d,k,os⟩,h0,e0⟩:=zI.mp (boot_open (N:=100000) e rfl f w);obtain⟨rfl,rfl,rfl,rfl⟩:h=vB w.params/\gs=Array.mk []/\d=boot_drawn/\k=boot_toks:=by simpa using e0
 obtain⟨s,h1,h2⟩:=zI.mp (R w os);obtain⟨h3,h4⟩:=Prod.mk.inj h2;obtain⟨h4,h5⟩:=Prod.mk.inj h4;unfold Ru at h1;have r:=ZJm h1;rw[boot_abs,<-PySem.W.Fast.te8920871248978507458]at r;rw[<-PySem.W.Fast.te4187177175401517315,<-PySem.W.Fast.te5923862056798008813]at h4;unfold Up at h3;rw[<-PySem.W.Fast.te5923862056798008813]at h3;have t:topFrom vK p w 100000 ⟨vB w.params,Array.mk [],boot_drawn,boot_toks,os⟩=vE s.abs:=by
  unfold topFrom;dsimp only;rw[ZTV,r]
  show(match staticsOk (xL p.main.body) (vB w.params) s.abs.heap&&namesBound p s.abs.heap&&gensDone s.abs&&laidKept (vB w.params) s.abs.heap with |true=>_|false=>_)=_
  rw[h3]
 unfold openEnds;rw[h0];show(topFrom vK p w 100000 _).map _=_;rw[t];exact congrArg vE (Prod.ext h4 h5)
theorem ZLP{l:OpenLaw}(h:PySem.W.Fast.tw9446332074065402090 l=vG):l.wellSaid=vG:=by rw[PySem.W.Fast.te9446332074065402090];exact h
structure FT (K:vA) (mg:Str->Option xj) (n:Str) (st:xz) (ps:List Str):Prop where
 F:Fun K n n st (Bu K n) (Ek K (Bu K n))
 b:Binds K (Ek K (Bu K n)) ps []
 m:mg n=vE (.ref (Bu K n))
 k:keepIn K (.ref (Bu K n))=vG
structure MT (K:vA) (c m q:Str) (st:xz) (ps:List Str):Prop where
 F:Fun K m q st (I8 K (Bu K c) m) (Ek K (I8 K (Bu K c) m))
 b:Binds K (Ek K (I8 K (Bu K c) m)) ps []
 me:Meth K (Bu K c) m (I8 K (Bu K c) m)
structure CT (K:vA) (mg:Str->Option xj) (c:Str):Prop where
 N:nsIn K vQ c=vE (vE (.ref (Bu K c)))
 cl:Cls K (Bu K c)
 g:mg c=vE (.ref (Bu K c))
 mK:Mk K (Bu K c) (I8 K (Bu K c) "__init__")
theorem Uw{K:vA}{f:xZ}(s:FnSaid K x q st f):Fun K x q st f (Ek K f):=by
 have e:Ek K f=fnOf x q (K8 st) (Ja st) (Ar st) .none (Ek K f).kwdefaults (Ek K f).doc (Ek K f).pyModule (Ek K f).annotations (Ek K f).code (Ek K f).closureTuple:=by
  have h:=s.1
  conv=>lhs;unfold Ek Oh;rw[h]
 exact⟨⟨_,_,_,_,_,_,_,_,_,e,by rw[e];exact s.1,s.2.1⟩,s.2.2⟩
theorem Cr{K:vA}{n:Str}{ps:List Str}(X:K.In h)(G:h.Ns vQ mg)(s:Ask.Said K (.fn n st))
  (hb:∀(kV doc pm:xj)(an:Option xZ)(cdv ct:xj)(us:List xj),us.length=ps.length->bindArgs (fnOf n n (K8 st) (Ja st) (Ar st) .none kV doc pm an cdv ct) ⟨us,[]⟩=pure (ps.zip us)):FT K mg n st ps:=
 ⟨Uw s.2,(Uw s.2).binds hb,mg_of X G s.1,s.2.2.2⟩
theorem N5{K:vA}{c:Str}{ps:List Str}(s:Ask.Said K (.mt c m q st))
  (hb:∀(kV doc pm:xj)(an:Option xZ)(cdv ct:xj)(us:List xj),us.length=ps.length->bindArgs (fnOf m q (K8 st) (Ja st) (Ar st) .none kV doc pm an cdv ct) ⟨us,[]⟩=pure (ps.zip us)):MT K c m q st ps:=
 ⟨Uw s.2.2,(Uw s.2.2).binds hb,s.1,s.2.1,s.2.2.2.2⟩
theorem ZTP{K:vA}{c:Str}(X:K.In h)(G:h.Ns vQ mg)(s:Ask.Said K (.cl c))(i:Ask.Said K (.mt c "__init__" q st)):CT K mg c:=
 ⟨s.1,⟨s.2.1,s.2.2.1,s.2.2.2.1,s.2.2.2.2.1⟩,mg_of X G s.1,s.2.2.2.2.2.1,i.1,i.2.1,s.2.2.2.2.2.2⟩
abbrev FnO(P:xK)(w:xw)(K:vA)(mg:Str->Option xj)(base:Heap)(k:Nat)(n:Str)(ps:List Str)(F:List D->DH->R D):Prop:=FnOk P w K mg base CX0 k (Bu K n) (Ek K (Bu K n)) ps (lF K F)
abbrev MtO(P:xK)(w:xw)(K:vA)(mg:Str->Option xj)(base:Heap)(k:Nat)(c m:Str)(ps:List Str)(F:List D->DH->R D):Prop:=FnOk P w K mg base CX0 k (I8 K (Bu K c) m) (Ek K (I8 K (Bu K c) m)) ps (lF K F)
theorem ZR6{K:vA}{fd:xV}{s:xq}{v:xj}{a:Str}{f:xZ}(F:Fun K x q st f fd)
  (h:∀(kV doc pm:xj)(an:Option xZ)(cdv ct:xj)(u:xj),bindArgs (fnOf x q (K8 st) (Ja st) (Ar st) .none kV doc pm an cdv ct) ⟨[u],[]⟩=pure [(a,u)]:=by intros;rfl):BindsTo s fd ⟨[v],[]⟩ [(a,v)]:=ZRK F h
end _D
namespace _D
open PySem PySem.Spec _L
open PyProof.Rows hiding St
variable{x:Str}{es:Array DictEntry}{a:Wd}{d:D}
section
variable{prog:xK}{w:xw}{A:xJ}{E:xj->xq->Prop}{s:xq}
noncomputable def strAt(es:Array DictEntry)(x:Str):Option xj:=(es.findIdx? λe=>e.key.isStr x).bind λi=>es[i]?.map (·.val)
theorem ZJH{v:xj}(h:v.isStr x=vG):∃t,v=.str x t:=by
 cases v<;>first
  |(rename_i y t;unfold Value.isStr at h;exact⟨t,by rw[of_decide_eq_true h]⟩)
  |(rename_i y t;simp[Value.isStr]at h;exact⟨t,by rw[h]⟩)
  |cases h
theorem ZF8{d:xZ}{o:Obj}{ep}{t:Tok}{Q:Option xj->xq->Prop}(ho:s.heap.get? d=vE o)(hd:o.data=.dict es ep)
  (hall:(es.all λe=>isExactStrKey e.key)=vG) (h:Q (strAt es x) {s with toks:=s.toks+1}):
  vY (vZ prog w) A (dictGet d (.str x t)) Q E s:=by
 unfold strAt at h;unfold dictGet
 try with_reducible refine vk ?_
 refine vz (wpAny_pyHash_str (vz ?_));unfold dictFind
 try with_reducible refine vk ?_
 refine vz (wpAny_dictEntries (s:={s with toks:=s.toks+1}) ho hd ?_);dsimp only;rw[if_pos hall];unfold foundByValue;cases hf:es.findIdx? (λe=>e.key.isStr x)with
 |none=>rw[hf]at h;exact v7 (v7 h)
 |some i=>
  rw[hf]at h;obtain⟨hlt,hi,_⟩:=Array.findIdx?_eq_some_iff_getElem.mp hf;obtain⟨u,hu⟩:=ZJH hi;simp only[Array.getElem?_eq_getElem hlt]at h⊢;rw[hu];refine vz (wpAny_dictEpoch (s:={s with toks:=s.toks+1}) ho hd (vz (wpAny_eqBool_str (vz (wpAny_dictEpoch (s:={s with toks:=s.toks+1}) ho hd ?_)))));show vY _ _ (if(ep != ep)=vG then _ else _) _ E _;rw[if_neg (by simp),decide_eq_true rfl]
  refine vz (wpAny_rule (v7 ?_));exact vz (wpAny_dictEntries (s:={s with toks:=s.toks+1}) ho hd (v7 (by simpa[Array.getElem?_eq_getElem hlt]using h)))
theorem ZPZ{d:xZ}{o:Obj}{ep}{t:Tok}{v:xj}{Q:xj->xq->Prop}(ho:s.heap.get? d=vE o)(hc:o.cls=.type "dict")(hd:o.data=.dict es ep)
  (hall:(es.all λe=>isExactStrKey e.key)=vG) (hv:strAt es x=vE v) (h:Q v {s with toks:=s.toks+1}):vY (vZ prog w) A (getItem (.ref d) (.str x t)) Q E s:=by
 have hT:s.TypeIs (.ref d) "dict":=⟨o,ho,hc⟩;unfold getItem
 try with_reducible refine vk ?_
 refine vz (wpAny_sequenceKey hT (by decide) ?_);refine vz (vj (name:=Str.ofString "__getitem__") hT slot_dict_getitem
  (vx slot_dict_getitem hT entry_dict_getitem ?_ (args_dict_getitem _ _)))
 show vY _ _ (dictGet d (.str x t) >>=_) _ _ s;refine vz (ZF8 ho hd hall ?_);rw[hv];exact v7 ⟨v,rfl,v7 h⟩
theorem ZON{d:xZ}{o:Obj}{ep}{t:Tok}{Q:xj->xq->Prop}(hds:(d==sysModules)=vH)(ho:s.heap.get? d=vE o)(hc:o.cls=.type "dict")(hd:o.data=.dict es ep)
  (hall:(es.all λe=>isExactStrKey e.key)=vG) (h:Q (.bool (!(strAt es x).isSome)) {s with toks:=s.toks+1}):vY (vZ prog w) A (xI .NotIn (.str x t) (.ref d)) Q E s:=by
 have hT:s.TypeIs (.ref d) "dict":=⟨o,ho,hc⟩
 show vY _ _ (do return .bool (!(<-contains (.ref d) (.str x t)))) Q E s
 refine vz ?_;unfold contains
 try with_reducible refine vk ?_
 refine vz (wpAny_specialOf hT slot_dict_contains.lookup ?_);show vY _ _ (if(vE (Value.builtin "dict.__contains__")==vE Value.none)=vG then _ else _) _ E s;rw[if_neg (by rw[beq_builtin_none];exact zy)];refine vz (wpAny_callSpecialUnlessNone?_slot (name:=Str.ofString "__contains__") hT slot_dict_contains
  (vx slot_dict_contains hT entry_dict_contains ?_ (args_dict_contains _ _)))
 show vY _ _ (dictGet d (.str x t) >>=_) _ _ s;refine vz (ZF8 ho hd hall ?_);cases hf:strAt es x with
 |some v=>
  rw[hf]at h;show vY _ _ (ret (.bool vG)) _ _ _;exact v7 ⟨_,rfl,v9 (v7 h)⟩
 |none=>
  rw[hf]at h;show vY _ _ (Builtin.Dict.pendingKey? d (.str x t) >>=_) _ _ _;exact vz (wpAny_pendingKey_other hds (v7 ⟨_,rfl,v9 (v7 h)⟩))
end
theorem strAt_eq:strAt es x=(es.toList.find? λe=>e.key.isStr x).map (·.val):=by
 obtain⟨l⟩:=es;have e:=findBy_of_findIdx? (λ(x:Str)(v:xj)=>v.isStr x) ⟨l⟩ x;unfold findBy at e;rw[<-Array.find?_toList]at e;unfold strAt;rw[e]
 cases(Array.findIdx? (λe=>e.key.isStr x) ⟨l⟩)<;>rfl
def AtT(kvs:List (Str×Str))(es:Array DictEntry):Prop:=∀x,(kvs.lookup x=vF/\strAt es x=vF)∨∃v t,kvs.lookup x=vE v/\strAt es x=vE (.str v t)
theorem ZHW:∀{kvs:List (Str×Str)}{es:List DictEntry},Vals ((kvs.map (·.1)).map V.str) (es.map (·.key))->Vals ((kvs.map (·.2)).map V.str) (es.map (·.val))->(es.all λe=>isExactStrKey e.key)=vG/\
  ∀x,(kvs.lookup x=vF/\(es.find? λe=>e.key.isStr x).map (·.val)=vF)∨∃v t,kvs.lookup x=vE v/\(es.find? λe=>e.key.isStr x).map (·.val)=vE (.str v t)
 |[],[],_,_=>⟨rfl,λ_=>.inl ⟨rfl,rfl⟩⟩
 |[],e::es,h,_=>by cases h
 |(k,v)::kvs,[],h,_=>by cases h
 | (k,v)::kvs,⟨hs,ke,va⟩::es,h1,h2=>by
  cases h1 with
  | cons p1 q1=>cases h2 with
   | cons p2 q2=>
    obtain⟨t1,rfl⟩:=p1;obtain⟨t2,rfl⟩:=p2;obtain⟨ih1,ih2⟩:=ZHW q1 q2;refine⟨by rw[qB,ih1];rfl,λx=>?_⟩;by_cases hx:x=k
    ·subst hx;exact .inr ⟨v,t2,by simp[qS],by simp[qV,Value.isStr]⟩
    ·have hx':¬k=x:=λz=>hx z.symm
     have b1:(x==k)=vH:=by simpa using hx
     have b2:(Value.str k t1).isStr x=vH:=by
      cases h:(Value.str k t1).isStr x with
      |false=>rfl
      |true=>obtain⟨t,e⟩:=ZJH h;cases e;exact absurd rfl hx'
     rw[qS,b1,qV];simp only[b2];exact ih2 x
structure DctAt (K:PySem.W.Frag) (p:xZ) (kvs:List (Str×Str)):Prop where
 ex:∃(o:Obj)(es:Array DictEntry)(ep:Nat),(p==sysModules)=vH/\K.lookup p=vE o/\o.cls=.type "dict"/\o.data=.dict es ep/\(es.all λe=>isExactStrKey e.key)=vG/\AtT kvs es
def DctG(K:PySem.W.Frag)(mg:Str->Option xj)(n:Str)(kvs:List (Str×Str)):Prop:=∃p,mg n=vE (.ref p)/\DctAt K p kvs
theorem ZPy{K:PySem.W.Frag}{h:Heap}{mg:Str->Option xj}{n:Str}{kvs:List (Str×Str)}(X:K.In h)(G:h.Ns vQ mg)(s:GdSaid K n kvs):DctG K mg n kvs:=by obtain⟨p,od,sl,k,es,h1,h2,h3,h4,h5⟩:=s;obtain⟨q1,q2⟩:=ZHW h4 h5;exact⟨p,PySem.W.mg_of X G h1,⟨_,es,k,h3,h2,rfl,rfl,by rw[<-Array.all_toList];exact q1,λx=>by rw[strAt_eq];exact q2 x⟩⟩
noncomputable def Pj(kvs:List (Str×Str)):D->DH->R D
 |.str x,G=>match kvs.lookup x with
  |some v=>.ok (.str v) G
  |none=>.bad
 |_,_=>.bad
noncomputable def Uu(kvs:List (Str×Str)):D->DH->R D
 |.str x,G=>.ok (.bl (!(kvs.lookup x).isSome)) G
 |_,_=>.bad
section
variable{X:Cx}{E:XK}{p:xZ}{kvs:List (Str×Str)}{x:Str}{a:xX}{ta:DE}{np pos:Pos}
theorem ix_g(D:DctAt X.K p kvs):IxR X (λx y H Q=>∃k v,x=.ref p/\y=.str k/\kvs.lookup k=vE v/\Q (.str v) H):=by
 intro value slice vD s σ H x y v u Q I rx ry h hs;obtain⟨k,w,rfl,rfl,hl,q⟩:=h;obtain rfl:v=Value.ref p:=rx;obtain⟨t,rfl⟩:=ry;obtain⟨o,es,ep,hds,hK,hc,hd,ha,hat⟩:=D.ex;have ho:=I.kIn _ _ hK;have hT:s.TypeIs (.ref p) "dict":=⟨o,ho,hc⟩;obtain⟨v',t',hv⟩:∃v' t',strAt es k=vE (.str v' t')/\v'=w:=by
  rcases hat k with⟨z,_⟩|⟨v',t',z,z'⟩
  ·rw[hl]at z;cases z
  ·rw[hl]at z;cases z;exact⟨_,t',z',rfl⟩
 obtain⟨hv,rfl⟩:=hv;unfold subscriptTail;refine vz ?_;rw[getitemInPython_of_ne hT.not_modules];refine vz (wpAny_specialOf hT PySem.F.slot_dict_getitem.lookup ?_);have fin:vY (vZ X.prog X.w) X.A (subscripted slice vH (.ref p) (.str k t)) (λr s₃=>vY (vZ X.prog X.w) X.A (letTemporaryGo value (.ref p) r >>=λ_=>pure r) (EP X vD σ Q) X.xe s₃) X.xe s:=by rw[hs];exact wpAny_operating (ZPZ ho hc hd ha hv (vz (wpAny_letTemporaryGo (v7 ⟨.str v',H,I.tok _,⟨_,rfl⟩,q⟩))))
 first
  |exact v7 (vz fin)
  |exact vz (v7 (vz fin))
  |exact vz fin
theorem ZS3(D:DctAt X.K p kvs):OpR X (xI .NotIn) (λy x H Q=>∃k,x=.ref p/\y=.str k/\Q (.bl (!(kvs.lookup k).isSome)) H):=by
 intro vD s σ H y x v u Q I ry rx ⟨k,ex,ey,q⟩;subst ex ey;obtain rfl:u=Value.ref p:=rx;obtain⟨t,rfl⟩:=ry;obtain⟨o,es,ep,hds,hK,hc,hd,ha,hat⟩:=D.ex;refine ZON hds (I.kIn _ _ hK) hc hd ha ⟨.bl (!(kvs.lookup k).isSome),H,I.tok _,?_,q⟩;rcases hat k with⟨z,z'⟩|⟨v',t',z,z'⟩
 ·rw[z,z'];rfl
 ·rw[z,z'];rfl
theorem ZS7(hg:Gl X x)(h:DctG X.K X.mg x kvs)(ha:QE X E a ta)(hs:PlainIx a:=by intro _ _;rfl)(hd:(x==("__debug__":Str))=vH:=by decide):QE X E (.Subscript (.Name x np) a pos) (dUn (Pj kvs) ta):=by
 obtain⟨p,hm,D⟩:=h;refine(ZJC (ix_g D) (ZCn (v:=.ref p) hg hm rfl hd) ha hs).mono λσ H Q h=>?_
 obtain⟨a,S,G,hk,rfl,s,r,h⟩:=h;refine⟨a,S,G,hk,rfl,s,r,(Gp h).imp ?_⟩;rintro v _ ⟨b,d,G1,rfl,y,s1,q1,_,h1⟩;cases d with
 |str k=>
  cases(show v=.str k from q1)
  unfold Pj at h1;dsimp only at h1;split at h1
  ·rename_i w hw;exact⟨k,w,rfl,rfl,hw,h1 b _ (Ext.refl b) s1 rfl⟩
  ·exact h1.elim
 |_=>exact h1.elim
theorem ZNe{σ:St}{H:Hp}{Q:VK}(h:lE X.K E (dUn (Uu kvs) ta) σ H Q):tOp (λy x H Q=>∃k,x=.ref p/\y=.str k/\Q (.bl (!(kvs.lookup k).isSome)) H) (lE X.K E ta) (tC (.ref p)) σ H Q:=by
 obtain⟨a,S,G,hk,rfl,s,r,h⟩:=h;refine⟨a,S,G,hk,rfl,s,r,(Gp h).imp ?_⟩;rintro v _ ⟨b,d,G1,rfl,y,s1,q1,_,h1⟩;cases d with
 |str k=>
  cases(show v=.str k from q1)
  exact⟨k,rfl,rfl,h1 b _ (Ext.refl b) s1 rfl⟩
 |_=>exact h1.elim
theorem ZRJ(hg:Gl X x)(h:DctG X.K X.mg x kvs)(ha:QE X E a ta)(hm:xC .NotIn (.Name x np)=vH)(hd:(x==("__debug__":Str))=vH:=by decide):QT X E (.Compare a [.NotIn] [.Name x np] pos) (Aw (dUn (Uu kvs) ta)):=by obtain⟨p,hp,D⟩:=h;exact(ZFE (ZS3 D) ha (ZCn (v:=.ref p) hg hp rfl hd) hm).mono λσ H Q h=>ZCI (λ_ _ _ z=>ZNe z) σ H Q (Xy h)
end
noncomputable def Ij(kvs more:List (Key×D)):List (Key×D):=more.foldl (λacc kv=>putD acc kv.1 kv.2) kvs
theorem RepKV.merge:∀{more:List (Key×D)}{ms:List (Key×V)}{kvs:List (Key×D)}{us:List (Key×V)},RepKV a more ms->RepKV a kvs us->RepKV a (Ij kvs more) (Ni us ms)
 |[],ms,kvs,us,h,r=>by have:ms=[]:=jq.mp h.1.symm;subst this;exact r
 |(k,d)::more,ms,kvs,us,h,r=>by obtain⟨v,ms',rfl,h1,h2⟩:=RepKV.cons h;exact RepKV.merge (more:=more) (ms:=ms') h2 (r.put (k:=k) h1)
noncomputable def Ef:D->Option V
 |.int i=>vE (.int i)
 |.str x=>vE (.str x)
 |_=>vF
theorem ZQS{v w:V}(h:Ef d=vE w)(r:Rep a d v):v=w:=by
 cases d<;>first
  |(cases h;exact r)
  |cases h
theorem ZOs{w:V}(h:Ef d=vE w):Rep a d w:=by
 cases d<;>first
  |(cases h;rfl)
  |cases h
noncomputable def Uk(kvs:List (Str×D)):DE:=λ_ G=>.ok (.ref G.length) (G++[.dct (Ij [] (kvs.map λkv=>(.inr kv.1,kv.2)))])
section
variable{X:Cx}{E:XK}{pos:Pos}
def QPs(X:Cx)(E:XK)(pos:Pos)(keys:List (Option xX))(values:List xX)(kvs:List (Str×D)):Prop:=PPs X pos keys values (kvs.map λkv=>(tC (.str kv.1),lE X.K E (dC kv.2)))
theorem ZKM:QPs X E pos [] [] []:=ZLf
theorem Kc{j:Nat}{p:Pos}{v:xX}{ks:List (Option xX)}{vs:List xX}{kvs:List (Str×D)}(hv:QE X E v (dC d))(hr:QPs X E pos ks vs kvs):QPs X E pos (vE (.Constant (.str x) j p)::ks) (v::vs) ((x,d)::kvs):=ZRr ZG2 hv hr
theorem ZF5{S:DSt}{σ:St}{G0:DH}{a0:Wd}:∀{kvs:List (Str×D)}{ws:List V}{b:Wd}{Q:List (V×V)->Hp->Prop},kvs.map (λkv=>Ef kv.2)=ws.map vE->b.K=X.K->Ext a0 b->Sim b G0->RepS b S σ->
  (∀c,Ext a0 c->Sim c G0->Q ((kvs.map λkv=>V.str kv.1).zip ws) c.H)->Wo (kvs.map λkv=>(tC (.str kv.1),lE X.K E (dC kv.2))) σ b.H Q
 |[],ws,b,Q,hw,hk,hx,hs,hr,h=>h b hx hs
 |(x,d)::kvs,[],b,Q,hw,hk,hx,hs,hr,h=>by cases hw
 |(x,d)::kvs,w::ws,b,Q,hw,hk,hx,hs,hr,h=>by rw[zk,zk]at hw;obtain⟨h1,h2⟩:=List.cons.inj hw;refine⟨b,S,G0,hk,rfl,hs,hr,λc v xc sc rc=>?_⟩;obtain rfl:=ZQS h1 rc;exact ZF5 h2 (xc.k.trans hk) (hx.trans xc) sc (hr.mono xc) λc' x' s'=>h c' x' s'
theorem ZJn:∀{kvs:List (Str×D)},(kvs.all λkv=>(Ef kv.2).isSome)=vG->∃ws:List V,kvs.map (λkv=>Ef kv.2)=ws.map vE
 |[],_=>⟨[],rfl⟩
 |kv::kvs,hf=>by rw[qB,zC]at hf;obtain⟨w,hw⟩:=qL.mp hf.1;obtain⟨ws,h2⟩:=ZJn hf.2;exact⟨w::ws,by rw[zk,zk,h2,hw]⟩
theorem ZG6{c:Wd}:∀{kvs:List (Str×D)}{ws:List V},kvs.map (λkv=>Ef kv.2)=ws.map vE->RepKV c (kvs.map λkv=>((.inr kv.1:Key),kv.2)) ((kvs.map λkv=>(Sum.inr kv.1:Key)).zip ws)
 |[],_,_=>RepKV.nil
 |kv::kvs,[],h=>by cases h
 |kv::kvs,w::ws,h=>by rw[zk,zk]at h;obtain⟨h1,h2⟩:=List.cons.inj h;exact RepKV.mk (ZOs h1) (ZG6 h2)
theorem ZGu:∀{kvs:List (Str×D)}{ws:List V},(kvs.map λkv=>V.str kv.1).zip ws=((kvs.map λkv=>(Sum.inr kv.1:Key)).zip ws).map λkv=>(kV kv.1,kv.2)
 |[],_=>rfl
 |kv::kvs,[]=>rfl
 |kv::kvs,w::ws=>congrArg _ ZGu
theorem ZH7{keys:List (Option xX)}{values:List xX}{kvs:List (Str×D)}(h:QPs X E pos keys values kvs)(hf:(kvs.all λkv=>(Ef kv.2).isSome)=vG:=by rfl)(hn:kvs.length<=15:=by decide)(hall:keys.all (·.isSome)=vG:=by rfl)(hl:keys.length=values.length:=by rfl)(h0:keys≠[]:=by exact λz=>nomatch z)
  (h15:keys.length<=15:=by decide):QE X E (.Dict keys values pos) (Uk kvs):=by
 refine(ZMs h hall hl h0 h15).mono λσ H Q h=>?_
 obtain⟨a,S,G,hk,rfl,s,r,h⟩:=h;intro p hp;obtain⟨ws,hws⟩:=ZJn hf;have s0:Sim (a.push p (.dK [])) (G++[.dct []]):=s.push hp ⟨[],rfl,RepKV.nil⟩;refine ZF5 (b:=a.push p (.dK [])) (a0:=a.push p (.dK [])) (G0:=G++[.dct []]) (S:=S) hws hk (Ext.refl _) s0 (r.mono (Ext.push hp)) λc xc sc=>?_
 have hlt:a.n<c.n:=zq (zU _) xc.n;have hm:c.m a.n=p:=by rw[xc.m a.n (zU _)];show(if a.n=a.n then p else a.m a.n)=p;rw[if_pos rfl]
 obtain⟨us,e1,e2⟩:=sc.obj a.n (.dct []) (by rw[<-s.len];simp);have:us=[]:=jq.mp e2.1.symm;subst this;rw[hm]at e1;have hlen:ws.length=kvs.length:=by have:=congrArg xQ hws;simpa using this.symm
 refine⟨e1,(kvs.map λkv=>(Sum.inr kv.1:Key)).zip ws,ZGu,by simp;lia,?_⟩
 ·have hw:=sc.wrD (i:=a.n) hlt (us:=[]) (us':=Ni [] ((kvs.map λkv=>(Sum.inr kv.1:Key)).zip ws)) (kvs':=Ij [] (kvs.map λkv=>((.inr kv.1:Key),kv.2))) (by rw[hm];exact e1) (RepKV.merge (ZG6 hws) RepKV.nil);rw[hm]at hw;have eG:(G++[DO.dct []]).set a.n (DO.dct (Ij [] (kvs.map λkv=>((.inr kv.1:Key),kv.2))))=G++[DO.dct (Ij [] (kvs.map λkv=>((.inr kv.1:Key),kv.2)))]:=by rw[<-s.len];simp
  rw[eG]at hw;refine h (c.put p _) (.ref p) (((Ext.push hp).trans xc).trans (Ext.wrD e1)) hw ⟨by rw[s.len];exact hlt,?_⟩;show V.ref p=V.ref (c.m G.length);rw[s.len,hm]
end
section
variable{S:DSt}{G:DH}
@[simp]theorem ZUw{kvs:List (Str×D)}:Uk kvs S G=.ok (.ref G.length) (G++[.dct (Ij [] (kvs.map λkv=>(.inr kv.1,kv.2)))]):=id rfl
theorem ZKu{kvs:List (Str×Str)}{v:Str}(h:kvs.lookup x=vE v):Pj kvs (.str x) G=.ok (.str v) G:=by
 show(match kvs.lookup x with |some v=>R.ok (D.str v) G|none=>R.bad)=_
 rw[h]
@[simp]theorem ZUI{kvs:List (Str×Str)}:Uu kvs (.str x) G=.ok (.bl (!(kvs.lookup x).isSome)) G:=id rfl
end
theorem ZOf(w:xw):ftW w (w.params.followText "special-get-raises")=w:=by
 obtain⟨d,p⟩:=w;obtain⟨a1,a2,a3,a4,a5,f,a7,a8,a9,a10,a11,a12,a13,a14,a15,a16,a17,a18,a19,a20,a21,a22,a23,a24,a25⟩:=p
 have e:(λx:String=>match x == "special-get-raises" with |true=>f "special-get-raises"|false=>f x)=f:=by
  funext x;cases h:x == "special-get-raises" with
  |true=>rw[beq_iff_eq.mp h]
  |false=>rfl
 unfold ftW;dsimp only;rw[e]
theorem ZTN{P:xw->Prop}(h1:∀w,P (ftW w vG))(h2:∀w,P (ftW w vH)):∀w,P w:=λw=>by
 have h:∀b,P (ftW w b):=λb=>by cases b;exact h2 w;exact h1 w
 have:=h (w.params.followText "special-get-raises");rwa[ZOf]at this
theorem Ax{X:Cx}{k j:Nat}{n:Str}{st:xz}{ps:List Str}{F:List D->DH->R D}{p pos:Pos}{e:xX}{es:List xX}{tr:DA}(FF:FnO X.prog X.w X.K X.mg X.base k n ps F)(T:FT X.K X.mg n st ps)(hr:Room j X.A)(ha:QA X E0 (e::es) tr)
  (hj:k<=j:=by decide) (hg:Gl X n:=by exact rfl) (hd:(n==("__debug__":Str))=vH:=by decide) (he:notStar e=vG:=by exact rfl) (hp:es.all notStar=vG:=by exact rfl):QE X E0 (.Call (.Name n p) (e::es) [] pos) (dFn F tr):=
 ZMR FF (hr.mono hj) hg T.m T.k T.b pass0 ha hd he hp
end _D
namespace _W
open PySem _L _D
noncomputable def fuel:Nat:=100000
noncomputable abbrev ZHl:List Str:=["_law_cell","_law_unit_here"]
noncomputable abbrev ZAq:List Str:=ZHl.take 2
theorem ZOw:FnScope ZHl ZAq (Ar ZDE):=⟨rfl,rfl,rfl,by decide +kernel,rfl,by decide +kernel,by decide +kernel⟩
noncomputable abbrev ZHz:List Str:=["_law_number_here","_law_k","_law_digit"]
noncomputable abbrev ZCi:List Str:=ZHz.take 2
theorem Uq:FnScope ZHz ZCi (Ar ZDe):=⟨rfl,rfl,rfl,by decide +kernel,rfl,by decide +kernel,by decide +kernel⟩
noncomputable abbrev ZHV:List Str:=["_law_script"]
noncomputable abbrev ZDL:List Str:=ZHV.take 1
theorem ZSp:FnScope ZHV ZDL (Ar ZAf):=⟨rfl,rfl,rfl,by decide +kernel,rfl,by decide +kernel,by decide +kernel⟩
noncomputable abbrev ZKo:List Str:=["_law_script","_law_k","_law_number_here"]
noncomputable abbrev ZCF:List Str:=ZKo.take 2
theorem V0:FnScope ZKo ZCF (Ar ZEY):=⟨rfl,rfl,rfl,by decide +kernel,rfl,by decide +kernel,by decide +kernel⟩
noncomputable abbrev ZFu:List Str:=["_law_script"]
noncomputable abbrev ZCQ:List Str:=ZFu.take 1
theorem ZRE:FnScope ZFu ZCQ (Ar ZCW):=⟨rfl,rfl,rfl,by decide +kernel,rfl,by decide +kernel,by decide +kernel⟩
noncomputable abbrev Ph:List Str:=["_law_script","_law_house_here","_law_low","_law_lows","_law_unit_here","_law_many","_law_b","_law_levels","_law_coming","_law_k","_law_cell","_law_level","_law_room","_law_highs","_law_at","_law_cells","_law_added_here"]
noncomputable abbrev ZCd:List Str:=Ph.take 4
theorem Hw:FnScope Ph ZCd (Ar O7):=⟨rfl,rfl,rfl,by decide +kernel,rfl,by decide +kernel,by decide +kernel⟩
noncomputable abbrev ZFP:List Str:=["_law_script","_law_house_here","_law_many","_law_b","_law_k","_law_place","_law_kind","_law_what","_law_cell","_law_number_here"]
noncomputable abbrev ZBw:List Str:=ZFP.take 2
theorem Kf:FnScope ZFP ZBw (Ar ZAx):=⟨rfl,rfl,rfl,by decide +kernel,rfl,by decide +kernel,by decide +kernel⟩
noncomputable abbrev ZFO:List Str:=["_law_what"]
noncomputable abbrev ZDC:List Str:=ZFO.take 1
theorem ZKy:FnScope ZFO ZDC (Ar ZD7):=⟨rfl,rfl,rfl,by decide +kernel,rfl,by decide +kernel,by decide +kernel⟩
noncomputable abbrev ZE7:List Str:=["_law_numbers","_law_ask_here","_law_kept","_law_k","_law_better"]
noncomputable abbrev ZDo:List Str:=ZE7.take 2
theorem Om:FnScope ZE7 ZDo (Ar ZEb):=⟨rfl,rfl,rfl,by decide +kernel,rfl,by decide +kernel,by decide +kernel⟩
noncomputable abbrev Wt:List Str:=["_law_script","_law_house_here","_law_turns","_law_many","_law_b","_law_floods_here","_law_at","_law_cells"]
noncomputable abbrev ZCU:List Str:=Wt.take 3
theorem Qd:FnScope Wt ZCU (Ar T9):=⟨rfl,rfl,rfl,by decide +kernel,rfl,by decide +kernel,by decide +kernel⟩
noncomputable abbrev ZG9:List Str:=["_law_steps_here","_law_total","_law_low","_law_many","_law_way"]
noncomputable abbrev ZCP:List Str:=ZG9.take 1
theorem Qa:FnScope ZG9 ZCP (Ar ZDy):=⟨rfl,rfl,rfl,by decide +kernel,rfl,by decide +kernel,by decide +kernel⟩
noncomputable abbrev ZIC:List Str:=["_law_cells","_law_unit_here","_law_pumps","_law_steps_here","_law_low","_law_k","_law_many","_law_way"]
noncomputable abbrev ZA9:List Str:=ZIC.take 3
theorem Lh:FnScope ZIC ZA9 (Ar ZCq):=⟨rfl,rfl,rfl,by decide +kernel,rfl,by decide +kernel,by decide +kernel⟩
noncomputable abbrev ZJU:List Str:=["_law_script"]
noncomputable abbrev ZCu:List Str:=ZJU.take 1
theorem ZPW:FnScope ZJU ZCu (Ar ZCm):=⟨rfl,rfl,rfl,by decide +kernel,rfl,by decide +kernel,by decide +kernel⟩
noncomputable abbrev Z3:List Str:=["_law_script","_law_b","_law_unit_here","_law_pumps","_law_year_here","_law_rule_here","_law_begin","_law_j","_law_later","_law_cells"]
noncomputable abbrev ZEK:List Str:=Z3.take 4
theorem Ju:FnScope Z3 ZEK (Ar Rq):=⟨rfl,rfl,rfl,by decide +kernel,rfl,by decide +kernel,by decide +kernel⟩
noncomputable abbrev ZBV:List Str:=["_law_script","_law_b","_law_k","_law_names","_law_river","_law_unit_here","_law_cell","_law_pumps","_law_rule_here","_law_pump","_law_most","_law_to","_law_brim"]
noncomputable abbrev ZCL:List Str:=ZBV.take 5
theorem Kh:FnScope ZBV ZCL (Ar V7):=⟨rfl,rfl,rfl,by decide +kernel,rfl,by decide +kernel,by decide +kernel⟩
noncomputable abbrev ZKK:List Str:=["_law_cell","_law_k","_law_many","_law_other","_law_telling"]
noncomputable abbrev ZAo:List Str:=ZKK.take 3
theorem ZC1:FnScope ZKK ZAo (Ar ZEA):=⟨rfl,rfl,rfl,by decide +kernel,rfl,by decide +kernel,by decide +kernel⟩
noncomputable abbrev ZA5:List Str:=["_law_script","_law_first","_law_many","_law_names","_law_k","_law_places","_law_b","_law_step","_law_delay","_law_river","_law_kind","_law_amount_here","_law_rank"]
noncomputable abbrev ZDz:List Str:=ZA5.take 1
theorem Ho:FnScope ZA5 ZDz (Ar W2):=⟨rfl,rfl,rfl,by decide +kernel,rfl,by decide +kernel,by decide +kernel⟩
noncomputable abbrev ZGM:List Str:=["_law_script","_law_cell"]
noncomputable abbrev ZEW:List Str:=ZGM.take 1
theorem ZFC:FnScope ZGM ZEW (Ar ZBe):=⟨rfl,rfl,rfl,by decide +kernel,rfl,by decide +kernel,by decide +kernel⟩
noncomputable abbrev ZHd:List Str:=["_law_script","_law_house_here","_law_places","_law_unit_here","_law_b","_law_levels","_law_coming","_law_k","_law_level","_law_cell","_law_row","_law_j"]
noncomputable abbrev ZDP:List Str:=ZHd.take 2
theorem J7:FnScope ZHd ZDP (Ar ZAr):=⟨rfl,rfl,rfl,by decide +kernel,rfl,by decide +kernel,by decide +kernel⟩
noncomputable abbrev ZF0:List Str:=["_law_found","_law_number_here"]
noncomputable abbrev ZCc:List Str:=ZF0.take 1
theorem ZKD:FnScope ZF0 ZCc (Ar ZBz):=⟨rfl,rfl,rfl,by decide +kernel,rfl,by decide +kernel,by decide +kernel⟩
noncomputable abbrev ZFV:List Str:=["cubes","sense","number"]
noncomputable abbrev ZD8:List Str:=ZFV.take 3
theorem ZLi:FnScope ZFV ZD8 (Ar ZB1):=⟨rfl,rfl,rfl,by decide +kernel,rfl,by decide +kernel,by decide +kernel⟩
noncomputable abbrev ZJD:List Str:=["what"]
noncomputable abbrev ZCN:List Str:=ZJD.take 1
theorem ZPJ:FnScope ZJD ZCN (Ar ZC4):=⟨rfl,rfl,rfl,by decide +kernel,rfl,by decide +kernel,by decide +kernel⟩
noncomputable abbrev ZCA:List Str:=["pages","ask","what","place","sense","number","part","found","when","cubes","nearest"]
noncomputable abbrev ZD5:List Str:=ZCA.take 2
theorem Kp:FnScope ZCA ZD5 (Ar Zh):=⟨rfl,rfl,rfl,by decide +kernel,rfl,by decide +kernel,by decide +kernel⟩
noncomputable abbrev ZFM:List Str:=["house","ask","what","place","sense","number"]
noncomputable abbrev ZB6:List Str:=ZFM.take 2
theorem Ug:FnScope ZFM ZB6 (Ar ZD9):=⟨rfl,rfl,rfl,by decide +kernel,rfl,by decide +kernel,by decide +kernel⟩
noncomputable abbrev ZDw:List Str:=["numbers","others"]
noncomputable abbrev ZAk:List Str:=ZDw.take 2
theorem ZNT:FnScope ZDw ZAk (Ar Yu):=⟨rfl,rfl,rfl,by decide +kernel,rfl,by decide +kernel,by decide +kernel⟩
noncomputable abbrev ZBd:List Str:=["floods","others"]
noncomputable abbrev ZBx:List Str:=ZBd.take 2
theorem ZLT:FnScope ZBd ZBx (Ar Vk):=⟨rfl,rfl,rfl,by decide +kernel,rfl,by decide +kernel,by decide +kernel⟩
noncomputable abbrev ZH1:List Str:=["state","other","levels","coming","other_levels","other_coming"]
noncomputable abbrev ZCg:List Str:=ZH1.take 2
theorem Tc:FnScope ZH1 ZCg (Ar ZDf):=⟨rfl,rfl,rfl,by decide +kernel,rfl,by decide +kernel,by decide +kernel⟩
noncomputable abbrev ZEi:List Str:=["low","high","lows","highs"]
noncomputable abbrev ZD1:List Str:=ZEi.take 4
theorem ZLW:FnScope ZEi ZD1 (Ar ZDA):=⟨rfl,rfl,rfl,by decide +kernel,rfl,by decide +kernel,by decide +kernel⟩
noncomputable abbrev ZKR:List Str:=["low","high","lows","highs","ask","what","place","sense","number"]
noncomputable abbrev ZBa:List Str:=ZKR.take 5
theorem Ud:FnScope ZKR ZBa (Ar ZAv):=⟨rfl,rfl,rfl,by decide +kernel,rfl,by decide +kernel,by decide +kernel⟩
noncomputable abbrev Wl:List Str:=["self","house","state","at","flood","levels","coming"]
noncomputable abbrev ZCv:List Str:=Wl.take 5
theorem ZC3:FnScope Wl ZCv (Ar T7):=⟨rfl,rfl,rfl,by decide +kernel,rfl,by decide +kernel,by decide +kernel⟩
noncomputable abbrev ZFK:List Str:=["self","to","delay","cubes"]
noncomputable abbrev ZDT:List Str:=ZFK.take 4
theorem ZQo:FnScope ZFK ZDT (Ar ZBR):=⟨rfl,rfl,rfl,by decide +kernel,rfl,by decide +kernel,by decide +kernel⟩
noncomputable abbrev ZJl:List Str:=["house","name","number","place"]
noncomputable abbrev ZBq:List Str:=ZJl.take 2
theorem ZCy:FnScope ZJl ZBq (Ar ZC9):=⟨rfl,rfl,rfl,by decide +kernel,rfl,by decide +kernel,by decide +kernel⟩
noncomputable abbrev ZGJ:List Str:=["house","place","name"]
noncomputable abbrev ZBG:List Str:=ZGJ.take 2
theorem ZI9:FnScope ZGJ ZBG (Ar ZED):=⟨rfl,rfl,rfl,by decide +kernel,rfl,by decide +kernel,by decide +kernel⟩
noncomputable abbrev ZJQ:List Str:=["self","number","cubes","down"]
noncomputable abbrev ZCJ:List Str:=ZJQ.take 3
theorem ZIK:FnScope ZJQ ZCJ (Ar ZDK):=⟨rfl,rfl,rfl,by decide +kernel,rfl,by decide +kernel,by decide +kernel⟩
noncomputable abbrev ZFx:List Str:=["stairs","water","river","pump","height","many","way","cubes"]
noncomputable abbrev ZEM:List Str:=ZFx.take 2
theorem Lk:FnScope ZFx ZEM (Ar ZB9):=⟨rfl,rfl,rfl,by decide +kernel,rfl,by decide +kernel,by decide +kernel⟩
noncomputable abbrev ZF2:List Str:=["rule","turn","held","first","stairs"]
noncomputable abbrev ZCO:List Str:=ZF2.take 2
theorem U8:FnScope ZF2 ZCO (Ar ZBK):=⟨rfl,rfl,rfl,by decide +kernel,rfl,by decide +kernel,by decide +kernel⟩
noncomputable abbrev ZF1:List Str:=["self","number","place","came","let","pumped","stays","lies","spilled"]
noncomputable abbrev ZBC:List Str:=ZF1.take 2
theorem M6:FnScope ZF1 ZBC (Ar ZCE):=⟨rfl,rfl,rfl,by decide +kernel,rfl,by decide +kernel,by decide +kernel⟩
noncomputable abbrev ZDj:List Str:=["rows","takes","passing","row","number"]
noncomputable abbrev ZB7:List Str:=ZDj.take 2
theorem Vn:FnScope ZDj ZB7 (Ar Wj):=⟨rfl,rfl,rfl,by decide +kernel,rfl,by decide +kernel,by decide +kernel⟩
noncomputable abbrev ZJh:List Str:=["house","number","places","down"]
noncomputable abbrev ZD3:List Str:=ZJh.take 2
theorem ZEF:FnScope ZJh ZD3 (Ar ZBL):=⟨rfl,rfl,rfl,by decide +kernel,rfl,by decide +kernel,by decide +kernel⟩
noncomputable abbrev ZHu:List Str:=["house","members","came","rows","number","place","down","row_down"]
noncomputable abbrev ZBW:List Str:=ZHu.take 3
theorem Qu:FnScope ZHu ZBW (Ar ZCr):=⟨rfl,rfl,rfl,by decide +kernel,rfl,by decide +kernel,by decide +kernel⟩
noncomputable abbrev Vz:List Str:=["rows","order"]
noncomputable abbrev ZAe:List Str:=Vz.take 1
theorem ZGy:FnScope Vz ZAe (Ar Ry):=⟨rfl,rfl,rfl,by decide +kernel,rfl,by decide +kernel,by decide +kernel⟩
noncomputable abbrev ZEl:List Str:=["rows","number","way","down"]
noncomputable abbrev ZBp:List Str:=ZEl.take 2
theorem Zo:FnScope ZEl ZBp (Ar ZC0):=⟨rfl,rfl,rfl,by decide +kernel,rfl,by decide +kernel,by decide +kernel⟩
noncomputable abbrev ZDn:List Str:=["rows","takes","passing","number","way","take","below"]
noncomputable abbrev ZDx:List Str:=ZDn.take 1
theorem Ol:FnScope ZDn ZDx (Ar Yy):=⟨rfl,rfl,rfl,by decide +kernel,rfl,by decide +kernel,by decide +kernel⟩
noncomputable abbrev ZIq:List Str:=["self","members","rows","takes","number","took","let"]
noncomputable abbrev ZBr:List Str:=ZIq.take 2
theorem Pn:FnScope ZIq ZBr (Ar ZDV):=⟨rfl,rfl,rfl,by decide +kernel,rfl,by decide +kernel,by decide +kernel⟩
noncomputable abbrev ZFy:List Str:=["house","lasts","number","down"]
noncomputable abbrev ZBJ:List Str:=ZFy.take 1
theorem Vv:FnScope ZFy ZBJ (Ar ZCR):=⟨rfl,rfl,rfl,by decide +kernel,rfl,by decide +kernel,by decide +kernel⟩
noncomputable abbrev ZBj:List Str:=["self","lasts","number","last"]
noncomputable abbrev ZD4:List Str:=ZBj.take 1
theorem Yq:FnScope ZBj ZD4 (Ar ZAZ):=⟨rfl,rfl,rfl,by decide +kernel,rfl,by decide +kernel,by decide +kernel⟩
noncomputable abbrev Wg:List Str:=["self"]
noncomputable abbrev ZDp:List Str:=Wg.take 1
theorem ZPC:FnScope Wg ZDp (Ar Su):=⟨rfl,rfl,rfl,by decide +kernel,rfl,by decide +kernel,by decide +kernel⟩
noncomputable abbrev ZHC:List Str:=["house","state","at","flood","course"]
noncomputable abbrev ZB4:List Str:=ZHC.take 4
theorem ZIx:FnScope ZHC ZB4 (Ar ZEG):=⟨rfl,rfl,rfl,by decide +kernel,rfl,by decide +kernel,by decide +kernel⟩
noncomputable abbrev ZIN:List Str:=["house","state","at","floods","pages","number","flood","page"]
noncomputable abbrev ZDi:List Str:=ZIN.take 4
theorem Qg:FnScope ZIN ZDi (Ar ZBM):=⟨rfl,rfl,rfl,by decide +kernel,rfl,by decide +kernel,by decide +kernel⟩
noncomputable abbrev ZFd:List Str:=["house","low","high","at","lows","highs","ask","state","floods","pages","behind"]
noncomputable abbrev ZDa:List Str:=ZFd.take 7
theorem Tu:FnScope ZFd ZDa (Ar ZEB):=⟨rfl,rfl,rfl,by decide +kernel,rfl,by decide +kernel,by decide +kernel⟩
noncomputable abbrev ZD0:List Str:=["_law_script","_law_house_here","_law_at","_law_low","_law_lows","_law_high","_law_highs","_law_ask_here","_law_handed","_law_found","_law_pages","_law_numbers"]
noncomputable abbrev ZDG:List Str:=ZD0.take 1
theorem J0:FnScope ZD0 ZDG (Ar J6):=⟨rfl,rfl,rfl,by decide +kernel,rfl,by decide +kernel,by decide +kernel⟩
def ZEz:DS:=(sRt (dOp Ay (dOp Bl (dV 1) (dOp Bq (dV 0) (dC (.int 7)))) (dOp Bq (dOp Di (dV 0) (dC (.int 7))) (dV 1))))
def Km:List D->DH->R D:=Bv 2 0 ZEz
def Ti:DS:=(sAs (dOp Di (dV 0) (dOp K6 (dC (.int 10)) (dC (.int 8)))) (gV 0))
def ZD2:DS:=(Ah (sIf (Aw (Qx Nu Hn (dC (.int 0)) (dV 0) (dOp K6 (dC (.int 10)) (dC (.int 18))))) (Ah (sAs (dOp Bq (dOp Ay (dOp Ay (dV 0) (dOp Bl (dC (.int 1009)) (dV 1))) (dC (.int 7))) (dC (.int 999999937))) (gV 0)) (Ah (sAs (dOp Bq (dOp Bl (dV 0) (dV 0)) (dC (.int 999999929))) (gV 0)) (sRt (dOp Bq (dOp Bl (dV 0) (dOp Ay (dV 0) (dV 1))) (dC (.int 99999989)))))) sNx) (Ah (Du (Cy rng1 (Ab (dV 1) Ad)) (gV 2) Ti) (sRt (dOp Bq (dV 0) (dOp K6 (dC (.int 10)) (dC (.int 8)))))))
def U0:List D->DH->R D:=Bv 2 1 ZD2
def ZCf:DS:=(sRt (Oi (dOp Iv (dFn Cz (Ab (dV 0) Ad)) (dC (.int 0))) (ZCM (dOp Hn (dOp Aj (dV 0) (dC (.int 0))) (dC (.int 0))) (dOp ZBP (dOp Aj (dV 0) (dC (.int 0))) (dOp K6 (dC (.int 10)) (dC (.int 18)))))))
def Nj:List D->DH->R D:=Bv 1 0 ZCf
def Qk:DS:=(Ah (sIf (Aw (dFn Nj (Ab (dV 0) Ad))) (Ah (sAs (dC (.int 0)) (gV 2)) (Ah (sIf (Aw (dOp Hn (dOp Ay (dC (.int 1)) (dOp Di (dV 1) (dC (.int 14)))) (dFn Cz (Ab (dV 0) Ad)))) (sAs (dOp Aj (dV 0) (dOp Ay (dC (.int 1)) (dOp Di (dV 1) (dC (.int 14))))) (gV 2)) sNx) (sRt (dFn U0 (Ab (dV 2) (Ab (dOp Bq (dV 1) (dC (.int 14))) Ad)))))) sNx) (Ah (sIf (Aw (dOp Hn (dV 1) (dFn Cz (Ab (dV 0) Ad)))) (sRt (dOp Aj (dV 0) (dV 1))) sNx) (Ah (sAs (dOp Bq (dOp Bl (dC (.int 48271)) (dOp Ay (dOp Bl (dV 1) (dV 1)) (dOp Bl (dC (.int 7)) (dFn Cz (Ab (dV 0) Ad))))) (dC (.int 2147483647))) (gV 2)) (Ah (sIf (Aw (dOp Iv (dFn Cz (Ab (dV 0) Ad)) (dC (.int 0)))) (sAs (dOp Ay (dV 2) (dOp Bq (dOp Bl (dOp Aj (dV 0) (dOp Bq (dV 1) (dFn Cz (Ab (dV 0) Ad)))) (dC (.int 69621))) (dC (.int 2147483629)))) (gV 2)) sNx) (sRt (dV 2))))))
def Az:List D->DH->R D:=Bv 2 1 Qk
def Wq:DS:=(sRt (dOp Aj (Bt (dFn Av (Ab (dC (.int 1)) (Ab (dC (.int 1)) (Ab (dOp K6 (dC (.int 10)) (dC (.int 30))) Ad))))) (dOp Bq (dOp Di (dFn Az (Ab (dV 0) (Ab (dC (.int 0)) Ad))) (dC (.int 840))) (dC (.int 3)))))
def Fj:List D->DH->R D:=Bv 1 0 Wq
def ZDb:DE:=(dOp Ay (dV 0) (dOp Bl (dV 1) (dOp Bq (dOp Di (dV 2) (dC (.int 2))) (dC (.int 2)))))
def ZEn:DS:=(sEx (Fl Fq (dV 8) (Ab (dFn Fy (Ab (Bt (Ej (Fv (dOp Aj (dOp Aj (dV 2) (dC (.int 1))) (dV 9))) 1 [4,10] (gV 0) Cd ZDb)) Ad)) Ad)))
def Xg:DS:=(Ah (sEx (Fl Fq (dV 7) (Ab (dV 11) Ad))) ZEn)
def Sy:DS:=(Ah (sIf (Aw (dOp Cv (dOp Aj (dOp Aj (dOp Aj (dV 1) (dC (.int 1))) (dV 9)) (dC (.int 0))) (dC (.str "basin")))) (Ah (sAs (dOp Ay (dOp Ge (dOp Aj (dOp Aj (dOp Aj (dV 1) (dC (.int 1))) (dV 9)) (dC (.int 4))) (dV 11)) (dC (.int 1))) (gV 12)) (sAs (dOp Ay (dV 11) (dOp Bl (dOp Bq (dFn Km (Ab (dOp Di (dV 10) (dC (.int 2))) (Ab (dV 4) Ad))) (dV 12)) (dOp Bq (dV 10) (dC (.int 2))))) (gV 11))) sNx) Xg)
def ZHQ:DS:=(Ah (sAs (dOp Aj (dOp Aj (dV 2) (dC (.int 0))) (dV 9)) (gV 11)) Sy)
def Te:DS:=(Ah (sAs (dFn Az (Ab (dV 0) (Ab (dOp Ay (dV 6) (dV 9)) Ad))) (gV 10)) ZHQ)
def ZDY:DE:=(dFn Az (Ab (dV 1) (Ab (dOp Ay (dOp Ay (dOp Ay (dV 3) (dV 2)) (dOp Bl (dV 4) (dV 2))) (dV 0)) Ad)))
def ZCC:DE:=(dOp Bl (dFn Km (Ab (dOp Di (dV 0) (dC (.int 2))) (Ab (dV 1) Ad))) (dOp Bq (dV 0) (dC (.int 2))))
def ZDU:DE:=(dOp Ay (dOp Aj (dOp Aj (dV 1) (dV 2)) (dV 0)) (dOp Aj (dV 3) (dV 0)))
def ZKH:DS:=(sEx (Fl Fq (dV 13) (Ab (dFn Fy (Ab (Bt (Ej (Cy rng1 (Ab (dV 5) Ad)) 1 [3,14,16] (gV 0) Cd ZDU)) Ad)) Ad)))
def ZIM:DS:=(Ah (sAs (Bt (Ej (Fv (dV 15)) 1 [4] (gV 0) Cd ZCC)) (gV 16)) ZKH)
def Us:DS:=(Ah (sAs (Bt (Ej (Cy rng1 (Ab (dV 5) Ad)) 1 [0,5,6,14] (gV 0) Cd ZDY)) (gV 15)) ZIM)
def ZGB:DS:=(Ah (sAs (Bt (dFn Fj (Ab (dV 0) Ad))) (gV 4)) (Ah (sAs (dFn Cz (Ab (dOp Aj (dV 1) (dC (.int 1))) Ad)) (gV 5)) (Ah (sAs (dOp Ay (dC (.int 6)) (dOp Bl (dC (.int 24)) (dV 5))) (gV 6)) (Ah (sAs (Ff (dFn Av Ad)) (gV 7)) (Ah (sAs (Ff (dFn Av Ad)) (gV 8)) (Ah (Du (Cy rng1 (Ab (dV 5) Ad)) (gV 9) Te) (Ah (sAs (Ff (dFn Av Ad)) (gV 13)) (Ah (Du (Cy rng1 (Ab (dFn Cz (Ab (dV 3) Ad)) Ad)) (gV 14) Us) (sRt (dFn Bb (Ab (dFn Bb (Ab (dFn Fy (Ab (dV 7) Ad)) (Ab (dFn Fy (Ab (dV 8) Ad)) Ad))) (Ab (dV 13) Ad))))))))))))
def Py:List D->DH->R D:=Bv 4 13 ZGB
def Sq:DS:=(sIf (Aw (dOp Hh (dV 6) (dC (.str "mill")))) (Ah (sAs (dFn Az (Ab (dV 0) (Ab (dOp Ay (dV 3) (dC (.int 2))) Ad))) (gV 8)) (Ah (sAs (dOp Ge (dFn Km (Ab (dOp Di (dV 8) (dC (.int 4))) (Ab (Bt (dFn Fj (Ab (dV 0) Ad))) Ad))) (dOp Bq (dOp Di (dV 8) (dC (.int 2))) (dC (.int 2)))) (gV 9)) (sRt (dFn Bb (Ab (dV 7) (Ab (dV 5) (Ab (dOp Aj (Bt (dFn Av (Ab (dC (.str "least")) (Ab (dC (.str "most")) Ad)))) (dOp Bq (dV 8) (dC (.int 2)))) (Ab (dV 9) Ad)))))))) sNx)
def Pa:DS:=(Ah (sIf (Aw (dOp Cv (dV 6) (dC (.str "basin")))) (sAs (dOp Aj (Bt (dFn Av (Ab (dC (.str "lies")) (Ab (dC (.str "spilled")) (Ab (dC (.str "let")) (Ab (dC (.str "pumped")) Ad)))))) (dOp Bq (dFn Az (Ab (dV 0) (Ab (dOp Ay (dV 3) (dC (.int 1))) Ad))) (dC (.int 4)))) (gV 7)) sNx) Sq)
def ZFS:DS:=(Ah (sAs (dC (.str "took")) (gV 7)) Pa)
def ZJr:DS:=(Ah (sAs (dOp Aj (dOp Aj (dOp Aj (dV 1) (dC (.int 1))) (dV 5)) (dC (.int 0))) (gV 6)) ZFS)
def Qf:DS:=(Ah (sAs (dOp Bq (dOp Ay (dFn Az (Ab (dV 0) (Ab (dV 3) Ad))) (dV 4)) (dV 2)) (gV 5)) ZJr)
def ZI8:DS:=(Ah (sAs (dFn Cz (Ab (dOp Aj (dV 1) (dC (.int 1))) Ad)) (gV 2)) (Ah (sAs (dOp Ay (dC (.int 6)) (dOp Bl (dC (.int 20)) (dV 2))) (gV 3)) (Ah (Du (Cy rng1 (Ab (dV 2) Ad)) (gV 4) Qf) (sRt (dC .non)))))
def Tn:List D->DH->R D:=Bv 2 8 ZI8
def ZG4:DS:=(sRt (dOp Mr (Uk [("took",(.int 1)),("spilled",(.int 2)),("let",(.int 3)),("pumped",(.int 4)),("lies",(.int 5))]) (dV 0)))
def Z0:List D->DH->R D:=Bv 1 0 ZG4
def Vt:DS:=(sIf (Aw (dV 4)) (sAs (dFn Bb (Ab (dC (.str "kept")) (Ab (dV 3) (Ab (dOp Aj (dV 0) (dV 3)) Ad)))) (gV 2)) sNx)
def ZI4:DS:=(Ah (sIf (Jv (Jc (Aw (dV 4))) (Aw (dOp Cv (dOp Aj (dV 1) (dC (.int 2))) (dC (.str "least"))))) (sAs (dOp Hn (dOp Aj (dV 0) (dV 3)) (dOp Aj (dV 2) (dC (.int 2)))) (gV 4)) (sIf (Jc (Aw (dV 4))) (sAs (dOp Iv (dOp Aj (dV 0) (dV 3)) (dOp Aj (dV 2) (dC (.int 2)))) (gV 4)) sNx)) Vt)
def X3:DS:=(Ah (sAs (dOp Oz (dOp Aj (dV 2) (dC (.int 1))) (dC .non)) (gV 4)) ZI4)
def Ri:DS:=(Ah (sIf (dOr (Jv (Aw (dOp Cv (dOp Aj (dV 1) (dC (.int 2))) (dC (.str "least")))) (Aw (dOp Hn (dOp Aj (dV 0) (dV 3)) (dOp Aj (dV 1) (dC (.int 3)))))) (Jv (Aw (dOp Cv (dOp Aj (dV 1) (dC (.int 2))) (dC (.str "most")))) (Aw (dOp Iv (dOp Aj (dV 0) (dV 3)) (dOp Aj (dV 1) (dC (.int 3))))))) (sRt (dFn Bb (Ab (dC (.str "broken")) (Ab (dV 3) (Ab (dOp Aj (dV 0) (dV 3)) Ad))))) sNx) X3)
def ZGz:DS:=(Ah (sAs (dFn Bb (Ab (dC (.str "kept")) (Ab (dC .non) (Ab (dC .non) Ad)))) (gV 2)) (Ah (Du (Cy rng1 (Ab (dFn Cz (Ab (dV 0) Ad)) Ad)) (gV 3) Ri) (sRt (dV 2))))
def Z2:List D->DH->R D:=Bv 2 3 ZGz
def ZBo:DE:=(dFn Az (Ab (dV 1) (Ab (dOp Ay (dOp Ay (dV 3) (dOp Bl (dV 4) (dV 2))) (dV 0)) Ad)))
def ZBF:DE:=(dFn Km (Ab (dV 0) (Ab (Bt (dFn Fj (Ab (dV 1) Ad))) Ad)))
def Ux:DS:=(Ah (sAs (Bt (Ej (Cy rng1 (Ab (dV 3) Ad)) 1 [0,3,4,6] (gV 0) Cd ZBo)) (gV 7)) (sEx (Fl Fq (dV 5) (Ab (dFn Fy (Ab (Bt (Ej (Fv (dV 7)) 1 [0] (gV 0) Cd ZBF)) Ad)) Ad))))
def ZIs:DS:=(Ah (sAs (dFn Cz (Ab (dOp Aj (dV 1) (dC (.int 1))) Ad)) (gV 3)) (Ah (sAs (dOp Ay (dC (.int 6)) (dOp Bl (dC (.int 14)) (dV 3))) (gV 4)) (Ah (sAs (Ff (dFn Av Ad)) (gV 5)) (Ah (Du (Cy rng1 (Ab (dV 2) Ad)) (gV 6) Ux) (sRt (dV 5))))))
def V4:List D->DH->R D:=Bv 3 5 ZIs
def Vd:DS:=(sIf (Aw (dOp Cv (dV 4) (dC (.str "pump")))) (sAs (dOp Ay (dV 1) (dV 3)) (gV 1)) sNx)
def ZGC:DS:=(Ah (sAs (dC (.int 0)) (gV 1)) (Ah (Du (Fv (dV 0)) (Bg 3 (Am (gV 2) (Am (gV 3) (Am (gV 4) Bk)))) Vd) (sRt (dV 1))))
def Zi:List D->DH->R D:=Bv 1 4 ZGC
def Td:DS:=(Ah (sAs (dOp Ay (dV 4) (dOp Bl (dV 1) (dOp Bq (dOp Aj (dV 0) (dOp Ay (dC (.int 1)) (dV 5))) (dC (.int 4))))) (gV 4)) (Ah (sAs (dOp Ay (dC (.int 1)) (dOp Bl (dV 1) (dOp Bq (dOp Di (dOp Aj (dV 0) (dOp Ay (dC (.int 1)) (dV 5))) (dC (.int 4))) (dC (.int 4))))) (gV 6)) (Ah (sAs (dC (.str "river")) (gV 7)) (Ah (sIf (Jv (Aw (dV 2)) (Aw (dOp Cv (dOp Bq (dOp Di (dOp Aj (dV 0) (dOp Ay (dC (.int 1)) (dV 5))) (dC (.int 16))) (dC (.int 2))) (dC (.int 1))))) (sAs (dC (.str "pump")) (gV 7)) sNx) (Ah (sEx (Fl Fq (dV 3) (Ab (dFn Bb (Ab (dV 4) (Ab (dV 6) (Ab (dV 7) Ad)))) Ad))) (sAs (dOp Ay (dV 4) (dV 6)) (gV 4)))))))
def ZG1:DS:=(Ah (sAs (Ff (dFn Av Ad)) (gV 3)) (Ah (sAs (dC (.int 0)) (gV 4)) (Ah (Du (Cy rng1 (Ab (dOp Bq (dOp Aj (dV 0) (dC (.int 0))) (dC (.int 4))) Ad)) (gV 5) Td) (sRt (dFn Fy (Ab (dV 3) Ad))))))
def Xk:List D->DH->R D:=Bv 3 5 ZG1
def ZFG:DS:=(sRt (dOp Ay (dC (.int 1)) (dOp Bq (dFn Az (Ab (dV 0) (Ab (dC (.int 1)) Ad))) (dC (.int 4)))))
def Kr:List D->DH->R D:=Bv 1 0 ZFG
def ZDg:DE:=(dOp Di (dFn Az (Ab (dV 1) (Ab (dOp Ay (dOp Ay (dV 2) (dC (.int 5))) (dOp Bq (dOp Ay (dOp Bl (dC (.int 3)) (dV 3)) (dV 0)) (dC (.int 6)))) Ad))) (dOp Ay (dC (.int 1)) (dOp Bl (dC (.int 7)) (dOp Di (dV 3) (dC (.int 2))))))
def ZER:DE:=(dOp Di (dFn Az (Ab (dV 1) (Ab (dOp Ay (dOp Ay (dV 2) (dC (.int 5))) (dV 0)) Ad))) (dOp Aj (Bt (dFn Av (Ab (dC (.int 1)) (Ab (dC (.int 64)) (Ab (dC (.int 4096)) (Ab (dC (.int 262144)) Ad)))))) (dV 3)))
def Ys:DS:=(sIf (dOr (Aw (dOp Cv (dV 7) (dC (.int 0)))) (Jv (Aw (dOp Cv (dOp Bq (dV 8) (dC (.int 2))) (dC (.int 1)))) (Aw (dOp Hn (dOp Ay (dV 6) (dC (.int 1))) (dV 4))))) (Ah (sIf (Aw (dOp Iv (dV 7) (dC (.int 0)))) (sAs (dOp Ay (dOp Ay (dV 6) (dC (.int 1))) (dOp Bq (dOp Di (dV 8) (dC (.int 2))) (dOp Ge (dOp Ge (dV 4) (dV 6)) (dC (.int 1))))) (gV 6)) sNx) (sEx (Fl Fq (dV 5) (Ab (dFn Bb (Ab (dV 6) (Ab (dFn Xk (Ab (dV 9) (Ab (dV 2) (Ab (dV 3) Ad)))) Ad))) Ad)))) sNx)
def ZIJ:DS:=(Ah (sIf (Aw (dFn Nj (Ab (dV 0) Ad))) (Ah (sAs (dOp Di (dFn Az (Ab (dV 0) (Ab (dOp Ay (dV 1) (dC (.int 4))) Ad))) (dOp Aj (Bt (dFn Av (Ab (dC (.int 1)) (Ab (dC (.int 48)) (Ab (dC (.int 2304)) (Ab (dC (.int 110592)) Ad)))))) (dV 7))) (gV 8)) (sAs (Bt (Ej (Cy rng1 (Ab (dC (.int 4)) Ad)) 1 [0,1,7] (gV 0) Cd ZER)) (gV 9))) sNx) Ys)
def ZKC:DS:=(Ah (sAs (Bt (Ej (Cy rng1 (Ab (dC (.int 4)) Ad)) 1 [0,1,7] (gV 0) Cd ZDg)) (gV 9)) ZIJ)
def Lx:DS:=(Ah (sAs (dOp Bq (dOp Bl (dOp Bl (dFn Az (Ab (dV 0) (Ab (dOp Ay (dV 1) (dC (.int 4))) Ad))) (dC (.int 48271))) (dOp Ay (dOp Bl (dV 7) (dV 7)) (dC (.int 1)))) (dC (.int 10007))) (gV 8)) ZKC)
def ZKW:DS:=(Ah (sAs (dFn Kr (Ab (dV 0) Ad)) (gV 4)) (Ah (sAs (Ff (dFn Av Ad)) (gV 5)) (Ah (sAs (dC (.int 0)) (gV 6)) (Ah (Du (Cy rng1 (Ab (dC (.int 4)) Ad)) (gV 7) Lx) (sRt (dFn Fy (Ab (dV 5) Ad)))))))
def Xm:List D->DH->R D:=Bv 4 6 ZKW
def ZCY:DE:=(dFn Zi (Ab (dOp Aj (dV 0) (dC (.int 1))) Ad))
def ZJO:DS:=(sRt (dFn Bb (Ab (dC (.str "basin")) (Ab (dOp Aj (dV 3) (dV 2)) (Ab (dOp Aj (dV 4) (dC (.int 0))) (Ab (dOp Aj (dV 4) (dC (.int 1))) (Ab (dV 12) (Ab (dV 8) (Ab (dV 9) Ad)))))))))
def Mw:DS:=(Ah (sAs (dFn Km (Ab (dFn Az (Ab (dV 0) (Ab (dOp Ay (dV 1) (dC (.int 3))) Ad))) (Ab (dV 5) Ad))) (gV 12)) ZJO)
def ZCp:DS:=(Ah (sIf (Aw (dV 7)) (Ah (sAs (dOp Ay (dFn Jy (Ab (Bt (Ej (Fv (dV 8)) 1 [] (gV 0) Cd ZCY)) Ad)) (dOp Bl (dV 5) (dOp Bq (dOp Di (dV 6) (dC (.int 130))) (dC (.int 2))))) (gV 10)) (Ah (sAs (dOp Aj (dV 3) (dOp Bq (dOp Ay (dOp Ay (dV 2) (dC (.int 1))) (dOp Bq (dOp Di (dV 6) (dC (.int 2))) (dOp Ge (dFn Cz (Ab (dV 3) Ad)) (dC (.int 1))))) (dFn Cz (Ab (dV 3) Ad)))) (gV 11)) (sAs (dFn Bb (Ab (dV 11) (Ab (dOp Ay (dC (.int 1)) (dOp Bq (dOp Di (dV 6) (dC (.int 26))) (dC (.int 5)))) (Ab (dV 10) Ad)))) (gV 9)))) sNx) Mw)
def ZDQ:DS:=(Ah (sAs (dC .non) (gV 9)) ZCp)
def Ny:DS:=(Ah (sAs (dFn Xm (Ab (dV 0) (Ab (dV 1) (Ab (dV 5) (Ab (dV 7) Ad))))) (gV 8)) ZDQ)
def ZHZ:DS:=(Ah (sAs (Oi (dOp Iv (dFn Cz (Ab (dV 3) Ad)) (dC (.int 1))) (dOp Cv (dOp Bq (dV 6) (dC (.int 2))) (dC (.int 1)))) (gV 7)) Ny)
def ZHD:DS:=(Ah (sAs (dFn Az (Ab (dV 0) (Ab (dOp Ay (dV 1) (dC (.int 11))) Ad))) (gV 6)) ZHZ)
def ZDv:DS:=(Ah (sAs (Bt (dFn Fj (Ab (dV 0) Ad))) (gV 5)) ZHD)
def Um:List D->DH->R D:=Bv 5 8 ZDv
def ZEs:DS:=(Ah (sAs (dOp Aj (dC (.str "abcdefghijklmnopqrstuvwxyz")) (dOp Bq (dOp Di (dV 0) (dC (.int 21))) (dC (.int 26)))) (gV 3)) (Ah (sIf (Jv (Aw (dOp Cv (dOp Bq (dV 0) (dC (.int 3))) (dC (.int 1)))) (Aw (dOp Hn (dV 2) (dC (.int 9))))) (sRt (dOp Bl (dV 3) (dOp Ay (dV 1) (dC (.int 1))))) sNx) (Ah (sAs (dOp Aj (dC (.str "abcdefghijkl")) (dOp Bq (dOp Ay (dOp Bl (dC (.int 5)) (dV 1)) (dOp Di (dV 0) (dC (.int 546)))) (dC (.int 12)))) (gV 4)) (Ah (sIf (Aw (dOp Cv (dOp Bq (dV 0) (dC (.int 3))) (dC (.int 2)))) (sRt (dOp Ay (dV 4) (dOp Bl (dV 3) (dOp Bq (dOp Di (dV 0) (dC (.int 3))) (dC (.int 7)))))) sNx) (sRt (dOp Ay (dOp Ay (dOp Bl (dV 3) (dOp Bq (dOp Di (dV 0) (dC (.int 3))) (dC (.int 7)))) (dV 4)) (dOp Bl (dV 3) (dOp Ge (dC (.int 6)) (dOp Bq (dOp Di (dV 0) (dC (.int 3))) (dC (.int 7)))))))))))
def Xr:List D->DH->R D:=Bv 3 2 ZEs
def ZDM:DE:=(dFn Xr (Ab (dFn Az (Ab (dV 1) (Ab (dC (.int 5)) Ad))) (Ab (dV 0) (Ab (dV 2) Ad))))
def Pg:DS:=(sIf (Aw (dOp Hn (dV 10) (dC (.int 2)))) (sEx (Fl Fq (dV 5) (Ab (Bt (dFn Um (Ab (dV 0) (Ab (dV 6) (Ab (dV 4) (Ab (dV 3) (Ab (dV 9) Ad))))))) Ad))) (sIf (Aw (dOp Hn (dV 10) (dC (.int 4)))) (sEx (Fl Fq (dV 5) (Ab (dFn Bb (Ab (dC (.str "town")) (Ab (dOp Aj (dV 3) (dV 4)) (Ab (dOp Aj (dV 9) (dC (.int 0))) (Ab (dOp Aj (dV 9) (dC (.int 1))) (Ab (dV 11) (Ab (dV 12) Ad))))))) Ad))) (sEx (Fl Fq (dV 5) (Ab (dFn Bb (Ab (dC (.str "mill")) (Ab (dOp Aj (dV 3) (dV 4)) (Ab (dOp Aj (dV 9) (dC (.int 0))) (Ab (dOp Aj (dV 9) (dC (.int 1))) (Ab (dV 11) Ad)))))) Ad)))))
def ZBg:DS:=(Ah (sAs (dOp Bq (dFn Az (Ab (dV 0) (Ab (dOp Ay (dV 6) (dC (.int 4))) Ad))) (dOp Aj (Bt (dFn Av (Ab (dC (.int 4)) (Ab (dOp K6 (dC (.int 10)) (dC (.int 40))) Ad)))) (dOp Bq (dOp Di (dV 1) (dC (.int 840))) (dC (.int 2))))) (gV 12)) Pg)
def ZB8:DS:=(Ah (sAs (dFn Km (Ab (dFn Az (Ab (dV 0) (Ab (dOp Ay (dV 6) (dC (.int 3))) Ad))) (Ab (Bt (dFn Fj (Ab (dV 0) Ad))) Ad))) (gV 11)) ZBg)
def Uz:DS:=(Ah (sAs (dOp Bq (dFn Az (Ab (dV 0) (Ab (dV 6) Ad))) (dC (.int 5))) (gV 10)) ZB8)
def ZAg:DS:=(Ah (sIf (Aw (dOp Iv (dV 7) (dC (.int 0)))) (sAs (dFn Bb (Ab (dOp Aj (dV 3) (dOp Ay (dV 4) (dV 7))) (Ab (dOp Aj (dV 9) (dC (.int 1))) Ad))) (gV 9)) sNx) Uz)
def ZDB:DS:=(Ah (sAs (dFn Bb (Ab (dC (.str "sea")) (Ab (dOp Bl (dOp Bq (dV 8) (dC (.int 2))) (dOp Bq (dOp Di (dV 8) (dC (.int 2))) (dC (.int 6)))) Ad))) (gV 9)) ZAg)
def U4:DS:=(Ah (sAs (dFn Az (Ab (dV 0) (Ab (dOp Ay (dV 6) (dC (.int 2))) Ad))) (gV 8)) ZDB)
def ZBn:DS:=(Ah (sIf (Aw (dOp Cv (dOp Bq (dOp Di (dV 1) (dC (.int 280))) (dC (.int 3))) (dC (.int 1)))) (sAs (dFn Nk (Ab (dC (.int 1)) (Ab (dOp Ge (dOp Ge (dV 2) (dC (.int 1))) (dV 4)) Ad))) (gV 7)) sNx) U4)
def X6:DS:=(Ah (sAs (dOp Bq (dFn Az (Ab (dV 0) (Ab (dOp Ay (dV 6) (dC (.int 1))) Ad))) (dOp Ge (dV 2) (dV 4))) (gV 7)) ZBn)
def Ml:DS:=(Ah (sAs (dOp Ay (dC (.int 6)) (dOp Bl (dC (.int 12)) (dV 4))) (gV 6)) X6)
def ZKn:DS:=(Ah (sAs (dFn Az (Ab (dV 0) (Ab (dC (.int 0)) Ad))) (gV 1)) (Ah (sAs (dOp Ay (dC (.int 1)) (dOp Bq (dV 1) (dC (.int 4)))) (gV 2)) (Ah (sAs (Bt (Ej (Cy rng1 (Ab (dV 2) Ad)) 1 [0,2] (gV 0) Cd ZDM)) (gV 3)) (Ah (sAs (Ff (dFn Av Ad)) (gV 5)) (Ah (Du (Cy rng1 (Ab (dV 2) Ad)) (gV 4) Ml) (sRt (dFn Bb (Ab (dFn Kr (Ab (dV 0) Ad)) (Ab (dFn Fy (Ab (dV 5) Ad)) Ad)))))))))
def Ub:List D->DH->R D:=Bv 1 12 ZKn
def ZA3:DS:=(Ah (sAs (dFn Az (Ab (dV 0) (Ab (dC (.int 3)) Ad))) (gV 1)) (sRt (dOp Bq (dOp Di (dV 1) (dC (.int 2))) (dOp Aj (Bt (dFn Av (Ab (dC (.int 50)) (Ab (dOp K6 (dC (.int 10)) (dC (.int 39))) Ad)))) (dOp Bq (dV 1) (dC (.int 2)))))))
def Qw:List D->DH->R D:=Bv 1 1 ZA3
def ZJg:DS:=(sAs (dOp Di (dV 9) (dC (.int 3))) (gV 9))
def Rz:DS:=(Ah (sEx (Fl Fq (dV 10) (Ab (dOp Bl (dV 3) (dOp Bq (dV 9) (dC (.int 3)))) Ad))) ZJg)
def ZJ2:DS:=(sEx (Fl Fq (dV 6) (Ab (dFn Fy (Ab (dV 10) Ad)) Ad)))
def Xz:DS:=(Ah (Du (Cy rng1 (Ab (dC (.int 5)) Ad)) (gV 11) Rz) ZJ2)
def ZGe:DS:=(Ah (sAs (Ff (dFn Av Ad)) (gV 10)) Xz)
def ZJ8:DS:=(Ah (sAs (dFn Az (Ab (dV 0) (Ab (dOp Ay (dOp Ay (dV 4) (dFn Cz (Ab (dV 2) Ad))) (dV 7)) Ad))) (gV 9)) ZGe)
def Yn:DS:=(Ah (sEx (Fl Fq (dV 5) (Ab (dV 8) Ad))) ZJ8)
def ZKe:DS:=(Ah (sIf (Aw (dOp Cv (dOp Aj (dOp Aj (dV 2) (dV 7)) (dC (.int 0))) (dC (.str "basin")))) (sAs (dOp Bq (dFn Km (Ab (dFn Az (Ab (dV 0) (Ab (dOp Ay (dV 4) (dV 7)) Ad))) (Ab (dV 3) Ad))) (dOp Ay (dOp Aj (dOp Aj (dV 2) (dV 7)) (dC (.int 4))) (dC (.int 1)))) (gV 8)) sNx) Yn)
def Tr:DS:=(Ah (sAs (dC (.int 0)) (gV 8)) ZKe)
def ZJq:DS:=(Ah (sAs (dOp Aj (dV 1) (dC (.int 1))) (gV 2)) (Ah (sAs (Bt (dFn Fj (Ab (dV 0) Ad))) (gV 3)) (Ah (sAs (dOp Ay (dC (.int 6)) (dOp Bl (dC (.int 12)) (dFn Cz (Ab (dV 2) Ad)))) (gV 4)) (Ah (sAs (Ff (dFn Av Ad)) (gV 5)) (Ah (sAs (Ff (dFn Av Ad)) (gV 6)) (Ah (Du (Cy rng1 (Ab (dFn Cz (Ab (dV 2) Ad)) Ad)) (gV 7) Tr) (sRt (dFn Bb (Ab (dFn Fy (Ab (dV 5) Ad)) (Ab (dFn Fy (Ab (dV 6) Ad)) Ad))))))))))
def Tg:List D->DH->R D:=Bv 2 10 ZJq
def U3:DS:=(sIf (Jv (Aw (dOp Mv (dV 1) (dC .non))) (dOr (Jc (Aw (dFn Ig (Ab (dV 1) (Ab (dC (.ty "int")) Ad))))) (Aw (dFn Ig (Ab (dV 1) (Ab (dC (.ty "bool")) Ad)))))) (sRt (dC (.bl vH))) sNx)
def ZEk:DS:=(Ah (sIf (dOr (Jc (Aw (dFn Ig (Ab (dV 0) (Ab (dC (.ty "tuple")) Ad))))) (dOr (Aw (dOp Hh (dFn Cz (Ab (dV 0) Ad)) (dC (.int 3)))) (Jc (Aw (dFn Ig (Ab (dOp Aj (dV 0) (dC (.int 0))) (Ab (dC (.ty "str")) Ad))))))) (sRt (dC (.bl vH))) sNx) (Ah (Du (Fv (Bt (dSl (dV 0) (vE (dC (.int 1))) vF))) (gV 1) U3) (sRt (dC (.bl vG)))))
def S7:List D->DH->R D:=Bv 1 1 ZEk
def ZH2:DS:=(Ah (sIf (Aw (dOp Cv (dV 1) (dC (.str "least")))) (sRt (dOp Hn (dV 0) (dV 2))) sNx) (sRt (dOp Iv (dV 0) (dV 2))))
def ZAJ:List D->DH->R D:=Bv 3 0 ZH2
def ZE3:DS:=(sRt (dOp Mr (Uk [("lies",(.int 5)),("spilled",(.int 2)),("let",(.int 3)),("pumped",(.int 4)),("took",(.int 1))]) (dV 0)))
def ZAY:List D->DH->R D:=Bv 1 0 ZE3
def ZAW:DE:=(dOp Aj (dOp Aj (dV 0) (dV 1)) (dV 2))
def Mt:DS:=(sIf (Aw (dFn ZAJ (Ab (dV 9) (Ab (dV 4) (Ab (dV 5) Ad))))) (sRt (dFn Bb (Ab (dC (.str "broken")) (Ab (dV 8) (Ab (dV 9) Ad))))) sNx)
def ZGq:DS:=(sRt (dFn Bb (Ab (dC (.str "kept")) (Ab (Fl Ls (dV 7) (Ab (dV 10) Ad)) (Ab (dV 10) Ad)))))
def ZI1:DS:=(Ah (sAs (dIf (Aw (dOp Cv (dV 4) (dC (.str "least")))) (dFn Jz (Ab (dV 7) Ad)) (dFn Jy (Ab (dV 7) Ad))) (gV 10)) ZGq)
def Yr:DS:=(Ah (sIf (Aw (dOp Cv (dFn Cz (Ab (dV 7) Ad)) (dC (.int 0)))) (sRt (dFn Bb (Ab (dC (.str "kept")) (Ab (dC .non) (Ab (dC .non) Ad))))) sNx) ZI1)
def U7:DS:=(Ah (Du (Cy Im (Ab (dV 7) Ad)) (Bg 2 (Am (gV 8) (Am (gV 9) Bk))) Mt) Yr)
def ZIe:DS:=(Ah (sAs (Bt (Ej (Fv (dV 0)) 1 [3,6] (gV 0) Cd ZAW)) (gV 7)) U7)
def ZFY:DS:=(Ah (sAs (dFn ZAY (Ab (dV 2) Ad)) (gV 6)) ZIe)
def Za:DS:=(Ah (sAs (dV 1) (Bg 4 (Am (gV 2) (Am (gV 3) (Am (gV 4) (Am (gV 5) Bk)))))) ZFY)
def ZAd:List D->DH->R D:=Bv 2 9 Za
def ZIp:DS:=(Ah (sAs (dV 1) (Bg 4 (Am (gV 2) (Am (gV 3) (Am (gV 4) (Am (gV 5) Bk)))))) (Ah (sIf (dOr (Aw (dOp Uv (dV 4) (dC (.tup [.str "least",.str "most"])))) (Aw (dUn (Uu [("lies","basin"),("spilled","basin"),("let","basin"),("pumped","basin"),("took","town")]) (dV 2)))) Lp sNx) (Ah (sIf (Jc (Aw (Qx Nu Hn (dC (.int 0)) (dV 3) (dFn Cz (Ab (dOp Aj (dV 0) (dC (.int 1))) Ad))))) Lp sNx) (sIf (Aw (dOp Hh (dOp Aj (dOp Aj (dOp Aj (dV 0) (dC (.int 1))) (dV 3)) (dC (.int 0))) (dUn (Pj [("lies","basin"),("spilled","basin"),("let","basin"),("pumped","basin"),("took","town")]) (dV 2)))) Lp sNx))))
def Zg:List D->DH->R D:=Bv 2 4 ZIp
def ZBv:DE:=(dOp Nu (dV 0) (dV 1))
def ZIu:DS:=(Ah (sIf (Aw (dOp Hh (dFn Cz (Ab (dV 0) Ad)) (dFn Cz (Ab (dV 1) Ad)))) (sRt (dC (.bl vH))) sNx) (sRt (dFn Qi (Ab (Bt (Ej (Cy (Ie 2) (Ab (dV 0) (Ab (dV 1) Ad))) 2 [] (Bg 2 (Am (gV 0) (Am (gV 1) Bk))) Cd ZBv)) Ad))))
def Rr:List D->DH->R D:=Bv 2 0 ZIu
def ZC2:DE:=(dFn Rr (Ab (dV 0) (Ab (dV 1) Ad)))
def ZBu:DS:=(Ah (sIf (Aw (dOp Hh (dFn Cz (Ab (dV 0) Ad)) (dFn Cz (Ab (dV 1) Ad)))) (sRt (dC (.bl vH))) sNx) (sRt (dFn Qi (Ab (Bt (Ej (Cy (Ie 2) (Ab (dV 0) (Ab (dV 1) Ad))) 2 [] (Bg 2 (Am (gV 0) (Am (gV 1) Bk))) Cd ZC2)) Ad))))
def Ox:List D->DH->R D:=Bv 2 0 ZBu
def ZKd:DS:=(Ah (sAs (dV 0) (Bg 2 (Am (gV 2) (Am (gV 3) Bk)))) (Ah (sAs (dV 1) (Bg 2 (Am (gV 4) (Am (gV 5) Bk)))) (sRt (Oi (dFn Rr (Ab (dV 2) (Ab (dV 4) Ad))) (dFn Ox (Ab (dV 3) (Ab (dV 5) Ad)))))))
def Wb:List D->DH->R D:=Bv 2 4 ZKd
def ZEf:DS:=(sIf (dOr (Jc (Aw (dFn Wb (Ab (dV 0) (Ab (dV 1) Ad))))) (Jc (Aw (dFn Ox (Ab (dV 2) (Ab (dV 3) Ad)))))) Lp sNx)
def Yc:List D->DH->R D:=Bv 4 0 ZEf
def ZHs:DS:=(Ah (sAs (dV 4) (Bg 4 (Am (gV 5) (Am (gV 6) (Am (gV 7) (Am (gV 8) Bk)))))) (Ah (sIf (Aw (dOp Cv (dV 7) (dC (.str "least")))) (sRt (dFn Bb (Ab (dV 0) (Ab (dV 2) Ad)))) sNx) (sRt (dFn Bb (Ab (dV 1) (Ab (dV 3) Ad))))))
def Yl:List D->DH->R D:=Bv 5 4 ZHs
def Xb:DE:=(dOp Ay (dV 0) (dOp Aj (dV 1) (dC (.int 0))))
def Ut:DE:=(Ff (dOp Ay (Bt (dFn Oc (Ab (Bt (dSl (dV 0) (vE (dC (.int 1))) vF)) Ad))) (Bt (dFn Av (Ab (dC (.int 0)) Ad)))))
def ZI5:DS:=(Ah (sAs (dV 2) (Bg 2 (Am (gV 5) (Am (gV 6) Bk)))) (Ah (Hd "Course" (dV 0) (dV 1) "house") (Ah (Hd "Course" (dV 0) (dV 5) "levels") (Ah (Hd "Course" (dV 0) (dOp Bq (dV 3) (dOp Aj (dV 1) (dC (.int 0)))) "year_turn") (Ah (Hd "Course" (dV 0) (Ej (Cy (Ie 2) (Ab (dV 4) (Ab (dV 6) Ad))) 2 [] (Bg 2 (Am (gV 0) (Am (gV 1) Bk))) Cd Xb) "came") (Ah (Hd "Course" (dV 0) (Ej (Fv (dV 6)) 1 [] (gV 0) Cd Ut) "coming") (Ah (Hd "Course" (dV 0) (Ff (dOp Li (dFn Av (Ab (dC .non) Ad)) (dFn Cz (Ab (dV 5) Ad)))) "page") (Hd "Course" (dV 0) (Ff (dFn Av Ad)) "reaches"))))))))
def Ss:List D->DH->R D:=Bv 5 2 ZI5
def ZGn:DS:=(sIf (Aw (dOp Cv (dV 2) (dC (.int 0)))) (Qy (Fw "Course" (dV 0) "came") (dV 1) (dV 3) Ms) (Qy (dOp Aj (Fw "Course" (dV 0) "coming") (dV 1)) (dOp Ge (dV 2) (dC (.int 1))) (dV 3) Ms))
def Ul:List D->DH->R D:=Bv 4 0 ZGn
def Qz:DS:=(sIf (Aw (dOp Cv (dOp Aj (dV 3) (dC (.int 1))) (dV 1))) (sRt (dV 2)) sNx)
def ZG0:DS:=(Ah (Du (Cy Im (Ab (dOp Aj (dV 0) (dC (.int 1))) Ad)) (Bg 2 (Am (gV 2) (Am (gV 3) Bk))) Qz) Lp)
def Ui:List D->DH->R D:=Bv 2 2 ZG0
def ZGr:DS:=(Ah (sAs (dOp Aj (dOp Aj (dOp Aj (dV 0) (dC (.int 1))) (dV 1)) (dC (.int 2))) (gV 2)) (Ah (sIf (Aw (dOp Cv (dV 2) (dC (.str "sea")))) (sRt (dC .non)) sNx) (sRt (dFn Ui (Ab (dV 0) (Ab (dV 2) Ad))))))
def Tv:List D->DH->R D:=Bv 2 1 ZGr
def ZKP:DS:=(Ah (sAs (dFn Tv (Ab (Fw "Course" (dV 0) "house") (Ab (dV 1) Ad))) (gV 3)) (sIf (Aw (dOp Mv (dV 3) (dC .non))) (sEx (Jh "Course" "send" Ul (dV 0) (Ab (dV 3) (Ab (dOp Aj (dOp Aj (dOp Aj (Fw "Course" (dV 0) "house") (dC (.int 1))) (dV 1)) (dC (.int 3))) (Ab (dV 2) Ad))))) sNx))
def Tw:List D->DH->R D:=Bv 3 1 ZKP
def Ws:DS:=(Ah (sAs (dFn Zu (Ab (dC (.int 0)) (Ab (dFn Nk (Ab (dV 5) (Ab (dOp Ge (dV 1) (dV 4)) Ad))) Ad))) (gV 7)) (sIf (Aw (dOp Cv (dV 6) (dC (.str "river")))) (sAu 2 (dV 7) Ms) (sAu 3 (dV 7) Ms)))
def ZKk:DS:=(Ah (sAs (dC (.int 0)) (gV 2)) (Ah (sAs (dC (.int 0)) (gV 3)) (Ah (Du (Fv (dV 0)) (Bg 3 (Am (gV 4) (Am (gV 5) (Am (gV 6) Bk)))) Ws) (sRt (dFn Bb (Ab (dV 2) (Ab (dV 3) (Ab (dOp Ge (dOp Ge (dV 1) (dV 2)) (dV 3)) Ad))))))))
def X8:List D->DH->R D:=Bv 2 6 ZKk
def Yo:DS:=(sIf (Aw (dOp Nu (dV 3) (dV 1))) (sAs (dV 4) (gV 2)) sNx)
def ZKE:DS:=(Ah (sAs (dFn Bb Ad) (gV 2)) (Ah (Du (Fv (dV 0)) (Bg 2 (Am (gV 3) (Am (gV 4) Bk))) Yo) (sRt (dV 2))))
def Zn:List D->DH->R D:=Bv 2 3 ZKE
def ZFF:DS:=(Ah (sAs (dOp Aj (dOp Aj (Fw "Course" (dV 0) "house") (dC (.int 1))) (dV 1)) (gV 2)) (Ah (sAs (dOp Aj (Fw "Course" (dV 0) "came") (dV 1)) (gV 3)) (Ah (sAs (dFn X8 (Ab (dFn Zn (Ab (dOp Aj (dV 2) (dC (.int 5))) (Ab (Fw "Course" (dV 0) "year_turn") Ad))) (Ab (dOp Ay (dOp Aj (Fw "Course" (dV 0) "levels") (dV 1)) (dV 3)) Ad))) (Bg 3 (Am (gV 4) (Am (gV 5) (Am (gV 6) Bk))))) (Ah (sAs (dFn Nk (Ab (dV 6) (Ab (dOp Aj (dV 2) (dC (.int 4))) Ad))) (gV 7)) (Ah (sAs (dOp Ge (dV 6) (dV 7)) (gV 8)) (Ah (sAs (dFn Bb (Ab (dV 3) (Ab (dC (.int 0)) (Ab (dV 8) (Ab (dV 4) (Ab (dV 5) (Ab (dV 7) Ad))))))) (gIx (Fw "Course" (dV 0) "page") (dV 1))) (Ah (sEx (Jh "Course" "send_down" Tw (dV 0) (Ab (dV 1) (Ab (dOp Ay (dV 4) (dV 8)) Ad)))) (sIf (Aw (dOp Mv (dOp Aj (dV 2) (dC (.int 6))) (dC .non))) (sEx (Jh "Course" "send" Ul (dV 0) (Ab (dFn Ui (Ab (Fw "Course" (dV 0) "house") (Ab (dOp Aj (dOp Aj (dV 2) (dC (.int 6))) (dC (.int 0))) Ad))) (Ab (dOp Aj (dOp Aj (dV 2) (dC (.int 6))) (dC (.int 1))) (Ab (dV 5) Ad))))) sNx))))))))
def X5:List D->DH->R D:=Bv 2 7 ZFF
def ZBk:DE:=(dOp Ge (dOp Aj (dV 0) (dC (.int 1))) (dV 1))
def N7:DS:=(sIf (Aw (dOp Mv (dOp Aj (dV 3) (dC (.int 0))) (dC .non))) (Qy (dV 2) (dOp Aj (dV 3) (dC (.int 0))) (dOp Aj (dV 2) (dV 4)) Ms) sNx)
def ZGt:DS:=(Ah (sAs (Ej (Cy (Ie 2) (Ab (dV 0) (Ab (dV 1) Ad))) 2 [] (Bg 2 (Am (gV 0) (Am (gV 1) Bk))) Cd ZBk) (gV 2)) (Ah (Du (Cy Im (Ab (dV 0) Ad)) (Bg 2 (Am (gV 4) (Am (gV 3) Bk))) N7) (sRt (dV 2))))
def Qn:List D->DH->R D:=Bv 2 3 ZGt
def ZJ4:DS:=(Ah (sAs (dOp Aj (dV 0) (dC (.int 1))) (gV 2)) (Ah (sAs (dFn Tv (Ab (dV 0) (Ab (dV 1) Ad))) (gV 3)) (Ah (sIf (dOr (Aw (dOp Oz (dV 3) (dC .non))) (Aw (dOp Iv (dOp Aj (dOp Aj (dV 2) (dV 1)) (dC (.int 3))) (dC (.int 0))))) (sRt (dC .non)) sNx) (Ah (sIf (dOr (Aw (dOp Cv (dOp Aj (dOp Aj (dV 2) (dV 1)) (dC (.int 0))) (dC (.str "basin")))) (Aw (dOp Cv (dOp Aj (dOp Aj (dV 2) (dV 3)) (dC (.int 0))) (dC (.str "basin"))))) (sRt (dC .non)) sNx) (sRt (dV 3))))))
def Tf:List D->DH->R D:=Bv 2 2 ZJ4
def Rw:DS:=(Ah (sAs (dOp Aj (dOp Aj (dV 0) (dC (.int 1))) (dV 4)) (gV 5)) (Ah (sAs (dFn Tf (Ab (dV 0) (Ab (dV 4) Ad))) (gV 6)) (Ah (sAs (dIf (Aw (dOp Oz (dV 6) (dC .non))) (dC .non) (Fl Ls (dV 1) (Ab (dV 6) Ad))) (gV 7)) (sIf (Aw (dOp Cv (dOp Aj (dV 5) (dC (.int 0))) (dC (.str "town")))) (sEx (Fl Fq (dV 3) (Ab (dFn Bb (Ab (dV 7) (Ab (dOp Aj (dV 2) (dV 4)) (Ab (dOp Aj (dV 5) (dC (.int 4))) (Ab (dOp Aj (dV 5) (dC (.int 5))) Ad))))) Ad))) (sEx (Fl Fq (dV 3) (Ab (dFn Bb (Ab (dV 7) (Ab (dOp Aj (dV 2) (dV 4)) (Ab (dC (.int 0)) (Ab (dC (.int 0)) Ad))))) Ad)))))))
def ZGb:DS:=(Ah (sAs (Ff (dFn Av Ad)) (gV 3)) (Ah (Du (Fv (dV 1)) (gV 4) Rw) (sRt (dV 3))))
def Ve:List D->DH->R D:=Bv 3 5 ZGb
def ZCl:DE:=(dFn Bb (Ab (dOp Aj (dV 1) (dC (.int 3))) (Ab (dV 0) Ad)))
def ZAy:DE:=(dV 1)
def ZEg:DS:=(Ah (sAs (Bt (dFn Rb (Ab (Bt (Ej (Cy Im (Ab (dV 0) Ad)) 2 [] (Bg 2 (Am (gV 0) (Am (gV 1) Bk))) Cd ZCl)) Ad))) (gV 1)) (sRt (Ej (Fv (dV 1)) 2 [] (Bg 2 (Am (gV 0) (Am (gV 1) Bk))) Cd ZAy)))
def Yh:List D->DH->R D:=Bv 1 1 ZEg
def Sh:DS:=(Ah (sEx (Fl Fq (dV 2) (Ab (dV 3) Ad))) (sAs (dOp Aj (dOp Aj (dV 0) (dV 3)) (dC (.int 0))) (gV 3)))
def Nb:DB:=(Aw (dOp Mv (dV 3) (dC .non)))
def ZIi:DS:=(Ah (sAs (Ff (dFn Av (Ab (dV 1) Ad))) (gV 2)) (Ah (sAs (dOp Aj (dOp Aj (dV 0) (dV 1)) (dC (.int 0))) (gV 3)) (Ah (sWh Nb Sh fuel) (sRt (dV 2)))))
def Yi:List D->DH->R D:=Bv 2 2 ZIi
def ZDF:DE:=(dOp Aj (dV 1) (dV 0))
def Xf:DS:=(Qy (dV 2) (dV 6) (dV 5) Ge)
def Rt:DS:=(Ah (sAs (Bt (dFn Yi (Ab (dV 0) (Ab (dV 3) Ad)))) (gV 4)) (Ah (sAs (dFn Nk (Ab (dOp Aj (dOp Aj (dV 0) (dV 3)) (dC (.int 2))) (Ab (dFn Jz (Ab (Bt (Ej (Fv (dV 4)) 1 [2] (gV 0) Cd ZDF)) Ad)) Ad))) (gV 5)) (Ah (sAs (dV 5) (gIx (dV 1) (dV 3))) (Du (Fv (dV 4)) (gV 6) Xf))))
def ZI0:DS:=(Ah (sAs (Ff (dOp Li (dFn Av (Ab (dC (.int 0)) Ad)) (dFn Cz (Ab (dV 0) Ad)))) (gV 1)) (Ah (sAs (Ff (dFn Qn (Ab (dV 0) (Ab (dV 1) Ad)))) (gV 2)) (Ah (Du (Fv (Bt (dFn Yh (Ab (dV 0) Ad)))) (gV 3) Rt) (sRt (dV 1)))))
def ZAQ:List D->DH->R D:=Bv 1 6 ZI0
def Mm:DS:=(Ah (sAs (dFn Bb (Ab (dOp Ay (dV 5) (dV 6)) (Ab (dV 5) (Ab (dC (.int 0)) (Ab (dV 6) (Ab (dC (.int 0)) (Ab (dC (.int 0)) Ad))))))) (gIx (Fw "Course" (dV 0) "page") (dV 4))) (sIf (Aw (dOp Cv (dV 4) (dOp Aj (dV 1) (dUn Rg (dC (.int 1)))))) (sEx (Jh "Course" "send_down" Tw (dV 0) (Ab (dV 4) (Ab (dV 6) Ad)))) sNx))
def ZHh:DS:=(Ah (sAs (Bt (dFn Ve (Ab (Fw "Course" (dV 0) "house") (Ab (dV 1) (Ab (Fw "Course" (dV 0) "came") Ad))))) (gV 2)) (Ah (sAs (Bt (dFn ZAQ (Ab (dV 2) Ad))) (gV 3)) (Ah (Du (Cy (Ie 3) (Ab (dV 1) (Ab (dV 3) (Ab (Bt (dFn Qn (Ab (dV 2) (Ab (dV 3) Ad)))) Ad)))) (Bg 3 (Am (gV 4) (Am (gV 5) (Am (gV 6) Bk)))) Mm) (sEx (Fl Fq (Fw "Course" (dV 0) "reaches") (Ab (Ff (dFn Bb (Ab (dV 1) (Ab (dV 2) Ad)))) Ad))))))
def Xl:List D->DH->R D:=Bv 2 5 ZHh
def Wr:DS:=(Ah (sAs (dFn Tf (Ab (dV 0) (Ab (dV 2) Ad))) (gV 3)) (sIf (Aw (dOp Mv (dV 3) (dC .non))) (sAs (dOp Aj (dV 1) (dV 3)) (gIx (dV 1) (dV 2))) sNx))
def ZHF:DS:=(Ah (sAs (Ff (dLR (Ab (dFn Cz (Ab (dOp Aj (dV 0) (dC (.int 1))) Ad)) Ad))) (gV 1)) (Ah (Du (Cy rng3 (Ab (dOp Ge (dFn Cz (Ab (dOp Aj (dV 0) (dC (.int 1))) Ad)) (dC (.int 1))) (Ab (dUn Rg (dC (.int 1))) (Ab (dUn Rg (dC (.int 1))) Ad)))) (gV 2) Wr) (sRt (dV 1))))
def Z5:List D->DH->R D:=Bv 1 3 ZHF
def Va:DE:=(dV 0)
def V2:DB:=(Aw (dOp Cv (dV 1) (dV 2)))
def Ql:DS:=(sIf (Aw (dOp Cv (dOp Aj (dOp Aj (dOp Aj (Fw "Course" (dV 0) "house") (dC (.int 1))) (dV 2)) (dC (.int 0))) (dC (.str "basin")))) (sEx (Jh "Course" "go_basin" X5 (dV 0) (Ab (dV 2) Ad))) (sIf (Aw (dOp Cv (dV 3) (dV 2))) (sEx (Jh "Course" "go_reach" Xl (dV 0) (Ab (Bt (Ej (Cy Im (Ab (dV 1) Ad)) 2 [2] (Bg 2 (Am (gV 0) (Am (gV 1) Bk))) V2 Va)) Ad))) sNx))
def ZFi:DS:=(Ah (sAs (Bt (dFn Z5 (Ab (Fw "Course" (dV 0) "house") Ad))) (gV 1)) (Du (Cy Im (Ab (dV 1) Ad)) (Bg 2 (Am (gV 2) (Am (gV 3) Bk))) Ql))
def Xc:List D->DH->R D:=Bv 1 3 ZFi
def Vs:DE:=(dOp Aj (dV 0) (dC (.int 5)))
def Xj:DE:=(dFn Fy (Ab (dV 0) Ad))
def ZIk:DS:=(sRt (dFn Bb (Ab (dFn Fy (Ab (Bt (Ej (Fv (Fw "Course" (dV 0) "page")) 1 [] (gV 0) Cd Vs)) Ad)) (Ab (dFn Fy (Ab (Bt (Ej (Fv (Fw "Course" (dV 0) "coming")) 1 [] (gV 0) Cd Xj)) Ad)) Ad))))
def Vp:List D->DH->R D:=Bv 1 0 ZIk
def ZFf:DS:=(Ah (sAs (ZAj "Course" Ss (Ab (dV 0) (Ab (dV 1) (Ab (dV 2) (Ab (dV 3) Ad))))) (gV 4)) (Ah (sEx (Jh "Course" "go" Xc (dV 4) Ad)) (sRt (dFn Bb (Ab (dFn Fy (Ab (Fw "Course" (dV 4) "page") Ad)) (Ab (Jh "Course" "state_behind" Vp (dV 4) Ad) Ad))))))
def Y7:List D->DH->R D:=Bv 4 1 ZFf
def S6:DS:=(Ah (sAs (dFn Y7 (Ab (dV 0) (Ab (dV 1) (Ab (dV 5) (Ab (dV 6) Ad))))) (Bg 2 (Am (gV 7) (Am (gV 1) Bk)))) (sEx (Fl Fq (dV 4) (Ab (dV 7) Ad))))
def ZHr:DS:=(Ah (sAs (Ff (dFn Av Ad)) (gV 4)) (Ah (Du (ZBX (Ab (dV 3) Ad) (dV 2)) (Bg 2 (Am (gV 5) (Am (gV 6) Bk))) S6) (sRt (dFn Bb (Ab (dV 4) (Ab (dV 1) Ad))))))
def Mp:List D->DH->R D:=Bv 4 4 ZHr
def ZF9:DS:=(Ah (sEx (dFn Zg (Ab (dV 0) (Ab (dV 6) Ad)))) (Ah (sEx (dFn Yc (Ab (dV 1) (Ab (dV 2) (Ab (dV 4) (Ab (dV 5) Ad)))))) (Ah (sAs (dFn Yl (Ab (dV 1) (Ab (dV 2) (Ab (dV 4) (Ab (dV 5) (Ab (dV 6) Ad)))))) (Bg 2 (Am (gV 7) (Am (gV 8) Bk)))) (Ah (sAs (Bt (dFn Mp (Ab (dV 0) (Ab (dV 7) (Ab (dV 3) (Ab (dV 8) Ad)))))) (Bg 2 (Am (gV 9) (Am (gV 10) Bk)))) (sRt (dFn ZAd (Ab (dV 9) (Ab (dV 6) Ad))))))))
def Rh:List D->DH->R D:=Bv 7 4 ZF9
def S8:DE:=(dOp Aj (dOp Aj (dV 0) (dOp Aj (dV 1) (dC (.int 1)))) (dFn Z0 (Ab (dOp Aj (dV 1) (dC (.int 0))) Ad)))
def ZKi:DS:=(sRt (dOp Cv (dV 9) (dFn Z2 (Ab (dV 11) (Ab (dV 7) Ad)))))
def V3:DS:=(Ah (sAs (Bt (Ej (Fv (dV 10)) 1 [7] (gV 0) Cd S8)) (gV 11)) ZKi)
def ZBE:DS:=(Ah (sIf (Aw (dOp Cv (dOp Aj (dV 7) (dC (.int 2))) (dC (.str "most")))) (sAs (dOp Aj (Bt (dFn Mp (Ab (dV 1) (Ab (dV 5) (Ab (dV 2) (Ab (dV 6) Ad)))))) (dC (.int 0))) (gV 10)) sNx) V3)
def Zq:DS:=(Ah (sAs (dOp Aj (Bt (dFn Mp (Ab (dV 1) (Ab (dV 3) (Ab (dV 2) (Ab (dV 4) Ad)))))) (dC (.int 0))) (gV 10)) ZBE)
def ZIS:DS:=(Ah (sIf (dOr (Aw (dOp Hh (dV 8) (Bt (dFn Av (Ab (dV 4) (Ab (dV 6) Ad)))))) (Jc (Aw (dFn S7 (Ab (dV 9) Ad))))) (sRt (dC (.bl vH))) sNx) Zq)
def Zc:DS:=(Ah (sAs (dFn Rh (Ab (dV 1) (Ab (dV 3) (Ab (dV 5) (Ab (dV 2) (Ab (dOp Aj (dV 8) (dC (.int 0))) (Ab (dOp Aj (dV 8) (dC (.int 1))) (Ab (dV 7) Ad)))))))) (gV 9)) ZIS)
def ZFv:DS:=(Ah (sAs (Bt (dFn Av (Ab (Bt (dFn Oc (Ab (dV 4) Ad))) (Ab (Bt (dFn Oc (Ab (dV 6) Ad))) Ad)))) (gV 8)) Zc)
def Lz:DS:=(Ah (sIf (Aw (dOp Oz (dV 7) (dC .non))) (sRt (dC (.bl vG))) sNx) ZFv)
def ZG5:DS:=(Ah (sAs (Bt (dFn Tn (Ab (dV 0) (Ab (dV 1) Ad)))) (gV 7)) Lz)
def ZGm:DS:=(Ah (sAs (Bt (dFn Py (Ab (dV 0) (Ab (dV 1) (Ab (dV 3) (Ab (dV 4) Ad)))))) (Bg 2 (Am (gV 5) (Am (gV 6) Bk)))) ZG5)
def ZHK:DS:=(Ah (sAs (Bt (dFn V4 (Ab (dV 0) (Ab (dV 1) (Ab (dOp Bq (dFn Az (Ab (dV 0) (Ab (dC (.int 2)) Ad))) (dC (.int 7))) Ad))))) (gV 4)) ZGm)
def ZJS:DS:=(Ah (sAs (dFn Tg (Ab (dV 0) (Ab (dV 1) Ad))) (gV 3)) ZHK)
def ZFg:DS:=(Ah (sAs (dFn Qw (Ab (dV 0) Ad)) (gV 2)) ZJS)
def Vr:DS:=(Ah (sAs (dFn Ub (Ab (dV 0) Ad)) (gV 1)) ZFg)
def Og:List D->DH->R D:=Bv 1 11 Vr
def Holds:Prop:=∀ns:List Int,ns.length<=63->∃G,Og [.fl (ns.map D.int)] []=.ok (.bl vG) G
end _W
namespace _W
open PySem _L _D
variable{ns xs l:List Int}{F T P ca fl lv f lv':Nat->Int}{m i d j p to dl:Nat}{G L:DH}{A B:DO}{ds:List D}{ws ms:List Nat}{α:Type}{t c a at_ u yr x:Int}{H LV e:D}{pg:Nat->List Int}{S:DSt}{co co':Nat->Nat->Int}{nm:Nat->Str}{s2:Option D}{fls fls':List (Nat->Int)}{pgs:List (Nat->List Int)}{b:Bool}
theorem ZGi:∃b,∀G,Nj [.fl (ns.map D.int)] G=.ok (.bl b) G:=by
 cases ns with
 |nil=>exact⟨vH,λG=>by unfold Nj ZCf;rw[Br];simp[By]⟩
 |cons n r=>
  refine⟨decide (n<0)||decide (1000000000000000000<=n),λG=>?_⟩;unfold Nj ZCf;rw[Br];have a0:atI ((n::r).map D.int) 0=vE (.int n):=Fb (k:=0) rfl rfl;by_cases h:n<0
  ·simp[a0,h,By]
  ·simp[a0,h,By]
noncomputable def offV:Nat->Int->Int
 |0,v=>v
 |n+1,v=>offV n (v/100000000)
theorem ZJa{k:D}{G:DH}:∀(n:Nat)(j:Nat)(v:Int)(x:Option D),∃x',Bo (gV 2) Ti (Cm j n) [vE (.int v),vE k,x] G=.nx [vE (.int (offV n v)),vE k,x'] G
 |0,j,v,x=>⟨x,by rw[Js,Ed];rfl⟩
 |n+1,j,v,x=>by
  obtain⟨x',ih⟩:=ZJa (k:=k) (G:=G) n (j+1) (v/100000000) (vE (.int j));refine⟨x',?_⟩;have hb:Ti [vE (.int v),vE k,vE (.int j)] G=.nx [vE (.int (v/100000000)),vE k,vE (.int j)] G:=by unfold Ti;simp
  rw[Iu,Dh];simp only[Dq,R.Dl,qJ,hb,Ea];have e1:((j:Int)+1)=((j+1:Nat):Int):=by lia
  rw[e1,ih]
  rfl
theorem ZF4{v:Int}{k:Nat}(hk:k<=1000):∃r:Int,(0<=r/\r<100000000)/\∀G,U0 [.int v,.int k] G=.ok (.int r) G:=by
 by_cases h:0<=v/\v<1000000000000000000
 ·let a:=(v+1009*(k:Int)+7)%999999937;let b:=a*a%999999929;refine⟨b*(b+k)%99999989,by lia,λG=>?_⟩;have ha:0<=a/\a<999999937:=by lia
  have hb:0<=b/\b<999999929:=by lia
  unfold U0 ZD2;rw[Br];have m1:Bl (.int a) (.int a)=λG=>R.ok (.int (a*a)) G:=by funext G;exact Jb (by lia) (by lia)
  have m2:Bl (.int b) (.int (b+k))=λG=>R.ok (.int (b*(b+k))) G:=by funext G;exact Jb (by lia) (by lia)
  simp[h.1,h.2]
  rw[show(v+1009*(k:Int)+7)%999999937=a from rfl,m1]
  simp
  rw[show a*a%999999929=b from rfl,m2]
  simp[By]
 ·refine⟨offV k v%100000000,by lia,λG=>?_⟩;obtain⟨x',hx⟩:=ZJa (k:=.int k) (G:=G) k 0 v vF;have hx':Bo (gV 2) Ti (Cm 0 k) [vE (.int v),vE (.int k),vF] G=.nx [vE (.int (offV k v)),vE (.int k),x'] G:=hx;unfold U0 ZD2;rw[Br];have hr:inR (k:Int):=Gu (by lia) (by lia);by_cases h0:0<=v
  ·have h1:¬v<1000000000000000000:=λz=>h ⟨h0,z⟩
   simp[h0,h1,hr,hx',By]
  ·simp[h0,hr,hx',By]
theorem ZHX(hl:ns.length<=63){k:Nat}(hk:k<=1000):∃v:Int,∀G,Az [.fl (ns.map D.int),.int k] G=.ok (.int v) G:=by
 obtain⟨b,ht⟩:=ZGi (ns:=ns);have hd:((k:Int)/14)=((k/14:Nat):Int):=by lia
 have hm:((k:Int)%14)=((k%14:Nat):Int):=by lia
 cases b with
 | true=>
  by_cases h:1+k/14<ns.length
  ·obtain⟨r,hr,ho⟩:=ZF4 (v:=ns[1+k/14]) (k:=k%14) (by lia);refine⟨r,λG=>?_⟩;unfold Az Qk;rw[Br];have a1:atI (ns.map D.int) (1+(k:Int)/14)=vE (.int ns[1+k/14]):=Fb (k:=1+k/14) (by lia) (by rw[zx,zJ h];rfl);have hc:(1+(k:Int)/14)<ns.length:=by lia
   simp[ht,hc,a1];rw[hm,ho];simp[By]
  ·obtain⟨r,hr,ho⟩:=ZF4 (v:=0) (k:=k%14) (by lia);refine⟨r,λG=>?_⟩;unfold Az Qk;rw[Br];have hc:¬(1+(k:Int)/14)<ns.length:=by lia
   simp[ht,hc];rw[hm,ho];simp[By]
 | false=>
  by_cases h:k<ns.length
  ·refine⟨ns[k],λG=>?_⟩;unfold Az Qk;rw[Br];have a1:atI (ns.map D.int) (k:Int)=vE (.int ns[k]):=Fb (k:=k) rfl (by rw[zx,zJ h];rfl);simp[ht,h,a1,By]
  ·have m0:∀G,Bl (.int k) (.int k) G=R.ok (.int ((k:Int)*k)) G:=λG=>Jb (by lia) (by lia)
   by_cases h0:0<ns.length
   ·have hi:k%ns.length<ns.length:=Nat.mod_lt _ h0;refine⟨48271*((k:Int)*k+7*ns.length)%2147483647+ns[k%ns.length]*69621%2147483629,λG=>?_⟩;unfold Az Qk;rw[Br];have a1:atI (ns.map D.int) ((k:Int)%ns.length)=vE (.int ns[k%ns.length]):=Fb (k:=k%ns.length) (by simp) (by rw[zx,zJ hi];rfl);simp[ht,h,m0,h0,a1,By]
   ·have e:ns=[]:=qP (by lia);subst e;refine⟨48271*((k:Int)*k+7*0)%2147483647,λG=>?_⟩;unfold Az Qk;rw[Br];have ht':∀G,Nj [.fl []] G=.ok (.bl vH) G:=ht;have hk0:¬(k:Int)<0:=by lia
    simp[ht',hk0,m0,By]
theorem cells(hl:ns.length<=63):∃f:Nat->Int,∀k:Nat,k<=1000->∀G,Az [.fl (ns.map D.int),.int k] G=.ok (.int (f k)) G:=by refine⟨λk=>if h:k<=1000 then(ZHX hl h).choose else 0,λk hk=>?_⟩;simp only[dif_pos hk];exact(ZHX hl hk).choose_spec
structure Row where
 down:Option Nat
 water:Int
 need:Int
 rank:Int
variable{rs:List Row}
noncomputable def dnD:Option Nat->D
 |none=>.non
 |some d=>.int d
def Row.enc(r:Row):D:=.tup [dnD r.down,.int r.water,.int r.need,.int r.rank]
@[simp]theorem ZUn{n:Nat}{o:Option Nat}:bel n (dnD o)=vG:=by cases o<;>rfl
@[simp]theorem ZQr{n:Nat}{r:Row}:bel n r.enc=vG:=by simp[Row.enc]
@[simp]theorem ZUc{n:Nat}:bels n (rs.map Row.enc)=vG:=Ga λr _=>ZQr
@[simp]theorem ZGZ{n:Nat}:bels n (xs.map D.int)=vG:=Ga λr _=>rfl
structure Fine (k n:Nat) (r:Row):Prop where
 dn:∀d,r.down=vE d->k<d/\d<n
 w0:0<=r.water
 n0:0<=r.need
 r0:0<=r.rank
def Reach(rs:List Row):Prop:=∀k r,rs[k]?=vE r->Fine k rs.length r
noncomputable def tab(n:Nat)(F:Nat->Int):List D:=(zZ n).map λi=>D.int (F i)
noncomputable def fset(F:Nat->Int)(d:Nat)(v:Int):Nat->Int:=λi=>if i=d then v else F i
@[simp]theorem ZPE{n:Nat}:(tab n F).length=n:=by simp[tab]
@[simp]theorem Jl{n:Nat}:bels m (tab n F)=vG:=Ga λ_ _=>rfl
theorem Nv{n:Nat}(h:i<n):(tab n F)[i]?=vE (.int (F i)):=by unfold tab;rw[zx,zL h];rfl
theorem Hc{n:Nat}(h:i<n):atI (tab n F) (i:Int)=vE (.int (F i)):=Fb rfl (Nv h)
theorem R1{n:Nat}{v:Int}:(tab n F).set d (.int v)=tab n (fset F d v):=by
 refine j1 λi=>?_
 by_cases hi:i<n
 ·by_cases e:d=i
  ·subst e;rw[qU (by simpa using hi),Nv hi];simp[fset]
  ·rw[qM e,Nv hi,Nv hi];have:i≠d:=λz=>e z.symm
   simp[fset,this]
 ·rw[zA (by simp;lia),zA (by simp;lia)]
theorem ZId{n:Nat}{F':Nat->Int}(h:∀i,i<n->F i=F' i):tab n F=tab n F':=by
 unfold tab;refine qk λi hi=>?_
 rw[h i (qW.mp hi)]
noncomputable def col(g:Row->Int)(rs:List Row)(i:Nat):Int:=match rs[i]? with
 |some r=>g r
 |none=>0
noncomputable def De(rs:List Row)(i:Nat):Option Nat:=rs[i]?.bind Row.down
theorem Jp(h:Reach rs){k:Nat}(e:De rs k=vE d):k<d/\d<rs.length:=by
 unfold De at e;cases hr:rs[k]? with
 |none=>rw[hr]at e;cases e
 |some r=>rw[hr]at e;exact(h k r hr).dn d e
theorem Yj{k:Nat}(hk:k<rs.length):De rs k=rs[k].down:=by unfold De;rw[zJ hk];rfl
theorem ZKj{k:Nat}(hk:¬k<rs.length):De rs k=vF:=by unfold De;rw[zA (by lia)];rfl
noncomputable def gstep(F:Nat->Int)(k:Nat)(o:Option Nat):Nat->Int:=match o with
 |none=>F
 |some d=>fset F d (F d+F k)
noncomputable def gat(rs:List Row):Nat->Nat->(Nat->Int)->Nat->Int
 |0,_,F=>F
 |m+1,k,F=>gat rs m (k+1) (gstep F k (De rs k))
noncomputable abbrev gath(rs:List Row)(F:Nat->Int):Nat->Int:=gat rs rs.length 0 F
theorem ZCo{k:Nat}(hk:k<rs.length):atI (rs.map Row.enc) (k:Int)=vE (.tup [dnD (De rs k),.int (col Row.water rs k),.int (col Row.need rs k),.int (col Row.rank rs k)]):=
 Fb rfl (by rw[zx,Yj hk];simp[col,zJ hk,Row.enc])
theorem ZIA(hR:Reach rs){t:D}{G:DH}:∀(m k:Nat)(F:Nat->Int)(x y:Option D),k+m=rs.length->∃x' y',
  Bo (Bg 2 (Am (gV 4) (Am (gV 3) Bk))) N7 ((Et (rs.map Row.enc)).drop k) [vE (.fl (rs.map Row.enc)),vE t,vE (.ref G.length),x,y] (G++[.lst (tab rs.length F)])=
   .nx [vE (.fl (rs.map Row.enc)),vE t,vE (.ref G.length),x',y'] (G++[.lst (tab rs.length (gat rs m k F))])
 |0,k,F,x,y,h=>⟨x,y,by rw[zP (by rw[Lb];simp;lia),Ed];rfl⟩
 | m+1,k,F,x,y,h=>by
  have hk:k<rs.length:=by lia
  have e0:(Et (rs.map Row.enc)).drop k=.tup [.int k,rs[k].enc]::(Et (rs.map Row.enc)).drop (k+1):=by rw[zM (by rw[Lb];simpa using hk)];simp[Et]
  obtain⟨x',y',ih⟩:=ZIA hR (t:=t) (G:=G) m (k+1) (gstep F k (De rs k)) (vE rs[k].enc) (vE (.int k)) (by lia);refine⟨x',y',?_⟩;have hb:N7 [vE (.fl (rs.map Row.enc)),vE t,vE (.ref G.length),vE rs[k].enc,vE (.int k)] (G++[.lst (tab rs.length F)])=
    .nx [vE (.fl (rs.map Row.enc)),vE t,vE (.ref G.length),vE rs[k].enc,vE (.int k)] (G++[.lst (tab rs.length (gstep F k (De rs k)))]):=by
   unfold N7;cases hd:De rs k with
   |none=>
    have:rs[k].down=vF:=by rw[<-Yj hk];exact hd
    simp[Row.enc,this,dnD,gstep]
   |some d=>
    have e:rs[k].down=vE d:=by rw[<-Yj hk];exact hd
    have hdn:=Jp hR hd;have g0:(G++[DO.lst (tab rs.length F)])[G.length]?=vE (.lst (tab rs.length F)):=by simp
    simp[Row.enc,e,dnD,gstep,ZAO g0 (Hc hdn.2),Eg,Hc hk,Ft,Jq,hdn.2,R1]
  rw[e0,Dh];simp[Dq,hb];exact ih
def Lq(rs:List Row)(i:Nat):D:=.tup [dnD (De rs i),.int (col Row.water rs i),.int (col Row.need rs i),.int (col Row.rank rs i)]
theorem ZJx:rs.map Row.enc=(zZ rs.length).map (Lq rs):=by
 refine j1 λi=>?_
 by_cases hi:i<rs.length
 ·rw[zx,zx,zL hi,zJ hi];simp[Lq,Row.enc,Yj hi,col,zJ hi]
 ·rw[zA (by simp;lia),zA (by simp;lia)]
theorem ZFa(hR:Reach rs)(hl:rs.length<=40){t:D}(ht:Ci t G=vE (tab rs.length T)):Qn [.fl (rs.map Row.enc),t] G=.ok (.ref G.length) (G++[.lst (tab rs.length (gath rs λi=>col Row.water rs i-T i))]):=by
 obtain⟨x',y',hL⟩:=ZIA hR (t:=t) (G:=G) rs.length 0 (λi=>col Row.water rs i-T i) vF vF (by lia);have hz:∀j,Gz [.fl (rs.map Row.enc),t] j G=vE ((zZ rs.length).map λi=>D.tup [Lq rs i,.int (T i)])[j]? :=λj=>by
  rw[ZDq ZKg ht,O6,ZJx,tab,List.zip_map',qF]
  rfl
 let F:D->Option D:=λd=>match d with
  |.tup [.tup [_,.int w,_,_],.int v]=>vE (.int (w-v))
  |_=>vF
 have hc:Ds (Gz [.fl (rs.map Row.enc),t]) (Bg 2 (Am (gV 0) (Am (gV 1) Bk))) Cd ZBk (Bm 2 [] [vE (.fl (rs.map Row.enc)),vE t,vF,vF,vF]) rs.length 0 G=.ok (tab rs.length λi=>col Row.water rs i-T i) G:=by
  rw[Yg (F:=F) hz (λx hx=>?_) (by simp)]
  ·congr 1
   rw[qX];show(zZ rs.length).filterMap (λi=>vE (D.int (col Row.water rs i-T i)))=_;rw[qz]
   rfl
  ·obtain⟨i,_,rfl⟩:=zH.mp hx;refine⟨[vE (Lq rs i),vE (.int (T i))],by simp[Bm],.inr ⟨rfl,.int (col Row.water rs i-T i),?_,rfl⟩⟩;unfold ZBk;simp[Lq]
 have hl2:rs.length<=1000000:=by lia
 unfold Qn ZGt;rw[Br];have hL':Bo (Bg 2 (Am (gV 4) (Am (gV 3) Bk))) N7 (Et (rs.map Row.enc)) [vE (.fl (rs.map Row.enc)),vE t,vE (.ref G.length),vF,vF] (G++[.lst (tab rs.length λi=>col Row.water rs i-T i)])=_:=hL;have hcf:Eo (Ew 0 (.fl (rs.map Row.enc))) (Bg 2 (Am (gV 4) (Am (gV 3) Bk))) N7 rs.length 0 [vE (.fl (rs.map Row.enc)),vE t,vE (.ref G.length),vF,vF] (G++[.lst (tab rs.length λi=>col Row.water rs i-T i)])=.nx [vE (.fl (rs.map Row.enc)),vE t,vE (.ref G.length),x',y'] (G++[.lst (tab rs.length (gath rs λi=>col Row.water rs i-T i))]):=by
  have:=ZME (S:=[vE (.fl (rs.map Row.enc)),vE t,vE (.ref G.length),vF,vF]) (G:=G++[.lst (tab rs.length λi=>col Row.water rs i-T i)]) (g:=Bg 2 (Am (gV 4) (Am (gV 3) Bk))) (b:=N7) (xs:=rs.map Row.enc);rw[qQ]at this;rw[this];exact hL'
 simp[ZAD (ZKg (xs:=rs.map Row.enc)) ht,hc,Av,hl2,hcf,Gb]
theorem ZKQ{g:Row->Int}(h:∀r∈rs,0<=g r)(k:Nat):0<=col g rs k:=by
 unfold col;split
 ·rename_i r hr;exact h r (List.mem_of_getElem? hr)
 ·exact qq _
theorem Reach.need(h:Reach rs)(k:Nat):0<=col Row.need rs k:=ZKQ (λr hr=>by obtain⟨i,hi,rfl⟩:=q9 hr;exact(h i _ (zJ hi)).n0) k
theorem Reach.water(h:Reach rs)(k:Nat):0<=col Row.water rs k:=ZKQ (λr hr=>by obtain⟨i,hi,rfl⟩:=q9 hr;exact(h i _ (zJ hi)).w0) k
theorem ZIO(h:bels (G.length+1) ds=vG):freeze (G++[A]) (.ok (.ref (G.length+1)) (G++A:: .lst ds::L))=.ok (.fl ds) (G++[A]):=by have:=Fd (G:=G++[A]) (ds:=ds) (L:=L) (by simpa using h);simpa using this
theorem ZJW(h:bels (G.length+1) ds=vG):tidy (G++[A]) (.ok (.ref (G.length+1)) (G++A:: .lst ds::L))=.ok (.ref (G.length+1)) (G++[A,.lst ds]):=by have:=Gb (G:=G++[A]) (ds:=ds) (L:=L) (by simpa using h);simpa using this
theorem ZBi(h:bels (G.length+2) ds=vG):freeze (G++[A,B]) (.ok (.ref (G.length+2)) (G++A::B:: .lst ds::L))=.ok (.fl ds) (G++[A,B]):=by have:=Fd (G:=G++[A,B]) (ds:=ds) (L:=L) (by simpa using h);simpa using this
noncomputable def Mg(rs:List Row):Nat->Nat->List Nat
 |0,k=>[k]
 |m+1,k=>k::(match De rs k with
  |none=>[]
  |some d=>Mg rs m d)
noncomputable def way(rs:List Row)(k:Nat):List Nat:=Mg rs rs.length k
theorem ZJZ(hR:Reach rs):∀(m m' k:Nat),rs.length<=m+k+1->rs.length<=m'+k+1->Mg rs m k=Mg rs m' k
 | 0,m',k,h,h'=>by
  have hn:De rs k=vF:=by
   cases hd:De rs k with
   |none=>rfl
   |some d=>have:=Jp hR hd;lia
  cases m' with
  |zero=>rfl
  |succ m'=>simp[Mg,hn]
 | m+1,0,k,h,h'=>by
  have hn:De rs k=vF:=by
   cases hd:De rs k with
   |none=>rfl
   |some d=>have:=Jp hR hd;lia
  simp[Mg,hn]
 | m+1,m'+1,k,h,h'=>by
  cases hd:De rs k with
  |none=>simp[Mg,hd]
  |some d=>
   have:=Jp hR hd;simp[Mg,hd,ZJZ hR m m' d (by lia) (by lia)]
noncomputable def K1(rs:List Row):Option Nat->List Nat
 |none=>[]
 |some d=>way rs d
theorem Jw(hR:Reach rs)(k:Nat):way rs k=k::K1 rs (De rs k):=by
 unfold way;rw[ZJZ hR rs.length (rs.length+1) k (by lia) (by lia)];show k::_=_;cases hd:De rs k with
 |none=>rfl
 |some d=>rfl
@[simp]theorem ZUv:dnD (vE d)=.int d:=id rfl
noncomputable def Bf(ws:List Nat):List D:=ws.map λ(i:Nat)=>D.int (i:Int)
@[simp]theorem ZFB:bels m (Bf ws)=vG:=Ga λ_ _=>rfl
@[simp]theorem ZTu:(Bf ws).length=ws.length:=by simp[Bf]
theorem ZH9(hR:Reach rs)(hl:rs.length<=40){x:Option D}:∀(m:Nat)(o:Option Nat)(acc:List Nat),0<m->(∀d,o=vE d->d<rs.length/\rs.length-d<m/\acc.length+(rs.length-d)<=100)->
  sWh Nb Sh m [vE (.fl (rs.map Row.enc)),x,vE (.ref G.length),vE (dnD o)] (G++[.lst (Bf acc)])=.nx [vE (.fl (rs.map Row.enc)),x,vE (.ref G.length),vE .non] (G++[.lst (Bf (acc++K1 rs o))])
 |0,o,acc,h0,h=>by lia
 |m+1,vF,acc,h0,h=>by
  have ht:Nb [vE (.fl (rs.map Row.enc)),x,vE (.ref G.length),vE (dnD vF)] (G++[.lst (Bf acc)])=.ok vH (G++[.lst (Bf acc)]):=by unfold Nb;simp[dnD]
  unfold sWh;rw[ht];simp[K1,dnD]
 |m+1,vE d,acc,h0,h=>by
  obtain⟨h1,h2,h3⟩:=h d rfl;have ht:Nb [vE (.fl (rs.map Row.enc)),x,vE (.ref G.length),vE (dnD (vE d))] (G++[.lst (Bf acc)])=.ok vG (G++[.lst (Bf acc)]):=by unfold Nb;simp[dnD]
  have hla:acc.length<1000000:=by lia
  have hb:Sh [vE (.fl (rs.map Row.enc)),x,vE (.ref G.length),vE (dnD (vE d))] (G++[.lst (Bf acc)])=.nx [vE (.fl (rs.map Row.enc)),x,vE (.ref G.length),vE (dnD (De rs d))] (G++[.lst (Bf (acc++[d]))]):=by unfold Sh;simp[Eg,Ft,hla,ZCo h1,Bf]
  unfold sWh;rw[ht];simp only[R.Dl,if_true,hb,Ea];rw[ZH9 hR hl m (De rs d) (acc++[d]) (by lia) (λe he=>by have:=Jp hR he;simp;lia)]
  have:K1 rs (vE d)=d::K1 rs (De rs d):=Jw hR d;rw[this];simp
theorem ZSm(hR:Reach rs)(hl:rs.length<=40){k:Nat}(hk:k<rs.length)(G:DH):Yi [.fl (rs.map Row.enc),.int k] G=.ok (.ref G.length) (G++[.lst (Bf (way rs k))]):=by
 have hL:=ZH9 hR hl (x:=vE (.int k)) (G:=G) fuel (De rs k) [k] (by unfold fuel;lia) (λd hd=>by have:=Jp hR hd;unfold fuel;simp;lia)
 have hL':sWh Nb Sh fuel [vE (.fl (rs.map Row.enc)),vE (.int k),vE (.ref G.length),vE (dnD (De rs k))] (G++[.lst [.int k]])=_:=hL;rw[Jw hR];unfold Yi ZIi;rw[Br];simp[Av,Gb,ZCo hk,hL']
def ltK(rs:List Row)(i j:Nat):Bool:=decide (col Row.rank rs i<col Row.rank rs j∨(col Row.rank rs i=col Row.rank rs j/\i<j))
theorem ZGL(rs:List Row):WO (ltK rs) where
 asy:=λi j h=>by simp only[ltK,decide_eq_true_eq,decide_eq_false_iff_not]at h⊢;lia
 neg:=λi j k h=>by simp only[ltK,decide_eq_true_eq]at h⊢;lia
def ord(rs:List Row):List Nat:=if rs.length<2 then zZ rs.length else(Cw (ltK rs) (PySem.W.kas_sort rs.length)).toList
theorem ZCe(rs:List Row):(ord rs).Perm (zZ rs.length):=by
 unfold ord;split
 ·exact .refl _
 ·exact(ZKI (ZGL rs) (by lia)).1
theorem ZKS{k:Nat}(h:k∈ord rs):k<rs.length:=by have:=(ZCe rs).mem_iff.mp h;simpa using this
theorem ZEr(rs:List Row):(ord rs).length=rs.length:=by rw[(ZCe rs).length_eq];simp
theorem ZIl{n:Nat}{lt lt':Nat->Nat->Bool}(h:∀i j,i<n->j<n->lt i j=lt' i j){P:α->Prop}:∀{t:PySem.W.KasT α},Safe n P t->Cw lt t=Cw lt' t
 |.ret _,_=>rfl
 |.ask i j k,hs=>by show Cw lt (k (lt i j))=Cw lt' (k (lt' i j));rw[h i j hs.1 hs.2.1];exact ZIl h (hs.2.2 _)
noncomputable def Gd(rs:List Row)(k:Nat):D:=.tup [.int (col Row.rank rs k),.int k]
theorem ZGW(i j:Nat):ltD (Gd rs i) (Gd rs j)=vE (ltK rs i j):=by
 have e:ltD (Gd rs i) (Gd rs j)=if col Row.rank rs i=col Row.rank rs j then(if(i:Int)=j then vE vH else vE (decide ((i:Int)<j)))else vE (decide (col Row.rank rs i<col Row.rank rs j)):=rfl
 rw[e];by_cases h:col Row.rank rs i=col Row.rank rs j
 ·rw[if_pos h];by_cases h2:(i:Int)=j
  ·rw[if_pos h2]
   congr 1
   simp only[ltK]
   symm
   simp only[decide_eq_false_iff_not];lia
  ·rw[if_neg h2]
   congr 1
   simp only[ltK];rw[decide_eq_decide];lia
 ·rw[if_neg h]
  congr 1
  simp only[ltK];rw[decide_eq_decide];lia
def Hy(rs:List Row):List D:=(zZ rs.length).map (Gd rs)
theorem ZC5(h:i<rs.length):(Hy rs).getD i .non=Gd rs i:=by unfold Hy;rw[zD,zx,zL h];rfl
theorem ZGO(rs:List Row):Ly (Hy rs)=(ord rs).map (Gd rs):=by
 have hl:(Hy rs).length=rs.length:=by simp[Hy]
 unfold Ly ord;rw[hl];split
 ·rfl
 ·rename_i h;have e:Cw (ltI (Hy rs)) (PySem.W.kas_sort rs.length)=Cw (ltK rs) (PySem.W.kas_sort rs.length):=
   ZIl (n:=rs.length) (λi j hi hj=>by unfold ltI;rw[ZC5 hi,ZC5 hj,ZGW];rfl) (ZQL (by lia))
  rw[e];refine qk λi hi=>?_
  have hp:=(ZKI (ZGL rs) (n:=rs.length) (by lia)).1;exact ZC5 (by simpa using hp.mem_iff.mp hi)
theorem ZTJ(rs:List Row):Q3 (Hy rs)=vG:=by
 unfold Q3 Hy;rw[zC,j9];refine⟨.inl ?_,?_⟩
 ·rw[qK];intro x hx;obtain⟨i,_,rfl⟩:=zH.mp hx
  rfl
 ·rw[qK];intro x hx;rw[qK];intro y hy;obtain⟨i,_,rfl⟩:=zH.mp hx;obtain⟨j,_,rfl⟩:=zH.mp hy;rw[ZGW];rfl
@[simp]theorem ZNQ:bels m (ws.map (Gd rs))=vG:=Ga λ_ _=>by simp[Gd]
theorem ZTE(hl:rs.length<=40)(G:DH):Yh [.fl (rs.map Row.enc)] G=.ok (.ref G.length) (G++[.lst (Bf (ord rs))]):=by
 have he:∀j,Ew 0 (.fl (rs.map Row.enc)) j G=vE ((zZ rs.length).map λ(k:Nat)=>D.tup [.int (k:Int),Lq rs k])[j]? :=λj=>by
  rw[ZAa,Et,ZJx,List.zipIdx_map,qF]
  congr 2
  refine qA (by simp) λi h1 h2=>by simp
 let F:D->Option D:=λd=>match d with
  |.tup [.int k,.tup [_,_,_,.int r]]=>vE (.tup [.int r,.int k])
  |_=>vF
 have hc:Ds (Ew 0 (.fl (rs.map Row.enc))) (Bg 2 (Am (gV 0) (Am (gV 1) Bk))) Cd ZCl (Bm 2 [] [vE (.fl (rs.map Row.enc)),vF]) rs.length 0 G=.ok (Hy rs) G:=by
  rw[Yg (F:=F) he (λx hx=>?_) (by simp)]
  ·congr 1
   rw[qX];show(zZ rs.length).filterMap (λi=>vE (Gd rs i))=_;rw[qz]
   rfl
  ·obtain⟨i,_,rfl⟩:=zH.mp hx;refine⟨[vE (.int i),vE (Lq rs i)],by simp[Bm],.inr ⟨rfl,Gd rs i,?_,rfl⟩⟩;unfold ZCl;simp[Lq,Gd,Bb]
 let F2:D->Option D:=λd=>match d with
  |.tup [_,k]=>vE k
  |_=>vF
 have hc2:∀S,Dt (Bg 2 (Am (gV 0) (Am (gV 1) Bk))) Cd ZAy (Bm 2 [] S) ((ord rs).map (Gd rs)) G=.ok (Bf (ord rs)) G:=λS=>by
  rw[Yp (F:=F2) (λx hx=>?_)]
  ·congr 1
   rw[qX];show(ord rs).filterMap (λ(i:Nat)=>vE (D.int (i:Int)))=_;rw[qz]
   rfl
  ·obtain⟨i,_,rfl⟩:=zH.mp hx;refine⟨[vE (.int (col Row.rank rs i)),vE (.int i)],by simp[Bm,Gd],.inr ⟨rfl,.int i,?_,rfl⟩⟩;unfold ZAy;simp
 have hkl:(Hy rs).length=rs.length:=by simp[Hy]
 have hl2:rs.length<=1000000:=by lia
 have hs:∀G,Rb [.fl (Hy rs)] G=.ok (.ref G.length) (G++[.lst ((ord rs).map (Gd rs))]):=λG=>by have h1:Ir (.fl (Hy rs)) G=vE (Hy rs):=rfl;simp only[Rb,h1];rw[if_pos ⟨⟨by rw[hkl];lia,by rw[ZGO];simp[ZEr];lia⟩,ZTJ rs⟩,ZGO]
 have hbk:bels G.length (Hy rs)=vG:=ZNQ;have hol:=ZEr rs;have hl3:(ord rs).length<=1000000:=by lia
 unfold Yh ZEg;rw[Br];simp[hc,Av,hkl,hl2,Fd,hbk,hs,hc2,hl3,Gb]
noncomputable def wmin(P:Nat->Int):List Nat->Int
 |[]=>0
 |k::r=>(r.map P).foldl min (P k)
theorem ZOq{b:Nat}(h:b∈ws):wmin P ws<=P b:=by
 cases ws with
 |nil=>cases h
 |cons k r=>
  obtain⟨h1,h2,_⟩:=ZAb (r.map P) (P k);rcases zw.mp h with rfl|h
  ·exact h1
  ·exact h2 _ (zH.mpr ⟨b,h,rfl⟩)
theorem ZQT(h:ws≠[]):∃b∈ws,wmin P ws=P b:=by
 cases ws with
 |nil=>exact absurd rfl h
 |cons k r=>
  obtain⟨_,_,h3⟩:=ZAb (r.map P) (P k);rcases h3 with h3|h3
  ·exact⟨k,zW,h3⟩
  ·obtain⟨b,hb,e⟩:=zH.mp h3;exact⟨b,zX _ hb,e.symm⟩
noncomputable def Jk(P:Nat->Int)(ws:List Nat)(t:Int):Nat->Int:=λi=>if i∈ws then P i-t else P i
noncomputable def Vm(P:Nat->Int)(t:Int)(ws:List Nat):Nat->Int:=ws.foldl (λP b=>fset P b (P b-t)) P
theorem ZEm:∀{ws:List Nat}{P:Nat->Int},ws.Nodup->Vm P t ws=Jk P ws t
 |[],P,_=>by funext i;simp[Vm,Jk]
 |b::ws,P,h=>by
  obtain⟨h1,h2⟩:=qD.mp h;show Vm (fset P b (P b-t)) t ws=_;rw[ZEm h2];funext i;by_cases e:i=b
  ·subst e;simp[Jk,fset,h1]
  ·simp[Jk,fset,e]
theorem ZHM(hR:Reach rs):∀(m k:Nat),rs.length<=m+k->k<rs.length->∀b∈way rs k,k<=b/\b<rs.length
 |0,k,h,hk,b,hb=>by lia
 | m+1,k,h,hk,b,hb=>by
  rw[Jw hR]at hb;rcases zw.mp hb with rfl|hb
  ·lia
  ·cases hd:De rs k with
   |none=>rw[hd]at hb;cases hb
   |some d=>
    have:=Jp hR hd;rw[hd]at hb;have:=ZHM hR m d (by lia) (by lia) b hb;lia
theorem Zy(hR:Reach rs){k b:Nat}(hk:k<rs.length)(hb:b∈way rs k):k<=b/\b<rs.length:=ZHM hR rs.length k (by lia) hk b hb
theorem ZGj(hR:Reach rs):∀(m k:Nat),rs.length<=m+k->(way rs k).Nodup
 |0,k,h=>by rw[Jw hR,ZKj (by lia)];simp[K1]
 | m+1,k,h=>by
  rw[Jw hR];cases hd:De rs k with
  |none=>simp[K1]
  |some d=>
   have hlt:=Jp hR hd;refine qD.mpr ⟨λhm=>?_,ZGj hR m d (by lia)⟩;have:=Zy hR hlt.2 hm;lia
theorem ZOL(hR:Reach rs)(k:Nat):(way rs k).Nodup:=ZGj hR rs.length k (by lia)
theorem ZH3(hR:Reach rs):∀(m k:Nat),rs.length<=m+k->(way rs k).length<=m+1
 |0,k,h=>by rw[Jw hR,ZKj (by lia)];simp[K1]
 | m+1,k,h=>by
  rw[Jw hR];cases hd:De rs k with
  |none=>simp[K1]
  |some d=>
   have hlt:=Jp hR hd;have:=ZH3 hR m d (by lia);show(way rs d).length+1<=_;lia
def take1(rs:List Row)(P:Nat->Int)(k:Nat):Int:=min (col Row.need rs k) (wmin P (way rs k))
def srv(rs:List Row):List Nat->(Nat->Int)->(Nat->Int)->(Nat->Int)×(Nat->Int)
 |[],P,T=>(P,T)
 |k::ks,P,T=>srv rs ks (Jk P (way rs k) (take1 rs P k)) (fset T k (take1 rs P k))
def shr(rs:List Row):Nat->Int:=(srv rs (ord rs) (gath rs (col Row.water rs)) λ_=>0).2
noncomputable def pD(P:Nat->Int)(ws:List Nat):List D:=ws.map λi=>D.int (P i)
@[simp]theorem ZUD:(pD P ws).length=ws.length:=by simp[pD]
@[simp]theorem ZNg:bels m (pD P ws)=vG:=Ga λ_ _=>rfl
theorem ZKb{a b c d e:Option D}{t:Int}{A:DO}{G:DH}:∀(ws:List Nat)(P:Nat->Int)(x:Option D),(∀b∈ws,b<rs.length)->∃x',
  Bo (gV 6) Xf (Bf ws) [a,b,vE (.ref (G.length+1)),c,d,vE (.int t),x] (G++[A,.lst (tab rs.length P)])=.nx [a,b,vE (.ref (G.length+1)),c,d,vE (.int t),x'] (G++[A,.lst (tab rs.length (Vm P t ws))])
 |[],P,x,h=>⟨x,rfl⟩
 |w::ws,P,x,h=>by
  obtain⟨x',ih⟩:=ZKb (a:=a) (b:=b) (c:=c) (d:=d) (e:=e) (t:=t) (A:=A) (G:=G) ws (fset P w (P w-t)) (vE (.int w)) λb hb=>h b (zX _ hb)
  refine⟨x',?_⟩;have hw:=h w zW;have g0:(G++[A,DO.lst (tab rs.length P)])[G.length+1]?=vE (.lst (tab rs.length P)):=Vl _ 1;have hse:∀(L:DH)o,(G++L).set (G.length+1) o=G++L.set 1 o:=λL o=>ZDI L 1 o
  have hb:Xf [a,b,vE (.ref (G.length+1)),c,d,vE (.int t),vE (.int w)] (G++[A,.lst (tab rs.length P)])=.nx [a,b,vE (.ref (G.length+1)),c,d,vE (.int t),vE (.int w)] (G++[A,.lst (tab rs.length (fset P w (P w-t)))]):=by unfold Xf;simp[ZAO g0 (Hc hw),g0,hse,Jq,hw,R1]
  show Bo _ _ (.int w::Bf ws) _ _=_;rw[Dh];simp only[Dq,R.Dl,qJ,hb,Ea];exact ih
theorem ZFX{rs:List Row}(hR:Reach rs)(hl:rs.length<=40){G:DH}:∀(ks:List Nat)(P T:Nat->Int)(x y z w:Option D),(∀k∈ks,k<rs.length)->∃x' y' z' w',
  Bo (gV 3) Rt (Bf ks) [vE (.fl (rs.map Row.enc)),vE (.ref G.length),vE (.ref (G.length+1)),x,y,z,w] (G++[.lst (tab rs.length T),.lst (tab rs.length P)])=
   .nx [vE (.fl (rs.map Row.enc)),vE (.ref G.length),vE (.ref (G.length+1)),x',y',z',w'] (G++[.lst (tab rs.length (srv rs ks P T).2),.lst (tab rs.length (srv rs ks P T).1)])
 |[],P,T,x,y,z,w,h=>⟨x,y,z,w,rfl⟩
 | k::ks,P,T,x,y,z,w,h=>by
  have hk:=h k zW;have hwl:∀b∈way rs k,b<rs.length:=λb hb=>(Zy hR hk hb).2
  obtain⟨w1,hsub⟩:=ZKb (rs:=rs) (a:=vE (.fl (rs.map Row.enc))) (b:=vE (.ref G.length)) (c:=vE (.int k)) (d:=vE (.fl (Bf (way rs k)))) (e:=vF) (t:=take1 rs P k) (A:=.lst (tab rs.length (fset T k (take1 rs P k)))) (G:=G) (way rs k) P w hwl;rw[ZEm (ZOL hR k)]at hsub;obtain⟨x',y',z',w',ih⟩:=ZFX hR hl (G:=G) ks (Jk P (way rs k) (take1 rs P k)) (fset T k (take1 rs P k)) (vE (.int k)) (vE (.fl (Bf (way rs k)))) (vE (.int (take1 rs P k))) w1 λj hj=>h j (zX _ hj)
  refine⟨x',y',z',w',?_⟩;have g0:(G++[DO.lst (tab rs.length T),DO.lst (tab rs.length P)])[G.length+1]?=vE (.lst (tab rs.length P)):=Vl _ 1;have hcomp:Dt (gV 0) Cd ZDF (Bm 1 [2] [vE (.fl (rs.map Row.enc)),vE (.ref G.length),vE (.ref (G.length+1)),vE (.int k),vE (.fl (Bf (way rs k))),z,w]) (Bf (way rs k)) (G++[DO.lst (tab rs.length T),DO.lst (tab rs.length P)])=.ok (pD P (way rs k)) (G++[DO.lst (tab rs.length T),DO.lst (tab rs.length P)]):=by
   rw[Yp (F:=λd=>match d with | .int i=>vE (.int (P i.toNat))|_=>vF) (λq hq=>?_)]
   ·congr 1
    unfold Bf;rw[qX];show(way rs k).filterMap (λ(i:Nat)=>vE (D.int (P ((i:Int).toNat))))=_;rw[qz];simp[pD]
   ·obtain⟨i,hi,rfl⟩:=zH.mp hq;refine⟨[vE (.int i),vE (.ref (G.length+1))],by simp[Bm],.inr ⟨rfl,.int (P i),?_,by simp⟩⟩;unfold ZDF;simp[g0,Hc (hwl i hi)]
  have hwn:(way rs k).length<=1000000:=by have h1:=ZH3 hR rs.length k (by lia);lia
  have hmin:∀G,Jz [.fl (pD P (way rs k))] G=.ok (.int (wmin P (way rs k))) G:=λG=>by rw[Jw hR];exact ZJc (n:=P k) (ns:=(K1 rs (De rs k)).map P) (by simp[pD])
  have hfr:freeze (G++[DO.lst (tab rs.length T),DO.lst (tab rs.length P)]) (.ok (.ref (G.length+2)) (G++[DO.lst (tab rs.length T),DO.lst (tab rs.length P),.lst (pD P (way rs k))]))=.ok (.fl (pD P (way rs k))) (G++[DO.lst (tab rs.length T),DO.lst (tab rs.length P)]):=ZBi ZNg;have hfw:freeze (G++[DO.lst (tab rs.length T),DO.lst (tab rs.length P)]) (.ok (.ref (G.length+2)) (G++[DO.lst (tab rs.length T),DO.lst (tab rs.length P),.lst (Bf (way rs k))]))=.ok (.fl (Bf (way rs k))) (G++[DO.lst (tab rs.length T),DO.lst (tab rs.length P)]):=ZBi ZFB
  have hb:Rt [vE (.fl (rs.map Row.enc)),vE (.ref G.length),vE (.ref (G.length+1)),vE (.int k),y,z,w] (G++[.lst (tab rs.length T),.lst (tab rs.length P)])=
    .nx [vE (.fl (rs.map Row.enc)),vE (.ref G.length),vE (.ref (G.length+1)),vE (.int k),vE (.fl (Bf (way rs k))),vE (.int (take1 rs P k)),w1] (G++[.lst (tab rs.length (fset T k (take1 rs P k))),.lst (tab rs.length (Jk P (way rs k) (take1 rs P k)))]):=by
   unfold Rt;have ht1:min (col Row.need rs k) (wmin P (way rs k))=take1 rs P k:=rfl;simp[ZSm hR hl hk,hfw,ZCo hk,hcomp,Av,hwn,hfr,hmin,ht1,Eg,Ft,Jq,hk,R1,hsub]
  show Bo _ _ (.int k::Bf ks) _ _=_;rw[Dh];simp only[Dq,R.Dl,qJ,hb,Ea];exact ih
theorem ZPR(hR:Reach rs)(hl:rs.length<=40)(G:DH):ZAQ [.fl (rs.map Row.enc)] G=.ok (.ref G.length) (G++[.lst (tab rs.length (shr rs))]):=by
 have hz:zV rs.length (D.int 0)=tab rs.length λ_=>0:=by unfold tab;refine qA (by simp) λi h1 h2=>by simp
 have hrep:Li (.ref G.length) (.int (rs.length:Int)) (G++[.lst [.int 0]])=.ok (.ref (G.length+1)) (G++[.lst [.int 0],.lst (tab rs.length λ_=>0)]):=by rw[ZIZ (d:=.int 0) (by rw[Eg];rfl) (by lia),hz];simp
 have ht1:tidy G (.ok (.ref (G.length+1)) (G++[.lst [.int 0],.lst (tab rs.length λ_=>0)]))=.ok (.ref G.length) (G++[.lst (tab rs.length λ_=>0)]):=ZET _ (k:=1) rfl Jl;have hp:Qn [.fl (rs.map Row.enc),.ref G.length] (G++[.lst (tab rs.length λ_=>0)])=.ok (.ref (G.length+1)) (G++[.lst (tab rs.length λ_=>0),.lst (tab rs.length (gath rs (col Row.water rs)))]):=by rw[ZFa hR hl (T:=λ_=>0) (ZSv (by rw[Eg];rfl))];simp
 have ht2:tidy (G++[.lst (tab rs.length λ_=>0)]) (.ok (.ref (G.length+1)) (G++[.lst (tab rs.length λ_=>0),.lst (tab rs.length (gath rs (col Row.water rs)))]))=.ok (.ref (G.length+1)) (G++[.lst (tab rs.length λ_=>0),.lst (tab rs.length (gath rs (col Row.water rs)))]):=ZJW Jl;have hfs:freeze (G++[.lst (tab rs.length λ_=>0),.lst (tab rs.length (gath rs (col Row.water rs)))]) (.ok (.ref (G.length+2)) (G++[.lst (tab rs.length λ_=>0),.lst (tab rs.length (gath rs (col Row.water rs))),.lst (Bf (ord rs))]))=.ok (.fl (Bf (ord rs))) (G++[.lst (tab rs.length λ_=>0),.lst (tab rs.length (gath rs (col Row.water rs)))]):=ZBi ZFB
 obtain⟨x',y',z',w',hL⟩:=ZFX hR hl (G:=G) (ord rs) (gath rs (col Row.water rs)) (λ_=>0) vF vF vF vF λk hk=>ZKS hk
 have hfin:∀A,tidy G (.ok (.ref G.length) (G++[.lst (tab rs.length (shr rs)),A]))=.ok (.ref G.length) (G++[.lst (tab rs.length (shr rs))]):=λA=>Gb Jl
 have hL':Bo (gV 3) Rt (Bf (ord rs)) [vE (.fl (rs.map Row.enc)),vE (.ref G.length),vE (.ref (G.length+1)),vF,vF,vF,vF] (G++[.lst (tab rs.length λ_=>0),.lst (tab rs.length (gath rs (col Row.water rs)))])=
   .nx [vE (.fl (rs.map Row.enc)),vE (.ref G.length),vE (.ref (G.length+1)),x',y',z',w'] (G++[.lst (tab rs.length (shr rs)),.lst (tab rs.length (srv rs (ord rs) (gath rs (col Row.water rs)) λ_=>0).1)]):=hL
 unfold ZAQ ZI0;rw[Br];simp[Av,hrep,ht1,hp,ht2,ZTE hl,hfs,hL',hfin]
noncomputable def ind(t:Int)(ws:List Nat):Nat->Int:=λi=>if i∈ws then t else 0
theorem ZC6(hR:Reach rs){k:Nat}:∀(m j:Nat)(A:Nat->Int),k<j->gat rs m j (λi=>A i+ind t [k] i)=λi=>gat rs m j A i+ind t [k] i
 |0,j,A,h=>rfl
 | m+1,j,A,h=>by
  unfold gat;have e:gstep (λi=>A i+ind t [k] i) j (De rs j)=λi=>gstep A j (De rs j) i+ind t [k] i:=by
   cases hd:De rs j with
   |none=>rfl
   |some d=>
    have:=Jp hR hd;funext i;simp only[gstep,fset,ind,qI];have h1:j≠k:=by lia
    have h2:d≠k:=by lia
    by_cases hi:i=d
    ·subst hi;simp[h1,h2]
    ·simp[hi]
  rw[e,ZC6 hR m (j+1) _ (by lia)]
theorem ZEH(hR:Reach rs):∀(m j k:Nat)(A:Nat->Int),j+m=rs.length->j<=k->k<rs.length->gat rs m j (λi=>A i+ind t [k] i)=λi=>gat rs m j A i+ind t (way rs k) i
 |0,j,k,A,h,h1,h2=>by lia
 | m + 1,j,k,A,h,h1,h2=>by
  unfold gat;by_cases hjk:j<k
  ·have e:gstep (λi=>A i+ind t [k] i) j (De rs j)=λi=>gstep A j (De rs j) i+ind t [k] i:=by
    cases hd:De rs j with
    |none=>rfl
    |some d=>
     funext i;simp only[gstep,fset,ind,qI];have h3:j≠k:=by lia
     by_cases hi:i=d
     ·subst hi;simp[h3];split <;> lia
     ·simp[hi]
   rw[e,ZEH hR m (j+1) k _ (by lia) (by lia) h2]
  ·have ej:j=k:=by lia
   subst ej;cases hd:De rs j with
   |none=>
    have hw:way rs j=[j]:=by rw[Jw hR,hd];rfl
    show gat rs m (j+1) (λi=>A i+ind t [j] i)=_;rw[ZC6 hR m (j+1) A (by lia),hw]
    rfl
   | some d=>
    have hlt:=Jp hR hd;have hw:way rs j=j::way rs d:=by rw[Jw hR,hd];rfl
    have e:gstep (λi=>A i+ind t [j] i) j (vE d)=λi=>(gstep A j (vE d) i+ind t [d] i)+ind t [j] i:=by
     funext i;simp only[gstep,fset,ind,qI];have h3:d≠j:=by lia
     by_cases hi:i=d
     ·subst hi;simp[h3];lia
     ·simp[hi]
    rw[e,ZC6 hR m (j+1) _ (by lia),ZEH hR m (j+1) d _ (by lia) (by lia) hlt.2];funext i;have hnj:j∉way rs d:=λhm=>by have:=Zy hR hlt.2 hm;lia
    simp only[ind,hw,zw,qI];by_cases hi:i=j
    ·subst hi;simp[hnj]
    ·simp[hi]
theorem ZRL(hR:Reach rs){W:Nat->Int}{k:Nat}(hk:k<rs.length)(h0:T k=0):gath rs (λi=>W i-fset T k t i)=Jk (gath rs λi=>W i-T i) (way rs k) t:=by
 have e:(λi=>W i-fset T k t i)=λi=>(W i-T i)+ind (-t) [k] i:=by
  funext i;simp only[fset,ind,qI];by_cases hi:i=k
  ·subst hi;simp[h0];lia
  ·simp[hi]
 rw[e];show gat rs rs.length 0 _=_;rw[ZEH hR rs.length 0 k _ (by lia) (by lia) hk];funext i;simp only[ind,Jk,gath]
 split <;> lia
theorem ZEp:∀(m k:Nat)(F:Nat->Int),(∀i,0<=F i)->∀i,0<=gat rs m k F i
 |0,k,F,h,i=>h i
 | m+1,k,F,h,i=>by
  refine ZEp m (k+1) _ (λj=>?_) i;cases De rs k with
  |none=>exact h j
  |some d=>
   simp only[gstep,fset];have:=h d;have:=h k;have:=h j
   split <;> lia
structure SI (rs:List Row) (P T:Nat->Int):Prop where
 pg:P=gath rs λi=>col Row.water rs i-T i
 t0:∀i,0<=T i
 tn:∀i,T i<=col Row.need rs i
 p0:∀i,i<rs.length->0<=P i
theorem ZSx(h:∀b∈ws,0<=P b):0<=wmin P ws:=by
 cases ws with
 |nil=>exact qq _
 |cons k r=>
  obtain⟨b,hb,e⟩:=ZQT (P:=P) (ws:=k::r) (by simp);rw[e];exact h b hb
theorem SI.take(hR:Reach rs)(s:SI rs P T){k:Nat}(hk:k<rs.length):0<=take1 rs P k/\take1 rs P k<=col Row.need rs k/\∀b∈way rs k,take1 rs P k<=P b:=by
 have h1:0<=wmin P (way rs k):=ZSx λb hb=>s.p0 b (Zy hR hk hb).2
 have h2:=hR.need k;unfold take1;refine⟨by lia,by lia,λb hb=>?_⟩;have:=ZOq (P:=P) hb;lia
theorem SI.step(hR:Reach rs)(s:SI rs P T){k:Nat}(hk:k<rs.length)(h0:T k=0):SI rs (Jk P (way rs k) (take1 rs P k)) (fset T k (take1 rs P k)):=by
 obtain⟨a,b,c⟩:=s.take hR hk;refine⟨?_,λi=>?_,λi=>?_,λi hi=>?_⟩
 ·rw[ZRL hR hk h0,<-s.pg]
 ·simp only[fset];split
  ·exact a
  ·exact s.t0 i
 ·simp only[fset];split
  ·rename_i e;rw[e];exact b
  ·exact s.tn i
 ·simp only[Jk];split
  ·rename_i hm;have:=c i hm;lia
  ·exact s.p0 i hi
theorem SI.run(hR:Reach rs):∀(ks:List Nat)(P T:Nat->Int),SI rs P T->ks.Nodup->(∀k∈ks,k<rs.length/\T k=0)->SI rs (srv rs ks P T).1 (srv rs ks P T).2
 |[],P,T,s,_,_=>s
 |k::ks,P,T,s,nd,h=>by
  obtain⟨n1,n2⟩:=qD.mp nd;obtain⟨hk,h0⟩:=h k zW;refine SI.run hR ks _ _ (s.step hR hk h0) n2 λj hj=>?_
  obtain⟨hj1,hj2⟩:=h j (zX _ hj);have:j≠k:=λe=>n1 (e▸hj)
  exact⟨hj1,by simp[fset,this,hj2]⟩
theorem ZMj(rs:List Row):(ord rs).Nodup:=(ZCe rs).nodup_iff.mpr List.nodup_range
theorem SI.first(hR:Reach rs):SI rs (gath rs (col Row.water rs)) λ_=>0:=
 ⟨by simp,λ_=>qq _,hR.need,λi _=>ZEp _ _ _ hR.water i⟩
theorem ZM7(hR:Reach rs):SI rs (srv rs (ord rs) (gath rs (col Row.water rs)) λ_=>0).1 (shr rs):=
 SI.run hR (ord rs) _ _ (SI.first hR) (ZMj rs) λk hk=>⟨ZKS hk,rfl⟩
theorem rp:¬(("pump":Str)="river"):=by decide
theorem pr:¬(("river":Str)="pump"):=by decide
structure Stp where
 h:Int
 m:Int
 r:Bool
variable{st:List Stp}
noncomputable def wy(r:Bool):Str:=if r then "river" else "pump"
noncomputable def Stp.enc(s:Stp):D:=.tup [.int s.h,.int s.m,.str (wy s.r)]
@[simp]theorem ZT3{n:Nat}:bels n (st.map Stp.enc)=vG:=Ga λs _=>by simp[Stp.enc]
@[simp]theorem ZTr{r:Bool}:(wy r="river")=(r=vG):=by
 cases r
 ·exact propext ⟨λh=>absurd h rp,λh=>by cases h⟩
 ·exact propext ⟨λh=>rfl,λ_=>rfl⟩
@[simp]theorem ZUm{r:Bool}:(wy r="pump")=(r=vH):=by
 cases r
 ·exact propext ⟨λh=>rfl,λ_=>rfl⟩
 ·exact propext ⟨λh=>absurd h pr,λh=>by cases h⟩
noncomputable abbrev Ssn:=Int×List Stp
noncomputable def Cq(s:Ssn):D:=.tup [.int s.1,.tup (s.2.map Stp.enc)]
@[simp]theorem ZUa{n:Nat}{ss:List Ssn}:bels n (ss.map Cq)=vG:=Ga λs _=>by simp[Cq]
noncomputable def held(t:Int):List Ssn->List Stp->List Stp
 |[],h=>h
 |s::r,h=>held t r (if s.1<=t then s.2 else h)
theorem ZHo{c:D}{t:Int}{G:DH}:∀{ss:List Ssn}{h:List Stp}{a b:Option D},∃a' b',Bo (Bg 2 (Am (gV 3) (Am (gV 4) Bk))) Yo (ss.map Cq) [vE c,vE (.int t),vE (.tup (h.map Stp.enc)),a,b] G=
  .nx [vE c,vE (.int t),vE (.tup ((held t ss h).map Stp.enc)),a',b'] G
 |[],h,a,b=>⟨a,b,by rw[jC,Ed];rfl⟩
 | s::r,h,a,b=>by
  obtain⟨a',b',ih⟩:=ZHo (c:=c) (t:=t) (G:=G) (ss:=r) (h:=if s.1<=t then s.2 else h) (a:=vE (.int s.1)) (b:=vE (.tup (s.2.map Stp.enc)));refine⟨a',b',?_⟩;have hb:Yo [vE c,vE (.int t),vE (.tup (h.map Stp.enc)),vE (.int s.1),vE (.tup (s.2.map Stp.enc))] G=.nx [vE c,vE (.int t),vE (.tup ((if s.1<=t then s.2 else h).map Stp.enc)),vE (.int s.1),vE (.tup (s.2.map Stp.enc))] G:=by
   unfold Yo
   by_cases h1:s.1<=t<;>simp[h1]
  rw[zk,Dh];simp only[Cq,Q5,Qc,Pk,Dq,R.Ji,R.Dl,qJ,hb,Ea,zO,qN,Nat.reduceAdd,if_true];exact ih
theorem c_at{ss:List Ssn}:Zn [.tup (ss.map Cq),.int t] G=.ok (.tup ((held t ss []).map Stp.enc)) G:=by obtain⟨a,b,h⟩:=ZHo (c:=.tup (ss.map Cq)) (t:=t) (G:=G) (ss:=ss) (h:=[]) (a:=vF) (b:=vF);unfold Zn ZKE;rw[Br];simp at h;simp[h,By]
noncomputable def cub(w:Int)(s:Stp):Int:=max 0 (min s.m (w-s.h))
def rv(w:Int):List Stp->Int
 |[]=>0
 |s::r=>(if s.r then cub w s else 0)+rv w r
def pm(w:Int):List Stp->Int
 |[]=>0
 |s::r=>(if s.r then 0 else cub w s)+pm w r
theorem ZH8{c:D}{w:Int}{G:DH}:∀{st:List Stp}{a b:Int}{e f g h:Option D},∃e' f' g' h',Bo (Bg 3 (Am (gV 4) (Am (gV 5) (Am (gV 6) Bk)))) Ws (st.map Stp.enc) [vE c,vE (.int w),vE (.int a),vE (.int b),e,f,g,h] G=
  .nx [vE c,vE (.int w),vE (.int (a+rv w st)),vE (.int (b+pm w st)),e',f',g',h'] G
 |[],a,b,e,f,g,h=>⟨e,f,g,h,by simp[Ed,rv,pm]⟩
 | s::r,a,b,e,f,g,h=>by
  obtain⟨e',f',g',h',ih⟩:=ZH8 (c:=c) (w:=w) (G:=G) (st:=r) (a:=a+(if s.r then cub w s else 0)) (b:=b+(if s.r then 0 else cub w s)) (e:=vE (.int s.h)) (f:=vE (.int s.m)) (g:=vE (.str (wy s.r))) (h:=vE (.int (cub w s)));refine⟨e',f',g',h',?_⟩;have hb:Ws [vE c,vE (.int w),vE (.int a),vE (.int b),vE (.int s.h),vE (.int s.m),vE (.str (wy s.r)),h] G=.nx [vE c,vE (.int w),vE (.int (a+(if s.r then cub w s else 0))),vE (.int (b+(if s.r then 0 else cub w s))),vE (.int s.h),vE (.int s.m),vE (.str (wy s.r)),vE (.int (cub w s))] G:=by
   unfold Ws cub
   cases s.r<;>simp
  rw[zk,Dh];simp[Stp.enc,hb];rw[ih];simp[rv,pm,Int.add_assoc]
theorem ZEt{w:Int}:X8 [.tup (st.map Stp.enc),.int w] G=.ok (.tup [.int (rv w st),.int (pm w st),.int (w-rv w st-pm w st)]) G:=by obtain⟨e,f,g,h,hl⟩:=ZH8 (c:=.tup (st.map Stp.enc)) (w:=w) (G:=G) (st:=st) (a:=0) (b:=0) (e:=vF) (f:=vF) (g:=vF) (h:=vF);unfold X8 ZKk;rw[Br];simp at hl;simp[hl,By]
inductive Kd where
 |basin (brim:Int) (rule:List Ssn) (pump:Option (Nat×Nat×Int))
 |town (need rank:Int)
 |mill (most:Int)
structure Pl where
 nm:Str
 dn:Option Nat
 dl:Nat
 kd:Kd
noncomputable def ZEa:Pl:=⟨"",vF,0,.mill 0⟩
structure Hs where
 yr:Int
 ps:List Pl
variable{h:Hs}
noncomputable def Kd.txt:Kd->Str
 |.basin ..=>"basin"
 |.town ..=>"town"
 |.mill ..=>"mill"
noncomputable def Kd.isB:Kd->Bool
 |.basin ..=>vG
 |_=>vH
noncomputable def Kd.isT:Kd->Bool
 |.town ..=>vG
 |_=>vH
def Hs.pl(h:Hs)(k:Nat):Pl:=h.ps.getD k ZEa
noncomputable def Hs.n(h:Hs):Nat:=h.ps.length
def Hs.dnT(h:Hs):Option Nat->Str
 |none=>"sea"
 |some d=>(h.pl d).nm
def Hs.O2(h:Hs):Option (Nat×Nat×Int)->D
 |none=>.non
 |some (to,dl,m)=>.tup [.str (h.pl to).nm,.int dl,.int m]
def Hs.encP(h:Hs)(p:Pl):D:=match p.kd with
 |.basin b r q=>.tup [.str "basin",.str p.nm,.str (h.dnT p.dn),.int p.dl,.int b,.tup (r.map Cq),h.O2 q]
 |.town a b=>.tup [.str "town",.str p.nm,.str (h.dnT p.dn),.int p.dl,.int a,.int b]
 |.mill a=>.tup [.str "mill",.str p.nm,.str (h.dnT p.dn),.int p.dl,.int a]
def Hs.Dp(h:Hs):List D:=h.ps.map h.encP
def Hs.enc(h:Hs):D:=.tup [.int h.yr,.tup h.Dp]
def Good:Int->List Stp->Prop
 |_,[]=>True
 |t,s::r=>t<=s.h/\1<=s.m/\Good (s.h+s.m) r
structure GoodH (h:Hs):Prop where
 yr:0<h.yr
 len:h.n<=12
 inj:∀i j,i<h.n->j<h.n->(h.pl i).nm=(h.pl j).nm->i=j
 sea:∀i,i<h.n->(h.pl i).nm≠"sea"
 dn:∀k d,k<h.n->(h.pl k).dn=vE d->k<d/\d<h.n
 dl:∀k,k<h.n->(h.pl k).dl<=5
 pump:∀k b r to dl m,k<h.n->(h.pl k).kd=.basin b r (vE (to,dl,m))->to<h.n/\1<=dl/\dl<=5
 brim:∀k b r q,k<h.n->(h.pl k).kd=.basin b r q->0<=b/\∀s∈r,Good 0 s.2
 town:∀k a b,k<h.n->(h.pl k).kd=.town a b->0<=a/\0<=b
theorem Hs.K3:h.Dp.length=h.n:=by simp[Hs.Dp,Hs.n]
theorem Hs.ZKN{k:Nat}(hk:k<h.n):h.Dp[k]?=vE (h.encP (h.pl k)):=by unfold Hs.Dp Hs.pl;rw[zx,zJ hk];simp[zD,zJ hk]
theorem Hs.Fo{k:Nat}(hk:k<h.n):atI h.Dp (k:Int)=vE (h.encP (h.pl k)):=Fb rfl (Hs.ZKN hk)
theorem Hs.ZOD{n:Nat}{q:Option (Nat×Nat×Int)}:bel n (h.O2 q)=vG:=by
 cases q with
 |none=>rfl
 |some x=>obtain⟨a,b,c⟩:=x;simp[Hs.O2]
@[simp]theorem Hs.ZL9{n:Nat}{p:Pl}:bel n (h.encP p)=vG:=by
 unfold Hs.encP
 cases p.kd<;>simp[Hs.ZOD]
@[simp]theorem Hs.ZT0{n:Nat}:bels n h.Dp=vG:=Ga λ_ _=>Hs.ZL9
section
variable{h:Hs}{p:Pl}{G:DH}
@[simp]theorem encP0:Aj (h.encP p) (.int 0) G=.ok (.str p.kd.txt) G:=by
 unfold Hs.encP
 cases p.kd<;>simp[Kd.txt]
@[simp]theorem encP1:Aj (h.encP p) (.int 1) G=.ok (.str p.nm) G:=by
 unfold Hs.encP
 cases p.kd<;>simp
@[simp]theorem encP2:Aj (h.encP p) (.int 2) G=.ok (.str (h.dnT p.dn)) G:=by
 unfold Hs.encP
 cases p.kd<;>simp
@[simp]theorem encP3:Aj (h.encP p) (.int 3) G=.ok (.int p.dl) G:=by
 unfold Hs.encP
 cases p.kd<;>simp
theorem Dz:Aj h.enc (.int 1) G=.ok (.tup h.Dp) G:=by unfold Hs.enc;simp
theorem ZPx:Aj h.enc (.int 0) G=.ok (.int h.yr) G:=by unfold Hs.enc;simp
theorem Je{k:Kd}:(k.txt="basin")=(k.isB=vG):=by cases k<;>simp[Kd.txt,Kd.isB]<;>decide
theorem W8{k:Kd}:(k.txt="town")=(k.isT=vG):=by cases k<;>simp[Kd.txt,Kd.isT]<;>decide
end
theorem ZGE(g:GoodH h)(hd:d<h.n):∀(m k:Nat)(a b:Option D),k+m=d->
  Bo (Bg 2 (Am (gV 2) (Am (gV 3) Bk))) Qz ((Et h.Dp).drop k) [vE h.enc,vE (.str (h.pl d).nm),a,b] G=.rt (.int d) G
 | m,k,a,b,e=>by
  have hk:k<h.n:=by lia
  have e0:(Et h.Dp).drop k=.tup [.int k,h.encP (h.pl k)]::(Et h.Dp).drop (k+1):=by rw[zM (by rw[Lb,Hs.K3];exact hk)];have:=Hs.ZKN hk;rw[zJ (by rw[Hs.K3];exact hk)]at this;have e2:=Option.some.inj this;simp[Et,e2]
  rw[e0,Dh];cases m with
  |zero=>
   have e1:k=d:=by lia
   subst e1;have hb:Qz [vE h.enc,vE (.str (h.pl k).nm),vE (.int k),vE (h.encP (h.pl k))] G=.rt (.int k) G:=by unfold Qz;simp
   simp[hb]
  |succ m=>
   have hne:(h.pl k).nm≠(h.pl d).nm:=λz=>by have:=g.inj k d hk hd z;lia
   have hb:Qz [vE h.enc,vE (.str (h.pl d).nm),vE (.int k),vE (h.encP (h.pl k))] G=.nx [vE h.enc,vE (.str (h.pl d).nm),vE (.int k),vE (h.encP (h.pl k))] G:=by unfold Qz;simp[hne]
   simp[hb];exact ZGE g hd m (k+1) _ _ (by lia)
theorem ZJ9(g:GoodH h)(hd:d<h.n)(G:DH):Ui [h.enc,.str (h.pl d).nm] G=.ok (.int d) G:=by have hL:=ZGE g hd (G:=G) d 0 vF vF (by lia);rw[jE]at hL;unfold Ui ZG0;rw[Br];simp[Dz,Im,Ld,lenOf,hL,By]
def Hs.dn(h:Hs)(k:Nat):Option Nat:=(h.pl k).dn
theorem Nx(g:GoodH h){k:Nat}(hk:k<h.n)(G:DH):Tv [h.enc,.int k] G=.ok (dnD (h.dn k)) G:=by
 unfold Tv ZGr;rw[Br];cases hd:h.dn k with
 |none=>
  have e:(h.pl k).dn=vF:=hd;simp[Dz,Hs.Fo hk,e,Hs.dnT,dnD,By]
 |some d=>
  have e:(h.pl k).dn=vE d:=hd;have hl:=g.dn k d hk e;simp[Dz,Hs.Fo hk,e,Hs.dnT,g.sea d hl.2,ZJ9 g hl.2,dnD,By]
def Hs.dir(h:Hs)(k:Nat):Option Nat:=match h.dn k with
 |none=>vF
 |some d=>if 0<(h.pl k).dl∨(h.pl k).kd.isB=vG∨(h.pl d).kd.isB=vG then vF else vE d
theorem Q4(g:GoodH h){k:Nat}(hk:k<h.n)(G:DH):Tf [h.enc,.int k] G=.ok (dnD (h.dir k)) G:=by
 unfold Tf ZJ4;rw[Br];cases hd:h.dn k with
 |none=>simp[Dz,Nx g hk,hd,Hs.dir,dnD,By]
 | some d=>
  have hl:=g.dn k d hk hd;by_cases h1:0<(h.pl k).dl
  ·simp[Dz,Nx g hk,hd,Hs.dir,dnD,By,Hs.Fo hk,h1]
  ·by_cases h2:(h.pl k).kd.isB=vG
   ·simp[Dz,Nx g hk,hd,Hs.dir,dnD,By,Hs.Fo hk,h1,Je,h2]
   ·by_cases h3:(h.pl d).kd.isB=vG
    ·simp[Dz,Nx g hk,hd,Hs.dir,dnD,By,Hs.Fo hk,Hs.Fo hl.2,h1,Je,h2,h3]
    ·simp[Dz,Nx g hk,hd,Hs.dir,dnD,By,Hs.Fo hk,Hs.Fo hl.2,h1,Je,h2,h3]
theorem ZNJ(g:GoodH h){k:Nat}(hk:k<h.n)(e:h.dir k=vE d):k<d/\d<h.n:=by
 unfold Hs.dir at e;cases hd:h.dn k with
 |none=>rw[hd]at e;cases e
 |some d'=>
  rw[hd]at e;simp only at e;split at e
  ·cases e
  ·cases e;exact g.dn k d hk hd
theorem ZTS{k:Nat}(hk:¬k<h.n):h.pl k=ZEa:=by
 unfold Hs.pl;rw[zD,zA (by unfold Hs.n at hk;lia)]
 rfl
theorem Q9{k:Nat}(hk:¬k<h.n):h.dir k=vF:=by
 have e:h.dn k=vF:=by unfold Hs.dn;rw[ZTS hk];rfl
 unfold Hs.dir;rw[e]
theorem Np(g:GoodH h){k:Nat}(e:h.dir k=vE d):k<d/\d<h.n/\k<h.n:=by
 by_cases hk:k<h.n
 ·have:=ZNJ g hk e;lia
 ·rw[Q9 hk]at e;cases e
def Hs.K4(h:Hs):Nat->Nat->Nat
 |0,k=>k
 |m+1,k=>match h.dir k with
  |none=>k
  |some d=>h.K4 m d
def Hs.last(h:Hs)(k:Nat):Nat:=h.K4 h.n k
theorem ZDc(g:GoodH h):∀(m m' k:Nat),h.n<=m+k->h.n<=m'+k->h.K4 m k=h.K4 m' k
 |0,m',k,e,e'=>by
  have hn:h.dir k=vF:=Q9 (by lia);cases m' with
  |zero=>rfl
  |succ m'=>simp[Hs.K4,hn]
 |m+1,0,k,e,e'=>by have hn:h.dir k=vF:=Q9 (by lia);simp[Hs.K4,hn]
 | m+1,m'+1,k,e,e'=>by
  cases hd:h.dir k with
  |none=>simp[Hs.K4,hd]
  |some d=>
   have:=Np g hd;simp[Hs.K4,hd,ZDc g m m' d (by lia) (by lia)]
theorem Mq(g:GoodH h){k:Nat}(e:h.dir k=vF):h.last k=k:=by unfold Hs.last;rw[ZDc g h.n (h.n+1) k (by lia) (by lia)];simp[Hs.K4,e]
theorem Qp(g:GoodH h){k:Nat}(e:h.dir k=vE d):h.last k=h.last d:=by unfold Hs.last;rw[ZDc g h.n (h.n+1) k (by lia) (by lia)];simp[Hs.K4,e]
theorem ZJw(g:GoodH h):∀(m k:Nat),h.n<=m+k->k<=h.last k/\(k<h.n->h.last k<h.n)
 |0,k,e=>by rw[Mq g (Q9 (by lia))];lia
 | m+1,k,e=>by
  cases hd:h.dir k with
  |none=>rw[Mq g hd];lia
  |some d=>
   have:=Np g hd;rw[Qp g hd];have:=ZJw g m d (by lia);lia
theorem ZKf(g:GoodH h)(k:Nat):k<=h.last k/\(k<h.n->h.last k<h.n):=ZJw g h.n k (by lia)
def Hs.Hq(h:Hs)(j:Nat):Nat->Int:=λi=>if j<=i then h.last i else i
theorem ZKA(g:GoodH h){G:DH}:∀(j:Nat)(x y:Option D),j<=h.n->∃x' y',
  Bo (gV 2) Wr (Lg ((j:Int)-1) j) [vE h.enc,vE (.ref G.length),x,y] (G++[.lst (tab h.n (h.Hq j))])=.nx [vE h.enc,vE (.ref G.length),x',y'] (G++[.lst (tab h.n (h.Hq 0))])
 |0,x,y,e=>⟨x,y,by rw[ZKx,Ed]⟩
 | j + 1,x,y,e=>by
  have hj:j<h.n:=by lia
  obtain⟨x',y',ih⟩:=ZKA g (G:=G) j (vE (.int j)) (vE (dnD (h.dir j))) (by lia);refine⟨x',y',?_⟩;have e1:(((j+1:Nat):Int)-1)=j:=by lia
  have hb:Wr [vE h.enc,vE (.ref G.length),vE (.int j),y] (G++[.lst (tab h.n (h.Hq (j+1)))])=.nx [vE h.enc,vE (.ref G.length),vE (.int j),vE (dnD (h.dir j))] (G++[.lst (tab h.n (h.Hq j))]):=by
   unfold Wr;cases hd:h.dir j with
   | none=>
    have et:tab h.n (h.Hq (j+1))=tab h.n (h.Hq j):=ZId λi hi=>by
     unfold Hs.Hq;by_cases e2:i=j
     ·subst e2;rw[Mq g hd];simp
     ·by_cases e3:j<=i
      ·rw[if_pos e3,if_pos (by lia)]
      ·rw[if_neg e3,if_neg (by lia)]
    simp[Q4 g hj,hd,dnD,et]
   | some d=>
    have hl:=Np g hd;have et:tab h.n (fset (h.Hq (j+1)) j (h.Hq (j+1) d))=tab h.n (h.Hq j):=ZId λi hi=>by
     unfold Hs.Hq fset;by_cases e2:i=j
     ·subst e2;rw[if_pos rfl,if_pos (by lia),if_pos (by lia),Qp g hd]
     ·rw[if_neg e2];dsimp only;by_cases e3:j<=i
      ·rw[if_pos e3,if_pos (by lia)]
      ·rw[if_neg e3,if_neg (by lia)]
    simp[Q4 g hj,hd,dnD,Eg,Hc hl.2.1,Ft,Jq,hj,R1,et]
  rw[e1,ZN7,Dh];simp only[Dq,R.Dl,qJ,hb,Ea];exact ih
theorem ZQM(g:GoodH h)(G:DH):Z5 [h.enc] G=.ok (.ref G.length) (G++[.lst (tab h.n λi=>(h.last i:Int))]):=by
 obtain⟨x',y',hL⟩:=ZKA g (G:=G) h.n vF vF (zK _);have e0:tab h.n (h.Hq h.n)=Cm 0 h.n:=by
  unfold tab Cm;refine qk λi hi=>?_
  have:=qW.mp hi;unfold Hs.Hq;rw[if_neg (by lia)];simp
 have e1:h.Hq 0=λi=>(h.last i:Int):=by funext i;unfold Hs.Hq;simp
 rw[e0,e1]at hL;have hn:=g.len;have r1:inR (h.n:Int):=Gu (by lia) (by lia);have r2:inR ((h.n:Int)-1):=Gu (by lia) (by lia);have r3:inR (-1):=Gu (by lia) (by lia);have e2:((h.n:Int)-1 - -1).toNat=h.n:=by lia
 have h6:(h.n:Int)<=1000000:=by lia
 have ebr:bels G.length (Cm 0 h.n)=vG:=Ga λ_ _=>rfl
 unfold Z5 ZHF;rw[Br];simp[Dz,Hs.K3,r1,h6,Gb ebr,r2,r3,ZLo,e2,hL,Gb]
def Hs.mem(h:Hs)(m:Nat):List Nat:=(zZ h.n).filter λk=>decide (h.last k=m)
theorem mem_iff{k:Nat}:k∈h.mem m↔k<h.n/\h.last k=m:=by unfold Hs.mem;rw[List.mem_filter,qW];simp
theorem ZBs:(h.mem m).Pairwise (· < ·):=List.Pairwise.filter _ List.pairwise_lt_range
theorem ZGF:(h.mem m).length<=h.n:=by have:=List.length_filter_le (λk=>decide (h.last k=m)) (zZ h.n);simpa[Hs.mem]using this
theorem ZLS(hs:ms.Pairwise (· < ·))(hi:i<ms.length)(hj:j<ms.length)(h:ms[i]<ms[j]):i<j:=by
 rcases Nat.lt_trichotomy i j with z|z|z
 ·exact z
 ·subst z;lia
 ·have:=jW.mp hs j i hj hi z;lia
theorem ZLL(g:GoodH h)(hm:m<h.n)(e:h.last m=m):(h.mem m).getLast?=vE m:=by
 have hmem:m∈h.mem m:=mem_iff.mpr ⟨hm,e⟩;have hne:h.mem m≠[]:=λz=>by rw[z]at hmem;cases hmem
 rw[List.getLast?_eq_some_getLast hne]
 congr 1
 have h1:=mem_iff.mp (List.getLast_mem hne);have h2:=(ZKf g ((h.mem m).getLast hne)).1;obtain⟨i,hi,ei⟩:=q9 hmem;have h3:m<=(h.mem m).getLast hne:=by
  rw[List.getLast_eq_getElem];by_cases e4:i=(h.mem m).length-1
  ·subst e4;lia
  ·have:=jW.mp (ZBs (h:=h) (m:=m)) i ((h.mem m).length-1) hi (by lia) (by lia);lia
 lia
def Hs.need(h:Hs)(k:Nat):Int:=match(h.pl k).kd with
 |.town a _=>a
 |_=>0
def Hs.rank(h:Hs)(k:Nat):Int:=match(h.pl k).kd with
 |.town _ b=>b
 |_=>0
def Hs.row(h:Hs)(ms:List Nat)(ca:Nat->Int)(k:Nat):Row:=⟨(h.dir k).map λd=>ms.idxOf d,ca k,h.need k,h.rank k⟩
def Hs.rows(h:Hs)(ms:List Nat)(ca:Nat->Int):List Row:=ms.map (h.row ms ca)
theorem idx_map(d:Nat):∀ms:List Nat,(ms.map λ(i:Nat)=>(i:Int)).idxOf (d:Int)=ms.idxOf d
 |[]=>rfl
 | m::ms=>by
  rw[zk,jA,jA,idx_map d ms];by_cases e:m=d
  ·subst e;simp
  ·have e2:¬((m:Int)=d):=by lia
   have b1:((m:Int)==(d:Int))=vH:=by simp[e2]
   have b2:(m==d)=vH:=by simp[e]
   rw[b1,b2]
theorem ZJK(g:GoodH h)(hm:∀k∈ms,k<h.n/\∀d,h.dir k=vE d->d∈ms)(hl:ms.length<=40)(hp:G[p]?=vE (.lst (tab h.n ca))):∀(ks:List Nat)(acc:List Row)(x1 x2 x3 x4:Option D),(∀k∈ks,k∈ms)->acc.length+ks.length<=40->∃y1 y2 y3 y4,
  Bo (gV 4) Rw (Bf ks) [vE h.enc,vE (.fl (Bf ms)),vE (.ref p),vE (.ref G.length),x1,x2,x3,x4] (G++[.lst (acc.map Row.enc)])=
   .nx [vE h.enc,vE (.fl (Bf ms)),vE (.ref p),vE (.ref G.length),y1,y2,y3,y4] (G++[.lst ((acc++ks.map (h.row ms ca)).map Row.enc)])
 |[],acc,x1,x2,x3,x4,_,_=>⟨x1,x2,x3,x4,by simp[Bf,Ed]⟩
 | k::ks,acc,x1,x2,x3,x4,hk,ha=>by
  obtain⟨hkn,hkd⟩:=hm k (hk k zW);obtain⟨y1,y2,y3,y4,ih⟩:=ZJK g hm hl hp ks (acc++[h.row ms ca k]) (vE (.int k)) (vE (h.encP (h.pl k))) (vE (dnD (h.dir k))) (vE (dnD ((h.dir k).map λd=>ms.idxOf d))) (λj hj=>hk j (zX _ hj)) (by simp at ha⊢;lia);refine⟨y1,y2,y3,y4,?_⟩;have hpl:p<G.length:=(zF.mp hp).1;have hgp:∀L:DH,(G++L)[p]?=vE (.lst (tab h.n ca)):=λL=>by rw[zR hpl];exact hp
  have ha2:acc.length<1000000:=by simp at ha;lia
  have ht:h.row ms ca k=⟨(h.dir k).map λd=>ms.idxOf d,ca k,h.need k,h.rank k⟩:=rfl;have hb:Rw [vE h.enc,vE (.fl (Bf ms)),vE (.ref p),vE (.ref G.length),vE (.int k),x2,x3,x4] (G++[.lst (acc.map Row.enc)])=
    .nx [vE h.enc,vE (.fl (Bf ms)),vE (.ref p),vE (.ref G.length),vE (.int k),vE (h.encP (h.pl k)),vE (dnD (h.dir k)),vE (dnD ((h.dir k).map λd=>ms.idxOf d))] (G++[.lst ((acc++[h.row ms ca k]).map Row.enc)]):=by
   have hix:∀d,h.dir k=vE d->∀G',Ls (.fl (Bf ms)) [.int (d:Int)] G'=.ok (.int (ms.idxOf d:Nat)) G':=λd hd G'=>by
    have e:Bf ms=(ms.map λ(i:Nat)=>(i:Int)).map D.int:=by simp[Bf]
    rw[e,ZGg (ns:=ms.map λ(i:Nat)=>(i:Int)) (by simp[Ir]) (zH.mpr ⟨d,hkd d hd,rfl⟩) (by simp;lia),idx_map]
   unfold Rw;by_cases hT:(h.pl k).kd.isT=vG
   ·obtain⟨a,b,ek⟩:∃a b,(h.pl k).kd=.town a b:=by
     cases e:(h.pl k).kd with
     |town a b=>exact⟨a,b,rfl⟩
     |basin _ _ _=>rw[e]at hT;cases hT
     |mill _=>rw[e]at hT;cases hT
    have e4:∀G',Aj (h.encP (h.pl k)) (.int 4) G'=.ok (.int a) G':=λG'=>by unfold Hs.encP;rw[ek];simp
    have e5:∀G',Aj (h.encP (h.pl k)) (.int 5) G'=.ok (.int b) G':=λG'=>by unfold Hs.encP;rw[ek];simp
    have en:h.need k=a:=by unfold Hs.need;rw[ek]
    have er:h.rank k=b:=by unfold Hs.rank;rw[ek]
    cases hd:h.dir k with
    |none=>simp[Dz,Hs.Fo hkn,Q4 g hkn,hd,dnD,W8,hT,hgp,Hc hkn,e4,e5,Bb,Eg,Ft,ha2,ht,Row.enc,en,er]
    |some d=>simp[Dz,Hs.Fo hkn,Q4 g hkn,hd,dnD,hix d hd,W8,hT,hgp,Hc hkn,e4,e5,Bb,Eg,Ft,ha2,ht,Row.enc,en,er]
   ·have en:h.need k=0:=by
     unfold Hs.need;cases e:(h.pl k).kd with
     |town a b=>rw[e]at hT;exact absurd rfl hT
     |basin _ _ _=>rfl
     |mill _=>rfl
    have er:h.rank k=0:=by
     unfold Hs.rank;cases e:(h.pl k).kd with
     |town a b=>rw[e]at hT;exact absurd rfl hT
     |basin _ _ _=>rfl
     |mill _=>rfl
    cases hd:h.dir k with
    |none=>simp[Dz,Hs.Fo hkn,Q4 g hkn,hd,dnD,W8,hT,hgp,Hc hkn,Bb,Eg,Ft,ha2,ht,Row.enc,en,er]
    |some d=>simp[Dz,Hs.Fo hkn,Q4 g hkn,hd,dnD,hix d hd,W8,hT,hgp,Hc hkn,Bb,Eg,Ft,ha2,ht,Row.enc,en,er]
  show Bo _ _ (.int k::Bf ks) _ _=_;rw[Dh];simp only[Dq,R.Dl,qJ,hb,Ea];rw[ih];simp
theorem ZPt(g:GoodH h)(hm:∀k∈ms,k<h.n/\∀d,h.dir k=vE d->d∈ms)(hl:ms.length<=40)(hp:G[p]?=vE (.lst (tab h.n ca))):
  Ve [h.enc,.fl (Bf ms),.ref p] G=.ok (.ref G.length) (G++[.lst ((h.rows ms ca).map Row.enc)]):=by
 obtain⟨y1,y2,y3,y4,hL⟩:=ZJK g hm hl hp ms [] vF vF vF vF (λk hk=>hk) (by simpa using hl);have hL':Bo (gV 4) Rw (Bf ms) [vE h.enc,vE (.fl (Bf ms)),vE (.ref p),vE (.ref G.length),vF,vF,vF,vF] (G++[.lst []])=.nx [vE h.enc,vE (.fl (Bf ms)),vE (.ref p),vE (.ref G.length),y1,y2,y3,y4] (G++[.lst ((h.rows ms ca).map Row.enc)]):=hL;unfold Ve ZGb;rw[Br];simp[Av,Gb,hL']
theorem ZJp(g:GoodH h)(hc:∀k,k<h.n->0<=ca k):Reach (h.rows (h.mem m) ca):=λi r hr=>by
 have hil:i<(h.mem m).length:=by have:=(zF.mp hr).1;simpa[Hs.rows]using this
 have e:r=h.row (h.mem m) ca (h.mem m)[i]:=by unfold Hs.rows at hr;rw[zx,zJ hil]at hr;simpa using hr.symm
 obtain⟨hk,hlast⟩:=mem_iff.mp (qx hil);subst e;refine⟨λd hd=>?_,hc _ hk,?_,?_⟩
 ·have hd':(h.dir (h.mem m)[i]).map (λd=>(h.mem m).idxOf d)=vE d:=hd;cases e:h.dir (h.mem m)[i]with
  |none=>rw[e]at hd';cases hd'
  |some d0=>
   rw[e]at hd';have ed:(h.mem m).idxOf d0=d:=by simpa using hd'
   have hl:=Np g e;have hmem:d0∈h.mem m:=mem_iff.mpr ⟨hl.2.1,by rw[<-Qp g e];exact hlast⟩;have hlt:=j2 hmem;have hg:(h.mem m)[(h.mem m).idxOf d0]=d0:=List.getElem_idxOf hlt;subst ed;refine⟨ZLS ZBs hil hlt (by rw[hg];exact hl.1),by simpa[Hs.rows]using hlt⟩
 ·show 0<=h.need _;unfold Hs.need;cases e:(h.pl (h.mem m)[i]).kd with
  |town a b=>exact(g.town _ a b hk e).1
  |basin _ _ _=>exact qq _
  |mill _=>exact qq _
 ·show 0<=h.rank _;unfold Hs.rank;cases e:(h.pl (h.mem m)[i]).kd with
  |town a b=>exact(g.town _ a b hk e).2
  |basin _ _ _=>exact qq _
  |mill _=>exact qq _
structure Cs where
 came:Nat->Int
 coming:Nat->Nat->Int
 page:Nat->List Int
 rea:List D
variable{s:Cs}
noncomputable def Le(l:List Int):D:=match l with
 |[]=>.non
 |_=>.tup (l.map D.int)
@[simp]theorem ZQq{n:Nat}:bel n (Le l)=vG:=by
 cases l with
 |nil=>rfl
 |cons a l=>simp only[Le,_D.bel];exact ZGZ
noncomputable def cfl(ds:List D):List (Str×D):=(["house","levels","year_turn","came","coming","page","reaches"]:List Str).zip ds
def cflds(i n:Nat)(H LV:D)(yt:Int):List (Str×D):=cfl [H,LV,.int yt,.ref (i+1),.ref (i+(2+n)),.ref (i+(3+n)),.ref (i+(4+n))]
def Dm(n:Nat)(pg:Nat->List Int):List D:=(zZ n).map λk=>Le (pg k)
noncomputable def Ep(i n:Nat):List D:=(zZ n).map λk=>D.ref (i+(2+k))
def csT(i n:Nat)(H LV:D)(yt:Int)(s:Cs):DH:=.ins "Course" (cflds i n H LV yt):: .lst (tab n s.came)::((zZ n).map (λk=>DO.lst (tab 5 (s.coming k)))++[.lst (Ep i n),.lst (Dm n s.page),.lst s.rea])
def csH(G:DH)(n:Nat)(H LV:D)(yt:Int)(s:Cs):DH:=G++csT G.length n H LV yt s
theorem ZSR{n:Nat}{yt:Int}:(csT i n H LV yt s).length=n+5:=by simp[csT]
theorem ZJR{n:Nat}{yt:Int}:(csH G n H LV yt s).length=G.length+(n+5):=by unfold csH;rw[qZ,ZSR]
section
variable{G:DH}{n:Nat}{H LV:D}{yt:Int}{s:Cs}
theorem R9(j:Nat):(csH G n H LV yt s)[G.length+j]?=(csT G.length n H LV yt s)[j]? :=Vl _ j
theorem Ln:(csH G n H LV yt s)[G.length]?=vE (.ins "Course" (cflds G.length n H LV yt)):=R9 0
theorem Ua:(csH G n H LV yt s)[G.length+1]?=vE (.lst (tab n s.came)):=R9 1
theorem ZAB:(csT i n H LV yt s)[2+j]?=((zZ n).map (λk=>DO.lst (tab 5 (s.coming k)))++[.lst (Ep i n),.lst (Dm n s.page),.lst s.rea])[j]? :=by
 have e:2+j=j+1+1:=by lia
 rw[e]
 rfl
theorem ZAz{k:Nat}(hk:k<n):(csH G n H LV yt s)[G.length+(2+k)]?=vE (.lst (tab 5 (s.coming k))):=by
 rw[R9,ZAB,zR (by simpa using hk),zx,zL hk]
 rfl
theorem ZAV:(csH G n H LV yt s)[G.length+(2+n)]?=vE (.lst (Ep G.length n)):=by rw[R9,ZAB,zG (by simp)];simp
theorem Mu:(csH G n H LV yt s)[G.length+(3+n)]?=vE (.lst (Dm n s.page)):=by
 have e:3+n=2+(n+1):=by lia
 rw[e,R9,ZAB,zG (by simp)];simp
theorem csHe:(csH G n H LV yt s)[G.length+(4+n)]?=vE (.lst s.rea):=by
 have e:4+n=2+(n+2):=by lia
 rw[e,R9,ZAB,zG (by simp)];simp
theorem Vo(j:Nat)(o:DO):(csH G n H LV yt s).set (G.length+j) o=G++(csT G.length n H LV yt s).set j o:=ZDI _ j o
theorem csS1:(csH G n H LV yt s).set (G.length+1) (.lst (tab n ca))=csH G n H LV yt {s with came:=ca}:=Vo 1 _
noncomputable def upd2(co:Nat->Nat->Int)(k:Nat)(r:Nat->Int):Nat->Nat->Int:=λi=>if i=k then r else co i
theorem ZBI{o:DO}:(csT i n H LV yt s).set (2+j) o=.ins "Course" (cflds i n H LV yt):: .lst (tab n s.came)::((zZ n).map (λk=>DO.lst (tab 5 (s.coming k)))++[DO.lst (Ep i n),DO.lst (Dm n s.page),DO.lst s.rea]).set j o:=by
 have e:2+j=j+1+1:=by lia
 rw[e]
 rfl
theorem csSr{k:Nat}(hk:k<n){r:Nat->Int}:(csH G n H LV yt s).set (G.length+(2+k)) (.lst (tab 5 r))=csH G n H LV yt {s with coming:=upd2 s.coming k r}:=by
 rw[Vo,ZBI,List.set_append_left _ _ (by simpa using hk)];unfold csH csT
 congr 3
 congr 1
 refine j1 λi=>?_
 by_cases hi:i<n
 ·by_cases e:k=i
  ·subst e;rw[qU (by simpa using hi),zx,zL hi];simp[upd2]
  ·rw[qM e,zx,zL hi,zx,zL hi];have:i≠k:=λz=>e z.symm
   simp[upd2,this]
 ·rw[zA (by simp;lia),zA (by simp;lia)]
theorem Xa:(csH G n H LV yt s).set (G.length+(3+n)) (.lst (Dm n pg))=csH G n H LV yt {s with page:=pg}:=by
 have e:3+n=2+(n+1):=by lia
 rw[e,Vo,ZBI,jI _ _ (by simp)];unfold csH csT;simp
theorem csSe{re:List D}:(csH G n H LV yt s).set (G.length+(4+n)) (.lst re)=csH G n H LV yt {s with rea:=re}:=by
 have e:4+n=2+(n+2):=by lia
 rw[e,Vo,ZBI,jI _ _ (by simp)];unfold csH csT;simp
theorem Lf:K9 "Course" "house" (.ref G.length) (csH G n H LV yt s)=.ok H (csH G n H LV yt s):=Oa Ln rfl
theorem ZJs:K9 "Course" "levels" (.ref G.length) (csH G n H LV yt s)=.ok LV (csH G n H LV yt s):=Oa Ln rfl
theorem ZKG:K9 "Course" "year_turn" (.ref G.length) (csH G n H LV yt s)=.ok (.int yt) (csH G n H LV yt s):=Oa Ln rfl
theorem Wh:K9 "Course" "came" (.ref G.length) (csH G n H LV yt s)=.ok (.ref (G.length+1)) (csH G n H LV yt s):=Oa Ln rfl
theorem ZFl:K9 "Course" "coming" (.ref G.length) (csH G n H LV yt s)=.ok (.ref (G.length+(2+n))) (csH G n H LV yt s):=Oa Ln rfl
theorem Pb:K9 "Course" "page" (.ref G.length) (csH G n H LV yt s)=.ok (.ref (G.length+(3+n))) (csH G n H LV yt s):=Oa Ln rfl
theorem ZRB:K9 "Course" "reaches" (.ref G.length) (csH G n H LV yt s)=.ok (.ref (G.length+(4+n))) (csH G n H LV yt s):=Oa Ln rfl
theorem Kq{m:Str}{F:List D->DH->R D}{t:DA}(hm:∀i,(cflds i n H LV yt).lookup m=vF):Z4 "Course" m F t S (.ref G.length) (csH G n H LV yt s)=(t S (csH G n H LV yt s)).bind λds G2=>F (.ref G.length::ds) G2:=ZRo Ln (hm _)
theorem ZH0:∀i,(cflds i n H LV yt).lookup ("send":Str)=vF:=λ_=>rfl
theorem ZCk:∀i,(cflds i n H LV yt).lookup ("send_down":Str)=vF:=λ_=>rfl
theorem ZOY:∀i,(cflds i n H LV yt).lookup ("go_basin":Str)=vF:=λ_=>rfl
theorem ZN4:∀i,(cflds i n H LV yt).lookup ("go_reach":Str)=vF:=λ_=>rfl
theorem ZLs:∀i,(cflds i n H LV yt).lookup ("go":Str)=vF:=λ_=>rfl
theorem ZPD:∀i,(cflds i n H LV yt).lookup ("state_behind":Str)=vF:=λ_=>rfl
theorem M3{s':Cs}{d:D}(hb:∀m,bel m d=vG):tidy (csH G n H LV yt s) (.ok d (csH G n H LV yt s'))=.ok d (csH G n H LV yt s'):=ZQz (by rw[ZJR,ZJR]) (hb _)
theorem ZMG{k:Nat}(hk:k<n):atI (Ep i n) (k:Int)=vE (.ref (i+(2+k))):=Fb rfl (by unfold Ep;rw[zx,zL hk];rfl)
theorem ZR2{k:Nat}:(Dm n pg).set k (Le l)=Dm n λi=>if i=k then l else pg i:=by
 unfold Dm;refine j1 λi=>?_
 by_cases hi:i<n
 ·by_cases e:k=i
  ·subst e;rw[qU (by simpa using hi),zx,zL hi];simp
  ·rw[qM e,zx,zL hi,zx,zL hi];have:i≠k:=λz=>e z.symm
   simp[this]
 ·rw[zA (by simp;lia),zA (by simp;lia)]
@[simp]theorem ZNB:(Dm n pg).length=n:=by simp[Dm]
noncomputable def Cs.send(s:Cs)(to dl:Nat)(c:Int):Cs:=if dl=0 then{s with came:=fset s.came to (s.came to+c)}else{s with coming:=upd2 s.coming to (fset (s.coming to) (dl-1) (s.coming to (dl-1)+c))}
theorem ZFZ(ht:to<n)(hd:dl<=5):Ul [.ref G.length,.int to,.int dl,.int c] (csH G n H LV yt s)=.ok .non (csH G n H LV yt (s.send to dl c)):=by
 unfold Ul ZGn;rw[Br];by_cases h0:dl=0
 ·subst h0;simp[Wh,ZAO Ua (Hc ht),Ua,Jq,ht,R1,csS1,Cs.send,M3]
 ·have e:((dl:Int)-1)=((dl-1:Nat):Int):=by lia
  have h1:dl-1<5:=by lia
  simp[h0,ZFl,ZAV,ZMG ht,e,ZAO (ZAz ht) (Hc h1),ZAz ht,Jq,h1,R1,csSr ht,Cs.send,M3]
end
def Hs.Hl(h:Hs)(s:Cs)(k:Nat)(c:Int):Cs:=match h.dn k with
 |none=>s
 |some d=>s.send d (h.pl k).dl c
section
variable{G:DH}{h:Hs}{lv:Nat->Int}{yt:Int}{s:Cs}
theorem ZCj(g:GoodH h){k:Nat}(hk:k<h.n):Tw [.ref G.length,.int k,.int c] (csH G h.n h.enc LV yt s)=.ok .non (csH G h.n h.enc LV yt (h.Hl s k c)):=by
 unfold Tw ZKP;rw[Br];cases hd:h.dn k with
 |none=>simp[Lf,Nx g hk,hd,dnD,Hs.Hl,M3]
 |some d=>
  have hl:=g.dn k d hk hd;simp[Lf,Nx g hk,hd,dnD,Kq ZH0,Dz,Hs.Fo hk,ZFZ hl.2 (g.dl k hk),Hs.Hl,M3]
theorem Wc{n:Nat}{k:Nat}{b d e f:Int}:(Dm n pg).set k (.tup [.int a,.int b,.int c,.int d,.int e,.int f])=Dm n λi=>if i=k then[a,b,c,d,e,f]else pg i:=ZR2 (l:=[a,b,c,d,e,f])
def Hs.basin(h:Hs)(yt:Int)(lv:Nat->Int)(s:Cs)(k:Nat):Cs:=match(h.pl k).kd with
 |.basin brim rule pump=>
  let w:=lv k+s.came k;let st:=held yt rule [];let stays:=w-rv w st-pm w st;let lies:=min stays brim;let s1:Cs:={s with page:=λi=>if i=k then[s.came k,0,stays-lies,rv w st,pm w st,lies]else s.page i};let s2:=h.Hl s1 k (rv w st+(stays-lies))
  match pump with
  |none=>s2
  |some (to,dl,_)=>s2.send to dl (pm w st)
 |_=>s
theorem ZRe(g:GoodH h){k:Nat}(hk:k<h.n)(hB:(h.pl k).kd.isB=vG):X5 [.ref G.length,.int k] (csH G h.n h.enc (.tup (tab h.n lv)) yt s)=.ok .non (csH G h.n h.enc (.tup (tab h.n lv)) yt (h.basin yt lv s k)):=by
 obtain⟨brim,rule,pump,ek⟩:∃a b c,(h.pl k).kd=.basin a b c:=by
  cases e:(h.pl k).kd with
  |basin a b c=>exact⟨a,b,c,rfl⟩
  |town _ _=>rw[e]at hB;cases hB
  |mill _=>rw[e]at hB;cases hB
 have e4:∀G',Aj (h.encP (h.pl k)) (.int 4) G'=.ok (.int brim) G':=λG'=>by unfold Hs.encP;rw[ek];simp
 have e5:∀G',Aj (h.encP (h.pl k)) (.int 5) G'=.ok (.tup (rule.map Cq)) G':=λG'=>by unfold Hs.encP;rw[ek];simp
 have e6:∀G',Aj (h.encP (h.pl k)) (.int 6) G'=.ok (h.O2 pump) G':=λG'=>by unfold Hs.encP;rw[ek];simp
 simp only[Hs.basin,ek];unfold X5 ZFF;rw[Br];cases hp:pump with
 |none=>simp[Lf,Dz,Hs.Fo hk,Wh,Ua,Hc hk,e5,ZKG,c_at,ZJs,ZEt,e4,Bb,Pb,Mu,Jq,hk,Wc,Xa,Kq ZCk,ZCj g hk,e6,hp,Hs.O2,M3]
 |some q=>
  obtain⟨to,dl,mo⟩:=q;have hl:=g.pump k brim rule to dl mo hk (by rw[ek,hp]);simp[Lf,Dz,Hs.Fo hk,Wh,Ua,Hc hk,e5,ZKG,c_at,ZJs,ZEt,e4,Bb,Pb,Mu,Jq,hk,Wc,Xa,Kq ZCk,ZCj g hk,e6,hp,Hs.O2,Kq ZH0,ZJ9 g hl.1,ZFZ hl.1 hl.2.2,M3]
end
noncomputable def z3(ms:List Nat)(T L:Nat->Int):List D:=(zZ ms.length).map λi=>D.tup [.int (ms.getD i 0:Nat),.int (T i),.int (L i)]
theorem ZP9{L:Nat->Int}(j:Nat)(G:DH):Gz [.fl (Bf ms),.fl (tab ms.length T),.fl (tab ms.length L)] j G=vE (z3 ms T L)[j]? :=by
 unfold Gz z3;by_cases hj:j<ms.length
 ·have e1:(Bf ms)[j]?=vE (.int (ms.getD j 0:Nat)):=by unfold Bf;rw[zx,zJ hj];simp[zD,zJ hj]
  simp[Ip,e1,Nv hj,zL hj]
 ·have e1:(Bf ms)[j]?=vF:=zA (by simp;lia);have e2:(zZ ms.length)[j]?=vF:=zA (by simp;lia);simp[Ip,e1,e2]
noncomputable def rrow(T L:Nat->Int)(i:Nat):List Int:=[T i+L i,T i,0,L i,0,0]
def pgM(ms:List Nat)(T L:Nat->Int)(pg:Nat->List Int)(i:Nat):Nat->List Int:=λk=>if k∈ms.take i then rrow T L (ms.idxOf k)else pg k
theorem ZNF{L:Nat->Int}:pgM ms T L pg 0=pg:=by funext k;simp[pgM]
theorem ZKO(nd:ms.Nodup)(hi:i<ms.length)(hj:j<ms.length)(e:ms[i]=ms[j]):i=j:=by
 rcases Nat.lt_trichotomy i j with z|z|z
 ·exact absurd e (jW.mp nd i j hi hj z)
 ·exact z
 ·exact absurd e.symm (jW.mp nd j i hj hi z)
theorem ZNj(nd:ms.Nodup)(hi:i<ms.length):ms.idxOf ms[i]=i:=by have hl:=j2 (qx hi);exact ZKO nd hl hi (List.getElem_idxOf hl)
theorem ZOI(nd:ms.Nodup){L:Nat->Int}(hi:i<ms.length):pgM ms T L pg (i+1)=λk=>if k=ms.getD i 0 then rrow T L i else pgM ms T L pg i k:=by
 have eg:ms.getD i 0=ms[i]:=by simp[zD,zJ hi]
 funext k;rw[eg];unfold pgM;rw[List.take_succ_eq_append_getElem hi];by_cases e:k=ms[i]
 ·subst e;rw[if_pos rfl,if_pos (j7.mpr (.inr (qI.mpr rfl))),ZNj nd hi]
 ·rw[if_neg e];have:(k∈ms.take i++[ms[i]])↔k∈ms.take i:=by rw[j7,qI];exact⟨λh=>h.elim id λz=>absurd z e,.inl⟩
  simp only[this]
section
variable{G:DH}{h:Hs}{LV:D}{yt:Int}
theorem ZGs(g:GoodH h)(hms:∀k∈ms,k<h.n)(nd:ms.Nodup)(hlast:ms.getLast?=vE m){T L:Nat->Int}{s:Cs}{r t:D}:∀(q i:Nat)(x y z:Option D),i+q=ms.length->0<q->∃x' y' z',
  Bo (Bg 3 (Am (gV 4) (Am (gV 5) (Am (gV 6) Bk)))) Mm ((z3 ms T L).drop i) [vE (.ref G.length),vE (.fl (Bf ms)),vE r,vE t,x,y,z] (csH G h.n h.enc LV yt {s with page:=pgM ms T L s.page i})=
   .nx [vE (.ref G.length),vE (.fl (Bf ms)),vE r,vE t,x',y',z'] (csH G h.n h.enc LV yt (h.Hl {s with page:=pgM ms T L s.page ms.length} m (L (ms.length-1))))
 |0,i,x,y,z,e,h0=>by lia
 | q + 1,i,x,y,z,e,h0=>by
  have hi:i<ms.length:=by lia
  have eg:ms.getD i 0=ms[i]:=by simp[zD,zJ hi]
  have hk:ms.getD i 0<h.n:=by rw[eg];exact hms _ (qx hi)
  have hmn:m<h.n:=hms m (List.mem_of_getLast? hlast);have e0:(z3 ms T L).drop i=.tup [.int (ms.getD i 0:Nat),.int (T i),.int (L i)]::(z3 ms T L).drop (i+1):=by rw[zM (by simp[z3];exact hi)];simp[z3]
  have hneg:atI (Bf ms) (-1)=vE (.int (m:Nat)):=by
   have hl:0<ms.length:=by lia
   rw[ZNY (by decide) (by simp;lia)]
   congr 1
   have e3:((-1:Int)+((Bf ms).length:Int)).toNat=ms.length-1:=by simp;lia
   simp only[e3];unfold Bf;rw[List.getElem_map];have e4:ms[ms.length-1]'(by lia)=m:=by have:=j6 (l:=ms);rw[hlast,zJ (by lia)]at this;exact(Option.some.inj this).symm
   rw[e4]
  have hpg:(λk=>if k=ms.getD i 0 then[T i+L i,T i,0,L i,0,0]else pgM ms T L s.page i k)=pgM ms T L s.page (i+1):=(ZOI nd hi).symm;rw[e0,Dh];cases q with
  | zero=>
   have ei:i=ms.length-1:=by lia
   have em:ms.getD i 0=m:=by have:=j6 (l:=ms);rw[hlast,zJ (by lia)]at this;rw[eg];subst ei;exact(Option.some.inj this).symm
   have hb:Mm [vE (.ref G.length),vE (.fl (Bf ms)),vE r,vE t,vE (.int (ms.getD i 0:Nat)),vE (.int (T i)),vE (.int (L i))] (csH G h.n h.enc LV yt {s with page:=pgM ms T L s.page i})=
     .nx [vE (.ref G.length),vE (.fl (Bf ms)),vE r,vE t,vE (.int (ms.getD i 0:Nat)),vE (.int (T i)),vE (.int (L i))] (csH G h.n h.enc LV yt (h.Hl {s with page:=pgM ms T L s.page ms.length} m (L (ms.length-1)))):=by
    have e5:i+1=ms.length:=by lia
    rw[e5]at hpg;unfold Mm;simp only[em]at hk hpg⊢;simp[Bb,Pb,Mu,Jq,hk,Wc,hpg,Xa,hneg,Kq ZCk,ZCj g hmn,<-ei]
   refine⟨vE (.int (ms.getD i 0:Nat)),vE (.int (T i)),vE (.int (L i)),?_⟩;rw[zP (by simp[z3];lia)];simp only[Q5,Qc,Pk,Dq,R.Ji,R.Dl,qJ,hb,Ea,zO,qN,Nat.reduceAdd,if_true,Ed]
  | succ q=>
   have hne:ms.getD i 0≠m:=λz=>by have h1:=j6 (l:=ms);rw[hlast,zJ (by lia)]at h1;have h2:=Option.some.inj h1;rw[eg,h2]at z;have:=ZKO nd hi (by lia) z;lia
   have hne':¬((ms.getD i 0:Nat):Int)=(m:Int):=by lia
   have hb:Mm [vE (.ref G.length),vE (.fl (Bf ms)),vE r,vE t,vE (.int (ms.getD i 0:Nat)),vE (.int (T i)),vE (.int (L i))] (csH G h.n h.enc LV yt {s with page:=pgM ms T L s.page i})=
     .nx [vE (.ref G.length),vE (.fl (Bf ms)),vE r,vE t,vE (.int (ms.getD i 0:Nat)),vE (.int (T i)),vE (.int (L i))] (csH G h.n h.enc LV yt {s with page:=pgM ms T L s.page (i+1)}):=by
    unfold Mm;generalize ms.getD i 0=a at hk hpg hne';simp[Bb,Pb,Mu,Jq,hk,Wc,hpg,Xa,hneg,hne']
   obtain⟨x',y',z',ih⟩:=ZGs g hms nd hlast (T:=T) (L:=L) (s:=s) (r:=r) (t:=t) (q+1) (i+1) (vE (.int (ms.getD i 0:Nat))) (vE (.int (T i))) (vE (.int (L i))) (by lia) (by lia);refine⟨x',y',z',?_⟩;simp only[Q5,Qc,Pk,Dq,R.Ji,R.Dl,qJ,hb,Ea,zO,qN,Nat.reduceAdd,if_true];exact ih
def Hs.Jf(h:Hs)(s:Cs)(m:Nat):Nat->Int:=shr (h.rows (h.mem m) s.came)
def Hs.Iz(h:Hs)(s:Cs)(m:Nat):Nat->Int:=gath (h.rows (h.mem m) s.came) λi=>col Row.water (h.rows (h.mem m) s.came) i-h.Jf s m i
def Hs.reach(h:Hs)(s:Cs)(m:Nat):Cs:=
 let s1:=h.Hl {s with page:=pgM (h.mem m) (h.Jf s m) (h.Iz s m) s.page (h.mem m).length} m (h.Iz s m ((h.mem m).length-1))
 {s1 with rea:=s1.rea++[.tup [.fl (Bf (h.mem m)),.fl ((h.rows (h.mem m) s.came).map Row.enc)]]}
theorem Y8{n:Nat}(hb:∀m,bels m ds=vG):freeze (csH G n H LV yt s) (.ok (.ref (csH G n H LV yt s).length) (csH G n H LV yt s++[.lst ds]))=.ok (.fl ds) (csH G n H LV yt s):=Fd (hb _)
theorem Zm:(h.rows ms ca).length=ms.length:=by simp[Hs.rows]
theorem ZOk(g:GoodH h)(hm:m<h.n)(hl:h.last m=m)(hc:∀k,k<h.n->0<=s.came k)(hre:s.rea.length<=100):Xl [.ref G.length,.fl (Bf (h.mem m))] (csH G h.n h.enc LV yt s)=.ok .non (csH G h.n h.enc LV yt (h.reach s m)):=by
 have hR:=ZJp g (m:=m) hc;have hlen:(h.rows (h.mem m) s.came).length<=40:=by have:=ZGF (h:=h) (m:=m);have:=g.len;rw[Zm];lia
 have hmem:m∈h.mem m:=mem_iff.mpr ⟨hm,hl⟩;have hpos:0<(h.mem m).length:=List.length_pos_of_mem hmem;have nd:(h.mem m).Nodup:=(ZBs (h:=h) (m:=m)).imp λhab=>zE hab
 have cr:=ZPt g (ms:=h.mem m) (λk hk=>⟨(mem_iff.mp hk).1,λd hd=>by have h1:=mem_iff.mp hk;have h2:=Np g hd;exact mem_iff.mpr ⟨h2.2.1,by rw[<-Qp g hd];exact h1.2⟩⟩) (by rw[<-Zm (h:=h) (ca:=s.came)];exact hlen) (p:=G.length+1) (ca:=s.came) (G:=csH G h.n h.enc LV yt s) Ua
 have cs:=ZPR hR hlen (csH G h.n h.enc LV yt s);have cp:=ZFa hR hlen (t:=.fl (tab (h.rows (h.mem m) s.came).length (shr (h.rows (h.mem m) s.came)))) (T:=shr (h.rows (h.mem m) s.came)) (G:=csH G h.n h.enc LV yt s) rfl;rw[Zm]at cs cp;obtain⟨x',y',z',hL⟩:=ZGs (G:=G) (LV:=LV) (yt:=yt) g (ms:=h.mem m) (λk hk=>(mem_iff.mp hk).1) nd (ZLL g hm hl) (T:=h.Jf s m) (L:=h.Iz s m) (s:=s) (r:=.fl ((h.rows (h.mem m) s.came).map Row.enc)) (t:=.fl (tab (h.mem m).length (h.Jf s m))) (h.mem m).length 0 vF vF vF (by lia) hpos
 rw[ZNF,jE]at hL;have hz:∀S G',Eo (Gz [.fl (Bf (h.mem m)),.fl (tab (h.mem m).length (h.Jf s m)),.fl (tab (h.mem m).length (h.Iz s m))]) (Bg 3 (Am (gV 4) (Am (gV 5) (Am (gV 6) Bk)))) Mm (h.mem m).length 0 S G'=Bo (Bg 3 (Am (gV 4) (Am (gV 5) (Am (gV 6) Bk)))) Mm (z3 (h.mem m) (h.Jf s m) (h.Iz s m)) S G':=λS G'=>Rc ZP9 (by simp[z3])
 have eT:shr (h.rows (h.mem m) s.came)=h.Jf s m:=rfl;have eL:gath (h.rows (h.mem m) s.came) (λi=>col Row.water (h.rows (h.mem m) s.came) i-h.Jf s m i)=h.Iz s m:=rfl;rw[eT]at cs cp;rw[eL]at cp;have hre2:∀s':Cs,s'.rea=s.rea->s'.rea.length<1000000:=λs' e=>by rw[e];lia
 have ers:∀s':Cs,∀k c,(h.Hl s' k c).rea=s'.rea:=λs' k c=>by
  unfold Hs.Hl;cases h.dn k with
  |none=>rfl
  |some d=>simp only[Cs.send];split <;> rfl
 have el1:=hre2 _ (ers {s with page:=pgM (h.mem m) (h.Jf s m) (h.Iz s m) s.page (h.mem m).length} m (h.Iz s m ((h.mem m).length-1)));simp only[Hs.reach];generalize h.Hl {s with page:=pgM (h.mem m) (h.Jf s m) (h.Iz s m) s.page (h.mem m).length} m (h.Iz s m ((h.mem m).length-1))=s1 at hL el1;have hS:{s with page:=s.page}=s:=rfl;have ht:∀G',tidy G' (.ok (.tup [.fl (Bf (h.mem m)),.fl ((h.rows (h.mem m) s.came).map Row.enc)]) G')=.ok (.tup [.fl (Bf (h.mem m)),.fl ((h.rows (h.mem m) s.came).map Row.enc)]) G':=λG'=>By (by simp)
 unfold Xl ZHh;rw[Br];simp[Lf,Wh,cr,Y8,cs,cp,Ie,Ld,lenOf,hz,hL,Bb,ht,ZRB,csHe,el1,csSe,M3]
end
def Cs.NN(n:Nat)(s:Cs):Prop:=(∀k,k<n->0<=s.came k)/\∀k j,k<n->j<5->0<=s.coming k j
theorem Cs.NN.send{n:Nat}(h:s.NN n)(hc:0<=c):(s.send to dl c).NN n:=by
 unfold Cs.send;split
 ·refine⟨λk hk=>?_,h.2⟩;simp only[fset];split
  ·rename_i e;subst e;have:=h.1 k hk;lia
  ·exact h.1 k hk
 ·refine⟨h.1,λk j hk hj=>?_⟩;simp only[upd2];split
  ·rename_i e;subst e;simp only[fset];split
   ·rename_i e2;subst e2;have:=h.2 k _ hk hj;lia
   ·exact h.2 k j hk hj
  ·exact h.2 k j hk hj
theorem Cs.NN.down{n:Nat}(h:s.NN n){hs:Hs}{k:Nat}(hc:0<=c):(hs.Hl s k c).NN n:=by
 unfold Hs.Hl;cases hs.dn k with
 |none=>exact h
 |some d=>exact h.send hc
theorem ZJb{w:Int}{s:Stp}:0<=cub w s:=by unfold cub;lia
theorem ZEo{w:Int}:∀{st:List Stp},0<=rv w st
 |[]=>qq _
 |s::r=>by
  have h1:=ZEo (w:=w) (st:=r);have h2:=ZJb (w:=w) (s:=s);unfold rv
  split <;> lia
theorem ZIU{w:Int}:∀{st:List Stp},0<=pm w st
 |[]=>qq _
 |s::r=>by
  have h1:=ZIU (w:=w) (st:=r);have h2:=ZJb (w:=w) (s:=s);unfold pm
  split <;> lia
theorem Cs.NN.page{n:Nat}(h:s.NN n):({s with page:=pg}:Cs).NN n:=h
theorem ZDW:(s.send to dl c).rea=s.rea/\(s.send to dl c).page=s.page:=by
 unfold Cs.send
 split <;> exact⟨rfl,rfl⟩
theorem R6{k:Nat}:(h.Hl s k c).rea=s.rea/\(h.Hl s k c).page=s.page:=by
 unfold Hs.Hl;cases h.dn k with
 |none=>exact⟨rfl,rfl⟩
 |some d=>exact ZDW
section
variable{h:Hs}{yt:Int}{lv:Nat->Int}{s:Cs}
theorem ZMW{k:Nat}(hs:s.NN h.n):(h.basin yt lv s k).NN h.n:=by
 unfold Hs.basin;cases(h.pl k).kd with
 | basin brim rule pump=>
  simp only;have a1:=ZEo (w:=lv k+s.came k) (st:=held yt rule []);have a2:=ZIU (w:=lv k+s.came k) (st:=held yt rule []);cases pump with
  |none=>exact hs.page.down (by lia)
  |some q=>
   obtain⟨to,dl,mo⟩:=q;exact Cs.NN.send (hs.page.down (by lia)) a2
 |town _ _=>exact hs
 |mill _=>exact hs
theorem ZNK{k:Nat}:(h.basin yt lv s k).rea=s.rea:=by
 unfold Hs.basin;cases(h.pl k).kd with
 |basin brim rule pump=>
  simp only;cases pump with
  |none=>rw[R6.1]
  |some q=>obtain⟨to,dl,mo⟩:=q;simp only;rw[ZDW.1,R6.1]
 |town _ _=>rfl
 |mill _=>rfl
theorem ZKl{k:Nat}(hB:(h.pl k).kd.isB=vG):((h.basin yt lv s k).page k).length=6/\∀i,i≠k->(h.basin yt lv s k).page i=s.page i:=by
 unfold Hs.basin;cases e:(h.pl k).kd with
 | basin brim rule pump=>
  simp only;cases pump with
  |none=>
   simp only;rw[R6.2];exact⟨by simp,λi hi=>by simp[hi]⟩
  |some q=>
   obtain⟨to,dl,mo⟩:=q;simp only;rw[ZDW.2,R6.2];exact⟨by simp,λi hi=>by simp[hi]⟩
 |town _ _=>rw[e]at hB;cases hB
 |mill _=>rw[e]at hB;cases hB
theorem ZPF(g:GoodH h)(hs:s.NN h.n)(hi:i<(h.mem m).length):0<=h.Iz s m i:=by have hR:=ZJp g (m:=m) hs.1;have hsi:=ZM7 hR;have:=hsi.p0 i (by rw[Zm];exact hi);rw[hsi.pg]at this;exact this
theorem ZMe(g:GoodH h)(hm:m<h.n)(hl:h.last m=m)(hs:s.NN h.n):(h.reach s m).NN h.n:=by have hpos:0<(h.mem m).length:=List.length_pos_of_mem (mem_iff.mpr ⟨hm,hl⟩);unfold Hs.reach;exact Cs.NN.down (s:={s with page:=pgM (h.mem m) (h.Jf s m) (h.Iz s m) s.page (h.mem m).length}) hs.page (ZPF g hs (by lia))
theorem ZMK:(h.reach s m).rea.length=s.rea.length+1:=by unfold Hs.reach;simp only[qZ,j0];rw[R6.1]
theorem ZSj{k:Nat}:(h.reach s m).page k=if k∈h.mem m then rrow (h.Jf s m) (h.Iz s m) ((h.mem m).idxOf k)else s.page k:=by unfold Hs.reach;simp only;rw[R6.2];unfold pgM;rw[List.take_of_length_le (zK _)]
def Hs.step(h:Hs)(yt:Int)(lv:Nat->Int)(s:Cs)(k:Nat):Cs:=if(h.pl k).kd.isB=vG then h.basin yt lv s k else if h.last k=k then h.reach s k else s
def Hs.goF(h:Hs)(yt:Int)(lv:Nat->Int):Nat->Nat->Cs->Cs
 |0,_,s=>s
 |m+1,k,s=>h.goF yt lv m (k+1) (h.step yt lv s k)
theorem ZHG(g:GoodH h){k:Nat}(hk:k<h.n)(hs:s.NN h.n):(h.step yt lv s k).NN h.n:=by
 unfold Hs.step;split
 ·exact ZMW hs
 ·split
  ·rename_i e;exact ZMe g hk e hs
  ·exact hs
theorem ZRI{k:Nat}:(h.step yt lv s k).rea.length<=s.rea.length+1:=by
 unfold Hs.step;split
 ·rw[ZNK];lia
 ·split
  ·rw[ZMK];lia
  ·lia
end
section
variable{G:DH}{h:Hs}{yt:Int}{lv:Nat->Int}
theorem W3{β:Type}{f f':α->Option β}:∀{l:List α},(∀x∈l,f x=f' x)->l.filterMap f=l.filterMap f'
 |[],_=>rfl
 |x::l,hl=>by rw[qY,qY,hl x zW,W3 λy hy=>hl y (zX _ hy)]
theorem ZNc{k:Nat}(hS:Bm 2 [2] S=[vF,vF,vE (.int k)])(G:DH):Ds (Ew 0 (.fl (tab h.n λi=>(h.last i:Int)))) (Bg 2 (Am (gV 0) (Am (gV 1) Bk))) V2 Va (Bm 2 [2] S) h.n 0 G=.ok (Bf (h.mem k)) G:=by
 have he:Et (tab h.n λi=>(h.last i:Int))=(zZ h.n).map λ(i:Nat)=>D.tup [.int (i:Int),.int (h.last i:Int)]:=by refine qA (by simp[Et]) λi h1 h2=>by simp[Et,tab]
 rw[Yg (F:=λd=>match d with | .tup [.int i,.int e]=>if e=(k:Int)then vE (.int i)else vF|_=>vF) (λj=>ZAa j G) (λx hx=>?_) (by rw[Lb];simp)]
 ·congr 1
  rw[he,qX];unfold Hs.mem Bf;rw[<-List.filterMap_eq_filter,List.map_filterMap];refine W3 λi _=>?_
  by_cases e:h.last i=k
  ·subst e;simp[Option.guard]
  ·have e2:¬((h.last i:Int)=(k:Int)):=by lia
   simp[Option.guard,e,e2]
 ·rw[he]at hx;obtain⟨i,_,rfl⟩:=zH.mp hx;refine⟨[vE (.int i),vE (.int (h.last i:Int)),vE (.int k)],by rw[hS];simp,?_⟩;by_cases e:h.last i=k
  ·refine .inr ⟨by unfold V2;simp[e],.int i,by unfold Va;simp,by simp[e]⟩
  ·have e2:¬((h.last i:Int)=(k:Int)):=by lia
   exact .inl ⟨by unfold V2;simp[e2],by simp[e2]⟩
theorem ZG7(g:GoodH h):∀(m k:Nat)(s:Cs)(x y:Option D),k+m=h.n->s.NN h.n->s.rea.length<=k->∃x' y',
  Bo (Bg 2 (Am (gV 2) (Am (gV 3) Bk))) Ql ((Et (tab h.n λi=>(h.last i:Int))).drop k) [vE (.ref G.length),vE (.fl (tab h.n λi=>(h.last i:Int))),x,y] (csH G h.n h.enc (.tup (tab h.n lv)) yt s)=
   .nx [vE (.ref G.length),vE (.fl (tab h.n λi=>(h.last i:Int))),x',y'] (csH G h.n h.enc (.tup (tab h.n lv)) yt (h.goF yt lv m k s))
 |0,k,s,x,y,e,_,_=>⟨x,y,by rw[zP (by rw[Lb];simp;lia),Ed];rfl⟩
 | m + 1,k,s,x,y,e,hs,hre=>by
  have hk:k<h.n:=by lia
  have hn:=g.len;have hre2:=ZRI (h:=h) (yt:=yt) (lv:=lv) (s:=s) (k:=k);obtain⟨x',y',ih⟩:=ZG7 g m (k+1) (h.step yt lv s k) (vE (.int k)) (vE (.int (h.last k:Int))) (by lia) (ZHG g hk hs) (by lia);refine⟨x',y',?_⟩;have e0:(Et (tab h.n λi=>(h.last i:Int))).drop k=.tup [.int k,.int (h.last k:Int)]::(Et (tab h.n λi=>(h.last i:Int))).drop (k+1):=by rw[zM (by rw[Lb];simpa using hk)];simp[Et,tab]
  have hml:(h.mem k).length<=1000000:=by have:=ZGF (h:=h) (m:=k);lia
  have hb:Ql [vE (.ref G.length),vE (.fl (tab h.n λi=>(h.last i:Int))),vE (.int k),vE (.int (h.last k:Int))] (csH G h.n h.enc (.tup (tab h.n lv)) yt s)=
    .nx [vE (.ref G.length),vE (.fl (tab h.n λi=>(h.last i:Int))),vE (.int k),vE (.int (h.last k:Int))] (csH G h.n h.enc (.tup (tab h.n lv)) yt (h.step yt lv s k)):=by
   unfold Ql Hs.step;by_cases hB:(h.pl k).kd.isB=vG
   ·simp[Lf,Dz,Hs.Fo hk,Je,hB,Kq ZOY,ZRe g hk hB]
   ·by_cases hl:h.last k=k
    ·have hc:Ds (Ew 0 (.fl (tab h.n λi=>(h.last i:Int)))) (Bg 2 (Am (gV 0) (Am (gV 1) Bk))) V2 Va (Bm 2 [2] [vE (.ref G.length),vE (.fl (tab h.n λi=>(h.last i:Int))),vE (.int k),vE (.int (k:Int))]) h.n 0 (csH G h.n h.enc (.tup (tab h.n lv)) yt s)=.ok (Bf (h.mem k)) (csH G h.n h.enc (.tup (tab h.n lv)) yt s):=ZNc rfl _;simp[Lf,Dz,Hs.Fo hk,Je,hB,hl,Kq ZN4,Im,Ld,lenOf,hc,Av,hml,Y8,ZOk g hk hl hs.1 (by lia)]
    ·have hl':¬((h.last k:Int)=(k:Int)):=by lia
     simp[Lf,Dz,Hs.Fo hk,Je,hB,hl,hl']
  rw[e0,Dh];simp only[Q5,Qc,Pk,Dq,R.Ji,R.Dl,qJ,hb,Ea,zO,qN,Nat.reduceAdd,if_true];exact ih
theorem ZR3(g:GoodH h)(hs:s.NN h.n)(hre:s.rea=[]):Xc [.ref G.length] (csH G h.n h.enc (.tup (tab h.n lv)) yt s)=.ok .non (csH G h.n h.enc (.tup (tab h.n lv)) yt (h.goF yt lv h.n 0 s)):=by
 obtain⟨x',y',hL⟩:=ZG7 (G:=G) (yt:=yt) (lv:=lv) g h.n 0 s vF vF (by lia) hs (by rw[hre];simp);rw[jE]at hL;unfold Xc ZFi;rw[Br];have hz:∀S G',Eo (Ew 0 (.fl (tab h.n λi=>(h.last i:Int)))) (Bg 2 (Am (gV 2) (Am (gV 3) Bk))) Ql h.n 0 S G'=Bo (Bg 2 (Am (gV 2) (Am (gV 3) Bk))) Ql (Et (tab h.n λi=>(h.last i:Int))) S G':=λS G'=>Rc ZAa (by rw[Lb];simp)
 simp[Lf,ZQM g,Y8,Im,Ld,lenOf,hz,hL,M3]
end
def Bp(n:Nat)(co:Nat->Nat->Int):List D:=(zZ n).map λk=>D.tup (tab 5 (co k))
def stD(n:Nat)(lv:Nat->Int)(co:Nat->Nat->Int):D:=.tup [.tup (tab n lv),.tup (Bp n co)]
@[simp]theorem ZUk{n:Nat}:bels m (Bp n co)=vG:=Ga λk _=>by simp[Jl]
@[simp]theorem ZTH{n:Nat}:bels m (Dm n pg)=vG:=Ga λk _=>ZQq
@[simp]theorem ZT2{n:Nat}:(Bp n co).length=n:=by simp[Bp]
noncomputable def N8(co:Nat->Nat->Int):Nat->Nat->Int:=λk j=>if j<4 then co k (j+1)else 0
noncomputable def cs0(co:Nat->Nat->Int)(fl:Nat->Int):Cs:=⟨λk=>fl k+co k 0,N8 co,λ_=>[],[]⟩
theorem tab5:tab 5 F=[.int (F 0),.int (F 1),.int (F 2),.int (F 3),.int (F 4)]:=rfl
theorem O4{c f:Str}{fs:List (Str×D)}{d:D}(hl:fs.length<1000):Pz c f (.ref G.length) d S (G++ .ins c fs::L)=.nx S (G++ .ins c (Ht f d fs)::L):=by
 rw[ZP8 (fs:=fs) (by rw[Eg];rfl) hl,Ft]
 rfl
theorem ZMw{n:Nat}(G:DH):Ds (Gz [.tup (tab n fl),.tup (Bp n co)]) (Bg 2 (Am (gV 0) (Am (gV 1) Bk))) Cd Xb (Bm 2 [] S) n 0 G=.ok (tab n λk=>fl k+co k 0) G:=by
 have he:O6 (tab n fl) (Bp n co)=(zZ n).map λ(i:Nat)=>D.tup [.int (fl i),.tup (tab 5 (co i))]:=by refine qA (by simp[O6]) λi h1 h2=>by simp[O6,tab,Bp]
 rw[Yg (F:=λd=>match d with | .tup [.int c,.tup (.int a::_)]=>vE (.int (c+a))|_=>vF) (λj=>ZDq (Mf (xs:=tab n fl)) (Mf (xs:=Bp n co)) j) (λx hx=>?_) (by rw[he];simp)]
 ·congr 1
  rw[he,qX];show(zZ n).filterMap (λi=>vE (D.int (fl i+co i 0)))=_;rw[qz]
  rfl
 ·rw[he]at hx;obtain⟨i,_,rfl⟩:=zH.mp hx;refine⟨[vE (.int (fl i)),vE (.tup (tab 5 (co i)))],by simp[Bm],.inr ⟨rfl,.int (fl i+co i 0),?_,by simp[tab5]⟩⟩;unfold Xb;simp[tab5]
theorem ZRw{k:Nat}(G:DH):Ut [vE (.tup (tab 5 (co k)))] G=.ok (.ref G.length) (G++[.lst (tab 5 (N8 co k))]):=by
 have hcut:cutD (tab 5 (co k)) (vE 1) vF=[.int (co k 1),.int (co k 2),.int (co k 3),.int (co k 4)]:=rfl;have h1:Oc [.tup [.int (co k 1),.int (co k 2),.int (co k 3),.int (co k 4)]] G=.ok (.ref G.length) (G++[.lst [.int (co k 1),.int (co k 2),.int (co k 3),.int (co k 4)]]):=rfl;have h2:Ay (.fl [.int (co k 1),.int (co k 2),.int (co k 3),.int (co k 4)]) (.fl [.int 0]) G=.ok (.ref G.length) (G++[.lst (tab 5 (N8 co k))]):=rfl
 have hf:∀ds:List D,bels G.length ds=vG->freeze G (.ok (.ref G.length) (G++[.lst ds]))=.ok (.fl ds) G:=λds hb=>Fd hb
 unfold Ut;simp[M9,Zv,hcut,Ka,h1,hf,Av,h2,Gb]
theorem ZH6{n:Nat}{co:Nat->Nat->Int}:∀(m k:Nat)(G:DH),k+m=n->Dt (gV 0) Cd Ut [vF] ((Bp n co).drop k) G=.ok ((zZ m).map λj=>D.ref (G.length+j)) (G++(zZ m).map λj=>DO.lst (tab 5 (N8 co (k+j))))
 |0,k,G,e=>by rw[zP (by simp;lia)];simp[Dt]
 | m+1,k,G,e=>by
  have e0:(Bp n co).drop k=.tup (tab 5 (co k))::(Bp n co).drop (k+1):=by rw[zM (by simp;lia)];simp[Bp]
  have ih:=ZH6 (n:=n) (co:=co) m (k+1) (G++[.lst (tab 5 (N8 co k))]) (by lia);rw[e0,ZCH];simp only[Dq,R.Ji,qJ,ZHf,if_true,ZRw,ih]
  congr 1
  ·rw[qE,zk,qF]
   congr 1
   refine qk λj _=>?_
   simp only[Function.comp,qZ,j0]
   congr 1
   lia
  ·rw[qE,zk,qF,jy]
   congr 1
   show _::_=_::_
   congr 1
   refine qk λj _=>?_
   simp only[Function.comp]
   congr 3
   lia
theorem ZOj(g:GoodH h):
  Ss [.ref G.length,h.enc,stD h.n lv co,.int at_,.tup (tab h.n fl)] (G++[.ins "Course" []])=.ok .non (csH G h.n h.enc (.tup (tab h.n lv)) (at_%h.yr) (cs0 co fl)):=by
 have hn:=g.len;have hyr:=g.yr;have hnl:h.n<=1000000:=by lia
 have p1:∀a:D,Ht "house" a (cfl [])=cfl [a]:=λ_=>rfl
 have p2:∀a b:D,Ht "levels" b (cfl [a])=cfl [a,b]:=λ_ _=>rfl
 have p3:∀a b c:D,Ht "year_turn" c (cfl [a,b])=cfl [a,b,c]:=λ_ _ _=>rfl
 have p4:∀a b c d:D,Ht "came" d (cfl [a,b,c])=cfl [a,b,c,d]:=λ_ _ _ _=>rfl
 have p5:∀a b c d e:D,Ht "coming" e (cfl [a,b,c,d])=cfl [a,b,c,d,e]:=λ_ _ _ _ _=>rfl
 have p6:∀a b c d e f:D,Ht "page" f (cfl [a,b,c,d,e])=cfl [a,b,c,d,e,f]:=λ_ _ _ _ _ _=>rfl
 have p7:∀a b c d e f q:D,Ht "reaches" q (cfl [a,b,c,d,e,f])=cfl [a,b,c,d,e,f,q]:=λ_ _ _ _ _ _ _=>rfl
 have hl:∀ds,(cfl ds).length<1000:=λds=>by unfold cfl;rw[List.length_zip];have:(["house","levels","year_turn","came","coming","page","reaches"]:List Str).length=7:=rfl;lia
 have hz:∀G',Ie 2 [.tup (tab h.n fl),.tup (Bp h.n co)] G'=.ok (.fn h.n (Gz [.tup (tab h.n fl),.tup (Bp h.n co)])) G':=λG'=>by rw[ZAD Mf Mf];simp
 have hcc:=λG'=>ZH6 (n:=h.n) (co:=co) h.n 0 G' (by lia)
 simp only[jE,Nat.zero_add]at hcc;have hcs:∀S:DSt,Bm 1 [] S=[vF]:=λ_=>rfl
 have epg:zV h.n D.non=Dm h.n λ_=>[]:=by unfold Dm;refine qA (by simp) λi h1 h2=>by simp[Le]
 let S:DSt:=[vE (.ref G.length),vE h.enc,vE (stD h.n lv co),vE (.int at_),vE (.tup (tab h.n fl)),vE (.tup (tab h.n lv)),vE (.tup (Bp h.n co))];have hS:S=[vE (.ref G.length),vE h.enc,vE (stD h.n lv co),vE (.int at_),vE (.tup (tab h.n fl)),vE (.tup (tab h.n lv)),vE (.tup (Bp h.n co))]:=rfl;let R5:DH:=(zZ h.n).map λk=>DO.lst (tab 5 (N8 co k))
 have hR5:R5.length=h.n:=by simp[R5]
 have q1:Hd "Course" (dV 0) (dV 1) "house" S (G++ .ins "Course" (cfl [])::[])=.nx S (G++ .ins "Course" (cfl [h.enc])::[]):=by rw[Nq,hS];simp only[ZDD,jD,jz,R.Dl,O4 (hl _),p1]
 have q2:Hd "Course" (dV 0) (dV 5) "levels" S (G++ .ins "Course" (cfl [h.enc])::[])=.nx S (G++ .ins "Course" (cfl [h.enc,.tup (tab h.n lv)])::[]):=by rw[Nq,hS];simp only[ZDD,jD,jz,R.Dl,O4 (hl _),p2]
 have q3:Hd "Course" (dV 0) (dOp Bq (dV 3) (dOp Aj (dV 1) (dC (.int 0)))) "year_turn" S (G++ .ins "Course" (cfl [h.enc,.tup (tab h.n lv)])::[])=.nx S (G++ .ins "Course" (cfl [h.enc,.tup (tab h.n lv),.int (at_%h.yr)])::[]):=by rw[Nq,hS];simp[ZPx,hyr,O4 (hl _),p3]
 have q4:Hd "Course" (dV 0) (Ej (Cy (Ie 2) (Ab (dV 4) (Ab (dV 6) Ad))) 2 [] (Bg 2 (Am (gV 0) (Am (gV 1) Bk))) Cd Xb) "came" S (G++ .ins "Course" (cfl [h.enc,.tup (tab h.n lv),.int (at_%h.yr)])::[])=
   .nx S (G++ .ins "Course" (cfl [h.enc,.tup (tab h.n lv),.int (at_%h.yr),.ref (G.length+1)]):: .lst (tab h.n λk=>fl k+co k 0)::[]):=by
  rw[Nq,hS];simp[hz,ZMw,Av,hnl,O4 (hl _),p4]
 have q5:Hd "Course" (dV 0) (Ej (Fv (dV 6)) 1 [] (gV 0) Cd Ut) "coming" S (G++ .ins "Course" (cfl [h.enc,.tup (tab h.n lv),.int (at_%h.yr),.ref (G.length+1)]):: .lst (tab h.n λk=>fl k+co k 0)::[])=
   .nx S (G++ .ins "Course" (cfl [h.enc,.tup (tab h.n lv),.int (at_%h.yr),.ref (G.length+1),.ref (G.length+(2+h.n))]):: .lst (tab h.n λk=>fl k+co k 0)::(R5++[.lst (Ep G.length h.n)])):=by
  have hi:I9 (.tup (Bp h.n co)) (G++ .ins "Course" (cfl [h.enc,.tup (tab h.n lv),.int (at_%h.yr),.ref (G.length+1)]):: .lst (tab h.n λk=>fl k+co k 0)::[])=.ok (.pure (Bp h.n co)) (G++ .ins "Course" (cfl [h.enc,.tup (tab h.n lv),.int (at_%h.yr),.ref (G.length+1)]):: .lst (tab h.n λk=>fl k+co k 0)::[]):=rfl;have er:∀L:DH,L.length=2->(zZ h.n).map (λj=>D.ref ((G++L).length+j))=Ep G.length h.n:=λL e=>by
   unfold Ep;refine qk λj _=>?_
   rw[qZ,e,Nat.add_assoc]
  have hc2:=hcc (G++ .ins "Course" (cfl [h.enc,.tup (tab h.n lv),.int (at_%h.yr),.ref (G.length+1)]):: .lst (tab h.n λk=>fl k+co k 0)::[]);rw[er _ rfl]at hc2;have hml:∀G',Av (Ep G.length h.n) G'=.ok (.ref G'.length) (G'++[.lst (Ep G.length h.n)]):=λG'=>by simp[Av,Ep,hnl]
  rw[Nq,hS];simp only[ZMU,ZOr,ZDD,jD,jz,R.Ji,hi,hcs,hc2,hml,R.Dl];have e2:(G++DO.ins "Course" (cfl [h.enc,.tup (tab h.n lv),.int (at_%h.yr),.ref (G.length+1)]):: .lst (tab h.n λk=>fl k+co k 0)::[]++(zZ h.n).map λj=>DO.lst (tab 5 (N8 co j))).length=G.length+(2+h.n):=by simp;lia
  rw[e2];simp only[jy,List.cons_append,jP];rw[O4 (hl _),p5]
 have q6:Hd "Course" (dV 0) (Ff (dOp Li (dFn Av (Ab (dC .non) Ad)) (dFn Cz (Ab (dV 5) Ad)))) "page" S (G++ .ins "Course" (cfl [h.enc,.tup (tab h.n lv),.int (at_%h.yr),.ref (G.length+1),.ref (G.length+(2+h.n))]):: .lst (tab h.n λk=>fl k+co k 0)::(R5++[.lst (Ep G.length h.n)]))=
   .nx S (G++ .ins "Course" (cfl [h.enc,.tup (tab h.n lv),.int (at_%h.yr),.ref (G.length+1),.ref (G.length+(2+h.n)),.ref (G.length+(3+h.n))]):: .lst (tab h.n λk=>fl k+co k 0)::(R5++[.lst (Ep G.length h.n),.lst (Dm h.n λ_=>[])])):=by
  rw[Nq,hS];generalize hQ:G++DO.ins "Course" (cfl [h.enc,.tup (tab h.n lv),.int (at_%h.yr),.ref (G.length+1),.ref (G.length+(2+h.n))]):: .lst (tab h.n λk=>fl k+co k 0)::(R5++[.lst (Ep G.length h.n)])=Q;have eQ:Q.length=G.length+(3+h.n):=by rw[<-hQ];simp[hR5];lia
  have hrep:Li (.ref Q.length) (.int (h.n:Int)) (Q++[.lst [.non]])=.ok (.ref (Q.length+1)) (Q++[.lst [.non],.lst (Dm h.n λ_=>[])]):=by rw[ZIZ (d:=.non) (by rw[Eg];rfl) (by lia),epg];simp
  have ht:tidy Q (.ok (.ref (Q.length+1)) (Q++[.lst [.non],.lst (Dm h.n λ_=>[])]))=.ok (.ref Q.length) (Q++[.lst (Dm h.n λ_=>[])]):=ZET _ (k:=1) rfl ZTH;have hst:Pz "Course" "page" (.ref G.length) (.ref Q.length) S (Q++[.lst (Dm h.n λ_=>[])])=.nx S (G++ .ins "Course" (cfl [h.enc,.tup (tab h.n lv),.int (at_%h.yr),.ref (G.length+1),.ref (G.length+(2+h.n)),.ref (G.length+(3+h.n))]):: .lst (tab h.n λk=>fl k+co k 0)::(R5++[.lst (Ep G.length h.n),.lst (Dm h.n λ_=>[])])):=by rw[eQ,<-hQ];simp only[jy,List.cons_append,jP];rw[O4 (hl _),p6]
  rw[hS]at hst;simp[Av,hrep,ht,hst]
 have q7:Hd "Course" (dV 0) (Ff (dFn Av Ad)) "reaches" S (G++ .ins "Course" (cfl [h.enc,.tup (tab h.n lv),.int (at_%h.yr),.ref (G.length+1),.ref (G.length+(2+h.n)),.ref (G.length+(3+h.n))]):: .lst (tab h.n λk=>fl k+co k 0)::(R5++[.lst (Ep G.length h.n),.lst (Dm h.n λ_=>[])]))=
   .nx S (G++ .ins "Course" (cfl [h.enc,.tup (tab h.n lv),.int (at_%h.yr),.ref (G.length+1),.ref (G.length+(2+h.n)),.ref (G.length+(3+h.n)),.ref (G.length+(4+h.n))]):: .lst (tab h.n λk=>fl k+co k 0)::(R5++[.lst (Ep G.length h.n),.lst (Dm h.n λ_=>[]),.lst []])):=by
  rw[Nq,hS];generalize hQ:G++DO.ins "Course" (cfl [h.enc,.tup (tab h.n lv),.int (at_%h.yr),.ref (G.length+1),.ref (G.length+(2+h.n)),.ref (G.length+(3+h.n))]):: .lst (tab h.n λk=>fl k+co k 0)::(R5++[.lst (Ep G.length h.n),.lst (Dm h.n λ_=>[])])=Q;have eQ:Q.length=G.length+(4+h.n):=by rw[<-hQ];simp[hR5];lia
  have ht:tidy Q (.ok (.ref Q.length) (Q++[.lst []]))=.ok (.ref Q.length) (Q++[.lst []]):=Gb rfl;have hst:Pz "Course" "reaches" (.ref G.length) (.ref Q.length) S (Q++[.lst []])=.nx S (G++ .ins "Course" (cfl [h.enc,.tup (tab h.n lv),.int (at_%h.yr),.ref (G.length+1),.ref (G.length+(2+h.n)),.ref (G.length+(3+h.n)),.ref (G.length+(4+h.n))]):: .lst (tab h.n λk=>fl k+co k 0)::(R5++[.lst (Ep G.length h.n),.lst (Dm h.n λ_=>[]),.lst []])):=by rw[eQ,<-hQ];simp only[jy,List.cons_append,jP];rw[O4 (hl _),p7]
  rw[hS]at hst;simp[Av,ht,hst]
 have htd:tidy (G++[.ins "Course" []]) (.ok .non (csH G h.n h.enc (.tup (tab h.n lv)) (at_%h.yr) (cs0 co fl)))=.ok .non (csH G h.n h.enc (.tup (tab h.n lv)) (at_%h.yr) (cs0 co fl)):=ZPp λz=>by
  have h1:=congrArg (λl:DH=>l[G.length]?) z;simp only[qZ,j0]at h1;rw[jY (by lia),Ln]at h1;have h2:(G++[DO.ins "Course" []])[G.length]?=vE (.ins "Course" []):=by rw[Eg];rfl
  rw[h2]at h1;simp[cflds,cfl]at h1
 have hfin:G++DO.ins "Course" (cfl [h.enc,.tup (tab h.n lv),.int (at_%h.yr),.ref (G.length+1),.ref (G.length+(2+h.n)),.ref (G.length+(3+h.n)),.ref (G.length+(4+h.n))]):: .lst (tab h.n λk=>fl k+co k 0)::(R5++[.lst (Ep G.length h.n),.lst (Dm h.n λ_=>[]),.lst []])=csH G h.n h.enc (.tup (tab h.n lv)) (at_%h.yr) (cs0 co fl):=rfl;have q0:sAs (dV 2) (Bg 2 (Am (gV 5) (Am (gV 6) Bk))) [vE (.ref G.length),vE h.enc,vE (stD h.n lv co),vE (.int at_),vE (.tup (tab h.n fl)),vF,vF] (G++[.ins "Course" []])=.nx S (G++ .ins "Course" (cfl [])::[]):=by
  simp[stD,hS]
  rfl
 unfold Ss ZI5;rw[Br];have h5: [D.ref G.length,h.enc,stD h.n lv co,.int at_,.tup (tab h.n fl)].length=5:=rfl;rw[if_pos h5];have hd:([D.ref G.length,h.enc,stD h.n lv co,.int at_,.tup (tab h.n fl)].map vE++zV 2 vF)=[vE (.ref G.length),vE h.enc,vE (stD h.n lv co),vE (.int at_),vE (.tup (tab h.n fl)),vF,vF]:=rfl;rw[hd];simp only[Uh,q0,Yd,q1,q2,q3,q4,q5,q6,q7,hfin,ZMO]
 exact htd
section
variable{h:Hs}{yt:Int}{lv:Nat->Int}
theorem ZHn(g:GoodH h):∀(m k:Nat),h.n<=m+k->h.last k=k∨(h.pl (h.last k)).kd.isB=vH
 |0,k,e=>.inl (Mq g (Q9 (by lia)))
 | m + 1,k,e=>by
  cases hd:h.dir k with
  |none=>exact .inl (Mq g hd)
  | some d=>
   have hl:=Np g hd;rw[Qp g hd];rcases ZHn g m d (by lia)with z|z
   ·refine .inr ?_;rw[z];unfold Hs.dir at hd;cases h1:h.dn k with
    |none=>rw[h1]at hd;cases hd
    | some d'=>
     rw[h1]at hd;simp only at hd;split at hd
     ·cases hd
     ·rename_i hn;cases hd;cases e2:(h.pl d).kd.isB with
      |false=>rfl
      |true=>exact absurd (.inr (.inr e2)) hn
   ·exact .inr z
theorem ZHt(g:GoodH h):∀(m k:Nat),h.n<=m+k->h.last (h.last k)=h.last k
 |0,k,e=>by have h1:=Mq g (h:=h) (k:=k) (Q9 (by lia));rw[h1,h1]
 | m+1,k,e=>by
  cases hd:h.dir k with
  |none=>rw[Mq g hd,Mq g hd]
  |some d=>
   have hl:=Np g hd;rw[Qp g hd];exact ZHt g m d (by lia)
def Hs.done(h:Hs)(j k:Nat):Prop:=if(h.pl k).kd.isB=vG then k<j else h.last k<j
theorem ZRC(g:GoodH h){k:Nat}(hk:k<h.n)(hf:∀i,i<h.n->h.done k i->(s.page i).length=6):∀i,i<h.n->h.done (k+1) i->((h.step yt lv s k).page i).length=6:=λi hi hd=>by
 unfold Hs.step;split
 ·rename_i hB;by_cases e:i=k
  ·subst e;exact(ZKl hB).1
  ·rw[(ZKl hB).2 i e];refine hf i hi ?_;unfold Hs.done at hd⊢;by_cases hiB:(h.pl i).kd.isB=vG
   ·rw[if_pos hiB]at hd⊢;lia
   ·rw[if_neg hiB]at hd⊢;rcases jS (h.last i) k with z|z
    ·exact z
    ·have e2:h.last i=k:=by lia
     rcases ZHn g h.n i (by lia)with z2|z2
     ·rw[z2]at e2;exact absurd e2 e
     ·rw[e2,hB]at z2;cases z2
 ·rename_i hB;split
  ·rename_i hl;rw[ZSj];split
   ·rfl
   ·rename_i hm;refine hf i hi ?_;unfold Hs.done at hd⊢;by_cases hiB:(h.pl i).kd.isB=vG
    ·rw[if_pos hiB]at hd⊢;rcases jS i k with z|z
     ·exact z
     ·have e2:i=k:=by lia
      rw[e2]at hiB;exact absurd hiB hB
    ·rw[if_neg hiB]at hd⊢;rcases jS (h.last i) k with z|z
     ·exact z
     ·exact absurd (mem_iff.mpr ⟨hi,by lia⟩) hm
  ·rename_i hl;refine hf i hi ?_;unfold Hs.done at hd⊢;by_cases hiB:(h.pl i).kd.isB=vG
   ·rw[if_pos hiB]at hd⊢;rcases jS i k with z|z
    ·exact z
    ·have e2:i=k:=by lia
     rw[e2]at hiB;exact absurd hiB hB
   ·rw[if_neg hiB]at hd⊢;rcases jS (h.last i) k with z|z
    ·exact z
    ·have e2:h.last i=k:=by lia
     have:=ZHt g h.n i (by lia);rw[e2]at this;exact absurd this hl
theorem ZBb(g:GoodH h):∀(m k:Nat)(s:Cs),k+m=h.n->(∀i,i<h.n->h.done k i->(s.page i).length=6)->∀i,i<h.n->((h.goF yt lv m k s).page i).length=6
 | 0,k,s,e,hf,i,hi=>hf i hi (by
   unfold Hs.done;split
   ·lia
   ·have:=(ZKf g i).2 hi;lia)
 |m+1,k,s,e,hf,i,hi=>ZBb g m (k+1) _ (by lia) (ZRC g (by lia) hf) i hi
theorem ZHq(g:GoodH h):∀(m k:Nat)(s:Cs),k+m=h.n->s.NN h.n->(h.goF yt lv m k s).NN h.n
 |0,k,s,e,hs=>hs
 |m+1,k,s,e,hs=>ZHq g m (k+1) _ (by lia) (ZHG g (by lia) hs)
end
noncomputable def lies(pg:Nat->List Int):Nat->Int:=λk=>(pg k).getD 5 0
theorem row6(h:l.length=6):∃a b c d e f,l=[a,b,c,d,e,f]:=by
 match l,h with
 |[a,b,c,d,e,f],_=>exact⟨a,b,c,d,e,f,rfl⟩
section
variable{G:DH}{h:Hs}{LV:D}{yt:Int}{s:Cs}
theorem ZSt(hf:∀k,k<h.n->(s.page k).length=6):Hv (G.length+(3+h.n)) (gV 0) Cd Vs (Bm 1 [] S) h.n 0 (csH G h.n h.enc LV yt s)=.ok (tab h.n (lies s.page)) (csH G h.n h.enc LV yt s):=by
 have hx:=ZFq (i:=G.length+(3+h.n)) (g:=gV 0) (c:=Cd) (te:=Vs) (S:=Bm 1 [] S) (G:=csH G h.n h.enc LV yt s) (F:=λd=>match d with | .tup [_,_,_,_,_,x]=>vE x|_=>vF) Mu (λx hx=>by obtain⟨k,hk,rfl⟩:=zH.mp hx;obtain⟨a,b,c,d,e,f,el⟩:=row6 (hf k (qW.mp hk));rw[el];refine⟨[vE (Le [a,b,c,d,e,f])],by simp[Bm],.inr ⟨rfl,.int f,?_,rfl⟩⟩;unfold Vs;simp[Le])
 rw[ZNB]at hx;rw[hx]
 congr 1
 unfold Dm;rw[qX];unfold tab;rw[<-qz];refine W3 λk hk=>?_
 obtain⟨a,b,c,d,e,f,el⟩:=row6 (hf k (qW.mp hk));simp[Function.comp,el,Le,lies]
theorem ZRh:Hv (G.length+(2+h.n)) (gV 0) Cd Xj (Bm 1 [] S) h.n 0 (csH G h.n h.enc LV yt s)=.ok (Bp h.n s.coming) (csH G h.n h.enc LV yt s):=by
 have hlen:(Ep G.length h.n).length=h.n:=by simp[Ep]
 have hx:=ZFq (i:=G.length+(2+h.n)) (g:=gV 0) (c:=Cd) (te:=Xj) (S:=Bm 1 [] S) (G:=csH G h.n h.enc LV yt s) (F:=λd=>match d with | .ref j=>vE (.tup (tab 5 (s.coming (j-(G.length+2)))))|_=>vF) ZAV (λx hx=>by
  obtain⟨k,hk,rfl⟩:=zH.mp hx;refine⟨[vE (.ref (G.length+(2+k)))],by simp[Bm],.inr ⟨rfl,.tup (tab 5 (s.coming k)),?_,?_⟩⟩
  ·unfold Xj;simp[ZAz (qW.mp hk)]
  ·have e:G.length+(2+k)-(G.length+2)=k:=by lia
   simp only[e])
 rw[hlen]at hx;rw[hx]
 congr 1
 unfold Ep;rw[qX];unfold Bp;rw[<-qz];refine W3 λk hk=>?_
 have e:G.length+(2+k)-(G.length+2)=k:=by lia
 simp only[Function.comp,e]
theorem ZQ8(g:GoodH h)(hf:∀k,k<h.n->(s.page k).length=6):Vp [.ref G.length] (csH G h.n h.enc LV yt s)=.ok (stD h.n (lies s.page) s.coming) (csH G h.n h.enc LV yt s):=by
 have hn:=g.len;have hnl:h.n<=1000000:=by lia
 have hl2:(Ep G.length h.n).length=h.n:=by simp[Ep]
 have hb:bel (csH G h.n h.enc LV yt s).length (stD h.n (lies s.page) s.coming)=vG:=by simp[stD]
 unfold Vp ZIk;rw[Br];unfold stD at hb⊢;have i1:I9 (.ref (G.length+(3+h.n))) (csH G h.n h.enc LV yt s)=.ok (.mt (G.length+(3+h.n))) (csH G h.n h.enc LV yt s):=by simp[I9,Mu]
 have i2:I9 (.ref (G.length+(2+h.n))) (csH G h.n h.enc LV yt s)=.ok (.mt (G.length+(2+h.n))) (csH G h.n h.enc LV yt s):=by simp[I9,ZAV]
 simp[i1,i2,Pb,Mu,ZSt hf,Av,hnl,Y8,Bb,ZFl,ZAV,hl2,ZRh,By]
def Hs.cs(h:Hs)(lv:Nat->Int)(co:Nat->Nat->Int)(at_:Int)(fl:Nat->Int):Cs:=h.goF (at_%h.yr) lv h.n 0 (cs0 co fl)
theorem ZFD{n:Nat}(hc:∀k j,k<n->j<5->0<=co k j)(hf:∀k,k<n->0<=fl k):(cs0 co fl).NN n:=by
 refine⟨λk hk=>?_,λk j hk hj=>?_⟩
 ·have:=hc k 0 hk (by lia);have:=hf k hk;show 0<=fl k+co k 0;lia
 ·show 0<=if j<4 then co k (j+1)else 0
  split
  ·exact hc k (j+1) hk (by lia)
  ·exact qq _
theorem ZPj(g:GoodH h):∀k,k<h.n->((h.cs lv co at_ fl).page k).length=6:=ZBb g h.n 0 _ (by lia) λi hi hd=>by
 unfold Hs.done at hd
 split at hd<;>lia
theorem ZRD(g:GoodH h)(hc:∀k j,k<h.n->j<5->0<=co k j)(hf:∀k,k<h.n->0<=fl k)(G:DH):
  Y7 [h.enc,stD h.n lv co,.int at_,.tup (tab h.n fl)] G=.ok (.tup [.tup (Dm h.n (h.cs lv co at_ fl).page),stD h.n (lies (h.cs lv co at_ fl).page) (h.cs lv co at_ fl).coming]) G:=by
 have hgo:=ZR3 (G:=G) (lv:=lv) (yt:=at_%h.yr) g (ZFD (fl:=fl) hc hf) rfl;have hst:=ZQ8 (G:=G) (LV:=.tup (tab h.n lv)) (yt:=at_%h.yr) g (ZPj g (lv:=lv) (fl:=fl) (co:=co) (at_:=at_));have hmk:ZBB Ss "Course" [h.enc,stD h.n lv co,.int at_,.tup (tab h.n fl)] G=.ok (.ref G.length) (csH G h.n h.enc (.tup (tab h.n lv)) (at_%h.yr) (cs0 co fl)):=by
  unfold ZBB;rw[ZOj g]
  rfl
 have egs:h.goF (at_%h.yr) lv h.n 0 (cs0 co fl)=h.cs lv co at_ fl:=rfl;rw[egs]at hgo;have hcH:∀s,csH G h.n h.enc (.tup (tab h.n lv)) (at_%h.yr) s=G++csT G.length h.n h.enc (.tup (tab h.n lv)) (at_%h.yr) s:=λ_=>rfl
 have hbl:bel G.length (.tup [.tup (Dm h.n (h.cs lv co at_ fl).page),stD h.n (lies (h.cs lv co at_ fl).page) (h.cs lv co at_ fl).coming])=vG:=by simp[stD]
 unfold Y7 ZFf;rw[Br];simp[hmk,Kq ZLs,hgo,Pb,Mu,Kq ZPD,hst,Bb];rw[hcH];exact Qv hbl
end
theorem ZLD(hf:∀k:Nat,k<=1000->∀G,Az [.fl (ns.map D.int),.int k] G=.ok (.int (f k)) G):∃u:Int,(u=1∨u=1000000000000000000000000000000)/\∀G,Fj [.fl (ns.map D.int)] G=.ok (.int u) G:=by
 have h0:∀G,Az [.fl (ns.map D.int),.int 0] G=.ok (.int (f 0)) G:=hf 0 (by lia);have fz:∀G:DH,freeze G (.ok (.ref G.length) (G++[.lst [.int 1,.int 1,.int 1000000000000000000000000000000]]))=.ok (.fl [.int 1,.int 1,.int 1000000000000000000000000000000]) G:=λG=>Fd rfl
 rcases(by lia:f 0/840%3=0∨f 0/840%3=1∨f 0/840%3=2)with h|h|h
 ·refine⟨1,.inl rfl,λG=>?_⟩;unfold Fj Wq;rw[Br];simp[h0,h,Av,fz,By]
 ·refine⟨1,.inl rfl,λG=>?_⟩;unfold Fj Wq;rw[Br];simp[h0,h,Av,fz,By]
 ·refine⟨1000000000000000000000000000000,.inr rfl,λG=>?_⟩;unfold Fj Wq;rw[Br];simp[h0,h,Av,fz,By]
noncomputable def amt(c u:Int):Int:=u*(c%7)+c/7%u
theorem V1(hu:0<u):0<=amt c u:=by unfold amt;have h1:0<=u*(c%7):=j3 (by lia) (by lia);have h2:0<=c/7%u:=qR _ (by lia);lia
theorem M5(hu:0<u)(G:DH):Km [.int c,.int u] G=.ok (.int (amt c u)) G:=by
 have m1:∀G,Bl (.int u) (.int (c%7)) G=.ok (.int (u*(c%7))) G:=λG=>Jj (by lia) (by lia)
 unfold Km ZEz;rw[Br];simp[m1,hu,By,amt]
noncomputable def Ow(xs:Nat->Int)(u:Int)(p:Bool):Nat->Nat->Int->List Stp
 |0,_,_=>[]
 |n+1,j,low=>⟨low+u*(xs (1+j)%4),1+u*(xs (1+j)/4%4), !(p&&decide (xs (1+j)/16%2=1))⟩::Ow xs u p n (j+1) (low+u*(xs (1+j)%4)+(1+u*(xs (1+j)/4%4)))
theorem ZFU{xs:Nat->Int}(hu:0<u){p:Bool}:∀(n j:Nat)(low:Int),Good low (Ow xs u p n j low)
 |0,_,_=>trivial
 |n+1,j,low=>by have h1:0<=u*(xs (1+j)%4):=j3 (by lia) (by lia);have h2:0<=u*(xs (1+j)/4%4):=j3 (by lia) (by lia);exact⟨by show low<=low+_;lia,by show 1<=1+_;lia,ZFU hu n (j+1) _⟩
theorem ZEw{xs:Nat->Int}:∀(n j:Nat)(low:Int),∀s∈Ow xs u vH n j low,s.r=vG
 |0,_,_,s,h=>by cases h
 |n+1,j,low,s,h=>by
  rcases zw.mp h with rfl|h
  ·simp
  ·exact ZEw n (j+1) _ s h
theorem ZHB{xs:Nat->Int}{u:Int}{p:Bool}{G:DH}:∀(n j:Nat)(low:Int)(acc:List Stp)(x y z:Option D),j+n<=3->acc.length+n<=10->∃x' y' z' l',
  Bo (gV 5) Td (Cm j n) [vE (.fl (tab 4 xs)),vE (.int u),vE (.bl p),vE (.ref G.length),vE (.int low),x,y,z] (G++[.lst (acc.map Stp.enc)])=
   .nx [vE (.fl (tab 4 xs)),vE (.int u),vE (.bl p),vE (.ref G.length),l',x',y',z'] (G++[.lst ((acc++Ow xs u p n j low).map Stp.enc)])
 |0,j,low,acc,x,y,z,h,ha=>⟨x,y,z,vE (.int low),by rw[Js,Ed];simp[Ow]⟩
 | n+1,j,low,acc,x,y,z,h,ha=>by
  have hj:1+j<4:=by lia
  have a1:atI (tab 4 xs) (1+(j:Int))=vE (.int (xs (1+j))):=Fb (k:=1+j) (by lia) (Nv hj);let s:Stp:=⟨low+u*(xs (1+j)%4),1+u*(xs (1+j)/4%4), !(p&&decide (xs (1+j)/16%2=1))⟩;obtain⟨x',y',z',l',ih⟩:=ZHB (xs:=xs) (u:=u) (p:=p) (G:=G) n (j+1) (s.h+s.m) (acc++[s]) (vE (.int j)) (vE (.int s.m)) (vE (.str (wy s.r))) (by lia) (by simp;lia);refine⟨x',y',z',l',?_⟩
  have m1:∀G,Bl (.int u) (.int (xs (1+j)%4)) G=.ok (.int (u*(xs (1+j)%4))) G:=λG=>Jj (by lia) (by lia)
  have m2:∀G,Bl (.int u) (.int (xs (1+j)/4%4)) G=.ok (.int (u*(xs (1+j)/4%4))) G:=λG=>Jj (by lia) (by lia)
  have hal:acc.length<1000000:=by lia
  have hb:Td [vE (.fl (tab 4 xs)),vE (.int u),vE (.bl p),vE (.ref G.length),vE (.int low),vE (.int j),y,z] (G++[.lst (acc.map Stp.enc)])=
    .nx [vE (.fl (tab 4 xs)),vE (.int u),vE (.bl p),vE (.ref G.length),vE (.int (s.h+s.m)),vE (.int j),vE (.int s.m),vE (.str (wy s.r))] (G++[.lst ((acc++[s]).map Stp.enc)]):=by
   unfold Td;cases p with
   |false=>simp[a1,m1,m2,Eg,Ft,hal,Bb,s,Stp.enc,wy]
   |true=>
    by_cases h16:xs (1+j)/16%2=1
    ·simp[a1,m1,m2,h16,Eg,Ft,hal,Bb,s,Stp.enc,wy]
    ·simp[a1,m1,m2,h16,Eg,Ft,hal,Bb,s,Stp.enc,wy]
  rw[Iu,Dh];simp only[Dq,R.Dl,qJ,hb,Ea];have e1:((j:Int)+1)=((j+1:Nat):Int):=by lia
  rw[e1,ih];simp[Ow,s]
noncomputable def stps(xs:Nat->Int)(u:Int)(p:Bool):List Stp:=Ow xs u p (xs 0%4).toNat 0 0
theorem ZGT{xs:Nat->Int}{p:Bool}(G:DH):Xk [.fl (tab 4 xs),.int u,.bl p] G=.ok (.tup ((stps xs u p).map Stp.enc)) G:=by
 have hn:(xs 0%4).toNat<=3:=by lia
 obtain⟨x',y',z',l',hL⟩:=ZHB (xs:=xs) (u:=u) (p:=p) (G:=G) (xs 0%4).toNat 0 0 [] vF vF vF (by lia) (by simp;lia);have hL':Bo (gV 5) Td (Cm 0 (xs 0%4).toNat) [vE (.fl (tab 4 xs)),vE (.int u),vE (.bl p),vE (.ref G.length),vE (.int 0),vF,vF,vF] (G++[.lst []])=.nx [vE (.fl (tab 4 xs)),vE (.int u),vE (.bl p),vE (.ref G.length),l',x',y',z'] (G++[.lst ((stps xs u p).map Stp.enc)]):=hL
 have a0:atI (tab 4 xs) 0=vE (.int (xs 0)):=Fb (k:=0) rfl (Nv (by lia));have hr:inR (xs 0%4):=Gu (by lia) (by lia);unfold Xk ZG1;rw[Br];simp[Av,Gb,a0,hr,hL',Eg,Qv]
noncomputable def Ey(st:List Stp):Int:=match st with
 |[]=>0
 |s::r=>(if s.r then 0 else s.m)+Ey r
theorem ZF6{c:D}{G:DH}:∀(st:List Stp)(v:Int)(x y z:Option D),∃x' y' z',Bo (Bg 3 (Am (gV 2) (Am (gV 3) (Am (gV 4) Bk)))) Vd (st.map Stp.enc) [vE c,vE (.int v),x,y,z] G=.nx [vE c,vE (.int (v+Ey st)),x',y',z'] G
 |[],v,x,y,z=>⟨x,y,z,by simp[Ey,Ed]⟩
 | s::st,v,x,y,z=>by
  let v1:Int:=v+if s.r then 0 else s.m
  obtain⟨x',y',z',ih⟩:=ZF6 (c:=c) (G:=G) st v1 (vE (.int s.h)) (vE (.int s.m)) (vE (.str (wy s.r)));refine⟨x',y',z',?_⟩;have hb:Vd [vE c,vE (.int v),vE (.int s.h),vE (.int s.m),vE (.str (wy s.r))] G=.nx [vE c,vE (.int v1),vE (.int s.h),vE (.int s.m),vE (.str (wy s.r))] G:=by
   unfold Vd
   cases e:s.r<;>simp[v1,e]
  rw[zk,Dh];simp[Stp.enc,hb];rw[ih];simp[Ey,v1,Int.add_assoc]
theorem ZLY(G:DH):Zi [.tup (st.map Stp.enc)] G=.ok (.int (Ey st)) G:=by obtain⟨x',y',z',hL⟩:=ZF6 (c:=.tup (st.map Stp.enc)) (G:=G) st 0 vF vF vF;unfold Zi ZGC;rw[Br];simp at hL;simp[hL,By]
theorem ZTL(hf:∀k:Nat,k<=1000->∀G,Az [.fl (ns.map D.int),.int k] G=.ok (.int (f k)) G):∃y:Int,(1<=y/\y<=24)/\∀G,Kr [.fl (ns.map D.int)] G=.ok (.int y) G:=by have h1:∀G,Az [.fl (ns.map D.int),.int 1] G=.ok (.int (f 1)) G:=hf 1 (by lia);refine⟨1+f 1%4,by lia,λG=>?_⟩;unfold Kr ZFG;rw[Br];simp[h1,By]
noncomputable def G9(lat:Nat->Int)(cel:Nat->Nat->Int)(u:Int)(p:Bool)(yr:Int):Nat->Nat->Int->List Ssn
 |0,_,_=>[]
 |m+1,j,bg=>if j=0∨(lat j%2=1/\bg+1<yr)then(if 0<j then bg+1+lat j/2%(yr-bg-1)else bg,stps (cel j) u p)::G9 lat cel u p yr m (j+1) (if 0<j then bg+1+lat j/2%(yr-bg-1)else bg)
  else G9 lat cel u p yr m (j+1) bg
theorem ZCs{lat:Nat->Int}{cel:Nat->Nat->Int}(hu:0<u){p:Bool}:∀(m j:Nat)(bg:Int),∀s∈G9 lat cel u p yr m j bg,Good 0 s.2/\(p=vH->∀t∈s.2,t.r=vG)
 |0,_,_,s,h=>by cases h
 | m+1,j,bg,s,h=>by
  unfold G9 at h;split at h
  ·rcases zw.mp h with rfl|h
   ·refine⟨ZFU hu _ _ _,λhp=>?_⟩;subst hp;exact ZEw _ _ _
   ·exact ZCs hu m (j+1) _ s h
  ·exact ZCs hu m (j+1) _ s h
theorem W0{lat:Nat->Int}{cel:Nat->Nat->Int}{u:Int}{p:Bool}{yr:Int}:∀(m j:Nat)(bg:Int),0<j->bg<yr->(∀s∈G9 lat cel u p yr m j bg,bg<s.1/\s.1<yr)/\(G9 lat cel u p yr m j bg).Pairwise (λa b:Ssn=>a.1<b.1)
 |0,_,_,_,_=>⟨λs h=>(nomatch h),List.Pairwise.nil⟩
 | m+1,j,bg,hj,hb=>by
  unfold G9;split
  ·rename_i hc;have hc2:bg+1<yr:=by
    rcases hc with z|z
    ·lia
    ·exact z.2
   have h1:0<=lat j/2%(yr-bg-1):=qR _ (by lia);have h2:lat j/2%(yr-bg-1)<yr-bg-1:=jZ _ (by lia);obtain⟨i1,i2⟩:=W0 (lat:=lat) (cel:=cel) (u:=u) (p:=p) (yr:=yr) m (j+1) (bg+1+lat j/2%(yr-bg-1)) (by lia) (by lia);refine⟨λs hs=>?_,List.pairwise_cons.mpr ⟨λs hs=>(i1 s hs).1,i2⟩⟩;rcases zw.mp hs with rfl|hs
   ·exact⟨by show bg<bg+1+_;lia,by show bg+1+_<yr;lia⟩
   ·have:=i1 s hs;lia
  ·exact W0 m (j+1) bg (by lia) hb
theorem Q8{te:DE}{n:Nat}{F:Nat->D}(h:∀k:Nat,k<n->te (S.set 0 (vE (.int k))) G=.ok (F k) G):Dt (gV 0) Cd te S (Cm 0 n) G=.ok ((zZ n).map F) G:=by
 have e:Cm 0 n=(zZ n).map λ(i:Nat)=>D.int (i:Int):=by
  refine j1 λi=>?_
  simp[Cm]
 rw[Yp (F:=λd=>match d with | .int i=>vE (F i.toNat)|_=>vF) (λq hq=>?_)]
 ·congr 1
  rw[e,qX];show(zZ n).filterMap (λ(i:Nat)=>vE (F ((i:Int).toNat)))=_;rw[qz];simp
 ·rw[e]at hq;obtain⟨i,hi,rfl⟩:=zH.mp hq;exact⟨S.set 0 (vE (.int i)),by simp,.inr ⟨rfl,F i,h i (qW.mp hi),by simp⟩⟩
noncomputable def Q6:Nat->Int
 |0=>1
 |1=>48
 |2=>2304
 |_=>110592
noncomputable def Sv:Nat->Int
 |0=>1
 |1=>64
 |2=>4096
 |_=>262144
theorem ZIQ(hf:∀k:Nat,k<=1000->∀G,Az [.fl (ns.map D.int),.int k] G=.ok (.int (f k)) G){b:Nat}(hb:b<=900)(hj:j<4)(G:DH):
  Dt (gV 0) Cd ZDg [vF,vE (.fl (ns.map D.int)),vE (.int b),vE (.int j)] (Cm 0 4) G=.ok (tab 4 λk=>f (b+5+(3*j+k)%6)/(1+7*((j:Int)/2))) G:=
 Q8 (n:=4) (F:=λk=>.int (f (b+5+(3*j+k)%6)/(1+7*((j:Int)/2)))) λk hk=>by
  have h1:=hf (b+5+(3*j+k)%6) (by lia) G;have e1:((b+5+(3*j+k)%6:Nat):Int)=(b:Int)+5+(3*(j:Int)+k)%6:=by lia
  rw[e1]at h1;unfold ZDg
  rcases(by lia:j=0∨j=1∨j=2∨j=3)with rfl|rfl|rfl|rfl<;>simp at h1⊢<;> simp[h1]
theorem ZPb(hf:∀k:Nat,k<=1000->∀G,Az [.fl (ns.map D.int),.int k] G=.ok (.int (f k)) G){b:Nat}(hb:b<=900)(hj:j<4)(G:DH):
  Dt (gV 0) Cd ZER [vF,vE (.fl (ns.map D.int)),vE (.int b),vE (.int j)] (Cm 0 4) G=.ok (tab 4 λk=>f (b+5+k)/Sv j) G:=
 Q8 (n:=4) (F:=λk=>.int (f (b+5+k)/Sv j)) λk hk=>by
  have h1:=hf (b+5+k) (by lia) G;have e1:((b+5+k:Nat):Int)=(b:Int)+5+k:=by lia
  rw[e1]at h1;have fz:freeze G (.ok (.ref G.length) (G++[.lst [.int 1,.int 64,.int 4096,.int 262144]]))=.ok (.fl [.int 1,.int 64,.int 4096,.int 262144]) G:=Fd rfl;unfold ZER
  rcases(by lia:j=0∨j=1∨j=2∨j=3)with rfl|rfl|rfl|rfl<;>simp[h1,Av,fz,Sv]
theorem ZS5(hf:∀k:Nat,k<=1000->∀G,Az [.fl (ns.map D.int),.int k] G=.ok (.int (f k)) G){b:Nat}(hb:b<=900){p:Bool}(hj:j<4):∃(lat:Int)(xs:Nat->Int),∀(G:DH)(bg:Int)(acc:List Ssn)(x y:Option D),acc.length<=10->bg<yr->∃bg' acc',
   Lx [vE (.fl (ns.map D.int)),vE (.int b),vE (.int u),vE (.bl p),vE (.int yr),vE (.ref G.length),vE (.int bg),vE (.int j),x,y] (G++[.lst (acc.map Cq)])=
    .nx [vE (.fl (ns.map D.int)),vE (.int b),vE (.int u),vE (.bl p),vE (.int yr),vE (.ref G.length),vE (.int bg'),vE (.int j),vE (.int lat),vE (.fl (tab 4 xs))] (G++[.lst (acc'.map Cq)])/\
   ((j=0∨(lat%2=1/\bg+1<yr))->bg'=(if 0<j then bg+1+lat/2%(yr-bg-1)else bg)/\acc'=acc++[(bg',stps xs u p)])/\
   (¬(j=0∨(lat%2=1/\bg+1<yr))->bg'=bg/\acc'=acc):=by
 obtain⟨tp,ht⟩:=ZGi (ns:=ns);have h4:=hf (b+4) (by lia);have e4:((b+4:Nat):Int)=(b:Int)+4:=by lia
 rw[e4]at h4;let lat:Int:=if tp then f (b+4)/Q6 j else f (b+4)*48271*((j:Int)*j+1)%10007
 let xs:Nat->Int:=if tp then λk=>f (b+5+k)/Sv j else λk=>f (b+5+(3*j+k)%6)/(1+7*((j:Int)/2))
 refine⟨lat,xs,λG bg acc x y ha hbg=>?_⟩;have hr:inR 4:=Gu (by lia) (by lia);have hal:acc.length<1000000:=by lia
 have fz:∀ds:List D,(∀m,bels m ds=vG)->freeze (G++[.lst (acc.map Cq)]) (.ok (.ref (G.length+1)) (G++[.lst (acc.map Cq),.lst ds]))=.ok (.fl ds) (G++[.lst (acc.map Cq)]):=λds h=>ZIO (h _)
 have cs1:∀a b c d e f' g h i j':Option D,Bm 1 [0,1,7] [a,b,c,d,e,f',g,h,i,j']=[vF,a,b,h]:=λ_ _ _ _ _ _ _ _ _ _=>rfl
 have mj:∀G,Bl (.int (j:Int)) (.int (j:Int)) G=.ok (.int ((j:Int)*j)) G:=λG=>Jb (by lia) (by lia)
 have mj2:∀G,Bl (.int (f (b+4)*48271)) (.int ((j:Int)*j+1)) G=.ok (.int (f (b+4)*48271*((j:Int)*j+1))) G:=λG=>Jj (by
   have:=j3 (show(0:Int)<=j by lia) (show(0:Int)<=j by lia);lia) (by
   rcases(by lia:j=0∨j=1∨j=2∨j=3)with rfl|rfl|rfl|rfl<;>decide)
 have head:Lx [vE (.fl (ns.map D.int)),vE (.int b),vE (.int u),vE (.bl p),vE (.int yr),vE (.ref G.length),vE (.int bg),vE (.int j),x,y] (G++[.lst (acc.map Cq)])=
   Ys [vE (.fl (ns.map D.int)),vE (.int b),vE (.int u),vE (.bl p),vE (.int yr),vE (.ref G.length),vE (.int bg),vE (.int j),vE (.int lat),vE (.fl (tab 4 xs))] (G++[.lst (acc.map Cq)]):=by
  unfold Lx ZKC ZIJ;cases htp:tp with
  |false=>
   have e1:lat=f (b+4)*48271*((j:Int)*j+1)%10007:=by simp[lat,htp]
   have e2:xs=λk=>f (b+5+(3*j+k)%6)/(1+7*((j:Int)/2)):=by simp[xs,htp]
   rw[e1,e2];rw[htp]at ht;simp[h4,mj,mj2,hr,cs1,ZIQ hf hb hj,Av,fz,ht]
  |true=>
   have e1:lat=f (b+4)/Q6 j:=by simp[lat,htp]
   have e2:xs=λk=>f (b+5+k)/Sv j:=by simp[xs,htp]
   rw[e1,e2];rw[htp]at ht;have dv:atI [D.int 1,D.int 48,D.int 2304,D.int 110592] (j:Int)=vE (.int (Q6 j)):=by rcases(by lia:j=0∨j=1∨j=2∨j=3)with rfl|rfl|rfl|rfl<;>rfl
   have dd:∀G',Di (.int (f (b+4))) (.int (Q6 j)) G'=.ok (.int (f (b+4)/Q6 j)) G':=λG'=>by rcases(by lia:j=0∨j=1∨j=2∨j=3)with rfl|rfl|rfl|rfl<;>simp[Q6]
   have fz4:freeze (G++[.lst (acc.map Cq)]) (.ok (.ref (G.length+1)) (G++[.lst (acc.map Cq),.lst [D.int 1,D.int 48,D.int 2304,D.int 110592]]))=.ok (.fl [D.int 1,D.int 48,D.int 2304,D.int 110592]) (G++[.lst (acc.map Cq)]):=ZIO rfl;simp[h4,mj,mj2,hr,cs1,ZIQ hf hb hj,Av,fz,ht,fz4,dv,dd,ZPb hf hb hj]
 rw[head]
 clear_value lat xs
 by_cases hc:j=0∨(lat%2=1/\bg+1<yr)
 ·refine⟨_,_,?_,λ_=>⟨rfl,rfl⟩,λz=>absurd hc z⟩;unfold Ys;by_cases h0:j=0
  ·subst h0;simp[ZGT,Bb,Eg,Ft,hal,Cq]
  ·have hc2:lat%2=1/\bg+1<yr:=by
    rcases hc with z|z
    ·exact absurd z h0
    ·exact z
   have hj0:0<j:=by lia
   have hp:0<yr-bg-1:=by lia
   have hp3:1<yr-bg:=by lia
   simp[h0,hc2.1,hc2.2,hj0,hp3,ZGT,Bb,Eg,Ft,hal,Cq]
 ·refine⟨bg,acc,?_,λz=>absurd z hc,λ_=>⟨rfl,rfl⟩⟩;have h0:¬j=0:=λz=>hc (.inl z)
  unfold Ys;by_cases h1:lat%2=1
  ·have h2:¬bg+1<yr:=λz=>hc (.inr ⟨h1,z⟩)
   simp[h0,h1,h2]
  ·simp[h0,h1]
theorem ZEQ{b:Nat}{p:Bool}{lat:Nat->Int}{cel:Nat->Nat->Int}
  (hd:∀j:Nat,j<4->∀(G:DH)(bg:Int)(acc:List Ssn)(x y:Option D),acc.length<=10->bg<yr->∃bg' acc',
   Lx [vE (.fl (ns.map D.int)),vE (.int b),vE (.int u),vE (.bl p),vE (.int yr),vE (.ref G.length),vE (.int bg),vE (.int j),x,y] (G++[.lst (acc.map Cq)])=
    .nx [vE (.fl (ns.map D.int)),vE (.int b),vE (.int u),vE (.bl p),vE (.int yr),vE (.ref G.length),vE (.int bg'),vE (.int j),vE (.int (lat j)),vE (.fl (tab 4 (cel j)))] (G++[.lst (acc'.map Cq)])/\
   ((j=0∨(lat j%2=1/\bg+1<yr))->bg'=(if 0<j then bg+1+lat j/2%(yr-bg-1)else bg)/\acc'=acc++[(bg',stps (cel j) u p)])/\
   (¬(j=0∨(lat j%2=1/\bg+1<yr))->bg'=bg/\acc'=acc)) {G:DH}:∀(m j:Nat)(bg:Int)(acc:List Ssn)(x y z:Option D),j+m=4->acc.length<=j->bg<yr->∃x' y' z' w',
   Bo (gV 7) Lx (Cm j m) [vE (.fl (ns.map D.int)),vE (.int b),vE (.int u),vE (.bl p),vE (.int yr),vE (.ref G.length),vE (.int bg),x,y,z] (G++[.lst (acc.map Cq)])=
    .nx [vE (.fl (ns.map D.int)),vE (.int b),vE (.int u),vE (.bl p),vE (.int yr),vE (.ref G.length),x',y',z',w'] (G++[.lst ((acc++G9 lat cel u p yr m j bg).map Cq)])
 |0,j,bg,acc,x,y,z,e,ha,hb=>⟨vE (.int bg),x,y,z,by rw[Js,Ed];simp[G9]⟩
 | m + 1,j,bg,acc,x,y,z,e,ha,hb=>by
  obtain⟨bg',acc',h1,h2,h3⟩:=hd j (by lia) G bg acc y z (by lia) hb;have e1:((j:Int)+1)=((j+1:Nat):Int):=by lia
  by_cases hc:j=0∨(lat j%2=1/\bg+1<yr)
  ·obtain⟨r1,r2⟩:=h2 hc;have hbg:bg'<yr:=by
    rw[r1];split
    ·have h4:bg+1<yr:=by
      rcases hc with z|z
      ·lia
      ·exact z.2
     have h5:lat j/2%(yr-bg-1)<yr-bg-1:=jZ _ (by lia);lia
    ·exact hb
   obtain⟨x',y',z',w',ih⟩:=ZEQ hd (G:=G) m (j+1) bg' acc' (vE (.int j)) (vE (.int (lat j))) (vE (.fl (tab 4 (cel j)))) (by lia) (by rw[r2];simp;lia) hbg;refine⟨x',y',z',w',?_⟩;rw[Iu,Dh];simp only[Dq,R.Dl,qJ,h1,Ea];have er:G9 lat cel u p yr (m+1) j bg=(bg',stps (cel j) u p)::G9 lat cel u p yr m (j+1) bg':=by rw[r1];exact if_pos hc
   rw[e1,ih,r2,er];simp
  ·obtain⟨r1,r2⟩:=h3 hc;obtain⟨x',y',z',w',ih⟩:=ZEQ hd (G:=G) m (j+1) bg' acc' (vE (.int j)) (vE (.int (lat j))) (vE (.fl (tab 4 (cel j)))) (by lia) (by rw[r2];lia) (by rw[r1];exact hb);refine⟨x',y',z',w',?_⟩;rw[Iu,Dh];simp only[Dq,R.Dl,qJ,h1,Ea];rw[e1,ih,r2,r1]
   conv=>rhs;unfold G9
   rw[if_neg hc]
structure RuleOk (yr:Int) (p:Bool) (r:List Ssn):Prop where
 good:∀s∈r,Good 0 s.2/\(p=vH->∀t∈s.2,t.r=vG)
 cons:∃st rest,r=(0,st)::rest
 asc:r.Pairwise (λa b:Ssn=>a.1<b.1)
 yr:∀s∈r,0<=s.1/\s.1<yr
 len:r.length<=4
theorem ZA2{lat:Nat->Int}{cel:Nat->Nat->Int}{u:Int}{p:Bool}{yr:Int}:∀(m j:Nat)(bg:Int),(G9 lat cel u p yr m j bg).length<=m
 |0,_,_=>zK _
 |m+1,j,bg=>by
  unfold G9;split
  ·have:=ZA2 (lat:=lat) (cel:=cel) (u:=u) (p:=p) (yr:=yr) m (j+1) (if 0<j then bg+1+lat j/2%(yr-bg-1)else bg);simp only[zO];lia
  ·have:=ZA2 (lat:=lat) (cel:=cel) (u:=u) (p:=p) (yr:=yr) m (j+1) bg;lia
theorem ZH4(hf:∀k:Nat,k<=1000->∀G,Az [.fl (ns.map D.int),.int k] G=.ok (.int (f k)) G)(hyr:1<=yr/\yr<=24)(cy:∀G,Kr [.fl (ns.map D.int)] G=.ok (.int yr) G){b:Nat}(hb:b<=900)(hu:0<u){p:Bool}:
  ∃r:List Ssn,RuleOk yr p r/\∀G,Xm [.fl (ns.map D.int),.int b,.int u,.bl p] G=.ok (.tup (r.map Cq)) G:=by
 have ex:∀j:Nat,∃q:Int×(Nat->Int),j<4->∀(G:DH)(bg:Int)(acc:List Ssn)(x y:Option D),acc.length<=10->bg<yr->∃bg' acc',
   Lx [vE (.fl (ns.map D.int)),vE (.int b),vE (.int u),vE (.bl p),vE (.int yr),vE (.ref G.length),vE (.int bg),vE (.int j),x,y] (G++[.lst (acc.map Cq)])=
    .nx [vE (.fl (ns.map D.int)),vE (.int b),vE (.int u),vE (.bl p),vE (.int yr),vE (.ref G.length),vE (.int bg'),vE (.int j),vE (.int q.1),vE (.fl (tab 4 q.2))] (G++[.lst (acc'.map Cq)])/\
   ((j=0∨(q.1%2=1/\bg+1<yr))->bg'=(if 0<j then bg+1+q.1/2%(yr-bg-1)else bg)/\acc'=acc++[(bg',stps q.2 u p)])/\
   (¬(j=0∨(q.1%2=1/\bg+1<yr))->bg'=bg/\acc'=acc):=λj=>by
  by_cases hj:j<4
  ·obtain⟨lat,xs,h⟩:=ZS5 (u:=u) (yr:=yr) (p:=p) hf hb hj;exact⟨(lat,xs),λ_=>h⟩
  ·exact⟨(0,λ_=>0),λz=>absurd z hj⟩
 let lat:Nat->Int:=λj=>(ex j).choose.1
 let cel:Nat->Nat->Int:=λj=>(ex j).choose.2
 have hd:=λ(j:Nat)(hj:j<4)=>(ex j).choose_spec hj
 refine⟨G9 lat cel u p yr 4 0 0,⟨ZCs hu 4 0 0,?_,?_,?_,ZA2 4 0 0⟩,λG=>?_⟩
 ·unfold G9;rw[if_pos (.inl rfl)];exact⟨_,_,rfl⟩
 ·unfold G9;rw[if_pos (.inl rfl)];obtain⟨i1,i2⟩:=W0 (lat:=lat) (cel:=cel) (u:=u) (p:=p) (yr:=yr) 3 1 0 (by lia) (by lia);exact List.pairwise_cons.mpr ⟨λs hs=>(i1 s hs).1,i2⟩
 ·unfold G9;rw[if_pos (.inl rfl)];obtain⟨i1,i2⟩:=W0 (lat:=lat) (cel:=cel) (u:=u) (p:=p) (yr:=yr) 3 1 0 (by lia) (by lia);intro s hs;rcases zw.mp hs with rfl|hs
  ·exact⟨qq _,by show(0:Int)<yr;lia⟩
  ·have:=i1 s hs;lia
 ·obtain⟨x',y',z',w',hL⟩:=ZEQ (lat:=lat) (cel:=cel) hd (G:=G) 4 0 0 [] vF vF vF (by lia) (by simp) (by lia);have hL':Bo (gV 7) Lx (Cm 0 4) [vE (.fl (ns.map D.int)),vE (.int b),vE (.int u),vE (.bl p),vE (.int yr),vE (.ref G.length),vE (.int 0),vF,vF,vF] (G++[.lst []])=.nx [vE (.fl (ns.map D.int)),vE (.int b),vE (.int u),vE (.bl p),vE (.int yr),vE (.ref G.length),x',y',z',w'] (G++[.lst ((G9 lat cel u p yr 4 0 0).map Cq)]):=hL
  have hr:inR 4:=Gu (by lia) (by lia);generalize G9 lat cel u p yr 4 0 0=rl at hL';unfold Xm ZKW;rw[Br];simp[cy,Av,Gb,hr,hL',Eg,Qv]
noncomputable def ZA6:List Nat:=("abcdefghijklmnopqrstuvwxyz":Str).cps.toList
noncomputable def ZCT:List Nat:=("abcdefghijkl":Str).cps.toList
theorem ZLR:∀i,i<26->ZA6[i]?=vE (97+i):=by decide +kernel
theorem ZRn:∀i,i<12->ZCT[i]?=vE (97+i):=by decide +kernel
noncomputable def Ex(l:List Nat):Str:=⟨l.toArray⟩
theorem ZIa{l l':List Nat}(h:Ex l=Ex l'):l=l':=by have h1:=congrArg (λs:Str=>s.cps.toList) h;simpa[Ex]using h1
theorem ZPA{l l':List Nat}:Ex l++Ex l'=Ex (l++l'):=by show Str.append _ _=_;unfold Str.append Ex;simp
theorem ZHe{s:Str}{l:List Nat}(h:s.cps.toList=l):s=Ex l:=by obtain⟨a⟩:=s;unfold Ex;simp only at h;rw[<-h]
theorem ZRO{o:Nat}{n:Int}:Nt ⟨#[o]⟩ n=Ex (zV n.toNat o):=by
 refine ZHe ?_;rw[ZKs];show(zV n.toNat [o]).flatten=_;generalize n.toNat=m
 induction m with
 |zero=>rfl
 |succ m ih=>rw[zS,q8,ih,zS];rfl
noncomputable def ocF(c:Int):Nat:=97+(c/21%26).toNat
noncomputable def tcF(c:Int)(k:Nat):Nat:=97+((5*(k:Int)+c/546)%12).toNat
def Gx(c:Int)(n k:Nat):List Nat:=if c%3=1/\n<9 then zV (k+1) (ocF c)else if c%3=2 then tcF c k::zV (c/3%7).toNat (ocF c)else zV (c/3%7).toNat (ocF c)++tcF c k::zV (6-(c/3%7)).toNat (ocF c)
theorem ZTA{n k:Nat}(hn:n<=12)(hk:k<n)(G:DH):Xr [.int c,.int k,.int n] G=.ok (.str (Ex (Gx c n k))) G:=by
 have a1:atI ZA6 (c/21%26)=vE (ocF c):=Fb (k:=(c/21%26).toNat) (by lia) (ZLR _ (by lia));have a2:atI ZCT ((5*(k:Int)+c/546)%12)=vE (tcF c k):=Fb (k:=((5*(k:Int)+c/546)%12).toNat) (by lia) (ZRn _ (by lia));have l1:("abcdefghijklmnopqrstuvwxyz":Str).length<=1000000:=by decide +kernel
 have l2:("abcdefghijkl":Str).length<=1000000:=by decide +kernel
 have ho:∀m:Int,-1000<=m->m<=1000->∀G,Bl (.str ⟨#[ocF c]⟩) (.int m) G=.ok (.str (Ex (zV m.toNat (ocF c)))) G:=λm h1 h2 G=>by rw[ZS8 ⟨h1,h2,by show(#[ocF c]).size<=1000;simp⟩,ZRO]
 have e1:∀G,Aj (.str ("abcdefghijklmnopqrstuvwxyz":Str)) (.int (c/21%26)) G=R.ok (.str ⟨#[ocF c]⟩) G:=λG=>by
  rw[R7,if_pos l1]
  show(match atI ZA6 (c/21%26)with |some c=>R.ok (sgn c) G|none=>.bad)=_
  rw[a1]
  rfl
 have e2:∀G,Aj (.str ("abcdefghijkl":Str)) (.int ((5*(k:Int)+c/546)%12)) G=R.ok (.str (Ex [tcF c k])) G:=λG=>by
  rw[R7,if_pos l2]
  show(match atI ZCT ((5*(k:Int)+c/546)%12)with |some c=>R.ok (sgn c) G|none=>.bad)=_
  rw[a2]
  rfl
 have hadd:∀(l l':List Nat)(G:DH),l.length+l'.length<=1000000->Ay (.str (Ex l)) (.str (Ex l')) G=.ok (.str (Ex (l++l'))) G:=λl l' G h=>by
  have e:Ay (.str (Ex l)) (.str (Ex l')) G=if(Ex l).length+(Ex l').length<=1000000 then .ok (.str (Ex l++Ex l')) G else .bad:=rfl
  rw[e,if_pos (by show l.toArray.size+l'.toArray.size<=1000000;simpa using h),ZPA]
 unfold Xr ZEs;rw[Br];by_cases h1:c%3=1
 ·by_cases h9:n<9
  ·have en:Gx c n k=zV (k+1) (ocF c):=if_pos ⟨h1,h9⟩;have hk2:=ho ((k:Int)+1) (by lia) (by lia);have ek:((k:Int)+1).toNat=k+1:=by lia
   rw[ek]at hk2;rw[en];have h9':(n:Int)<9:=by lia
   simp[-R7,e1,h1,h9',hk2,By]
  ·have en:Gx c n k=zV (c/3%7).toNat (ocF c)++tcF c k::zV (6-(c/3%7)).toNat (ocF c):=by unfold Gx;rw[if_neg (λz=>h9 z.2),if_neg (by lia)]
   have r1:=ho (c/3%7) (by lia) (by lia);have r2:=ho (6-(c/3%7)) (by lia) (by lia);have d1:=λG=>hadd (zV (c/3%7).toNat (ocF c)) [tcF c k] G (by simp;lia)
   have d2:=λG=>hadd (zV (c/3%7).toNat (ocF c)++[tcF c k]) (zV (6-(c/3%7)).toNat (ocF c)) G (by simp;lia)
   have ea:zV (c/3%7).toNat (ocF c)++[tcF c k]++zV (6-(c/3%7)).toNat (ocF c)=Gx c n k:=by rw[en];simp
   rw[ea]at d2;have h9':¬(n:Int)<9:=by lia
   simp[-R7,e1,e2,h1,h9',r1,r2,d1,d2,By]
 ·by_cases h2:c%3=2
  ·have en:Gx c n k=tcF c k::zV (c/3%7).toNat (ocF c):=by unfold Gx;rw[if_neg (λz=>h1 z.1),if_pos h2]
   have r1:=ho (c/3%7) (by lia) (by lia);have d1:=λG=>hadd [tcF c k] (zV (c/3%7).toNat (ocF c)) G (by simp;lia)
   have ea: [tcF c k]++zV (c/3%7).toNat (ocF c)=Gx c n k:=by rw[en];rfl
   rw[ea]at d1;simp[-R7,e1,e2,h2,r1,d1,By]
  ·have en:Gx c n k=zV (c/3%7).toNat (ocF c)++tcF c k::zV (6-(c/3%7)).toNat (ocF c):=by unfold Gx;rw[if_neg (λz=>h1 z.1),if_neg h2]
   have r1:=ho (c/3%7) (by lia) (by lia);have r2:=ho (6-(c/3%7)) (by lia) (by lia);have d1:=λG=>hadd (zV (c/3%7).toNat (ocF c)) [tcF c k] G (by simp;lia)
   have d2:=λG=>hadd (zV (c/3%7).toNat (ocF c)++[tcF c k]) (zV (6-(c/3%7)).toNat (ocF c)) G (by simp;lia)
   have ea:zV (c/3%7).toNat (ocF c)++[tcF c k]++zV (6-(c/3%7)).toNat (ocF c)=Gx c n k:=by rw[en];simp
   rw[ea]at d2;simp[-R7,e1,e2,h1,h2,r1,r2,d1,d2,By]
theorem ZJe{k k':Nat}(hk:k<12)(hk':k'<12)(h:tcF c k=tcF c k'):k=k':=by unfold tcF at h;omega +splitNatSub
theorem ZRG{n k k':Nat}(hn:n<=12)(hk:k<n)(hk':k'<n)(h:Gx c n k=Gx c n k'):k=k':=by
 unfold Gx at h;split at h
 ·have:=congrArg xQ h;simp at this;exact this
 ·split at h
  ·exact ZJe (by lia) (by lia) (List.cons.inj h).1
  ·have:=List.append_cancel_left h;exact ZJe (by lia) (by lia) (List.cons.inj this).1
theorem ZOQ:("sea":Str)=Ex [115,101,97]:=by decide +kernel
theorem ZOa{n k:Nat}:Ex (Gx c n k)≠"sea":=λh=>by
 rw[ZOQ]at h;have h:=ZIa h;unfold Gx at h;split at h
 ·have h1:∀x∈[115,101,97],x=ocF c:=λx hx=>by rw[<-h]at hx;exact List.eq_of_mem_replicate hx
  have a:=h1 115 (by simp);have b:=h1 101 (by simp);lia
 ·split at h
  ·have:=(List.cons.inj h).1;unfold tcF at this;lia
  ·have:=congrArg xQ h;simp at this;lia
theorem Oq{te:DE}{S:DSt}{E:α->D}{F:α->D}{G:DH}:∀{l:List α},(∀a∈l,te (S.set 0 (vE (E a))) G=.ok (F a) G)->Dt (gV 0) Cd te S (l.map E) G=.ok (l.map F) G
 |[],_=>rfl
 |a::l,h=>by
  have h1:=h a (by simp);have ih:=Oq (te:=te) (S:=S) (E:=E) (F:=F) (G:=G) (l:=l) λb hb=>h b (zX _ hb)
  rw[zk,ZCH];simp[h1,ih]
noncomputable def Ce(nm:Nat->Str)(n:Nat):List D:=(zZ n).map λk=>.str (nm k)
theorem Y5{n k:Nat}(h:k<n):atI (Ce nm n) (k:Int)=vE (.str (nm k)):=Fb rfl (by simp[Ce,h])
theorem W9{n:Nat}:(Ce nm n).length=n:=by simp[Ce]
@[simp]theorem ZSe{n:Nat}:bels m (Ce nm n)=vG:=Ga λ_ _=>rfl
noncomputable def Ik(nm:Nat->Str):Option (Nat×Nat×Int)->D
 |none=>.non
 |some (to,dl,m)=>.tup [.str (nm to),.int dl,.int m]
@[simp]theorem ZUG{q:Option (Nat×Nat×Int)}:bel m (Ik nm q)=vG:=by
 cases q with
 |none=>rfl
 |some q=>obtain⟨a,b,c⟩:=q;simp[Ik]
theorem ZMg(hf:∀k:Nat,k<=1000->∀G,Az [.fl (ns.map D.int),.int k] G=.ok (.int (f k)) G)(hyr:1<=yr/\yr<=24)(cy:∀G,Kr [.fl (ns.map D.int)] G=.ok (.int yr) G)(hu:0<u)(cu:∀G,Fj [.fl (ns.map D.int)] G=.ok (.int u) G){b k n:Nat}(hb:b<=900)(hk:k<n)(hn:n<=12){d:Str}{dl:Int}:
  ∃(r:List Ssn)(q:Option (Nat×Nat×Int)),RuleOk yr q.isSome r/\(∀to dl m,q=vE (to,dl,m)->to<n/\1<=dl/\dl<=5)/\
   ∀G,Um [.fl (ns.map D.int),.int b,.int k,.fl (Ce nm n),.tup [.str d,.int dl]] G=.ok (.tup [.str "basin",.str (nm k),.str d,.int dl,.int (amt (f (b+3)) u),.tup (r.map Cq),Ik nm q]) G:=by
 have h11:∀G,Az [.fl (ns.map D.int),.int ((b:Int)+11)] G=.ok (.int (f (b+11))) G:=λG=>by have:=hf (b+11) (by lia) G;rwa[show((b+11:Nat):Int)=(b:Int)+11 by lia]at this
 have h3:∀G,Az [.fl (ns.map D.int),.int ((b:Int)+3)] G=.ok (.int (f (b+3))) G:=λG=>by have:=hf (b+3) (by lia) G;rwa[show((b+3:Nat):Int)=(b:Int)+3 by lia]at this
 have ak:atI (Ce nm n) (k:Int)=vE (.str (nm k)):=Y5 hk;have fu:∀G,freeze G (.ok (.int u) G)=.ok (.int u) G:=λG=>Ka rfl
 generalize f (b+11)=c at h11;have pre:∀G,ZDv [vE (.fl (ns.map D.int)),vE (.int b),vE (.int k),vE (.fl (Ce nm n)),vE (.tup [.str d,.int dl]),vF,vF,vF,vF,vF,vF,vF,vF] G=
   Ny [vE (.fl (ns.map D.int)),vE (.int b),vE (.int k),vE (.fl (Ce nm n)),vE (.tup [.str d,.int dl]),vE (.int u),vE (.int c),vE (.bl (decide (1<n/\c%2=1))),vF,vF,vF,vF,vF] G:=λG=>by
  have t:∀S:DSt,S[3]?=vE (vE (.fl (Ce nm n)))->S[6]?=vE (vE (.int c))->Oi (dOp Iv (dFn Cz (Ab (dV 3) Ad)) (dC (.int 1))) (dOp Cv (dOp Bq (dV 6) (dC (.int 2))) (dC (.int 1))) S G=.ok (.bl (decide (1<n/\c%2=1))) G:=λS h1 h2=>by
   by_cases hn1:1<n
   ·have hn1':(1:Int)<n:=by lia
    simp[dV,h1,h2,W9,hn1,hn1']
   ·have hn1':¬(1:Int)<n:=by lia
    simp[dV,h1,h2,W9,hn1,hn1']
  unfold ZDv ZHD ZHZ;generalize Oi (dOp Iv (dFn Cz (Ab (dV 3) Ad)) (dC (.int 1))) (dOp Cv (dOp Bq (dV 6) (dC (.int 2))) (dC (.int 1)))=te at t;generalize Ce nm n=NM at t;simp[cu,fu,h11,t]
 have fin:∀(r:List Ssn)(q:Option (Nat×Nat×Int))(s6 s7 x10 x11:Option D)(G:DH),Mw [vE (.fl (ns.map D.int)),vE (.int b),vE (.int k),vE (.fl (Ce nm n)),vE (.tup [.str d,.int dl]),vE (.int u),s6,s7,vE (.tup (r.map Cq)),vE (Ik nm q),x10,x11,vF] G=.rt (.tup [.str "basin",.str (nm k),.str d,.int dl,.int (amt (f (b+3)) u),.tup (r.map Cq),Ik nm q]) G:=λr q s6 s7 x10 x11 G=>by generalize r.map Cq=RR;generalize Ik nm q=PQ;generalize Ce nm n=NM at ak;unfold Mw ZJO;simp[h3,M5 hu,ak,Bb]
 have cl:∀G,Um [.fl (ns.map D.int),.int b,.int k,.fl (Ce nm n),.tup [.str d,.int dl]] G=tidy G ((Ny [vE (.fl (ns.map D.int)),vE (.int b),vE (.int k),vE (.fl (Ce nm n)),vE (.tup [.str d,.int dl]),vE (.int u),vE (.int c),vE (.bl (decide (1<n/\c%2=1))),vF,vF,vF,vF,vF] G).ret):=λG=>by
  rw[<-pre];unfold Um;rw[Br]
  rfl
 have td:∀(r:List Ssn)(q:Option (Nat×Nat×Int))(G:DH),tidy G ((SR.rt (.tup [.str "basin",.str (nm k),.str d,.int dl,.int (amt (f (b+3)) u),.tup (r.map Cq),Ik nm q]) G).ret)=.ok (.tup [.str "basin",.str (nm k),.str d,.int dl,.int (amt (f (b+3)) u),.tup (r.map Cq),Ik nm q]) G:=λr q G=>by simp[By]
 by_cases hp:1<n/\c%2=1
 ·obtain⟨r,hr,cr⟩:=ZH4 (ns:=ns) (f:=f) hf hyr cy hb hu (p:=vG);obtain⟨st,rest,er⟩:=hr.cons;have hx0:0<=c/2%((n:Int)-1):=qR _ (by lia);have ht0:0<=((k:Int)+1+c/2%((n:Int)-1))%n:=qR _ (by lia);have ht1:((k:Int)+1+c/2%((n:Int)-1))%n<n:=jZ _ (by lia);generalize ht:((k:Int)+1+c/2%((n:Int)-1))%n=t at ht0 ht1;have at_:atI (Ce nm n) t=vE (.str (nm t.toNat)):=by have:=Y5 (nm:=nm) (n:=n) (k:=t.toNat) (by lia);rwa[show((t.toNat:Nat):Int)=t by lia]at this
  have mx:∀G,Jy [.fl (r.map λs=>.int (Ey s.2))] G=.ok (.int ((rest.map λs=>Ey s.2).foldl max (Ey st))) G:=λG=>ZIm (by rw[er];simp[Ci])
  have m2:∀G,Bl (.int u) (.int (c/130%2)) G=.ok (.int (u*(c/130%2))) G:=λG=>Jj (by lia) (by lia)
  have cp:∀(G:DH),Dt (gV 0) Cd ZCY [vF] (r.map Cq) G=.ok (r.map λs=>.int (Ey s.2)) G:=λG=>Oq λs _=>by unfold ZCY;simp[Cq,ZLY]
  have fz:∀G:DH,freeze G (.ok (.ref G.length) (G++[.lst (r.map λs=>.int (Ey s.2))]))=.ok (.fl (r.map λs=>.int (Ey s.2))) G:=λG=>Fd (Ga λ_ _=>rfl)
  have hd:((1+c/26%5).toNat:Int)=1+c/26%5:=by lia
  refine⟨r,vE (t.toNat,(1+c/26%5).toNat,(rest.map λs=>Ey s.2).foldl max (Ey st)+u*(c/130%2)),hr,?_,λG=>?_⟩
  ·intro to dl m e;cases e;lia
  ·have h1':0<(n:Int)-1:=by lia
   have h1:(1:Int)<n:=by lia
   have hn0:0<(n:Int):=by lia
   have hn0':0<n:=by lia
   have hrl:(r.map Cq).length<=1000000:=by have:=hr.len;simp;lia
   have lr:(r.map λs=>D.int (Ey s.2)).length<=1000000:=by have:=hr.len;simp;lia
   have mid:Ny [vE (.fl (ns.map D.int)),vE (.int b),vE (.int k),vE (.fl (Ce nm n)),vE (.tup [.str d,.int dl]),vE (.int u),vE (.int c),vE (.bl vG),vF,vF,vF,vF,vF] G=
     Mw [vE (.fl (ns.map D.int)),vE (.int b),vE (.int k),vE (.fl (Ce nm n)),vE (.tup [.str d,.int dl]),vE (.int u),vE (.int c),vE (.bl vG),vE (.tup (r.map Cq)),vE (Ik nm (vE (t.toNat,(1+c/26%5).toNat,(rest.map λs=>Ey s.2).foldl max (Ey st)+u*(c/130%2)))),vE (.int ((rest.map λs=>Ey s.2).foldl max (Ey st)+u*(c/130%2))),vE (.str (nm t.toNat)),vF] G:=by
    have ln:(Ce nm n).length=n:=W9;show _=Mw [vE (.fl (ns.map D.int)),vE (.int b),vE (.int k),vE (.fl (Ce nm n)),vE (.tup [.str d,.int dl]),vE (.int u),vE (.int c),vE (.bl vG),vE (.tup (r.map Cq)),vE (.tup [.str (nm t.toNat),.int ((1+c/26%5).toNat:Nat),.int ((rest.map λs=>Ey s.2).foldl max (Ey st)+u*(c/130%2))]),vE (.int ((rest.map λs=>Ey s.2).foldl max (Ey st)+u*(c/130%2))),vE (.str (nm t.toNat)),vF] G
    rw[hd];generalize(rest.map λs=>Ey s.2).foldl max (Ey st)=MX at mx;generalize Ce nm n=NM at at_ ln;generalize r.map Cq=RR at cr cp hrl;generalize(r.map λs=>D.int (Ey s.2))=RP at mx cp fz lr;unfold Ny ZDQ ZCp;simp[hrl,cr,cp,Bm,fz,lr,mx,m2,ln,h1,h1',hn0,hn0',ht,at_,Bb]
   rw[cl,decide_eq_true hp,mid,fin,td]
 ·obtain⟨r,hr,cr⟩:=ZH4 (ns:=ns) (f:=f) hf hyr cy hb hu (p:=vH)
  refine⟨r,vF,hr,(λto dl m e=>nomatch e),λG=>?_⟩
  have mid:Ny [vE (.fl (ns.map D.int)),vE (.int b),vE (.int k),vE (.fl (Ce nm n)),vE (.tup [.str d,.int dl]),vE (.int u),vE (.int c),vE (.bl vH),vF,vF,vF,vF,vF] G=
    Mw [vE (.fl (ns.map D.int)),vE (.int b),vE (.int k),vE (.fl (Ce nm n)),vE (.tup [.str d,.int dl]),vE (.int u),vE (.int c),vE (.bl vH),vE (.tup (r.map Cq)),vE (Ik nm vF),vF,vF,vF] G:=by
   show _=Mw [vE (.fl (ns.map D.int)),vE (.int b),vE (.int k),vE (.fl (Ce nm n)),vE (.tup [.str d,.int dl]),vE (.int u),vE (.int c),vE (.bl vH),vE (.tup (r.map Cq)),vE .non,vF,vF,vF] G;generalize Ce nm n=NM;unfold Ny ZDQ ZCp;simp[cr]
  rw[cl,decide_eq_false hp,mid,fin,td]
noncomputable def dnS(nm:Nat->Str):Option Nat->Str
 |none=>"sea"
 |some d=>nm d
def Io(nm:Nat->Str)(p:Pl):D:=match p.kd with
 |.basin b r q=>.tup [.str "basin",.str p.nm,.str (dnS nm p.dn),.int p.dl,.int b,.tup (r.map Cq),Ik nm q]
 |.town a b=>.tup [.str "town",.str p.nm,.str (dnS nm p.dn),.int p.dl,.int a,.int b]
 |.mill a=>.tup [.str "mill",.str p.nm,.str (dnS nm p.dn),.int p.dl,.int a]
structure PlOk (yr:Int) (nm:Nat->Str) (n k:Nat) (p:Pl):Prop where
 nm:p.nm=nm k
 dn:∀d,p.dn=vE d->k<d/\d<n
 dl:p.dl<=5
 basin:∀b r q,p.kd=.basin b r q->0<=b/\RuleOk yr q.isSome r/\∀to dl m,q=vE (to,dl,m)->to<n/\1<=dl/\dl<=5
 town:∀a b,p.kd=.town a b->0<=a/\0<=b
 mill:∀a,p.kd=.mill a->0<=a
theorem ZPP(hf:∀k:Nat,k<=1000->∀G,Az [.fl (ns.map D.int),.int k] G=.ok (.int (f k)) G)(hyr:1<=yr/\yr<=24)(cy:∀G,Kr [.fl (ns.map D.int)] G=.ok (.int yr) G)(hu:0<u)(cu:∀G,Fj [.fl (ns.map D.int)] G=.ok (.int u) G){k n:Nat}(hk:k<n)(hn:n<=12):
  ∃p:Pl,PlOk yr nm n k p/\∀(G:DH)(acc:List D)(x6 x7 x8 x9 x10 x11 x12:Option D),acc.length<=20->∃y6 y7 y8 y9 y10 y11 y12,
   Ml [vE (.fl (ns.map D.int)),vE (.int c),vE (.int n),vE (.fl (Ce nm n)),vE (.int k),vE (.ref G.length),x6,x7,x8,x9,x10,x11,x12] (G++[.lst acc])=
    .nx [vE (.fl (ns.map D.int)),vE (.int c),vE (.int n),vE (.fl (Ce nm n)),vE (.int k),vE (.ref G.length),y6,y7,y8,y9,y10,y11,y12] (G++[.lst (acc++[Io nm p])]):=by
 have hc:∀j:Nat,j<=11->∀G,Az [.fl (ns.map D.int),.int (((6+12*k:Nat):Int)+j)] G=.ok (.int (f (6+12*k+j))) G:=λj hj G=>by have:=hf (6+12*k+j) (by lia) G;rwa[show((6+12*k+j:Nat):Int)=((6+12*k:Nat):Int)+j by lia]at this
 have hb:6+12*k<=900:=by lia
 have e6:(6+12*(k:Int))=((6+12*k:Nat):Int):=by lia
 have m12:∀G,Bl (.int 12) (.int (k:Int)) G=.ok (.int (12*(k:Int))) G:=λG=>Jb (by lia) (by lia)
 have h0:∀G,Az [.fl (ns.map D.int),.int ((6+12*k:Nat):Int)] G=.ok (.int (f (6+12*k))) G:=hf _ (by lia);have h1:∀G,Az [.fl (ns.map D.int),.int (((6+12*k:Nat):Int)+1)] G=.ok (.int (f (6+12*k+1))) G:=hc 1 (by lia);have h2:∀G,Az [.fl (ns.map D.int),.int (((6+12*k:Nat):Int)+2)] G=.ok (.int (f (6+12*k+2))) G:=hc 2 (by lia);have h3:∀G,Az [.fl (ns.map D.int),.int (((6+12*k:Nat):Int)+3)] G=.ok (.int (f (6+12*k+3))) G:=hc 3 (by lia)
 have h4:∀G,Az [.fl (ns.map D.int),.int (((6+12*k:Nat):Int)+4)] G=.ok (.int (f (6+12*k+4))) G:=hc 4 (by lia);have ak:atI (Ce nm n) (k:Int)=vE (.str (nm k)):=Y5 hk;have fu:∀G,freeze G (.ok (.int u) G)=.ok (.int u) G:=λG=>Ka rfl
 have cb:=λd dl=>ZMg (nm:=nm) (d:=d) (dl:=dl) hf hyr cy hu cu hb hk hn
 generalize 6+12*k=b at hc hb e6 h0 h1 h2 h3 h4 cb;obtain⟨s,hs0,hs1,hs⟩:∃s:Int,0<=s/\s<(n:Int)-k/\∀(H:DH)(x5 x7 x8 x9 x10 x11 x12:Option D),X6 [vE (.fl (ns.map D.int)),vE (.int c),vE (.int n),vE (.fl (Ce nm n)),vE (.int k),x5,vE (.int b),x7,x8,x9,x10,x11,x12] H=
   U4 [vE (.fl (ns.map D.int)),vE (.int c),vE (.int n),vE (.fl (Ce nm n)),vE (.int k),x5,vE (.int b),vE (.int s),x8,x9,x10,x11,x12] H:=by
  have hm:0<(n:Int)-k:=by lia
  have hm':(k:Int)<n:=by lia
  by_cases hw:c/280%3=1
  ·refine⟨min 1 ((n:Int)-1-k),by lia,by lia,λH x5 x7 x8 x9 x10 x11 x12=>?_⟩;unfold X6 ZBn;simp[h1,hm,hm',hk,hw]
  ·refine⟨f (b+1)%((n:Int)-k),qR _ (by lia),jZ _ hm,λH x5 x7 x8 x9 x10 x11 x12=>?_⟩;unfold X6 ZBn;simp[h1,hm,hm',hk,hw]
 obtain⟨dn,dl,hdn,hdl,hr⟩:∃(dn:Option Nat)(dl:Nat),(∀d,dn=vE d->k<d/\d<n)/\dl<=5/\∀(H:DH)(x5 x8 x9 x10 x11 x12:Option D),U4 [vE (.fl (ns.map D.int)),vE (.int c),vE (.int n),vE (.fl (Ce nm n)),vE (.int k),x5,vE (.int b),vE (.int s),x8,x9,x10,x11,x12] H=
   Uz [vE (.fl (ns.map D.int)),vE (.int c),vE (.int n),vE (.fl (Ce nm n)),vE (.int k),x5,vE (.int b),vE (.int s),vE (.int (f (b+2))),vE (.tup [.str (dnS nm dn),.int dl]),x10,x11,x12] H:=by
  have hd:((f (b+2)%2*(f (b+2)/2%6)).toNat:Int)=f (b+2)%2*(f (b+2)/2%6)/\(f (b+2)%2*(f (b+2)/2%6)).toNat<=5:=by rcases(by lia:f (b+2)%2=0∨f (b+2)%2=1)with z|z<;>rw[z]<;>lia
  have md:∀G,Bl (.int (f (b+2)%2)) (.int (f (b+2)/2%6)) G=.ok (.int (f (b+2)%2*(f (b+2)/2%6))) G:=λG=>Jj (by lia) (by lia)
  generalize f (b+2)%2*(f (b+2)/2%6)=w at hd md;by_cases hp:0<s
  ·have a2:atI (Ce nm n) ((k:Int)+s)=vE (.str (nm (k+s.toNat))):=by have:=Y5 (nm:=nm) (n:=n) (k:=k+s.toNat) (by lia);rwa[show((k+s.toNat:Nat):Int)=(k:Int)+s by lia]at this
   refine⟨vE (k+s.toNat),w.toNat,λd e=>by cases e;lia,hd.2,λH x5 x8 x9 x10 x11 x12=>?_⟩;unfold U4 ZDB ZAg;simp[h2,md,hp,a2,Bb,dnS,hd.1]
  ·refine⟨vF,w.toNat,(λd e=>nomatch e),hd.2,λH x5 x8 x9 x10 x11 x12=>?_⟩
   unfold U4 ZDB ZAg;simp[h2,md,hp,Bb,dnS,hd.1]
 obtain⟨rk,hrk,hk2⟩:∃rk:Int,0<=rk/\∀(H:DH)(x5 x7 x8 x9 x10 x11 x12:Option D),Uz [vE (.fl (ns.map D.int)),vE (.int c),vE (.int n),vE (.fl (Ce nm n)),vE (.int k),x5,vE (.int b),x7,x8,x9,x10,x11,x12] H=
   Pg [vE (.fl (ns.map D.int)),vE (.int c),vE (.int n),vE (.fl (Ce nm n)),vE (.int k),x5,vE (.int b),x7,x8,x9,vE (.int (f b%5)),vE (.int (amt (f (b+3)) u)),vE (.int rk)] H:=by
  have fz:∀G:DH,freeze G (.ok (.ref G.length) (G++[.lst [.int 4,.int 10000000000000000000000000000000000000000]]))=.ok (.fl [.int 4,.int 10000000000000000000000000000000000000000]) G:=λG=>Fd rfl
  rcases(by lia:c/840%2=0∨c/840%2=1)with z|z
  ·refine⟨f (b+4)%4,by lia,λH x5 x7 x8 x9 x10 x11 x12=>?_⟩;unfold Uz ZB8 ZBg;simp[h0,h3,h4,cu,fu,M5 hu,z,Av,fz]
  ·refine⟨f (b+4)%10000000000000000000000000000000000000000,by lia,λH x5 x7 x8 x9 x10 x11 x12=>?_⟩;unfold Uz ZB8 ZBg;simp[h0,h3,h4,cu,fu,M5 hu,z,Av,fz]
 have hal:∀acc:List D,acc.length<=20->acc.length<1000000:=λacc h=>by lia
 have go:∀p:Pl,(∀(G:DH)(acc:List D),acc.length<=20->
   Pg [vE (.fl (ns.map D.int)),vE (.int c),vE (.int n),vE (.fl (Ce nm n)),vE (.int k),vE (.ref G.length),vE (.int b),vE (.int s),vE (.int (f (b+2))),vE (.tup [.str (dnS nm dn),.int dl]),vE (.int (f b%5)),vE (.int (amt (f (b+3)) u)),vE (.int rk)] (G++[.lst acc])=
    .nx [vE (.fl (ns.map D.int)),vE (.int c),vE (.int n),vE (.fl (Ce nm n)),vE (.int k),vE (.ref G.length),vE (.int b),vE (.int s),vE (.int (f (b+2))),vE (.tup [.str (dnS nm dn),.int dl]),vE (.int (f b%5)),vE (.int (amt (f (b+3)) u)),vE (.int rk)] (G++[.lst (acc++[Io nm p])]))->
   ∀(G:DH)(acc:List D)(x6 x7 x8 x9 x10 x11 x12:Option D),acc.length<=20->∃y6 y7 y8 y9 y10 y11 y12,
   Ml [vE (.fl (ns.map D.int)),vE (.int c),vE (.int n),vE (.fl (Ce nm n)),vE (.int k),vE (.ref G.length),x6,x7,x8,x9,x10,x11,x12] (G++[.lst acc])=
    .nx [vE (.fl (ns.map D.int)),vE (.int c),vE (.int n),vE (.fl (Ce nm n)),vE (.int k),vE (.ref G.length),y6,y7,y8,y9,y10,y11,y12] (G++[.lst (acc++[Io nm p])]):=λp h9 G acc x6 x7 x8 x9 x10 x11 x12 ha=>by
  refine⟨vE (.int b),vE (.int s),vE (.int (f (b+2))),vE (.tup [.str (dnS nm dn),.int dl]),vE (.int (f b%5)),vE (.int (amt (f (b+3)) u)),vE (.int rk),?_⟩
  ·unfold Ml;have e:(sAs (dOp Ay (dC (.int 6)) (dOp Bl (dC (.int 12)) (dV 4))) (gV 6)) [vE (.fl (ns.map D.int)),vE (.int c),vE (.int n),vE (.fl (Ce nm n)),vE (.int k),vE (.ref G.length),x6,x7,x8,x9,x10,x11,x12] (G++[.lst acc])=.nx [vE (.fl (ns.map D.int)),vE (.int c),vE (.int n),vE (.fl (Ce nm n)),vE (.int k),vE (.ref G.length),vE (.int b),x7,x8,x9,x10,x11,x12] (G++[.lst acc]):=by simp[m12,e6]
   rw[Uh,e,Yd,hs,hr,hk2];exact h9 G acc ha
 by_cases hk1:f b%5<2
 ·obtain⟨r,q,hr1,hq,cr⟩:=cb (dnS nm dn) dl
  refine⟨⟨nm k,dn,dl,.basin (amt (f (b+3)) u) r q⟩,⟨rfl,hdn,hdl,λb' r' q' e=>?_,(λ_ _ e=>nomatch e),(λ_ e=>nomatch e)⟩,go _ λG acc ha=>?_⟩
  ·cases e;exact⟨V1 hu,hr1,hq⟩
  ·have fr:∀G:DH,freeze G (.ok (.tup [.str "basin",.str (nm k),.str (dnS nm dn),.int dl,.int (amt (f (b+3)) u),.tup (r.map Cq),Ik nm q]) G)=.ok (.tup [.str "basin",.str (nm k),.str (dnS nm dn),.int dl,.int (amt (f (b+3)) u),.tup (r.map Cq),Ik nm q]) G:=λG=>Ka (by simp)
   unfold Pg;simp[hk1,cr,fr,Eg,Ft,hal acc ha,Io]
 ·by_cases hk3:f b%5<4
  ·refine⟨⟨nm k,dn,dl,.town (amt (f (b+3)) u) rk⟩,⟨rfl,hdn,hdl,(λ_ _ _ e=>nomatch e),λa b' e=>?_,(λ_ e=>nomatch e)⟩,go _ λG acc ha=>?_⟩
   ·cases e;exact⟨V1 hu,hrk⟩
   ·unfold Pg;simp[hk1,hk3,ak,Bb,Eg,Ft,hal acc ha,Io]
  ·refine⟨⟨nm k,dn,dl,.mill (amt (f (b+3)) u)⟩,⟨rfl,hdn,hdl,(λ_ _ _ e=>nomatch e),(λ_ _ e=>nomatch e),λa e=>?_⟩,go _ λG acc ha=>?_⟩
   ·cases e;exact V1 hu
   ·unfold Pg;simp[hk1,hk3,ak,Bb,Eg,Ft,hal acc ha,Io]
theorem ZJf{n:Nat}{P:Nat->Pl} 
  (hd:∀k,k<n->∀(acc:List D)(x6 x7 x8 x9 x10 x11 x12:Option D),acc.length<=20->∃y6 y7 y8 y9 y10 y11 y12,
   Ml [vE (.fl (ns.map D.int)),vE (.int c),vE (.int n),vE (.fl (Ce nm n)),vE (.int k),vE (.ref G.length),x6,x7,x8,x9,x10,x11,x12] (G++[.lst acc])=
    .nx [vE (.fl (ns.map D.int)),vE (.int c),vE (.int n),vE (.fl (Ce nm n)),vE (.int k),vE (.ref G.length),y6,y7,y8,y9,y10,y11,y12] (G++[.lst (acc++[Io nm (P k)])])):
  ∀(m k:Nat) (acc:List D) (x4 x6 x7 x8 x9 x10 x11 x12:Option D),k+m=n->acc.length+m<=20->∃y4 y6 y7 y8 y9 y10 y11 y12,
   Bo (gV 4) Ml (Cm k m) [vE (.fl (ns.map D.int)),vE (.int c),vE (.int n),vE (.fl (Ce nm n)),x4,vE (.ref G.length),x6,x7,x8,x9,x10,x11,x12] (G++[.lst acc])=
    .nx [vE (.fl (ns.map D.int)),vE (.int c),vE (.int n),vE (.fl (Ce nm n)),y4,vE (.ref G.length),y6,y7,y8,y9,y10,y11,y12] (G++[.lst (acc++(List.range' k m).map λi=>Io nm (P i))])
 |0,k,acc,x4,x6,x7,x8,x9,x10,x11,x12,e,ha=>⟨x4,x6,x7,x8,x9,x10,x11,x12,by rw[Js,Ed];simp⟩
 |m+1,k,acc,x4,x6,x7,x8,x9,x10,x11,x12,e,ha=>by
  obtain⟨y6,y7,y8,y9,y10,y11,y12,hb⟩:=hd k (by lia) acc x6 x7 x8 x9 x10 x11 x12 (by lia);obtain⟨z4,z6,z7,z8,z9,z10,z11,z12,ih⟩:=ZJf hd m (k+1) (acc++[Io nm (P k)]) (vE (.int k)) y6 y7 y8 y9 y10 y11 y12 (by lia) (by simp;lia);refine⟨z4,z6,z7,z8,z9,z10,z11,z12,?_⟩;rw[Iu,Dh];simp only[Dq,R.Dl,qJ,hb,Ea];have e1:((k:Int)+1)=((k+1:Nat):Int):=by lia
  rw[e1,ih];simp[List.range'_succ]
structure Told (h:Hs) (yr:Int):Prop where
 good:GoodH h
 one:1<=h.n
 ey:h.yr=yr
 ok:∃nm:Nat->Str,∀k,k<h.n->PlOk yr nm h.n k (h.pl k)
theorem ZNX:∃n:Nat,1<=n/\n<=12/\(n:Int)=1+c%4:=⟨(1+c%4).toNat,by lia,by lia,by lia⟩
theorem ZOK(hf:∀k:Nat,k<=1000->∀G,Az [.fl (ns.map D.int),.int k] G=.ok (.int (f k)) G)(hyr:1<=yr/\yr<=24)(cy:∀G,Kr [.fl (ns.map D.int)] G=.ok (.int yr) G)(hu:0<u)(cu:∀G,Fj [.fl (ns.map D.int)] G=.ok (.int u) G):
  ∃h:Hs,Told h yr/\∀G,Ub [.fl (ns.map D.int)] G=.ok h.enc G:=by
 obtain⟨n,hn1,hn,en⟩:=ZNX (c:=f 0);let nm:Nat->Str:=λk=>Ex (Gx (f 5) n k)
 have ex:∀k:Nat,∃p:Pl,k<n->(PlOk yr nm n k p/\∀(G:DH)(acc:List D)(x6 x7 x8 x9 x10 x11 x12:Option D),acc.length<=20->∃y6 y7 y8 y9 y10 y11 y12,
   Ml [vE (.fl (ns.map D.int)),vE (.int (f 0)),vE (.int n),vE (.fl (Ce nm n)),vE (.int k),vE (.ref G.length),x6,x7,x8,x9,x10,x11,x12] (G++[.lst acc])=
    .nx [vE (.fl (ns.map D.int)),vE (.int (f 0)),vE (.int n),vE (.fl (Ce nm n)),vE (.int k),vE (.ref G.length),y6,y7,y8,y9,y10,y11,y12] (G++[.lst (acc++[Io nm p])])):=λk=>by
  by_cases hk:k<n
  ·obtain⟨p,hp⟩:=ZPP (nm:=nm) (c:=f 0) hf hyr cy hu cu hk hn;exact⟨p,λ_=>hp⟩
  ·exact⟨ZEa,λz=>absurd z hk⟩
 let P:Nat->Pl:=λk=>(ex k).choose
 have hP:=λ(k:Nat)(hk:k<n)=>((ex k).choose_spec hk).1
 have hB:=λ(k:Nat)(hk:k<n)=>((ex k).choose_spec hk).2
 let h:Hs:=⟨yr,(zZ n).map P⟩;have hnn:h.n=n:=by simp[h,Hs.n]
 have hpl:∀k,k<n->h.pl k=P k:=λk hk=>by simp[h,Hs.pl,hk]
 have hg:GoodH h:=by
  refine⟨?_,by lia,?_,?_,?_,?_,?_,?_,?_⟩
  ·show 0<yr;lia
  ·intro i j hi hj e;rw[hnn]at hi hj;rw[hpl i hi,hpl j hj,(hP i hi).nm,(hP j hj).nm]at e;exact ZRG hn hi hj (ZIa e)
  ·intro i hi;rw[hnn]at hi;rw[hpl i hi,(hP i hi).nm];exact ZOa
  ·intro k d hk e;rw[hnn]at hk⊢;rw[hpl k hk]at e;exact(hP k hk).dn d e
  ·intro k hk;rw[hnn]at hk;rw[hpl k hk];exact(hP k hk).dl
  ·intro k b r to dl m hk e;rw[hnn]at hk⊢;rw[hpl k hk]at e;exact((hP k hk).basin _ _ _ e).2.2 to dl m rfl
  ·intro k b r q hk e;rw[hnn]at hk;rw[hpl k hk]at e;have:=(hP k hk).basin _ _ _ e;exact⟨this.1,λs hs=>(this.2.1.good s hs).1⟩
  ·intro k a b hk e;rw[hnn]at hk;rw[hpl k hk]at e;exact(hP k hk).town _ _ e
 refine⟨h,⟨hg,by lia,rfl,nm,λk hk=>by rw[hnn]at hk⊢;rw[hpl k hk];exact hP k hk⟩,λG=>?_⟩;have hdT:∀o:Option Nat,(∀d,o=vE d->d<n)->h.dnT o=dnS nm o:=λo ho=>by
  cases o with
  |none=>rfl
  |some d=>
   show(h.pl d).nm=nm d;rw[hpl d (ho d rfl),(hP d (ho d rfl)).nm]
 have henc:h.Dp=(List.range' 0 n).map λi=>Io nm (P i):=by
  show((zZ n).map P).map h.encP=_;rw[qF,List.range_eq_range'];refine qk λk hk=>?_
  have hk':k<n:=by have:=List.mem_range'_1.mp hk;lia
  have ok:=hP k hk';show h.encP (P k)=Io nm (P k);have ed:=hdT (P k).dn λd e=>(ok.dn d e).2
  unfold Hs.encP Io;rw[ed];cases e:(P k).kd with
  | basin b r q=>
   have hq:=(ok.basin b r q e).2.2;cases q with
   |none=>rfl
   |some q=>
    obtain⟨to,dl,m⟩:=q;have ht:=(hq to dl m rfl).1;have e2:(h.pl to).nm=nm to:=by rw[hpl to ht,(hP to ht).nm]
    simp[Hs.O2,Ik,e2]
  |town a b=>rfl
  |mill a=>rfl
 obtain⟨y4,y6,y7,y8,y9,y10,y11,y12,hL⟩:=ZJf (G:=G) (P:=P) (nm:=nm) (c:=f 0) (n:=n) (ns:=ns) (λk hk=>hB k hk G) n 0 [] vF vF vF vF vF vF vF vF (by lia) (by simp;lia);rw[<-henc]at hL;have hL':Bo (gV 4) Ml (Cm 0 n) [vE (.fl (ns.map D.int)),vE (.int (f 0)),vE (.int n),vE (.fl (Ce nm n)),vF,vE (.ref G.length),vF,vF,vF,vF,vF,vF,vF] (G++[.lst []])=
    .nx [vE (.fl (ns.map D.int)),vE (.int (f 0)),vE (.int n),vE (.fl (Ce nm n)),y4,vE (.ref G.length),y6,y7,y8,y9,y10,y11,y12] (G++[.lst h.Dp]):=hL
 have f0:∀G,Az [.fl (ns.map D.int),.int 0] G=.ok (.int (f 0)) G:=hf 0 (by lia);have f5:∀G,Az [.fl (ns.map D.int),.int 5] G=.ok (.int (f 5)) G:=hf 5 (by lia);have cp:∀G:DH,Dt (gV 0) Cd ZDM [vF,vE (.fl (ns.map D.int)),vE (.int n)] (Cm 0 n) G=.ok (Ce nm n) G:=λG=>Q8 λk hk=>by unfold ZDM;simp[f5,ZTA hn hk,nm]
 have fz:freeze G (.ok (.ref G.length) (G++[.lst (Ce nm n)]))=.ok (.fl (Ce nm n)) G:=Fd ZSe;have hr:inR (n:Int):=Gu (by lia) (by lia);have hnl:n<=1000000:=by lia
 have eh:h.enc=.tup [.int yr,.tup h.Dp]:=rfl;unfold Ub ZKn;rw[Br];simp[W9,hnl,f0,<-en,hr,Bm,cp,fz,Av,Gb,hL',cy,Eg,Bb,Qv,eh]
noncomputable def thr(c:Int):Nat->Int
 |0=>c
 |j+1=>thr (c/3) j
theorem ZNo{s0 s1 s4 s5 s6 s7 s8 x:Option D}(G:DH):
  ∃y,Bo (gV 11) Rz (Cm 0 5) [s0,s1,s2,vE (.int u),s4,s5,s6,s7,s8,vE (.int c),vE (.ref G.length),x] (G++[.lst []])=.nx [s0,s1,s2,vE (.int u),s4,s5,s6,s7,s8,y,vE (.ref G.length),vE (.int 4)] (G++[.lst (tab 5 λj=>u*(thr c j%3))]):=by
 have hb:∀(c:Int)(acc:List D)(x:Option D),acc.length<=10->Rz [s0,s1,s2,vE (.int u),s4,s5,s6,s7,s8,vE (.int c),vE (.ref G.length),x] (G++[.lst acc])=.nx [s0,s1,s2,vE (.int u),s4,s5,s6,s7,s8,vE (.int (c/3)),vE (.ref G.length),x] (G++[.lst (acc++[.int (u*(c%3))])]):=λc acc x ha=>by
  have m:∀G,Bl (.int u) (.int (c%3)) G=.ok (.int (u*(c%3))) G:=λG=>Jj (by lia) (by lia)
  have hal:acc.length<1000000:=by lia
  unfold Rz ZJg;simp[m,Eg,Ft,hal]
 have e:Cm 0 5=[.int 0,.int 1,.int 2,.int 3,.int 4]:=rfl;refine⟨vE (.int (c/3/3/3/3/3)),?_⟩;rw[e];simp only[Dh,Ed,Dq,R.Dl,qJ,Ea];rw[hb _ _ _ (by simp)];simp only[Ea,Dh,Ed,Dq,R.Dl,qJ];rw[hb _ _ _ (by simp)];simp only[Ea,Dh,Ed,Dq,R.Dl,qJ];rw[hb _ _ _ (by simp)];simp only[Ea,Dh,Ed,Dq,R.Dl,qJ];rw[hb _ _ _ (by simp)];simp only[Ea,Dh,Ed,Dq,R.Dl,qJ];rw[hb _ _ _ (by simp)]
 simp only[Ea,Dh,Ed,Dq,R.Dl,qJ];simp[tab5,thr]
def lvS(h:Hs)(f:Nat->Int)(u:Int)(k:Nat):Int:=match(h.pl k).kd with
 |.basin b _ _=>amt (f (6+12*h.n+k)) u%(b+1)
 |_=>0
def coS(h:Hs)(f:Nat->Int)(u:Int)(k j:Nat):Int:=u*(thr (f (6+12*h.n+h.n+k)) j%3)
theorem ZSB(hu:0<u)(k j:Nat):0<=coS h f u k j:=j3 (by lia) (by lia)
theorem ZOR(g:GoodH h){k:Nat}(hk:k<h.n):0<=lvS h f u k/\(∀b r q,(h.pl k).kd=.basin b r q->lvS h f u k<=b)/\((h.pl k).kd.isB=vH->lvS h f u k=0):=by
 unfold lvS;cases e:(h.pl k).kd with
 |basin b r q=>
  have:=(g.brim k b r q hk e).1
  refine⟨qR _ (by lia),λb' r' q' e'=>?_,λz=>nomatch z⟩
  cases e';show amt (f (6+12*h.n+k)) u%(b+1)<=b;have:=jZ (amt (f (6+12*h.n+k)) u) (show 0<b+1 by lia);lia
 |town a b=>exact⟨qq _,(λ_ _ _ z=>nomatch z),λ_=>rfl⟩
 |mill a=>exact⟨qq _,(λ_ _ _ z=>nomatch z),λ_=>rfl⟩
theorem ZJM(hf:∀k:Nat,k<=1000->∀G,Az [.fl (ns.map D.int),.int k] G=.ok (.int (f k)) G){u:Int}(hu:0<u)(g:GoodH h){s1:Option D}{G:DH}:∀(m k:Nat)(L:DH)(x7 x8 x9 x10 x11:Option D),k+m=h.n->∃L' y7 y8 y9 y10 y11,
  Bo (gV 7) Tr (Cm k m) [vE (.fl (ns.map D.int)),s1,vE (.tup h.Dp),vE (.int u),vE (.int ((6+12*h.n:Nat):Int)),vE (.ref G.length),vE (.ref (G.length+1)),x7,x8,x9,x10,x11] (G++ .lst (tab k (lvS h f u)):: .lst (Bp k (coS h f u))::L)=
   .nx [vE (.fl (ns.map D.int)),s1,vE (.tup h.Dp),vE (.int u),vE (.int ((6+12*h.n:Nat):Int)),vE (.ref G.length),vE (.ref (G.length+1)),y7,y8,y9,y10,y11] (G++ .lst (tab h.n (lvS h f u)):: .lst (Bp h.n (coS h f u))::L')
 |0,k,L,x7,x8,x9,x10,x11,e=>by
  have e1:k=h.n:=by lia
  subst e1;exact⟨L,x7,x8,x9,x10,x11,by rw[Js,Ed]⟩
 | m+1,k,L,x7,x8,x9,x10,x11,e=>by
  have hk:k<h.n:=by lia
  have hn:=g.len;let c:Int:=f (6+12*h.n+h.n+k);let G1:DH:=G++ .lst (tab (k+1) (lvS h f u)):: .lst (Bp k (coS h f u))::L;obtain⟨y,hR⟩:=ZNo (u:=u) (c:=c) (s0:=vE (.fl (ns.map D.int))) (s1:=s1) (s2:=vE (.tup h.Dp)) (s4:=vE (.int ((6+12*h.n:Nat):Int))) (s5:=vE (.ref G.length)) (s6:=vE (.ref (G.length+1))) (s7:=vE (.int k)) (s8:=vE (.int (lvS h f u k))) (x:=x11) G1;obtain⟨L',y7,y8,y9,y10,y11,ih⟩:=ZJM hf hu g m (k+1) (L++[.lst (tab 5 (coS h f u k))]) (s1:=s1) (G:=G) (vE (.int k)) (vE (.int (lvS h f u k))) y (vE (.ref G1.length)) (vE (.int 4)) (by lia)
  refine⟨L',y7,y8,y9,y10,y11,?_⟩;have ap:atI h.Dp (k:Int)=vE (h.encP (h.pl k)):=Hs.Fo hk;have c1:∀G,Az [.fl (ns.map D.int),.int (((6+12*h.n:Nat):Int)+(k:Int))] G=.ok (.int (f (6+12*h.n+k))) G:=λG=>by have:=hf (6+12*h.n+k) (by lia) G;rwa[show((6+12*h.n+k:Nat):Int)=((6+12*h.n:Nat):Int)+k by lia]at this
  have c2:∀G,Az [.fl (ns.map D.int),.int (((6+12*h.n:Nat):Int)+(h.n:Int)+(k:Int))] G=.ok (.int c) G:=λG=>by have:=hf (6+12*h.n+h.n+k) (by lia) G;rwa[show((6+12*h.n+h.n+k:Nat):Int)=((6+12*h.n:Nat):Int)+h.n+k by lia]at this
  have hbb:(6+12*h.n:Nat)=(6+12*h.n):=rfl;generalize hB:((6+12*h.n:Nat):Int)=B at c1 c2 hR ih⊢;have t1:∀(H:DH)(x9 x10 x11:Option D),Tr [vE (.fl (ns.map D.int)),s1,vE (.tup h.Dp),vE (.int u),vE (.int B),vE (.ref G.length),vE (.ref (G.length+1)),vE (.int k),x8,x9,x10,x11] H=Yn [vE (.fl (ns.map D.int)),s1,vE (.tup h.Dp),vE (.int u),vE (.int B),vE (.ref G.length),vE (.ref (G.length+1)),vE (.int k),vE (.int (lvS h f u k)),x9,x10,x11] H:=λH x9 x10 x11=>by
   unfold Tr ZKe lvS;cases e:(h.pl k).kd with
   |basin b r q=>
    have hb0:=(g.brim k b r q hk e).1;have e4:∀G,Aj (h.encP (h.pl k)) (.int 4) G=.ok (.int b) G:=λG=>by unfold Hs.encP;rw[e];simp
    have hb1:0<b+1:=by lia
    have hb2:¬b+1=0:=by lia
    simp[ap,Je,e,Kd.isB,c1,M5 hu,e4,hb1,hb2]
   |town a b=>simp[ap,Je,e,Kd.isB]
   |mill a=>simp[ap,Je,e,Kd.isB]
  have hl1:k<1000000:=by lia
  have et:tab k (lvS h f u)++[.int (lvS h f u k)]=tab (k+1) (lvS h f u):=by simp[tab,jw]
  have er:Bp k (coS h f u)++[.tup (tab 5 (coS h f u k))]=Bp (k+1) (coS h f u):=by simp[Bp,jw]
  have t2:Yn [vE (.fl (ns.map D.int)),s1,vE (.tup h.Dp),vE (.int u),vE (.int B),vE (.ref G.length),vE (.ref (G.length+1)),vE (.int k),vE (.int (lvS h f u k)),x9,x10,x11] (G++ .lst (tab k (lvS h f u)):: .lst (Bp k (coS h f u))::L)=Xz [vE (.fl (ns.map D.int)),s1,vE (.tup h.Dp),vE (.int u),vE (.int B),vE (.ref G.length),vE (.ref (G.length+1)),vE (.int k),vE (.int (lvS h f u k)),vE (.int c),vE (.ref G1.length),x11] (G1++[.lst []]):=by
   have tn:tidy G1 (.ok (.ref G1.length) (G1++[.lst []]))=.ok (.ref G1.length) (G1++[.lst []]):=Gb rfl;unfold Yn ZJ8 ZGe;have a1:(sEx (Fl Fq (dV 5) (Ab (dV 8) Ad))) [vE (.fl (ns.map D.int)),s1,vE (.tup h.Dp),vE (.int u),vE (.int B),vE (.ref G.length),vE (.ref (G.length+1)),vE (.int k),vE (.int (lvS h f u k)),x9,x10,x11] (G++ .lst (tab k (lvS h f u)):: .lst (Bp k (coS h f u))::L)=.nx [vE (.fl (ns.map D.int)),s1,vE (.tup h.Dp),vE (.int u),vE (.int B),vE (.ref G.length),vE (.ref (G.length+1)),vE (.int k),vE (.int (lvS h f u k)),x9,x10,x11] G1:=by
    simp[Eg,Ft,hl1,et,G1]
   rw[Uh,a1,Yd]
   clear_value G1
   simp[Hs.K3,c2,Av,tn]
  have t5:Xz [vE (.fl (ns.map D.int)),s1,vE (.tup h.Dp),vE (.int u),vE (.int B),vE (.ref G.length),vE (.ref (G.length+1)),vE (.int k),vE (.int (lvS h f u k)),vE (.int c),vE (.ref G1.length),x11] (G1++[.lst []])=.nx [vE (.fl (ns.map D.int)),s1,vE (.tup h.Dp),vE (.int u),vE (.int B),vE (.ref G.length),vE (.ref (G.length+1)),vE (.int k),vE (.int (lvS h f u k)),y,vE (.ref G1.length),vE (.int 4)] (G++ .lst (tab (k+1) (lvS h f u)):: .lst (Bp (k+1) (coS h f u))::(L++[.lst (tab 5 (coS h f u k))])):=by
   have hr:inR 5:=Gu (by lia) (by lia);have eC:(tab 5 λj=>u*(thr c j%3))=tab 5 (coS h f u k):=rfl;rw[eC]at hR;unfold Xz;have a1:(Du (Cy rng1 (Ab (dC (.int 5)) Ad)) (gV 11) Rz) [vE (.fl (ns.map D.int)),s1,vE (.tup h.Dp),vE (.int u),vE (.int B),vE (.ref G.length),vE (.ref (G.length+1)),vE (.int k),vE (.int (lvS h f u k)),vE (.int c),vE (.ref G1.length),x11] (G1++[.lst []])=.nx [vE (.fl (ns.map D.int)),s1,vE (.tup h.Dp),vE (.int u),vE (.int B),vE (.ref G.length),vE (.ref (G.length+1)),vE (.int k),vE (.int (lvS h f u k)),y,vE (.ref G1.length),vE (.int 4)] (G1++[.lst (tab 5 (coS h f u k))]):=by
    simp[hr,hR]
   rw[Uh,a1,Yd];have gl:(G1++[DO.lst (tab 5 (coS h f u k))])[G1.length]?=vE (.lst (tab 5 (coS h f u k))):=by simp
   have gc:(G1++[DO.lst (tab 5 (coS h f u k))])[G.length+1]?=vE (.lst (Bp k (coS h f u))):=by simp[G1]
   have gs:(G1++[DO.lst (tab 5 (coS h f u k))]).set (G.length+1) (.lst (Bp (k+1) (coS h f u)))=(G++ .lst (tab (k+1) (lvS h f u)):: .lst (Bp (k+1) (coS h f u))::(L++[.lst (tab 5 (coS h f u k))])):=by simp[G1]
   generalize G1++[DO.lst (tab 5 (coS h f u k))]=G2 at gl gc gs;unfold ZJ2;simp[gl,gc,hl1,er,gs]
  rw[Iu,Dh];simp only[Dq,R.Dl,qJ,t1,t2,t5,Ea];have e1:((k:Int)+1)=((k+1:Nat):Int):=by lia
  rw[e1,ih]
theorem ZNG(hf:∀k:Nat,k<=1000->∀G,Az [.fl (ns.map D.int),.int k] G=.ok (.int (f k)) G)(hu:0<u)(cu:∀G,Fj [.fl (ns.map D.int)] G=.ok (.int u) G)(g:GoodH h)(G:DH):
  Tg [.fl (ns.map D.int),h.enc] G=.ok (stD h.n (lvS h f u) (coS h f u)) G:=by
 obtain⟨L',y7,y8,y9,y10,y11,hL⟩:=ZJM hf hu g (s1:=vE h.enc) (G:=G) h.n 0 [] vF vF vF vF vF (by lia);have hL':Bo (gV 7) Tr (Cm 0 h.n) [vE (.fl (ns.map D.int)),vE h.enc,vE (.tup h.Dp),vE (.int u),vE (.int ((6+12*h.n:Nat):Int)),vE (.ref G.length),vE (.ref (G.length+1)),vF,vF,vF,vF,vF] (G++[.lst [],.lst []])=
   .nx [vE (.fl (ns.map D.int)),vE h.enc,vE (.tup h.Dp),vE (.int u),vE (.int ((6+12*h.n:Nat):Int)),vE (.ref G.length),vE (.ref (G.length+1)),y7,y8,y9,y10,y11] (G++ .lst (tab h.n (lvS h f u)):: .lst (Bp h.n (coS h f u))::L'):=hL
 have hn:=g.len;have m12:∀G,Bl (.int 12) (.int (h.n:Int)) G=.ok (.int (12*(h.n:Int))) G:=λG=>Jb (by lia) (by lia)
 have e6:(6+12*(h.n:Int))=((6+12*h.n:Nat):Int):=by lia
 generalize hB:((6+12*h.n:Nat):Int)=B at hL' e6;have fu:freeze G (.ok (.int u) G)=.ok (.int u) G:=Ka rfl;have hr:inR (h.n:Int):=Gu (by lia) (by lia);have t1:tidy (G++[.lst []]) (.ok (.ref (G.length+1)) (G++[.lst [],.lst []]))=.ok (.ref (G.length+1)) (G++[.lst [],.lst []]):=by have:=Gb (G:=G++[.lst []]) (ds:=[]) (L:=[]) rfl;simpa using this
 have g0:(G++ .lst (tab h.n (lvS h f u)):: .lst (Bp h.n (coS h f u))::L')[G.length]?=vE (.lst (tab h.n (lvS h f u))):=by simp
 have g1:(G++ .lst (tab h.n (lvS h f u)):: .lst (Bp h.n (coS h f u))::L')[G.length+1]?=vE (.lst (Bp h.n (coS h f u))):=by simp
 have tp:tidy G (.ok (stD h.n (lvS h f u) (coS h f u)) (G++ .lst (tab h.n (lvS h f u)):: .lst (Bp h.n (coS h f u))::L'))=.ok (stD h.n (lvS h f u) (coS h f u)) G:=Qv (by simp[stD,Jl]);generalize G++DO.lst (tab h.n (lvS h f u))::DO.lst (Bp h.n (coS h f u))::L'=G2 at hL' g0 g1 tp;unfold stD at tp⊢;unfold Tg ZJq;rw[Br];simp[Dz,cu,fu,Hs.K3,m12,e6,Av,Gb,t1,hr,hL',g0,g1,Bb,tp]
def flS(n:Nat)(f:Nat->Int)(u:Int)(i k:Nat):Int:=amt (f (6+14*n+i*n+k)) u
theorem ZGV{n:Nat}(hu:0<u)(i k:Nat):0<=flS n f u i k:=V1 hu
def Be(n:Nat)(fls:List (Nat->Int)):List D:=fls.map λfl=>.tup (tab n fl)
@[simp]theorem Vu{n:Nat}:bels m (Be n fls)=vG:=Ga λ_ _=>by simp
theorem ZFL{o:DO}(h:∀m,bels m ds=vG):freeze (G++[o]) (.ok (.ref (G.length+1)) (G++[o,.lst ds]))=.ok (.fl ds) (G++[o]):=by have:=Fd (G:=G++[o]) (ds:=ds) (L:=[]) (h _);simpa using this
theorem ZMJ(hf:∀k:Nat,k<=1000->∀G,Az [.fl (ns.map D.int),.int k] G=.ok (.int (f k)) G)(hu:0<u)(cu:∀G,Fj [.fl (ns.map D.int)] G=.ok (.int u) G){n:Nat}(hi:6+14*n+i*n+n<=1000)(hi2:i<=1000)(hn2:n<=1000){s1 x:Option D}{acc:List D}(ha:acc.length<=1000)(G:DH):
  Ux [vE (.fl (ns.map D.int)),s1,s2,vE (.int n),vE (.int ((6+14*n:Nat):Int)),vE (.ref G.length),vE (.int i),x] (G++[.lst acc])=
   .nx [vE (.fl (ns.map D.int)),s1,s2,vE (.int n),vE (.int ((6+14*n:Nat):Int)),vE (.ref G.length),vE (.int i),vE (.fl (tab n λk=>f (6+14*n+i*n+k)))] (G++[.lst (acc++[.tup (tab n (flS n f u i))])]):=by
 have hal:acc.length<1000000:=by lia
 have mi:∀G,Bl (.int (i:Int)) (.int (n:Int)) G=.ok (.int ((i:Int)*n)) G:=λG=>Jb (by lia) (by lia)
 have fu:∀G,freeze G (.ok (.int u) G)=.ok (.int u) G:=λG=>Ka rfl
 have c1:∀G,Dt (gV 0) Cd ZBo [vF,vE (.fl (ns.map D.int)),vE (.int n),vE (.int ((6+14*n:Nat):Int)),vE (.int i)] (Cm 0 n) G=.ok (tab n λk=>f (6+14*n+i*n+k)) G:=λG=>
  Q8 (F:=λk=>.int (f (6+14*n+i*n+k))) λk hk=>by
   have h1:=hf (6+14*n+i*n+k) (by lia) G;have e1:((6+14*n+i*n+k:Nat):Int)=((6+14*n:Nat):Int)+(i:Int)*n+k:=by rw[jB,jB,Int.natCast_mul]
   rw[e1]at h1;generalize((6+14*n:Nat):Int)=B at h1;unfold ZBo;simp[mi,h1]
 have c2:∀G,Dt (gV 0) Cd ZBF [vF,vE (.fl (ns.map D.int))] (tab n λk=>f (6+14*n+i*n+k)) G=.ok (tab n (flS n f u i)) G:=λG=>
  Oq (E:=λk=>.int (f (6+14*n+i*n+k))) (F:=λk=>.int (flS n f u i k)) λk hk=>by unfold ZBF;simp[cu,fu,M5 hu,flS]
 have hr:inR (n:Int):=Gu (by lia) (by lia);have cs1:∀a b c d e f' g h:Option D,Bm 1 [0,3,4,6] [a,b,c,d,e,f',g,h]=[vF,a,d,e,g]:=λ_ _ _ _ _ _ _ _=>rfl
 have cs2:∀a b c d e f' g h:Option D,Bm 1 [0] [a,b,c,d,e,f',g,h]=[vF,a]:=λ_ _ _ _ _ _ _ _=>rfl
 have fz1:=ZFL (G:=G) (o:=.lst acc) (ds:=tab n λk=>f (6+14*n+i*n+k)) λ_=>Jl
 have fz2:=ZFL (G:=G) (o:=.lst acc) (ds:=tab n (flS n f u i)) λ_=>Jl
 generalize((6+14*n:Nat):Int)=B at c1;have hnl:n<=1000000:=by lia
 unfold Ux;simp[hnl,hr,cs1,cs2,c1,c2,fz1,fz2,Eg,Ft,hal]
theorem ZGl(hf:∀k:Nat,k<=1000->∀G,Az [.fl (ns.map D.int),.int k] G=.ok (.int (f k)) G)(hu:0<u)(cu:∀G,Fj [.fl (ns.map D.int)] G=.ok (.int u) G){n t:Nat}(ht:6+14*n+t*n<=1000)(ht2:t<=100)(hn2:n<=1000){s1 s2:Option D}(G:DH):∀(m i:Nat)(x6 x7:Option D),i+m=t->∃y6 y7,
  Bo (gV 6) Ux (Cm i m) [vE (.fl (ns.map D.int)),s1,s2,vE (.int n),vE (.int ((6+14*n:Nat):Int)),vE (.ref G.length),x6,x7] (G++[.lst (Be n ((zZ i).map (flS n f u)))])=
   .nx [vE (.fl (ns.map D.int)),s1,s2,vE (.int n),vE (.int ((6+14*n:Nat):Int)),vE (.ref G.length),y6,y7] (G++[.lst (Be n ((zZ t).map (flS n f u)))])
 |0,i,x6,x7,e=>by
  have e1:i=t:=by lia
  subst e1;exact⟨x6,x7,by rw[Js,Ed]⟩
 |m+1,i,x6,x7,e=>by
  obtain⟨y6,y7,ih⟩:=ZGl hf hu cu ht ht2 hn2 (s1:=s1) (s2:=s2) G m (i+1) (vE (.int i)) (vE (.fl (tab n λk=>f (6+14*n+i*n+k)))) (by lia);refine⟨y6,y7,?_⟩;have hm:(i+1)*n<=t*n:=Nat.mul_le_mul_right n (by lia);have hm2:(i+1)*n=i*n+n:=Nat.succ_mul i n;have hb:=ZMJ hf hu cu (n:=n) (i:=i) (by lia) (by lia) hn2 (s1:=s1) (s2:=s2) (x:=x7) (acc:=Be n ((zZ i).map (flS n f u))) (by simp[Be];lia) G
  have ea:Be n ((zZ i).map (flS n f u))++[.tup (tab n (flS n f u i))]=Be n ((zZ (i+1)).map (flS n f u)):=by simp[Be,jw]
  rw[ea]at hb;rw[Iu,Dh];simp only[Dq,R.Dl,qJ,hb,Ea];have e1:((i:Int)+1)=((i+1:Nat):Int):=by lia
  rw[e1,ih]
theorem ZQ2(hf:∀k:Nat,k<=1000->∀G,Az [.fl (ns.map D.int),.int k] G=.ok (.int (f k)) G)(hu:0<u)(cu:∀G,Fj [.fl (ns.map D.int)] G=.ok (.int u) G)(g:GoodH h){t:Nat}(ht:6+14*h.n+t*h.n<=1000)(ht2:t<=100)(G:DH):
  V4 [.fl (ns.map D.int),h.enc,.int t] G=.ok (.ref G.length) (G++[.lst (Be h.n ((zZ t).map (flS h.n f u)))]):=by
 have hn:=g.len;obtain⟨y6,y7,hL⟩:=ZGl hf hu cu ht ht2 (by lia) (s1:=vE h.enc) (s2:=vE (.int t)) G t 0 vF vF (by lia);have hL':Bo (gV 6) Ux (Cm 0 t) [vE (.fl (ns.map D.int)),vE h.enc,vE (.int t),vE (.int h.n),vE (.int ((6+14*h.n:Nat):Int)),vE (.ref G.length),vF,vF] (G++[.lst []])=
   .nx [vE (.fl (ns.map D.int)),vE h.enc,vE (.int t),vE (.int h.n),vE (.int ((6+14*h.n:Nat):Int)),vE (.ref G.length),y6,y7] (G++[.lst (Be h.n ((zZ t).map (flS h.n f u)))]):=hL
 have m14:∀G,Bl (.int 14) (.int (h.n:Int)) G=.ok (.int (14*(h.n:Int))) G:=λG=>Jb (by lia) (by lia)
 have e6:(6+14*(h.n:Int))=((6+14*h.n:Nat):Int):=by lia
 generalize hB:((6+14*h.n:Nat):Int)=B at hL' e6;have hr:inR (t:Int):=Gu (by lia) (by lia);unfold V4 ZIs;rw[Br];simp[Dz,Hs.K3,m14,e6,Av,Gb,hr,hL']
theorem ZK3(hf:∀k:Nat,k<=1000->∀G,Az [.fl (ns.map D.int),.int k] G=.ok (.int (f k)) G):∃a:Int,0<=a/\∀G,Qw [.fl (ns.map D.int)] G=.ok (.int a) G:=by
 have h3:∀G,Az [.fl (ns.map D.int),.int 3] G=.ok (.int (f 3)) G:=hf 3 (by lia);have fz:∀G:DH,freeze G (.ok (.ref G.length) (G++[.lst [.int 50,.int 1000000000000000000000000000000000000000]]))=.ok (.fl [.int 50,.int 1000000000000000000000000000000000000000]) G:=λG=>Fd rfl
 rcases(by lia:f 3%2=0∨f 3%2=1)with z|z
 ·refine⟨f 3/2%50,by lia,λG=>?_⟩;unfold Qw ZA3;rw[Br];simp[h3,z,Av,fz,By]
 ·refine⟨f 3/2%1000000000000000000000000000000000000000,by lia,λG=>?_⟩;unfold Qw ZA3;rw[Br];simp[h3,z,Av,fz,By]
noncomputable abbrev St2:=(Nat->Int)×(Nat->Nat->Int)
def Hs.nxt(h:Hs)(s:St2)(a:Int)(fl:Nat->Int):St2:=(lies (h.cs s.1 s.2 a fl).page,(h.cs s.1 s.2 a fl).coming)
def Hs.Hx(h:Hs):List (Nat->Int)->St2->Int->St2
 |[],s,_=>s
 |fl::r,s,a=>h.Hx r (h.nxt s a fl) (a+1)
def Hs.G8(h:Hs):List (Nat->Int)->St2->Int->List (Nat->List Int)
 |[],_,_=>[]
 |fl::r,s,a=>(h.cs s.1 s.2 a fl).page::h.G8 r (h.nxt s a fl) (a+1)
theorem Xx:∀{fls:List (Nat->Int)}{s:St2}{a:Int},(h.G8 fls s a).length=fls.length
 |[],_,_=>rfl
 |fl::r,s,a=>by show(h.G8 r (h.nxt s a fl) (a+1)).length+1=r.length+1;rw[Xx]
def pgD(n:Nat)(pg:Nat->List Int):D:=.tup (Dm n pg)
@[simp]theorem ZPV{n:Nat}:bel m (pgD n pg)=vG:=by simp[pgD]
@[simp]theorem ZBc{n:Nat}:bels m (pgs.map (pgD n))=vG:=Ga λ_ _=>ZPV
@[simp]theorem ZAR{n:Nat}:bel m (stD n lv co)=vG:=by simp[stD]
theorem ZN8(g:GoodH h)(hc:∀k j,k<h.n->j<5->0<=co k j)(hf:∀k,k<h.n->0<=fl k):(h.cs lv co a fl).NN h.n:=ZHq g h.n 0 _ (by lia) (ZFD hc hf)
noncomputable def enS:Int->List D->List D
 |_,[]=>[]
 |a,x::r=>.tup [.int a,x]::enS (a+1) r
theorem ZHa:∀(xs:List D)(a:Int)(j:Nat),(enS a xs)[j]?=xs[j]?.map λx=>.tup [.int (a+j),x]
 |[],a,j=>by simp[enS]
 |x::r,a,0=>by simp[enS]
 |x::r,a,j+1=>by
  show(enS (a+1) r)[j]?=r[j]?.map _;rw[ZHa r (a+1) j];have e:a+1+(j:Int)=a+((j+1:Nat):Int):=by lia
  rw[e]
theorem ZIH:∀(xs:List D)(a:Int),(enS a xs).length=xs.length
 |[],a=>rfl
 |x::r,a=>by show(enS (a+1) r).length+1=r.length+1;rw[ZIH]
theorem ZIy{g:DG}{b:DS}{xs:List D}:Eo (Ew a (.fl xs)) g b xs.length 0 S G=Bo g b (enS a xs) S G:=Rc (λj G=>by show vE (xs[j]?.map _)=_;rw[ZHa]) (ZIH xs a).symm
theorem ZJJ(g:GoodH h){s2 s3:Option D}{G:DH}:∀(fls:List (Nat->Int))(s:St2)(a:Int)(acc:List D)(x5 x6 x7:Option D),acc.length+fls.length<=1000->(∀k j,k<h.n->j<5->0<=s.2 k j)->(∀fl∈fls,∀k,k<h.n->0<=fl k)->∃y5 y6 y7,
  Bo (Bg 2 (Am (gV 5) (Am (gV 6) Bk))) S6 (enS a (Be h.n fls)) [vE h.enc,vE (stD h.n s.1 s.2),s2,s3,vE (.ref G.length),x5,x6,x7] (G++[.lst acc])=
   .nx [vE h.enc,vE (stD h.n (h.Hx fls s a).1 (h.Hx fls s a).2),s2,s3,vE (.ref G.length),y5,y6,y7] (G++[.lst (acc++(h.G8 fls s a).map (pgD h.n))])
 |[],s,a,acc,x5,x6,x7,_,_,_=>⟨x5,x6,x7,by show Bo _ _ [] _ _=_;rw[Ed];simp[Hs.Hx,Hs.G8]⟩
 |fl::r,s,a,acc,x5,x6,x7,hl,hc,hf=>by
  have hf1:=hf fl (by simp);have nn:=ZN8 g (lv:=s.1) (fl:=fl) (co:=s.2) (a:=a) hc hf1;simp only[zO]at hl;obtain⟨y5,y6,y7,ih⟩:=ZJJ g (s2:=s2) (s3:=s3) (G:=G) r (h.nxt s a fl) (a+1) (acc++[pgD h.n (h.cs s.1 s.2 a fl).page]) (vE (.int a)) (vE (.tup (tab h.n fl))) (vE (pgD h.n (h.cs s.1 s.2 a fl).page)) (by simp;lia) nn.2 (λf' hf'=>hf f' (zX _ hf'));refine⟨y5,y6,y7,?_⟩
  have ct:=ZRD g (lv:=s.1) (fl:=fl) (co:=s.2) (at_:=a) hc hf1;have hal:acc.length<1000000:=by lia
  have hb:S6 [vE h.enc,vE (stD h.n s.1 s.2),s2,s3,vE (.ref G.length),vE (.int a),vE (.tup (tab h.n fl)),x7] (G++[.lst acc])=.nx [vE h.enc,vE (stD h.n (h.nxt s a fl).1 (h.nxt s a fl).2),s2,s3,vE (.ref G.length),vE (.int a),vE (.tup (tab h.n fl)),vE (pgD h.n (h.cs s.1 s.2 a fl).page)] (G++[.lst (acc++[pgD h.n (h.cs s.1 s.2 a fl).page])]):=by unfold S6;simp[ct,Eg,Ft,hal,pgD,Hs.nxt]
  show Bo _ _ (.tup [.int a,.tup (tab h.n fl)]::enS (a+1) (Be h.n r)) _ _=_;rw[Dh];simp only[Q5,Qc,Pk,Dq,R.Ji,R.Dl,qJ,hb,Ea,zO,qN,Nat.reduceAdd,if_true];rw[ih];simp[Hs.Hx,Hs.G8]
theorem ZIW{G':DH}(h:bels G.length ds=vH):tidy G (.ok (.tup ds) G')=.ok (.tup ds) G':=by unfold tidy;simp[h]
theorem ZCZ(h1:bels G.length ds=vG)(h2:bel G.length e=vG):freeze G (.ok (.tup [.ref G.length,e]) (G++[.lst ds]))=.ok (.tup [.fl ds,e]) G:=by
 unfold freeze;have m:Fe (G++[.lst ds]) G.length 9 (.tup [.ref G.length,e])=vE (.tup [.fl ds,e]):=by
  unfold Fe;have m1:Fe (G++[.lst ds]) G.length 8 (.ref G.length)=vE (.fl ds):=by unfold Fe;simp[ZAK h1]
  have m2:Fe (G++[.lst ds]) G.length 8 e=vE e:=by unfold Fe;simp[h2]
  simp[Jx,m1,m2]
 simp[m]
theorem ZEZ(g:GoodH h){s:St2}(hl:fls.length<=1000)(hc:∀k j,k<h.n->j<5->0<=s.2 k j)(hf:∀fl∈fls,∀k,k<h.n->0<=fl k)(G:DH):
  Mp [h.enc,stD h.n s.1 s.2,.int a,.fl (Be h.n fls)] G=.ok (.tup [.ref G.length,stD h.n (h.Hx fls s a).1 (h.Hx fls s a).2]) (G++[.lst ((h.G8 fls s a).map (pgD h.n))]):=by
 obtain⟨y5,y6,y7,hL⟩:=ZJJ g (s2:=vE (.int a)) (s3:=vE (.fl (Be h.n fls))) (G:=G) fls s a [] vF vF vF (by simp;lia) hc hf;have hL':Eo (Ew a (.fl (Be h.n fls))) (Bg 2 (Am (gV 5) (Am (gV 6) Bk))) S6 (Be h.n fls).length 0 [vE h.enc,vE (stD h.n s.1 s.2),vE (.int a),vE (.fl (Be h.n fls)),vE (.ref G.length),vF,vF,vF] (G++[.lst []])=
   .nx [vE h.enc,vE (stD h.n (h.Hx fls s a).1 (h.Hx fls s a).2),vE (.int a),vE (.fl (Be h.n fls)),vE (.ref G.length),y5,y6,y7] (G++[.lst ((h.G8 fls s a).map (pgD h.n))]):=by
  rw[ZIy];exact hL
 have tt:∀e:D,tidy G (.ok (.tup [.ref G.length,e]) (G++[.lst ((h.G8 fls s a).map (pgD h.n))]))=.ok (.tup [.ref G.length,e]) (G++[.lst ((h.G8 fls s a).map (pgD h.n))]):=λe=>ZIW (by simp)
 unfold Mp ZHr;rw[Br];simp[Av,Gb,ZBX,hL',Bb,tt]
theorem ZRc{n k:Nat}(hk:k<n){b d e f:Int}(e1:pg k=[a,b,c,d,e,f]):atI (Dm n pg) (k:Int)=vE (.tup [.int a,.int b,.int c,.int d,.int e,.int f]):=Fb rfl (by unfold Dm;rw[zx,zL hk];simp[Le,e1])
def mcell(h:Hs)(f:Nat->Int)(k:Nat):Int:=f (6+24*h.n+k)
def lvM(h:Hs)(f:Nat->Int)(u:Int)(lv:Nat->Int)(k:Nat):Int:=match(h.pl k).kd with
 |.basin b _ _=>lv k+amt (mcell h f k/2) u%(b-lv k+1)*(mcell h f k%2)
 |_=>lv k
def coM(h:Hs)(f:Nat->Int)(u:Int)(co:Nat->Nat->Int)(k j:Nat):Int:=co k j+u*(mcell h f k/2%2)
def flM(h:Hs)(f:Nat->Int)(u:Int)(fl:Nat->Nat->Int)(i k:Nat):Int:=fl i k+amt (f (6+24*h.n+h.n+i*h.n+k)/2) u*(f (6+24*h.n+h.n+i*h.n+k)%2)
theorem ZDm(hx:0<=x):0<=x*(c%2):=j3 hx (by lia)
theorem ZQ4{k:Nat}:tab k F++[.int (F k)]=tab (k+1) F:=by simp[tab,jw]
theorem ZL0{k:Nat}:Bp k co++[.tup (tab 5 (co k))]=Bp (k+1) co:=by simp[Bp,jw]
theorem ZLb{n k:Nat}(hk:k<n):atI (Bp n co) (k:Int)=vE (.tup (tab 5 (co k))):=Fb rfl (by simp[Bp,hk])
theorem ZRU(h:∀m,bels m ds=vG):freeze (G++[A,B]) (.ok (.ref (G.length+2)) (G++[A,B,.lst ds]))=.ok (.fl ds) (G++[A,B]):=by have:=Fd (G:=G++[A,B]) (ds:=ds) (L:=[]) (h _);simpa using this
theorem ZCb{C:DO}(h:∀m,bels m ds=vG):freeze (G++[A,B,C]) (.ok (.ref (G.length+3)) (G++[A,B,C,.lst ds]))=.ok (.fl ds) (G++[A,B,C]):=by have:=Fd (G:=G++[A,B,C]) (ds:=ds) (L:=[]) (h _);simpa using this
section
variable{ns:List Int}{f:Nat->Int}{u:Int}{h:Hs}
theorem ZOl(hf:∀k:Nat,k<=1000->∀G,Az [.fl (ns.map D.int),.int k] G=.ok (.int (f k)) G)(hu:0<u)(g:GoodH h)(hb:∀k b r q,k<h.n->(h.pl k).kd=.basin b r q->lv k<=b){k:Nat}(hk:k<h.n){s3 x10 x11 x12 s14 s15 s16 s17:Option D}(G:DH):∃y12,
  Te [vE (.fl (ns.map D.int)),vE h.enc,vE (stD h.n lv co),s3,vE (.int u),vE (.int h.n),vE (.int ((6+24*h.n:Nat):Int)),vE (.ref G.length),vE (.ref (G.length+1)),vE (.int k),x10,x11,x12,s14,s15,s16,s17] (G++[.lst (tab k (lvM h f u lv)),.lst (Bp k (coM h f u co))])=
   .nx [vE (.fl (ns.map D.int)),vE h.enc,vE (stD h.n lv co),s3,vE (.int u),vE (.int h.n),vE (.int ((6+24*h.n:Nat):Int)),vE (.ref G.length),vE (.ref (G.length+1)),vE (.int k),vE (.int (mcell h f k)),vE (.int (lvM h f u lv k)),y12,s14,s15,s16,s17] (G++[.lst (tab (k+1) (lvM h f u lv)),.lst (Bp (k+1) (coM h f u co))]):=by
 have hn:=g.len;have hc:∀G,Az [.fl (ns.map D.int),.int (((6+24*h.n:Nat):Int)+(k:Int))] G=.ok (.int (mcell h f k)) G:=λG=>by have:=hf (6+24*h.n+k) (by lia) G;rwa[show((6+24*h.n+k:Nat):Int)=((6+24*h.n:Nat):Int)+k by lia]at this
 generalize((6+24*h.n:Nat):Int)=B at hc;have ap:atI h.Dp (k:Int)=vE (h.encP (h.pl k)):=Hs.Fo hk;have al:atI (tab h.n lv) (k:Int)=vE (.int (lv k)):=Hc hk;have ar:atI (Bp h.n co) (k:Int)=vE (.tup (tab 5 (co k))):=ZLb hk;have mu:∀G,Bl (.int u) (.int (mcell h f k/2%2)) G=.ok (.int (u*(mcell h f k/2%2))) G:=λG=>Jj (by lia) (by lia)
 have cp:∀G,Dt (gV 0) Cd ZDb [vF,vE (.int u),vE (.int (mcell h f k))] (tab 5 (co k)) G=.ok (tab 5 (coM h f u co k)) G:=λG=>Oq (E:=λj=>D.int (co k j)) (F:=λj=>.int (coM h f u co k j)) λj _=>by unfold ZDb;simp[mu,coM]
 have fz:∀ds ds':List D,freeze (G++[.lst ds,.lst ds']) (.ok (.ref (G.length+2)) (G++[.lst ds,.lst ds',.lst (tab 5 (coM h f u co k))]))=.ok (.fl (tab 5 (coM h f u co k))) (G++[.lst ds,.lst ds']):=λds ds'=>ZRU λ_=>Jl
 have hl1:k<1000000:=by lia
 have cs:∀a b c d e f' g h i j k' l m n o p q:Option D,Bm 1 [4,10] [a,b,c,d,e,f',g,h,i,j,k',l,m,n,o,p,q]=[vF,e,k']:=λ_ _ _ _ _ _ _ _ _ _ _ _ _ _ _ _ _=>rfl
 have g0:∀a b:DO,(G++[a,b])[G.length]?=vE a:=λa b=>by simp
 have g1:∀a b:DO,(G++[a,b])[G.length+1]?=vE b:=λa b=>by simp
 have s0:∀a b c:DO,(G++[a,b]).set G.length c=G++[c,b]:=λa b c=>by simp
 have s1:∀a b c:DO,(G++[a,b]).set (G.length+1) c=G++[a,c]:=λa b c=>by simp
 have t1:=ZQ4 (k:=k) (F:=lvM h f u lv);have t2:=ZL0 (k:=k) (co:=coM h f u co);have et:∀ds:List D,Fy [.fl ds]=λG=>.ok (.tup ds) G:=λds=>rfl
 have hT5:(tab 5 (coM h f u co k)).length<=1000000:=by simp
 generalize tab 5 (coM h f u co k)=T5 at cp fz t2 hT5;generalize tab (k+1) (lvM h f u lv)=TL at t1;generalize Bp (k+1) (coM h f u co)=RL at t2;have fin:∀y12:Option D,Xg [vE (.fl (ns.map D.int)),vE h.enc,vE (stD h.n lv co),s3,vE (.int u),vE (.int h.n),vE (.int B),vE (.ref G.length),vE (.ref (G.length+1)),vE (.int k),vE (.int (mcell h f k)),vE (.int (lvM h f u lv k)),y12,s14,s15,s16,s17] (G++[.lst (tab k (lvM h f u lv)),.lst (Bp k (coM h f u co))])=.nx [vE (.fl (ns.map D.int)),vE h.enc,vE (stD h.n lv co),s3,vE (.int u),vE (.int h.n),vE (.int B),vE (.ref G.length),vE (.ref (G.length+1)),vE (.int k),vE (.int (mcell h f k)),vE (.int (lvM h f u lv k)),y12,s14,s15,s16,s17] (G++[.lst TL,.lst RL]):=λy12=>by
  unfold Xg ZEn stD;simp[hT5,g0,g1,s0,s1,hl1,t1,ar,cs,cp,fz,et,t2]
 have mid:∃y12:Option D,∀Γ,Sy [vE (.fl (ns.map D.int)),vE h.enc,vE (stD h.n lv co),s3,vE (.int u),vE (.int h.n),vE (.int B),vE (.ref G.length),vE (.ref (G.length+1)),vE (.int k),vE (.int (mcell h f k)),vE (.int (lv k)),x12,s14,s15,s16,s17] Γ=Xg [vE (.fl (ns.map D.int)),vE h.enc,vE (stD h.n lv co),s3,vE (.int u),vE (.int h.n),vE (.int B),vE (.ref G.length),vE (.ref (G.length+1)),vE (.int k),vE (.int (mcell h f k)),vE (.int (lvM h f u lv k)),y12,s14,s15,s16,s17] Γ:=by
  clear fin fz g0 g1 s0 s1 t1 t2 cp;generalize vE (stD h.n lv co)=S2;cases ek:(h.pl k).kd with
  |basin b r q=>
   have hbl:=hb k b r q hk ek;have hv:lvM h f u lv k=lv k+amt (mcell h f k/2) u%(b-lv k+1)*(mcell h f k%2):=by unfold lvM;rw[ek]
   have e4:∀G,Aj (h.encP (h.pl k)) (.int 4) G=.ok (.int b) G:=λG=>by unfold Hs.encP;rw[ek];simp
   have r0:0<b-lv k+1:=by lia
   have m2:∀x G,Bl (.int x) (.int (mcell h f k%2)) G=.ok (.int (x*(mcell h f k%2))) G:=λx G=>Jj (by lia) (by lia)
   have om:∀x G,Bq (.int x) (.int (b-lv k+1)) G=.ok (.int (x%(b-lv k+1))) G:=λx G=>by simp[r0]
   refine⟨vE (.int (b-lv k+1)),λΓ=>?_⟩;rw[hv];unfold Sy;simp[Dz,ap,Je,ek,Kd.isB,e4,M5 hu,om,m2]
  |town a b=>
   have hv:lvM h f u lv k=lv k:=by unfold lvM;rw[ek]
   refine⟨x12,λΓ=>?_⟩;rw[hv];unfold Sy;simp[Dz,ap,Je,ek,Kd.isB]
  |mill a=>
   have hv:lvM h f u lv k=lv k:=by unfold lvM;rw[ek]
   refine⟨x12,λΓ=>?_⟩;rw[hv];unfold Sy;simp[Dz,ap,Je,ek,Kd.isB]
 obtain⟨y12,hm⟩:=mid;refine⟨y12,?_⟩;have fm:=(hm _).trans (fin y12);clear fin hm;have st:stD h.n lv co=.tup [.tup (tab h.n lv),.tup (Bp h.n co)]:=rfl;rw[st]at fm⊢;generalize(G++[.lst (tab k (lvM h f u lv)),.lst (Bp k (coM h f u co))])=Γ at fm⊢;unfold Te ZHQ;simp[hc,al,fm]
theorem ZJy(hf:∀k:Nat,k<=1000->∀G,Az [.fl (ns.map D.int),.int k] G=.ok (.int (f k)) G)(hu:0<u)(g:GoodH h){co:Nat->Nat->Int}(hb:∀k b r q,k<h.n->(h.pl k).kd=.basin b r q->lv k<=b){s3 s14 s15 s16 s17:Option D}(G:DH):∀(m k:Nat)(x9 x10 x11 x12:Option D),k+m=h.n->∃y9 y10 y11 y12,
  Bo (gV 9) Te (Cm k m) [vE (.fl (ns.map D.int)),vE h.enc,vE (stD h.n lv co),s3,vE (.int u),vE (.int h.n),vE (.int ((6+24*h.n:Nat):Int)),vE (.ref G.length),vE (.ref (G.length+1)),x9,x10,x11,x12,s14,s15,s16,s17] (G++[.lst (tab k (lvM h f u lv)),.lst (Bp k (coM h f u co))])=
   .nx [vE (.fl (ns.map D.int)),vE h.enc,vE (stD h.n lv co),s3,vE (.int u),vE (.int h.n),vE (.int ((6+24*h.n:Nat):Int)),vE (.ref G.length),vE (.ref (G.length+1)),y9,y10,y11,y12,s14,s15,s16,s17] (G++[.lst (tab h.n (lvM h f u lv)),.lst (Bp h.n (coM h f u co))])
 |0,k,x9,x10,x11,x12,e=>by
  have e1:k=h.n:=by lia
  subst e1;exact⟨x9,x10,x11,x12,by rw[Js,Ed]⟩
 |m+1,k,x9,x10,x11,x12,e=>by
  obtain⟨z12,hb1⟩:=ZOl hf hu g hb (k:=k) (by lia) (s3:=s3) (x10:=x10) (x11:=x11) (x12:=x12) (s14:=s14) (s15:=s15) (s16:=s16) (s17:=s17) (co:=co) G;obtain⟨y9,y10,y11,y12,ih⟩:=ZJy hf hu g hb (s3:=s3) (s14:=s14) (s15:=s15) (s16:=s16) (s17:=s17) (co:=co) G m (k+1) (vE (.int k)) (vE (.int (mcell h f k))) (vE (.int (lvM h f u lv k))) z12 (by lia);refine⟨y9,y10,y11,y12,?_⟩;rw[Iu,Dh];simp only[Dq,R.Dl,qJ,hb1,Ea]
  have e1:((k:Int)+1)=((k+1:Nat):Int):=by lia
  rw[e1,ih]
theorem ZOc(hf:∀k:Nat,k<=1000->∀G,Az [.fl (ns.map D.int),.int k] G=.ok (.int (f k)) G)(hu:0<u)(g:GoodH h){fl:Nat->Nat->Int}{t:Nat}(hi:i<t)(ht:t<=6){s7 s8 s9 s10 s11 s12 s14 x16 x17:Option D}{acc:List D}(ha:acc.length<=100)(G:DH):∃y16 y17,
  Us [vE (.fl (ns.map D.int)),vE h.enc,s2,vE (.fl (Be h.n ((zZ t).map fl))),vE (.int u),vE (.int h.n),vE (.int ((6+24*h.n:Nat):Int)),s7,s8,s9,s10,s11,s12,vE (.ref (G.length+2)),vE (.int i),x16,x17] (G++[A,B,.lst acc])=
   .nx [vE (.fl (ns.map D.int)),vE h.enc,s2,vE (.fl (Be h.n ((zZ t).map fl))),vE (.int u),vE (.int h.n),vE (.int ((6+24*h.n:Nat):Int)),s7,s8,s9,s10,s11,s12,vE (.ref (G.length+2)),vE (.int i),y16,y17] (G++[A,B,.lst (acc++[.tup (tab h.n (flM h f u fl i))])]):=by
 have hn:=g.len;have hin:i*h.n<=6*12:=jU (by lia) hn;have mi:∀G,Bl (.int (i:Int)) (.int (h.n:Int)) G=.ok (.int ((i:Int)*h.n)) G:=λG=>Jb (by lia) (by lia)
 have c3:∀G,Dt (gV 0) Cd ZDY [vF,vE (.fl (ns.map D.int)),vE (.int h.n),vE (.int ((6+24*h.n:Nat):Int)),vE (.int i)] (Cm 0 h.n) G=.ok (tab h.n λk=>f (6+24*h.n+h.n+i*h.n+k)) G:=λG=>
  Q8 (F:=λk=>.int (f (6+24*h.n+h.n+i*h.n+k))) λk hk=>by
   have h1:=hf (6+24*h.n+h.n+i*h.n+k) (by lia) G;have e1:((6+24*h.n+h.n+i*h.n+k:Nat):Int)=((6+24*h.n:Nat):Int)+(h.n:Int)+(i:Int)*h.n+k:=by rw[jB,jB,jB,Int.natCast_mul]
   rw[e1]at h1;generalize((6+24*h.n:Nat):Int)=B at h1;unfold ZDY;simp[mi,h1]
 have c4:∀G,Dt (gV 0) Cd ZCC [vF,vE (.int u)] (tab h.n λk=>f (6+24*h.n+h.n+i*h.n+k)) G=.ok (tab h.n λk=>amt (f (6+24*h.n+h.n+i*h.n+k)/2) u*(f (6+24*h.n+h.n+i*h.n+k)%2)) G:=λG=>
  Oq (E:=λk=>.int (f (6+24*h.n+h.n+i*h.n+k))) (F:=λk=>.int (amt (f (6+24*h.n+h.n+i*h.n+k)/2) u*(f (6+24*h.n+h.n+i*h.n+k)%2))) λk _=>by
   generalize f (6+24*h.n+h.n+i*h.n+k)=c;have m2:∀x G,Bl (.int x) (.int (c%2)) G=.ok (.int (x*(c%2))) G:=λx G=>Jj (by lia) (by lia)
   unfold ZCC;simp[M5 hu,m2]
 have af:atI (Be h.n ((zZ t).map fl)) (i:Int)=vE (.tup (tab h.n (fl i))):=Fb rfl (by simp[Be,hi]);have c5:∀G,Dt (gV 0) Cd ZDU [vF,vE (.fl (Be h.n ((zZ t).map fl))),vE (.int i),vE (.fl (tab h.n λk=>amt (f (6+24*h.n+h.n+i*h.n+k)/2) u*(f (6+24*h.n+h.n+i*h.n+k)%2)))] (Cm 0 h.n) G=.ok (tab h.n (flM h f u fl i)) G:=λG=>
  Q8 (F:=λk=>.int (flM h f u fl i k)) λk hk=>by have a1:atI (tab h.n (fl i)) (k:Int)=vE (.int (fl i k)):=Hc hk;have a2:atI (tab h.n λk=>amt (f (6+24*h.n+h.n+i*h.n+k)/2) u*(f (6+24*h.n+h.n+i*h.n+k)%2)) (k:Int)=vE (.int (amt (f (6+24*h.n+h.n+i*h.n+k)/2) u*(f (6+24*h.n+h.n+i*h.n+k)%2))):=Hc hk;unfold ZDU;simp[af,a1,a2,flM]
 have hr:inR (h.n:Int):=Gu (by lia) (by lia);have cs3:∀a b c d e f' g h i j k' l m n o p q:Option D,Bm 1 [0,5,6,14] [a,b,c,d,e,f',g,h,i,j,k',l,m,n,o,p,q]=[vF,a,f',g,o]:=λ_ _ _ _ _ _ _ _ _ _ _ _ _ _ _ _ _=>rfl
 have cs4:∀a b c d e f' g h i j k' l m n o p q:Option D,Bm 1 [4] [a,b,c,d,e,f',g,h,i,j,k',l,m,n,o,p,q]=[vF,e]:=λ_ _ _ _ _ _ _ _ _ _ _ _ _ _ _ _ _=>rfl
 have cs5:∀a b c d e f' g h i j k' l m n o p q:Option D,Bm 1 [3,14,16] [a,b,c,d,e,f',g,h,i,j,k',l,m,n,o,p,q]=[vF,d,o,q]:=λ_ _ _ _ _ _ _ _ _ _ _ _ _ _ _ _ _=>rfl
 have fz3:=ZCb (G:=G) (A:=A) (B:=B) (C:=.lst acc) (ds:=tab h.n λk=>f (6+24*h.n+h.n+i*h.n+k)) λ_=>Jl
 have fz4:=ZCb (G:=G) (A:=A) (B:=B) (C:=.lst acc) (ds:=tab h.n λk=>amt (f (6+24*h.n+h.n+i*h.n+k)/2) u*(f (6+24*h.n+h.n+i*h.n+k)%2)) λ_=>Jl
 have fz5:=ZCb (G:=G) (A:=A) (B:=B) (C:=.lst acc) (ds:=tab h.n (flM h f u fl i)) λ_=>Jl
 have g2:(G++[A,B,.lst acc])[G.length+2]?=vE (.lst acc):=by simp
 have s2:∀c:DO,(G++[A,B,.lst acc]).set (G.length+2) c=G++[A,B,c]:=λc=>by simp
 have hal:acc.length<1000000:=by lia
 refine⟨vE (.fl (tab h.n λk=>f (6+24*h.n+h.n+i*h.n+k))),vE (.fl (tab h.n λk=>amt (f (6+24*h.n+h.n+i*h.n+k)/2) u*(f (6+24*h.n+h.n+i*h.n+k)%2))),?_⟩;generalize((6+24*h.n:Nat):Int)=BB at c3;have l4:(tab h.n λk=>amt (f (6+24*h.n+h.n+i*h.n+k)/2) u*(f (6+24*h.n+h.n+i*h.n+k)%2)).length<=1000000:=by simp;lia
 have l3:(tab h.n λk=>f (6+24*h.n+h.n+i*h.n+k)).length<=1000000:=by simp;lia
 have l5:(tab h.n (flM h f u fl i)).length<=1000000:=by simp;lia
 generalize(tab h.n λk=>amt (f (6+24*h.n+h.n+i*h.n+k)/2) u*(f (6+24*h.n+h.n+i*h.n+k)%2))=T4 at c4 c5 fz4 l4;generalize(tab h.n λk=>f (6+24*h.n+h.n+i*h.n+k))=T3 at c3 c4 fz3 l3;generalize tab h.n (flM h f u fl i)=T5 at c5 fz5 l5;unfold Us ZIM ZKH;simp[l3,l4,l5,hr,cs3,cs4,cs5,c3,c4,c5,fz3,fz4,fz5,g2,s2,hal]
theorem ZJu(hf:∀k:Nat,k<=1000->∀G,Az [.fl (ns.map D.int),.int k] G=.ok (.int (f k)) G)(hu:0<u)(g:GoodH h){fl:Nat->Nat->Int}{t:Nat}(ht:t<=6){s2 s7 s8 s9 s10 s11 s12:Option D}{A B:DO}(G:DH):∀(m i:Nat)(x15 x16 x17:Option D),i+m=t->∃y15 y16 y17,
  Bo (gV 14) Us (Cm i m) [vE (.fl (ns.map D.int)),vE h.enc,s2,vE (.fl (Be h.n ((zZ t).map fl))),vE (.int u),vE (.int h.n),vE (.int ((6+24*h.n:Nat):Int)),s7,s8,s9,s10,s11,s12,vE (.ref (G.length+2)),x15,x16,x17] (G++[A,B,.lst (Be h.n ((zZ i).map (flM h f u fl)))])=
   .nx [vE (.fl (ns.map D.int)),vE h.enc,s2,vE (.fl (Be h.n ((zZ t).map fl))),vE (.int u),vE (.int h.n),vE (.int ((6+24*h.n:Nat):Int)),s7,s8,s9,s10,s11,s12,vE (.ref (G.length+2)),y15,y16,y17] (G++[A,B,.lst (Be h.n ((zZ t).map (flM h f u fl)))])
 |0,i,x15,x16,x17,e=>by
  have e1:i=t:=by lia
  subst e1;exact⟨x15,x16,x17,by rw[Js,Ed]⟩
 |m+1,i,x15,x16,x17,e=>by
  obtain⟨z16,z17,hb⟩:=ZOc hf hu g (fl:=fl) (t:=t) (i:=i) (by lia) ht (s2:=s2) (s7:=s7) (s8:=s8) (s9:=s9) (s10:=s10) (s11:=s11) (s12:=s12) (s14:=vF) (x16:=x16) (x17:=x17) (A:=A) (B:=B) (acc:=Be h.n ((zZ i).map (flM h f u fl))) (by simp[Be];lia) G;obtain⟨y15,y16,y17,ih⟩:=ZJu hf hu g (fl:=fl) ht (s2:=s2) (s7:=s7) (s8:=s8) (s9:=s9) (s10:=s10) (s11:=s11) (s12:=s12) (A:=A) (B:=B) G m (i+1) (vE (.int i)) z16 z17 (by lia)
  refine⟨y15,y16,y17,?_⟩;have ea:Be h.n ((zZ i).map (flM h f u fl))++[.tup (tab h.n (flM h f u fl i))]=Be h.n ((zZ (i+1)).map (flM h f u fl)):=by simp[Be,jw]
  rw[ea]at hb;rw[Iu,Dh];simp only[Dq,R.Dl,qJ,hb,Ea];have e1:((i:Int)+1)=((i+1:Nat):Int):=by lia
  rw[e1,ih]
theorem ZTG(h1:bels G.length ds=vG)(h2:bel G.length e=vG):freeze G (.ok (.tup [e,.ref (G.length+2)]) (G++[A,B,.lst ds]))=.ok (.tup [e,.fl ds]) G:=by
 unfold freeze;have m:Fe (G++[A,B,.lst ds]) G.length 9 (.tup [e,.ref (G.length+2)])=vE (.tup [e,.fl ds]):=by
  unfold Fe;have m1:Fe (G++[A,B,.lst ds]) G.length 8 (.ref (G.length+2))=vE (.fl ds):=by unfold Fe;simp[ZAK h1]
  have m2:Fe (G++[A,B,.lst ds]) G.length 8 e=vE e:=by unfold Fe;simp[h2]
  simp[Jx,m1,m2]
 simp[m]
theorem ZOZ(hf:∀k:Nat,k<=1000->∀G,Az [.fl (ns.map D.int),.int k] G=.ok (.int (f k)) G)(hu:0<u)(cu:∀G,Fj [.fl (ns.map D.int)] G=.ok (.int u) G)(g:GoodH h)(hb:∀k b r q,k<h.n->(h.pl k).kd=.basin b r q->lv k<=b){fl:Nat->Nat->Int}{t:Nat}(ht:t<=6)(G:DH):
  freeze G (Py [.fl (ns.map D.int),h.enc,stD h.n lv co,.fl (Be h.n ((zZ t).map fl))] G)=.ok (.tup [stD h.n (lvM h f u lv) (coM h f u co),.fl (Be h.n ((zZ t).map (flM h f u fl)))]) G:=by
 have hn:=g.len;obtain⟨y9,y10,y11,y12,h1⟩:=ZJy hf hu g hb (co:=co) (s3:=vE (.fl (Be h.n ((zZ t).map fl)))) (s14:=vF) (s15:=vF) (s16:=vF) (s17:=vF) G h.n 0 vF vF vF vF (by lia);obtain⟨y15,y16,y17,h2⟩:=ZJu hf hu g (fl:=fl) ht (s2:=vE (stD h.n lv co)) (s7:=vE (.ref G.length)) (s8:=vE (.ref (G.length+1))) (s9:=y9) (s10:=y10) (s11:=y11) (s12:=y12) (A:=.lst (tab h.n (lvM h f u lv))) (B:=.lst (Bp h.n (coM h f u co))) G t 0 vF vF vF (by lia)
 have h1':Bo (gV 9) Te (Cm 0 h.n) [vE (.fl (ns.map D.int)),vE h.enc,vE (stD h.n lv co),vE (.fl (Be h.n ((zZ t).map fl))),vE (.int u),vE (.int h.n),vE (.int ((6+24*h.n:Nat):Int)),vE (.ref G.length),vE (.ref (G.length+1)),vF,vF,vF,vF,vF,vF,vF,vF] (G++[.lst [],.lst []])=_:=h1;have h2':Bo (gV 14) Us (Cm 0 t) [vE (.fl (ns.map D.int)),vE h.enc,vE (stD h.n lv co),vE (.fl (Be h.n ((zZ t).map fl))),vE (.int u),vE (.int h.n),vE (.int ((6+24*h.n:Nat):Int)),vE (.ref G.length),vE (.ref (G.length+1)),y9,y10,y11,y12,vE (.ref (G.length+2)),vF,vF,vF] (G++[.lst (tab h.n (lvM h f u lv)),.lst (Bp h.n (coM h f u co)),.lst []])=_:=h2
 have m24:∀G,Bl (.int 24) (.int (h.n:Int)) G=.ok (.int (24*(h.n:Int))) G:=λG=>Jb (by lia) (by lia)
 have e6:(6+24*(h.n:Int))=((6+24*h.n:Nat):Int):=by lia
 have fu:freeze G (.ok (.int u) G)=.ok (.int u) G:=Ka rfl;have hr:inR (h.n:Int):=Gu (by lia) (by lia);have hrt:inR (t:Int):=Gu (by lia) (by lia);have t1:tidy (G++[.lst []]) (.ok (.ref (G.length+1)) (G++[.lst [],.lst []]))=.ok (.ref (G.length+1)) (G++[.lst [],.lst []]):=ZJW rfl;have t2:∀A B:DO,tidy (G++[A,B]) (.ok (.ref (G.length+2)) (G++[A,B,.lst []]))=.ok (.ref (G.length+2)) (G++[A,B,.lst []]):=λA B=>by have:=Gb (G:=G++[A,B]) (ds:=[]) (L:=[]) rfl;simpa using this
 have lfl:(Be h.n ((zZ t).map fl)).length=t:=by simp[Be]
 have fm:=ZTG (G:=G) (A:=.lst (tab h.n (lvM h f u lv))) (B:=.lst (Bp h.n (coM h f u co))) (ds:=Be h.n ((zZ t).map (flM h f u fl))) (e:=stD h.n (lvM h f u lv) (coM h f u co)) Vu ZAR;have g0:∀b c:DO,(G++[.lst (tab h.n (lvM h f u lv)),b,c])[G.length]?=vE (.lst (tab h.n (lvM h f u lv))):=λb c=>by simp
 have g1:∀a c:DO,(G++[a,.lst (Bp h.n (coM h f u co)),c])[G.length+1]?=vE (.lst (Bp h.n (coM h f u co))):=λa c=>by simp
 have tt:∀(e:D)(G':DH),tidy G (.ok (.tup [e,.ref (G.length+2)]) G')=.ok (.tup [e,.ref (G.length+2)]) G':=λe G'=>ZIW (by simp)
 have cm:Py [.fl (ns.map D.int),h.enc,stD h.n lv co,.fl (Be h.n ((zZ t).map fl))] G=.ok (.tup [stD h.n (lvM h f u lv) (coM h f u co),.ref (G.length+2)]) (G++[.lst (tab h.n (lvM h f u lv)),.lst (Bp h.n (coM h f u co)),.lst (Be h.n ((zZ t).map (flM h f u fl)))]):=by
  generalize((6+24*h.n:Nat):Int)=BB at h1' h2' e6;generalize Be h.n ((zZ t).map (flM h f u fl))=F2 at h2';generalize Be h.n ((zZ t).map fl)=F1 at h1' h2' lfl;generalize stD h.n lv co=E0 at h1' h2';unfold stD;generalize tab h.n (lvM h f u lv)=TL at h1' h2' g0;generalize Bp h.n (coM h f u co)=RL at h1' h2' g1;unfold Py ZGB;rw[Br];simp[cu,fu,Dz,Hs.K3,m24,e6,Av,Gb,t1,hr,h1',t2,lfl,hrt,h2',g0,g1,Bb,tt]
 rw[cm,fm]
end
theorem ZHv{te:DE}{n:Nat}{E1 E2 F:Nat->D}{d:D}(hd:Ci d G=vE ((zZ n).map E1))(he:Ci e G=vE ((zZ n).map E2))(h:∀k,k<n->te [vE (E1 k),vE (E2 k)] G=.ok (F k) G):
  Ds (Gz [d,e]) (Bg 2 (Am (gV 0) (Am (gV 1) Bk))) Cd te (Bm 2 [] S) n 0 G=.ok ((zZ n).map F) G:=by
 have hf:∀j,Gz [d,e] j G=vE ((zZ n).map λi=>D.tup [E1 i,E2 i])[j]? :=λj=>by
  rw[ZDq hd he,O6,List.zip_map',qF]
  rfl
 have hc:Bm 2 [] S=[vF,vF]:=rfl;rw[hc];have key:∀m j,j+m=n->Ds (Gz [d,e]) (Bg 2 (Am (gV 0) (Am (gV 1) Bk))) Cd te [vF,vF] m j G=.ok ((List.range' j m).map F) G:=by
  intro m
  induction m with
  |zero=>
   intro j hj;unfold Ds;rw[hf,zA (by simp;lia)]
   rfl
  |succ m ih=>
   intro j hj;have hlt:j<n:=by lia
   unfold Ds;rw[hf,zx,zL hlt];have hg:(Bg 2 (Am (gV 0) (Am (gV 1) Bk))) (.tup [E1 j,E2 j]) [vF,vF] G=.ok [vE (E1 j),vE (E2 j)] G:=by simp
   simp only[Option.map_some,hg,R.Ji,ZHf,if_true,h j hlt,ih (j+1) (by lia)];rw[List.range'_succ,zk]
 have:=key n 0 (by lia);rw[this,List.range_eq_range']
noncomputable def leN(n:Nat)(a b:Nat->Int):Bool:=(zZ n).all λk=>decide (a k<=b k)
def Oo(w m:Nat)(A:Nat->Nat->Int):List D:=(zZ m).map λi=>D.tup (tab w (A i))
@[simp]theorem ZTM{w:Nat}{A:Nat->Nat->Int}:(Oo w m A).length=m:=by simp[Oo]
noncomputable def leR(w m:Nat)(A B:Nat->Nat->Int):Bool:=(zZ m).all λi=>leN w (A i) (B i)
theorem ZFQ{n:Nat}{p:Nat->Bool}:((zZ n).map λk=>D.bl (p k))=((zZ n).map p).map D.bl:=by rw[qF];rfl
theorem ZGP{ks:List Bool}:bels m (ks.map D.bl)=vG:=Ga λ_ _=>rfl
theorem ZE5{n:Nat}{a b:Nat->Int}(hn:n<=1000)(G:DH):Rr [.tup (tab n a),.tup (tab n b)] G=.ok (.bl (leN n a b)) G:=by
 have hz:=ZAD (G:=G) (Mf (xs:=tab n a)) (Mf (xs:=tab n b));rw[ZPE]at hz;have hc:=ZHv (te:=ZBv) (S:=[vE (.tup (tab n a)),vE (.tup (tab n b))]) (n:=n) (E1:=λi=>.int (a i)) (E2:=λi=>.int (b i)) (F:=λk=>.bl (decide (a k<=b k))) (G:=G) (Mf (xs:=tab n a)) (Mf (xs:=tab n b)) λk _=>by unfold ZBv;simp
 rw[ZFQ]at hc;have ha:((zZ n).map λk=>decide (a k<=b k)).all id=leN n a b:=by rw[List.all_map];rfl
 have hl:((zZ n).map λk=>decide (a k<=b k)).length<=1000000:=by simp;lia
 generalize((zZ n).map λk=>decide (a k<=b k))=ks at hc ha hl;have fz:freeze G (.ok (.ref G.length) (G++[.lst (ks.map D.bl)]))=.ok (.fl (ks.map D.bl)) G:=Fd ZGP;unfold Rr ZIu;rw[Br];simp[hz,hc,hl,fz,ha,By]
theorem ZIv{w m':Nat}{A B:Nat->Nat->Int}(hw:w<=1000)(hm:m<=1000){d:D}(hd:Ci d G=vE (Oo w m A))(he:Ci e G=vE (Oo w m' B))(ld:Cz [d] G=.ok (.int m) G)(le':Cz [e] G=.ok (.int m') G):
  Ox [d,e] G=.ok (.bl (decide (m=m')&&leR w m A B)) G:=by
 by_cases h:m=m'
 ·subst h;have hz:=ZAD (G:=G) hd he;rw[ZTM]at hz;have hc:=ZHv (te:=ZC2) (S:=[vE d,vE e]) (n:=m) (E1:=λi=>.tup (tab w (A i))) (E2:=λi=>.tup (tab w (B i))) (F:=λk=>.bl (leN w (A k) (B k))) (G:=G) hd he λk _=>by unfold ZC2;simp[ZE5 hw]
  rw[ZFQ]at hc;have ha:((zZ m).map λk=>leN w (A k) (B k)).all id=leR w m A B:=by rw[List.all_map];rfl
  have hl:((zZ m).map λk=>leN w (A k) (B k)).length<=1000000:=by simp;lia
  generalize((zZ m).map λk=>leN w (A k) (B k))=ks at hc ha hl;have fz:freeze G (.ok (.ref G.length) (G++[.lst (ks.map D.bl)]))=.ok (.fl (ks.map D.bl)) G:=Fd ZGP;unfold Ox ZBu;rw[Br];simp[ld,le',hz,hc,hl,fz,ha,By]
 ·have h2:¬(m:Int)=(m':Int):=by lia
  unfold Ox ZBu;rw[Br];simp[ld,le',h,h2,By]
theorem ZND{n:Nat}(hn:n<=1000)(G:DH):Wb [stD n lv co,stD n lv' co'] G=.ok (.bl (leN n lv lv'&&leR 5 n co co')) G:=by
 have h1:=ZE5 hn (a:=lv) (b:=lv') G;have h2:=ZIv (w:=5) (m:=n) (m':=n) (A:=co) (B:=co') (by lia) hn (d:=.tup (Bp n co)) (e:=.tup (Bp n co')) (G:=G) rfl rfl (by simp) (by simp);simp at h2;unfold stD Wb ZKd;rw[Br]
 cases e:leN n lv lv'<;>simp[h1,h2,e,By]
theorem ZJd{n:Nat}:Be n fls=Oo n fls.length λi=>fls.getD i λ_=>0:=by
 refine qA (by simp[Be,Oo]) λi h1 h2=>?_
 have hi:i<fls.length:=by simpa[Be]using h1
 simp[Be,Oo,zD,hi]
theorem ZSl{n:Nat}(hn:n<=1000)(hl:fls.length<=1000)(G:DH):Ox [.fl (Be n fls),.fl (Be n fls')] G=.ok (.bl (decide (fls.length=fls'.length)&&leR n fls.length (λi=>fls.getD i λ_=>0) λi=>fls'.getD i λ_=>0)) G:=
 ZIv hn hl (by rw[ZJd];rfl) (by rw[ZJd];rfl) (by simp[Be]) (by simp[Be])
theorem ZO2{n:Nat}:okD 29 (.fl (Be n fls))=vG:=ZEh (n:=28) λd hd=>by
 obtain⟨fl,_,rfl⟩:=zH.mp hd;refine ZJ1 (n:=27) λd hd=>?_
 obtain⟨x,_,rfl⟩:=zH.mp hd
 rfl
theorem ZPw{n:Nat}{l l':List (Nat->Int)}:okD 30 (.fl [.fl (Be n l),.fl (Be n l')])=vG:=ZEh (n:=29) λd hd=>by
 simp at hd
 rcases hd with rfl|rfl<;>exact ZO2
noncomputable def wt:Nat->Str
 |1=>"took"
 |2=>"spilled"
 |3=>"let"
 |4=>"pumped"
 |_=>"lies"
noncomputable def snT(b:Bool):Str:=if b=vG then "least" else "most"
noncomputable def byd(b:Bool)(x m:Int):Bool:=if b=vG then decide (x<m)else decide (m<x)
theorem Qm:(snT b="least")=(b=vG):=by cases b<;>simp[snT]<;>decide
theorem V9:(snT b="most")=(b=vH):=by cases b<;>simp[snT]<;>decide
def Dk(c p:Nat)(b:Bool)(m:Int):D:=.tup [.str (wt c),.int p,.str (snT b),.int m]
@[simp]theorem ZOH{c:Nat}{m:Int}{k:Nat}:bel k (Dk c p b m)=vG:=rfl
theorem ZOb{m:Int}(G:DH):ZAJ [.int x,.str (snT b),.int m] G=.ok (.bl (byd b x m)) G:=by
 unfold ZAJ ZH2;rw[Br]
 cases b<;>simp[Qm,byd,By]
theorem five{P:Nat->Prop}{c:Nat}(h1:1<=c)(h2:c<=5)(a:P 1)(b:P 2)(d:P 3)(e:P 4)(f:P 5):P c:=by rcases(by lia:c=1∨c=2∨c=3∨c=4∨c=5)with rfl|rfl|rfl|rfl|rfl<;>assumption
noncomputable def prt:List (Str×D):=[("lies",.int 5),("spilled",.int 2),("let",.int 3),("pumped",.int 4),("took",.int 1)]
theorem ZSc{c:Nat}(h1:1<=c)(h2:c<=5):Il (Ij [] (prt.map λkv=>(.inr kv.1,kv.2))) (.inr (wt c))=vE (.int c):=five (P:=λc=>Il (Ij [] (prt.map λkv=>(.inr kv.1,kv.2))) (.inr (wt c))=vE (.int c)) h1 h2 rfl rfl rfl rfl rfl
theorem ZKZ{kvs:List (Str×D)}{x:Str}{v:D}(h:Il (Ij [] (kvs.map λkv=>(.inr kv.1,kv.2))) (.inr x)=vE v)(hb:bel G.length v=vG):tidy G ((sRt (dOp Mr (Uk kvs) (dV 0)) [vE (.str x)] G).ret)=.ok v G:=by
 have e:Mr (.ref G.length) (.str x) (G++[.dct (Ij [] (kvs.map λkv=>(.inr kv.1,kv.2)))])=.ok v (G++[.dct (Ij [] (kvs.map λkv=>(.inr kv.1,kv.2)))]):=by rw[ZQk (kvs:=Ij [] (kvs.map λkv=>(.inr kv.1,kv.2))) (by simp) rfl,h]
 simp[e,Qv,hb]
theorem ZSK{c:Nat}(h1:1<=c)(h2:c<=5)(G:DH):ZAY [.str (wt c)] G=.ok (.int c) G:=by unfold ZAY ZE3;rw[Br];exact ZKZ (kvs:=prt) (ZSc h1 h2) rfl
noncomputable def Fx(b:Bool)(m:Int):List Int->Nat->Option (Nat×Int)
 |[],_=>vF
 |x::r,k=>if byd b x m=vG then vE (k,x)else Fx b m r (k+1)
noncomputable def Df(b:Bool)(r:List Int)(x:Int):Int:=if b=vG then r.foldl min x else r.foldl max x
noncomputable def Fp(b:Bool)(m:Int)(xs:List Int):D:=match Fx b m xs 0 with
 |some (i,x)=>.tup [.str "broken",.int i,.int x]
 |none=>match xs with
  |[]=>.tup [.str "kept",.non,.non]
  |x::r=>.tup [.str "kept",.int ((x::r).idxOf (Df b r x):Nat),.int (Df b r x)]
theorem ZA8{f:Int->Int->Int}(hf:∀a b,f a b=a∨f a b=b):∀(r:List Int)(x:Int),r.foldl f x∈x::r
 |[],x=>by simp
 | y::r,x=>by
  have:=ZA8 hf r (f x y);rw[jV];rcases zw.mp this with h|h
  ·rcases hf x y with e|e
   ·rw[h,e];simp
   ·rw[h,e];simp
  ·simp[h]
theorem ZSN{r:List Int}:Df b r x∈x::r:=by
 unfold Df;cases b
 ·exact ZA8 (λa b=>by lia) r x
 ·exact ZA8 (λa b=>by lia) r x
theorem ZJz{b:Bool}{m:Int}{s0 s1 s2 s3 s6 s7 s10:Option D}{G:DH}:∀(xs:List Int)(k:Nat)(x8 x9:Option D),∃y8 y9,
  Bo (Bg 2 (Am (gV 8) (Am (gV 9) Bk))) Mt (enS k (xs.map D.int)) [s0,s1,s2,s3,vE (.str (snT b)),vE (.int m),s6,s7,x8,x9,s10] G=
   match Fx b m xs k with
   |some (i,x)=>.rt (.tup [.str "broken",.int i,.int x]) G
   |none=>.nx [s0,s1,s2,s3,vE (.str (snT b)),vE (.int m),s6,s7,y8,y9,s10] G
 |[],k,x8,x9=>⟨x8,x9,by show Bo _ _ [] _ _=_;rw[Ed];rfl⟩
 | x::r,k,x8,x9=>by
  obtain⟨y8,y9,ih⟩:=ZJz (b:=b) (m:=m) (s0:=s0) (s1:=s1) (s2:=s2) (s3:=s3) (s6:=s6) (s7:=s7) (s10:=s10) (G:=G) r (k+1) (vE (.int k)) (vE (.int x));refine⟨y8,y9,?_⟩;have e1:((k:Int)+1)=((k+1:Nat):Int):=by lia
  show Bo _ _ (.tup [.int k,.int x]::enS ((k:Int)+1) (r.map D.int)) _ _=_;rw[Dh,e1];have hb:Mt [s0,s1,s2,s3,vE (.str (snT b)),vE (.int m),s6,s7,vE (.int k),vE (.int x),s10] G=if byd b x m=vG then .rt (.tup [.str "broken",.int k,.int x]) G else .nx [s0,s1,s2,s3,vE (.str (snT b)),vE (.int m),s6,s7,vE (.int k),vE (.int x),s10] G:=by
   unfold Mt
   cases e:byd b x m<;>simp[ZOb,e,Bb]
  simp only[Q5,Qc,Pk,Dq,R.Ji,R.Dl,qJ,hb,zO,qN,Nat.reduceAdd,if_true];unfold Fx;cases e:byd b x m with
  |true=>simp
  |false=>simp only[jx,if_false,Ea,ih]
noncomputable def Gq(pgs:List (Nat->List Int))(p c:Nat):List Int:=pgs.map λpg=>(pg p).getD c 0
abbrev Row6(h:Hs)(pg:Nat->List Int):Prop:=∀k,k<h.n->(pg k).length=6
theorem run6(g:GoodH h):∀(fls:List (Nat->Int))(s:St2)(a:Int),∀pg∈h.G8 fls s a,Row6 h pg
 |[],s,a,pg,hp=>nomatch hp
 |fl::r,s,a,pg,hp=>by
  rcases zw.mp hp with rfl|hp
  ·exact ZBb g h.n 0 _ (by lia) λi hi hd=>by
    unfold Hs.done at hd
    split at hd<;>lia
  ·exact run6 g r _ _ pg hp
theorem ZGd(po:Row6 h pg){c:Nat}(hp:p<h.n)(h1:1<=c)(h2:c<=5)(G:DH):∃t,atI (Dm h.n pg) (p:Int)=vE (.tup t)/\atI t (c:Int)=vE (.int ((pg p).getD c 0)):=by obtain⟨a,b,d,e,f,g,er⟩:=row6 (po p hp);refine⟨_,ZRc hp er,?_⟩;rw[er];exact five (P:=λc=>atI [D.int a,.int b,.int d,.int e,.int f,.int g] (c:Int)=vE (.int ([a,b,d,e,f,g].getD c 0))) h1 h2 rfl rfl rfl rfl rfl
theorem ZES{m:Int}{k:Nat}:bel k (Fp b m xs)=vG:=by
 unfold Fp;split
 ·rfl
 ·split <;> rfl
theorem ZMT(hl:pgs.length<=1000)(po:∀pg∈pgs,Row6 h pg){c:Nat}(hp:p<h.n)(h1:1<=c)(h2:c<=5){m:Int}(G:DH):
  ZAd [.fl (pgs.map (pgD h.n)),Dk c p b m] G=.ok (Fp b m (Gq pgs p c)) G:=by
 have cp:Dt (gV 0) Cd ZAW [vF,vE (.int p),vE (.int c)] (pgs.map (pgD h.n)) G=.ok ((Gq pgs p c).map D.int) G:=by
  have:=Oq (te:=ZAW) (S:=[vF,vE (.int p),vE (.int c)]) (E:=pgD h.n) (F:=λpg=>.int ((pg p).getD c 0)) (G:=G) (l:=pgs) λpg hpg=>by obtain⟨t,e1,e2⟩:=ZGd (po pg hpg) hp h1 h2 G;unfold ZAW pgD;simp[e1,e2]
  rw[this,Gq,qF]
  rfl
 have hn:(Gq pgs p c).length=pgs.length:=by simp[Gq]
 generalize Gq pgs p c=xs at cp hn;have hx:xs.length<=1000000:=by lia
 obtain⟨y8,y9,hL⟩:=ZJz (b:=b) (m:=m) (s0:=vE (.fl (pgs.map (pgD h.n)))) (s1:=vE (Dk c p b m)) (s2:=vE (.str (wt c))) (s3:=vE (.int p)) (s6:=vE (.int c)) (s7:=vE (.fl (xs.map D.int))) (s10:=vF) (G:=G) xs 0 vF vF
 have hL':Eo (Ew 0 (.fl (xs.map D.int))) (Bg 2 (Am (gV 8) (Am (gV 9) Bk))) Mt xs.length 0 [vE (.fl (pgs.map (pgD h.n))),vE (Dk c p b m),vE (.str (wt c)),vE (.int p),vE (.str (snT b)),vE (.int m),vE (.int c),vE (.fl (xs.map D.int)),vF,vF,vF] G=(match Fx b m xs 0 with
   |some (i,x)=>.rt (.tup [.str "broken",.int i,.int x]) G
   |none=>.nx [vE (.fl (pgs.map (pgD h.n))),vE (Dk c p b m),vE (.str (wt c)),vE (.int p),vE (.str (snT b)),vE (.int m),vE (.int c),vE (.fl (xs.map D.int)),y8,y9,vF] G):=by
  have:=ZIy (g:=Bg 2 (Am (gV 8) (Am (gV 9) Bk))) (b:=Mt) (xs:=xs.map D.int) (a:=0) (S:=[vE (.fl (pgs.map (pgD h.n))),vE (Dk c p b m),vE (.str (wt c)),vE (.int p),vE (.str (snT b)),vE (.int m),vE (.int c),vE (.fl (xs.map D.int)),vF,vF,vF]) (G:=G);rw[qQ]at this;rw[this];exact hL
 have fz:freeze G (.ok (.ref G.length) (G++[.lst (xs.map D.int)]))=.ok (.fl (xs.map D.int)) G:=Fd (Ga λ_ _=>rfl);have cpt:=ZSK h1 h2;have hpl:pgs.length<=1000000:=by lia
 have ea:Dk c p b m=.tup [.str (wt c),.int p,.str (snT b),.int m]:=rfl;have hlP:(pgs.map (pgD h.n)).length<=1000000:=by simp;exact hpl
 have hlX:(xs.map D.int).length=xs.length:=by simp
 have pre:Za [vE (.fl (pgs.map (pgD h.n))),vE (Dk c p b m),vF,vF,vF,vF,vF,vF,vF,vF,vF] G=U7 [vE (.fl (pgs.map (pgD h.n))),vE (Dk c p b m),vE (.str (wt c)),vE (.int p),vE (.str (snT b)),vE (.int m),vE (.int c),vE (.fl (xs.map D.int)),vF,vF,vF] G:=by
  generalize pgs.map (pgD h.n)=PG at cp hlP;have hX6:(xs.map D.int).length<=1000000:=by simp;lia
  generalize xs.map D.int=X at cp fz hX6;unfold Za ZFY ZIe;simp[ea,cpt,Bm,cp,fz,hlP,hX6]
 have lp:U7 [vE (.fl (pgs.map (pgD h.n))),vE (Dk c p b m),vE (.str (wt c)),vE (.int p),vE (.str (snT b)),vE (.int m),vE (.int c),vE (.fl (xs.map D.int)),vF,vF,vF] G=(match Fx b m xs 0 with
   |some (i,x)=>.rt (.tup [.str "broken",.int i,.int x]) G
   |none=>Yr [vE (.fl (pgs.map (pgD h.n))),vE (Dk c p b m),vE (.str (wt c)),vE (.int p),vE (.str (snT b)),vE (.int m),vE (.int c),vE (.fl (xs.map D.int)),y8,y9,vF] G):=by
  unfold U7;generalize pgs.map (pgD h.n)=PG at hL';generalize Dk c p b m=AK at hL';generalize xs.map D.int=X at hL' hlX;simp only[<-hlX]at hL';rw[Uh];have e:(Du (Cy Im (Ab (dV 7) Ad)) (Bg 2 (Am (gV 8) (Am (gV 9) Bk))) Mt) [vE (.fl PG),vE AK,vE (.str (wt c)),vE (.int p),vE (.str (snT b)),vE (.int m),vE (.int c),vE (.fl X),vF,vF,vF] G=_:=(by simp:_=Eo (Ew 0 (.fl X)) (Bg 2 (Am (gV 8) (Am (gV 9) Bk))) Mt X.length 0 [vE (.fl PG),vE AK,vE (.str (wt c)),vE (.int p),vE (.str (snT b)),vE (.int m),vE (.int c),vE (.fl X),vF,vF,vF] G).trans hL'
  rw[e];cases Fx b m xs 0 with
  |some q=>rfl
  |none=>rfl
 have bA:bel G.length (Fp b m xs)=vG:=ZES;have go:U7 [vE (.fl (pgs.map (pgD h.n))),vE (Dk c p b m),vE (.str (wt c)),vE (.int p),vE (.str (snT b)),vE (.int m),vE (.int c),vE (.fl (xs.map D.int)),vF,vF,vF] G=.rt (Fp b m xs) G:=by
  rw[lp];unfold Fp;cases hF:Fx b m xs 0 with
  |some q=>rfl
  | none=>
   generalize pgs.map (pgD h.n)=PG;generalize Dk c p b m=AK;cases xs with
   |nil=>
    unfold Yr;simp[Bb]
   | cons x r=>
    have mm:Df b r x∈x::r:=ZSN;have ix:∀G,Ls (.fl ((x::r).map D.int)) [.int (Df b r x)] G=.ok (.int ((x::r).idxOf (Df b r x):Nat)) G:=λG=>ZGg rfl mm hx
    have mn:∀G,Jz [.fl ((x::r).map D.int)] G=.ok (.int (r.foldl min x)) G:=λG=>ZJc rfl
    have mx:∀G,Jy [.fl ((x::r).map D.int)] G=.ok (.int (r.foldl max x)) G:=λG=>ZIm rfl
    have l0:¬((x::r).map D.int)=[]:=by simp
    dsimp only;have bl:Df b r x=if b=vG then r.foldl min x else r.foldl max x:=rfl
    generalize(((x::r).idxOf (Df b r x):Nat):Int)=I at ix⊢;generalize(x::r).map D.int=X at*;have t5:dIf (Aw (dOp Cv (dV 4) (dC (.str "least")))) (dFn Jz (Ab (dV 7) Ad)) (dFn Jy (Ab (dV 7) Ad)) [vE (.fl PG),vE AK,vE (.str (wt c)),vE (.int p),vE (.str (snT b)),vE (.int m),vE (.int c),vE (.fl X),y8,y9,vF] G=.ok (.int (Df b r x)) G:=by
     rw[bl]
     cases b<;>simp[Qm,mn,mx]
    generalize Df b r x=B at*;unfold Yr ZI1 ZGq;generalize dIf (Aw (dOp Cv (dV 4) (dC (.str "least")))) (dFn Jz (Ab (dV 7) Ad)) (dFn Jy (Ab (dV 7) Ad))=te at t5;simp[l0,t5,ix,Bb]
 unfold ZAd;rw[Br];show tidy G ((Za [vE (.fl (pgs.map (pgD h.n))),vE (Dk c p b m),vF,vF,vF,vF,vF,vF,vF,vF,vF] G).ret)=_;rw[pre,go];exact By bA
theorem ZNW(G:DH):Uv (.str (snT b)) (.tup [.str "least",.str "most"]) G=.ok (.bl vH) G:=by cases b<;>rfl
noncomputable def knd:List (Str×Str):=[("lies","basin"),("spilled","basin"),("let","basin"),("pumped","basin"),("took","town")]
noncomputable def knT(c:Nat):Str:=if c=1 then "town" else "basin"
theorem ZPc{c:Nat}(h1:1<=c)(h2:c<=5):knd.lookup (wt c)=vE (knT c):=five (P:=λc=>knd.lookup (wt c)=vE (knT c)) h1 h2 rfl rfl rfl rfl rfl
theorem ZSU{c:Nat}(hp:p<h.n)(h1:1<=c)(h2:c<=5)(hk:(h.pl p).kd.txt=knT c){m:Int}(G:DH):Zg [h.enc,Dk c p b m] G=.ok .non G:=by
 have e:=ZPc h1 h2;have g1:Pj knd (.str (wt c)) G=.ok (.str (knT c)) G:=ZKu e;have ea:Dk c p b m=.tup [.str (wt c),.int p,.str (snT b),.int m]:=rfl;have eb:ZIp=(Ah (sAs (dV 1) (Bg 4 (Am (gV 2) (Am (gV 3) (Am (gV 4) (Am (gV 5) Bk)))))) (Ah (sIf (dOr (Aw (dOp Uv (dV 4) (dC (.tup [.str "least",.str "most"])))) (Aw (dUn (Uu knd) (dV 2)))) Lp sNx) (Ah (sIf (Jc (Aw (Qx Nu Hn (dC (.int 0)) (dV 3) (dFn Cz (Ab (dOp Aj (dV 0) (dC (.int 1))) Ad))))) Lp sNx) (sIf (Aw (dOp Hh (dOp Aj (dOp Aj (dOp Aj (dV 0) (dC (.int 1))) (dV 3)) (dC (.int 0))) (dUn (Pj knd) (dV 2)))) Lp sNx)))):=rfl
 unfold Zg;rw[Br,eb];generalize knd=M at e g1;simp[ea,ZNW,e,g1,Dz,Hs.K3,hp,Hs.Fo hp,hk,By]
theorem ZNR{n:Nat}(hn:n<=1000)(hl:fls.length<=1000)(u1:(leN n lv lv'&&leR 5 n co co')=vG)
  (u2:(decide (fls.length=fls'.length)&&leR n fls.length (λi=>fls.getD i λ_=>0) λi=>fls'.getD i λ_=>0)=vG) (G:DH):Yc [stD n lv co,stD n lv' co',.fl (Be n fls),.fl (Be n fls')] G=.ok .non G:=by
 have h1:=ZND hn (lv:=lv) (lv':=lv') (co:=co) (co':=co') G;have h2:=ZSl hn (fls:=fls) (fls':=fls') hl G;rw[u1]at h1;rw[u2]at h2;unfold Yc ZEf;rw[Br];simp[h1,h2,By]
theorem ZLp{n c:Nat}{m:Int}(G:DH):
  Yl [stD n lv co,stD n lv' co',.fl (Be n fls),.fl (Be n fls'),Dk c p b m] G=.ok (.tup [stD n (if b=vG then lv else lv') (if b=vG then co else co'),.fl (Be n (if b=vG then fls else fls'))]) G:=by
 have ea:Dk c p b m=.tup [.str (wt c),.int p,.str (snT b),.int m]:=rfl;unfold Yl ZHs;rw[Br]
 cases b<;>simp[ea,Qm,Bb,By]
theorem ZQO(g:GoodH h)(hl:fls.length<=1000)(hll:fls'.length<=1000){c:Nat}(hp:p<h.n)(h1:1<=c)(h2:c<=5)(hk:(h.pl p).kd.txt=knT c){m:Int}
  (u1:(leN h.n lv lv'&&leR 5 h.n co co')=vG) (u2:(decide (fls.length=fls'.length)&&leR h.n fls.length (λi=>fls.getD i λ_=>0) λi=>fls'.getD i λ_=>0)=vG)
  (s1:∀k j,k<h.n->j<5->0<=co k j) (s2:∀k j,k<h.n->j<5->0<=co' k j) (f1:∀fl∈fls,∀k,k<h.n->0<=fl k) (f2:∀fl∈fls',∀k,k<h.n->0<=fl k) (G:DH):
  Rh [h.enc,stD h.n lv co,stD h.n lv' co',.int a,.fl (Be h.n fls),.fl (Be h.n fls'),Dk c p b m] G=
   .ok (Fp b m (Gq (h.G8 (if b=vG then fls else fls') (if b=vG then lv else lv',if b=vG then co else co') a) p c)) G:=by
 have hn:=g.len
 have st:∀k j,k<h.n->j<5->0<=(if b=vG then co else co') k j:=by cases b<;>assumption
 have ff:∀fl∈(if b=vG then fls else fls'),∀k,k<h.n->0<=fl k:=by cases b<;>assumption
 have lf:(if b=vG then fls else fls').length<=1000:=by cases b<;>assumption
 have c1:=ZSU hp h1 h2 hk (b:=b) (m:=m) G;have c2:=ZNR (by lia) hl u1 u2 G;have c3:=ZLp (n:=h.n) (c:=c) (p:=p) (b:=b) (m:=m) (lv:=lv) (lv':=lv') (co:=co) (co':=co') (fls:=fls) (fls':=fls') G;generalize(if b=vG then lv else lv')=L at c3⊢;generalize(if b=vG then co else co')=C at st c3⊢;generalize(if b=vG then fls else fls')=F at ff lf c3⊢;have c4:=ZEZ g (s:=(L,C)) (a:=a) lf st ff G;have po:=run6 g F (L,C) a
 have c5:=ZMT (pgs:=h.G8 F (L,C) a) (by rw[Xx];exact lf) po hp h1 h2 (b:=b) (m:=m) G;have fr:=ZCZ (G:=G) (ds:=(h.G8 F (L,C) a).map (pgD h.n)) (e:=stD h.n (h.Hx F (L,C) a).1 (h.Hx F (L,C) a).2) ZBc ZAR;have bA:∀k,bel k (Fp b m (Gq (h.G8 F (L,C) a) p c))=vG:=λk=>ZES
 generalize Fp b m (Gq (h.G8 F (L,C) a) p c)=R at c5 bA⊢;generalize(h.G8 F (L,C) a).map (pgD h.n)=PG at c4 c5 fr;unfold Rh ZF9;rw[Br];simp[c1,c2,c3,c4,fr,c5,By,bA]
def Pr:Option (Nat×Nat×Bool×Int)->D
 |none=>.non
 |some (c,p,b,m)=>Dk c p b m
theorem ZR5(hf:∀k:Nat,k<=1000->∀G,Az [.fl (ns.map D.int),.int k] G=.ok (.int (f k)) G)(hu:0<u)(cu:∀G,Fj [.fl (ns.map D.int)] G=.ok (.int u) G)(g:GoodH h)(h1:1<=h.n)(k:Nat):
  ∃o:Option (Nat×Nat×Bool×Int),(∀c p b m,o=vE (c,p,b,m)->1<=c/\c<=5/\p<h.n/\(h.pl p).kd.txt=knT c)/\
   ∀(x5 x6 x7 x8 x9:Option D)(G:DH),∃y5 y6 y7 y8 y9,Qf [vE (.fl (ns.map D.int)),vE h.enc,vE (.int h.n),vE (.int ((6+20*h.n:Nat):Int)),vE (.int k),x5,x6,x7,x8,x9] G=
    match o with
    |some _=>.rt (Pr o) G
    |none=>.nx [vE (.fl (ns.map D.int)),vE h.enc,vE (.int h.n),vE (.int ((6+20*h.n:Nat):Int)),vE (.int k),y5,y6,y7,y8,y9] G:=by
 have hn:=g.len;have q0:∀G,Az [.fl (ns.map D.int),.int ((6+20*h.n:Nat):Int)] G=.ok (.int (f (6+20*h.n))) G:=hf _ (by lia);have q1:∀G,Az [.fl (ns.map D.int),.int (((6+20*h.n:Nat):Int)+1)] G=.ok (.int (f (6+20*h.n+1))) G:=λG=>by have:=hf (6+20*h.n+1) (by lia) G;rwa[show((6+20*h.n+1:Nat):Int)=((6+20*h.n:Nat):Int)+1 by lia]at this
 have q2:∀G,Az [.fl (ns.map D.int),.int (((6+20*h.n:Nat):Int)+2)] G=.ok (.int (f (6+20*h.n+2))) G:=λG=>by have:=hf (6+20*h.n+2) (by lia) G;rwa[show((6+20*h.n+2:Nat):Int)=((6+20*h.n:Nat):Int)+2 by lia]at this
 generalize((6+20*h.n:Nat):Int)=B at q0 q1 q2;generalize f (6+20*h.n)=v0 at q0;generalize f (6+20*h.n+1)=v1 at q1;generalize f (6+20*h.n+2)=v2 at q2;have hn0:0<(h.n:Int):=by lia
 have hn0':0<h.n:=by lia
 have e0:=qR (v0+k) (show(h.n:Int)≠0 by lia);have e1:=jZ (v0+k) hn0;obtain⟨p,hp⟩:∃p:Nat,(v0+k)%(h.n:Int)=p:=⟨((v0+k)%(h.n:Int)).toNat,by lia⟩;have hpl:p<h.n:=by lia
 have ap:=Hs.Fo hpl;have eH:∀G,Aj h.enc (.int 1) G=.ok (.tup h.Dp) G:=λG=>Dz
 have fu:∀G,freeze G (.ok (.int u) G)=.ok (.int u) G:=λG=>Ka rfl
 have fz4:∀G:DH,freeze G (.ok (.ref G.length) (G++[.lst [.str "lies",.str "spilled",.str "let",.str "pumped"]]))=.ok (.fl [.str "lies",.str "spilled",.str "let",.str "pumped"]) G:=λG=>Fd rfl
 have fz2:∀G:DH,freeze G (.ok (.ref G.length) (G++[.lst [.str "least",.str "most"]]))=.ok (.fl [.str "least",.str "most"]) G:=λG=>Fd rfl
 obtain⟨c,hc1,hc2,a4⟩:∃c:Nat,2<=c/\c<=5/\atI [D.str "lies",.str "spilled",.str "let",.str "pumped"] (v1%4)=vE (.str (wt c)):=by
  rcases(by lia:v1%4=0∨v1%4=1∨v1%4=2∨v1%4=3)with z|z|z|z<;>rw[z]
  ·exact⟨5,by lia,by lia,rfl⟩
  ·exact⟨2,by lia,by lia,rfl⟩
  ·exact⟨3,by lia,by lia,rfl⟩
  ·exact⟨4,by lia,by lia,rfl⟩
 obtain⟨b,a2⟩:∃b:Bool,atI [D.str "least",.str "most"] (v2%2)=vE (.str (snT b)):=by
  rcases(by lia:v2%2=0∨v2%2=1)with z|z<;>rw[z]
  ·exact⟨vG,rfl⟩
  ·exact⟨vH,rfl⟩
 have pre:∀(x5 x6 x7 x8 x9:Option D)(G:DH),Qf [vE (.fl (ns.map D.int)),vE h.enc,vE (.int h.n),vE (.int B),vE (.int k),x5,x6,x7,x8,x9] G=Pa [vE (.fl (ns.map D.int)),vE h.enc,vE (.int h.n),vE (.int B),vE (.int k),vE (.int p),vE (.str (h.pl p).kd.txt),vE (.str "took"),x8,x9] G:=λx5 x6 x7 x8 x9 G=>by generalize h.enc=HE at*;unfold Qf ZJr ZFS;simp[q0,hn0,hn0',hp,eH,ap]
 have fin:∀(w s:Str)(x8 x9:Option D)(G:DH),¬s="mill"->Sq [vE (.fl (ns.map D.int)),vE h.enc,vE (.int h.n),vE (.int B),vE (.int k),vE (.int p),vE (.str s),vE (.str w),x8,x9] G=.rt (.tup [.str w,.int p,.str (snT b),.int (amt (v2/4) u-v2/2%2)]) G:=λw s x8 x9 G hs=>by generalize h.enc=HE at*;unfold Sq;simp[hs,q2,Av,fz2,a2,cu,fu,M5 hu,Bb]
 cases ek:(h.pl p).kd with
 | basin b' r q=>
  have et:(h.pl p).kd.txt="basin":=by rw[ek];rfl
  refine⟨vE (c,p,b,amt (v2/4) u-v2/2%2),?_,λx5 x6 x7 x8 x9 G=>⟨x5,x6,x7,x8,x9,?_⟩⟩
  ·intro c' p' b' m' e;cases e;exact⟨by lia,by lia,hpl,by rw[et];unfold knT;rw[if_neg (by lia)]⟩
  ·rw[pre,et];have m3:Pa [vE (.fl (ns.map D.int)),vE h.enc,vE (.int h.n),vE (.int B),vE (.int k),vE (.int p),vE (.str "basin"),vE (.str "took"),x8,x9] G=Sq [vE (.fl (ns.map D.int)),vE h.enc,vE (.int h.n),vE (.int B),vE (.int k),vE (.int p),vE (.str "basin"),vE (.str (wt c)),x8,x9] G:=by generalize h.enc=HE at*;unfold Pa;simp[q1,Av,fz4,a4]
   rw[m3,fin _ _ _ _ _ (by decide)]
   rfl
 | town a' b'=>
  have et:(h.pl p).kd.txt="town":=by rw[ek];rfl
  have n2:¬("town":Str)="basin":=by decide
  refine⟨vE (1,p,b,amt (v2/4) u-v2/2%2),?_,λx5 x6 x7 x8 x9 G=>⟨x5,x6,x7,x8,x9,?_⟩⟩
  ·intro c' p' b' m' e;cases e;exact⟨by lia,by lia,hpl,by rw[et];rfl⟩
  ·rw[pre,et];unfold Pa;generalize h.enc=HE at*;simp[n2,fin _ "town" _ _ _ (by decide)]
   rfl
 |mill a'=>
  have et:(h.pl p).kd.txt="mill":=by rw[ek];rfl
  have n2:¬("mill":Str)="basin":=by decide
  refine⟨vF,(λc' p' b' m' e=>nomatch e),λx5 x6 x7 x8 x9 G=>⟨vE (.int p),vE (.str "mill"),vE (.str "took"),x8,x9,?_⟩⟩
  rw[pre,et];unfold Pa Sq;simp[n2]
theorem ZKa(hf:∀k:Nat,k<=1000->∀G,Az [.fl (ns.map D.int),.int k] G=.ok (.int (f k)) G)(hu:0<u)(cu:∀G,Fj [.fl (ns.map D.int)] G=.ok (.int u) G)(g:GoodH h)(h1:1<=h.n):∀(m k:Nat),
  ∃o:Option (Nat×Nat×Bool×Int),(∀c p b m,o=vE (c,p,b,m)->1<=c/\c<=5/\p<h.n/\(h.pl p).kd.txt=knT c)/\
   ∀(x4 x5 x6 x7 x8 x9:Option D)(G:DH),∃y4 y5 y6 y7 y8 y9,Bo (gV 4) Qf (Cm k m) [vE (.fl (ns.map D.int)),vE h.enc,vE (.int h.n),vE (.int ((6+20*h.n:Nat):Int)),x4,x5,x6,x7,x8,x9] G=
    match o with
    |some _=>.rt (Pr o) G
    |none=>.nx [vE (.fl (ns.map D.int)),vE h.enc,vE (.int h.n),vE (.int ((6+20*h.n:Nat):Int)),y4,y5,y6,y7,y8,y9] G
 |0,k=>⟨vF,(λ_ _ _ _ e=>nomatch e),λx4 x5 x6 x7 x8 x9 G=>⟨x4,x5,x6,x7,x8,x9,by rw[Js,Ed]⟩⟩
 | m+1,k=>by
  obtain⟨o,ho,hb⟩:=ZR5 hf hu cu g h1 k;cases o with
  |some q=>
   refine⟨vE q,ho,λx4 x5 x6 x7 x8 x9 G=>?_⟩;obtain⟨y5,y6,y7,y8,y9,e⟩:=hb x5 x6 x7 x8 x9 G;refine⟨x4,x5,x6,x7,x8,x9,?_⟩;rw[Iu,Dh];simp only[Dq,R.Dl,qJ,e]
   rfl
  |none=>
   obtain⟨o,ho,hi⟩:=ZKa hf hu cu g h1 m (k+1);refine⟨o,ho,λx4 x5 x6 x7 x8 x9 G=>?_⟩;obtain⟨y5,y6,y7,y8,y9,e⟩:=hb x5 x6 x7 x8 x9 G;obtain⟨z4,z5,z6,z7,z8,z9,e2⟩:=hi (vE (.int k)) y5 y6 y7 y8 y9 G;refine⟨z4,z5,z6,z7,z8,z9,?_⟩;have e1:((k:Int)+1)=((k+1:Nat):Int):=by lia
   rw[Iu,Dh];simp only[Dq,R.Dl,qJ,e,Ea,e1,e2]
theorem ZP6(hf:∀k:Nat,k<=1000->∀G,Az [.fl (ns.map D.int),.int k] G=.ok (.int (f k)) G)(hu:0<u)(cu:∀G,Fj [.fl (ns.map D.int)] G=.ok (.int u) G)(g:GoodH h)(h1:1<=h.n):
  ∃o:Option (Nat×Nat×Bool×Int),(∀c p b m,o=vE (c,p,b,m)->1<=c/\c<=5/\p<h.n/\(h.pl p).kd.txt=knT c)/\∀G,Tn [.fl (ns.map D.int),h.enc] G=.ok (Pr o) G:=by
 obtain⟨o,ho,hL⟩:=ZKa hf hu cu g h1 h.n 0;refine⟨o,ho,λG=>?_⟩;have hn:=g.len;have hr:inR (h.n:Int):=Gu (by lia) (by lia);obtain⟨y4,y5,y6,y7,y8,y9,e⟩:=hL vF vF vF vF vF vF G;have m20:∀G,Bl (.int 20) (.int (h.n:Int)) G=.ok (.int (20*(h.n:Int))) G:=λG=>Jb (by lia) (by lia)
 have e6:(6+20*(h.n:Int))=((6+20*h.n:Nat):Int):=by lia
 have e':Bo (gV 4) Qf (Cm 0 h.n) _ G=_:=e;generalize((6+20*h.n:Nat):Int)=B at e' e6;unfold Tn ZI8;rw[Br];cases o with
 |some q=>
  obtain⟨c,p,b,m⟩:=q;have tq:tidy G (.ok (Dk c p b m) G)=.ok (Dk c p b m) G:=By ZOH;simp[Dz,Hs.K3,m20,e6,hr,e',tq,Pr]
 |none=>simp[Dz,Hs.K3,m20,e6,hr,e',By,Pr]
noncomputable def Nm(b:Bool)(k:Nat)(x:Int):Option (Nat×Int)->Option (Nat×Int)
 |none=>vE (k,x)
 |some (i,v)=>if byd b x v=vG then vE (k,x)else vE (i,v)
noncomputable def M7(b:Bool)(x:Int):Option (Nat×Int)->Bool
 |none=>vG
 |some (_,v)=>byd b x v
noncomputable def Jt(b:Bool)(m:Int):List Int->Nat->Option (Nat×Int)->D
 |[],_,vF=>.tup [.str "kept",.non,.non]
 |[],_,vE (i,v)=>.tup [.str "kept",.int i,.int v]
 |x::r,k,o=>if byd b x m=vG then .tup [.str "broken",.int k,.int x]else Jt b m r (k+1) (Nm b k x o)
theorem ZIt{m:Int}:∀(xs:List Int)(k:Nat)(o:Option (Nat×Int))(i:Nat)(x:Int),Fx b m xs k=vE (i,x)->Jt b m xs k o=.tup [.str "broken",.int i,.int x]
 |[],k,o,i,x,h=>by cases h
 | y::r,k,o,i,x,h=>by
  unfold Fx at h;unfold Jt;cases e:byd b y m with
  |true=>
   rw[e,if_pos rfl]at h;cases h;rw[if_pos rfl]
  |false=>
   rw[e,if_neg (by simp)]at h;rw[if_neg (by simp)];exact ZIt r (k+1) _ i x h
theorem ZGI{r:List Int}{y:Int}:Df b (y::r) x=Df b r (if byd b y x=vG then y else x):=by
 unfold Df byd;cases b
 ·simp only[jx,if_false,jV]
  congr 1
  by_cases h:x<y
  ·rw[if_pos (decide_eq_true h)];lia
  ·rw[if_neg (by simpa using h)];lia
 ·simp only[if_true,jV]
  congr 1
  by_cases h:y<x
  ·rw[if_pos (decide_eq_true h)];lia
  ·rw[if_neg (by simpa using h)];lia
theorem Vg{b:Bool}:∀(r:List Int)(x:Int),Df b r x=x∨byd b (Df b r x) x=vG
 |[],x=>.inl (by unfold Df;cases b<;>rfl)
 | y::r,x=>by
  rw[ZGI];cases e:byd b y x with
  |false=>
   rw[if_neg (by simp)];exact Vg r x
  | true=>
   rw[if_pos rfl];rcases Vg (b:=b) r y with h|h
   ·rw[h];exact .inr e
   ·refine .inr ?_;unfold byd at e h⊢
    cases b<;>simp at e h⊢<;> lia
theorem ZCx{b:Bool}{m:Int}:∀(xs:List Int)(k i:Nat)(v:Int),Fx b m xs k=vF->Jt b m xs k (vE (i,v))=.tup [.str "kept",.int ((if Df b xs v=v then i else k+xs.idxOf (Df b xs v):Nat):Int),.int (Df b xs v)]
 |[],k,i,v,h=>by
  have e:Df b [] v=v:=by unfold Df;cases b<;>rfl
  unfold Jt;rw[e,if_pos rfl]
 | x::r,k,i,v,h=>by
  unfold Fx at h;unfold Jt;cases e:byd b x m with
  |true=>rw[e,if_pos rfl]at h;cases h
  | false=>
   rw[e,if_neg (by simp)]at h;rw[if_neg (by simp),ZGI];unfold Nm;dsimp only;cases e2:byd b x v with
   | true=>
    simp only[if_true];rw[ZCx r (k+1) k x h];have ne:¬Df b r x=v:=by
     rcases Vg (b:=b) r x with q|q
     ·rw[q];intro z;rw[z]at e2;unfold byd at e2;cases b<;>simp at e2
     ·intro z;rw[z]at q;unfold byd at q e2;cases b<;>simp at q e2<;>lia
    rw[if_neg ne,jA];by_cases q:Df b r x=x
    ·rw[if_pos q,q];simp
    ·have q':(x==Df b r x)=vH:=by simpa using λz:x=Df b r x=>q z.symm
     rw[if_neg q,q'];simp only[cond_false];rw[show k+1+jT (Df b r x) r=k+(jT (Df b r x) r+1) by lia]
   | false=>
    simp only[jx,if_false];rw[ZCx r (k+1) i v h];by_cases q:Df b r v=v
    ·rw[if_pos q,if_pos q]
    ·have q':(x==Df b r v)=vH:=by
      rcases Vg (b:=b) r v with z|z
      ·exact absurd z q
      ·simp only[beq_eq_false_iff_ne];intro w;rw[<-w]at z;rw[z]at e2;cases e2
     rw[if_neg q,if_neg q,jA,q'];simp only[cond_false];rw[show k+1+jT (Df b r v) r=k+(jT (Df b r v) r+1) by lia]
theorem ZSQ{m:Int}:Jt b m xs 0 vF=Fp b m xs:=by
 unfold Fp;cases h:Fx b m xs 0 with
 |some q=>
  obtain⟨i,x⟩:=q;exact ZIt xs 0 vF i x h
 | none=>
  cases xs with
  |nil=>rfl
  | cons x r=>
   dsimp only;unfold Fx at h;unfold Jt;cases e:byd b x m with
   |true=>rw[e,if_pos rfl]at h;cases h
   | false=>
    rw[e,if_neg (by simp)]at h;rw[if_neg (by simp)];unfold Nm;dsimp only;rw[ZCx r 1 0 x h,jA];by_cases q:Df b r x=x
    ·rw[if_pos q,q];simp
    ·have q':(x==Df b r x)=vH:=by simpa using λz:x=Df b r x=>q z.symm
     rw[if_neg q,q'];simp only[cond_false];rw[show 1+jT (Df b r x) r=jT (Df b r x) r+1 by lia]
noncomputable def Ii:Option (Nat×Int)->D
 |none=>.tup [.str "kept",.non,.non]
 |some (i,v)=>.tup [.str "kept",.int i,.int v]
theorem ZJY{xs:List Int}{b:Bool}{m:Int}{G:DH}{A:D}(q2:∀G,Aj A (.int 2) G=.ok (.str (snT b)) G)(q3:∀G,Aj A (.int 3) G=.ok (.int m) G):∀(j k:Nat)(o:Option (Nat×Int))(x3 x4:Option D),k+j=xs.length->∃y3 y4 o',Bo (gV 3) Ri (Cm k j) [vE (.fl (xs.map D.int)),vE A,vE (Ii o),x3,x4] G=
   (match Fx b m (xs.drop k) k with
    |some (i,x)=>.rt (.tup [.str "broken",.int i,.int x]) G
    |none=>.nx [vE (.fl (xs.map D.int)),vE A,vE (Ii o'),y3,y4] G)/\(Fx b m (xs.drop k) k=vF->Jt b m (xs.drop k) k o=Ii o')
 |0,k,o,x3,x4,e=>⟨x3,x4,o,by
  rw[List.drop_eq_nil_of_le (by lia)];refine⟨by rw[Js,Ed];rfl,λ_=>?_⟩
  cases o<;>rfl⟩
 | j+1,k,o,x3,x4,e=>by
  have hk:k<xs.length:=by lia
  rw[zM hk];generalize hx:xs[k]=x;have ax:atI (xs.map D.int) (k:Int)=vE (.int x):=Fb rfl (by rw[zx,zJ hk,hx];rfl);have s1:Ri [vE (.fl (xs.map D.int)),vE A,vE (Ii o),vE (.int k),x4] G=if byd b x m=vG then .rt (.tup [.str "broken",.int k,.int x]) G else X3 [vE (.fl (xs.map D.int)),vE A,vE (Ii o),vE (.int k),x4] G:=by
   generalize xs.map D.int=X at ax;unfold Ri byd;cases b with
   |true=>by_cases hm:x<m<;>simp[q2,q3,Qm,V9,ax,Bb,hm]
   |false=>by_cases hm:m<x<;>simp[q2,q3,Qm,V9,ax,Bb,hm]
  have s2:X3 [vE (.fl (xs.map D.int)),vE A,vE (Ii o),vE (.int k),x4] G=Vt [vE (.fl (xs.map D.int)),vE A,vE (Ii o),vE (.int k),vE (.bl (M7 b x o))] G:=by
   generalize xs.map D.int=X at ax;unfold X3 ZI4;cases o with
   |none=>simp[Ii,M7]
   |some q=>
    obtain⟨i,v⟩:=q
    cases b<;>simp[Ii,M7,byd,q2,Qm,ax]
  have s3:Vt [vE (.fl (xs.map D.int)),vE A,vE (Ii o),vE (.int k),vE (.bl (M7 b x o))] G=.nx [vE (.fl (xs.map D.int)),vE A,vE (Ii (Nm b k x o)),vE (.int k),vE (.bl (M7 b x o))] G:=by
   generalize xs.map D.int=X at ax;unfold Vt;cases o with
   |none=>simp[Ii,M7,Nm,ax,Bb]
   |some q=>
    obtain⟨i,v⟩:=q
    cases e:byd b x v<;>simp[Ii,M7,Nm,ax,Bb,e]
  rw[s2,s3]at s1;cases eb:byd b x m with
  |true=>
   refine⟨x3,x4,o,?_,λz=>by unfold Fx at z;rw[eb,if_pos rfl]at z;cases z⟩;rw[eb,if_pos rfl]at s1;rw[Iu,Dh];simp only[Dq,R.Dl,qJ,s1];unfold Fx;rw[eb,if_pos rfl]
   rfl
  | false=>
   rw[eb,if_neg (by simp)]at s1;obtain⟨y3,y4,o',ih,ih2⟩:=ZJY (xs:=xs) (b:=b) (m:=m) (G:=G) (A:=A) q2 q3 j (k+1) (Nm b k x o) (vE (.int k)) (vE (.bl (M7 b x o))) (by lia);refine⟨y3,y4,o',?_,?_⟩
   ·rw[Iu,Dh];have e1:((k:Int)+1)=((k+1:Nat):Int):=by lia
    simp only[Dq,R.Dl,qJ,s1,Ea,e1,ih]
    conv=>rhs;unfold Fx
    rw[eb,if_neg (by simp)]
   ·intro z;unfold Fx at z;rw[eb,if_neg (by simp)]at z;unfold Jt;rw[eb,if_neg (by simp)];exact ih2 z
theorem ZHP{m:Int}:∃s x y,Fp b m xs=.tup [.str s,x,y]/\(x=.non/\y=.non∨∃i j,x=.int i/\y=.int j):=by
 unfold Fp;split
 ·exact⟨_,_,_,rfl,.inr ⟨_,_,rfl,rfl⟩⟩
 ·split
  ·exact⟨_,_,_,rfl,.inl ⟨rfl,rfl⟩⟩
  ·exact⟨_,_,_,rfl,.inr ⟨_,_,rfl,rfl⟩⟩
theorem ZOM(hx:xs.length<=1000){c:Nat}{m:Int}(G:DH):Z2 [.fl (xs.map D.int),Dk c p b m] G=.ok (Fp b m xs) G:=by
 obtain⟨y3,y4,o',hL,h2⟩:=ZJY (xs:=xs) (b:=b) (m:=m) (G:=G) (A:=Dk c p b m) (λ_=>rfl) (λ_=>rfl) xs.length 0 vF vF vF (by lia);rw[jE]at hL h2;have e:=ZSQ (b:=b) (m:=m) (xs:=xs);have hr:inR (xs.length:Int):=Gu (by lia) (by lia);have hL':Bo (gV 3) Ri (Cm 0 xs.length) [vE (.fl (xs.map D.int)),vE (Dk c p b m),vE (.tup [.str "kept",.non,.non]),vF,vF] G=_:=hL;have bA:bel G.length (Fp b m xs)=vG:=ZES
 unfold Z2 ZGz;rw[Br];cases hF:Fx b m xs 0 with
 |some q=>
  obtain⟨i,x⟩:=q;rw[hF]at hL';have ea:Fp b m xs=.tup [.str "broken",.int i,.int x]:=by unfold Fp;rw[hF]
  simp[Bb,hr,hL',By,ea]
 |none=>
  rw[hF]at hL';have ea:Ii o'=Fp b m xs:=((h2 hF).symm.trans e);simp only[ea]at hL';simp[Bb,hr,hL',By,bA]
theorem ZNa{s:Str}{x y:D}(h:x=.non/\y=.non∨∃i j,x=.int i/\y=.int j)(G:DH):S7 [.tup [.str s,x,y]] G=.ok (.bl vG) G:=by
 have fz:∀x y:D,bel G.length x=vG->bel G.length y=vG->freeze G (.ok (.tup [x,y]) G)=.ok (.tup [x,y]) G:=λx y h1 h2=>Ka (by simp[h1,h2])
 have b1:∀(s1:Option D)(i:Int),U3 [s1,vE (.int i)] G=.nx [s1,vE (.int i)] G:=λs1 i=>by unfold U3;simp[tyD]
 have b2:∀(s1:Option D),U3 [s1,vE .non] G=.nx [s1,vE .non] G:=λs1=>by unfold U3;simp[tyD]
 have ct:∀x y:D,cutD [D.str s,x,y] (vE 1) vF=[x,y]:=λx y=>rfl
 unfold S7 ZEk;rw[Br];rcases h with⟨rfl,rfl⟩|⟨i,j,rfl,rfl⟩
 ·simp[tyD,ct,fz,Dh,Ed,b2,By]
 ·simp[tyD,ct,fz,Dh,Ed,b1,By]
theorem ZK6(hb:∀k b r q,k<h.n->(h.pl k).kd=.basin b r q->lv k<=b){k:Nat}(hk:k<h.n):lv k<=lvM h f u lv k:=by
 unfold lvM;cases e:(h.pl k).kd with
 |basin b r q=>
  have h1:=hb k b r q hk e;have h2:0<=amt (mcell h f k/2) u%(b-lv k+1):=qR _ (by lia);have h3:=ZDm (c:=mcell h f k) h2;show lv k<=lv k+_;lia
 |town _ _=>exact qq _
 |mill _=>exact qq _
theorem ZIr(hu:0<u)(k j:Nat):co k j<=coM h f u co k j:=by unfold coM;have h3:=ZDm (x:=u) (c:=mcell h f k/2) (by lia);lia
theorem ZF7(hu:0<u){fl:Nat->Nat->Int}(i k:Nat):fl i k<=flM h f u fl i k:=by unfold flM;have h3:=ZDm (x:=amt (f (6+24*h.n+h.n+i*h.n+k)/2) u) (c:=f (6+24*h.n+h.n+i*h.n+k)) (V1 hu);lia
theorem ZHN{n:Nat}{a b:Nat->Int}(h:∀k,k<n->a k<=b k):leN n a b=vG:=qK.mpr λk hk=>decide_eq_true (h k (qW.mp hk))
theorem ZFr{w:Nat}{A B:Nat->Nat->Int}(h:∀i,i<m->∀k,k<w->A i k<=B i k):leR w m A B=vG:=qK.mpr λi hi=>ZHN (h i (qW.mp hi))
theorem ZH5{t:Nat}{F:Nat->Nat->Int}(hi:i<t):((zZ t).map F).getD i (λ_=>0)=F i:=by simp[zD,hi]
noncomputable def clm:List (Str×D):=[("took",.int 1),("spilled",.int 2),("let",.int 3),("pumped",.int 4),("lies",.int 5)]
theorem ZQN{c:Nat}(h1:1<=c)(h2:c<=5):Il (Ij [] (clm.map λkv=>(.inr kv.1,kv.2))) (.inr (wt c))=vE (.int c):=five (P:=λc=>Il (Ij [] (clm.map λkv=>(.inr kv.1,kv.2))) (.inr (wt c))=vE (.int c)) h1 h2 rfl rfl rfl rfl rfl
theorem ZQu{c:Nat}(h1:1<=c)(h2:c<=5)(G:DH):Z0 [.str (wt c)] G=.ok (.int c) G:=by unfold Z0 ZG4;rw[Br];exact ZKZ (kvs:=clm) (ZQN h1 h2) rfl
theorem ZFA(po:∀pg∈pgs,Row6 h pg){c:Nat}(hp:p<h.n)(h1:1<=c)(h2:c<=5){m:Int}(G:DH):
  Dt (gV 0) Cd S8 [vF,vE (Dk c p b m)] (pgs.map (pgD h.n)) G=.ok ((Gq pgs p c).map D.int) G:=by
 have:=Oq (te:=S8) (S:=[vF,vE (Dk c p b m)]) (E:=pgD h.n) (F:=λpg=>.int ((pg p).getD c 0)) (G:=G) (l:=pgs) λpg hpg=>by obtain⟨t,e1,e2⟩:=ZGd (po pg hpg) hp h1 h2 G;unfold S8 pgD Dk;simp[e1,e2,ZQu h1 h2]
 rw[this,Gq,qF]
 rfl
section
variable{S E T1 T2 K A:D}{F1 F2 P1 P2:List D}{a:Int}{b:Bool}{G:DH}
theorem ZPz{ra rb:D}(z1:freeze G (.ok (.ref G.length) (G++[.lst F1]))=.ok (.fl F1) G)(z2:freeze G (.ok (.ref G.length) (G++[.lst F2]))=.ok (.fl F2) G)(zp:freeze G (.ok (.ref G.length) (G++[.lst [.fl F1,.fl F2]]))=.ok (.fl [.fl F1,.fl F2]) G)
  (qi:Kz K=vH) (lk:Rh [E,T1,T2,.int a,.fl F1,.fl F2,K] G=.ok A G) (np:∀G,Hh (.fl [.fl F1,.fl F2]) (.fl [.fl F1,.fl F2]) G=.ok (.bl vH) G) (told:S7 [A] G=.ok (.bl vG) G)
  (cr:freeze G (Mp [E,T1,.int a,.fl F1] G)=.ok (.tup [.fl P1,ra]) G) (cr':b=vH->freeze G (Mp [E,T2,.int a,.fl F2] G)=.ok (.tup [.fl P2,rb]) G) (q2:∀G,Aj K (.int 2) G=.ok (.str (snT b)) G)
  (k1:b=vG->V3 [vE S,vE E,vE (.int a),vE T1,vE (.fl F1),vE T2,vE (.fl F2),vE K,vE (.fl [.fl F1,.fl F2]),vE A,vE (.fl P1),vF] G=.rt (.bl vG) G) (k2:b=vH->V3 [vE S,vE E,vE (.int a),vE T1,vE (.fl F1),vE T2,vE (.fl F2),vE K,vE (.fl [.fl F1,.fl F2]),vE A,vE (.fl P2),vF] G=.rt (.bl vG) G):
  Lz [vE S,vE E,vE (.int a),vE T1,vE (.fl F1),vE T2,vE (.fl F2),vE K,vF,vF,vF,vF] G=.rt (.bl vG) G:=by
 have s6:Lz [vE S,vE E,vE (.int a),vE T1,vE (.fl F1),vE T2,vE (.fl F2),vE K,vF,vF,vF,vF] G=Zc [vE S,vE E,vE (.int a),vE T1,vE (.fl F1),vE T2,vE (.fl F2),vE K,vE (.fl [.fl F1,.fl F2]),vF,vF,vF] G:=by unfold Lz ZFv;simp[qi,Av,z1,z2,zp]
 have s8:Zc [vE S,vE E,vE (.int a),vE T1,vE (.fl F1),vE T2,vE (.fl F2),vE K,vE (.fl [.fl F1,.fl F2]),vF,vF,vF] G=Zq [vE S,vE E,vE (.int a),vE T1,vE (.fl F1),vE T2,vE (.fl F2),vE K,vE (.fl [.fl F1,.fl F2]),vE A,vF,vF] G:=by unfold Zc ZIS;simp[Av,lk,zp,np,told]
 have s10:Zq [vE S,vE E,vE (.int a),vE T1,vE (.fl F1),vE T2,vE (.fl F2),vE K,vE (.fl [.fl F1,.fl F2]),vE A,vF,vF] G=ZBE [vE S,vE E,vE (.int a),vE T1,vE (.fl F1),vE T2,vE (.fl F2),vE K,vE (.fl [.fl F1,.fl F2]),vE A,vE (.fl P1),vF] G:=by unfold Zq;simp[cr]
 rw[s6,s8,s10];unfold ZBE;cases b with
 |true=>simp[q2,V9,k1]
 |false=>simp[cr',q2,V9,k2]
theorem ZLN{t:Nat}(hf:∀k:Nat,k<=1000->∀G,Az [.fl (ns.map D.int),.int k] G=.ok (.int (f k)) G)(ch:∀G,Ub [.fl (ns.map D.int)] G=.ok E G)(ca:∀G,Qw [.fl (ns.map D.int)] G=.ok (.int a) G)
  (cs:∀G,Tg [.fl (ns.map D.int),E] G=.ok T1 G) (et:(t:Int)=f 2%7) (cf:V4 [.fl (ns.map D.int),E,.int t] G=.ok (.ref G.length) (G++[.lst F1])) (z1:freeze G (.ok (.ref G.length) (G++[.lst F1]))=.ok (.fl F1) G)
  (cm:freeze G (Py [.fl (ns.map D.int),E,T1,.fl F1] G)=.ok (.tup [T2,.fl F2]) G) (cq:Tn [.fl (ns.map D.int),E] G=.ok A G) (fq:freeze G (.ok A G)=.ok A G):
  Vr [vE (.fl (ns.map D.int)),vF,vF,vF,vF,vF,vF,vF,vF,vF,vF,vF] G=Lz [vE (.fl (ns.map D.int)),vE E,vE (.int a),vE T1,vE (.fl F1),vE T2,vE (.fl F2),vE A,vF,vF,vF,vF] G:=by
 have f2:∀G,Az [.fl (ns.map D.int),.int 2] G=.ok (.int (f 2)) G:=hf 2 (by lia);unfold Vr ZFg ZJS ZHK ZGm ZG5;simp[ch,ca,cs,f2,<-et,cf,z1,cm,cq,fq]
end
theorem ZQG(g:GoodH h)(hl:fls.length<=6)(hl':fls'.length<=6){c:Nat}{m:Int}(h1:1<=c)(h2:c<=5)(hp:p<h.n)(hk:(h.pl p).kd.txt=knT c)
  (u1:(leN h.n lv lv'&&leR 5 h.n co co')=vG) (u2:(decide (fls.length=fls'.length)&&leR h.n fls.length (λi=>fls.getD i λ_=>0) λi=>fls'.getD i λ_=>0)=vG) (so:∀k j,k<h.n->j<5->0<=co k j) (so':∀k j,k<h.n->j<5->0<=co' k j)
  (hfn:∀fl∈fls,∀k,k<h.n->0<=fl k) (hfn':∀fl∈fls',∀k,k<h.n->0<=fl k) (G:DH):Lz [vE (.fl (ns.map D.int)),vE h.enc,vE (.int a),vE (stD h.n lv co),vE (.fl (Be h.n fls)),vE (stD h.n lv' co'),vE (.fl (Be h.n fls')),vE (Dk c p b m),vF,vF,vF,vF] G=.rt (.bl vG) G:=by
 have lk:=ZQO g (a:=a) (by lia) (by lia) hp h1 h2 hk (b:=b) (m:=m) u1 u2 so so' hfn hfn' G;have cr:=ZEZ g (s:=(lv,co)) (a:=a) (fls:=fls) (by lia) so hfn G;have cr':=ZEZ g (s:=(lv',co')) (a:=a) (fls:=fls') (by lia) so' hfn' G;have fr:=ZCZ (G:=G) (ds:=(h.G8 fls (lv,co) a).map (pgD h.n)) (e:=stD h.n (h.Hx fls (lv,co) a).1 (h.Hx fls (lv,co) a).2) ZBc ZAR;have fr':=ZCZ (G:=G) (ds:=(h.G8 fls' (lv',co') a).map (pgD h.n)) (e:=stD h.n (h.Hx fls' (lv',co') a).1 (h.Hx fls' (lv',co') a).2) ZBc ZAR
 rw[<-cr]at fr;rw[<-cr']at fr';have key:∀(PS:List (Nat->List Int))(s0 s1 s2 s3 s4 s5 s6 s8:Option D),PS.length<=1000->Dt (gV 0) Cd S8 [vF,vE (Dk c p b m)] (PS.map (pgD h.n)) G=.ok ((Gq PS p c).map D.int) G->
   V3 [s0,s1,s2,s3,s4,s5,s6,vE (Dk c p b m),s8,vE (Fp b m (Gq PS p c)),vE (.fl (PS.map (pgD h.n))),vF] G=.rt (.bl vG) G:=λPS s0 s1 s2 s3 s4 s5 s6 s8 hPS hcp=>by
  have hx:(Gq PS p c).length<=1000:=by simp[Gq];exact hPS
  have cd:=ZOM (xs:=Gq PS p c) hx (c:=c) (p:=p) (b:=b) (m:=m) G;generalize Gq PS p c=xs at*;have fz:freeze G (.ok (.ref G.length) (G++[.lst (xs.map D.int)]))=.ok (.fl (xs.map D.int)) G:=Fd (Ga λ_ _=>rfl);have eq:∀G,Cv (Fp b m xs) (Fp b m xs) G=.ok (.bl vG) G:=λG=>by
   obtain⟨s,x,y,e,hxy⟩:=ZHP (b:=b) (m:=m) (xs:=xs);rw[e];refine ZQK (ZJ1 (n:=29) λd hd=>?_)
   rcases hxy with⟨rfl,rfl⟩|⟨i,j,rfl,rfl⟩<;>simp at hd<;>rcases hd with rfl|rfl|rfl<;>rfl
  have hxl:(xs.map D.int).length<=1000000:=by simp;lia
  have hpl:(PS.map (pgD h.n)).length<=1000000:=by simp;lia
  generalize xs.map D.int=X at*;generalize PS.map (pgD h.n)=PG at*;unfold V3 ZKi;simp[Bm,hcp,fz,hxl,hpl,cd,eq]
 obtain⟨sA,xA,yA,eA,hA⟩:=ZHP (b:=b) (m:=m) (xs:=Gq (h.G8 (if b=vG then fls else fls') (if b=vG then lv else lv',if b=vG then co else co') a) p c);have told:=ZNa hA (s:=sA) G;rw[<-eA]at told;refine ZPz (Fd Vu) (Fd Vu) (Fd (by simp)) rfl lk (λG=>ZOd ZPw) told fr (λ_=>fr') (λG=>rfl) (λe=>?_) λe=>?_
 ·rw[if_pos e,if_pos e,if_pos e];exact key _ _ _ _ _ _ _ _ _ (by rw[Xx];lia) (ZFA (run6 g fls (lv,co) a) hp h1 h2 G)
 ·rw[if_neg (by simp[e]),if_neg (by simp[e]),if_neg (by simp[e])];exact key _ _ _ _ _ _ _ _ _ (by rw[Xx];lia) (ZFA (run6 g fls' (lv',co') a) hp h1 h2 G)
theorem ZLX(hl:ns.length<=63)(G:DH):Og [.fl (ns.map D.int)] G=.ok (.bl vG) G:=by
 obtain⟨f,hf⟩:=cells hl;obtain⟨u,hu1,cu⟩:=ZLD hf;have hu:0<u:=by lia
 obtain⟨yr,hyr,cy⟩:=ZTL hf;obtain⟨h,hT,ch⟩:=ZOK hf hyr cy hu cu;have g:=hT.good;have hn:=g.len;obtain⟨a,ha,ca⟩:=ZK3 hf;obtain⟨t,ht1,ht2,et⟩:∃t:Nat,6+14*h.n+t*h.n<=1000/\t<=6/\(t:Int)=f 2%7:=by
  have h6:(f 2%7).toNat<=6:=by lia
  have hm:=jU h6 hn;exact⟨(f 2%7).toNat,by lia,by lia,by lia⟩
 have cs:=ZNG hf hu cu g;have cf:=ZQ2 hf hu cu g ht1 (by lia);have f2:∀G,Az [.fl (ns.map D.int),.int 2] G=.ok (.int (f 2)) G:=hf 2 (by lia);have hbr:∀k b r q,k<h.n->(h.pl k).kd=.basin b r q->lvS h f u k<=b:=λk b r q hk e=>(ZOR g hk).2.1 b r q e
 have cm:=ZOZ hf hu cu g (lv:=lvS h f u) (co:=coS h f u) hbr (fl:=flS h.n f u) ht2;have so:∀k j,k<h.n->j<5->0<=coS h f u k j:=λk j _ _=>ZSB hu k j
 have so':∀k j,k<h.n->j<5->0<=coM h f u (coS h f u) k j:=λk j hk hj=>Int.le_trans (so k j hk hj) (ZIr hu k j)
 have u1:(leN h.n (lvS h f u) (lvM h f u (lvS h f u))&&leR 5 h.n (coS h f u) (coM h f u (coS h f u)))=vG:=by
  rw[ZHN λk hk=>ZK6 hbr hk,ZFr λi _ k _=>ZIr hu i k]
  rfl
 have u2:(decide (((zZ t).map (flS h.n f u)).length=((zZ t).map (flM h f u (flS h.n f u))).length)&&leR h.n ((zZ t).map (flS h.n f u)).length (λi=>((zZ t).map (flS h.n f u)).getD i λ_=>0) λi=>((zZ t).map (flM h f u (flS h.n f u))).getD i λ_=>0)=vG:=by
  rw[ZFr λi hi k _=>?_]
  ·simp
  ·have hi:i<t:=by simpa using hi
   rw[ZH5 hi,ZH5 hi];exact ZF7 hu i k
 have hfn:∀fl∈(zZ t).map (flS h.n f u),∀k,k<h.n->0<=fl k:=λfl hm k _=>by obtain⟨i,_,rfl⟩:=zH.mp hm;exact ZGV hu i k
 have hfn':∀fl∈(zZ t).map (flM h f u (flS h.n f u)),∀k,k<h.n->0<=fl k:=λfl hm k hk=>by obtain⟨i,_,rfl⟩:=zH.mp hm;exact Int.le_trans (ZGV hu i k) (ZF7 hu i k)
 have l1:((zZ t).map (flS h.n f u)).length=t:=by simp
 have l2:((zZ t).map (flM h f u (flS h.n f u))).length=t:=by simp
 obtain⟨o,ho,cq⟩:=ZP6 hf hu cu g hT.one;have fz0:∀l:List (Nat->Int),freeze G (.ok (.ref G.length) (G++[.lst (Be h.n l)]))=.ok (.fl (Be h.n l)) G:=λl=>Fd Vu
 have pre:=ZLN hf ch ca cs et (cf G) (fz0 _) (cm G) (cq G) (Ka (by
  cases o with
  |none=>rfl
  |some q=>rfl))
 unfold Og;rw[Br];show tidy G ((Vr [vE (.fl (ns.map D.int)),vF,vF,vF,vF,vF,vF,vF,vF,vF,vF,vF] G).ret)=_;rw[pre];cases o with
 |none=>
  unfold Lz;simp[Pr,By]
 |some q=>
  obtain⟨c,p,b,m⟩:=q;obtain⟨h1,h2,hp,hk⟩:=ho c p b m rfl;show tidy G ((Lz [_,_,_,_,_,_,_,vE (Dk c p b m),_,_,_,_] G).ret)=_;rw[ZQG g (by lia) (by lia) h1 h2 hp hk u1 u2 so so' hfn hfn' G];exact By rfl
theorem holds:Holds:=λns hl=>⟨[],ZLX hl []⟩
end _W
namespace _W
open PySem _L _D
seal QE QT QA QS QSs QG QGs QI QTs QW QO
structure Txt (K:PySem.W.Frag) (mg:Str->Option xj):Prop where
 Ko:FT K mg "_law_amount" ZDE ZAq
 Xu:FT K mg "_law_off" ZDe ZCi
 Sw:FT K mg "_law_tape" ZAf ZDL
 Ec:FT K mg "_law_cell_at" ZEY ZCF
 Kv:FT K mg "_law_unit" ZCW ZCQ
 Yv:FT K mg "_law_added" O7 ZCd
 Zz:FT K mg "_law_ask" ZAx ZBw
 Ww:FT K mg "_law_column" ZD7 ZDC
 Xo:FT K mg "_law_due" ZEb ZDo
 Vc:FT K mg "_law_floods" T9 ZCU
 Vx:FT K mg "_law_pumped" ZDy ZCP
 ZAN:FT K mg "_law_steps" ZCq ZA9
 Uc:FT K mg "_law_year" ZCm ZCu
 Ze:FT K mg "_law_rule" Rq ZEK
 Z9:FT K mg "_law_basin" V7 ZCL
 ZAC:FT K mg "_law_name" ZEA ZAo
 W4:FT K mg "_law_house" W2 ZDz
 Yz:FT K mg "_law_number" ZBe ZEW
 Ym:FT K mg "_law_state" ZAr ZDP
 Vw:FT K mg "_law_told" ZBz ZCc
 Zw:FT K mg "is_beyond" ZB1 ZD8
 Wn:FT K mg "part_asked" ZC4 ZCN
 X7:FT K mg "answered" Zh ZD5
 Zk:FT K mg "check_ask" ZD9 ZB6
 Uj:FT K mg "none_above" Yu ZAk
 Tt:FT K mg "rows_under" Vk ZBx
 Vf:FT K mg "under" ZDf ZCg
 W7:FT K mg "check_bounds" ZDA ZD1
 ZAE:FT K mg "looked_through" ZAv ZBa
 Rk:MT K "Course" "__init__" "Course.__init__" T7 ZCv
 Nh:MT K "Course" "send" "Course.send" ZBR ZDT
 Rj:FT K mg "number_of" ZC9 ZBq
 U6:FT K mg "down_of" ZED ZBG
 Ot:MT K "Course" "send_down" "Course.send_down" ZDK ZCJ
 Y6:FT K mg "opened" ZB9 ZEM
 Zr:FT K mg "stairs_at" ZBK ZCO
 Sd:MT K "Course" "go_basin" "Course.go_basin" ZCE ZBC
 Ur:FT K mg "passed" Wj ZB7
 Rv:FT K mg "down_in_reach" ZBL ZD3
 V5:FT K mg "reach_rows" ZCr ZBW
 Zx:FT K mg "served" Ry ZAe
 Yx:FT K mg "way_down" ZC0 ZBp
 ZAS:FT K mg "shares" Yy ZDx
 Uo:MT K "Course" "go_reach" "Course.go_reach" ZDV ZBr
 Z7:FT K mg "lasts_of_reaches" ZCR ZBJ
 U9:MT K "Course" "go" "Course.go" ZAZ ZD4
 Tz:MT K "Course" "state_behind" "Course.state_behind" Su ZDp
 Yk:FT K mg "turn" ZEG ZB4
 Ra:FT K mg "run" ZBM ZDi
 Zt:FT K mg "look" ZEB ZDa
 Tq:FT K mg "law" J6 ZDG
 Ba:CT K mg "Course"
 R4:NoAttr K (Bu K "Course") "came"
 Sg:NoAttr K (Bu K "Course") "coming"
 Kg:NoAttr K (Bu K "Course") "house"
 Xw:NoAttr K (Bu K "Course") "levels"
 O3:NoAttr K (Bu K "Course") "page"
 Xp:NoAttr K (Bu K "Course") "reaches"
 Xq:NoAttr K (Bu K "Course") "year_turn"
 ZJi:mg "all"=vF
 ZTF:mg "bool"=vF
 Od:mg "enumerate"=vF
 ZRl:mg "int"=vF
 Zj:mg "isinstance"=vF
 Eb:mg "len"=vF
 Vq:mg "list"=vF
 ZA4:mg "max"=vF
 R0:mg "min"=vF
 Gk:mg "range"=vF
 ZSa:mg "sorted"=vF
 ZSI:mg "str"=vF
 Hf:mg "tuple"=vF
 Rm:mg "zip"=vF
 ZAt:mg "BRIM"=vE (.int 4 (Dy K "BRIM"))
 Ye:mg "DELAY"=vE (.int 3 (Dy K "DELAY"))
 ZEL:mg "DOWN"=vE (.int 2 (Dy K "DOWN"))
 O8:mg "KIND"=vE (.int 0 (Dy K "KIND"))
 ZDs:mg "LET"=vE (.int 3 (Dy K "LET"))
 Yt:mg "LIES"=vE (.int 5 (Dy K "LIES"))
 ZEc:mg "NAME"=vE (.int 1 (Dy K "NAME"))
 ZCD:mg "NEED"=vE (.int 4 (Dy K "NEED"))
 Iw:mg "PLACES"=vE (.int 1 (Dy K "PLACES"))
 Rn:mg "PUMP"=vE (.int 6 (Dy K "PUMP"))
 ZCK:mg "PUMPED"=vE (.int 4 (Dy K "PUMPED"))
 ZDr:mg "PUMP_DELAY"=vE (.int 1 (Dy K "PUMP_DELAY"))
 ZCB:mg "PUMP_TO"=vE (.int 0 (Dy K "PUMP_TO"))
 ZAw:mg "RANK"=vE (.int 5 (Dy K "RANK"))
 Qo:mg "ROW_DOWN"=vE (.int 0 (Dy K "ROW_DOWN"))
 ZBl:mg "ROW_NEED"=vE (.int 2 (Dy K "ROW_NEED"))
 ZDl:mg "ROW_RANK"=vE (.int 3 (Dy K "ROW_RANK"))
 ZCw:mg "ROW_WATER"=vE (.int 1 (Dy K "ROW_WATER"))
 ZC8:mg "RULE"=vE (.int 5 (Dy K "RULE"))
 ZDR:mg "SEA"=vE (.str "sea" (Dy K "SEA"))
 ZBY:mg "SPILLED"=vE (.int 2 (Dy K "SPILLED"))
 ZBf:mg "TOOK"=vE (.int 1 (Dy K "TOOK"))
 ZDN:mg "YEAR"=vE (.int 0 (Dy K "YEAR"))
 ZA0:TupG K mg "SENSES" ["least","most"]
 We:DctG K mg "KINDS_ASKED" [("lies","basin"),("spilled","basin"),("let","basin"),("pumped","basin"),("took","town")]
section
variable{P:xK}{w:xw}{K:PySem.W.Frag}{mg:Str->Option xj}{base:Heap}
theorem My(T:Txt K mg):FnO P w K mg base 1 "_law_amount" ZAq Km:=by
 refine Cg T.Ko.F ZOw λcdv A outer s H E hr=>?_
 exact(An (Bj (Ag Bc (Ag Dj (Aa 1) (Ag Bx (Aa 0) Af)) (Ag Bx (Ag Dw (Aa 0) Af) (Aa 1)))))
theorem ZQB(T:Txt K mg):FnO P w K mg base 1 "_law_off" ZCi U0:=by
 refine Cg T.Xu.F Uq λcdv A outer s H E hr=>?_
 exact(Ai (Bw (ZGa Vy Jd Af (Aa 0) (Ag Mz Af Af)) (Ai (Ao 0 Uq.nd (Ag Bx (Ag Bc (Ag Bc (Aa 0) (Ag Dj Af (Aa 1))) Af) Af)) (Ai (Ao 0 Uq.nd (Ag Bx (Ag Dj (Aa 0) (Aa 0)) Af)) (An (Bj (Ag Bx (Ag Dj (Aa 0) (Ag Bc (Aa 0) (Aa 1))) Af))))) Cj) (Ai (Eu PassesOwn.never rfl (Gw rfl T.Gk (Ac (Aa 1) Ae)) (Aq 2 Uq.nd) (An (Ao 0 Uq.nd (Ag Dw (Aa 0) (Ag Mz Af Af))))) (An (Bj (Ag Bx (Aa 0) (Ag Mz Af Af))))))
theorem ZJP(T:Txt K mg):FnO P w K mg base 1 "_law_tape" ZDL Nj:=by
 refine Cg T.Sw.F ZSp λcdv A outer s H E hr=>?_
 exact(An (Bj (ZEV (Jg La (Cu Eh rfl T.Eb Ei (Ac (Aa 0) Ae)) Af (nomark _)) (Wu (ZTU (Jg Jd (Ak Al (Aa 0) Af) Af (nomark _)) (Wu (Jg o_ge (Ak Al (Aa 0) Af) (Ag Mz Af Af) (nomark _))))))))
theorem Ez(T:Txt K mg):FnO P w K mg base 2 "_law_cell_at" ZCF Az:=by
 refine Cg T.Ec.F V0 λcdv A outer s H E hr=>?_
 exact(Ai (Bw (Hm (Ax (ZJP T) T.Sw hr (Ac (Aa 0) Ae))) (Ai (Ao 2 V0.nd Af) (Ai (Bw (Bs Jd (Ag Bc Af (Ag Dw (Aa 1) Af)) (Cu Eh rfl T.Eb Ei (Ac (Aa 0) Ae)) (nomark _)) (An (Ao 2 V0.nd (Ak Al (Aa 0) (Ag Bc Af (Ag Dw (Aa 1) Af))))) Cj) (An (Bj (Ax (ZQB T) T.Xu hr (Ac (Aa 2) (Ac (Ag Bx (Aa 1) Af) Ae))))))) Cj) (Ai (Bw (Bs Jd (Aa 1) (Cu Eh rfl T.Eb Ei (Ac (Aa 0) Ae)) (nomark _)) (An (Bj (Ak Al (Aa 0) (Aa 1)))) Cj) (Ai (Ao 2 V0.nd (Ag Bx (Ag Dj Af (Ag Bc (Ag Dj (Aa 1) (Aa 1)) (Ag Dj Af (Cu Eh rfl T.Eb Ei (Ac (Aa 0) Ae))))) Af)) (Ai (Bw (Bs La (Cu Eh rfl T.Eb Ei (Ac (Aa 0) Ae)) Af (nomark _)) (An (Ao 2 V0.nd (Ag Bc (Aa 2) (Ag Bx (Ag Dj (Ak Al (Aa 0) (Ag Bx (Aa 1) (Cu Eh rfl T.Eb Ei (Ac (Aa 0) Ae)))) Af) Af)))) Cj) (An (Bj (Aa 2)))))))
theorem Qj(T:Txt K mg):FnO P w K mg base 3 "_law_unit" ZCQ Fj:=by
 refine Cg T.Kv.F ZRE λcdv A outer s H E hr=>?_
 exact(An (Bj (Ak Al (Ck (Es (Ac Af (Ac Af (Ac (Ag Mz Af Af) Ae))))) (Ag Bx (Ag Dw (Ax (Ez T) T.Ec hr (Ac (Aa 0) (Ac Af Ae))) Af) Af))))
theorem ZMy(T:Txt K mg):FnO P w K mg base 4 "_law_added" ZCd Py:=by
 refine Cg T.Yv.F Hw λcdv A outer s H E hr=>?_
 exact(Ai (Ao 4 Hw.nd (Ck (Ax (Qj T) T.Kv hr (Ac (Aa 0) Ae)))) (Ai (Ao 5 Hw.nd (Cu Eh rfl T.Eb Ei (Ac (Ak Al (Aa 1) Af) Ae))) (Ai (Ao 6 Hw.nd (Ag Bc Af (Ag Dj Af (Aa 5)))) (Ai (Ao 7 Hw.nd (Gf (Es Ae))) (Ai (Ao 8 Hw.nd (Gf (Es Ae))) (Ai (Eu PassesOwn.never rfl (Gw rfl T.Gk (Ac (Aa 5) Ae)) (Aq 9 Hw.nd) (Ai (Ao 10 Hw.nd (Ax (Ez T) T.Ec hr (Ac (Aa 0) (Ac (Ag Bc (Aa 6) (Aa 9)) Ae)))) (Ai (Ao 11 Hw.nd (Ak Al (Ak Al (Aa 2) Af) (Aa 9))) (Ai (Bw (Bs (Dr hr.units) (Ak Al (Ak Al (Ak Al (Aa 1) Af) (Aa 9)) Af) Dc (nomark _)) (Ai (Ao 12 Hw.nd (Ag Bc (Ag H8 (Ak Al (Ak Al (Ak Al (Aa 1) Af) (Aa 9)) Af) (Aa 11)) Af)) (An (Ao 11 Hw.nd (Ag Bc (Aa 11) (Ag Dj (Ag Bx (Ax (My T) T.Ko hr (Ac (Ag Dw (Aa 10) Af) (Ac (Aa 4) Ae))) (Aa 12)) (Ag Bx (Aa 10) Af)))))) Cj) (Ai (Er (Gh PySem.F.slot_list_append PySem.F.type_list_append Gy (Aa 7) (Ac (Aa 11) Ae))) (An (Er (Gh PySem.F.slot_list_append PySem.F.type_list_append Gy (Aa 8) (Ac (Gr Hi rfl T.Hf H9 (Ac (Ck (Hz rfl (Fg (dn:=(Ar O7).names) (N0:=Ph) (N:=["_law_number_here","_law_unit_here","_law_cell"]) (nt:=1) (caps:=[4,10])) (Gn (Ak Al (Ak Al (Aa 2) Af) (Aa 9))) (λC s₀ H₀ ex=>(Aq 0 (show(["_law_number_here","_law_unit_here","_law_cell"]:List Str).Nodup by decide +kernel))) (Dv (by decide)) (λC s₀ H₀ ex=>Fi) (λC s₀ H₀ ex=>(Ag Bc (Aa 0) (Ag Dj (Aa 1) (Ag Bx (Ag Dw (Aa 2) Af) Af)))))) Ae)) Ae))))))))) (Ai (Ao 13 Hw.nd (Gf (Es Ae))) (Ai (Eu PassesOwn.never rfl (Gw rfl T.Gk (Ac (Cu Eh rfl T.Eb Ei (Ac (Aa 3) Ae)) Ae)) (Aq 14 Hw.nd) (Ai (Lw (Mj 15 rfl Hw.nd (Fg (dn:=(Ar O7).names) (N0:=Ph) (N:=["_law_k","_law_script","_law_many","_law_b","_law_at"]) (nt:=1) (caps:=[0,5,6,14])) (Gw rfl T.Gk (Ac (Aa 5) Ae)) (λC s₀ H₀ ex=>(Aq 0 (show(["_law_k","_law_script","_law_many","_law_b","_law_at"]:List Str).Nodup by decide +kernel))) (Dv (by decide)) (λC s₀ H₀ ex=>Fi) (λC s₀ H₀ ex=>(Ax (Ez T) T.Ec hr (Ac (Aa 1) (Ac (Ag Bc (Ag Bc (Ag Bc (Aa 3) (Aa 2)) (Ag Dj (Aa 4) (Aa 2))) (Aa 0)) Ae)))))) (Ai (Lw (Ao 16 Hw.nd (Hz rfl (Fg (dn:=(Ar O7).names) (N0:=Ph) (N:=["_law_cell","_law_unit_here"]) (nt:=1) (caps:=[4])) (Gn (Aa 15)) (λC s₀ H₀ ex=>(Aq 0 (show(["_law_cell","_law_unit_here"]:List Str).Nodup by decide +kernel))) (Dv (by decide)) (λC s₀ H₀ ex=>Fi) (λC s₀ H₀ ex=>(Ag Dj (Ax (My T) T.Ko hr (Ac (Ag Dw (Aa 0) Af) (Ac (Aa 1) Ae))) (Ag Bx (Aa 0) Af)))))) (An (Er (Gh PySem.F.slot_list_append PySem.F.type_list_append Gy (Aa 13) (Ac (Gr Hi rfl T.Hf H9 (Ac (Ck (Hz rfl (Fg (dn:=(Ar O7).names) (N0:=Ph) (N:=["_law_k","_law_lows","_law_at","_law_added_here"]) (nt:=1) (caps:=[3,14,16])) (Gw rfl T.Gk (Ac (Aa 5) Ae)) (λC s₀ H₀ ex=>(Aq 0 (show(["_law_k","_law_lows","_law_at","_law_added_here"]:List Str).Nodup by decide +kernel))) (Dv (by decide)) (λC s₀ H₀ ex=>Fi) (λC s₀ H₀ ex=>(Ag Bc (Ak Al (Ak Al (Aa 1) (Aa 2)) (Aa 0)) (Ak Al (Aa 3) (Aa 0)))))) Ae)) Ae))))))) (An (Bj (Do (Ac (Do (Ac (Gr Hi rfl T.Hf H9 (Ac (Aa 7) Ae)) (Ac (Gr Hi rfl T.Hf H9 (Ac (Aa 8) Ae)) Ae))) (Ac (Aa 13) Ae)))))))))))))
theorem ZQW(T:Txt K mg):FnO P w K mg base 4 "_law_ask" ZBw Tn:=by
 refine Cg T.Zz.F Kf λcdv A outer s H E hr=>?_
 exact(Ai (Ao 2 Kf.nd (Cu Eh rfl T.Eb Ei (Ac (Ak Al (Aa 1) Af) Ae))) (Ai (Ao 3 Kf.nd (Ag Bc Af (Ag Dj Af (Aa 2)))) (Ai (Eu PassesOwn.never rfl (Gw rfl T.Gk (Ac (Aa 2) Ae)) (Aq 4 Kf.nd) (Ai (Ao 5 Kf.nd (Ag Bx (Ag Bc (Ax (Ez T) T.Ec hr (Ac (Aa 0) (Ac (Aa 3) Ae))) (Aa 4)) (Aa 2))) (Ai (Ao 6 Kf.nd (Ak Al (Ak Al (Ak Al (Aa 1) Af) (Aa 5)) Af)) (Ai (Ao 7 Kf.nd Dc) (Ai (Bw (Bs (Dr hr.units) (Aa 6) Dc (nomark _)) (An (Ao 7 Kf.nd (Ak Al (Ck (Es (Ac Dc (Ac Dc (Ac Dc (Ac Dc Ae)))))) (Ag Bx (Ax (Ez T) T.Ec hr (Ac (Aa 0) (Ac (Ag Bc (Aa 3) Af) Ae))) Af)))) Cj) (An (Bw (Bs (P0 hr.units) (Aa 6) Dc (nomark _)) (Ai (Ao 8 Kf.nd (Ax (Ez T) T.Ec hr (Ac (Aa 0) (Ac (Ag Bc (Aa 3) Af) Ae)))) (Ai (Ao 9 Kf.nd (Ag H8 (Ax (My T) T.Ko hr (Ac (Ag Dw (Aa 8) Af) (Ac (Ck (Ax (Qj T) T.Kv hr (Ac (Aa 0) Ae))) Ae))) (Ag Bx (Ag Dw (Aa 8) Af) Af))) (An (Bj (Do (Ac (Aa 7) (Ac (Aa 5) (Ac (Ak Al (Ck (Es (Ac Dc (Ac Dc Ae)))) (Ag Bx (Aa 8) Af)) (Ac (Aa 9) Ae))))))))) Cj))))))) (An (Bj G7)))))
theorem ZPr(T:Txt K mg):FnO P w K mg base 1 "_law_column" ZDC Z0:=by
 refine Cg T.Ww.F ZKy λcdv A outer s H E hr=>?_
 exact(An (Bj (Ak (ZGS hr.units) (ZH7 (Kc Af (Kc Af (Kc Af (Kc Af (Kc Af ZKM)))))) (Aa 0))))
theorem ZRt(T:Txt K mg):FnO P w K mg base 1 "_law_due" ZDo Z2:=by
 refine Cg T.Xo.F Om λcdv A outer s H E hr=>?_
 exact(Ai (Ao 2 Om.nd (Do (Ac Dc (Ac G7 (Ac G7 Ae))))) (Ai (Eu PassesOwn.never rfl (Gw rfl T.Gk (Ac (Cu Eh rfl T.Eb Ei (Ac (Aa 0) Ae)) Ae)) (Aq 3 Om.nd) (Ai (Bw (Hg (Kl (Hg (N6 (Bs (Dr hr.units) (Ak Al (Aa 1) Af) Dc (nomark _)) (Nz (Bs Jd (Ak Al (Aa 0) (Aa 3)) (Ak Al (Aa 1) Af) (nomark _))))) (Ky (Hg (N6 (Bs (Dr hr.units) (Ak Al (Aa 1) Af) Dc (nomark _)) (Nz (Bs La (Ak Al (Aa 0) (Aa 3)) (Ak Al (Aa 1) Af) (nomark _)))))))) (An (Bj (Do (Ac Dc (Ac (Aa 3) (Ac (Ak Al (Aa 0) (Aa 3)) Ae)))))) Cj) (Ai (Ao 4 Om.nd (Jg W6 (Ak Al (Aa 2) Af) G7 (nomark _))) (Ai (Bw (Hg (N6 (Lj (Hm (Aa 4))) (Nz (Bs (Dr hr.units) (Ak Al (Aa 1) Af) Dc (nomark _))))) (An (Ao 4 Om.nd (Jg Jd (Ak Al (Aa 0) (Aa 3)) (Ak Al (Aa 2) Af) (nomark _)))) (An (Bw (Lj (Hm (Aa 4))) (An (Ao 4 Om.nd (Jg La (Ak Al (Aa 0) (Aa 3)) (Ak Al (Aa 2) Af) (nomark _)))) Cj))) (An (Bw (Hm (Aa 4)) (An (Ao 2 Om.nd (Do (Ac Dc (Ac (Aa 3) (Ac (Ak Al (Aa 0) (Aa 3)) Ae)))))) Cj)))))) (An (Bj (Aa 2)))))
theorem ZOx(T:Txt K mg):FnO P w K mg base 4 "_law_floods" ZCU V4:=by
 refine Cg T.Vc.F Qd λcdv A outer s H E hr=>?_
 exact(Ai (Ao 3 Qd.nd (Cu Eh rfl T.Eb Ei (Ac (Ak Al (Aa 1) Af) Ae))) (Ai (Ao 4 Qd.nd (Ag Bc Af (Ag Dj Af (Aa 3)))) (Ai (Ao 5 Qd.nd (Gf (Es Ae))) (Ai (Eu PassesOwn.never rfl (Gw rfl T.Gk (Ac (Aa 2) Ae)) (Aq 6 Qd.nd) (Ai (Lw (Mj 7 rfl Qd.nd (Fg (dn:=(Ar T9).names) (N0:=Wt) (N:=["_law_k","_law_script","_law_many","_law_b","_law_at"]) (nt:=1) (caps:=[0,3,4,6])) (Gw rfl T.Gk (Ac (Aa 3) Ae)) (λC s₀ H₀ ex=>(Aq 0 (show(["_law_k","_law_script","_law_many","_law_b","_law_at"]:List Str).Nodup by decide +kernel))) (Dv (by decide)) (λC s₀ H₀ ex=>Fi) (λC s₀ H₀ ex=>(Ax (Ez T) T.Ec hr (Ac (Aa 1) (Ac (Ag Bc (Ag Bc (Aa 3) (Ag Dj (Aa 4) (Aa 2))) (Aa 0)) Ae)))))) (An (Er (Gh PySem.F.slot_list_append PySem.F.type_list_append Gy (Aa 5) (Ac (Gr Hi rfl T.Hf H9 (Ac (Ck (Hz rfl (Fg (dn:=(Ar T9).names) (N0:=Wt) (N:=["_law_cell","_law_script"]) (nt:=1) (caps:=[0])) (Gn (Aa 7)) (λC s₀ H₀ ex=>(Aq 0 (show(["_law_cell","_law_script"]:List Str).Nodup by decide +kernel))) (Dv (by decide)) (λC s₀ H₀ ex=>Fi) (λC s₀ H₀ ex=>(Ax (My T) T.Ko hr (Ac (Aa 0) (Ac (Ck (Ax (Qj T) T.Kv hr (Ac (Aa 1) Ae))) Ae)))))) Ae)) Ae)))))) (An (Bj (Aa 5)))))))
theorem ZRq(T:Txt K mg):FnO P w K mg base 1 "_law_pumped" ZCP Zi:=by
 refine Cg T.Vx.F Qa λcdv A outer s H E hr=>?_
 exact(Ai (Ao 1 Qa.nd Af) (Ai (Eu PassesOwn.never rfl (Gn (Aa 0)) (Em rfl (Bh (Aq 2 Qa.nd) (Bh (Aq 3 Qa.nd) (Bh (Aq 4 Qa.nd) El)))) (An (Bw (Bs (Dr hr.units) (Aa 4) Dc (nomark _)) (An (Ao 1 Qa.nd (Ag Bc (Aa 1) (Aa 3)))) Cj))) (An (Bj (Aa 1)))))
theorem ZMo(T:Txt K mg):FnO P w K mg base 1 "_law_steps" ZA9 Xk:=by
 refine Cg T.ZAN.F Lh λcdv A outer s H E hr=>?_
 exact(Ai (Ao 3 Lh.nd (Gf (Es Ae))) (Ai (Ao 4 Lh.nd Af) (Ai (Eu PassesOwn.never rfl (Gw rfl T.Gk (Ac (Ag Bx (Ak Al (Aa 0) Af) Af) Ae)) (Aq 5 Lh.nd) (Ai (Ao 4 Lh.nd (Ag Bc (Aa 4) (Ag Dj (Aa 1) (Ag Bx (Ak Al (Aa 0) (Ag Bc Af (Aa 5))) Af)))) (Ai (Ao 6 Lh.nd (Ag Bc Af (Ag Dj (Aa 1) (Ag Bx (Ag Dw (Ak Al (Aa 0) (Ag Bc Af (Aa 5))) Af) Af)))) (Ai (Ao 7 Lh.nd Dc) (Ai (Bw (Hg (N6 (Hm (Aa 2)) (Nz (Bs (Dr hr.units) (Ag Bx (Ag Dw (Ak Al (Aa 0) (Ag Bc Af (Aa 5))) Af) Af) Af (nomark _))))) (An (Ao 7 Lh.nd Dc)) Cj) (Ai (Er (Gh PySem.F.slot_list_append PySem.F.type_list_append Gy (Aa 3) (Ac (Do (Ac (Aa 4) (Ac (Aa 6) (Ac (Aa 7) Ae)))) Ae))) (An (Ao 4 Lh.nd (Ag Bc (Aa 4) (Aa 6)))))))))) (An (Bj (Gr Hi rfl T.Hf H9 (Ac (Aa 3) Ae)))))))
theorem ZEd(T:Txt K mg):FnO P w K mg base 3 "_law_year" ZCu Kr:=by
 refine Cg T.Uc.F ZPW λcdv A outer s H E hr=>?_
 exact(An (Bj (Ag Bc Af (Ag Bx (Ax (Ez T) T.Ec hr (Ac (Aa 0) (Ac Af Ae))) Af))))
theorem ZP5(T:Txt K mg):FnO P w K mg base 4 "_law_rule" ZEK Xm:=by
 refine Cg T.Ze.F Ju λcdv A outer s H E hr=>?_
 exact(Ai (Ao 4 Ju.nd (Ax (ZEd T) T.Uc hr (Ac (Aa 0) Ae))) (Ai (Ao 5 Ju.nd (Gf (Es Ae))) (Ai (Ao 6 Ju.nd Af) (Ai (Eu PassesOwn.never rfl (Gw rfl T.Gk (Ac Af Ae)) (Aq 7 Ju.nd) (Ai (Ao 8 Ju.nd (Ag Bx (Ag Dj (Ag Dj (Ax (Ez T) T.Ec hr (Ac (Aa 0) (Ac (Ag Bc (Aa 1) Af) Ae))) Af) (Ag Bc (Ag Dj (Aa 7) (Aa 7)) Af)) Af)) (Ai (Lw (Mj 9 rfl Ju.nd (Fg (dn:=(Ar Rq).names) (N0:=Z3) (N:=["_law_k","_law_script","_law_b","_law_j"]) (nt:=1) (caps:=[0,1,7])) (Gw rfl T.Gk (Ac Af Ae)) (λC s₀ H₀ ex=>(Aq 0 (show(["_law_k","_law_script","_law_b","_law_j"]:List Str).Nodup by decide +kernel))) (Dv (by decide)) (λC s₀ H₀ ex=>Fi) (λC s₀ H₀ ex=>(Ag Dw (Ax (Ez T) T.Ec hr (Ac (Aa 1) (Ac (Ag Bc (Ag Bc (Aa 2) Af) (Ag Bx (Ag Bc (Ag Dj Af (Aa 3)) (Aa 0)) Af)) Ae))) (Ag Bc Af (Ag Dj Af (Ag Dw (Aa 3) Af))))))) (Ai (Bw (Hm (Ax (ZJP T) T.Sw hr (Ac (Aa 0) Ae))) (Ai (Ao 8 Ju.nd (Ag Dw (Ax (Ez T) T.Ec hr (Ac (Aa 0) (Ac (Ag Bc (Aa 1) Af) Ae))) (Ak Al (Ck (Es (Ac Af (Ac Af (Ac Af (Ac Af Ae)))))) (Aa 7)))) (An (Lw (Mj 9 rfl Ju.nd (Fg (dn:=(Ar Rq).names) (N0:=Z3) (N:=["_law_k","_law_script","_law_b","_law_j"]) (nt:=1) (caps:=[0,1,7])) (Gw rfl T.Gk (Ac Af Ae)) (λC s₀ H₀ ex=>(Aq 0 (show(["_law_k","_law_script","_law_b","_law_j"]:List Str).Nodup by decide +kernel))) (Dv (by decide)) (λC s₀ H₀ ex=>Fi) (λC s₀ H₀ ex=>(Ag Dw (Ax (Ez T) T.Ec hr (Ac (Aa 1) (Ac (Ag Bc (Ag Bc (Aa 2) Af) (Aa 0)) Ae))) (Ak Al (Ck (Es (Ac Af (Ac Af (Ac Af (Ac Af Ae)))))) (Aa 3)))))))) Cj) (An (Bw (Hg (Kl (Bs (Dr hr.units) (Aa 7) Af (nomark _)) (Ky (Hg (N6 (Bs (Dr hr.units) (Ag Bx (Aa 8) Af) Af (nomark _)) (Nz (Bs Jd (Ag Bc (Aa 6) Af) (Aa 4) (nomark _)))))))) (Ai (Bw (Bs La (Aa 7) Af (nomark _)) (An (Ao 6 Ju.nd (Ag Bc (Ag Bc (Aa 6) Af) (Ag Bx (Ag Dw (Aa 8) Af) (Ag H8 (Ag H8 (Aa 4) (Aa 6)) Af))))) Cj) (An (Er (Gh PySem.F.slot_list_append PySem.F.type_list_append Gy (Aa 5) (Ac (Do (Ac (Aa 6) (Ac (Ax (ZMo T) T.ZAN hr (Ac (Aa 9) (Ac (Aa 2) (Ac (Aa 3) Ae)))) Ae))) Ae))))) Cj)))))) (An (Bj (Gr Hi rfl T.Hf H9 (Ac (Aa 5) Ae))))))))
theorem ZLw(T:Txt K mg):FnO P w K mg base 5 "_law_basin" ZCL Um:=by
 refine Cg T.Z9.F Kh λcdv A outer s H E hr=>?_
 exact(Ai (Ao 5 Kh.nd (Ck (Ax (Qj T) T.Kv hr (Ac (Aa 0) Ae)))) (Ai (Ao 6 Kh.nd (Ax (Ez T) T.Ec hr (Ac (Aa 0) (Ac (Ag Bc (Aa 1) Af) Ae)))) (Ai (Ao 7 Kh.nd (ZEV (Jg La (Cu Eh rfl T.Eb Ei (Ac (Aa 3) Ae)) Af (nomark _)) (Wu (Jg (Dr hr.units) (Ag Bx (Aa 6) Af) Af (nomark _))))) (Ai (Ao 8 Kh.nd (Ax (ZP5 T) T.Ze hr (Ac (Aa 0) (Ac (Aa 1) (Ac (Aa 5) (Ac (Aa 7) Ae)))))) (Ai (Ao 9 Kh.nd G7) (Ai (Bw (Hm (Aa 7)) (Ai (Ao 10 Kh.nd (Ag Bc (Cu (ZE8 rfl) rfl T.ZA4 ZDS (Ac (Ck (Hz rfl (Fg (dn:=(Ar V7).names) (N0:=ZBV) (N:=["_law_season"]) (nt:=1) (caps:=[])) (Gn (Aa 8)) (λC s₀ H₀ ex=>(Aq 0 (show(["_law_season"]:List Str).Nodup by decide +kernel))) (Dv (by decide)) (λC s₀ H₀ ex=>Fi) (λC s₀ H₀ ex=>(Ax (ZRq T) T.Vx hr (Ac (Ak Al (Aa 0) Af) Ae))))) Ae)) (Ag Dj (Aa 5) (Ag Bx (Ag Dw (Aa 6) Af) Af)))) (Ai (Ao 11 Kh.nd (Ak Al (Aa 3) (Ag Bx (Ag Bc (Ag Bc (Aa 2) Af) (Ag Bx (Ag Dw (Aa 6) Af) (Ag H8 (Cu Eh rfl T.Eb Ei (Ac (Aa 3) Ae)) Af))) (Cu Eh rfl T.Eb Ei (Ac (Aa 3) Ae))))) (An (Ao 9 Kh.nd (Do (Ac (Aa 11) (Ac (Ag Bc Af (Ag Bx (Ag Dw (Aa 6) Af) Af)) (Ac (Aa 10) Ae)))))))) Cj) (Ai (Ao 12 Kh.nd (Ax (My T) T.Ko hr (Ac (Ax (Ez T) T.Ec hr (Ac (Aa 0) (Ac (Ag Bc (Aa 1) Af) Ae))) (Ac (Aa 5) Ae)))) (An (Bj (Do (Ac Dc (Ac (Ak Al (Aa 3) (Aa 2)) (Ac (Ak Al (Aa 4) Af) (Ac (Ak Al (Aa 4) Af) (Ac (Aa 12) (Ac (Aa 8) (Ac (Aa 9) Ae)))))))))))))))))
theorem ZQa(T:Txt K mg):FnO P w K mg base 1 "_law_name" ZAo Xr:=by
 refine Cg T.ZAC.F ZC1 λcdv A outer s H E hr=>?_
 exact(Ai (Ao 3 ZC1.nd (Ak Al Dc (Ag Bx (Ag Dw (Aa 0) Af) Af))) (Ai (Bw (Hg (N6 (Bs (Dr hr.units) (Ag Bx (Aa 0) Af) Af (nomark _)) (Nz (Bs Jd (Aa 2) Af (nomark _))))) (An (Bj (Ag Dj (Aa 3) (Ag Bc (Aa 1) Af)))) Cj) (Ai (Ao 4 ZC1.nd (Ak Al Dc (Ag Bx (Ag Bc (Ag Dj Af (Aa 1)) (Ag Dw (Aa 0) Af)) Af))) (Ai (Bw (Bs (Dr hr.units) (Ag Bx (Aa 0) Af) Af (nomark _)) (An (Bj (Ag Bc (Aa 4) (Ag Dj (Aa 3) (Ag Bx (Ag Dw (Aa 0) Af) Af))))) Cj) (An (Bj (Ag Bc (Ag Bc (Ag Dj (Aa 3) (Ag Bx (Ag Dw (Aa 0) Af) Af)) (Aa 4)) (Ag Dj (Aa 3) (Ag H8 Af (Ag Bx (Ag Dw (Aa 0) Af) Af))))))))))
theorem ZTO(T:Txt K mg):FnO P w K mg base 6 "_law_house" ZDz Ub:=by
 refine Cg T.W4.F Ho λcdv A outer s H E hr=>?_
 exact(Ai (Ao 1 Ho.nd (Ax (Ez T) T.Ec hr (Ac (Aa 0) (Ac Af Ae)))) (Ai (Ao 2 Ho.nd (Ag Bc Af (Ag Bx (Aa 1) Af))) (Ai (Lw (Mj 3 rfl Ho.nd (Fg (dn:=(Ar W2).names) (N0:=ZA5) (N:=["_law_k","_law_script","_law_many"]) (nt:=1) (caps:=[0,2])) (Gw rfl T.Gk (Ac (Aa 2) Ae)) (λC s₀ H₀ ex=>(Aq 0 (show(["_law_k","_law_script","_law_many"]:List Str).Nodup by decide +kernel))) (Dv (by decide)) (λC s₀ H₀ ex=>Fi) (λC s₀ H₀ ex=>(Ax (ZQa T) T.ZAC hr (Ac (Ax (Ez T) T.Ec hr (Ac (Aa 1) (Ac Af Ae))) (Ac (Aa 0) (Ac (Aa 2) Ae))))))) (Ai (Ao 5 Ho.nd (Gf (Es Ae))) (Ai (Eu PassesOwn.never rfl (Gw rfl T.Gk (Ac (Aa 2) Ae)) (Aq 4 Ho.nd) (Ai (Ao 6 Ho.nd (Ag Bc Af (Ag Dj Af (Aa 4)))) (Ai (Ao 7 Ho.nd (Ag Bx (Ax (Ez T) T.Ec hr (Ac (Aa 0) (Ac (Ag Bc (Aa 6) Af) Ae))) (Ag H8 (Aa 2) (Aa 4)))) (Ai (Bw (Bs (Dr hr.units) (Ag Bx (Ag Dw (Aa 1) Af) Af) Af (nomark _)) (An (Ao 7 Ho.nd (Cu (Wz rfl) rfl T.R0 R3 (Ac Af (Ac (Ag H8 (Ag H8 (Aa 2) Af) (Aa 4)) Ae))))) Cj) (Ai (Ao 8 Ho.nd (Ax (Ez T) T.Ec hr (Ac (Aa 0) (Ac (Ag Bc (Aa 6) Af) Ae)))) (Ai (Ao 9 Ho.nd (Do (Ac Dc (Ac (Ag Dj (Ag Bx (Aa 8) Af) (Ag Bx (Ag Dw (Aa 8) Af) Af)) Ae)))) (Ai (Bw (Bs La (Aa 7) Af (nomark _)) (An (Ao 9 Ho.nd (Do (Ac (Ak Al (Aa 3) (Ag Bc (Aa 4) (Aa 7))) (Ac (Ak Al (Aa 9) Af) Ae))))) Cj) (Ai (Ao 10 Ho.nd (Ag Bx (Ax (Ez T) T.Ec hr (Ac (Aa 0) (Ac (Aa 6) Ae))) Af)) (Ai (Ao 11 Ho.nd (Ax (My T) T.Ko hr (Ac (Ax (Ez T) T.Ec hr (Ac (Aa 0) (Ac (Ag Bc (Aa 6) Af) Ae))) (Ac (Ck (Ax (Qj T) T.Kv hr (Ac (Aa 0) Ae))) Ae)))) (Ai (Ao 12 Ho.nd (Ag Bx (Ax (Ez T) T.Ec hr (Ac (Aa 0) (Ac (Ag Bc (Aa 6) Af) Ae))) (Ak Al (Ck (Es (Ac Af (Ac (Ag Mz Af Af) Ae)))) (Ag Bx (Ag Dw (Aa 1) Af) Af)))) (An (Bw (Bs Jd (Aa 10) Af (nomark _)) (An (Er (Gh PySem.F.slot_list_append PySem.F.type_list_append Gy (Aa 5) (Ac (Ck (Ax (ZLw T) T.Z9 hr (Ac (Aa 0) (Ac (Aa 6) (Ac (Aa 4) (Ac (Aa 3) (Ac (Aa 9) Ae))))))) Ae)))) (An (Bw (Bs Jd (Aa 10) Af (nomark _)) (An (Er (Gh PySem.F.slot_list_append PySem.F.type_list_append Gy (Aa 5) (Ac (Do (Ac Dc (Ac (Ak Al (Aa 3) (Aa 4)) (Ac (Ak Al (Aa 9) Af) (Ac (Ak Al (Aa 9) Af) (Ac (Aa 11) (Ac (Aa 12) Ae))))))) Ae)))) (An (Er (Gh PySem.F.slot_list_append PySem.F.type_list_append Gy (Aa 5) (Ac (Do (Ac Dc (Ac (Ak Al (Aa 3) (Aa 4)) (Ac (Ak Al (Aa 9) Af) (Ac (Ak Al (Aa 9) Af) (Ac (Aa 11) Ae)))))) Ae)))))))))))))))))) (An (Bj (Do (Ac (Ax (ZEd T) T.Uc hr (Ac (Aa 0) Ae)) (Ac (Gr Hi rfl T.Hf H9 (Ac (Aa 5) Ae)) Ae))))))))))
theorem ZQt(T:Txt K mg):FnO P w K mg base 3 "_law_number" ZEW Qw:=by
 refine Cg T.Yz.F ZFC λcdv A outer s H E hr=>?_
 exact(Ai (Ao 1 ZFC.nd (Ax (Ez T) T.Ec hr (Ac (Aa 0) (Ac Af Ae)))) (An (Bj (Ag Bx (Ag Dw (Aa 1) Af) (Ak Al (Ck (Es (Ac Af (Ac (Ag Mz Af Af) Ae)))) (Ag Bx (Aa 1) Af))))))
theorem ZSZ(T:Txt K mg):FnO P w K mg base 4 "_law_state" ZDP Tg:=by
 refine Cg T.Ym.F J7 λcdv A outer s H E hr=>?_
 exact(Ai (Ao 2 J7.nd (Ak Al (Aa 1) Af)) (Ai (Ao 3 J7.nd (Ck (Ax (Qj T) T.Kv hr (Ac (Aa 0) Ae)))) (Ai (Ao 4 J7.nd (Ag Bc Af (Ag Dj Af (Cu Eh rfl T.Eb Ei (Ac (Aa 2) Ae))))) (Ai (Ao 5 J7.nd (Gf (Es Ae))) (Ai (Ao 6 J7.nd (Gf (Es Ae))) (Ai (Eu PassesOwn.never rfl (Gw rfl T.Gk (Ac (Cu Eh rfl T.Eb Ei (Ac (Aa 2) Ae)) Ae)) (Aq 7 J7.nd) (Ai (Ao 8 J7.nd Af) (Ai (Bw (Bs (Dr hr.units) (Ak Al (Ak Al (Aa 2) (Aa 7)) Af) Dc (nomark _)) (An (Ao 8 J7.nd (Ag Bx (Ax (My T) T.Ko hr (Ac (Ax (Ez T) T.Ec hr (Ac (Aa 0) (Ac (Ag Bc (Aa 4) (Aa 7)) Ae))) (Ac (Aa 3) Ae))) (Ag Bc (Ak Al (Ak Al (Aa 2) (Aa 7)) Af) Af)))) Cj) (Ai (Er (Gh PySem.F.slot_list_append PySem.F.type_list_append Gy (Aa 5) (Ac (Aa 8) Ae))) (Ai (Ao 9 J7.nd (Ax (Ez T) T.Ec hr (Ac (Aa 0) (Ac (Ag Bc (Ag Bc (Aa 4) (Cu Eh rfl T.Eb Ei (Ac (Aa 2) Ae))) (Aa 7)) Ae)))) (Ai (Ao 10 J7.nd (Gf (Es Ae))) (Ai (Eu PassesOwn.never rfl (Gw rfl T.Gk (Ac Af Ae)) (Aq 11 J7.nd) (Ai (Er (Gh PySem.F.slot_list_append PySem.F.type_list_append Gy (Aa 10) (Ac (Ag Dj (Aa 3) (Ag Bx (Aa 9) Af)) Ae))) (An (Ao 9 J7.nd (Ag Dw (Aa 9) Af))))) (An (Er (Gh PySem.F.slot_list_append PySem.F.type_list_append Gy (Aa 6) (Ac (Gr Hi rfl T.Hf H9 (Ac (Aa 10) Ae)) Ae))))))))))) (An (Bj (Do (Ac (Gr Hi rfl T.Hf H9 (Ac (Aa 5) Ae)) (Ac (Gr Hi rfl T.Hf H9 (Ac (Aa 6) Ae)) Ae)))))))))))
theorem ZKt(T:Txt K mg):FnO P w K mg base 1 "_law_told" ZCc S7:=by
 refine Cg T.Vw.F ZKD λcdv A outer s H E hr=>?_
 exact(Ai (Bw (Hg (Kl (Lj (Hm (Cu ZAF rfl T.Zj W5 (Ac (Aa 0) (Ac (Vj rfl T.Hf H9) Ae))))) (Kl (Bs (P0 hr.units) (Cu Eh rfl T.Eb Ei (Ac (Aa 0) Ae)) Af (nomark _)) (Ky (Lj (Hm (Cu ZAF rfl T.Zj W5 (Ac (Ak Al (Aa 0) Af) (Ac (Vj rfl T.ZSI ZLc) Ae))))))))) (An (Bj Oj)) Cj) (Ai (Eu PassesOwn.never rfl (Gn (Ck (ZFo (Aa 0) (ZKX Af) ZHJ))) (Aq 1 ZKD.nd) (An (Bw (Hg (N6 (Bs Pu (Aa 1) G7 (nomark _)) (Nz (Hg (Kl (Lj (Hm (Cu ZAF rfl T.Zj W5 (Ac (Aa 1) (Ac (Vj rfl T.ZRl ZPT) Ae))))) (Ky (Hm (Cu ZAF rfl T.Zj W5 (Ac (Aa 1) (Ac (Vj rfl T.ZTF ZP3) Ae)))))))))) (An (Bj Oj)) Cj))) (An (Bj Oj))))
theorem ZSP(T:Txt K mg):FnO P w K mg base 1 "is_beyond" ZD8 ZAJ:=by
 refine Cg T.Zw.F ZLi λcdv A outer s H E hr=>?_
 exact(Ai (Bw (Bs (Dr hr.units) (Aa 1) Dc (nomark _)) (An (Bj (Jg Jd (Aa 0) (Aa 2) (nomark _)))) Cj) (An (Bj (Jg La (Aa 0) (Aa 2) (nomark _)))))
theorem ZRV(T:Txt K mg):FnO P w K mg base 1 "part_asked" ZCN ZAY:=by
 refine Cg T.Wn.F ZPJ λcdv A outer s H E hr=>?_
 exact(An (Bj (Ak (ZGS hr.units) (ZH7 (Kc (Cp (v:=(.int 5)) rfl T.Yt ⟨_,rfl⟩ (λ_ _=>rfl)) (Kc (Cp (v:=(.int 2)) rfl T.ZBY ⟨_,rfl⟩ (λ_ _=>rfl)) (Kc (Cp (v:=(.int 3)) rfl T.ZDs ⟨_,rfl⟩ (λ_ _=>rfl)) (Kc (Cp (v:=(.int 4)) rfl T.ZCK ⟨_,rfl⟩ (λ_ _=>rfl)) (Kc (Cp (v:=(.int 1)) rfl T.ZBf ⟨_,rfl⟩ (λ_ _=>rfl)) ZKM)))))) (Aa 0))))
theorem ZTD(T:Txt K mg):FnO P w K mg base 2 "answered" ZD5 ZAd:=by
 refine Cg T.X7.F Kp λcdv A outer s H E hr=>?_
 exact(Ai (Hj (Aa 1) (Em rfl (Bh (Aq 2 Kp.nd) (Bh (Aq 3 Kp.nd) (Bh (Aq 4 Kp.nd) (Bh (Aq 5 Kp.nd) El)))))) (Ai (Ao 6 Kp.nd (Ax (ZRV T) T.Wn hr (Ac (Aa 2) Ae))) (Ai (Lw (Mj 7 rfl Kp.nd (Fg (dn:=(Ar Zh).names) (N0:=ZCA) (N:=["page","place","part"]) (nt:=1) (caps:=[3,6])) (Gn (Aa 0)) (λC s₀ H₀ ex=>(Aq 0 (show(["page","place","part"]:List Str).Nodup by decide +kernel))) (Dv (by decide)) (λC s₀ H₀ ex=>Fi) (λC s₀ H₀ ex=>(Ak Al (Ak Al (Aa 0) (Aa 1)) (Aa 2))))) (Ai (Eu PassesOwn.never rfl (Pq rfl T.Od (Ac (Aa 7) Ae)) (Em rfl (Bh (Aq 8 Kp.nd) (Bh (Aq 9 Kp.nd) El))) (An (Bw (Hm (Ax (ZSP T) T.Zw hr (Ac (Aa 9) (Ac (Aa 4) (Ac (Aa 5) Ae))))) (An (Bj (Do (Ac Dc (Ac (Aa 8) (Ac (Aa 9) Ae)))))) Cj))) (Ai (Bw (Bs (Dr hr.units) (Cu Eh rfl T.Eb Ei (Ac (Aa 7) Ae)) Af (nomark _)) (An (Bj (Do (Ac Dc (Ac G7 (Ac G7 Ae)))))) Cj) (Ai (Ao 10 Kp.nd (ZJX (Bs (Dr hr.units) (Aa 4) Dc (nomark _)) (Cu (ZHp rfl) rfl T.R0 R3 (Ac (Aa 7) Ae)) (Cu (ZE8 rfl) rfl T.ZA4 ZDS (Ac (Aa 7) Ae)))) (An (Bj (Do (Ac Dc (Ac (Gh PySem.F.slot_list_index PySem.F.type_list_index ZEv (Aa 7) (Ac (Aa 10) Ae)) (Ac (Aa 10) Ae))))))))))))
theorem ZMm(T:Txt K mg):FnO P w K mg base 1 "check_ask" ZB6 Zg:=by
 refine Cg T.Zk.F Ug λcdv A outer s H E hr=>?_
 exact(Ai (Hj (Aa 1) (Em rfl (Bh (Aq 2 Ug.nd) (Bh (Aq 3 Ug.nd) (Bh (Aq 4 Ug.nd) (Bh (Aq 5 Ug.nd) El)))))) (Ai (Bw (Hg (Kl (Bs ZQ6 (Aa 4) (ZQY (ss:=["least","most"]) rfl T.ZA0) (by with_unfolding_all rfl)) (Ky (ZRJ rfl T.We (Aa 2) (by with_unfolding_all rfl))))) (An S9) Cj) (Ai (Bw (Lj (ZGa Vy Jd Af (Aa 3) (Cu Eh rfl T.Eb Ei (Ac (Ak Al (Aa 0) (Cp (v:=(.int 1)) rfl T.Iw ⟨_,rfl⟩ (λ_ _=>rfl))) Ae)))) (An S9) Cj) (An (Bw (Bs (P0 hr.units) (Ak Al (Ak Al (Ak Al (Aa 0) (Cp (v:=(.int 1)) rfl T.Iw ⟨_,rfl⟩ (λ_ _=>rfl))) (Aa 3)) (Cp (v:=(.int 0)) rfl T.O8 ⟨_,rfl⟩ (λ_ _=>rfl))) (ZS7 rfl T.We (Aa 2)) (nomark _)) (An S9) Cj)))))
theorem ZKp(T:Txt K mg):FnO P w K mg base 1 "none_above" ZAk Rr:=by
 refine Cg T.Uj.F ZNT λcdv A outer s H E hr=>?_
 exact(Ai (Bw (Bs (P0 hr.units) (Cu Eh rfl T.Eb Ei (Ac (Aa 0) Ae)) (Cu Eh rfl T.Eb Ei (Ac (Aa 1) Ae)) (nomark _)) (An (Bj Oj)) Cj) (An (Bj (Cu (ZGK rfl) rfl T.ZJi ZGD (Ac (Ck (Hz rfl (Fg (dn:=(Ar Yu).names) (N0:=ZDw) (N:=["number","other"]) (nt:=2) (caps:=[])) (ZAM rfl T.Rm (Ac (Aa 0) (Ac (Aa 1) Ae))) (λC s₀ H₀ ex=>(Em rfl (Bh (Aq 0 (show(["number","other"]:List Str).Nodup by decide +kernel)) (Bh (Aq 1 (show(["number","other"]:List Str).Nodup by decide +kernel)) El)))) (Ng (Ib (Dv (by decide)) (Ib (Dv (by decide)) Nr))) (λC s₀ H₀ ex=>Fi) (λC s₀ H₀ ex=>(Jg Vy (Aa 0) (Aa 1) (nomark _))))) Ae)))))
theorem ZJT(T:Txt K mg):FnO P w K mg base 2 "rows_under" ZBx Ox:=by
 refine Cg T.Tt.F ZLT λcdv A outer s H E hr=>?_
 exact(Ai (Bw (Bs (P0 hr.units) (Cu Eh rfl T.Eb Ei (Ac (Aa 0) Ae)) (Cu Eh rfl T.Eb Ei (Ac (Aa 1) Ae)) (nomark _)) (An (Bj Oj)) Cj) (An (Bj (Cu (ZGK rfl) rfl T.ZJi ZGD (Ac (Ck (Hz rfl (Fg (dn:=(Ar Vk).names) (N0:=ZBd) (N:=["flood","other"]) (nt:=2) (caps:=[])) (ZAM rfl T.Rm (Ac (Aa 0) (Ac (Aa 1) Ae))) (λC s₀ H₀ ex=>(Em rfl (Bh (Aq 0 (show(["flood","other"]:List Str).Nodup by decide +kernel)) (Bh (Aq 1 (show(["flood","other"]:List Str).Nodup by decide +kernel)) El)))) (Ng (Ib (Dv (by decide)) (Ib (Dv (by decide)) Nr))) (λC s₀ H₀ ex=>Fi) (λC s₀ H₀ ex=>(Ax (ZKp T) T.Uj hr (Ac (Aa 0) (Ac (Aa 1) Ae)))))) Ae)))))
theorem ZMV(T:Txt K mg):FnO P w K mg base 3 "under" ZCg Wb:=by
 refine Cg T.Vf.F Tc λcdv A outer s H E hr=>?_
 exact(Ai (Hj (Aa 0) (Em rfl (Bh (Aq 2 Tc.nd) (Bh (Aq 3 Tc.nd) El)))) (Ai (Hj (Aa 1) (Em rfl (Bh (Aq 4 Tc.nd) (Bh (Aq 5 Tc.nd) El)))) (An (Bj (ZEV (Ax (ZKp T) T.Uj hr (Ac (Aa 2) (Ac (Aa 4) Ae))) (Wu (Ax (ZJT T) T.Tt hr (Ac (Aa 3) (Ac (Aa 5) Ae)))))))))
theorem ZPm(T:Txt K mg):FnO P w K mg base 4 "check_bounds" ZD1 Yc:=by
 refine Cg T.W7.F ZLW λcdv A outer s H E hr=>?_
 exact(An (Bw (Hg (Kl (Lj (Hm (Ax (ZMV T) T.Vf hr (Ac (Aa 0) (Ac (Aa 1) Ae))))) (Ky (Lj (Hm (Ax (ZJT T) T.Tt hr (Ac (Aa 2) (Ac (Aa 3) Ae)))))))) (An S9) Cj))
theorem ZOz(T:Txt K mg):FnO P w K mg base 1 "looked_through" ZBa Yl:=by
 refine Cg T.ZAE.F Ud λcdv A outer s H E hr=>?_
 exact(Ai (Hj (Aa 4) (Em rfl (Bh (Aq 5 Ud.nd) (Bh (Aq 6 Ud.nd) (Bh (Aq 7 Ud.nd) (Bh (Aq 8 Ud.nd) El)))))) (Ai (Bw (Bs (Dr hr.units) (Aa 7) Dc (nomark _)) (An (Bj (Do (Ac (Aa 0) (Ac (Aa 2) Ae))))) Cj) (An (Bj (Do (Ac (Aa 1) (Ac (Aa 3) Ae)))))))
theorem ZMH(T:Txt K mg):MtO P w K mg base 1 "Course" "__init__" ZCv Ss:=by
 refine Cg T.Rk.F ZC3 λcdv A outer s H E hr=>?_
 exact(Ai (Hj (Aa 2) (Em rfl (Bh (Aq 5 ZC3.nd) (Bh (Aq 6 ZC3.nd) El)))) (Ai (O5 T.Ba.N T.Ba.cl T.Kg (Aa 0) (Aa 1)) (Ai (O5 T.Ba.N T.Ba.cl T.Xw (Aa 0) (Aa 5)) (Ai (O5 T.Ba.N T.Ba.cl T.Xq (Aa 0) (Ag Bx (Aa 3) (Ak Al (Aa 1) (Cp (v:=(.int 0)) rfl T.ZDN ⟨_,rfl⟩ (λ_ _=>rfl))))) (Ai (O5 T.Ba.N T.Ba.cl T.R4 (Aa 0) (Hz rfl (Fg (dn:=(Ar T7).names) (N0:=Wl) (N:=["cubes","ahead"]) (nt:=2) (caps:=[])) (ZAM rfl T.Rm (Ac (Aa 4) (Ac (Aa 6) Ae))) (λC s₀ H₀ ex=>(Em rfl (Bh (Aq 0 (show(["cubes","ahead"]:List Str).Nodup by decide +kernel)) (Bh (Aq 1 (show(["cubes","ahead"]:List Str).Nodup by decide +kernel)) El)))) (Ng (Ib (Dv (by decide)) (Ib (Dv (by decide)) Nr))) (λC s₀ H₀ ex=>Fi) (λC s₀ H₀ ex=>(Ag Bc (Aa 0) (Ak Al (Aa 1) Af))))) (Ai (O5 T.Ba.N T.Ba.cl T.Sg (Aa 0) (Hz rfl (Fg (dn:=(Ar T7).names) (N0:=Wl) (N:=["ahead"]) (nt:=1) (caps:=[])) (Gn (Aa 6)) (λC s₀ H₀ ex=>(Aq 0 (show(["ahead"]:List Str).Nodup by decide +kernel))) (Dv (by decide)) (λC s₀ H₀ ex=>Fi) (λC s₀ H₀ ex=>(Gf (Ag Bc (Ck (Gr (ZAp rfl) rfl T.Vq Xe (Ac (Ck (ZFo (Aa 0) (ZKX Af) ZHJ)) Ae))) (Ck (Es (Ac Af Ae)))))))) (Ai (O5 T.Ba.N T.Ba.cl T.O3 (Aa 0) (Gf (Ag ZE9 (Es (Ac G7 Ae)) (Cu Eh rfl T.Eb Ei (Ac (Aa 5) Ae))))) (An (O5 T.Ba.N T.Ba.cl T.Xp (Aa 0) (Gf (Es Ae)))))))))))
theorem ZKU(T:Txt K mg):MtO P w K mg base 1 "Course" "send" ZDT Ul:=by
 refine Cg T.Nh.F ZQo λcdv A outer s H E hr=>?_
 exact(An (Bw (Bs (Dr hr.units) (Aa 2) Af (nomark _)) (An (Wk (Gi T.Ba.N T.Ba.cl T.R4 (Aa 0)) (Aa 1) (Aa 3) Rf)) (An (Wk (Ak Al (Gi T.Ba.N T.Ba.cl T.Sg (Aa 0)) (Aa 1)) (Ag H8 (Aa 2) Af) (Aa 3) Rf))))
theorem ZFk(T:Txt K mg):FnO P w K mg base 1 "number_of" ZBq Ui:=by
 refine Cg T.Rj.F ZCy λcdv A outer s H E hr=>?_
 exact(Ai (Eu PassesOwn.never rfl (Pq rfl T.Od (Ac (Ak Al (Aa 0) (Cp (v:=(.int 1)) rfl T.Iw ⟨_,rfl⟩ (λ_ _=>rfl))) Ae)) (Em rfl (Bh (Aq 2 ZCy.nd) (Bh (Aq 3 ZCy.nd) El))) (An (Bw (Bs (Dr hr.units) (Ak Al (Aa 3) (Cp (v:=(.int 1)) rfl T.ZEc ⟨_,rfl⟩ (λ_ _=>rfl))) (Aa 1) (nomark _)) (An (Bj (Aa 2))) Cj))) (An S9))
theorem ZGG(T:Txt K mg):FnO P w K mg base 2 "down_of" ZBG Tv:=by
 refine Cg T.U6.F ZI9 λcdv A outer s H E hr=>?_
 exact(Ai (Ao 2 ZI9.nd (Ak Al (Ak Al (Ak Al (Aa 0) (Cp (v:=(.int 1)) rfl T.Iw ⟨_,rfl⟩ (λ_ _=>rfl))) (Aa 1)) (Cp (v:=(.int 2)) rfl T.ZEL ⟨_,rfl⟩ (λ_ _=>rfl)))) (Ai (Bw (Bs (Dr hr.units) (Aa 2) (Cp (v:=(.str "sea")) rfl T.ZDR ⟨_,rfl⟩ (λ_ _=>rfl)) (nomark _)) (An (Bj G7)) Cj) (An (Bj (Ax (ZFk T) T.Rj hr (Ac (Aa 0) (Ac (Aa 2) Ae)))))))
theorem ZIg(T:Txt K mg):MtO P w K mg base 3 "Course" "send_down" ZCJ Tw:=by
 refine Cg T.Ot.F ZIK λcdv A outer s H E hr=>?_
 exact(Ai (Ao 3 ZIK.nd (Ax (ZGG T) T.U6 hr (Ac (Gi T.Ba.N T.Ba.cl T.Kg (Aa 0)) (Ac (Aa 1) Ae)))) (An (Bw (Bs Pu (Aa 3) G7 (nomark _)) (An (Er (Qh T.Ba.N T.Ba.cl T.Nh.me (ZKU T) (hr.mono (by decide)) T.Nh.b pass0 (Aa 0) (Ac (Aa 3) (Ac (Ak Al (Ak Al (Ak Al (Gi T.Ba.N T.Ba.cl T.Kg (Aa 0)) (Cp (v:=(.int 1)) rfl T.Iw ⟨_,rfl⟩ (λ_ _=>rfl))) (Aa 1)) (Cp (v:=(.int 3)) rfl T.Ye ⟨_,rfl⟩ (λ_ _=>rfl))) (Ac (Aa 2) Ae)))))) Cj)))
theorem ZM5(T:Txt K mg):FnO P w K mg base 1 "opened" ZEM X8:=by
 refine Cg T.Y6.F Lk λcdv A outer s H E hr=>?_
 exact(Ai (Ao 2 Lk.nd Af) (Ai (Ao 3 Lk.nd Af) (Ai (Eu PassesOwn.never rfl (Gn (Aa 0)) (Em rfl (Bh (Aq 4 Lk.nd) (Bh (Aq 5 Lk.nd) (Bh (Aq 6 Lk.nd) El)))) (Ai (Ao 7 Lk.nd (Cu (ZPf rfl) rfl T.ZA4 ZDS (Ac Af (Ac (Cu (Wz rfl) rfl T.R0 R3 (Ac (Aa 5) (Ac (Ag H8 (Aa 1) (Aa 4)) Ae))) Ae)))) (An (Bw (Bs (Dr hr.units) (Aa 6) Dc (nomark _)) (An (ZIw 2 Lk.nd (Aa 7) Rf)) (An (ZIw 3 Lk.nd (Aa 7) Rf)))))) (An (Bj (Do (Ac (Aa 2) (Ac (Aa 3) (Ac (Ag H8 (Ag H8 (Aa 1) (Aa 2)) (Aa 3)) Ae)))))))))
theorem ZQc(T:Txt K mg):FnO P w K mg base 1 "stairs_at" ZCO Zn:=by
 refine Cg T.Zr.F U8 λcdv A outer s H E hr=>?_
 exact(Ai (Ao 2 U8.nd (Do Ae)) (Ai (Eu PassesOwn.never rfl (Gn (Aa 0)) (Em rfl (Bh (Aq 3 U8.nd) (Bh (Aq 4 U8.nd) El))) (An (Bw (Bs Vy (Aa 3) (Aa 1) (nomark _)) (An (Ao 2 U8.nd (Aa 4))) Cj))) (An (Bj (Aa 2)))))
theorem ZMk(T:Txt K mg):MtO P w K mg base 4 "Course" "go_basin" ZBC X5:=by
 refine Cg T.Sd.F M6 λcdv A outer s H E hr=>?_
 exact(Ai (Ao 2 M6.nd (Ak Al (Ak Al (Gi T.Ba.N T.Ba.cl T.Kg (Aa 0)) (Cp (v:=(.int 1)) rfl T.Iw ⟨_,rfl⟩ (λ_ _=>rfl))) (Aa 1))) (Ai (Ao 3 M6.nd (Ak Al (Gi T.Ba.N T.Ba.cl T.R4 (Aa 0)) (Aa 1))) (Ai (Hj (Ax (ZM5 T) T.Y6 hr (Ac (Ax (ZQc T) T.Zr hr (Ac (Ak Al (Aa 2) (Cp (v:=(.int 5)) rfl T.ZC8 ⟨_,rfl⟩ (λ_ _=>rfl))) (Ac (Gi T.Ba.N T.Ba.cl T.Xq (Aa 0)) Ae))) (Ac (Ag Bc (Ak Al (Gi T.Ba.N T.Ba.cl T.Xw (Aa 0)) (Aa 1)) (Aa 3)) Ae))) (Em rfl (Bh (Aq 4 M6.nd) (Bh (Aq 5 M6.nd) (Bh (Aq 6 M6.nd) El))))) (Ai (Ao 7 M6.nd (Cu (Wz rfl) rfl T.R0 R3 (Ac (Aa 6) (Ac (Ak Al (Aa 2) (Cp (v:=(.int 4)) rfl T.ZAt ⟨_,rfl⟩ (λ_ _=>rfl))) Ae)))) (Ai (Ao 8 M6.nd (Ag H8 (Aa 6) (Aa 7))) (Ai (Hj (Do (Ac (Aa 3) (Ac Af (Ac (Aa 8) (Ac (Aa 4) (Ac (Aa 5) (Ac (Aa 7) Ae))))))) (Xv (Gi T.Ba.N T.Ba.cl T.O3 (Aa 0)) (Aa 1))) (Ai (Er (Qh T.Ba.N T.Ba.cl T.Ot.me (ZIg T) (hr.mono (by decide)) T.Ot.b pass0 (Aa 0) (Ac (Aa 1) (Ac (Ag Bc (Aa 4) (Aa 8)) Ae)))) (An (Bw (Bs Pu (Ak Al (Aa 2) (Cp (v:=(.int 6)) rfl T.Rn ⟨_,rfl⟩ (λ_ _=>rfl))) G7 (nomark _)) (An (Er (Qh T.Ba.N T.Ba.cl T.Nh.me (ZKU T) (hr.mono (by decide)) T.Nh.b pass0 (Aa 0) (Ac (Ax (ZFk T) T.Rj hr (Ac (Gi T.Ba.N T.Ba.cl T.Kg (Aa 0)) (Ac (Ak Al (Ak Al (Aa 2) (Cp (v:=(.int 6)) rfl T.Rn ⟨_,rfl⟩ (λ_ _=>rfl))) (Cp (v:=(.int 0)) rfl T.ZCB ⟨_,rfl⟩ (λ_ _=>rfl))) Ae))) (Ac (Ak Al (Ak Al (Aa 2) (Cp (v:=(.int 6)) rfl T.Rn ⟨_,rfl⟩ (λ_ _=>rfl))) (Cp (v:=(.int 1)) rfl T.ZDr ⟨_,rfl⟩ (λ_ _=>rfl))) (Ac (Aa 5) Ae)))))) Cj)))))))))
theorem ZI2(T:Txt K mg):FnO P w K mg base 1 "passed" ZB7 Qn:=by
 refine Cg T.Ur.F Vn λcdv A outer s H E hr=>?_
 exact(Ai (Mj 2 rfl Vn.nd (Fg (dn:=(Ar Wj).names) (N0:=ZDj) (N:=["row","take"]) (nt:=2) (caps:=[])) (ZAM rfl T.Rm (Ac (Aa 0) (Ac (Aa 1) Ae))) (λC s₀ H₀ ex=>(Em rfl (Bh (Aq 0 (show(["row","take"]:List Str).Nodup by decide +kernel)) (Bh (Aq 1 (show(["row","take"]:List Str).Nodup by decide +kernel)) El)))) (Ng (Ib (Dv (by decide)) (Ib (Dv (by decide)) Nr))) (λC s₀ H₀ ex=>Fi) (λC s₀ H₀ ex=>(Ag H8 (Ak Al (Aa 0) (Cp (v:=(.int 1)) rfl T.ZCw ⟨_,rfl⟩ (λ_ _=>rfl))) (Aa 1)))) (Ai (Eu PassesOwn.never rfl (Pq rfl T.Od (Ac (Aa 0) Ae)) (Em rfl (Bh (Aq 4 Vn.nd) (Bh (Aq 3 Vn.nd) El))) (An (Bw (Bs Pu (Ak Al (Aa 3) (Cp (v:=(.int 0)) rfl T.Qo ⟨_,rfl⟩ (λ_ _=>rfl))) G7 (nomark _)) (An (Wk (Aa 2) (Ak Al (Aa 3) (Cp (v:=(.int 0)) rfl T.Qo ⟨_,rfl⟩ (λ_ _=>rfl))) (Ak Al (Aa 2) (Aa 4)) Rf)) Cj))) (An (Bj (Aa 2)))))
theorem ZG3(T:Txt K mg):FnO P w K mg base 3 "down_in_reach" ZD3 Tf:=by
 refine Cg T.Rv.F ZEF λcdv A outer s H E hr=>?_
 exact(Ai (Ao 2 ZEF.nd (Ak Al (Aa 0) (Cp (v:=(.int 1)) rfl T.Iw ⟨_,rfl⟩ (λ_ _=>rfl)))) (Ai (Ao 3 ZEF.nd (Ax (ZGG T) T.U6 hr (Ac (Aa 0) (Ac (Aa 1) Ae)))) (Ai (Bw (Hg (Kl (Bs W6 (Aa 3) G7 (nomark _)) (Ky (Bs La (Ak Al (Ak Al (Aa 2) (Aa 1)) (Cp (v:=(.int 3)) rfl T.Ye ⟨_,rfl⟩ (λ_ _=>rfl))) Af (nomark _))))) (An (Bj G7)) Cj) (Ai (Bw (Hg (Kl (Bs (Dr hr.units) (Ak Al (Ak Al (Aa 2) (Aa 1)) (Cp (v:=(.int 0)) rfl T.O8 ⟨_,rfl⟩ (λ_ _=>rfl))) Dc (nomark _)) (Ky (Bs (Dr hr.units) (Ak Al (Ak Al (Aa 2) (Aa 3)) (Cp (v:=(.int 0)) rfl T.O8 ⟨_,rfl⟩ (λ_ _=>rfl))) Dc (nomark _))))) (An (Bj G7)) Cj) (An (Bj (Aa 3)))))))
theorem ZM8(T:Txt K mg):FnO P w K mg base 4 "reach_rows" ZBW Ve:=by
 refine Cg T.V5.F Qu λcdv A outer s H E hr=>?_
 exact(Ai (Ao 3 Qu.nd (Gf (Es Ae))) (Ai (Eu PassesOwn.never rfl (Gn (Aa 1)) (Aq 4 Qu.nd) (Ai (Ao 5 Qu.nd (Ak Al (Ak Al (Aa 0) (Cp (v:=(.int 1)) rfl T.Iw ⟨_,rfl⟩ (λ_ _=>rfl))) (Aa 4))) (Ai (Ao 6 Qu.nd (Ax (ZG3 T) T.Rv hr (Ac (Aa 0) (Ac (Aa 4) Ae)))) (Ai (Ao 7 Qu.nd (ZJX (Bs W6 (Aa 6) G7 (nomark _)) G7 (Gh PySem.F.slot_list_index PySem.F.type_list_index ZEv (Aa 1) (Ac (Aa 6) Ae)))) (An (Bw (Bs (Dr hr.units) (Ak Al (Aa 5) (Cp (v:=(.int 0)) rfl T.O8 ⟨_,rfl⟩ (λ_ _=>rfl))) Dc (nomark _)) (An (Er (Gh PySem.F.slot_list_append PySem.F.type_list_append Gy (Aa 3) (Ac (Do (Ac (Aa 7) (Ac (Ak Al (Aa 2) (Aa 4)) (Ac (Ak Al (Aa 5) (Cp (v:=(.int 4)) rfl T.ZCD ⟨_,rfl⟩ (λ_ _=>rfl))) (Ac (Ak Al (Aa 5) (Cp (v:=(.int 5)) rfl T.ZAw ⟨_,rfl⟩ (λ_ _=>rfl))) Ae))))) Ae)))) (An (Er (Gh PySem.F.slot_list_append PySem.F.type_list_append Gy (Aa 3) (Ac (Do (Ac (Aa 7) (Ac (Ak Al (Aa 2) (Aa 4)) (Ac Af (Ac Af Ae))))) Ae)))))))))) (An (Bj (Aa 3)))))
theorem ZSw(T:Txt K mg):FnO P w K mg base 1 "served" ZAe Yh:=by
 refine Cg T.Zx.F ZGy λcdv A outer s H E hr=>?_
 exact(Ai (Ao 1 ZGy.nd (Ck (Cu ZRb rfl T.ZSa ZLj (Ac (Ck (Hz rfl (Fg (dn:=(Ar Ry).names) (N0:=Vz) (N:=["number","row"]) (nt:=2) (caps:=[])) (Pq rfl T.Od (Ac (Aa 0) Ae)) (λC s₀ H₀ ex=>(Em rfl (Bh (Aq 0 (show(["number","row"]:List Str).Nodup by decide +kernel)) (Bh (Aq 1 (show(["number","row"]:List Str).Nodup by decide +kernel)) El)))) (Ng (Ib (Dv (by decide)) (Ib (Dv (by decide)) Nr))) (λC s₀ H₀ ex=>Fi) (λC s₀ H₀ ex=>(Do (Ac (Ak Al (Aa 1) (Cp (v:=(.int 3)) rfl T.ZDl ⟨_,rfl⟩ (λ_ _=>rfl))) (Ac (Aa 0) Ae)))))) Ae)))) (An (Bj (Hz rfl (Fg (dn:=(Ar Ry).names) (N0:=Vz) (N:=["rank","number"]) (nt:=2) (caps:=[])) (Gn (Aa 1)) (λC s₀ H₀ ex=>(Em rfl (Bh (Aq 0 (show(["rank","number"]:List Str).Nodup by decide +kernel)) (Bh (Aq 1 (show(["rank","number"]:List Str).Nodup by decide +kernel)) El)))) (Ng (Ib (Dv (by decide)) (Ib (Dv (by decide)) Nr))) (λC s₀ H₀ ex=>Fi) (λC s₀ H₀ ex=>(Aa 1))))))
theorem ZNH(T:Txt K mg):FnO P w K mg base 1 "way_down" ZBp Yi:=by
 refine Cg T.Yx.F Zo λcdv A outer s H E hr=>?_
 exact(Ai (Ao 2 Zo.nd (Gf (Es (Ac (Aa 1) Ae)))) (Ai (Ao 3 Zo.nd (Ak Al (Ak Al (Aa 0) (Aa 1)) (Cp (v:=(.int 0)) rfl T.Qo ⟨_,rfl⟩ (λ_ _=>rfl)))) (Ai (ZQ9 fuel PassesOwn.never (Bs Pu (Aa 3) G7 (nomark _)) (Ai (Er (Gh PySem.F.slot_list_append PySem.F.type_list_append Gy (Aa 2) (Ac (Aa 3) Ae))) (An (Ao 3 Zo.nd (Ak Al (Ak Al (Aa 0) (Aa 3)) (Cp (v:=(.int 0)) rfl T.Qo ⟨_,rfl⟩ (λ_ _=>rfl))))))) (An (Bj (Aa 2))))))
theorem ZKv(T:Txt K mg):FnO P w K mg base 2 "shares" ZDx ZAQ:=by
 refine Cg T.ZAS.F Ol λcdv A outer s H E hr=>?_
 exact(Ai (Ao 1 Ol.nd (Gf (Ag ZE9 (Es (Ac Af Ae)) (Cu Eh rfl T.Eb Ei (Ac (Aa 0) Ae))))) (Ai (Ao 2 Ol.nd (Gf (Ax (ZI2 T) T.Ur hr (Ac (Aa 0) (Ac (Aa 1) Ae))))) (Ai (Eu PassesOwn.never rfl (Gn (Ck (Ax (ZSw T) T.Zx hr (Ac (Aa 0) Ae)))) (Aq 3 Ol.nd) (Ai (Ao 4 Ol.nd (Ck (Ax (ZNH T) T.Yx hr (Ac (Aa 0) (Ac (Aa 3) Ae))))) (Ai (Ao 5 Ol.nd (Cu (Wz rfl) rfl T.R0 R3 (Ac (Ak Al (Ak Al (Aa 0) (Aa 3)) (Cp (v:=(.int 2)) rfl T.ZBl ⟨_,rfl⟩ (λ_ _=>rfl))) (Ac (Cu (ZHp rfl) rfl T.R0 R3 (Ac (Ck (Hz rfl (Fg (dn:=(Ar Yy).names) (N0:=ZDn) (N:=["below","passing"]) (nt:=1) (caps:=[2])) (Gn (Aa 4)) (λC s₀ H₀ ex=>(Aq 0 (show(["below","passing"]:List Str).Nodup by decide +kernel))) (Dv (by decide)) (λC s₀ H₀ ex=>Fi) (λC s₀ H₀ ex=>(Ak Al (Aa 1) (Aa 0))))) Ae)) Ae)))) (Ai (Hj (Aa 5) (Xv (Aa 1) (Aa 3))) (An (Eu PassesOwn.never rfl (Gn (Aa 4)) (Aq 6 Ol.nd) (An (Wk (Aa 2) (Aa 6) (Aa 5) ZSC)))))))) (An (Bj (Aa 1))))))
theorem ZSX(T:Txt K mg):MtO P w K mg base 5 "Course" "go_reach" ZBr Xl:=by
 refine Cg T.Uo.F Pn λcdv A outer s H E hr=>?_
 exact(Ai (Ao 2 Pn.nd (Ck (Ax (ZM8 T) T.V5 hr (Ac (Gi T.Ba.N T.Ba.cl T.Kg (Aa 0)) (Ac (Aa 1) (Ac (Gi T.Ba.N T.Ba.cl T.R4 (Aa 0)) Ae)))))) (Ai (Ao 3 Pn.nd (Ck (Ax (ZKv T) T.ZAS hr (Ac (Aa 2) Ae)))) (Ai (Eu PassesOwn.never rfl (ZQl rfl T.Rm (Ac (Aa 1) (Ac (Aa 3) (Ac (Ck (Ax (ZI2 T) T.Ur hr (Ac (Aa 2) (Ac (Aa 3) Ae)))) Ae)))) (Em rfl (Bh (Aq 4 Pn.nd) (Bh (Aq 5 Pn.nd) (Bh (Aq 6 Pn.nd) El)))) (Ai (Hj (Do (Ac (Ag Bc (Aa 5) (Aa 6)) (Ac (Aa 5) (Ac Af (Ac (Aa 6) (Ac Af (Ac Af Ae))))))) (Xv (Gi T.Ba.N T.Ba.cl T.O3 (Aa 0)) (Aa 4))) (An (Bw (Bs (Dr hr.units) (Aa 4) (Ak Al (Aa 1) (ZAl ZA1 Af)) (nomark _)) (An (Er (Qh T.Ba.N T.Ba.cl T.Ot.me (ZIg T) (hr.mono (by decide)) T.Ot.b pass0 (Aa 0) (Ac (Aa 4) (Ac (Aa 6) Ae))))) Cj)))) (An (Er (Gh PySem.F.slot_list_append PySem.F.type_list_append Gy (Gi T.Ba.N T.Ba.cl T.Xp (Aa 0)) (Ac (Gf (Do (Ac (Aa 1) (Ac (Aa 2) Ae)))) Ae)))))))
theorem ZP7(T:Txt K mg):FnO P w K mg base 4 "lasts_of_reaches" ZBJ Z5:=by
 refine Cg T.Z7.F Vv λcdv A outer s H E hr=>?_
 exact(Ai (Ao 1 Vv.nd (Gf (ZNb rfl rfl T.Vq rfl T.Gk (Ac (Cu Eh rfl T.Eb Ei (Ac (Ak Al (Aa 0) (Cp (v:=(.int 1)) rfl T.Iw ⟨_,rfl⟩ (λ_ _=>rfl))) Ae)) Ae)))) (Ai (Eu PassesOwn.never rfl (ZPg rfl T.Gk (Ac (Ag H8 (Cu Eh rfl T.Eb Ei (Ac (Ak Al (Aa 0) (Cp (v:=(.int 1)) rfl T.Iw ⟨_,rfl⟩ (λ_ _=>rfl))) Ae)) Af) (Ac (ZAl ZA1 Af) (Ac (ZAl ZA1 Af) Ae)))) (Aq 2 Vv.nd) (Ai (Ao 3 Vv.nd (Ax (ZG3 T) T.Rv hr (Ac (Aa 0) (Ac (Aa 2) Ae)))) (An (Bw (Bs Pu (Aa 3) G7 (nomark _)) (An (Hj (Ak Al (Aa 1) (Aa 3)) (Xv (Aa 1) (Aa 2)))) Cj)))) (An (Bj (Aa 1)))))
theorem ZLV(T:Txt K mg):MtO P w K mg base 6 "Course" "go" ZD4 Xc:=by
 refine Cg T.U9.F Yq λcdv A outer s H E hr=>?_
 exact(Ai (Ao 1 Yq.nd (Ck (Ax (ZP7 T) T.Z7 hr (Ac (Gi T.Ba.N T.Ba.cl T.Kg (Aa 0)) Ae)))) (An (Eu PassesOwn.never rfl (Pq rfl T.Od (Ac (Aa 1) Ae)) (Em rfl (Bh (Aq 2 Yq.nd) (Bh (Aq 3 Yq.nd) El))) (An (Bw (Bs (Dr hr.units) (Ak Al (Ak Al (Ak Al (Gi T.Ba.N T.Ba.cl T.Kg (Aa 0)) (Cp (v:=(.int 1)) rfl T.Iw ⟨_,rfl⟩ (λ_ _=>rfl))) (Aa 2)) (Cp (v:=(.int 0)) rfl T.O8 ⟨_,rfl⟩ (λ_ _=>rfl))) Dc (nomark _)) (An (Er (Qh T.Ba.N T.Ba.cl T.Sd.me (ZMk T) (hr.mono (by decide)) T.Sd.b pass0 (Aa 0) (Ac (Aa 2) Ae)))) (An (Bw (Bs (Dr hr.units) (Aa 3) (Aa 2) (nomark _)) (An (Er (Qh T.Ba.N T.Ba.cl T.Uo.me (ZSX T) (hr.mono (by decide)) T.Uo.b pass0 (Aa 0) (Ac (Ck (Hz rfl (Fg (dn:=(Ar ZAZ).names) (N0:=ZBj) (N:=["member","end","number"]) (nt:=2) (caps:=[2])) (Pq rfl T.Od (Ac (Aa 1) Ae)) (λC s₀ H₀ ex=>(Em rfl (Bh (Aq 0 (show(["member","end","number"]:List Str).Nodup by decide +kernel)) (Bh (Aq 1 (show(["member","end","number"]:List Str).Nodup by decide +kernel)) El)))) (Ng (Ib (Dv (by decide)) (Ib (Dv (by decide)) Nr))) (λC s₀ H₀ ex=>(ZPG (Bs (Dr hr.units) (Aa 1) (Aa 2) (nomark _)))) (λC s₀ H₀ ex=>(Aa 0)))) Ae)))) Cj)))))))
theorem ZQR(T:Txt K mg):MtO P w K mg base 1 "Course" "state_behind" ZDp Vp:=by
 refine Cg T.Tz.F ZPC λcdv A outer s H E hr=>?_
 exact(An (Bj (Do (Ac (Gr Hi rfl T.Hf H9 (Ac (Ck (Hz rfl (Fg (dn:=(Ar Su).names) (N0:=Wg) (N:=["row"]) (nt:=1) (caps:=[])) (Gn (Gi T.Ba.N T.Ba.cl T.O3 (Aa 0))) (λC s₀ H₀ ex=>(Aq 0 (show(["row"]:List Str).Nodup by decide +kernel))) (Dv (by decide)) (λC s₀ H₀ ex=>Fi) (λC s₀ H₀ ex=>(Ak Al (Aa 0) (Cp (v:=(.int 5)) rfl T.Yt ⟨_,rfl⟩ (λ_ _=>rfl)))))) Ae)) (Ac (Gr Hi rfl T.Hf H9 (Ac (Ck (Hz rfl (Fg (dn:=(Ar Su).names) (N0:=Wg) (N:=["ahead"]) (nt:=1) (caps:=[])) (Gn (Gi T.Ba.N T.Ba.cl T.Sg (Aa 0))) (λC s₀ H₀ ex=>(Aq 0 (show(["ahead"]:List Str).Nodup by decide +kernel))) (Dv (by decide)) (λC s₀ H₀ ex=>Fi) (λC s₀ H₀ ex=>(Gr Hi rfl T.Hf H9 (Ac (Aa 0) Ae))))) Ae)) Ae)))))
theorem ZTK(T:Txt K mg):FnO P w K mg base 7 "turn" ZB4 Y7:=by
 refine Cg T.Yk.F ZIx λcdv A outer s H E hr=>?_
 exact(Ai (Ao 4 ZIx.nd (ZRk T.Ba.N T.Ba.mK (ZMH T) (hr.mono (by decide)) rfl T.Ba.g T.Rk.b pass0 (Ac (Aa 0) (Ac (Aa 1) (Ac (Aa 2) (Ac (Aa 3) Ae)))))) (Ai (Er (ZFp T.Ba.N T.Ba.cl T.U9.me (ZLV T) (hr.mono (by decide)) T.U9.b pass0 (Aa 4))) (An (Bj (Do (Ac (Gr Hi rfl T.Hf H9 (Ac (Gi T.Ba.N T.Ba.cl T.O3 (Aa 4)) Ae)) (Ac (ZFp T.Ba.N T.Ba.cl T.Tz.me (ZQR T) (hr.mono (by decide)) T.Tz.b pass0 (Aa 4)) Ae)))))))
theorem ZBT(T:Txt K mg):FnO P w K mg base 8 "run" ZDi Mp:=by
 refine Cg T.Ra.F Qg λcdv A outer s H E hr=>?_
 exact(Ai (Ao 4 Qg.nd (Gf (Es Ae))) (Ai (Eu PassesOwn.never rfl (ZL1 rfl T.Od (Ac (Aa 3) Ae) (Aa 2)) (Em rfl (Bh (Aq 5 Qg.nd) (Bh (Aq 6 Qg.nd) El))) (Ai (Hj (Ax (ZTK T) T.Yk hr (Ac (Aa 0) (Ac (Aa 1) (Ac (Aa 5) (Ac (Aa 6) Ae))))) (Em rfl (Bh (Aq 7 Qg.nd) (Bh (Aq 1 Qg.nd) El)))) (An (Er (Gh PySem.F.slot_list_append PySem.F.type_list_append Gy (Aa 4) (Ac (Aa 7) Ae)))))) (An (Bj (Do (Ac (Aa 4) (Ac (Aa 1) Ae)))))))
theorem ZQC(T:Txt K mg):FnO P w K mg base 9 "look" ZDa Rh:=by
 refine Cg T.Zt.F Tu λcdv A outer s H E hr=>?_
 exact(Ai (Er (Ax (ZMm T) T.Zk hr (Ac (Aa 0) (Ac (Aa 6) Ae)))) (Ai (Er (Ax (ZPm T) T.W7 hr (Ac (Aa 1) (Ac (Aa 2) (Ac (Aa 4) (Ac (Aa 5) Ae)))))) (Ai (Hj (Ax (ZOz T) T.ZAE hr (Ac (Aa 1) (Ac (Aa 2) (Ac (Aa 4) (Ac (Aa 5) (Ac (Aa 6) Ae)))))) (Em rfl (Bh (Aq 7 Tu.nd) (Bh (Aq 8 Tu.nd) El)))) (Ai (Hj (Ck (Ax (ZBT T) T.Ra hr (Ac (Aa 0) (Ac (Aa 7) (Ac (Aa 3) (Ac (Aa 8) Ae)))))) (Em rfl (Bh (Aq 9 Tu.nd) (Bh (Aq 10 Tu.nd) El)))) (An (Bj (Ax (ZTD T) T.X7 hr (Ac (Aa 9) (Ac (Aa 6) Ae)))))))))
theorem ZNy(T:Txt K mg):FnO P w K mg base 10 "law" ZDG Og:=by
 refine Cg T.Tq.F J0 λcdv A outer s H E hr=>?_
 exact(Ai (Ao 1 J0.nd (Ax (ZTO T) T.W4 hr (Ac (Aa 0) Ae))) (Ai (Ao 2 J0.nd (Ax (ZQt T) T.Yz hr (Ac (Aa 0) Ae))) (Ai (Ao 3 J0.nd (Ax (ZSZ T) T.Ym hr (Ac (Aa 0) (Ac (Aa 1) Ae)))) (Ai (Ao 4 J0.nd (Ck (Ax (ZOx T) T.Vc hr (Ac (Aa 0) (Ac (Aa 1) (Ac (Ag Bx (Ax (Ez T) T.Ec hr (Ac (Aa 0) (Ac Af Ae))) Af) Ae)))))) (Ai (Hj (Ck (Ax (ZMy T) T.Yv hr (Ac (Aa 0) (Ac (Aa 1) (Ac (Aa 3) (Ac (Aa 4) Ae)))))) (Em rfl (Bh (Aq 5 J0.nd) (Bh (Aq 6 J0.nd) El)))) (Ai (Ao 7 J0.nd (Ck (Ax (ZQW T) T.Zz hr (Ac (Aa 0) (Ac (Aa 1) Ae))))) (Ai (Bw (Bs W6 (Aa 7) G7 (nomark _)) (An (Bj Oj)) Cj) (Ai (Ao 8 J0.nd (Ck (Es (Ac (Ck (Gr (ZAp rfl) rfl T.Vq Xe (Ac (Aa 4) Ae))) (Ac (Ck (Gr (ZAp rfl) rfl T.Vq Xe (Ac (Aa 6) Ae))) Ae))))) (Ai (Ao 9 J0.nd (Ax (ZQC T) T.Zt hr (Ac (Aa 1) (Ac (Aa 3) (Ac (Aa 5) (Ac (Aa 2) (Ac (Ak Al (Aa 8) Af) (Ac (Ak Al (Aa 8) Af) (Ac (Aa 7) Ae))))))))) (Ai (Bw (Hg (Kl (Bs (P0 hr.units) (Aa 8) (Ck (Es (Ac (Aa 4) (Ac (Aa 6) Ae)))) (nomark _)) (Ky (Lj (Hm (Ax (ZKt T) T.Vw hr (Ac (Aa 9) Ae))))))) (An (Bj Oj)) Cj) (Ai (Ao 10 J0.nd (Ak Al (Ck (Ax (ZBT T) T.Ra hr (Ac (Aa 1) (Ac (Aa 3) (Ac (Aa 2) (Ac (Aa 4) Ae)))))) Af)) (Ai (Bw (Bs (Dr hr.units) (Ak Al (Aa 7) Af) Dc (nomark _)) (An (Ao 10 J0.nd (Ak Al (Ck (Ax (ZBT T) T.Ra hr (Ac (Aa 1) (Ac (Aa 5) (Ac (Aa 2) (Ac (Aa 6) Ae)))))) Af))) Cj) (Ai (Lw (Mj 11 rfl J0.nd (Fg (dn:=(Ar J6).names) (N0:=ZD0) (N:=["_law_page","_law_ask_here"]) (nt:=1) (caps:=[7])) (Gn (Aa 10)) (λC s₀ H₀ ex=>(Aq 0 (show(["_law_page","_law_ask_here"]:List Str).Nodup by decide +kernel))) (Dv (by decide)) (λC s₀ H₀ ex=>Fi) (λC s₀ H₀ ex=>(Ak Al (Ak Al (Aa 0) (Ak Al (Aa 1) Af)) (Ax (ZPr T) T.Ww hr (Ac (Ak Al (Aa 1) Af) Ae)))))) (An (Bj (Jg (Dr hr.units) (Aa 9) (Ax (ZRt T) T.Xo hr (Ac (Aa 11) (Ac (Aa 7) Ae))) (nomark _)))))))))))))))))
end
theorem all_mk{l:PySem.W.OpenLaw}{w:xw}{K:PySem.W.Frag}{h:Heap}{mg:Str->Option xj}{fa:xZ}(X:K.In h)(G:h.Ns vQ mg)(hfa:mg "law"=vE (.ref fa))(S:AllSaid K asks):
  ∃fd:xV,(∀(s:xq)(v:xj),BindsTo s fd ⟨[v],[]⟩ [("_law_script",v)])/\∀base:Heap,K.In base->base.Ns vQ mg->FnOk l.prog w K mg base CX0 10 fa fd ["_law_script"] (lF K Og):=by
 obtain⟨Ba,Ko,Xu,Sw,Ec,Kv,Yv,Zz,Ww,Xo,Vc,Vx,ZAN,Uc,Ze,Z9,ZAC,W4,Yz,Ym,Vw,Zw,Wn,X7,Zk,Uj,Tt,Vf,W7,ZAE,Rk,Nh,Rj,U6,Ot,Y6,Zr,Sd,Ur,Rv,V5,Zx,Yx,ZAS,Uo,Z7,U9,Tz,Yk,Ra,Zt,Tq,R4,Sg,Kg,Xw,O3,Xp,Xq,ZTZ,ZTa,ZTb,ZTc,ZTd,ZTe,ZTf,ZTg,ZTh,ZTi,ZTj,ZTl,ZTm,ZTn,ZAt,Ye,ZEL,O8,ZDs,Yt,ZEc,ZCD,Iw,Rn,ZCK,ZDr,ZCB,ZAw,Qo,ZBl,ZDl,ZCw,ZC8,ZDR,ZBY,ZBf,ZDN,ZA0,We,_⟩:=S
 have T:Txt K mg:=⟨Cr X G Ko (λ_ _ _ _ _ _ us hl=>match us,hl with |[_,_],_=>rfl),
  Cr X G Xu (λ_ _ _ _ _ _ us hl=>match us,hl with |[_,_],_=>rfl),
  Cr X G Sw (λ_ _ _ _ _ _ us hl=>match us,hl with |[_],_=>rfl),
  Cr X G Ec (λ_ _ _ _ _ _ us hl=>match us,hl with |[_,_],_=>rfl),
  Cr X G Kv (λ_ _ _ _ _ _ us hl=>match us,hl with |[_],_=>rfl),
  Cr X G Yv (λ_ _ _ _ _ _ us hl=>match us,hl with |[_,_,_,_],_=>rfl),
  Cr X G Zz (λ_ _ _ _ _ _ us hl=>match us,hl with |[_,_],_=>rfl),
  Cr X G Ww (λ_ _ _ _ _ _ us hl=>match us,hl with |[_],_=>rfl),
  Cr X G Xo (λ_ _ _ _ _ _ us hl=>match us,hl with |[_,_],_=>rfl),
  Cr X G Vc (λ_ _ _ _ _ _ us hl=>match us,hl with |[_,_,_],_=>rfl),
  Cr X G Vx (λ_ _ _ _ _ _ us hl=>match us,hl with |[_],_=>rfl),
  Cr X G ZAN (λ_ _ _ _ _ _ us hl=>match us,hl with |[_,_,_],_=>rfl),
  Cr X G Uc (λ_ _ _ _ _ _ us hl=>match us,hl with |[_],_=>rfl),
  Cr X G Ze (λ_ _ _ _ _ _ us hl=>match us,hl with |[_,_,_,_],_=>rfl),
  Cr X G Z9 (λ_ _ _ _ _ _ us hl=>match us,hl with |[_,_,_,_,_],_=>rfl),
  Cr X G ZAC (λ_ _ _ _ _ _ us hl=>match us,hl with |[_,_,_],_=>rfl),
  Cr X G W4 (λ_ _ _ _ _ _ us hl=>match us,hl with |[_],_=>rfl),
  Cr X G Yz (λ_ _ _ _ _ _ us hl=>match us,hl with |[_],_=>rfl),
  Cr X G Ym (λ_ _ _ _ _ _ us hl=>match us,hl with |[_,_],_=>rfl),
  Cr X G Vw (λ_ _ _ _ _ _ us hl=>match us,hl with |[_],_=>rfl),
  Cr X G Zw (λ_ _ _ _ _ _ us hl=>match us,hl with |[_,_,_],_=>rfl),
  Cr X G Wn (λ_ _ _ _ _ _ us hl=>match us,hl with |[_],_=>rfl),
  Cr X G X7 (λ_ _ _ _ _ _ us hl=>match us,hl with |[_,_],_=>rfl),
  Cr X G Zk (λ_ _ _ _ _ _ us hl=>match us,hl with |[_,_],_=>rfl),
  Cr X G Uj (λ_ _ _ _ _ _ us hl=>match us,hl with |[_,_],_=>rfl),
  Cr X G Tt (λ_ _ _ _ _ _ us hl=>match us,hl with |[_,_],_=>rfl),
  Cr X G Vf (λ_ _ _ _ _ _ us hl=>match us,hl with |[_,_],_=>rfl),
  Cr X G W7 (λ_ _ _ _ _ _ us hl=>match us,hl with |[_,_,_,_],_=>rfl),
  Cr X G ZAE (λ_ _ _ _ _ _ us hl=>match us,hl with |[_,_,_,_,_],_=>rfl),
  N5 Rk (λ_ _ _ _ _ _ us hl=>match us,hl with |[_,_,_,_,_],_=>rfl),
  N5 Nh (λ_ _ _ _ _ _ us hl=>match us,hl with |[_,_,_,_],_=>rfl),
  Cr X G Rj (λ_ _ _ _ _ _ us hl=>match us,hl with |[_,_],_=>rfl),
  Cr X G U6 (λ_ _ _ _ _ _ us hl=>match us,hl with |[_,_],_=>rfl),
  N5 Ot (λ_ _ _ _ _ _ us hl=>match us,hl with |[_,_,_],_=>rfl),
  Cr X G Y6 (λ_ _ _ _ _ _ us hl=>match us,hl with |[_,_],_=>rfl),
  Cr X G Zr (λ_ _ _ _ _ _ us hl=>match us,hl with |[_,_],_=>rfl),
  N5 Sd (λ_ _ _ _ _ _ us hl=>match us,hl with |[_,_],_=>rfl),
  Cr X G Ur (λ_ _ _ _ _ _ us hl=>match us,hl with |[_,_],_=>rfl),
  Cr X G Rv (λ_ _ _ _ _ _ us hl=>match us,hl with |[_,_],_=>rfl),
  Cr X G V5 (λ_ _ _ _ _ _ us hl=>match us,hl with |[_,_,_],_=>rfl),
  Cr X G Zx (λ_ _ _ _ _ _ us hl=>match us,hl with |[_],_=>rfl),
  Cr X G Yx (λ_ _ _ _ _ _ us hl=>match us,hl with |[_,_],_=>rfl),
  Cr X G ZAS (λ_ _ _ _ _ _ us hl=>match us,hl with |[_],_=>rfl),
  N5 Uo (λ_ _ _ _ _ _ us hl=>match us,hl with |[_,_],_=>rfl),
  Cr X G Z7 (λ_ _ _ _ _ _ us hl=>match us,hl with |[_],_=>rfl),
  N5 U9 (λ_ _ _ _ _ _ us hl=>match us,hl with |[_],_=>rfl),
  N5 Tz (λ_ _ _ _ _ _ us hl=>match us,hl with |[_],_=>rfl),
  Cr X G Yk (λ_ _ _ _ _ _ us hl=>match us,hl with |[_,_,_,_],_=>rfl),
  Cr X G Ra (λ_ _ _ _ _ _ us hl=>match us,hl with |[_,_,_,_],_=>rfl),
  Cr X G Zt (λ_ _ _ _ _ _ us hl=>match us,hl with |[_,_,_,_,_,_,_],_=>rfl),
  Cr X G Tq (λ_ _ _ _ _ _ us hl=>match us,hl with |[_],_=>rfl),
  ZTP X G Ba Rk,
  R4,
  Sg,
  Kg,
  Xw,
  O3,
  Xp,
  Xq,
  PySem.W.mg_none_of X G ZTZ,
  PySem.W.mg_none_of X G ZTa,
  PySem.W.mg_none_of X G ZTb,
  PySem.W.mg_none_of X G ZTc,
  PySem.W.mg_none_of X G ZTd,
  PySem.W.mg_none_of X G ZTe,
  PySem.W.mg_none_of X G ZTf,
  PySem.W.mg_none_of X G ZTg,
  PySem.W.mg_none_of X G ZTh,
  PySem.W.mg_none_of X G ZTi,
  PySem.W.mg_none_of X G ZTj,
  PySem.W.mg_none_of X G ZTl,
  PySem.W.mg_none_of X G ZTm,
  PySem.W.mg_none_of X G ZTn,
  PySem.W.mg_of X G ZAt,
  PySem.W.mg_of X G Ye,
  PySem.W.mg_of X G ZEL,
  PySem.W.mg_of X G O8,
  PySem.W.mg_of X G ZDs,
  PySem.W.mg_of X G Yt,
  PySem.W.mg_of X G ZEc,
  PySem.W.mg_of X G ZCD,
  PySem.W.mg_of X G Iw,
  PySem.W.mg_of X G Rn,
  PySem.W.mg_of X G ZCK,
  PySem.W.mg_of X G ZDr,
  PySem.W.mg_of X G ZCB,
  PySem.W.mg_of X G ZAw,
  PySem.W.mg_of X G Qo,
  PySem.W.mg_of X G ZBl,
  PySem.W.mg_of X G ZDl,
  PySem.W.mg_of X G ZCw,
  PySem.W.mg_of X G ZC8,
  PySem.W.mg_of X G ZDR,
  PySem.W.mg_of X G ZBY,
  PySem.W.mg_of X G ZBf,
  PySem.W.mg_of X G ZDN,
  ZQQ X G ZA0,
  ZPy X G We⟩
 have eL:mg "law"=vE (.ref (Bu K "law")):=PySem.W.mg_of X G Tq.1;obtain rfl:fa=Bu K "law":=by rw[hfa]at eL;cases eL;rfl
 exact⟨_,λs v=>ZR6 (Uw Tq.2),λbase _ _=>ZNy T⟩
theorem walk{l:PySem.W.OpenLaw}{q:xK}{loose:List Str}{XP:(Str->Option xj)->Heap->Prop}{YP:xw->Heap->Prop}{d:DefRec}{K:xw->PySem.W.Frag}(hn:l.most=vE 63)(hdf:d.params.defaults=[])(HH:Holds)
  (hY:∀(w:xw)(h:Heap),YP w h->(K w).In h)
  (F:∀(w:xw)(mg:Str->Option xj)(fa:xZ)(h:Heap),(K w).In h->h.Ns vQ mg->mg d.name=vE (.ref fa)->
   ∃fd:xV,(∀(s:xq)(u:xj),BindsTo s fd ⟨[u],[]⟩ [("_law_script",u)])/\∀base:Heap,(K w).In base->base.Ns vQ mg->FnOk l.prog w (K w) mg base CX0 10 fa fd ["_law_script"] (lF (K w) Og)):
  PySem.W.WalkO q loose XP YP l.row.toRowW d [] (λf vs=>PySem.call f vs):=
 _L.ZLE (n:=63) (k:=10) (x:="_law_script") (CX:=λ_=>CX0) (sp:=λw=>lF (K w) Og) hn (by decide) hdf ⟨rfl,by decide,by decide⟩ hY F
  (λw H a ns hl hO hS=>by
   obtain⟨G,hG⟩:=HH ns hl;refine⟨⟨K w,0,λ_=>0,H⟩,[],[.fl (ns.map D.int)],rfl,rfl,⟨rfl,λi j h=>absurd h (Nat.not_lt_zero _),λi o h=>by simp at h,λi h=>absurd h (Nat.not_lt_zero _)⟩,Reps.cons ⟨a,ns.map V.int,rfl,?_,Reps.ints ns⟩ Reps.nil,?_⟩
   ·rcases hS with(hS|hS)|hS
    ·rcases hO a with z|⟨o,xs,z⟩
     ·rw[z]at hS;cases hS
     ·rw[z]at hS;cases hS
    ·exact .inl hS
    ·exact .inr hS
   ·rw[hG];exact λb v _ _ r=>r) λ_ _ _ _ _ z=>z
end _W
set_option maxRecDepth 100000
namespace _W
open PySem PySem.W _L _D
theorem ZK1:∀w os,(Ru pw w os).map (λs=>(Up pw w s.abs,PySem.W.Fast.tw4187177175401517315 vw ["KINDS_ASKED"] (PySem.W.Fast.tw5923862056798008813 pw.main.body) (XtOf rw_ vw) vG s.abs,Tj asks s.abs.heap))=vE (vG,openGood vw ["KINDS_ASKED"],U5 asks):=ZTN ZTQ ZMd
theorem ZJ0:∀w,(openEnds vK pw w 100000).map (λs=>(openSeen vw ["KINDS_ASKED"] (xL pw.main.body) (XtOf rw_ vw) vG s,Tj asks s.heap))=vE (openGood vw ["KINDS_ASKED"],U5 asks):=ZQj (by kernel_rfl) (λs=>rfl) ZK1
theorem well:rw_.wellSaid=vG:=ZLP (by kernel_rfl)
theorem hdef:defOf vw rw_.row.name=vE (dOf J6,[]):=by kernel_rfl
theorem hp:rw_.row.prog.theDef rw_.row.name=vE ((dOf J6).params,(dOf J6).body,(dOf J6).scope):=by kernel_rfl
theorem hk:kwWritten? (dOf J6).params.kwonlyargs (dOf J6).params.kw_defaults=vE []:=by kernel_rfl
theorem hok:(chainsOk vw&&opensWell rw_.row.prog&&(frees rw_.row.toRowW&&rw_.row.within.isEmpty))=vG:=by kernel_rfl
theorem hdf:(dOf J6).params.defaults=[]:=by kernel_rfl
theorem hbare:rw_.row.prog.bare:=⟨rfl,rfl,rfl,rfl,rfl,by decide +kernel⟩
theorem hw:rw_.row.toRowW.promised:=by w_witness2
theorem walked:WalkO vw ["KINDS_ASKED"] (XL vw []) (Stays rw_.prog 100000) rw_.row.toRowW (dOf J6) [] λf vs=>PySem.call f vs:=
 walk (l:=rw_) (K:=λw=>Ue (Kw pw 100000 w)) rfl hdf holds (λw h Y=>Y.in) λw mg fa h KX G hmg=>all_mk KX G (show mg "law"=_ from hmg) (ZHS (ZRZ ZJ0 w))
end _W
open PySem PySem.W PyProof.Rows _D
theorem PySem.Challenge.cw_sluiceway_k52_what_look_tells_holds : PySem.Challenge.rw_sluiceway_k52_what_look_tells.Holds := by
 refine holds_top (l:=_W.rw_) (q:=_W.vw) (loose:=["KINDS_ASKED"]) (N:=100000) (see:=Tj _W.asks) (val:=U5 _W.asks) (d:=dOf _W.J6) ?_ ?_ ?_ ?_ ?_ ?_ ?_ ?_ ?_ ?_
 ·exact _W.well
 ·exact _W.ZJ0
 ·exact _W.hdef
 ·exact _W.hp
 ·exact _W.hk
 ·rfl
 ·exact _W.hok
 ·exact _W.hbare
 ·exact _W.hw
 ·exact _W.walked
