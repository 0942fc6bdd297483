import PyProof.Rows.All
import Wide.All
import OpenK.AllK
import Wide.FinOn
import Lean
import PyProof.EqAt
import PyProof.EqKinds
import PyProof.TupleCall
import PyProof.NeKinds
import PyProof.IsInstanceH
import PyProof.SumWalkG
import PyProof.ConsumeWalk
import PyProof.IsiNone
import PyProof.WalksMore
import PyProof.PlainList
import PyProof.CompFree
import KE.KIntText
import PyProof.DictTable
import PyProof.Rows.StrSplitMax
import PySem.Challenge.RW_sluiceway_k15_whole_houses_written
set_option compiler.extract_closed false
set_option bootstrap.genMatcherCode false
set_option genSizeOf false
set_option Elab.async false
set_option linter.all false
set_option maxRecDepth 100000
open Option renaming some→xU,none→vQ
open Bool renaming true→vZ,false→vJ
open List renaming map_cons→zQ,mem_cons_of_mem→zZ,mem_cons→zJ,length_map→zK,getElem?_eq_getElem→zY,size_toArray→zq,range→zv,mem_map→zw,mem_cons_self→zy,getElem?_eq_some_iff→z3,not_mem_nil→z9,mem_append→zB,mem_append_right→zC,length_cons→zD,getElem?_append_right→zE,getD_eq_getElem?_getD→zF,length_append→zG,map_nil→zH,drop_eq_getElem_cons→zI,replicate→zN,getElem?_append_left→zP,getElem?_map→zR,filterMap_cons→zS,append_assoc→zT,getElem?_eq_none→zU,range'→qQ,drop_drop→qZ,getElem_mem→qJ,set→qX,all_eq_true→qY,mem_of_mem_take→qq,mem_range→qz,length→qj,drop_of_length_le→qx,take_of_length_le→qw,map_map→qk,length_take→qy,take_length→q0,mem_of_mem_drop→q9,foldl_cons→qA,getElem?_replicate→qB,lookup_cons→qC,mem_singleton→qD,append_nil→qG,length_drop→qH,filterMap_map→qL,take_append_of_le_length→qM,getElem?_set→qN,all_cons→qR,getElem?_eq_none_iff→qS,getElem_of_mem→qT,map_congr_left→qU,take_succ_cons→jQ,mem_filter→jZ,nodup_cons→jJ,length_nil→jX,getElem?_take_of_lt→jV,mem_range'_1→jK,range_succ_eq_map→jY,length_replicate→jq,length_singleton→jz,isEmpty_iff→jv,length_filter_le→jk,filter_cons→jy,mem_append_left→j0,getElem?_set_ne→j1,forIn_cons→j2,map_append→j5
open Nat renaming lt_of_lt_of_le→zV,le_refl→zW,le_trans→z0,ne_of_lt→zL,mul_le_mul_right→zM,lt_irrefl→zO,lt_succ_self→qK,toDigits→qF,toDigits_of_lt_base→qI,lt_trichotomy→qO,le_succ→jj,ne_of_gt→j6
open Int renaming emod_nonneg→qV,emod_lt_of_pos→qW,le_refl→jx,lt_trans→j7,mul_nonneg→j8
open Option renaming map_eq_some_iff→zA,map_some→j3
open Bool renaming false_ne_true→zj,and_eq_true→zx,and_eq_true_iff→q8,or_eq_true→j4
open Array renaming length_toList→qP
open PySem.Heap renaming get?_push_of_some→zX,lt_size→zz,get?_push_size→zk,SameBut→qE,size_push→jW
open PySem renaming Addr→j9,Around→jA,Expr→jB,FuncData→jC,NameKind→jD,Program→jE,Scope→jF,Shared→jG,Stmt→jH,Value→jI,World→jL,assignEach→jM,backTo→jN,backToKw→jO,behindInMarks→jP,binaryOp→jR,bootBuiltins→jS,call_isinstance→jT,codeAny_mono→jU,compareOp→xQ,importedModules→xZ,isSubtype→xJ,isinstance_false_int→xX,isinstance_false_list→xV,isinstance_false_none→xW,isinstance_false_str→xK,isinstance_false_tuple→xY,keywordEach→xq,letOwnedTupleGo→xz,mainGlobals→xj,model→xw,rawInt→xk,sliceBounds→xy,starEach→x9,treeTable→xA,wpAny→xB,wpAny_Call_Name_kw→xC,wpAny_bind→xD,wpAny_callSpecial?_slot→xE,wpAny_call_entry→xF,wpAny_field→xG,wpAny_holding→xH,wpAny_mono→xI,wpAny_newObj_type→xL,wpAny_passesOwn→xM,wpAny_pure→xN,wpAny_setField_rec→xO,wpAny_truthy_bool→xP
open PySem.W renaming Frag→xR,boot_heap→xS
set_option maxHeartbeats 0
noncomputable section
namespace _L
open PySem PySem.Spec PyProof.Rows
noncomputable def Ka(s:jH):Arguments:=match s with
 |.FunctionDef _ a _ _ _ _ _ _ _ _=>a
 |_=>{posonlyargs:=[],args:=[],vararg:=vQ,kwonlyargs:=[],kw_defaults:=[],kwarg:=vQ,defaults:=[]}
noncomputable def Hz(s:jH):List jH:=match s with
 |.FunctionDef _ _ b _ _ _ _ _ _ _=>b
 |_=>[]
noncomputable def Aw(s:jH):jF:=match s with
 |.FunctionDef _ _ _ _ _ _ sc _ _ _=>sc
 |_=>{kind:=.function,names:=[],isGenerator:=vJ,isCoroutine:=vJ}
end _L
namespace _D
open PySem PySem.W _L
variable{h:Heap}{C:j9}{m x q:Str}{st:jH}{mg:Str->Option jI}
noncomputable def M3:List Obj->Nat->xR
 |[],_=>[]
 |o::r,n=>match o.cls,o.data with
  |.none,.fields _=>M3 r (n+1)
  |_,.freed=>M3 r (n+1)
  |_,_=>(n,o)::M3 r (n+1)
def Ph(h:Heap):xR:=M3 h.objs.toList 0
noncomputable abbrev XtOf(l:OpenLaw)(q:jE)(s:jG):Bool:=xlAt q [] s&&recOk l.row.toRowW.records s
noncomputable def Ck(K:xR)(n:Str):j9:=match nsIn K xj n with
 |some (xU (.ref f))=>f
 |_=>0
noncomputable def gOk(K:xR)(n:Str):Bool:=match nsIn K xj n with
 |some (xU (.ref _))=>vZ
 |_=>vJ
noncomputable def La(K:xR)(C:j9)(m:Str):j9:=match findIn K (.ref C) m with
 |some (xU (.ref f))=>f
 |_=>0
noncomputable def mOk(K:xR)(C:j9)(m:Str):Bool:=match findIn K (.ref C) m with
 |some (xU (.ref f))=>isFn K (.ref f)
 |_=>vJ
noncomputable def noF(K:xR)(C:j9)(m:Str):Bool:=match findIn K (.ref C) m with
 |some vQ=>vZ
 |_=>vJ
noncomputable def zOk(K:xR)(n:Str):Bool:=match nsIn K xj n with
 |some vQ=>vZ
 |_=>vJ
noncomputable def ZB2(K:xR)(C:j9):Bool:=match findIn K (.ref C) "__setattr__" with
 |some (xU (.builtin s))=>s == "object.__setattr__"
 |_=>vJ
noncomputable def iOk(K:xR)(n:Str)(v:Int):Bool:=match nsIn K xj n with
 |some (xU (.int u _))=>decide (u=v)
 |_=>vJ
noncomputable def sOk(K:xR)(n:Str)(v:Str):Bool:=match nsIn K xj n with
 |some (xU (.str u _))=>decide (u=v)
 |_=>vJ
noncomputable def M6(K:xR)(f:j9):Obj:=match K.lookup f with
 |some o=>o
 |none=>⟨.none,vQ,.plain,#[]⟩
def Dz(K:xR)(f:j9):jC:=match(M6 K f).data with
 |.func fd=>fd
 |_=>default
noncomputable def ZJ2:jI->Bool
 |.none=>vZ
 |_=>vJ
noncomputable def ZIe:FuncBody->Option (List jH)
 |.stmts b=>xU b
 |_=>vQ
def Wo(K:xR)(x q:Str)(f:j9):Bool:=match K.lookup f with
 |some ⟨_,_,.func fd,_⟩=>decide (fd.name=x)&&decide (fd.qualname=q)&&(fd.globals==xj&&fd.builtins==builtinsNs&&fd.closure.isEmpty&&ZJ2 fd.defaults)&&(codeIn K fd.code q&&keepIn K (.ref f))
 |_=>vJ
noncomputable abbrev DefTxt:=Arguments×Option (List jH)×jF
def Wq(K:xR)(f:j9):DefTxt:=((Dz K f).params,ZIe (Dz K f).body,(Dz K f).scope)
def We(st:jH):DefTxt:=(Ka st,xU (Hz st),Aw st)
noncomputable def strsOf:List jI->Option (List Str)
 |[]=>xU []
 |.str s _::r=>(strsOf r).map (s::·)
 |_::_=>vQ
def ZAk(K:xR)(n:Str)(vs:List Str):Bool:=match nsIn K xj n with
 | some (xU (.ref p))=>(match K.lookup p with
   |some ⟨.type t,_,.seq its _,_⟩=>t == "tuple"&&decide (strsOf its.toList=xU vs)&&Nat.ble its.toList.length 1000
   |_=>vJ)
 |_=>vJ
def ZBF(K:xR)(n:Str)(kvs:List (Str×Str)):Bool:=match nsIn K xj n with
 | some (xU (.ref p))=>(match K.lookup p with
   |some ⟨.type t,_,.dict es _,_⟩=>t == "dict" && !(p==sysModules)&&decide (strsOf (es.toList.map (·.key))=xU (kvs.map (·.1)))&&decide (strsOf (es.toList.map (·.val))=xU (kvs.map (·.2)))
   |_=>vJ)
 |_=>vJ
inductive Ask where
 |fn (n:Str) (st:jH)
 |mt (c m q:Str) (st:jH)
 |cl (c:Str)
 |no (c x:Str)
 |z (n:Str)
 |gi (n:Str) (v:Int)
 |gs (n v:Str)
 |gt (n:Str) (vs:List Str)
 |gd (n:Str) (kvs:List (Str×Str))
def Ask.chk(K:xR):Ask->Bool
 |.fn n _=>gOk K n&&Wo K n n (Ck K n)
 |.mt c m q _=>mOk K (Ck K c) m&&Wo K m q (La K (Ck K c) m)
 |.cl c=>gOk K c&&(plainGet K (Ck K c) Str.empty&&hasDictIn K (Ck K c)&&plainOver K (Ck K c))&&(ZB2 K (Ck K c)&&makesIn K (Ck K c)&&keepIn K (.ref (Ck K c)))
 |.no c x=>noF K (Ck K c) x
 |.z n=>zOk K n
 |.gi n v=>iOk K n v
 |.gs n v=>sOk K n v
 |.gt n vs=>ZAk K n vs
 |.gd n kvs=>ZBF K n kvs
def Ask.txt(K:xR):Ask->Option DefTxt
 |.fn n _=>xU (Wq K (Ck K n))
 |.mt c m _ _=>xU (Wq K (La K (Ck K c) m))
 |_=>vQ
def Ask.want:Ask->Option DefTxt
 |.fn _ st=>xU (We st)
 |.mt _ _ _ st=>xU (We st)
 |_=>vQ
def ZA2(l:List Ask)(h:Heap):Bool×List (Option DefTxt):=(l.all (Ask.chk (Ph h)),l.map (Ask.txt (Ph h)))
noncomputable abbrev ZBj(l:List Ask):Bool×List (Option DefTxt):=(vZ,l.map Ask.want)
noncomputable def W9(p:jE)(w:jL)(n₀:Nat)(ann:Option jI):Nat->SharedT->Thread->Option SharedT
 |0,_,_=>vQ
 | n+1,s,t=>match through t with
  |true=>xU s
  | false=>match PySem.W.Fast.tw6613529449190102663 n₀ ann t with
   |false=>vQ
   |true=>match PySem.W.Fast.tw10156331382660048174 (PySem.W.Fast.tw11892475500146522536 PySem.W.Fast.tw14364793385576792824) p w s t with
    |some (s',t')=>W9 p w n₀ ann n s' t'
    |none=>vQ
noncomputable def ZFP:List Obj->Nat->BT->BT
 |[],_,t=>t
 |o::r,n,t=>ZFP r (n+1) (t.ins n o)
def ZFj(w:jL)(os:OsState):SharedT:=⟨ZFP (xS w.params).objs.toList 0 .nil,(xS w.params).objs.size,(xS w.params).life,Array.mk [],boot_drawn,boot_toks,os⟩
def ZB4(p:jE)(w:jL)(os:OsState):Option SharedT:=W9 p w (xS w.params).objs.size (PySem.W.Fast.tw8920871248978507458 (xS w.params) xj "__annotations__") 100000 (ZFj w os) (topStub p)
noncomputable def ZBT(p:jE)(w:jL)(s:jG):Bool:=staticsOk (PySem.W.Fast.tw5923862056798008813 p.main.body) (xS w.params) s.heap&&namesBound p s.heap&&gensDone s&&laidKept (xS w.params) s.heap
end _D
namespace _W
open PySem PySem.W _L _D
noncomputable def top(i:Nat):jH:=PySem.Challenge.pw_sluiceway_k15_whole_houses_written.main.body.getD i (.Pass ⟨0,0,0,0⟩)
noncomputable abbrev ZCl:jH:=top 65
noncomputable abbrev R7:jH:=top 68
noncomputable abbrev ZCO:jH:=top 67
noncomputable abbrev Mt:jH:=top 69
noncomputable abbrev ZBh:jH:=top 73
noncomputable abbrev ZBI:jH:=top 70
noncomputable abbrev Wn:jH:=top 74
noncomputable abbrev Zi:jH:=top 71
noncomputable abbrev ZAK:jH:=top 72
noncomputable abbrev ZCV:jH:=top 75
noncomputable abbrev Vz:jH:=top 76
noncomputable abbrev ZAx:jH:=top 66
noncomputable abbrev ZBe:jH:=top 80
noncomputable abbrev Tq:jH:=top 81
noncomputable abbrev V0:jH:=top 82
noncomputable abbrev Z5:jH:=top 77
noncomputable abbrev ZA3:jH:=top 78
noncomputable abbrev Xc:jH:=top 79
noncomputable abbrev V9:jH:=top 27
noncomputable abbrev ZBo:jH:=top 32
noncomputable abbrev ZAf:jH:=top 30
noncomputable abbrev Z3:jH:=top 34
noncomputable abbrev ZCF:jH:=top 35
noncomputable abbrev Su:jH:=top 36
noncomputable abbrev ZAc:jH:=top 33
noncomputable abbrev ZAe:jH:=top 31
noncomputable abbrev Rh:jH:=top 29
noncomputable abbrev ZBu:jH:=top 28
noncomputable abbrev T8:jH:=top 63
noncomputable abbrev ZAq:jH:=top 62
noncomputable abbrev Yn:jH:=top 61
noncomputable abbrev ZCC:jH:=top 59
noncomputable abbrev ZAB:jH:=top 54
noncomputable abbrev Tt:jH:=top 53
noncomputable abbrev Zz:jH:=top 52
noncomputable abbrev Sv:jH:=top 51
noncomputable abbrev ZCf:jH:=top 57
noncomputable abbrev Wi:jH:=top 58
noncomputable abbrev ZBE:jH:=top 60
noncomputable abbrev Zj:jH:=top 56
noncomputable abbrev ZAl:jH:=top 55
noncomputable abbrev Th:jH:=top 46
noncomputable abbrev Vs:jH:=top 50
noncomputable abbrev Xh:jH:=top 48
noncomputable abbrev Yo:jH:=top 45
noncomputable abbrev Tn:jH:=top 49
noncomputable abbrev Yh:jH:=top 47
noncomputable abbrev ZBv:jH:=top 83
noncomputable abbrev Ii:jH:=top 84
def asks:List Ask:=[.fn "_law_cell_at" ZCl,.fn "_law_free_names" R7,.fn "_law_stream" ZCO,.fn "_law_names" Mt,.fn "_law_more" ZBh,.fn "_law_number" ZBI,.fn "_law_pumped" Wn,.fn "_law_stairs" Zi,.fn "_law_rule" ZAK,.fn "_law_place" ZCV,.fn "_law_house" Vz,.fn "_law_whole" ZAx,.fn "_law_rule_like" ZBe,.fn "_law_place_like" Tq,.fn "_law_house_like" V0,.fn "_law_rule_text" Z5,.fn "_law_row" ZA3,.fn "_law_rows" Xc,.fn "is_name" V9,.fn "is_pump_good" ZBo,.fn "is_river_good" ZAf,.fn "are_seasons_good" Z3,.fn "are_steps_good" ZCF,.fn "can_pump" Su,.fn "is_rule_good" ZAc,.fn "numbers_in" ZAe,.fn "check_place" Rh,.fn "checked" ZBu,.fn "is_number" T8,.fn "number_in" ZAq,.fn "word_in" Yn,.fn "pump_in" ZCC,.fn "step_in" ZAB,.fn "stairs_in" Tt,.fn "season_in" Zz,.fn "rule_in" Sv,.fn "basin_in" ZCf,.fn "town_or_mill_in" Wi,.fn "words_in" ZBE,.fn "place_in" Zj,.fn "year_in" ZAl,.fn "read_house" Th,.fn "shown_pump" Vs,.fn "shown_season" Xh,.fn "shown_rule" Yo,.fn "shown_place" Tn,.fn "shown_house" Yh,.fn "_law_there_and_back" ZBv,.fn "law" Ii,.z "all",.z "bool",.z "enumerate",.z "int",.z "isinstance",.z "len",.z "max",.z "min",.z "range",.z "str",.z "sum",.z "tuple",.gi "BASIN_WORDS" 7,.gi "BRIM" 4,.gi "DELAY" 3,.gi "DOWN" 2,.gs "FIGURES" "0123456789",.gi "KIND" 0,.gs "LETTERS" "abcdefghijklmnopqrstuvwxyz",.gi "MILL_WORDS" 5,.gi "MOST" 4,.gi "MOST_FIGURES" 40,.gi "NAME" 1,.gi "NEED" 4,.gs "NO_PUMP" "none",.gi "PLACES" 1,.gi "PUMP" 6,.gi "PUMP_DELAY" 1,.gi "PUMP_MOST" 2,.gi "PUMP_TO" 0,.gi "RANK" 5,.gi "RULE" 5,.gs "SEA" "sea",.gi "TOWN_WORDS" 6,.gi "YEAR" 0,.gt "WAYS" ["river","pump"]]
abbrev rw_:OpenLaw:=PySem.Challenge.rw_sluiceway_k15_whole_houses_written
abbrev pw:jE:=OpenLaw.prog PySem.Challenge.rw_sluiceway_k15_whole_houses_written
def vw:jE:=view pw (zv 85)
theorem ZJRb:∀w os,(ZB4 pw w os).map (λs=>PySem.W.Fast.tw4187177175401517315 vw [] (PySem.W.Fast.tw5923862056798008813 pw.main.body) (XtOf rw_ vw) vZ s.abs)=xU (openGood vw []):=λw os=>by kernel_rfl
theorem ZJRa:∀w os,(ZB4 pw w os).map (λs=>(ZBT pw w s.abs,ZA2 asks s.abs.heap))=xU (vZ,ZBj asks):=λw os=>by kernel_rfl
theorem ZJR:∀w os,(ZB4 pw w os).map (λs=>(ZBT pw w s.abs,PySem.W.Fast.tw4187177175401517315 vw [] (PySem.W.Fast.tw5923862056798008813 pw.main.body) (XtOf rw_ vw) vZ s.abs,ZA2 asks s.abs.heap))=xU (vZ,openGood vw [],ZBj asks):=λw os=>by
 have h1:=ZJRb w os
 have h2:=ZJRa w os
 revert h1 h2
 generalize ZB4 pw w os=o
 intro h1 h2
 cases o with
 |none=>cases h2
 |some s=>exact congrArg some (Prod.ext (Prod.mk.inj (Option.some.inj h2)).1 (Prod.ext (Option.some.inj h1) (Prod.mk.inj (Option.some.inj h2)).2))
end _W
namespace _L
open PySem PySem.Spec PyProof.Rows
variable{us:List jI}{a b:j9}{P:jE}{w:jL}{h:Heap}{t' i k:Nat}{ch fp:List j9}{x:Str}{u:jI}{Q:Unit->jG->Prop}{e tg:jB}{A:jA}{E:jI->jG->Prop}{s:jG}{xT:List (j9×Obj)}{K:PySem.W.Frag}{f:jI->jI->Sem jI}{op:CmpOp}{kindOf:Str->Option jD}
noncomputable abbrev Key:=Sum Int Str
def ZEn:Key->jI->Bool
 |.inl k,v=>Value.isInt k v
 |.inr x,v=>Value.isStrOf x v
def keyH(w:jL):Key->Int
 |.inl k=>hashInt k
 |.inr x=>hashStr w x
theorem Kp:∀{k:Key}{v:jI},ZEn k v=vZ->(∃i t,k=Sum.inl i/\v=Value.int i t)∨(∃x t,k=Sum.inr x/\v=Value.str x t)
 |.inl i,v,h=>by obtain⟨t,e⟩:=Value.isInt_shape (k:=i) (v:=v) h;exact .inl ⟨i,t,rfl,e⟩
 |.inr x,v,h=>by obtain⟨t,e⟩:=Value.isStrOf_shape (x:=x) (v:=v) h;exact .inr ⟨x,t,rfl,e⟩
theorem ZJu(a b:Int):decide ((Sum.inl a:Key)=Sum.inl b)=(a==b):=by
 by_cases e:a=b
 ·subst e;simp
 ·have h:¬(Sum.inl a:Key)=Sum.inl b:=λq=>e (Sum.inl.inj q)
  rw[decide_eq_false h];exact(beq_eq_false_iff_ne.mpr e).symm
theorem ZOQ(a b:Str):decide ((Sum.inr a:Key)=Sum.inr b)=decide (a=b):=by
 by_cases e:a=b
 ·subst e;simp
 ·have h:¬(Sum.inr a:Key)=Sum.inr b:=λq=>e (Sum.inr.inj q)
  rw[decide_eq_false h,decide_eq_false e]
theorem ZN3(a:Int)(b:Str):decide ((Sum.inl a:Key)=Sum.inr b)=vJ:=decide_eq_false (λq=>nomatch q)
theorem ZKw(a:Str)(b:Int):decide ((Sum.inr a:Key)=Sum.inl b)=vJ:=decide_eq_false (λq=>nomatch q)
def ZFQ(prog:jE)(w:jL):PySem.KeyKind prog w Key where
 is:=ZEn
 hash:=keyH w
 inj:=λv a b ha hb=>by
  rcases Kp ha with⟨i,t,rfl,rfl⟩|⟨x,t,rfl,rfl⟩
  ·rcases Kp hb with⟨j,u,rfl,e⟩|⟨y,u,rfl,e⟩
   ·injection e with e1 _;rw[e1]
   ·exact nomatch e
  ·rcases Kp hb with⟨j,u,rfl,e⟩|⟨y,u,rfl,e⟩
   ·exact nomatch e
   ·injection e with e1 _;rw[e1]
 byValue:=λk v h=>by rcases Kp h with⟨i,t,rfl,rfl⟩|⟨x,t,rfl,rfl⟩<;>rfl
 pyHash:=λhv h=>by
  rcases Kp hv with⟨i,t,rfl,rfl⟩|⟨x,t,rfl,rfl⟩
  ·exact wpAny_pyHash_int h
  ·exact wpAny_pyHash_str h
 eqBool:=λhu hv h=>by
  rcases Kp hu with⟨i,t,rfl,rfl⟩|⟨x,t,rfl,rfl⟩
  ·rcases Kp hv with⟨j,u,rfl,rfl⟩|⟨y,u,rfl,rfl⟩
   ·rw[ZJu]at h;exact wpAny_eqBool_int h
   ·rw[ZN3]at h;exact SeqAt.EqAt.int_str i t y u _ _ _ _ h
  ·rcases Kp hv with⟨j,u,rfl,rfl⟩|⟨y,u,rfl,rfl⟩
   ·rw[ZKw]at h;exact SeqAt.EqAt.str_int x t j u _ _ _ _ h
   ·rw[ZOQ]at h;exact wpAny_eqBool_str h
 «strs»:=λk x t v h=>by
  rcases Kp h with⟨i,u,rfl,e⟩|⟨y,u,rfl,e⟩
  ·exact nomatch e
  ·injection e with e1 _
   subst e1
   cases v<;>rfl
inductive V where
 |non|bl (b:Bool)|int (i:Int)|str (x:Str)|byt (b:Array UInt8)|flt (b:UInt64)|ref (a:j9)|ty (n:String)
 deriving DecidableEq
def RelV:V->jI->Prop
 |.non,u=>u=Value.none
 |.bl b,u=>u=Value.bool b
 |.int i,u=>∃t,u=Value.int i t
 |.str x,u=>∃t,u=Value.str x t
 |.byt b,u=>∃t,u=Value.bytes b t
 |.flt b,u=>∃t,u=Value.float b t
 |.ref a,u=>u=Value.ref a
 |.ty n,u=>u=Value.type n
abbrev Vals:List V->List jI->Prop:=Paired RelV
theorem Vals.length{xs:List V}(r:Vals xs us):xs.length=us.length:=Paired.length r
theorem Vals.get:∀{xs:List V}{us:List jI}{i:Nat}{x:V},Vals xs us->xs[i]?=xU x->∃u,us[i]?=xU u/\RelV x u
 |_,_,_,_,.nil,e=>by simp at e
 |_,_,0,_,.cons r _,e=>by simp at e;subst e;exact⟨_,rfl,r⟩
 |_,_,i+1,x,.cons _ t,e=>by obtain⟨u,h1,h2⟩:=Vals.get (i:=i) (x:=x) t (by simpa using e);exact⟨u,by simpa using h1,h2⟩
theorem Vals.append:∀{xs ys:List V}{us ws:List jI},Vals xs us->Vals ys ws->Vals (xs++ys) (us++ws)
 |_,_,_,_,.nil,s=>s
 |_,_,_,_,.cons r t,s=>.cons r (Vals.append t s)
theorem Vals.take:∀{xs:List V}{us:List jI}(n:Nat),Vals xs us->Vals (xs.take n) (us.take n)
 |_,_,0,_=>.nil
 |_,_,_+1,.nil=>.nil
 |_,_,n+1,.cons r t=>.cons r (Vals.take n t)
theorem Vals.drop:∀{xs:List V}{us:List jI}(n:Nat),Vals xs us->Vals (xs.drop n) (us.drop n)
 |_,_,0,r=>r
 |_,_,_+1,.nil=>.nil
 |_,_,n+1,.cons _ t=>Vals.drop n t
def RelO:Option V->Option jI->Prop
 |some v,xU u=>RelV v u
 |none,vQ=>True
 |_,_=>False
def KV{κ:Type}:List (κ×V)->List (κ×jI)->Prop:=Paired λ(p:κ×V)(q:κ×jI)=>p.1=q.1/\RelV p.2 q.2
def kV:Key->V
 |.inl i=>.int i
 |.inr x=>.str x
inductive HO where
 |lst (xs:List V)
 |tup (xs:List V)
 |dK (kvs:List (Key×V))|dT (kvs:List (List Key×V))
 |set (S:Int->Bool) (n:Nat)
 |ins (C dx:j9) (fs:List (Str×V))
 |own (x:j9)
 |xd (fs:List (Str×V))
 |met (f x:j9)
 |rng (lo hi:Int)
 |frz (o:Obj) (u:HO)
 |tbl (ps:Array jI)
 |ext (φ:Heap->Prop)
variable{o:HO}
noncomputable abbrev Hp:=j9->Option HO
variable{H:Hp}
noncomputable def upd(H:Hp)(a:j9)(o:HO):Hp:=λb=>if b=a then xU o else H b
theorem I8:upd H a o a=xU o:=by unfold upd;rw[if_pos rfl]
theorem Bs(h:b≠a):upd H a o b=H b:=by unfold upd;rw[if_neg h]
theorem Hr(h:H a=xU o)(h':H b=vQ):a≠b:=by intro e;subst e;rw[h]at h';cases h'
section
variable(P:jE)(w:jL)
def ObjOk(H:Hp)(h:Heap)(a:j9):HO->Prop
 |.lst xs=>xs.length<=sizeLine/\∃(its:List jI)(n:Nat),Vals xs its/\h.get? a=xU {cls:=.type "list",data:=.seq its.toArray n}
 |.tup xs=>xs.length<=sizeLine/\∃its:List jI,Vals xs its/\IsTup h a its.toArray
 |.dK kvs=>kvs.length<=sizeLine/\(a==sysModules)=vJ/\∃vs,KV kvs vs/\h.DictOf (ZFQ P w) a vs
 | .dT kvs=>kvs.length<=sizeLine/\(a==sysModules)=vJ/\∃xs:List (List Key×j9×jI),
   Paired (λ(p:List Key×V)(q:List Key×j9×jI)=>p.1=q.1/\H q.2.1=xU (.tup (p.1.map kV))/\RelV p.2 q.2.2) kvs xs/\
   ∃o es ep,h.get? a=xU o/\o.ExactDict/\o.data=.dict es ep/\es.toList=xs.map (entryOfKey (tupleKind (ZFQ P w)))/\(xs.map (·.1)).Nodup
 |.set S n=>h.SetOf (intKind P w) a S n
 | .ins C dx fs=>H dx=xU (.own a)/\fs.length<=1000/\dx≠a/\h.get? a=xU (PySem.W.instObj C dx)/\
   ∃mA,h.Ns1 dx mA/\(∀f,RelO (fs.lookup f) (mA f))/\PySem.Within mA (fs.map (·.1))
 |.own _=>∃o,h.get? a=xU o
 |.xd fs=>∃mA,h.Ns1 a mA/\∀f,RelO (fs.lookup f) (mA f)
 |.rng lo hi=>∃t u v,h.get? a=xU {cls:=.type "range",data:=.fields #[.int lo t,.int hi u,.int 1 v]}
 |.frz o u=>h.get? a=xU o/\ObjOk H h a u
 |.tbl ps=>h.get? a=xU {cls:=.none,data:=.fields ps}
 |.met f x=>h.get? a=xU (PySem.W.methodObj (.ref f) (.ref x))
 |.ext φ=>φ h/\(∃o,h.get? a=xU o)/\∀h1 h2:Heap,φ h1->(∀o,h1.get? a=xU o->h2.get? a=xU o)->φ h2
def HOk(H:Hp)(h:Heap):Prop:=∀a o,H a=xU o->ObjOk P w H h a o
end
section
variable{P:jE}{w:jL}{H H':Hp}{h h':Heap}{a:j9}{o:HO}
theorem ObjOk.lt(x:ObjOk P w H h a o):a<h.objs.size:=by
 cases o with
 |lst xs=>obtain⟨_,_,_,_,e⟩:=x;exact zz e
 |tup xs=>obtain⟨_,_,_,p⟩:=x;exact p.lt
 |dK kvs=>obtain⟨_,_,_,_,o,_,_,e,_⟩:=x;exact zz e
 |dT kvs=>obtain⟨_,_,_,_,o,_,_,e,_⟩:=x;exact zz e
 |set S n=>obtain⟨o,_,_,_,e,_⟩:=x;exact zz e
 |ins C dx fs=>obtain⟨_,_,_,e,_⟩:=x;exact zz e
 |own y=>obtain⟨_,e⟩:=x;exact zz e
 |xd fs=>obtain⟨_,⟨_,_,_,e,_⟩,_⟩:=x;exact zz e
 |rng lo hi=>obtain⟨_,_,_,e⟩:=x;exact zz e
 |frz ob u=>obtain⟨e,_⟩:=x;exact zz e
 |tbl ps=>exact zz (show h.get? a=xU _ from x)
 |met f y=>exact zz (show h.get? a=xU _ from x)
 |ext φ=>obtain⟨_,⟨_,e⟩,_⟩:=x;exact zz e
theorem Paired.mapP{α β:Type}{F G:α->β->Prop}:∀{l₁:List α}{l₂:List β},Paired F l₁ l₂->(∀a b,F a b->G a b)->Paired G l₁ l₂
 |_,_,.nil,_=>.nil
 |_,_,.cons r t,f=>.cons (f _ _ r) (Paired.mapP t f)
theorem ObjOk.stay(x:ObjOk P w H h a o)(k:∀b u,(b=a∨H b=xU (.own a))->h.get? b=xU u->h'.get? b=xU u)
  (ho:∀b,H b=xU (.own a)->H' b=xU (.own a)) (ht:∀b xs,H b=xU (.tup xs)->H' b=xU (.tup xs)):ObjOk P w H' h' a o:=by
 induction o with
 |lst xs=>obtain⟨z,its,n,r,e⟩:=x;exact⟨z,its,n,r,k _ _ (.inl rfl) e⟩
 |tup xs=>obtain⟨z,its,r,ob,e,c⟩:=x;exact⟨z,its,r,ob,k _ _ (.inl rfl) e,c⟩
 |dK kvs=>obtain⟨z,y,vs,r,ob,es,ep,e,c⟩:=x;exact⟨z,y,vs,r,ob,es,ep,k _ _ (.inl rfl) e,c⟩
 |dT kvs=>
  obtain⟨z,y,xs,r,ob,es,ep,e,c⟩:=x;exact⟨z,y,xs,Paired.mapP r λp q z=>⟨z.1,ht _ _ z.2.1,z.2.2⟩,ob,es,ep,k _ _ (.inl rfl) e,c⟩
 |set S n=>obtain⟨ob,es,ep,t,e,c⟩:=x;exact⟨ob,es,ep,t,k _ _ (.inl rfl) e,c⟩
 |ins C dx fs=>
  obtain⟨d,z,ne,e,mA,⟨od,es,ep,e2,c⟩,r⟩:=x;exact⟨ho _ d,z,ne,k _ _ (.inl rfl) e,mA,⟨od,es,ep,k _ _ (.inr d) e2,c⟩,r⟩
 |own y=>obtain⟨ob,e⟩:=x;exact⟨ob,k _ _ (.inl rfl) e⟩
 |xd fs=>obtain⟨mA,⟨od,es,ep,e,c⟩,r⟩:=x;exact⟨mA,⟨od,es,ep,k _ _ (.inl rfl) e,c⟩,r⟩
 |rng lo hi=>obtain⟨t,u,v,e⟩:=x;exact⟨t,u,v,k _ _ (.inl rfl) e⟩
 |frz ob u ih=>obtain⟨e,q⟩:=x;exact⟨k _ _ (.inl rfl) e,ih q⟩
 |tbl ps=>
  have e:h.get? a=xU {cls:=.none,data:=.fields ps}:=x;show h'.get? a=xU {cls:=.none,data:=.fields ps};exact k a _ (.inl rfl) e
 |met f y=>
  have e:h.get? a=xU (PySem.W.methodObj (.ref f) (.ref y)):=x;show h'.get? a=xU (PySem.W.methodObj (.ref f) (.ref y));exact k a _ (.inl rfl) e
 |ext φ=>obtain⟨p,⟨o,e⟩,st⟩:=x;exact⟨st _ _ p λo q=>k _ _ (.inl rfl) q,⟨o,k _ _ (.inl rfl) e⟩,st⟩
theorem HOk.lt(x:HOk P w H h)(e:H a=xU o):a<h.objs.size:=(x a o e).lt
theorem HOk.fresh(x:HOk P w H h)(e:h.objs.size<=a):H a=vQ:=by
 cases q:H a with
 |none=>rfl
 |some u=>exact absurd (zV (x.lt q) e) (zO _)
theorem HOk.kept(x:HOk P w H h)(k:∀b u,h.get? b=xU u->h'.get? b=xU u):HOk P w H h':=λa o e=>
 (x a o e).stay (λb u _ q=>k b u q) (λ_ q=>q) λ_ _ q=>q
theorem HOk.laid(x:HOk P w H h)(k:∀b u,h.get? b=xU u->h'.get? b=xU u)(hp:h.objs.size<=a)(new:ObjOk P w (upd H a o) h' a o):HOk P w (upd H a o) h':=λb u e=>by
 have hn:=x.fresh hp;by_cases hb:b=a
 ·subst hb;rw[I8]at e;cases e;exact new
 ·rw[Bs hb]at e;exact(x b u e).stay (λc v _ q=>k c v q) (λc q=>by rw[Bs (Hr q hn)];exact q) λc xs q=>by rw[Bs (Hr q hn)];exact q
end
def Rd(H:Hp)(a:j9)(u:HO):Prop:=H a=xU u∨∃o,H a=xU (.frz o u)
theorem Rd.ok{u:HO}(r:Rd H a u)(x:HOk P w H h):ObjOk P w H h a u:=by
 rcases r with r|⟨o,r⟩
 ·exact x a u r
 ·obtain⟨_,q⟩:=x a _ r;exact q
def Mut:Option HO->Prop
 |some (.lst _)=>True
 |some (.dK _)=>True
 |some (.dT _)=>True
 |some (.set _ _)=>True
 |some (.ins _ _ _)=>True
 |some (.ext _)=>True
 |_=>False
section
variable{P:jE}{w:jL}{H:Hp}{h h':Heap}{x e:j9}{o':HO}
theorem HOk.write(ok:HOk P w H h)(mu:Mut (H x))(he:e=x∨H e=xU (.own x))(k:∀b u,b≠e->h.get? b=xU u->h'.get? b=xU u)(heo:∃u,h'.get? e=xU u)
  (new:ObjOk P w (upd H x o') h' x o'):HOk P w (upd H x o') h':=λb u q=>by
 have nown:∀c y,H c=xU (.own y)->c≠x:=λc y r z=>by subst z;rw[r]at mu;exact mu
 have ntup:∀c xs,H c=xU (.tup xs)->c≠x:=λc xs r z=>by subst z;rw[r]at mu;exact mu
 by_cases hb:b=x
 ·subst hb;rw[I8]at q;cases q;exact new
 ·rw[Bs hb]at q;by_cases hbe:b=e
  ·have q':H b=xU (.own x):=by
    rcases he with z|z
    ·exact absurd (hbe.trans z) hb
    ·rw[hbe];exact z
   rw[q]at q';cases q';obtain⟨v,hv⟩:=heo;exact⟨v,by rw[hbe];exact hv⟩
  ·refine(ok b u q).stay (λc v hc r=>k c v ?_ r) (λc r=>by rw[Bs (nown c b r)];exact r) λc xs r=>by rw[Bs (ntup c xs r)];exact r
   rcases hc with rfl|hc
   ·exact hbe
   ·rintro rfl;rcases he with z|z
    ·exact nown c b hc z
    ·rw[hc]at z;cases z;exact hb rfl
end
structure Un (fs ex:List j9) (H H':Hp) (h h':Heap):Prop where
 keep:∀b o,h.get? b=xU o->H b=vQ->b∉fs->b∉ex->h'.get? b=xU o
 slot:∀b o,h.get? b=xU o->H b=vQ->b∈fs->b∉ex->∃sl,h'.get? b=xU {o with slots:=sl}
 free:∀b o,h.get? b=xU o->H b=vQ->b∉ex->H' b=vQ
 there:∀b o,h.get? b=xU o->b∉ex->∃o',h'.get? b=xU o'
 tups:∀b xs,H b=xU (.tup xs)->H' b=xU (.tup xs)
 frzs:∀b o u,H b=xU (.frz o u)->H' b=xU (.frz o u)
 tbls:∀b ps,H b=xU (.tbl ps)->∃more,H' b=xU (.tbl (ps++more))
section
variable{fs fs' ex ex':List j9}{H H1 H2:Hp}{h h1 h2 h':Heap}{a x e:j9}{o:HO}
theorem Un.any(u:Un fs ex H H1 h h1){ob:Obj}(q:h.get? b=xU ob)(n:H b=vQ)(hx:b∉ex):∃sl,h1.get? b=xU {ob with slots:=sl}:=by
 by_cases hb:b∈fs
 ·exact u.slot b ob q n hb hx
 ·exact⟨ob.slots,u.keep b ob q n hb hx⟩
theorem Un.kept(k:∀b u,h.get? b=xU u->h'.get? b=xU u):Un fs ex H H h h':=
 ⟨λb ob q _ _ _=>k b ob q,λb ob q _ _ _=>⟨ob.slots,k b ob q⟩,λ_ _ _ n _=>n,λb ob q _=>⟨ob,k b ob q⟩,λ_ _ q=>q,λ_ _ _ q=>q,λ_ ps q=>⟨#[],by rw[q];simp⟩⟩
theorem Un.refl:Un fs ex H H h h:=Un.kept λ_ _ q=>q
theorem Un.laid(k:∀b u,h.get? b=xU u->h'.get? b=xU u)(hp:h.objs.size<=a)(hn:H a=vQ):Un fs ex H (upd H a o) h h' where
 keep:=λb u q _ _ _=>k b u q
 slot:=λb u q _ _ _=>⟨u.slots,k b u q⟩
 free:=λb u q n _=>by rw[Bs (zL (zV (zz q) hp))];exact n
 there:=λb u q _=>⟨u,k b u q⟩
 tups:=λb xs q=>by rw[Bs (Hr q hn)];exact q
 frzs:=λb u xs q=>by rw[Bs (Hr q hn)];exact q
 tbls:=λb ps q=>⟨#[],by rw[Bs (Hr q hn),q];simp⟩
theorem Un.write(mu:Mut (H x))(he:e=x∨H e=xU (.own x))(k:∀b u,b≠e->h.get? b=xU u->h'.get? b=xU u)(heo:∃u,h'.get? e=xU u):Un fs ex H (upd H x o) h h':=by
 have hx:∀b,H b=vQ->b≠x:=λb n z=>by subst z;rw[n]at mu;exact mu
 have hb:∀b,H b=vQ->b≠e:=λb n z=>by
  subst z;rcases he with r|r
  ·exact hx b n r
  ·rw[n]at r;cases r
 have hm:∀b u,H b=xU u->¬Mut (xU u)->b≠x:=λb u q nm z=>by subst z;rw[q]at mu;exact nm mu
 refine⟨λb u q n _ _=>k b u (hb b n) q,λb u q n _ _=>⟨u.slots,k b u (hb b n) q⟩,λb u q n _=>by rw[Bs (hx b n)];exact n,λb u q _=>?_,
  λb xs q=>by rw[Bs (hm b _ q λz=>z)];exact q,λb u xs q=>by rw[Bs (hm b _ q λz=>z)];exact q,λb ps q=>⟨#[],by rw[Bs (hm b _ q λz=>z),q];simp⟩⟩
 by_cases hbe:b=e
 ·subst hbe;exact heo
 ·exact⟨u,k b u hbe q⟩
end
noncomputable def trk(h:Heap)(H:Hp):List j9:=(zv h.objs.size).filter λa=>(H a).isSome
def Kc(h:Heap)(H:Hp):Heap:=PySem.W.hideAll h (trk h H)
theorem ZM5(h:Heap)(H:Hp):(Kc h H).objs.size=h.objs.size:=PySem.W.hideAll_size _ _
theorem ZNf{o:Obj}(e:h.get? b=xU o)(n:H b=vQ):(Kc h H).get? b=xU o:=
 PySem.W.hideAll_get _ e λhm=>by have q:(H b).isSome=vZ:=(jZ.mp hm).2;rw[n]at q;simp at q
theorem ZKu{o:Obj}(e:(Kc h H).get? b=xU o):h.get? b=xU o/\H b=vQ:=by
 have e':h.get? b=xU o:=PySem.W.of_hideAll (trk h H) e;refine⟨e',?_⟩;cases q:H b with
 |none=>rfl
 |some x=>
  have hm:b∈trk h H:=jZ.mpr ⟨qz.mpr (zz e'),by simp[q]⟩;have z:(Kc h H).get? b=vQ:=PySem.W.hideAll_none (trk h H) hm;rw[z]at e;cases e
noncomputable def ZKY(g h:Heap)(L:j9):List (j9×Obj):=(zv h.objs.size).filterMap λa=>if a=L∨(g.get? a).isSome=vZ then vQ else(h.get? a).map λo=>(a,o)
def rest(g h:Heap)(L d:j9):List (j9×Obj):=(ZKY g h L).filter λp=>decide (p.1≠d)
structure Mod (K:PySem.W.Frag) (mg:Str->Option jI) (base:Heap):Prop where
 kin:K.In base
 glob:base.Ns xj mg
 blt:∃mb,base.Ns builtinsNs mb/\∀x:Str,x≠"__name__"->mb x=jS x
 nolimit:base.NoLimit
structure Cx where
 prog:jE
 w:jL
 K:PySem.W.Frag
 mg:Str->Option jI
 base:Heap
 A:jA
 N:List Str
 s₀:jG
 H₀:Hp
 env:Env
 outer:List Env
 stack:List Env
 ex:List j9
 fn:Str->Bool
 calm:Bool
 pn:List (j9×Obj)
 xe:jI->jG->Prop
variable{X:Cx}
noncomputable def frs(l:List Env):List j9:=l.filterMap (·.frame)
noncomputable abbrev Cx.fs(X:Cx):List j9:=frs X.outer
def Vis(sc:jF)(x:Str):Prop:=sc.names.lookup x=xU .local∨sc.names.lookup x=xU .cell∨sc.names.lookup x=xU .free
def Loc(sc:jF)(x:Str):Prop:=sc.names.lookup x=xU .local∨sc.names.lookup x=xU .cell
def Look(env:Env)(h:Heap)(m:Str->Option jI)(x:Str)(u:jI):Prop:=
 (env.kindOf x=xU .local/\m x=xU u)∨((env.kindOf x=xU .cell∨env.kindOf x=xU .free)/\∃c,env.cells.lookup x=xU c/\h.IsCell c (xU u))
structure Cx.Ok (X:Cx):Prop where
 mod:Mod X.K X.mg X.base
 kind:X.env.scope.kind=.function
 glob:X.env.globals=xj
 blt:X.env.builtins=builtinsNs
 above:X.s₀.heap.objs.size<=X.env.locals
 inj:∀x y c,X.env.cells.lookup x=xU c->X.env.cells.lookup y=xU c->x=y
 has:∀x,(X.env.kindOf x=xU .cell∨X.env.kindOf x=xU .free)->∃c,X.env.cells.lookup x=xU c
 cab:∀x c,X.fn x=vZ->X.env.cells.lookup x=xU c->X.s₀.heap.objs.size<=c
 hd:X.calm=vZ->X.A.handled=vQ
 frames:X.A.frames=xU X.stack
 stk:X.stack=X.outer∨(X.stack=X.env::X.outer/\X.env.frame=xU X.env.locals)
 exf:∀b∈X.ex,b≠X.env.locals/\∀x c,X.env.cells.lookup x=xU c->c≠b
 bs:∀b o,X.base.get? b=xU o->X.s₀.heap.get? b=xU o/\X.H₀ b=vQ
 bsz:X.base.objs.size<=X.s₀.heap.objs.size
 noex:∀b o,X.base.get? b=xU o->b∉X.ex
 exfs:∀b∈X.ex,b∉X.fs
 funs:X.s₀.heap.FunFrames X.base X.outer
 frf:∀b∈X.fs,X.H₀ b=vQ
structure Inv (X:Cx) (xT:List (j9×Obj)) (σ:List (Option V)) (H:Hp) (s:jG):Prop where
 ok:X.Ok
 os:s.os=X.s₀.os
 bare:AllBare s.gens
 base:Un X.fs X.ex X.H₀ H X.s₀.heap s.heap
 loc:∃m,s.heap.Ns X.env.locals m/\∀(i:Nat)(x:Str)(v:V),X.N[i]?=xU x->σ[i]?=xU (xU v)->Vis X.env.scope x->∃u,RelV v u/\Look X.env s.heap m x u
 cell:∀x c,X.env.cells.lookup x=xU c->∃v,s.heap.IsCell c v
 free:H X.env.locals=vQ
 Iz:∀x c,X.env.cells.lookup x=xU c->H c=vQ
 pin:∀p∈X.pn++xT,s.heap.get? p.1=xU p.2/\H p.1=vQ/\p.1≠X.env.locals/\p.1∉X.fs/\∀v,p.2.data≠ .cell v
 hok:HOk X.prog X.w H s.heap
 len:σ.length=X.N.length
section
variable{X:Cx}{xT:List (j9×Obj)}{σ:List (Option V)}{H H':Hp}{s:jG}{h':Heap}
theorem Cx.Ok.nofr(ok:X.Ok){o:Obj}(e:X.base.get? b=xU o):b∉X.fs:=λhb=>by have:=(ok.funs.mem hb).1;rw[e]at this;cases this
theorem Inv.bs(I:Inv X xT σ H s):∀b o,X.base.get? b=xU o->s.heap.get? b=xU o/\H b=vQ:=λb o e=>
 ⟨I.base.keep b o (I.ok.bs b o e).1 (I.ok.bs b o e).2 (I.ok.nofr e) (I.ok.noex b o e),I.base.free b o (I.ok.bs b o e).1 (I.ok.bs b o e).2 (I.ok.noex b o e)⟩
theorem Inv.bk(I:Inv X xT σ H s):∀b o,X.base.get? b=xU o->s.heap.get? b=xU o:=λb o e=>(I.bs b o e).1
theorem Inv.mod(I:Inv X xT σ H s):Mod X.K X.mg X.base:=I.ok.mod
theorem Inv.kIn(I:Inv X xT σ H s):X.K.In s.heap:=I.ok.mod.kin.keeps I.bk
theorem Inv.lt(I:Inv X xT σ H s):X.env.locals<s.heap.objs.size:=let⟨_,hn,_⟩:=I.loc;hn.lt
theorem Inv.sz(I:Inv X xT σ H s):X.s₀.heap.objs.size<=s.heap.objs.size:=z0 I.ok.above (Nat.le_of_lt I.lt)
theorem Inv.nofs(I:Inv X xT σ H s)(h:s.heap.objs.size<=a):a∉X.fs:=λhb=>by obtain⟨_,o,ho,_⟩:=I.ok.funs.mem hb;exact absurd (zV (zz ho) (z0 I.sz h)) (zO _)
theorem Inv.cne(I:Inv X xT σ H s):∀x c,X.env.cells.lookup x=xU c->c≠X.env.locals:=λx c e z=>by obtain⟨v,o,ho,hd⟩:=I.cell x c e;obtain⟨m,⟨o',es,ep,ho',hd',_⟩,_⟩:=I.loc;rw[z,ho']at ho;cases ho;rw[hd']at hd;cases hd
theorem Inv.funs(I:Inv X xT σ H s):s.heap.FunFrames X.base X.outer:=by
 have all:∀(l:List Env),(∀b∈frs l,b∈X.fs)->X.s₀.heap.FunFrames X.base l->s.heap.FunFrames X.base l:=by
  intro l
  induction l with
  |nil=>intro _ _;trivial
  |cons env r ih=>
   intro hs hl;obtain⟨hk,⟨L,o,hf,hn,ho,hd⟩,hr⟩:=hl;have hL:L∈X.fs:=hs L (by unfold frs;rw[zS,hf];exact zy);obtain⟨sl,e⟩:=I.base.slot L o ho (I.ok.frf L hL) hL λz=>I.ok.exfs L z hL
   exact⟨hk,⟨L,_,hf,hn,e,hd⟩,ih (λb hb=>hs b (by unfold frs;rw[zS,hf];exact zZ _ hb)) hr⟩
 exact all X.outer (λ_ hb=>hb) I.ok.funs
theorem Inv.stack(I:Inv X xT σ H s):s.heap.FunFrames X.base X.stack:=by
 rcases I.ok.stk with e|⟨e,hf⟩
 ·rw[e];exact I.funs
 ·rw[e];obtain⟨m,hn,_⟩:=I.loc;refine .cons (by rw[I.ok.kind];decide) hf hn ?_ I.funs;exact Heap.get?_none_of_le (z0 I.ok.bsz I.ok.above)
theorem Inv.Xr(I:Inv X xT σ H s):∀b∈frs X.stack,b∈X.env.locals::X.fs:=λb hb=>by
 rcases I.ok.stk with e|⟨e,hf⟩
 ·rw[e]at hb;exact zZ _ hb
 ·rw[e]at hb;unfold frs at hb;rw[zS,hf]at hb;exact hb
theorem Inv.ZEM(I:Inv X xT σ H s):∀b∈frs X.stack,H b=vQ:=λb hb=>by
 rcases zJ.mp (I.Xr b hb)with e|hb
 ·rw[e];exact I.free
 ·obtain⟨_,o,ho,_⟩:=I.ok.funs.mem hb;exact I.base.free b o ho (I.ok.frf b hb) λz=>I.ok.exfs b z hb
theorem Inv.step{g':Array GenState}{d':Drawn}(I:Inv X xT σ H s)
  (hch:∀b∈ch,(b∈X.ex∨X.s₀.heap.objs.size<=b)/\b≠X.env.locals/\(∀x c,X.env.cells.lookup x=xU c->c≠b)/\∀p∈X.pn++xT,p.1≠b)
  (keep:∀b o,b≠X.env.locals->b∉X.fs->b∉ch->s.heap.get? b=xU o->H b=vQ->h'.get? b=xU o)
  (slot:∀b o,b≠X.env.locals->b∈X.fs->b∉ch->s.heap.get? b=xU o->H b=vQ->∃sl,h'.get? b=xU {o with slots:=sl}) (free:∀b o,b∉ch->s.heap.get? b=xU o->H b=vQ->H' b=vQ)
  (there:∀b o,b∉ch->s.heap.get? b=xU o->∃o',h'.get? b=xU o')
  (tups:∀b xs,H b=xU (.tup xs)->H' b=xU (.tup xs)) (frzs:∀b o u,H b=xU (.frz o u)->H' b=xU (.frz o u)) (tbls:∀b ps,H b=xU (.tbl ps)->∃more,H' b=xU (.tbl (ps++more)))
  (ns:∀m,s.heap.Ns X.env.locals m->h'.Ns X.env.locals m) (hok:HOk X.prog X.w H' h') (hg:AllBare g'):
  Inv X xT σ H' {s with heap:=h',gens:=g',drawn:=d',toks:=t'}:=by
 have neL:∀b o,X.s₀.heap.get? b=xU o->b≠X.env.locals:=λb o e=>zL (zV (zz e) I.ok.above)
 have neC:∀b o,X.s₀.heap.get? b=xU o->b∉X.ex->b∉ch:=λb o e hx hb=>by
  rcases(hch b hb).1 with z|z
  ·exact hx z
  ·exact absurd (zV (zz e) z) (zO _)
 have cellK:∀x c,X.env.cells.lookup x=xU c->∀v,s.heap.IsCell c v->h'.IsCell c v:=λx c e v ⟨o,ho,hd⟩=>by
  have nch:c∉ch:=λz=>(hch c z).2.2.1 x c e rfl
  by_cases hc:c∈X.fs
  ·obtain⟨sl,q⟩:=slot c o (I.cne x c e) hc nch ho (I.Iz x c e);exact⟨_,q,hd⟩
  ·exact⟨o,keep c o (I.cne x c e) hc nch ho (I.Iz x c e),hd⟩
 refine⟨I.ok,I.os,hg,⟨λb o e n hb hx=>?_,λb o e n hb hx=>?_,λb o e n hx=>?_,λb o e hx=>?_,λb xs e=>tups b xs (I.base.tups b xs e),λb o xs e=>frzs b o xs (I.base.frzs b o xs e),λb ps e=>?_⟩,?_,λx c e=>?_,?_,λx c e=>?_,λp hp=>?_,hok,I.len⟩
 ·exact keep b o (neL b o e) hb (neC b o e hx) (I.base.keep b o e n hb hx) (I.base.free b o e n hx)
 ·obtain⟨sl,e1⟩:=I.base.slot b o e n hb hx;obtain⟨sl',e2⟩:=slot b _ (neL b o e) hb (neC b o e hx) e1 (I.base.free b o e n hx);exact⟨sl',e2⟩
 ·obtain⟨o',e1⟩:=I.base.there b o e hx;exact free b o' (neC b o e hx) e1 (I.base.free b o e n hx)
 ·obtain⟨o',e1⟩:=I.base.there b o e hx;exact there b o' (neC b o e hx) e1
 ·obtain⟨m1,e1⟩:=I.base.tbls b ps e;obtain⟨m2,e2⟩:=tbls b _ e1;exact⟨m1++m2,by rw[e2,Array.append_assoc]⟩
 ·obtain⟨m,hn,hl⟩:=I.loc;refine⟨m,ns m hn,λi x v e1 e2 e3=>?_⟩;obtain⟨u,r,l⟩:=hl i x v e1 e2 e3;refine⟨u,r,?_⟩;rcases l with l|⟨k,c,e,z⟩
  ·exact .inl l
  ·exact .inr ⟨k,c,e,cellK x c e _ z⟩
 ·obtain⟨v,z⟩:=I.cell x c e;exact⟨v,cellK x c e v z⟩
 ·obtain⟨m,⟨o,_,_,ho,_⟩,_⟩:=I.loc;exact free _ o (λz=>(hch _ z).2.1 rfl) ho I.free
 ·obtain⟨v,o,ho,hd⟩:=I.cell x c e;exact free c o (λz=>(hch c z).2.2.1 x c e rfl) ho (I.Iz x c e)
 ·obtain⟨e,n,ne,nf,d⟩:=I.pin p hp;have nch:p.1∉ch:=λz=>(hch p.1 z).2.2.2 p hp rfl
  exact⟨keep p.1 p.2 ne nf nch e n,free p.1 p.2 nch e n,ne,nf,d⟩
theorem Inv.un(I:Inv X xT σ H s)(u:Un X.fs [] H H' s.heap h')(hok:HOk X.prog X.w H' h'):Inv X xT σ H' {s with heap:=h',toks:=t'}:=by
 obtain⟨m,⟨o,es,ep,ho,r⟩,_⟩:=id I.loc;obtain⟨sl,hL⟩:=u.any ho I.free (by simp)
 exact I.step (g':=s.gens) (d':=s.drawn) (ch:=[]) (λ_ z=>nomatch z) (λb o _ hb _ e n=>u.keep b o e n hb (by simp)) (λb o _ hb _ e n=>u.slot b o e n hb (by simp)) (λb o _ e n=>u.free b o e n (by simp)) (λb o _ e=>u.there b o e (by simp)) u.tups u.frzs u.tbls (λm' hm=>by obtain⟨o',es',ep',ho',r'⟩:=hm;rw[ho]at ho';cases ho';exact⟨_,es',ep',hL,r'⟩) hok I.bare
theorem Inv.call{g':Array GenState}{d':Drawn}(I:Inv X xT σ H s)(u:Un (frs X.stack) ch H H' s.heap h')(hok:HOk X.prog X.w H' h')(hg:AllBare g')
  (hch:∀b∈ch,(b∈X.ex∨X.s₀.heap.objs.size<=b)/\b≠X.env.locals/\(∀x c,X.env.cells.lookup x=xU c->c≠b)/\∀p∈X.pn++xT,p.1≠b):
  Inv X xT σ H' {s with heap:=h',gens:=g',drawn:=d',toks:=t'}:=by
 obtain⟨m,⟨o,es,ep,ho,r⟩,_⟩:=id I.loc;obtain⟨sl,hL⟩:=u.any ho I.free λz=>(hch _ z).2.1 rfl
 exact I.step (ch:=ch) hch (λb o hL hb hc e n=>u.keep b o e n (λz=>(zJ.mp (I.Xr b z)).elim hL hb) hc) (λb o _ _ hc e n=>u.any e n hc) (λb o hc e n=>u.free b o e n hc) (λb o hc e=>u.there b o e hc) u.tups u.frzs u.tbls (λm' hm=>by obtain⟨o',es',ep',ho',r'⟩:=hm;rw[ho]at ho';cases ho';exact⟨_,es',ep',hL,r'⟩) hok hg
theorem Inv.turned{it:j9}(I:Inv X xT σ H s)(k:∀b o,b≠it->s.heap.get? b=xU o->h'.get? b=xU o)(hn:H it=vQ)(hL:it≠X.env.locals)
  (h1:it∈X.ex∨X.s₀.heap.objs.size<=it) (h2:∀x c,X.env.cells.lookup x=xU c->c≠it) (h3:∀p∈X.pn++xT,p.1≠it):Inv X xT σ H {s with heap:=h',toks:=t'}:=by
 have nit:∀b u,H b=xU u->b≠it:=λb u e z=>by rw[z,hn]at e;cases e
 refine I.step (g':=s.gens) (d':=s.drawn) (ch:=[it]) (λb hb=>?_) (λb o _ _ hc e _=>k b o (λz=>hc (by simp[z])) e) (λb o _ _ hc e _=>⟨o.slots,k b o (λz=>hc (by simp[z])) e⟩) (λ_ _ _ _ n=>n)
  (λb o hc e=>⟨o,k b o (λz=>hc (by simp[z])) e⟩) (λ_ _ e=>e) (λ_ _ _ e=>e) (λb ps e=>⟨#[],by rw[e];simp⟩) (λm hm=>?_) (λb u e=>?_) I.bare
 ·have e:b=it:=by simpa using hb
  subst e;exact⟨h1,hL,h2,h3⟩
 ·obtain⟨o,es,ep,ho,r⟩:=hm;exact⟨o,es,ep,k _ o (Ne.symm hL) ho,r⟩
 ·refine(I.hok b u e).stay (λc v hc q=>k c v ?_ q) (λ_ q=>q) λ_ _ q=>q
  rcases hc with z|z
  ·rw[z];exact nit b u e
  ·exact nit c _ z
theorem Inv.tok(I:Inv X xT σ H s)(t:Nat):Inv X xT σ H {s with toks:=t}:=I.un (h':=s.heap) (t':=t) Un.refl I.hok
theorem Inv.kept(I:Inv X xT σ H s)(k:∀b u,s.heap.get? b=xU u->h'.get? b=xU u):Inv X xT σ H {s with heap:=h',toks:=t'}:=I.un (Un.kept k) (I.hok.kept k)
theorem Inv.laid(I:Inv X xT σ H s)(k:∀b u,s.heap.get? b=xU u->h'.get? b=xU u)(hp:s.heap.objs.size<=a)(new:ObjOk X.prog X.w (upd H a o) h' a o):
  Inv X xT σ (upd H a o) {s with heap:=h',toks:=t'}:=I.un (Un.laid k hp (I.hok.fresh hp)) (I.hok.laid k hp new)
theorem Inv.write{x e:j9}(I:Inv X xT σ H s)(mu:Mut (H x))(he:e=x∨H e=xU (.own x))(k:∀b u,b≠e->s.heap.get? b=xU u->h'.get? b=xU u)(heo:∃u,h'.get? e=xU u)
  (new:ObjOk X.prog X.w (upd H x o) h' x o):Inv X xT σ (upd H x o) {s with heap:=h',toks:=t'}:=I.un (Un.write mu he k heo) (I.hok.write mu he k heo new)
theorem Inv.Kz{pins':List (j9×Obj)}(I:Inv X xT σ H s)(h:∀p∈pins',s.heap.get? p.1=xU p.2/\H p.1=vQ/\p.1≠X.env.locals/\p.1∉X.fs/\∀v,p.2.data≠ .cell v):Inv X pins' σ H s:=
 ⟨I.ok,I.os,I.bare,I.base,I.loc,I.cell,I.free,I.Iz,λp hp=>(zB.mp hp).elim (λz=>I.pin p (j0 _ z)) (h p),I.hok,I.len⟩
theorem ZCq{N:List Str}(hN:N.Nodup){j:Nat}(a:N[i]?=xU x)(b:N[j]?=xU x):i=j:=by obtain⟨h1,e1⟩:=z3.mp a;obtain⟨h2,e2⟩:=z3.mp b;exact(List.getElem_inj hN).mp (e1.trans e2.symm)
theorem ZER{M:Model}{A:jA}{E:jI->jG->Prop}{v:V}(I:Inv X xT σ H s)(hN:X.N.Nodup)(hi:X.N[i]?=xU x)(hx:Loc X.env.scope x)(r:RelV v u)
  (h:∀s',Inv X xT (σ.set i (xU v)) H s'->(∃a,qE a s.heap s'.heap/\(a=X.env.locals∨X.env.cells.lookup x=xU a))->Q () s') (hf:X.fn x=vZ∨X.env.scope.names.lookup x=xU .local:=by first|exact .inl rfl|exact .inr rfl|assumption):xB M A (storeName X.env x u) Q E s:=by
 obtain⟨m,hn,hl⟩:=id I.loc;have hcls:(X.env.scope.kind == .class||(X.env.scope.kind == .module&&X.env.locals != X.env.globals))=vJ:=by rw[I.ok.kind];rfl
 have hiσ:i<σ.length:=by rw[I.len];exact(z3.mp hi).1
 have cne:=I.cne;have tracked:∀{a:j9}{h':Heap},(∃o,s.heap.get? a=xU o/\H a=vQ)->qE a s.heap h'->HOk X.prog X.w H h':=λ{a h'}ha hs b ob e=>by
  obtain⟨_,_,hfree⟩:=ha;refine(I.hok b ob e).stay (λc w' hc q=>(hs.2 c ?_).trans q) (λ_ q=>q) λ_ _ q=>q
  rintro rfl;rcases hc with rfl|hc
  ·rw[hfree]at e;cases e
  ·rw[hfree]at hc;cases hc
 rcases hx with hk|hk
 ·refine wpAny_storeName_local hk hn (λh' hn' hs=>?_) hcls;obtain⟨oL,_,_,hoL,_⟩:=id hn;refine h _ ⟨I.ok,I.os,I.bare,⟨λb o e n hb hx=>?_,λb o e n hb hx=>?_,I.base.free,λb o e hx=>?_,I.base.tups,I.base.frzs,I.base.tbls⟩,⟨_,hn',λj y v' e1 e2 e3=>?_⟩,λy c e=>?_,I.free,I.Iz,λp hp=>?_,tracked ⟨oL,hoL,I.free⟩ hs,by simpa using I.len⟩ ⟨_,hs,.inl rfl⟩
  ·exact(hs.2 b (zL (zV (zz e) I.ok.above))).trans (I.base.keep b o e n hb hx)
  ·obtain⟨sl,e1⟩:=I.base.slot b o e n hb hx;exact⟨sl,(hs.2 b (zL (zV (zz e) I.ok.above))).trans e1⟩
  ·obtain⟨o',e1⟩:=I.base.there b o e hx;exact⟨o',(hs.2 b (zL (zV (zz e) I.ok.above))).trans e1⟩
  ·by_cases hj:j=i
   ·subst hj;rw[hi]at e1;cases e1;rw[List.getElem?_set_self hiσ]at e2;cases e2;exact⟨u,r,.inl ⟨hk,by simp⟩⟩
   ·rw[j1 (Ne.symm hj)]at e2;obtain⟨u',r',q⟩:=hl j y v' e1 e2 e3;refine⟨u',r',?_⟩;rcases q with⟨k,e⟩|⟨k,c,e,z⟩
    ·refine .inl ⟨k,?_⟩;have:y≠x:=λe=>hj (ZCq hN e1 (e▸hi))
     simp[this,e]
    ·exact .inr ⟨k,c,e,z.sameBut hs (cne y c e)⟩
  ·obtain⟨w',z⟩:=I.cell y c e;exact⟨w',z.sameBut hs (cne y c e)⟩
  ·obtain⟨e,n,ne,nf,d⟩:=I.pin p hp;exact⟨(hs.2 p.1 ne).trans e,n,ne,nf,d⟩
 ·have hfn:X.fn x=vZ:=by
   rcases hf with z|z
   ·exact z
   ·rw[z]at hk;cases hk
  obtain⟨c,hc⟩:=I.ok.has x (.inl hk);obtain⟨w',z⟩:=I.cell x c hc;refine wpAny_storeName_cell I.ok.kind hk hc z (λh' hc' hs=>?_);obtain⟨oc,hoc,hocd⟩:=id z;refine h {s with heap:=h'} ⟨I.ok,I.os,I.bare,⟨λb o e n hb hx=>?_,λb o e n hb hx=>?_,I.base.free,λb o e hx=>?_,I.base.tups,I.base.frzs,I.base.tbls⟩,⟨m,hn.sameBut hs (Ne.symm (cne x c hc)),λj y v' e1 e2 e3=>?_⟩,λy c' e=>?_,I.free,I.Iz,λp hp=>?_,tracked ⟨oc,hoc,I.Iz x c hc⟩ hs,by simpa using I.len⟩ ⟨c,hs,.inr hc⟩
  ·exact(hs.2 b (zL (zV (zz e) (I.ok.cab x c hfn hc)))).trans (I.base.keep b o e n hb hx)
  ·obtain⟨sl,e1⟩:=I.base.slot b o e n hb hx;exact⟨sl,(hs.2 b (zL (zV (zz e) (I.ok.cab x c hfn hc)))).trans e1⟩
  ·obtain⟨o',e1⟩:=I.base.there b o e hx;exact⟨o',(hs.2 b (zL (zV (zz e) (I.ok.cab x c hfn hc)))).trans e1⟩
  ·by_cases hj:j=i
   ·subst hj;rw[hi]at e1;cases e1;rw[List.getElem?_set_self hiσ]at e2;cases e2;exact⟨u,r,.inr ⟨.inl hk,c,hc,hc'⟩⟩
   ·rw[j1 (Ne.symm hj)]at e2;obtain⟨u',r',q⟩:=hl j y v' e1 e2 e3;refine⟨u',r',?_⟩;rcases q with q|⟨k,c',e,z'⟩
    ·exact .inl q
    ·refine .inr ⟨k,c',e,z'.sameBut hs ?_⟩;rintro rfl;exact hj (ZCq hN e1 (I.ok.inj _ _ _ e hc▸hi))
  ·by_cases hcc:c'=c
   ·subst hcc;exact⟨_,hc'⟩
   ·obtain⟨w2,z2⟩:=I.cell y c' e;exact⟨w2,z2.sameBut hs hcc⟩
  ·obtain⟨e,n,ne,nf,d⟩:=I.pin p hp;refine⟨(hs.2 p.1 ?_).trans e,n,ne,nf,d⟩;intro q;rw[q,hoc]at e;have q':oc=p.2:=Option.some.inj e;exact d w' (by rw[<-q'];exact hocd)
theorem ZDR{M:Model}{A:jA}{E:jI->jG->Prop}{v:V}(I:Inv X xT σ H s)(hN:X.N.Nodup)(hi:X.N[i]?=xU x)(hx:Loc X.env.scope x)(r:RelV v u)
  (h:∀s',Inv X xT (σ.set i (xU v)) H s'->Q () s') (hf:X.fn x=vZ∨X.env.scope.names.lookup x=xU .local:=by first|exact .inl rfl|exact .inr rfl|assumption):xB M A (storeName X.env x u) Q E s:=
 ZER I hN hi hx r (λs' I' _=>h s' I') hf
theorem Inv.call'{s':jG}(I:Inv X xT σ H s)(ho:s'.os=s.os)(u:Un (frs X.stack) ch H H' s.heap s'.heap)(hok:HOk X.prog X.w H' s'.heap)(hg:AllBare s'.gens)
  (hch:∀b∈ch,(b∈X.ex∨X.s₀.heap.objs.size<=b)/\b≠X.env.locals/\(∀x c,X.env.cells.lookup x=xU c->c≠b)/\∀p∈X.pn++xT,p.1≠b):Inv X xT σ H' s':=by
 obtain⟨h',g',d',t',o'⟩:=s';have e:o'=s.os:=ho;subst e;exact I.call (g':=g') (t':=t') (d':=d') u hok hg hch
end
noncomputable abbrev XK:=jI->Option j9->Hp->Prop
noncomputable abbrev St:=List (Option V)
variable{σ:St}
noncomputable abbrev VK:=V->Hp->Prop
noncomputable abbrev TE:=St->Hp->VK->Prop
noncomputable abbrev TT:=St->Hp->(Bool->Hp->Prop)->Prop
noncomputable abbrev TA:=St->Hp->(List V->Hp->Prop)->Prop
structure Ends where
 nx:St->Hp->Prop
 rt:VK
 bk:St->Hp->Prop:=λ_ _=>False
 ct:St->Hp->Prop:=λ_ _=>False
noncomputable abbrev TS:=Ends->St->Hp->Prop
def EP(X:Cx)(xT:List (j9×Obj))(σ:St)(Q:VK)(u:jI)(s':jG):Prop:=∃v H',Inv X xT σ H' s'/\RelV v u/\Q v H'
def TP(X:Cx)(xT:List (j9×Obj))(σ:St)(Q:Bool->Hp->Prop)(b:Bool)(s':jG):Prop:=∃H',Inv X xT σ H' s'/\Q b H'
def AP(X:Cx)(xT:List (j9×Obj))(σ:St)(Q:List V->Hp->Prop)(us:List jI)(s':jG):Prop:=∃vs H',Inv X xT σ H' s'/\Vals vs us/\Q vs H'
def SP(X:Cx)(xT:List (j9×Obj))(D:Ends)(f:Flow)(s':jG):Prop:=
 match f with
 |.next=>∃σ' H',Inv X xT σ' H' s'/\D.nx σ' H'
 |.brk=>∃σ' H',Inv X xT σ' H' s'/\D.bk σ' H'
 |.cont=>∃σ' H',Inv X xT σ' H' s'/\D.ct σ' H'
 |.ret u=>∃v σ' H',Inv X xT σ' H' s'/\RelV v u/\D.rt v H'
def PE(X:Cx)(e:jB)(t:TE):Prop:=
 ∀(xT:List (j9×Obj))(s:jG)(σ:St)(H:Hp)(Q:VK),Inv X xT σ H s->t σ H Q->xB (xw X.prog X.w) X.A (eval e X.env) (EP X xT σ Q) X.xe s
def PT(X:Cx)(e:jB)(t:TT):Prop:=
 ∀(xT:List (j9×Obj))(s:jG)(σ:St)(H:Hp)(Q:Bool->Hp->Prop),Inv X xT σ H s->t σ H Q->xB (xw X.prog X.w) X.A (isTrue e X.env (eval e X.env)) (TP X xT σ Q) X.xe s
def PW(X:Cx)(e:jB)(t:TT):Prop:=
 ∀(whole:Sem jI)(xT:List (j9×Obj))(s:jG)(σ:St)(H:Hp)(Q:Bool->Hp->Prop),Inv X xT σ H s->t σ H Q->xB (xw X.prog X.w) X.A (isTrue e X.env whole) (TP X xT σ Q) X.xe s
theorem PW.pt{t:TT}(h:PW X e t):PT X e t:=h _
def PA(X:Cx)(es:List jB)(t:TA):Prop:=
 ∀(pos:Pos)(xT:List (j9×Obj))(s:jG)(σ:St)(H:Hp)(Q:List V->Hp->Prop),Inv X xT σ H s->t σ H Q->xB (xw X.prog X.w) X.A (spliced (jN pos (x9 es X.env))) (AP X xT σ Q) X.xe s
def PS(X:Cx)(st:jH)(t:TS):Prop:=
 ∀(xT:List (j9×Obj))(s:jG)(σ:St)(H:Hp)(D:Ends),Inv X xT σ H s->t D σ H->xB (xw X.prog X.w) X.A (exec st X.env) (SP X xT D) X.xe s
def PSs(X:Cx)(st:List jH)(t:TS):Prop:=
 ∀(xT:List (j9×Obj))(s:jG)(σ:St)(H:Hp)(D:Ends),Inv X xT σ H s->t D σ H->xB (xw X.prog X.w) X.A (execs st X.env) (SP X xT D) X.xe s
theorem thn{α:Type}{t:Sem α}{Q Q':α->jG->Prop}{M:Model}(h:xB M A t Q E s)(hQ:∀a s,Q a s->Q' a s):xB M A t Q' E s:=xI h hQ λ_ _ x=>x
section
variable{X:Cx}
noncomputable def tVar(i:Nat):TE:=λσ H Q=>∃v,σ[i]?=xU (xU v)/\Q v H
noncomputable def tC(v:V):TE:=λ_ H Q=>Q v H
theorem ZOe{pos:Pos}(hN:X.N[i]?=xU x)(hv:Vis X.env.scope x)(hd:(x==("__debug__":Str))=vJ:=by decide)(hcd:(x==("__classdict__":Str))=vJ:=by decide):PE X (.Name x pos) (tVar i):=by
 intro xT s σ H Q I h;obtain⟨v,e,h⟩:=h;obtain⟨m,hn,hl⟩:=I.loc;obtain⟨u,r,l⟩:=hl i x v hN e hv;have fin:EP X xT σ Q u s:=⟨v,H,I,r,h⟩;rcases l with⟨hk,hm⟩|⟨hk,c,hc,hcell⟩
 ·exact wpAny_Name (wpAny_loadName_local I.ok.kind hk hn hm fin) hd
 ·rcases hk with hk|hk
  ·exact wpAny_Name (wpAny_loadName_cell I.ok.kind hk hc hcell fin) hd
  ·exact wpAny_Name (wpAny_loadName_free I.ok.kind hk hc hcell fin hcd) hd
theorem ZIp{i j pos}:PE X (.Constant (.int i) j pos) (tC (.int i)):=λ_ _ _ H _ I h=>wpAny_Constant_int ⟨.int i,H,I.tok _,⟨_,rfl⟩,h⟩
theorem ZID{b j pos}:PE X (.Constant (.bool b) j pos) (tC (.bl b)):=λ_ _ _ H _ I h=>Constant_bool ⟨.bl b,H,I,rfl,h⟩
theorem ZI0{j pos}:PE X (.Constant .none j pos) (tC .non):=λ_ _ _ H _ I h=>Constant_none ⟨.non,H,I,rfl,h⟩
theorem ZJV{x j pos}:PE X (.Constant (.str x) j pos) (tC (.str x)):=λ_ _ _ H _ I h=>Calls.Constant_str ⟨.str x,H,I.tok _,⟨_,rfl⟩,h⟩
def Gl(X:Cx)(x:Str):Prop:=X.env.kindOf x=xU .globalImplicit
theorem ZGP{E:jI->jG->Prop}{pos:Pos}{Q:jI->jG->Prop}(I:Inv X xT σ H s)(hg:Gl X x)(hm:X.mg x=xU u)(h:Q u s)
  (hd:(x==("__debug__":Str))=vJ:=by decide):xB (xw X.prog X.w) X.A (eval (.Name x pos) X.env) Q E s:=
 Calls.Name_function_global I.ok.kind hg (Calls.loadGlobal_global (by rw[I.ok.glob];exact I.mod.glob.keeps I.bk) hm h) hd
theorem Rf{E:jI->jG->Prop}{pos:Pos}{Q:jI->jG->Prop}(I:Inv X xT σ H s)(hg:Gl X x)(hm:X.mg x=vQ)(hv:jS x=xU u)(h:Q u s)
  (hn:x≠"__name__":=by decide) (hd:(x==("__debug__":Str))=vJ:=by decide):xB (xw X.prog X.w) X.A (eval (.Name x pos) X.env) Q E s:=by
 obtain⟨mb,h1,h2⟩:=I.mod.blt;exact Calls.Name_function_global I.ok.kind hg (Calls.loadGlobal_builtin (by rw[I.ok.glob];exact I.mod.glob.keeps I.bk) hm (by rw[I.ok.blt];exact h1.keeps I.bk) ((h2 x hn).trans hv) h) hd
theorem ZL7{v:V}{pos:Pos}(hg:Gl X x)(hm:X.mg x=xU u)(r:RelV v u)(hd:(x==("__debug__":Str))=vJ:=by decide):PE X (.Name x pos) (tC v):=
 λ_ _ _ H _ I h=>ZGP I hg hm ⟨v,H,I,r,h⟩ hd
theorem ZMO{v:V}{pos:Pos}(hg:Gl X x)(hm:X.mg x=vQ)(hv:jS x=xU u)(r:RelV v u)(hn:x≠"__name__":=by decide)(hd:(x==("__debug__":Str))=vJ:=by decide):PE X (.Name x pos) (tC v):=
 λ_ _ _ H _ I h=>Rf I hg hm hv ⟨v,H,I,r,h⟩ hn hd
variable{a b:jB}{ta tb:TE}{pos:Pos}
noncomputable def tB(t:TE):TT:=λσ H Q=>t σ H λx H1=>∃c,x=.bl c/\Q c H1
theorem ZMj{t:TE}(h:PE X e t)(he:∀whole,isTrue e X.env whole=(do let v<-whole;standAt e.pos;holding [v] (truthy v)):=by intro _;rfl):PT X e (tB t):=by intro xT s σ H Q I hw;refine isTrue_plain (thn (h xT s σ H _ I hw) λv s1 ⟨x,H1,I1,r1,q1⟩=>?_) (he _);obtain⟨d,rfl,q⟩:=q1;cases r1;exact xP ⟨H1,I1,q⟩
variable{tA tB':TT}{rest:List jB}
noncomputable def tAnd(t u:TT):TT:=λσ H Q=>t σ H λc H1=>if c=vZ then u σ H1 Q else Q vJ H1
noncomputable def tOr(t u:TT):TT:=λσ H Q=>t σ H λc H1=>if c=vZ then Q vZ H1 else u σ H1 Q
noncomputable def tNot(t:TT):TT:=λσ H Q=>t σ H λc H1=>Q (!c) H1
theorem pw_and1(ha:PT X a tA):PW X (.BoolOp .And [a] pos) tA:=by
 intro wh xT s σ H Q I h;refine isTrue_and (thn (ha xT s σ H Q I h) λc s1 e=>?_);cases c with
 |true=>exact isTrue_and_nil e
 |false=>exact e
theorem pw_or1(ha:PT X a tA):PW X (.BoolOp .Or [a] pos) tA:=by
 intro wh xT s σ H Q I h;refine isTrue_or (thn (ha xT s σ H Q I h) λc s1 e=>?_);cases c with
 |false=>exact isTrue_or_nil e
 |true=>exact e
theorem pw_and(ha:PT X a tA)(hb:PW X (.BoolOp .And (b::rest) pos) tB'):PW X (.BoolOp .And (a::b::rest) pos) (tAnd tA tB'):=by
 intro wh xT s σ H Q I h;refine isTrue_and (thn (ha xT s σ H _ I h) λc s1 ⟨H1,I1,q1⟩=>?_);cases c with
 |true=>exact hb wh xT s1 σ H1 Q I1 q1
 |false=>exact⟨H1,I1,q1⟩
theorem pw_or(ha:PT X a tA)(hb:PW X (.BoolOp .Or (b::rest) pos) tB'):PW X (.BoolOp .Or (a::b::rest) pos) (tOr tA tB'):=by
 intro wh xT s σ H Q I h;refine isTrue_or (thn (ha xT s σ H _ I h) λc s1 ⟨H1,I1,q1⟩=>?_);cases c with
 |true=>exact⟨H1,I1,q1⟩
 |false=>exact hb wh xT s1 σ H1 Q I1 q1
theorem ZHk(ha:PT X a tA):PT X (.UnaryOp .Not a pos) (tNot tA):=by intro xT s σ H Q I h;exact isTrue_not (ha xT s σ H (λc H1=>Q (!c) H1) I h)
noncomputable def ZNB(ta tb:TE):TE:=λσ H Q=>ta σ H λx H1=>∃c,x=.bl c/\if c=vZ then tb σ H1 Q else Q (.bl vJ) H1
noncomputable def tOrV(ta tb:TE):TE:=λσ H Q=>ta σ H λx H1=>∃c,x=.bl c/\if c=vZ then Q (.bl vZ) H1 else tb σ H1 Q
noncomputable def ZKs(ta:TE):TE:=λσ H Q=>ta σ H λx H1=>∃c,x=.bl c/\Q (.bl (!c)) H1
theorem ZKI{op}{t:TE}(h:PE X a t):PE X (.BoolOp op [a] pos) t:=λxT s σ H Q I hw=>BoolOp_one (h xT s σ H Q I hw)
theorem ZHe(ha:PE X a ta)(hb:PE X (.BoolOp .And (b::rest) pos) tb):PE X (.BoolOp .And (a::b::rest) pos) (ZNB ta tb):=by
 intro xT s σ H Q I h;refine BoolOp_and (thn (ha xT s σ H _ I h) λv s1 ⟨x,H1,I1,r1,q1⟩=>?_);obtain⟨c,rfl,q1⟩:=q1;cases r1;refine xP ?_;cases c with
 |true=>exact hb xT s1 σ H1 Q I1 q1
 |false=>exact⟨.bl vJ,H1,I1,rfl,q1⟩
theorem ZKQ(ha:PE X a ta)(hb:PE X (.BoolOp .Or (b::rest) pos) tb):PE X (.BoolOp .Or (a::b::rest) pos) (tOrV ta tb):=by
 intro xT s σ H Q I h;refine BoolOp_or (thn (ha xT s σ H _ I h) λv s1 ⟨x,H1,I1,r1,q1⟩=>?_);obtain⟨c,rfl,q1⟩:=q1;cases r1;refine xP ?_;cases c with
 |false=>exact hb xT s1 σ H1 Q I1 q1
 |true=>exact⟨.bl vZ,H1,I1,rfl,q1⟩
theorem ZKS(ha:PE X a ta):PE X (.UnaryOp .Not a pos) (ZKs ta):=by intro xT s σ H Q I h;refine UnaryOp_ (thn (ha xT s σ H _ I h) λv s1 ⟨x,H1,I1,r1,q1⟩=>?_);obtain⟨c,rfl,q1⟩:=q1;cases r1;exact not_of (xP ⟨.bl (!c),H1,I1,rfl,q1⟩)
end
def SqL(K:PySem.W.Frag)(H:Hp)(a:j9)(xs:List V):Prop:=
 Rd H a (.lst xs)∨
  ∃(o:Obj)(its:Array jI)(n:Nat),K.lookup a=xU o/\o.cls=.type "list"/\o.dict=vQ/\o.data=.seq its n/\its.size<=sizeLine/\Vals xs its.toList
def SqT(K:PySem.W.Frag)(H:Hp)(a:j9)(xs:List V):Prop:=
 Rd H a (.tup xs)∨
  ∃(o:Obj)(its:Array jI)(n:Nat),K.lookup a=xU o/\o.cls=.type "tuple"/\o.data=.seq its n/\its.size<=sizeLine/\Vals xs its.toList
noncomputable def absV:jI->Option V
 |.none=>xU .non
 |.bool b=>xU (.bl b)
 |.int i _=>xU (.int i)
 |.str x _=>xU (.str x)
 |.bytes b _=>xU (.byt b)
 |.float b _=>xU (.flt b)
 |.ref a=>xU (.ref a)
 |.type n=>xU (.ty n)
 |_=>vQ
theorem RelV.abs{x:V}(r:RelV x u):absV u=xU x:=by
 cases x with
 |non=>cases r;rfl
 |bl _=>cases r;rfl
 |int _=>obtain⟨t,rfl⟩:=r;rfl
 |str _=>obtain⟨t,rfl⟩:=r;rfl
 |byt _=>obtain⟨t,rfl⟩:=r;rfl
 |flt _=>obtain⟨t,rfl⟩:=r;rfl
 |ref _=>cases r;rfl
 |ty _=>cases r;rfl
theorem RelV.inj{x y:V}(r:RelV x u)(q:RelV y u):x=y:=Option.some.inj (r.abs.symm.trans q.abs)
theorem Vals.inj:∀{xs ys:List V}{us:List jI},Vals xs us->Vals ys us->xs=ys
 |_,_,_,.nil,.nil=>rfl
 |_,_,_,.cons r t,.cons r' t'=>by rw[r.inj r',Vals.inj t t']
section
variable{X:Cx}{xT:List (j9×Obj)}{σ:St}{H:Hp}{s:jG}{a:j9}{xs ys:List V}
theorem SqL.of(h:H a=xU (.lst xs)):SqL K H a xs:=.inl (.inl h)
theorem SqT.of(h:H a=xU (.tup xs)):SqT K H a xs:=.inl (.inl h)
theorem Inv.list(I:Inv X xT σ H s)(h:SqL X.K H a xs):∃its:List jI,Vals xs its/\PlainL s.heap a its.toArray/\xs.length<=sizeLine:=by
 rcases h with h|⟨o,its,n,hk,hc,hd,hs,hz,r⟩
 ·obtain⟨z,its,n,r,e⟩:=h.ok I.hok;exact⟨its,r,⟨_,n,e,rfl,rfl,rfl⟩,z⟩
 ·refine⟨its.toList,r,⟨o,n,I.kIn a o hk,hc,hd,by simpa using hs⟩,?_⟩;have e:=r.length;simp only[qP]at e;lia
theorem Inv.tuple(I:Inv X xT σ H s)(h:SqT X.K H a xs):∃its:List jI,Vals xs its/\IsTup s.heap a its.toArray/\xs.length<=sizeLine:=by
 rcases h with h|⟨o,its,n,hk,hc,hs,hz,r⟩
 ·obtain⟨z,its,r,p⟩:=h.ok I.hok;exact⟨its,r,p,z⟩
 ·refine⟨its.toList,r,⟨o,I.kIn a o hk,hc,n,by simpa using hs⟩,?_⟩;have e:=r.length;simp only[qP]at e;lia
theorem Inv.Za(I:Inv X xT σ H s)(h:SqL X.K H a xs)(h':SqL X.K H a ys):xs=ys:=by
 obtain⟨its,r,⟨o,n,e,_,_,d⟩,_⟩:=I.list h;obtain⟨its',r',⟨o',n',e',_,_,d'⟩,_⟩:=I.list h';rw[e]at e';cases e';rw[d]at d';injection d' with d1 _
 have:its=its':=by simpa using congrArg Array.toList d1
 subst this;exact r.inj r'
theorem Inv.Z8(I:Inv X xT σ H s)(h:SqT X.K H a xs)(h':SqT X.K H a ys):xs=ys:=by
 obtain⟨its,r,⟨o,e,_,n,d⟩,_⟩:=I.tuple h;obtain⟨its',r',⟨o',e',_,n',d'⟩,_⟩:=I.tuple h';rw[e]at e';cases e';rw[d]at d';injection d' with d1 _
 have:its=its':=by simpa using congrArg Array.toList d1
 subst this;exact r.inj r'
end
noncomputable abbrev Cx.wish(X:Cx)(E:jI->jG->Prop):Cx:={X with xe:=E}
noncomputable abbrev Cx.nox(X:Cx):Cx:=X.wish λ_ _=>False
theorem Cx.Ok.wish(ok:X.Ok)(E:jI->jG->Prop):(X.wish E).Ok:=
 ⟨ok.mod,ok.kind,ok.glob,ok.blt,ok.above,ok.inj,ok.has,ok.cab,ok.hd,ok.frames,ok.stk,ok.exf,ok.bs,ok.bsz,ok.noex,ok.exfs,ok.funs,ok.frf⟩
theorem Cx.Ok.unwish(ok:(X.wish E).Ok):X.Ok:=
 ⟨ok.mod,ok.kind,ok.glob,ok.blt,ok.above,ok.inj,ok.has,ok.cab,ok.hd,ok.frames,ok.stk,ok.exf,ok.bs,ok.bsz,ok.noex,ok.exfs,ok.funs,ok.frf⟩
section
variable{X:Cx}{xT:List (j9×Obj)}{σ:St}{H:Hp}{s:jG}{E:jI->jG->Prop}
theorem Inv.wish(I:Inv X xT σ H s)(E:jI->jG->Prop):Inv (X.wish E) xT σ H s:=⟨I.ok.wish E,I.os,I.bare,I.base,I.loc,I.cell,I.free,I.Iz,I.pin,I.hok,I.len⟩
theorem Inv.unwish(I:Inv (X.wish E) xT σ H s):Inv X xT σ H s:=⟨I.ok.unwish,I.os,I.bare,I.base,I.loc,I.cell,I.free,I.Iz,I.pin,I.hok,I.len⟩
theorem SP.unwish{D:Ends}{f:Flow}{s':jG}(h:SP (X.wish E) xT D f s'):SP X xT D f s':=by
 cases f with
 |next=>obtain⟨σ',H',I,q⟩:=h;exact⟨σ',H',I.unwish,q⟩
 |brk=>obtain⟨σ',H',I,q⟩:=h;exact⟨σ',H',I.unwish,q⟩
 |cont=>obtain⟨σ',H',I,q⟩:=h;exact⟨σ',H',I.unwish,q⟩
 |ret u=>obtain⟨v,σ',H',I,r,q⟩:=h;exact⟨v,σ',H',I.unwish,r,q⟩
theorem PSs.nox{st:List jH}{t:TS}(h:PSs X.nox st t):PSs X st t:=λxT s σ H D I hw=>
 xI (h xT s σ H D (I.wish _) hw) (λ_ _ q=>q.unwish) λ_ _ z=>False.elim z
end
section
variable{X:Cx}{st:jH}{rest:List jH}{t u:TS}{e:jB}{te:TE}{pos:Pos}
noncomputable def ZM4:TS:=λD σ H=>D.nx σ H
noncomputable def tSeq(t u:TS):TS:=λD σ H=>t {D with nx:=u D} σ H
theorem ZJh:PSs X [] ZM4:=λ_ _ σ H _ I h=>wpAny_execs_nil ⟨σ,H,I,h⟩
theorem ZN9(h1:PS X st t)(h2:PSs X rest u):PSs X (st::rest) (tSeq t u):=by
 intro xT s σ H D I h;refine wpAny_execs_cons (thn (h1 xT s σ H {D with nx:=u D} I h) λf s1 q=>?_);cases f with
 |next=>
  obtain⟨σ',H',I',q⟩:=q;exact h2 xT s1 σ' H' D I' q
 |ret v=>exact q
 |brk=>exact q
 |cont=>exact q
theorem ZNe(h1:PS X st t):PSs X [st] t:=by
 intro xT s σ H D I h;refine wpAny_execs_cons (thn (h1 xT s σ H D I h) λf s1 q=>?_);cases f with
 |next=>exact wpAny_execs_nil q
 |ret v=>exact q
 |brk=>exact q
 |cont=>exact q
theorem Inv.quiet(I:Inv X xT σ H s):interactive X.env=vJ:=by simp[interactive,I.ok.kind]
noncomputable def ZOq(te:TE):TS:=λD σ H=>te σ H λ_ H1=>D.nx σ H1
theorem ZIr(he:PE X e te)(hs:swapsWith e vQ pos.line X.env=pure vJ:=by rfl):PS X (.Expr e pos) (ZOq te):=by intro xT s σ H D I h;exact wpAny_Expr_any (thn (he xT s σ H _ I h) λv s1 ⟨x,H1,I1,r1,q1⟩=>⟨σ,H1,I1,q1⟩) I.quiet hs
noncomputable def tRet(te:TE):TS:=λD σ H=>te σ H D.rt
theorem ZMF(he:PE X e te):PS X (.Return (xU e) pos) (tRet te):=by intro xT s σ H D I h;exact wpAny_Return_some (thn (he xT s σ H _ I h) λv s1 ⟨x,H1,I1,r1,q1⟩=>⟨x,σ,H1,I1,r1,q1⟩)
noncomputable def tIfS(c:TT)(t u:TS):TS:=λD σ H=>c σ H λb H1=>if b=vZ then t D σ H1 else u D σ H1
theorem ZHl{c:jB}{a b:List jH}{tc:TT}(hc:PT X c tc)(ha:PSs X a t)(hb:PSs X b u):PS X (.If c a b pos) (tIfS tc t u):=by
 intro xT s σ H D I h;refine wpAny_If (thn (hc xT s σ H _ I h) λd s1 ⟨H1,I1,q1⟩=>?_);cases d with
 |true=>exact ha xT s1 σ H1 D I1 q1
 |false=>exact hb xT s1 σ H1 D I1 q1
end
noncomputable abbrev TG:=V->St->Hp->(St->Hp->Prop)->Prop
noncomputable abbrev TGs:=List V->St->Hp->(St->Hp->Prop)->Prop
def PG(X:Cx)(target:jB)(t:TG):Prop:=
 ∀(xT:List (j9×Obj))(s:jG)(σ:St)(H:Hp)(v:V)(u:jI)(Q:St->Hp->Prop),Inv X xT σ H s->RelV v u->t v σ H Q->
  xB (xw X.prog X.w) X.A (assign target X.env u) (λ_ s'=>∃σ' H',Inv X xT σ' H' s'/\Q σ' H') X.xe s
def PGs(X:Cx)(ts:List jB)(t:TGs):Prop:=
 ∀(xT:List (j9×Obj))(s:jG)(σ:St)(H:Hp)(vs:List V)(us:List jI)(Q:St->Hp->Prop),Inv X xT σ H s->Vals vs us->t vs σ H Q->
  xB (xw X.prog X.w) X.A (assignInOrder ((jM ts X.env).map (·.2)) us) (λ_ s'=>∃σ' H',Inv X xT σ' H' s'/\Q σ' H') X.xe s
section
variable{X:Cx}{pos:Pos}
noncomputable def ZE0(i:Nat):TG:=λv σ H Q=>Q (σ.set i (xU v)) H
theorem ZIZ(hN:X.N.Nodup)(hi:X.N[i]?=xU x)(hx:Loc X.env.scope x)(hf:X.fn x=vZ∨X.env.scope.names.lookup x=xU .local:=by first|exact .inl rfl|exact .inr rfl|assumption):PG X (.Name x pos) (ZE0 i):=by intro xT s σ H v u Q I r h;exact wpAny_assign_Name (ZDR I hN hi hx r (λs' I'=>⟨_,H,I',h⟩) hf)
noncomputable def gNil:TGs:=λvs σ H Q=>vs=[]/\Q σ H
noncomputable def ZIV(t:TG)(u:TGs):TGs:=λvs σ H Q=>∃v r,vs=v::r/\t v σ H λσ' H'=>u r σ' H' Q
theorem ZJd:PGs X [] gNil:=by intro xT s σ H vs us Q I r h;obtain⟨e,h⟩:=h;subst e;cases r;exact assignInOrder_nil ⟨σ,H,I,h⟩
theorem ZKt{es:List jB}{t:TG}{u:TGs}(h1:PG X e t)(h2:PGs X es u)
  (hs:(jM (e::es) X.env).map (·.2)=assign e X.env::(jM es X.env).map (·.2):=by rfl):PGs X (e::es) (ZIV t u):=by
 intro xT s σ H vs us Q I r h;obtain⟨v,vr,e1,h⟩:=h;subst e1;cases r with
 |cons r rr=>
  rw[hs];refine assignInOrder_cons (thn (h1 xT s σ H _ _ _ I r h) λ_ s1 ⟨σ1,H1,I1,q1⟩=>?_);exact h2 xT s1 σ1 H1 _ _ Q I1 rr q1
noncomputable def gTup(K:PySem.W.Frag)(n:Nat)(t:TGs):TG:=λv σ H Q=>∃a xs,v=.ref a/\SqT K H a xs/\xs.length=n/\t xs σ H Q
theorem ZMr{es:List jB}{k:Nat}{t:TGs}{n:Nat}(hc:X.calm=vZ)(h:PGs X es t)
  (hn:(jM es X.env).length=n:=by rfl) (hst:(jM es X.env).findIdx? (·.1)=vQ:=by rfl):PG X (.Tuple es k pos) (gTup X.K n t):=by
 intro xT s σ H v u Q I r hw;obtain⟨a,xs,e1,hq,hl,hw⟩:=hw;subst e1;cases r;obtain⟨its,rv,ht,hz⟩:=I.tuple hq;refine assign_Tuple_tuple (I.ok.hd hc) ht (by simp[hn,<-hl,rv.length]) hst λh' hx=>?_
 have I1:Inv X xT σ H {s with heap:=h'}:=I.kept (t':=s.toks) λb o e=>hx b o (zL (zz e)) e
 exact h xT _ σ H xs _ Q I1 (by simpa using rv) hw
noncomputable def ZBs(te:TE)(g:TG):TS:=λD σ H=>te σ H λx H1=>g x σ H1 D.nx
theorem ZN6{te:TE}{g:TG}(he:PE X e te)(hg:PG X tg g)(hs:swapsWithSole [tg] e pos.line X.env=pure vJ:=by rfl)(hw:swappedStores [tg] e X.env=pure vQ:=by rfl)
  (h1:(jM [tg] X.env).map (·.2)=[assign tg X.env]:=by rfl):PS X (.Assign [tg] e pos) (ZBs te g):=by
 intro xT s σ H D I h;refine wpAny_Assign_stores (thn (he xT s σ H _ I h) λv s1 ⟨x,H1,I1,r1,q1⟩=>?_) hs hw;rw[h1];exact thn (hg xT s1 σ H1 x v _ I1 r1 q1) λ_ s2 q=>q
theorem ZNm{te:TE}{pos':Pos}(hN:X.N.Nodup)(hi:X.N[i]?=xU x)(hx:Loc X.env.scope x)(he:PE X e te)(hs:swapsWith e (xU (.Name x pos')) pos.line X.env=pure vJ:=by rfl)(hf:X.fn x=vZ∨X.env.scope.names.lookup x=xU .local:=by first|exact .inl rfl|exact .inr rfl|assumption):
  PS X (.Assign [.Name x pos'] e pos) (ZBs te (ZE0 i)):=by
 intro xT s σ H D I h;refine wpAny_Assign_Name (thn (he xT s σ H _ I h) λv s1 ⟨y,H1,I1,r1,q1⟩=>?_) hs;exact ZDR I1 hN hi hx r1 (λs2 I2=>⟨_,H1,I2,q1⟩) hf
end
section
variable{X:Cx}{pos:Pos}
end
structure It where
 go:Nat->Hp->Prop
 yld:Nat->Hp->V->Hp->Prop
 stop:Nat->Hp->Prop
def FpOk(X:Cx)(xT:List (j9×Obj))(H:Hp)(b:j9):Prop:=
 H b=vQ/\b≠X.env.locals/\b∉X.fs/\(b∈X.ex∨X.s₀.heap.objs.size<=b)/\(∀x c,X.env.cells.lookup x=xU c->c≠b)/\∀p∈X.pn++xT,p.1≠b
theorem Inv.Nq{H':Hp}(I:Inv X xT σ H s)(hb:s.heap.objs.size<=b)(hn:H' b=vQ):FpOk X xT H' b:=by
 refine⟨hn,j6 (zV I.lt hb),I.nofs hb,.inr (z0 I.sz hb),λx c e z=>?_,λp hp z=>?_⟩
 ·obtain⟨v,q⟩:=I.cell x c e;exact absurd (zV q.lt (by rw[z];exact hb)) (zO _)
 ·exact absurd (zV (zz (I.pin p hp).1) (by rw[z];exact hb)) (zO _)
structure Turn (P:jE) (w:jL) (K:PySem.W.Frag) (tg:jB) (J:It) (fp:List j9) (it:j9) (tn:Nat->Heap->Prop):Prop where
 mem:it∈fp
 obj:∀i h,tn i h->∀b∈fp,∃o,h.get? b=xU o/\∀v,o.data≠ .cell v
 keep:∀i h h',tn i h->(∀b∈fp,∀o,h.get? b=xU o->h'.get? b=xU o)->tn i h'
 item:∀(X:Cx),X.prog=P->X.w=w->X.K=K->X.calm=vZ->∀(i:Nat)(xT:List (j9×Obj))(s:jG)(σ:St)(H:Hp)(E:jI->jG->Prop),Inv X xT σ H s->(∀b∈fp,FpOk X xT H b)->tn i s.heap->J.go i H->
  xB (xw P w) X.A (pyNext (.ref it)) (λr s1=>∃u,r=xU u/\
   xB (xw P w) X.A (xz tg (.ref it) u) (λ_ s2=>∃x H',Inv X xT σ H' s2/\RelV x u/\J.yld i H x H'/\tn (i+1) s2.heap/\∀b∈fp,H' b=vQ) E s1) E s
 done:∀(X:Cx),X.prog=P->X.w=w->X.K=K->X.calm=vZ->∀(i:Nat)(xT:List (j9×Obj))(s:jG)(σ:St)(H:Hp)(E:jI->jG->Prop),Inv X xT σ H s->(∀b∈fp,FpOk X xT H b)->tn i s.heap->J.stop i H->
  xB (xw P w) X.A (pyNext (.ref it)) (λr s1=>r=vQ/\Inv X xT σ H s1) E s
 self:∀(A:jA)(i:Nat)(s:jG)(Q:jI->jG->Prop)(E:jI->jG->Prop),tn i s.heap->Q (.ref it) s->xB (xw P w) A (pyIter (.ref it)) Q E s
noncomputable abbrev TI:=St->Hp->(It->Hp->Prop)->Prop
def PIE(X:Cx)(xT:List (j9×Obj))(σ:St)(tg:jB)(R:It->Hp->Prop)(itv:jI)(s2:jG):Prop:=
 ∃(it:j9)(fp:List j9)(tn:Nat->Heap->Prop)(J:It)(H':Hp),itv=.ref it/\Inv X xT σ H' s2/\Turn X.prog X.w X.K tg J fp it tn/\tn 0 s2.heap/\(∀b∈fp,FpOk X xT H' b)/\R J H'
def PI(X:Cx)(tg iter:jB)(wi:TI):Prop:=
 ∀(xT:List (j9×Obj))(s:jG)(σ:St)(H:Hp)(R:It->Hp->Prop),Inv X xT σ H s->wi σ H R->
  xB (xw X.prog X.w) X.A (eval iter X.env) (λv s1=>xB (xw X.prog X.w) X.A (pyIter v) (PIE X xT σ tg R) X.xe s1) X.xe s
theorem Qs{M:Model}{it:j9}{o:Obj}{n:String}{vs:Array jI}(ho:s.heap.get? it=xU o)(hc:o.cls=.type n)(hd:o.data=.fields vs)
  (hn: ["enumerate","zip","dict_itemiterator","dict_reverseitemiterator","odict_iterator","itertools.zip_longest","itertools.pairwise"].contains n=vJ) (hQ:Q () s):xB M A (xz tg (.ref it) u) Q E s:=by
 unfold xz
 cases tg<;>first
  |exact xN hQ
  | (cases u<;>first
    |exact xN hQ
    | (
      refine xD (wpAny_load ho ?_);rw[hc,hd];show xB M A (if(["enumerate","zip","dict_itemiterator","dict_reverseitemiterator","odict_iterator","itertools.zip_longest","itertools.pairwise"].contains n&&vs[0]?==xU (xk _))=vZ then _ else _) Q E s;rw[if_neg (by intro h;rw[hn,Bool.false_and]at h;cases h)];exact xN hQ))
noncomputable def Itl(K:PySem.W.Frag)(a:j9):It:=
 ⟨λi H=>∃xs x,SqL K H a xs/\xs[i]?=xU x,λi H x H'=>H'=H/\∀xs,SqL K H a xs->xs[i]?=xU x,λi H=>∃xs,SqL K H a xs/\xs.length<=i⟩
noncomputable def Itt(K:PySem.W.Frag)(a:j9):It:=
 ⟨λi H=>∃xs x,SqT K H a xs/\xs[i]?=xU x,λi H x H'=>H'=H/\∀xs,SqT K H a xs->xs[i]?=xU x,λi H=>∃xs,SqT K H a xs/\xs.length<=i⟩
noncomputable def Itr(lo:Int)(n:Nat):It:=⟨λi _=>i<n,λi H x H'=>H'=H/\x=.int (lo+i),λi _=>n<=i⟩
theorem ZMt(a it:j9):Turn P w K tg (Itl K a) [it] it (λi h=>h.IsListIter it a i) where
 mem:=by simp
 obj:=λi h st b hb=>by
  have e:b=it:=by simpa using hb
  subst e;obtain⟨o,e,c,d⟩:=st;exact⟨o,e,λv z=>by rw[d]at z;cases z⟩
 keep:=λi h h' st k=>st.at λo e=>k it (by simp) o e
 item:=by
  intro X hP hw hK hc i xT s σ H E I hf st hg;subst hP hw hK;obtain⟨xs,x,hq,hx⟩:=hg;obtain⟨its,rv,p,hz⟩:=I.list hq;obtain⟨u,hu,ru⟩:=rv.get hx;obtain⟨f0,f1,f2,f3,f4,f5⟩:=hf it (by simp);refine wpAny_pyNext_list_item st p.isList (x:=u) (by simpa using hu) λh' st' sb=>?_
  have I1:Inv X xT σ H {s with heap:=h'}:=I.turned (t':=s.toks) (λb o hb e=>(sb.2 b hb).trans e) f0 f1 f3 f4 f5;obtain⟨o,e,c,d⟩:=id st';exact⟨u,rfl,Qs (s:={s with heap:=h'}) e c d (by decide) ⟨x,H,I1,ru,⟨rfl,λys hy=>by rw[I.Za hy hq];exact hx⟩,st',λb hb=>(hf b hb).1⟩⟩
 done:=by intro X hP hw hK hc i xT s σ H E I hf st hg;subst hP hw hK;obtain⟨xs,hq,hx⟩:=hg;obtain⟨its,rv,p,hz⟩:=I.list hq;obtain⟨f0,f1,f2,f3,f4,f5⟩:=hf it (by simp);have hl:=rv.length;exact wpAny_pyNext_list_end (I.ok.hd hc) st p.isList (by simp;lia) λh' eb=>⟨rfl,I.turned (t':=s.toks) (λb o hb e=>eb b o hb e) f0 f1 f3 f4 f5⟩
 self:=λ_ _ _ _ _ st h=>wpAny_pyIter_listiter st h
theorem ZOU(a it:j9):Turn P w K tg (Itt K a) [it] it (λi h=>h.IsTupleIter it a i) where
 mem:=by simp
 obj:=λi h st b hb=>by
  have e:b=it:=by simpa using hb
  subst e;obtain⟨o,e,c,d⟩:=st;exact⟨o,e,λv z=>by rw[d]at z;cases z⟩
 keep:=λi h h' st k=>st.at λo e=>k it (by simp) o e
 item:=by
  intro X hP hw hK hc i xT s σ H E I hf st hg;subst hP hw hK;obtain⟨xs,x,hq,hx⟩:=hg;obtain⟨its,rv,p,hz⟩:=I.tuple hq;obtain⟨u,hu,ru⟩:=rv.get hx;obtain⟨f0,f1,f2,f3,f4,f5⟩:=hf it (by simp)
  refine wpAny_pyNext_tuple_item st (show s.heap.IsTuple a its.toArray from p) (x:=u) (by simpa using hu) λh' st' sb=>?_
  have I1:Inv X xT σ H {s with heap:=h'}:=I.turned (t':=s.toks) (λb o hb e=>(sb.2 b hb).trans e) f0 f1 f3 f4 f5;obtain⟨o,e,c,d⟩:=id st';exact⟨u,rfl,Qs (s:={s with heap:=h'}) e c d (by decide) ⟨x,H,I1,ru,⟨rfl,λys hy=>by rw[I.Z8 hy hq];exact hx⟩,st',λb hb=>(hf b hb).1⟩⟩
 done:=by
  intro X hP hw hK hc i xT s σ H E I hf st hg;subst hP hw hK;obtain⟨xs,hq,hx⟩:=hg;obtain⟨its,rv,p,hz⟩:=I.tuple hq;obtain⟨f0,f1,f2,f3,f4,f5⟩:=hf it (by simp);have hl:=rv.length
  exact wpAny_pyNext_tuple_end (I.ok.hd hc) st (show s.heap.IsTuple a its.toArray from p) (by simp;lia) λh' eb=>⟨rfl,I.turned (t':=s.toks) (λb o hb e=>eb b o hb e) f0 f1 f3 f4 f5⟩
 self:=λ_ _ _ _ _ st h=>wpAny_pyIter_tupleiter st h
theorem ZHj(it:j9)(lo:Int)(n:Nat):Turn P w K tg (Itr lo n) [it] it (λi h=>IsRangeIter h it (lo+(i:Nat)*1) ((n:Int)-(i:Nat)) 1) where
 mem:=by simp
 obj:=λi h st b hb=>by
  have e:b=it:=by simpa using hb
  subst e;exact⟨_,st,λv z=>by have z':Data.fields _=Data.cell v:=z;cases z'⟩
 keep:=λi h h' st k=>k it (by simp) _ st
 item:=by
  intro X hP hw hK hc i xT s σ H E I hf st hg;subst hP hw hK;obtain⟨f0,f1,f2,f3,f4,f5⟩:=hf it (by simp);have W:=Walks.range (prog:=X.prog) (w:=X.w) (I.ok.hd hc) it lo 1 n;refine W.item i s _ _ hg st λv h' tk hv st' kk=>?_
  obtain⟨t,rfl⟩:=hv;have I1:Inv X xT σ H {s with heap:=h',toks:=tk}:=I.turned (λb o hb e=>kk b o (by simpa using hb) e) f0 f1 f3 f4 f5;refine⟨_,rfl,Qs (s:={s with heap:=h',toks:=tk}) (n:="range_iterator") st' rfl rfl (by decide) ⟨.int (lo+i),H,I1,⟨t,?_⟩,⟨rfl,rfl⟩,st',λb hb=>(hf b hb).1⟩⟩;rw[Int.mul_one]
 done:=by intro X hP hw hK hc i xT s σ H E I hf st hg;subst hP hw hK;obtain⟨f0,f1,f2,f3,f4,f5⟩:=hf it (by simp);exact wpAny_pyNext_range_end (I.ok.hd hc) st (by have:n<=i:=hg;lia) λh' eb=>⟨rfl,I.turned (t':=s.toks) (λb o hb e=>eb b o hb e) f0 f1 f3 f4 f5⟩
 self:=λ_ _ _ _ _ st h=>wpAny_pyIter_rangeiter st h
section
variable{X:Cx}{tg:jB}
def ZH1(K:PySem.W.Frag)(tl:TE):TI:=λσ H R=>tl σ H λx H1=>∃a,x=.ref a/\(∃xs,SqL K H1 a xs)/\R (Itl K a) H1
def iTup(K:PySem.W.Frag)(tl:TE):TI:=λσ H R=>tl σ H λx H1=>∃a,x=.ref a/\(∃xs,SqT K H1 a xs)/\R (Itt K a) H1
theorem ZBH{l:jB}{tl:TE}(hl:PE X l tl):PI X tg l (ZH1 X.K tl):=by
 intro xT s σ H R I h;refine thn (hl xT s σ H _ I h) λv s1 ⟨x,H1,I1,r1,q1⟩=>?_
 obtain⟨a,e,⟨xs,hq⟩,q⟩:=q1;subst e;cases r1;obtain⟨its,rv,p,hz⟩:=I1.list hq;refine wpAny_pyIter_list p.isList ?_;refine⟨s1.heap.objs.size,[s1.heap.objs.size],_,_,H1,rfl,I1.kept (t':=s1.toks) λb o e=>zX _ e,ZMt a _,⟨_,zk _ rfl,rfl,rfl⟩,λb hb=>?_,q⟩;have e:b=s1.heap.objs.size:=by simpa using hb
 subst e;exact I1.Nq (zW _) (I1.hok.fresh (zW _))
theorem ZJb{l:jB}{tl:TE}(hl:PE X l tl):PI X tg l (iTup X.K tl):=by
 intro xT s σ H R I h;refine thn (hl xT s σ H _ I h) λv s1 ⟨x,H1,I1,r1,q1⟩=>?_
 obtain⟨a,e,⟨xs,hq⟩,q⟩:=q1;subst e;cases r1;obtain⟨its,rv,p,hz⟩:=I1.tuple hq
 refine wpAny_pyIter_tuple (show s1.heap.IsTuple a its.toArray from p) ?_
 refine⟨s1.heap.objs.size,[s1.heap.objs.size],_,_,H1,rfl,I1.kept (t':=s1.toks) λb o e=>zX _ e,ZOU a _,⟨_,zk _ rfl,rfl,rfl⟩,λb hb=>?_,q⟩;have e:b=s1.heap.objs.size:=by simpa using hb
 subst e;exact I1.Nq (zW _) (I1.hok.fresh (zW _))
theorem ZJw{R:It->Hp->Prop}{lo hi:Int}{t u v:Tok}{tk:Nat}(I:Inv X xT σ H s)(h1: -(2^62)<=lo)(h2:lo<2^62)(h3: -(2^62)<=hi)(h4:hi<2^62)
  (q:R (Itr lo (hi-lo).toNat) H):xB (xw X.prog X.w) X.A (pyIter (.ref s.heap.objs.size)) (PIE X xT σ tg R) E {s with heap:=s.heap.push {cls:=.type "range",data:=.fields #[.int lo t,.int hi u,.int 1 v]},toks:=tk}:=by
 refine wpAny_pyIter_range (IsRange.new ..) (small_one h1 h2 h3 h4) ?_;have I1:Inv X xT σ H {s with heap:=s.heap.push {cls:=.type "range",data:=.fields #[.int lo t,.int hi u,.int 1 v]},toks:=tk}:=I.kept λb o e=>zX _ e
 refine⟨(s.heap.push {cls:=.type "range",data:=.fields #[.int lo t,.int hi u,.int 1 v]}).objs.size,[(s.heap.push {cls:=.type "range",data:=.fields #[.int lo t,.int hi u,.int 1 v]}).objs.size],_,_,H,rfl,
  I1.kept (t':=tk) λb o e=>zX _ e,ZHj _ lo (hi-lo).toNat,?_,λb hb=>?_,q⟩
 ·have e1:lo+((0:Nat):Int)*1=lo:=by simp
  have e2:(((hi-lo).toNat:Nat):Int)-((0:Nat):Int)=Builtin.Range.rangeSize lo hi 1:=by rw[rangeSize_one];split <;> lia
  show IsRangeIter _ _ (lo+((0:Nat):Int)*1) ((((hi-lo).toNat:Nat):Int)-((0:Nat):Int)) 1;rw[e1,e2];exact zk _ rfl
 ·have e:b=(s.heap.push {cls:=.type "range",data:=.fields #[.int lo t,.int hi u,.int 1 v]}).objs.size:=by simpa using hb
  subst e;exact I1.Nq (zW _) (I1.hok.fresh (zW _))
def ZLe(ta:TA):TI:=λσ H R=>ta σ H λvs H1=>∃j:Int,vs=[.int j]/\ -(2^62)<=j/\j<2^62/\R (Itr 0 j.toNat) H1
theorem ZH6{a:jB}{ta:TA}{p pos:Pos}(hg:Gl X "range")(hm:X.mg "range"=vQ)(ha:PA X [a] ta)(hs:x9 [a] X.env=[(vJ,eval a X.env)]:=by rfl):PI X tg (.Call (.Name "range" p) [a] [] pos) (ZLe ta):=by
 intro xT s σ H R I h;refine Call_ (Rf I hg hm boot_range (PyProof.Rows.callWith_type1 (thn (ha pos xT s σ H _ I h) λus s1 ⟨vs,H1,I1,r1,q1⟩=>?_) hs rfl));obtain⟨j,e,q1,q2,q⟩:=q1;subst e;cases r1 with
 |cons r rr=>
  cases rr;obtain⟨t,rfl⟩:=r;exact call_range_1 (ZJw I1 (by lia) (by lia) q1 q2 (by simpa using q))
def tFor(wi:TI)(g:TG)(tb:TS):TS:=λD σ H=>wi σ H λJ H1=>∃W:Nat->Nat->St->Hp->Prop,(∃m,W 0 m σ H1)/\∀i m σ H,W i m σ H->
 (J.stop i H/\D.nx σ H)∨(J.go i H/\∃N:St->Hp->Prop,(∀σ' H',N σ' H'->∃m',m'<m/\W (i+1) m' σ' H')/\∀x H',J.yld i H x H'->g x σ H' λσ2 H2=>tb {D with nx:=N,ct:=N,bk:=D.nx} σ2 H2)
noncomputable def O9(fp:List j9)(h:Heap):List (j9×Obj):=fp.filterMap λb=>(h.get? b).map λo=>(b,o)
theorem Wa{o:Obj}(hb:b∈fp)(e:h.get? b=xU o):(b,o)∈O9 fp h:=List.mem_filterMap.mpr ⟨b,hb,by rw[e];rfl⟩
theorem ZG0{p:j9×Obj}(hp:p∈O9 fp h):p.1∈fp/\h.get? p.1=xU p.2:=by
 obtain⟨b,hb,e⟩:=List.mem_filterMap.mp hp;cases q:h.get? b with
 |none=>rw[q]at e;cases e
 |some o=>
  rw[q]at e;have e':(b,o)=p:=Option.some.inj e;subst e';exact⟨hb,q⟩
theorem Inv.pinned(I:Inv X xT σ H s)(hf:∀b∈fp,FpOk X xT H b)(ho:∀b∈fp,∃o,s.heap.get? b=xU o/\∀v,o.data≠ .cell v):Inv X (xT++O9 fp s.heap) σ H s:=
 I.Kz λp hp=>(zB.mp hp).elim (λz=>I.pin p (zC _ z)) λz=>by obtain⟨hb,e⟩:=ZG0 z;obtain⟨f0,f1,f2,_⟩:=hf p.1 hb;obtain⟨o,e',d⟩:=ho p.1 hb;rw[e]at e';cases e';exact⟨e,f0,f1,f2,d⟩
theorem Inv.unpinned{pl:List (j9×Obj)}(I:Inv X (xT++pl) σ H s):Inv X xT σ H s:=I.Kz λp hp=>I.pin p (zC _ (j0 _ hp))
theorem ZIb{iter:jB}{body:List jH}{wi:TI}{g:TG}{tb:TS}{pos:Pos}(hp:PassesOwn (xw X.prog X.w) X.A X.env X.xe)(hc:X.calm=vZ)(hi:PI X tg iter wi)(hg:PG X tg g)(hb:PSs X body tb)
  (hs:∀x,foldedSetIterable iter X.env x=pure x:=by intro _;rfl):PS X (.For tg iter body [] pos) (tFor wi g tb):=by
 intro xT s σ H D I h;refine wpAny_For (thn (hi xT s σ H _ I h) λv s1 h1=>thn h1 λitv s2 h2=>?_) hs;obtain⟨it,fp,tn,J,H2,e,I2,T,st2,f2,W,⟨m0,w0⟩,turn⟩:=h2;subst e;have stat:∀{H':Hp},(∀b∈fp,H' b=vQ)->∀b∈fp,FpOk X xT H' b:=λhn b hb=>⟨hn b hb,(f2 b hb).2⟩
 refine codeAny_forLoop_any (λn s'=>∃i σ' H',Inv X xT σ' H' s'/\tn i s'.heap/\(∀b∈fp,H' b=vQ)/\W i n σ' H') ?_ m0 ⟨0,σ,H2,I2,st2,λb hb=>(f2 b hb).1,w0⟩;rintro n s3 ⟨i,σ3,H3,I3,st3,fr3,w3⟩;rcases turn i n σ3 H3 w3 with⟨stop,qn⟩|⟨go,N,hN,step⟩
 ·refine xM hp (thn (T.done X rfl rfl rfl hc i xT s3 σ3 H3 X.xe I3 (stat fr3) st3 stop) λr s4 ⟨hr,I4⟩=>?_);subst hr;exact wpAny_execs_nil ⟨σ3,H3,I4,qn⟩
 ·refine xM hp (thn (T.item X rfl rfl rfl hc i xT s3 σ3 H3 X.xe I3 (stat fr3) st3 go) λr s4 ⟨u,hr,h4⟩=>?_);subst hr;refine xM hp (thn h4 λ_ s5 ⟨x,H5,I5,r5,y5,st5,fr5⟩=>?_);have I5':=I5.pinned (stat fr5) (T.obj _ _ st5);refine xM hp (thn (hg _ s5 σ3 H5 x u _ I5' r5 (step x H5 y5)) λ_ s6 ⟨σ6,H6,I6,q6⟩=>?_);refine xM hp (thn (hb _ s6 σ6 H6 _ I6 q6) λf s7 q7=>?_)
  have again:∀{σ7:St}{H7:Hp},Inv X (xT++O9 fp s5.heap) σ7 H7 s7->N σ7 H7->∃m,m<n/\∃i σ' H',Inv X xT σ' H' s7/\tn i s7.heap/\(∀b∈fp,H' b=vQ)/\W i m σ' H':=λ{σ7 H7}I7 n7=>by obtain⟨m',hm,w7⟩:=hN σ7 H7 n7;refine⟨m',hm,i+1,σ7,H7,I7.unpinned,T.keep _ _ _ st5 λb hb o e=>(I7.pin (b,o) (zC _ (zC _ (Wa hb e)))).1,λb hb=>?_,w7⟩;obtain⟨o,e,d⟩:=T.obj _ _ st5 b hb;exact(I7.pin (b,o) (zC _ (zC _ (Wa hb e)))).2.1
  cases f with
  |next=>obtain⟨σ7,H7,I7,n7⟩:=q7;exact again I7 n7
  |cont=>obtain⟨σ7,H7,I7,n7⟩:=q7;exact again I7 n7
  |brk=>obtain⟨σ7,H7,I7,q7⟩:=q7;exact⟨σ7,H7,I7.unpinned,q7⟩
  |ret v=>obtain⟨x7,σ7,H7,I7,r7,q7⟩:=q7;exact⟨x7,σ7,H7,I7.unpinned,r7,q7⟩
end
noncomputable abbrev R2:=V->V->Hp->VK->Prop
variable{r r':R2}
def OpR(X:Cx)(f:jI->jI->Sem jI)(r:R2):Prop:=
 ∀(xT:List (j9×Obj))(s:jG)(σ:St)(H:Hp)(x y:V)(v u:jI)(Q:VK),Inv X xT σ H s->RelV x v->RelV y u->r x y H Q->
  xB (xw X.prog X.w) X.A (f v u) (EP X xT σ Q) X.xe s
def UnR(X:Cx)(f:jI->Sem jI)(r:V->Hp->VK->Prop):Prop:=
 ∀(xT:List (j9×Obj))(s:jG)(σ:St)(H:Hp)(x:V)(v:jI)(Q:VK),Inv X xT σ H s->RelV x v->r x H Q->
  xB (xw X.prog X.w) X.A (f v) (EP X xT σ Q) X.xe s
def CallR(X:Cx)(f:jI)(r:List V->Hp->VK->Prop):Prop:=
 ∀(xT:List (j9×Obj))(s:jG)(σ:St)(H:Hp)(xs:List V)(us:List jI)(Q:VK),Inv X xT σ H s->Vals xs us->r xs H Q->
  xB (xw X.prog X.w) X.A (call f us) (EP X xT σ Q) X.xe s
noncomputable def tOp(r:R2)(ta tb:TE):TE:=λσ H Q=>ta σ H λx H1=>tb σ H1 λy H2=>r x y H2 Q
noncomputable def tUn(r:V->Hp->VK->Prop)(ta:TE):TE:=λσ H Q=>ta σ H λx H1=>r x H1 Q
noncomputable def rI(C:Int->Int->Prop)(g:Int->Int->V):R2:=λx y H Q=>∃i j,x=.int i/\y=.int j/\C i j/\Q (g i j) H
noncomputable def rI0(g:Int->Int->V):R2:=λx y H Q=>∃i j,x=.int i/\y=.int j/\Q (g i j) H
def rU(g:Int->V):V->Hp->VK->Prop:=λx H Q=>∃i,x=.int i/\Q (g i) H
section
variable{X:Cx}{a b c:jB}{ta tb tc:TE}{pos:Pos}
theorem ZBA(ha:PE X a ta)(hb:PE X b tb){R:V->V->Hp->Prop}(I:Inv X xT σ H s)
  (h:ta σ H λx H1=>tb σ H1 λy H2=>R x y H2) {Q:jI->jG->Prop} {f:jI->jI->Sem jI}
  (hf:∀v u s2 x y H2,Inv X xT σ H2 s2->RelV x v->RelV y u->R x y H2->xB (xw X.prog X.w) X.A (f v u) Q X.xe s2):
  xB (xw X.prog X.w) X.A (eval a X.env) (λv s₁=>xB (xw X.prog X.w) X.A (eval b X.env) (λu s₂=>xB (xw X.prog X.w) X.A (f v u) Q X.xe s₂) X.xe s₁) X.xe s:=by
 refine thn (ha xT s σ H _ I h) λv s1 ⟨x,H1,I1,r1,q1⟩=>?_
 refine thn (hb xT s1 σ H1 _ I1 q1) λu s2 ⟨y,H2,I2,r2,q2⟩=>?_
 exact hf v u s2 x y H2 I2 r1 r2 q2
theorem ZHx{op:Operator}(ho:OpR X (jR op) r)(ha:PE X a ta)(hb:PE X b tb):PE X (.BinOp a op b pos) (tOp r ta tb):=by intro xT s σ H Q I h;exact wpAny_BinOp (ZBA ha hb I h λv u s2 x y H2 I2 rx ry q=>ho xT s2 σ H2 x y v u Q I2 rx ry q)
theorem ZMU{op:UnaryOp}{r:V->Hp->VK->Prop}(ho:UnR X (unaryOp op) r)(ha:PE X a ta):PE X (.UnaryOp op a pos) (tUn r ta):=by intro xT s σ H Q I h;exact UnaryOp_ (thn (ha xT s σ H _ I h) λv s1 ⟨x,H1,I1,r1,q1⟩=>ho xT s1 σ H1 x v Q I1 r1 q1)
theorem opI{C:Int->Int->Prop}{g:Int->Int->Int}
  (rule:∀(i j:Int)(t u:Tok)(s:jG)(Q:jI->jG->Prop)(E:jI->jG->Prop),C i j->Q (.int (g i j) s.toks) {s with toks:=s.toks+1}->xB (xw X.prog X.w) X.A (f (.int i t) (.int j u)) Q E s):
  OpR X f (rI C λi j=>.int (g i j)):=by
 intro xT s σ H x y v u Q I rx ry h;obtain⟨i,j,rfl,rfl,hc,q⟩:=h;obtain⟨t,rfl⟩:=rx;obtain⟨t',rfl⟩:=ry;exact rule i j t t' s _ _ hc ⟨.int (g i j),H,I.tok _,⟨_,rfl⟩,q⟩
theorem opI0{g:Int->Int->Int}
  (rule:∀(i j:Int)(t u:Tok)(s:jG)(Q:jI->jG->Prop)(E:jI->jG->Prop),Q (.int (g i j) s.toks) {s with toks:=s.toks+1}->xB (xw X.prog X.w) X.A (f (.int i t) (.int j u)) Q E s):
  OpR X f (rI0 λi j=>.int (g i j)):=by
 intro xT s σ H x y v u Q I rx ry h;obtain⟨i,j,rfl,rfl,q⟩:=h;obtain⟨t,rfl⟩:=rx;obtain⟨t',rfl⟩:=ry;exact rule i j t t' s _ _ ⟨.int (g i j),H,I.tok _,⟨_,rfl⟩,q⟩
theorem Tf{g:Int->Int->Bool}
  (rule:∀(i j:Int)(t u:Tok)(s:jG)(Q:jI->jG->Prop)(E:jI->jG->Prop),Q (.bool (g i j)) s->xB (xw X.prog X.w) X.A (f (.int i t) (.int j u)) Q E s):
  OpR X f (rI0 λi j=>.bl (g i j)):=by
 intro xT s σ H x y v u Q I rx ry h;obtain⟨i,j,rfl,rfl,q⟩:=h;obtain⟨t,rfl⟩:=rx;obtain⟨t',rfl⟩:=ry;exact rule i j t t' s _ _ ⟨.bl (g i j),H,I,rfl,q⟩
def CPow(i j:Int):Prop:=0<=j/\j<=1000000/\i.natAbs<2^64
def CMul(i j:Int):Prop:=(-(2^64)<i/\i<2^64)∨(-(2^64)<j/\j<2^64)
theorem CMul.ok{i j:Int}(h:CMul i j):IntMulOk i j:=by
 rcases h with⟨h1,h2⟩|⟨h1,h2⟩
 ·exact .of_left (intBits_le_64 h1 h2)
 ·exact .of_right (intBits_le_64 h1 h2)
theorem ZL3:OpR X (jR .Add) (rI0 λi j=>.int (i+j)):=opI0 λ_ _ _ _ _ _ _ q=>add_int q
theorem ZII:OpR X (jR .Sub) (rI0 λi j=>.int (i-j)):=opI0 λ_ _ _ _ _ _ _ q=>sub_int q
theorem ZOJ:OpR X (jR .Mod) (rI (λ_ j=>0<j) λi j=>.int (i%j)):=opI λi j _ _ _ _ _ hc q=>by have h1:(0:Int)<j:=hc;exact mod_int' (by lia) (by rw[Int.fmod_eq_emod_of_nonneg i (by lia)];exact q)
theorem ZMl:OpR X (jR .Pow) (rI CPow λi j=>.int (i^j.toNat)):=opI λ_ _ _ _ _ _ _ hc q=>pow_int_small hc.1 hc.2.1 hc.2.2 q
theorem unI{f:jI->Sem jI}{g:Int->Int}
  (rule:∀(i:Int)(t:Tok)(s:jG)(Q:jI->jG->Prop)(E:jI->jG->Prop),Q (.int (g i) s.toks) {s with toks:=s.toks+1}->xB (xw X.prog X.w) X.A (f (.int i t)) Q E s):
  UnR X f (rU λi=>.int (g i)):=by
 intro xT s σ H x v Q I rx h;obtain⟨i,rfl,q⟩:=h;obtain⟨t,rfl⟩:=rx;exact rule i t s _ _ ⟨.int (g i),H,I.tok _,⟨_,rfl⟩,q⟩
theorem ZLC:UnR X (unaryOp .USub) (rU λi=>.int (-i)):=unI λ_ _ _ _ _ q=>neg_int q
end
section
variable{X:Cx}{a b c:jB}{ta tb tc:TE}{pos:Pos}
theorem Qc{Q:VK}{k k':Bool}(I:Inv X xT σ H s)(q:Q (.bl k) H)(e:k=k'):EP X xT σ Q (.bool k') s:=by subst e;exact⟨.bl k,H,I,rfl,q⟩
theorem ZNj:OpR X (xQ .Lt) (rI0 λi j=>.bl (decide (i<j))):=Tf λ_ _ _ _ _ _ _ q=>lt_int q
theorem ZLO:OpR X (xQ .LtE) (rI0 λi j=>.bl (decide (i<=j))):=Tf λ_ _ _ _ _ _ _ q=>le_int q
theorem ZJ0:OpR X (xQ .Gt) (rI0 λi j=>.bl (decide (j<i))):=Tf λ_ _ _ _ _ _ _ q=>gt_int q
theorem ZJp:OpR X (xQ .GtE) (rI0 λi j=>.bl (decide (j<=i))):=Tf λ_ _ _ _ _ _ _ q=>ge_int q
theorem ZOj:OpR X (xQ .Lt) (λx y H Q=>∃i j,x=.str i/\y=.str j/\Q (.bl (decide (i.cps.toList<j.cps.toList))) H):=by intro xT s σ H x y v u Q I rx ry h;obtain⟨i,j,rfl,rfl,q⟩:=h;obtain⟨t,rfl⟩:=rx;obtain⟨t',rfl⟩:=ry;exact lt_str (Qc I q rfl)
theorem ZOB:OpR X (xQ .In) (λx y H Q=>∃i j,x=.str i/\y=.str j/\Q (.bl (!(Builtin.Str.occurrences j i 0 j.length 1).isEmpty)) H):=by intro xT s σ H x y v u Q I rx ry h;obtain⟨i,j,rfl,rfl,q⟩:=h;obtain⟨t,rfl⟩:=rx;obtain⟨t',rfl⟩:=ry;exact in_str (Qc I q rfl)
theorem ZMZ:OpR X (xQ .Is) (λx y H Q=>y=.non/\Q (.bl (decide (x=.non))) H):=by
 intro xT s σ H x y v u Q I rx ry h;obtain⟨rfl,q⟩:=h;cases ry;refine is_none_gen (Qc I q ?_)
 cases x<;>first
  |(cases rx;rfl)
  |(obtain⟨t,rfl⟩:=rx;rfl)
theorem ZL1:OpR X (xQ .IsNot) (λx y H Q=>y=.non/\Q (.bl (!decide (x=.non))) H):=by
 intro xT s σ H x y v u Q I rx ry h;obtain⟨rfl,q⟩:=h;cases ry;refine isnot_none_gen (Qc I q ?_)
 cases x<;>first
  |(cases rx;rfl)
  |(obtain⟨t,rfl⟩:=rx;rfl)
theorem ZJ4:OpR X (xQ .NotIn) (λx y H Q=>∃i j,x=.str i/\y=.str j/\Q (.bl (!(!(Builtin.Str.occurrences j i 0 j.length 1).isEmpty))) H):=by intro xT s σ H x y v u Q I rx ry h;obtain⟨i,j,rfl,rfl,q⟩:=h;obtain⟨t,rfl⟩:=rx;obtain⟨t',rfl⟩:=ry;exact notIn_str (Qc I q rfl)
theorem OpR.or(h:OpR X f r)(h':OpR X f r'):OpR X f (λx y H Q=>r x y H Q∨r' x y H Q):=by
 intro xT s σ H x y v u Q I rx ry q;rcases q with q|q
 ·exact h xT s σ H x y v u Q I rx ry q
 ·exact h' xT s σ H x y v u Q I rx ry q
theorem nomark(b:jB)(h:op≠ .In:=by decide)(h2:op≠ .NotIn:=by decide):jP op b=vJ:=by
 have e1:(op==CmpOp.In)=vJ:=by cases op<;>first|rfl|exact absurd rfl h
 have e2:(op==CmpOp.NotIn)=vJ:=by cases op<;>first|rfl|exact absurd rfl h2
 cases b<;>simp[jP,e1,e2]
theorem ZIc(ho:OpR X (xQ op) r)(ha:PE X a ta)(hb:PE X b tb)(hm:jP op b=vJ):PE X (.Compare a [op] [b] pos) (tOp r ta tb):=by intro xT s σ H Q I h;exact wpAny_Compare1 (ZBA ha hb I h λv u s2 x y H2 I2 rx ry q=>ho xT s2 σ H2 x y v u Q I2 rx ry q) hm
noncomputable def Rr(t:TE):TT:=λσ H Q=>t σ H λx H'=>∃k,x=.bl k/\Q k H'
theorem ZN4(ho:OpR X (xQ op) r)(ha:PE X a ta)(hb:PE X b tb)(hm:jP op b=vJ):PT X (.Compare a [op] [b] pos) (Rr (tOp r ta tb)):=by
 intro xT s σ H Q I h;refine wpAny_isTrue_Compare1 (thn (ha xT s σ H _ I h) λv s1 ⟨x,H1,I1,r1,q1⟩=>thn (hb xT s1 σ H1 _ I1 q1) λu s2 ⟨y,H2,I2,r2,q2⟩=>
  thn (ho xT s2 σ H2 x y v u _ I2 r1 r2 q2) λc s3 ⟨z,H3,I3,r3,k,e,q3⟩=>?_) hm
 subst e;cases r3;exact xP ⟨H3,I3,q3⟩
noncomputable def ZBJ(r r':R2)(ta tb tc:TE):TE:=λσ H Q=>ta σ H λx H1=>tb σ H1 λy H2=>r x y H2 λz H3=>∃k,z=.bl k/\
 (if k=vZ then tc σ H3 λw' H4=>r' y w' H4 Q else Q (.bl vJ) H3)
theorem ZHm{op':CmpOp}(ho:OpR X (xQ op) r)(ho':OpR X (xQ op') r')(ha:PE X a ta)(hb:PE X b tb)(hc:PE X c tc)
  (hm:lastMarks [op,op'] [b,c]=vJ:=by with_unfolding_all rfl):PE X (.Compare a [op,op'] [b,c] pos) (ZBJ r r' ta tb tc):=by
 intro xT s σ H Q I h;refine Compare_chain (thn (ha xT s σ H _ I h) λv s1 ⟨x,H1,I1,r1,q1⟩=>chain_link (thn (hb xT s1 σ H1 _ I1 q1) λu s2 ⟨y,H2,I2,r2,q2⟩=>
  thn (ho xT s2 σ H2 x y v u _ I2 r1 r2 q2) λd s3 ⟨z,H3,I3,r3,k,e,q3⟩=>?_)) hm
 subst e;cases r3;refine xP ?_;cases k with
 |false=>exact ite_ff ⟨.bl vJ,H3,I3,rfl,q3⟩
 |true=>exact ite_tt (chain_last (thn (hc xT s3 σ H3 _ I3 q3) λw' s4 ⟨z',H4,I4,r4,q4⟩=>ho' xT s4 σ H4 y z' u w' Q I4 r2 r4 q4))
theorem ZKk{op':CmpOp}(ho:OpR X (xQ op) r)(ho':OpR X (xQ op') r')(ha:PE X a ta)(hb:PE X b tb)(hc:PE X c tc)
  (hm:lastMarks [op,op'] [b,c]=vJ:=by with_unfolding_all rfl):PT X (.Compare a [op,op'] [b,c] pos) (Rr (ZBJ r r' ta tb tc)):=by
 intro xT s σ H Q I h;refine isTrue_chain (thn (ha xT s σ H _ I h) λv s1 ⟨x,H1,I1,r1,q1⟩=>test_link (thn (hb xT s1 σ H1 _ I1 q1) λu s2 ⟨y,H2,I2,r2,q2⟩=>
  thn (ho xT s2 σ H2 x y v u _ I2 r1 r2 q2) λd s3 ⟨z,H3,I3,r3,k,e,q3⟩=>?_)) hm
 subst e;cases r3;refine xP ?_;cases k with
 |false=>
  obtain⟨k',e',q'⟩:=q3;cases e';exact ite_ff ⟨H3,I3,q'⟩
 |true=>
  refine ite_tt (test_last (thn (hc xT s3 σ H3 _ I3 q3) λw' s4 ⟨z',H4,I4,r4,q4⟩=>thn (ho' xT s4 σ H4 y z' u w' _ I4 r2 r4 q4) λd' s5 ⟨z2,H5,I5,r5,k2,e2,q5⟩=>?_));subst e2;cases r5;exact xP ⟨H5,I5,q5⟩
theorem line63:(sizeLine:Nat)<2^63:=by rw[sizeLine_eq];decide
theorem ZKp:OpR X (jR .Add) (λx y H Q=>∃i j,x=.str i/\y=.str j/\i.length+j.length<=sizeLine/\Q (.str (i++j)) H):=by intro xT s σ H x y v u Q I rx ry h;obtain⟨i,j,rfl,rfl,hz,q⟩:=h;obtain⟨t,rfl⟩:=rx;obtain⟨t',rfl⟩:=ry;exact add_str (λt' tk=>⟨.str (i++j),H,I.tok _,⟨_,rfl⟩,q⟩) hz
theorem vals1{x:V}(r:Vals [x] us):∃u,us=[u]/\RelV x u:=by
 cases r with
 |cons r1 r2=>cases r2;exact⟨_,rfl,r1⟩
theorem vals2{x y:V}(r:Vals [x,y] us):∃u w',us=[u,w']/\RelV x u/\RelV y w':=by
 cases r with
 |cons r1 r2=>
  cases r2 with
  |cons r3 r4=>cases r4;exact⟨_,_,rfl,r1,r3⟩
theorem ZMR(hc:X.calm=vZ):CallR X (.builtin "max") (λxs H Q=>∃i j,xs=[.int i,.int j]/\Q (.int (if j>i then j else i)) H):=by
 intro xT s σ H xs us Q I r h;obtain⟨i,j,rfl,q⟩:=h;obtain⟨u,w',rfl,⟨t,rfl⟩,⟨t',rfl⟩⟩:=vals2 r;refine max_two_ints (I.ok.hd hc) λh' tk k=>⟨_,H,I.kept k,?_,q⟩
 by_cases hj:j>i
 ·rw[if_pos hj,if_pos hj];exact⟨_,rfl⟩
 ·rw[if_neg hj,if_neg hj];exact⟨_,rfl⟩
theorem ZIR:CallR X (.type "int") (λxs H Q=>(∃i,xs=[.int i]/\Q (.int i) H)∨∃k,xs=[.bl k]/\Q (.int (if k then 1 else 0)) H):=by
 intro xT s σ H xs us Q I r h;rcases h with⟨i,rfl,q⟩|⟨k,rfl,q⟩
 ·obtain⟨u,rfl,t,rfl⟩:=vals1 r;exact call_int_int ⟨.int i,H,I,⟨_,rfl⟩,q⟩
 ·obtain⟨u,rfl,r1⟩:=vals1 r;cases r1;exact call_int_bool ⟨.int (if k then 1 else 0),H,I.tok _,⟨_,rfl⟩,q⟩
theorem ZNo:CallR X (.type "str") (λxs H Q=>∃i,xs=[.int i]/\i.natAbs.log2<1920/\Q (.str (toString i)) H):=by intro xT s σ H xs us Q I r h;obtain⟨i,rfl,hz,q⟩:=h;obtain⟨u,rfl,t,rfl⟩:=vals1 r;exact PySem.P.str_of_int hz ⟨.str _,H,I.tok _,⟨_,rfl⟩,q⟩
end
section
variable{prog:jE}{w:jL}{A:jA}{E:jI->jG->Prop}{s:jG}{K:PySem.W.Frag}{x dx C f:j9}{mA:Str->Option jI}{name:Str}{v:jI}
end
section
variable{P:jE}{w:jL}{H H':Hp}{h h':Heap}{a C dx:j9}{fs fs':List (Str×V)}
end
section
variable{X:Cx}{xT:List (j9×Obj)}{σ:St}{H:Hp}{s:jG}{a C dx:j9}{fs:List (Str×V)}{f:Str}{v:V}{A:jA}{E:jI->jG->Prop}
end
section
variable{X:Cx}{o e value:jB}{f:Str}{pos pos' tpos:Pos}{ta tv:TE}
end
section
variable{X:Cx}{xT:List (j9×Obj)}{σ:St}{H:Hp}{s:jG}{A:jA}{E:jI->jG->Prop}{Q:jI->jG->Prop}{c:jI}{b:Bool}
end
structure Room (k:Nat) (A:jA):Prop where
 hd:A.handled=vQ
 dp:A.depth+3*k+5<recursionLimit
 un:A.units+16*k+200<cLine
theorem Room.mono{j:Nat}(r:Room k A)(h:j<=k):Room j A:=⟨r.hd,by have:=r.dp;lia,by have:=r.un;lia⟩
theorem Room.deeper(r:Room (k+1) A)(env:Env):Room k (A.deeper env):=
 ⟨r.hd,by have:=r.dp;show A.depth+1+3*k+5<_;lia,by have:=r.un;show A.units+3+16*k+200<_;lia⟩
theorem Room.depth(r:Room k A):A.depth<recursionLimit:=by have:=r.dp;lia
theorem Room.units(r:Room k A):A.units+64<cLine:=by have:=r.un;lia
noncomputable def ZBx:TA:=λ_ H Q=>Q [] H
noncomputable def ZAm(ta:TE)(tr:TA):TA:=λσ H Q=>ta σ H λx H1=>tr σ H1 λxs H2=>Q (x::xs) H2
section
variable{X:Cx}{e:jB}{es:List jB}{te:TE}{t:TA}{pos:Pos}
theorem ZNF:PA X [] ZBx:=λ_ _ _ _ H Q I h=>Calls.spliced_nil ⟨[],H,I,.nil,h⟩
theorem ZLx(ha:PE X e te)(hr:PA X es t)(hs:x9 (e::es) X.env=(vJ,eval e X.env)::x9 es X.env:=by rfl):PA X (e::es) (ZAm te t):=by intro pos xT s σ H Q I h;rw[hs];show xB _ _ (spliced ((vJ,eval e X.env)::jN pos (x9 es X.env))) _ _ s;refine Calls.spliced_cons (thn (ha xT s σ H _ I h) λu s1 ⟨x,H1,I1,r1,q1⟩=>?_);exact thn (hr pos xT s1 σ H1 _ I1 q1) λus s2 ⟨xs,H2,I2,r2,q2⟩=>⟨x::xs,H2,I2,.cons r1 r2,q2⟩
def tTup(t:TA):TE:=λσ H Q=>t σ H λxs H1=>xs.length<=sizeLine/\∀p,H1 p=vQ->Q (.ref p) (upd H1 p (.tup xs))
def tLst(t:TA):TE:=λσ H Q=>t σ H λxs H1=>xs.length<=sizeLine/\∀p,H1 p=vQ->Q (.ref p) (upd H1 p (.lst xs))
theorem ZLZ{x1}(h:PA X es t):PE X (.Tuple es x1 pos) (tTup t):=by intro xT s σ H Q I hq;refine wpAny_Tuple_spliced (thn (h pos xT s σ H _ I hq) λus s1 ⟨xs,H1,I1,r,z,q⟩=>⟨by rw[<-r.length];exact z,?_⟩);have hf:H1 s1.heap.objs.size=vQ:=I1.hok.fresh (zW _);refine⟨.ref s1.heap.objs.size,upd H1 s1.heap.objs.size (.tup xs),I1.laid (t':=s1.toks) (λb u e=>zX _ e) (zW _) ?_,rfl,q _ hf⟩;exact⟨z,us,r,⟨_,zk _ rfl,rfl,_,rfl⟩⟩
theorem ZMM(h:PA X es t):PE X (.List es pos) (tLst t):=by intro xT s σ H Q I hq;refine wpAny_List_spliced (thn (h pos xT s σ H _ I hq) λus s1 ⟨xs,H1,I1,r,z,q⟩=>⟨by rw[<-r.length];exact z,?_⟩);have hf:H1 s1.heap.objs.size=vQ:=I1.hok.fresh (zW _);refine⟨.ref s1.heap.objs.size,upd H1 s1.heap.objs.size (.lst xs),I1.laid (t':=s1.toks) (λb u e=>zX _ e) (zW _) ?_,rfl,q _ hf⟩;exact⟨z,us,0,r,zk _ rfl⟩
end
noncomputable abbrev Sp:=List V->Hp->VK->XK->Prop
noncomputable abbrev CXT:=List Env->Hp->jG->XK->jI->jG->Prop
structure Env0 (P:jE) (w:jL) (K:PySem.W.Frag) (mg:Str->Option jI) (base:Heap) (A:jA) (outer:List Env) (s:jG) (H:Hp):Prop where
 frames:A.frames=xU outer
 mod:Mod K mg base
 bs:∀b o,base.get? b=xU o->s.heap.get? b=xU o/\H b=vQ
 bsz:base.objs.size<=s.heap.objs.size
 funs:s.heap.FunFrames base outer
 frf:∀b∈frs outer,H b=vQ
 hok:HOk P w H s.heap
 bare:AllBare s.gens
def CE(outer:List Env)(P:jE)(w:jL)(H:Hp)(s:jG)(Q:VK)(u:jI)(s':jG):Prop:=
 ∃v H',s'.os=s.os/\AllBare s'.gens/\Un (frs outer) [] H H' s.heap s'.heap/\HOk P w H' s'.heap/\RelV v u/\Q v H'
def CR(CX:CXT)(outer:List Env)(P:jE)(w:jL)(H:Hp)(s:jG)(Q:VK)(E:XK)(r:Result)(s':jG):Prop:=
 match r with
 |.ok (.ret u)=>CE outer P w H s Q u s'
 |.ok _=>False
 |.error e=>CX outer H s E e s'
structure FnOk (P:jE) (w:jL) (K:PySem.W.Frag) (mg:Str->Option jI) (base:Heap) (CX:CXT) (k:Nat) (f:j9) (fd:jC) (ps:List Str) (sp:Sp):Prop where
 len:∀vs H Q E,sp vs H Q E->vs.length=ps.length
 run:∀(A:jA)(outer:List Env)(s:jG)(H:Hp)(args:Args)(us:List jI)(vs:List V)(Q:VK)(E:XK),Room k A->Env0 P w K mg base A outer s H->BindsTo s fd args (ps.zip us)->Vals vs us->sp vs H Q E->
  codeAny (xw P w) A (.call (.ref f) args) (CR CX outer P w H s Q E) s
section
variable{X:Cx}{xT:List (j9×Obj)}{σ:St}{H:Hp}{s s':jG}
theorem Inv.env0(I:Inv X xT σ H s):Env0 X.prog X.w X.K X.mg X.base X.A X.stack s H:=
 ⟨I.ok.frames,I.ok.mod,I.bs,z0 I.ok.bsz I.sz,I.stack,I.ZEM,I.hok,I.bare⟩
theorem Inv.after{Q:VK}(I:Inv X xT σ H s)(h:CE X.stack X.prog X.w H s Q u s'):EP X xT σ Q u s':=by obtain⟨v,H',os,bare,un,hok,r,q⟩:=h;obtain⟨hh,g,d,t,os'⟩:=s';obtain rfl:os'=s.os:=os;exact⟨v,H',I.call (h':=hh) (g':=g) (d':=d) (t':=t) (ch:=[]) un hok bare (λb z=>absurd z (by simp)),r,q⟩
end
noncomputable def ZMD(sp:Sp)(dvs:List V)(E:XK)(t:TA):TE:=λσ H Q=>t σ H λvs H1=>sp (vs++dvs) H1 Q E
def Binds(K:PySem.W.Frag)(fd:jC)(ps:List Str)(ds:List jI):Prop:=
 ∀(s:jG)(us:List jI),K.In s.heap->(us++ds).length=ps.length->BindsTo s fd ⟨us,[]⟩ (ps.zip (us++ds))
theorem Binds.all{fd:jC}{ps:List Str}(h:∀us:List jI,us.length=ps.length->bindArgs fd ⟨us,[]⟩=pure (ps.zip us)):Binds K fd ps []:=λs us _ hl=>by rw[qG]at hl⊢;exact .of_eq (h us hl)
def Passes(CX:CXT)(X:Cx)(E:XK):Prop:=∀(xT:List (j9×Obj))(σ:St)(H:Hp)(s:jG)(e:jI)(s':jG),Inv X xT σ H s->CX X.stack H s E e s'->X.xe e s'
section
variable{X:Cx}{CX:CXT}{k:Nat}{f C:j9}{fd:jC}{ps:List Str}{sp:Sp}{dvs:List V}{ds:List jI}{E:XK}{x m:Str}{p pos apos:Pos}{e o:jB}{es:List jB}{ta:TE}{t:TA}
theorem ZNi{Q:VK}{vs:List V}(F:FnOk X.prog X.w X.K X.mg X.base CX k f fd ps sp)(hr:Room k X.A)(hb:Binds X.K fd ps ds)(hd:Vals dvs ds)(hx:Passes CX X E)
  (I:Inv X xT σ H s) (r:Vals vs us) (h:sp (vs++dvs) H Q E):xB (xw X.prog X.w) X.A (call (.ref f) us) (EP X xT σ Q) X.xe s:=by
 have r2:Vals (vs++dvs) (us++ds):=r.append hd;have hl:(us++ds).length=ps.length:=by rw[<-r2.length];exact F.len _ _ _ _ h
 refine wpAny_call (jU (F.run X.A X.stack s H ⟨us,[]⟩ (us++ds) (vs++dvs) Q E hr I.env0 (hb s us I.kIn hl) r2 h) λr s' hq=>?_);cases r with
 |error e=>exact hx xT σ H s e s' I hq
 |ok fl=>
  cases fl with
  |ret u=>exact I.after hq
  |next=>exact False.elim hq
  |brk=>exact False.elim hq
  |cont=>exact False.elim hq
theorem ZKv(F:FnOk X.prog X.w X.K X.mg X.base CX k f fd ps sp)(hr:Room k X.A)(hg:Gl X x)(hm:X.mg x=xU (.ref f))(hk:PySem.W.keepIn X.K (.ref f)=vZ)(hb:Binds X.K fd ps ds)(hd:Vals dvs ds)(hx:Passes CX X E)
  (ha:PA X (e::es) t) (hdb:(x==("__debug__":Str))=vJ:=by decide) (he:x9 (e::es) X.env=(vJ,eval e X.env)::x9 es X.env:=by rfl) (hpl:(jN pos (x9 es X.env)).any (·.1)=vJ:=by rfl):
  PE X (.Call (.Name x p) (e::es) [] pos) (ZMD sp dvs E t):=by
 intro xT s σ H Q I h;refine xC (ZGP I hg hm ?_ hdb);refine PySem.W.callWith_K (h₀:=X.base) I.ok.mod.kin hk (thn (ha pos xT s σ H _ I h) λus s1 ⟨vs,H1,I1,r,q⟩=>⟨I1.kIn,?_⟩) he hpl;exact ZNi F hr hb hd hx I1 r q
end
def PK(X:Cx)(kws:List Keyword)(t:TA):Prop:=
 ∀(pos:Pos)(xT:List (j9×Obj))(s:jG)(σ:St)(H:Hp)(Q:List V->Hp->Prop),Inv X xT σ H s->t σ H Q->xB (xw X.prog X.w) X.A (evalAll ((jO pos (xq kws X.env)).map (·.2))) (AP X xT σ Q) X.xe s
section
variable{X:Cx}{CX:CXT}{k:Nat}{f C:j9}{fd:jC}{ps ks:List Str}{sp:Sp}{E:XK}{x m:Str}{p pos apos kpos:Pos}{e o:jB}{es:List jB}{kws:List Keyword}{te ta:TE}{t tk:TA}{nm:Option Str}
theorem ZIS:PK X [] ZBx:=λ_ _ _ _ H Q I h=>wpAny_evalAll_nil ⟨[],H,I,.nil,h⟩
theorem ZLM(ha:PE X e te)(hr:PK X kws t):PK X (⟨nm,e,kpos⟩::kws) (ZAm te t):=by
 intro pos xT s σ H Q I h
 show xB _ _ (evalAll ((do let v<-eval e X.env;standAt pos;pure v)::(jO pos (xq kws X.env)).map (·.2))) _ _ s
 refine wpAny_evalAll_cons (xD (thn (ha xT s σ H _ I h) λu s1 ⟨x,H1,I1,r1,q1⟩=>xD (wpAny_standAt (xN ?_))));exact thn (hr pos xT s1 σ H1 _ I1 q1) λus s2 ⟨xs,H2,I2,r2,q2⟩=>⟨x::xs,H2,I2,.cons r1 r2,q2⟩
variable{g:List jI->List jI->List jI}{gV:List V->List V->List V}
end
structure FnScope (N P:List Str) (sc:jF):Prop where
 kind:sc.kind=.function
 co:sc.isCoroutine=vJ
 gen:sc.isGenerator=vJ
 nd:N.Nodup
 pre:N.take P.length=P
 par:∀x∈P,sc.names.lookup x=xU .local∨sc.names.lookup x=xU .cell
 nofree:∀y∈sc.names,y.2≠ .free
theorem ZFJ:∀{binds:List (Str×jI)}{m:Str->Option jI},(∀v,(x,v)∉binds)->bindL kindOf binds m x=m x
 |[],_,_=>rfl
 | (n,v)::r,m,h=>by
  unfold bindL;rw[ZFJ λw hw=>h w (zZ _ hw)];split
  ·have:x≠n:=by rintro rfl;exact h v zy
   simp[this]
  ·rfl
theorem ZCw:∀{binds:List (Str×jI)}{m:Str->Option jI},(∀v,(x,v)∉binds)->bindC kindOf binds m x=m x
 |[],_,_=>rfl
 | (n,v)::r,m,h=>by
  unfold bindC;rw[ZCw λw hw=>h w (zZ _ hw)];split
  ·rfl
  ·have:x≠n:=by rintro rfl;exact h v zy
   simp[this]
theorem ZFq{v:jI}:∀{P:List Str}{vs:List jI}{i:Nat}{m:Str->Option jI},P.Nodup->P[i]?=xU x->vs[i]?=xU v->kindOf x=xU .local->
  bindL kindOf (P.zip vs) m x=xU v
 |[],_,_,_,_,h,_,_=>by simp at h
 |_::_,[],_,_,_,_,h,_=>by simp at h
 |p::P,w::vs,0,m,nd,h1,h2,hk=>by simp at h1 h2;subst h1;subst h2;show bindL kindOf ((p,w)::P.zip vs) m p=_;unfold bindL;rw[ZFJ λv hv=>(jJ.mp nd).1 (List.of_mem_zip hv).1,if_pos hk];simp
 |p::P,w::vs,i+1,m,nd,h1,h2,hk=>by show bindL kindOf ((p,w)::P.zip vs) m x=_;unfold bindL;exact ZFq (i:=i) (jJ.mp nd).2 (by simpa using h1) (by simpa using h2) hk
theorem ZDr{v:jI}:∀{P:List Str}{vs:List jI}{i:Nat}{m:Str->Option jI},P.Nodup->P[i]?=xU x->vs[i]?=xU v->kindOf x≠xU .local->
  bindC kindOf (P.zip vs) m x=xU v
 |[],_,_,_,_,h,_,_=>by simp at h
 |_::_,[],_,_,_,_,h,_=>by simp at h
 |p::P,w::vs,0,m,nd,h1,h2,hk=>by simp at h1 h2;subst h1;subst h2;show bindC kindOf ((p,w)::P.zip vs) m p=_;unfold bindC;rw[ZCw λv hv=>(jJ.mp nd).1 (List.of_mem_zip hv).1,if_neg hk];simp
 |p::P,w::vs,i+1,m,nd,h1,h2,hk=>by show bindC kindOf ((p,w)::P.zip vs) m x=_;unfold bindC;exact ZDr (i:=i) (jJ.mp nd).2 (by simpa using h1) (by simpa using h2) hk
noncomputable def start(N:List Str)(vs:List V):St:=vs.map xU++zN (N.length-vs.length) vQ
noncomputable def Ms(CX:CXT)(P:jE)(w:jL)(K:PySem.W.Frag)(mg:Str->Option jI)(base:Heap)(N:List Str)(qual:Str)(scope:jF)(f:j9)(cd:jI)(A:jA)(outer:List Env)(s:jG)(H:Hp)(E:XK):Cx where
 prog:=P
 w:=w
 K:=K
 mg:=mg
 base:=base
 A:=A.deeper (envOfC qual scope s.heap.objs.size f cd)
 N:=N
 s₀:=s
 H₀:=H
 env:=envOfC qual scope s.heap.objs.size f cd
 outer:=outer
 stack:=envOfC qual scope s.heap.objs.size f cd::outer
 ex:=[]
 calm:=vZ
 fn:=λ_=>vZ
 pn:=[]
 xe:=λe s'=>xB (xw P w) (A.deeper (envOfC qual scope s.heap.objs.size f cd)) (leaving (envOfC qual scope s.heap.objs.size f cd) e) (λ_ s''=>CX outer H s E e s'') (λe' s''=>CX outer H s E e' s'') s'
theorem ZGH{sc:jF}{n:Nat}(h:sc.names.lookup x=xU .cell):∃c,(cellsFrom n sc.names []).lookup x=xU c:=by have q:=PySem.W.cellsFrom_some sc.names n [] (.inl h);exact Option.isSome_iff_exists.mp q
theorem ZNg{CX:CXT}{mg:Str->Option jI}{base:Heap}{N ps:List Str}{qual:Str}{scope:jF}{f:j9}{cd:jI}{outer:List Env}{s1:jG}{E:XK}{vs:List V}
  (S:FnScope N ps scope) (hd:A.handled=vQ) (e0:Env0 P w K mg base A outer s H) (hl:vs.length=ps.length) (r:Vals vs us)
  (x:InCallC s s.heap.objs.size (bindL (envOfC qual scope s.heap.objs.size f cd).kindOf (ps.zip us) λ_=>vQ) (cellsFrom (s.heap.objs.size+1) scope.names []) (bindC (envOfC qual scope s.heap.objs.size f cd).kindOf (ps.zip us) λ_=>vQ) s1):
  Inv (Ms CX P w K mg base N qual scope f cd A outer s H E) [] (start N vs) H s1:=by
 have hpl:ps.length<=N.length:=by have:=congrArg qj S.pre;rw[qy]at this;lia
 obtain⟨h1,tk,rfl,hk⟩:=x.done
 have noA:∀b:j9,b∉(Ms CX P w K mg base N qual scope f cd A outer s H E).ex:=λb z=>absurd (show b∈([]:List j9)from z) (by simp)
 refine⟨⟨e0.mod,S.kind,rfl,rfl,zW _,λy z c h1 h2=>?_,λy hy=>?_,λy c _ h=>?_,λ_=>hd,Around.frames_deeper e0.frames,.inr ⟨rfl,rfl⟩,λb z=>absurd z (noA b),e0.bs,e0.bsz,λb _ _=>noA b,λb z=>absurd z (noA b),e0.funs,e0.frf⟩,
  rfl,e0.bare,Un.kept hk,⟨_,x.toInCall.ns,λi y v h1 h2 h3=>?_⟩,λy c h=>⟨_,x.cell y c h⟩,e0.hok.fresh (zW _),λy c h=>?_,λp hp=>absurd (show p∈([]:List (j9×Obj))from hp) (by simp),e0.hok.kept hk,?_⟩
 ·exact name_of_addr x.apart (PySem.mem_of_lookup h1) (PySem.mem_of_lookup h2)
 ·have hy:scope.names.lookup y=xU .cell∨scope.names.lookup y=xU .free:=hy;rcases hy with hy|hy
  ·exact ZGH hy
  ·exact absurd rfl (S.nofree _ (PySem.mem_of_lookup hy))
 ·exact Nat.le_of_lt (x.above y c (PySem.mem_of_lookup h))
 ·have hi:i<vs.length:=by
   unfold start at h2;by_cases hi:i<vs.length
   ·exact hi
   ·rw[zE (by simpa using hi)]at h2;rw[qB]at h2
    split at h2<;>cases h2
  have ha:vs[i]?=xU v:=by
   unfold start at h2;rw[zP (by simpa using hi),zR]at h2;cases e:vs[i]? with
   |none=>rw[e]at h2;cases h2
   |some a=>rw[e]at h2;cases h2;rfl
  obtain⟨u,hu,rv⟩:=r.get ha;have hp:ps[i]?=xU y:=by rw[<-S.pre,jV (by lia)];exact h1
  have ndP:ps.Nodup:=by rw[<-S.pre];exact S.nd.sublist (List.take_sublist _ _)
  refine⟨u,rv,?_⟩;rcases S.par y (List.mem_of_getElem? hp)with k|k
  ·exact .inl ⟨k,ZFq ndP hp hu k⟩
  ·obtain⟨c,e⟩:=ZGH (n:=s.heap.objs.size+1) k;refine .inr ⟨.inl k,c,e,?_⟩;have q:=x.cell y c e;rw[ZDr ndP hp hu (by show scope.names.lookup y≠_;rw[k];decide)]at q;exact q
 ·exact e0.hok.fresh (Nat.le_of_lt (x.above y c (PySem.mem_of_lookup h)))
 ·unfold start;show _=N.length;rw[zG,zK,jq];lia
theorem ZMd{CX:CXT}{mg:Str->Option jI}{base:Heap}{f:j9}{name qual:Str}{params:Arguments}{body:List jH}{scope:jF}{dV kV doc pm cdv ct oc:jI}{an od:Option j9}
  {osl:Array (Option jI)} {N ps:List Str} {sp:Sp} (lk:K.lookup f=xU ⟨oc,od,.func (PySem.W.fnOf name qual params body scope dV kV doc pm an cdv ct),osl⟩) (hcd:PySem.W.codeIn K cdv qual=vZ) (S:FnScope N ps scope)
  (len:∀vs H Q E,sp vs H Q E->vs.length=ps.length)
  (hbody:∀(A:jA)(outer:List Env)(s:jG)(H:Hp)(vs:List V)(Q:VK)(E:XK),Room k (A.deeper (envOfC qual scope s.heap.objs.size f cdv))->sp vs H Q E->
   ∃t,PSs (Ms CX P w K mg base N qual scope f cdv A outer s H E) body t/\t {nx:=λ_ H'=>Q .non H',rt:=Q} (start N vs) H):
  FnOk P w K mg base CX (k+1) f (PySem.W.fnOf name qual params body scope dV kV doc pm an cdv ct) ps sp:=by
 refine⟨len,λA outer s H args us vs Q E hr e0 hb r hsp=>?_⟩;have hl:=len _ _ _ _ hsp;have KX:K.In s.heap:=e0.mod.kin.keeps λb o e=>(e0.bs b o e).1
 have lim:s.heap.NoLimit:=e0.mod.nolimit.keeps λb o e=>(e0.bs b o e).1
 have hkind:∀y∈ps.zip us,scope.names.lookup y.1=xU .local∨(scope.names.lookup y.1=xU .cell/\((cellsFrom (s.heap.objs.size+1) scope.names []).lookup y.1).isSome=vZ):=λ⟨n,v⟩ hy=>by
  rcases S.par n (List.of_mem_zip hy).1 with q|q
  ·exact .inl q
  ·exact .inr ⟨q,PySem.W.cellsFrom_some _ _ _ (.inl q)⟩
 refine codeAny_call_function hr.depth (KX _ _ lk) rfl S.co S.gen rfl (PySem.W.codeRec_of KX hcd) (hb _ _ _ _ ?_);refine wpAny_newFunctionEnv_cells S.kind hkind λenv he s1 x=>?_
 subst he;refine⟨lim.keeps x.toInCall.keep,codeAny_func ?_⟩;obtain⟨t,ht,hq⟩:=hbody A outer s H vs Q E (hr.deeper _) hsp;have I:Inv (Ms CX P w K mg base N qual scope f cdv A outer s H E) [] (start N vs) H s1:=ZNg S hr.hd e0 hl r x;refine xI (ht [] s1 (start N vs) H _ I hq) (λfl s' hs=>?_) λe s' hs=>hs
 have fin:∀{σ':St}{H':Hp}{v:V}{u:jI},Inv (Ms CX P w K mg base N qual scope f cdv A outer s H E) [] σ' H' s'->RelV v u->Q v H'->CE outer P w H s Q u s':=
  λ{σ' H' v u}J rv q=>⟨v,H',J.os,J.bare,J.base,J.hok,rv,q⟩
 cases fl with
 |ret u=>
  obtain⟨v,σ',H',J,rv,q⟩:=hs;exact fin J rv q
 |next=>
  obtain⟨σ',H',J,q⟩:=hs;exact fin (v:=V.non) (u:=Value.none) J rfl q
 |brk=>
  obtain⟨_,_,_,q⟩:=hs;exact False.elim q
 |cont=>
  obtain⟨_,_,_,q⟩:=hs;exact False.elim q
section
variable{X:Cx}{x:Str}{p pos:Pos}{e:jB}{es:List jB}{t:TA}{id T:String}{r:List V->Hp->VK->Prop}
noncomputable def tCB(r:List V->Hp->VK->Prop)(t:TA):TE:=λσ H Q=>t σ H λvs H1=>r vs H1 Q
theorem ZKr(hc:CallR X (.builtin id) r)(hg:Gl X x)(hm:X.mg x=vQ)(hv:jS x=xU (.builtin id))(ha:PA X (e::es) t)(hn:x≠"__name__":=by decide)(hdb:(x==("__debug__":Str))=vJ:=by decide)
  (he:x9 (e::es) X.env=(vJ,eval e X.env)::x9 es X.env:=by rfl) (hpl:(jN pos (x9 es X.env)).any (·.1)=vJ:=by rfl):PE X (.Call (.Name x p) (e::es) [] pos) (tCB r t):=by
 intro xT s σ H Q I h;refine xC (Rf I hg hm hv ?_ hn hdb);exact PyProof.Rows.callWith_builtin1 (thn (ha pos xT s σ H _ I h) λus s1 ⟨vs,H1,I1,r1,q1⟩=>hc xT s1 σ H1 vs us Q I1 r1 q1) he hpl
theorem ZLQ(hc:CallR X (.type T) r)(hg:Gl X x)(hm:X.mg x=vQ)(hv:jS x=xU (.type T))(ha:PA X (e::es) t)(hn:x≠"__name__":=by decide)(hdb:(x==("__debug__":Str))=vJ:=by decide)
  (he:x9 (e::es) X.env=(vJ,eval e X.env)::x9 es X.env:=by rfl) (hpl:(jN pos (x9 es X.env)).any (·.1)=vJ:=by rfl):PE X (.Call (.Name x p) (e::es) [] pos) (tCB r t):=by
 intro xT s σ H Q I h;refine xC (Rf I hg hm hv ?_ hn hdb);exact PyProof.Rows.callWith_type1 (thn (ha pos xT s σ H _ I h) λus s1 ⟨vs,H1,I1,r1,q1⟩=>hc xT s1 σ H1 vs us Q I1 r1 q1) he hpl
end
end _L
namespace HT
open PySem PyProof.Rows
section
open PySem.SeqAt
open PySem.AutoSeq1 (wpAny_loadPart')
open PySem.MeetsSeq PySem.MeetsSeq2 PySem.MeetsSeq3
end
section
variable{prog:jE}{w:jL}{A:jA}{E:jI->jG->Prop}{s:jG}
theorem ZJf{t b:j9}{vs ws:List jI}{Q:jI->jG->Prop}(ht:IsTup s.heap t vs.toArray)(hb:IsTup s.heap b ws.toArray)(hv:vs≠[])
  (h1:ws=[]->Q (.ref t) s) (h2:ws≠[]->Q (.ref s.heap.objs.size) {s with heap:=s.heap.push {cls:=.type "tuple",data:=.seq (vs++ws).toArray}})
  (hsz:vs.length+ws.length<=sizeLine):xB (xw prog w) A (jR .Add (.ref t) (.ref b)) Q E s:=by
 obtain⟨⟨cls,dd,data,sl⟩,ho,hc,n,hd⟩:=id ht;obtain⟨⟨cls2,dd2,data2,sl2⟩,ho2,hc2,n2,hd2⟩:=id hb;simp only at hc hd hc2 hd2;subst hc hd hc2 hd2;have e:vs.toArray++ws.toArray=(vs++ws).toArray:=by simp
 by_cases hw:ws=[]
 ·exact concat_meets ⟨_,ho,rfl⟩ ⟨_,ho2,rfl⟩ noFill_tuple_add seq_tuple_add PySem.F.slot_tuple_add PySem.F.entry_tuple_add (PySem.F.args_tuple_add_2 _ _)
   (tuple_addW1 t b vs.toArray ws.toArray n n2 dd dd2 sl sl2 (by simpa using hv) (by simp[hw])) ⟨ho,ho2,h1 hw⟩
 ·refine concat_meets ⟨_,ho,rfl⟩ ⟨_,ho2,rfl⟩ noFill_tuple_add seq_tuple_add PySem.F.slot_tuple_add PySem.F.entry_tuple_add (PySem.F.args_tuple_add_2 _ _)
   (tuple_addW2 t b vs.toArray ws.toArray n n2 dd dd2 sl sl2 (by simpa using hv) (by simpa using hw) (by rw[zq,zq];exact hsz)) ⟨ho,ho2,?_⟩
  rw[e];exact h2 hw
noncomputable def sIx(n d:Nat):Option Int->Nat
 |none=>d
 |some v=>if v<0 then(v+(n:Int)).toNat else min v.toNat n
theorem ZGZ(n d:Nat)(hd:d<=n)(o:Option Int):sIx n d o<=n:=by
 cases o with
 |none=>exact hd
 |some v=>
  show(if v<0 then(v+(n:Int)).toNat else min v.toNat n)<=n;by_cases hv:v<0
  ·rw[if_pos hv];lia
  ·rw[if_neg hv];exact Nat.min_le_right _ _
theorem ZDa(v:Int)(n d:Nat):(if v<0 then max (v+(n:Int)) 0 else min v (n:Int))=((sIx n d (xU v):Nat):Int):=by
 show(if v<0 then max (v+(n:Int)) 0 else min v (n:Int))=(((if v<0 then(v+(n:Int)).toNat else min v.toNat n):Nat):Int);by_cases hv:v<0
 ·simp only[if_pos hv];lia
 ·simp only[if_neg hv];lia
theorem ZJM(lo hi:Option Int)(n:Nat):Builtin.Slice.sliceAdjust lo hi 1 (n:Int)=(((sIx n 0 lo:Nat):Int),((sIx n n hi:Nat):Int)):=by
 have h1:¬((1:Int)<0):=by lia
 unfold Builtin.Slice.sliceAdjust;simp only[h1,if_false];refine Prod.ext ?_ ?_
 ·cases lo with
  |none=>rfl
  |some v=>exact ZDa v n 0
 ·cases hi with
  |none=>rfl
  |some v=>exact ZDa v n n
theorem ZIw(i j:Nat):Builtin.Slice.slicePlaces (i:Int) (j:Int) 1=j-i:=by
 unfold Builtin.Slice.slicePlaces;have h1:(1:Int)>0:=by lia
 simp only[h1,if_true,Int.ediv_one]
 split <;> lia
theorem ZFR{v:jI}{o:Option Int}{Q:Option Int->jG->Prop}(p:IsPart v o)(h:Q o s):xB (xw prog w) A (Builtin.Slice.slicePartIndex v) Q E s:=by
 cases p with
 |none=>exact slicePart_none h
 |int i t=>exact slicePart_int h
theorem ZDm{sl:j9}{vl vu:jI}{lo hi:Option Int}{n:Nat}{Q:Int×Int×Nat->jG->Prop}(hs:s.heap.IsSliceOf sl vl vu .none)(pl:IsPart vl lo)(pu:IsPart vu hi)
  (h:Q (((sIx n 0 lo:Nat):Int),1,sIx n n hi-sIx n 0 lo) s):xB (xw prog w) A (Builtin.Slice.sliceApplied (.ref sl) (pure (n:Int))) Q E s:=by
 obtain⟨os,hos,hcs,hds⟩:=id hs;unfold Builtin.Slice.sliceApplied Builtin.Slice.sliceFields;refine xD (xD (xG hos hds (x:=vl) rfl (xD (xG hos hds (x:=vu) rfl (xD (xG hos hds (x:=.none) rfl (xN ?_)))))));refine xD (slicePart_none ?_);show xB _ _ (if((1:Int)==0)=vZ then _ else _) _ _ s;rw[if_neg (by decide)];refine xD (ZFR pl (xD (ZFR pu (xD (xN ?_)))))
 show xB _ _ (match Builtin.Slice.sliceAdjust lo hi 1 (n:Int)with |(lo,hi)=>pure (lo,(1:Int),Builtin.Slice.slicePlaces lo hi 1)) _ _ s
 rw[ZJM lo hi n];show xB _ _ (pure (((sIx n 0 lo:Nat):Int),(1:Int),Builtin.Slice.slicePlaces ((sIx n 0 lo:Nat):Int) ((sIx n n hi:Nat):Int) 1)) _ _ s;rw[ZIw];exact xN h
theorem ZKd(xs:Array jI)(i k:Nat):((zv k).filterMap λ(m:Nat)=>xs[((i:Int)+(m:Int)*1).toNat]?).toArray=((xs.toList.drop i).take k).toArray:=by
 have e:(λ(m:Nat)=>xs[((i:Int)+(m:Int)*1).toNat]?)=λm=>xs[i+m]? :=by
  funext m;have:((i:Int)+(m:Int)*1).toNat=i+m:=by lia
  rw[this]
 rw[e];have:=pick_run xs i k;rw[qL]at this;have e2:((λx=>xs[x]?) ∘ λx=>i+x)=λm=>xs[i+m]? :=rfl
 rw[e2]at this;rw[this]
theorem ZK7{t sl:j9}{items:Array jI}{vl vu:jI}{lo hi:Option Int}{Q:jI->jG->Prop}(ht:IsTup s.heap t items)(hs:s.heap.IsSliceOf sl vl vu .none)(pl:IsPart vl lo)(pu:IsPart vu hi)
  (hw:¬(sIx items.size 0 lo=0/\sIx items.size items.size hi=items.size))
  (h:Q (.ref s.heap.objs.size) {s with heap:=s.heap.push {cls:=.type "tuple",data:=.seq ((items.toList.drop (sIx items.size 0 lo)).take (sIx items.size items.size hi-sIx items.size 0 lo)).toArray}})
  (hsz:items.size<=sizeLine):xB (xw prog w) A (getItem (.ref t) (.ref sl)) Q E s:=by
 have htake:sizeOk (.seq ((items.toList.drop (sIx items.size 0 lo)).take (sIx items.size items.size hi-sIx items.size 0 lo)).toArray):=by show((items.toList.drop (sIx items.size 0 lo)).take (sIx items.size items.size hi-sIx items.size 0 lo)).toArray.size<=sizeLine;rw[zq,qy,qH,qP];lia
 have hj:sIx items.size items.size hi<=items.size:=ZGZ _ _ (zW _) hi;obtain⟨os,hos,hcs,hds⟩:=id hs;have hTs:s.TypeIs (.ref sl) "slice":=⟨os,hos,hcs⟩;unfold getItem
 try with_reducible refine xH ?_
 first|refine xD (xN ?_)|skip
 refine xD (wpAny_sequenceKey ht.typeIs (by decide) ?_);refine xD (xE (name:=Str.ofString "__getitem__") ht.typeIs PyProof.Rows.slot_tuple_getitem
  (xF PyProof.Rows.slot_tuple_getitem ht.typeIs entry_tuple_getitem ?_ (args_tuple_getitem _ _)))
 show xB _ _ (Builtin.Tuple.tupleItemsOf (.ref t) >>=_) _ _ s;refine xD (tupleItemsOf_ ht ?_);refine xD (wpAny_typeOf hTs ?_);rw[if_pos (by decide)];refine xD (ZDm hs pl pu ?_);have hno:¬((((sIx items.size 0 lo:Nat):Int)==0&&(1:Int)==1&&(sIx items.size items.size hi-sIx items.size 0 lo)==items.size)=vZ):=by intro q;rw[zx,zx]at q;have q1:((sIx items.size 0 lo:Nat):Int)=0:=eq_of_beq q.1.1;have q2:sIx items.size items.size hi-sIx items.size 0 lo=items.size:=eq_of_beq q.2;exact hw ⟨by lia,by lia⟩
 show xB _ _ (if(((sIx items.size 0 lo:Nat):Int)==0&&(1:Int)==1&&(sIx items.size items.size hi-sIx items.size 0 lo)==items.size)=vZ then _ else _) _ _ s;rw[if_neg hno,ZKd]
 first
  |exact xD (m:=Builtin.Tuple.tupleExact _) (xL (xN ⟨_,rfl,xN h⟩) htake)
  |exact xD (m:=Builtin.Tuple.tupleExact _) (xL (xD (xN (xN ⟨_,rfl,xN h⟩))) htake)
  |exact xD (xD (m:=Builtin.Tuple.tupleExact _) (xL (xN (xN ⟨_,rfl,xN h⟩)) htake))
  |exact xD (xD (m:=Builtin.Tuple.tupleExact _) (xL (xN ⟨_,rfl,xN h⟩) htake))
end
end HT
namespace _L
open PySem PySem.Spec PyProof.Rows
variable{s:jG}{v:jI}
noncomputable abbrev TO:=St->Hp->(Option Int->Hp->Prop)->Prop
def PO(X:Cx)(e:Option jB)(t:TO):Prop:=
 ∀(xT:List (j9×Obj))(s:jG)(σ:St)(H:Hp)(Q:Option Int->Hp->Prop),Inv X xT σ H s->t σ H Q->
  xB (xw X.prog X.w) X.A (evalPart e X.env) (λu s'=>∃o H',Inv X xT σ H' s'/\IsPart u o/\Q o H') X.xe s
noncomputable def ZOm:TO:=λ_ H Q=>Q vQ H
noncomputable def ZIn(t:TE):TO:=λσ H Q=>t σ H λx H1=>∃i,x=.int i/\Q (xU i) H1
section
variable{X:Cx}{e:jB}{te:TE}{lo hi:Option jB}{tl th:TO}{pos p2:Pos}
theorem ZNJ:PO X vQ ZOm:=by intro xT s σ H Q I h;rw[evalPart_none];exact xN ⟨vQ,H,I,.none,h⟩
theorem ZM9(h:PE X e te):PO X (xU e) (ZIn te):=by
 intro xT s σ H Q I hw;rw[evalPart_some];refine thn (h xT s σ H _ I hw) λu s1 ⟨x,H1,I1,r1,q1⟩=>?_
 obtain⟨i,rfl,q⟩:=q1;obtain⟨t,rfl⟩:=r1;exact⟨xU i,H1,I1,.int i t,q⟩
def SlR(X:Cx)(r:V->Option Int->Option Int->Hp->VK->Prop):Prop:=
 ∀(xT:List (j9×Obj))(s:jG)(σ:St)(H:Hp)(x:V)(v vl vu:jI)(lo hi:Option Int)(sl:j9)(Q:VK),Inv X xT σ H s->RelV x v->s.heap.IsSliceOf sl vl vu .none->IsPart vl lo->IsPart vu hi->r x lo hi H Q->
  ∃T id,typeLookup (.type T) "__getitem__"=pure (xU (.builtin id))/\s.TypeIs v T/\xB (xw X.prog X.w) X.A (getItem v (.ref sl)) (EP X xT σ Q) X.xe s
theorem SlR.or{r r':V->Option Int->Option Int->Hp->VK->Prop}(h:SlR X r)(h':SlR X r'):SlR X (λx lo hi H Q=>r x lo hi H Q∨r' x lo hi H Q):=by
 intro xT s σ H x v vl vu lo hi sl Q I rx hs pl pu q;rcases q with q|q
 ·exact h xT s σ H x v vl vu lo hi sl Q I rx hs pl pu q
 ·exact h' xT s σ H x v vl vu lo hi sl Q I rx hs pl pu q
noncomputable def tSl(r:V->Option Int->Option Int->Hp->VK->Prop)(te:TE)(tl th:TO):TE:=λσ H Q=>te σ H λx H1=>tl σ H1 λl H2=>th σ H2 λu H3=>r x l u H3 Q
theorem ZLq{r:V->Option Int->Option Int->Hp->VK->Prop}(hr:SlR X r)(he:PE X e te)(hl:PO X lo tl)(hu:PO X hi th):PE X (.Subscript e (.Slice lo hi vQ p2) pos) (tSl r te tl th):=by
 intro xT s σ H Q I h;refine Subscript_ (thn (he xT s σ H _ I h) λv s1 ⟨x,H1,I1,r1,q1⟩=>?_);refine wpAny_Slice (thn (hl xT s1 σ H1 _ I1 q1) λvl s2 ⟨l,H2,I2,pl,q2⟩=>thn (hu xT s2 σ H2 _ I2 q2) λvu s3 ⟨u,H3,I3,pu,q3⟩=>?_);rw[evalPart_none];refine xN ?_;have I4:Inv X xT σ H3 {s3 with heap:=s3.heap.push {cls:=.type "slice",data:=.fields #[vl,vu,.none]}}:=I3.kept (t':=s3.toks) λb ob q=>zX _ q
 obtain⟨T,id,hT,ht,hg⟩:=hr xT {s3 with heap:=s3.heap.push {cls:=.type "slice",data:=.fields #[vl,vu,.none]}} σ H3 x v vl vu l u s3.heap.objs.size Q I4 r1 (Heap.IsSliceOf.new ..) pl pu q3;show xB (xw X.prog X.w) X.A (subscriptTail e (.Slice lo hi vQ p2) v (.ref s3.heap.objs.size)) (EP X xT σ Q) X.xe {s3 with heap:=s3.heap.push {cls:=.type "slice",data:=.fields #[vl,vu,.none]}}
 exact tail_any (ops:=[.ref s3.heap.objs.size,v]) ht hT hg (by with_unfolding_all rfl)
def Lx(xs:List V)(lo hi:Option Int):List V:=(xs.drop (HT.sIx xs.length 0 lo)).take (HT.sIx xs.length xs.length hi-HT.sIx xs.length 0 lo)
theorem ZC0(xs:List V)(lo hi:Option Int):(Lx xs lo hi).length<=xs.length:=by unfold Lx;rw[qy,qH];lia
def rSlT(K:PySem.W.Frag):V->Option Int->Option Int->Hp->VK->Prop:=λx lo hi H Q=>∃a xs,x=.ref a/\SqT K H a xs/\
 ¬(HT.sIx xs.length 0 lo=0/\HT.sIx xs.length xs.length hi=xs.length)/\∀p,H p=vQ->Q (.ref p) (upd H p (.tup (Lx xs lo hi)))
theorem ZLI:SlR X (rSlT X.K):=by
 intro xT s σ H x v vl vu lo hi sl Q I rx hs pl pu h;obtain⟨a,xs,rfl,hx,hw,q⟩:=h;cases rx;obtain⟨its,r,ht,hz⟩:=I.tuple hx;have hlen:its.toArray.size=xs.length:=by rw[zq];exact r.length.symm
 refine⟨"tuple",_,PyProof.Rows.slot_tuple_getitem.lookup,ht.typeIs,?_⟩;refine HT.ZK7 ht hs pl pu (by rw[hlen];exact hw) ?_ (by rw[hlen];exact hz);rw[hlen];refine⟨.ref s.heap.objs.size,_,I.laid (t':=s.toks) (o:=.tup (Lx xs lo hi)) (λb ob q=>zX _ q) (zW _) ?_,rfl,q _ (I.hok.fresh (zW _))⟩;exact⟨z0 (ZC0 xs lo hi) hz,_,(r.drop (HT.sIx xs.length 0 lo)).take (HT.sIx xs.length xs.length hi-HT.sIx xs.length 0 lo),IsTup.new _ _⟩
def ZDl(K:PySem.W.Frag):R2:=λx y H Q=>∃a b xs ys,x=.ref a/\y=.ref b/\SqT K H a xs/\SqT K H b ys/\xs≠[]/\xs.length+ys.length<=sizeLine/\
 (ys=[]->Q (.ref a) H)/\(ys≠[]->∀p,H p=vQ->Q (.ref p) (upd H p (.tup (xs++ys))))
theorem Vals.ZCM{xs:List V}{us:List jI}(r:Vals xs us):us=[]↔xs=[]:=by
 cases r with
 |nil=>simp
 |cons _ _=>simp
theorem ZOw:OpR X (jR .Add) (ZDl X.K):=by
 intro xT s σ H x y v u Q I rx ry h;obtain⟨a,b,xs,ys,rfl,rfl,ha,hb,hx,hz,q1,q2⟩:=h;cases rx;cases ry;obtain⟨its,r1,p1,_⟩:=I.tuple ha;obtain⟨its2,r2,p2,_⟩:=I.tuple hb;refine HT.ZJf p1 p2 (λz=>hx (r1.ZCM.mp z)) (λz=>⟨.ref a,H,I,rfl,q1 (r2.ZCM.mp z)⟩) (λz=>?_) (by rw[<-r1.length,<-r2.length];exact hz);refine⟨.ref s.heap.objs.size,_,I.laid (t':=s.toks) (o:=.tup (xs++ys)) (λb ob q=>zX _ q) (zW _) ?_,rfl,q2 (λw=>z (r2.ZCM.mpr w)) _ (I.hok.fresh (zW _))⟩
 exact⟨by rw[zG];exact hz,_,r1.append r2,IsTup.new _ _⟩
end
noncomputable def ixN(n:Nat)(i:Int):Option Nat:=if 0<=i then(if i<n then xU i.toNat else vQ)else if -(n:Int)<=i then xU (i+n).toNat else vQ
def atI{α:Type}(xs:List α)(i:Int):Option α:=(ixN xs.length i).bind λj=>xs[j]?
theorem ZMv{n:Nat}{i:Int}{j:Nat}(h:ixN n i=xU j):seqIndex? i n=xU j/\j<n/\ -(n:Int)<=i/\i<n:=by
 unfold ixN at h;by_cases h0:0<=i
 ·rw[if_pos h0]at h;by_cases h1:i<n
  ·rw[if_pos h1]at h;have e:i.toNat=j:=Option.some.inj h;exact⟨by rw[seqIndex_of h0 h1,e],by lia,by lia,h1⟩
  ·rw[if_neg h1]at h;cases h
 ·rw[if_neg h0]at h;by_cases h1: -(n:Int)<=i
  ·rw[if_pos h1]at h;have e:(i+n).toNat=j:=Option.some.inj h;exact⟨by rw[seqIndex_neg (by lia) h1,e],by lia,h1,by lia⟩
  ·rw[if_neg h1]at h;cases h
theorem ZAv{α:Type}{xs:List α}{i:Int}{v:α}(h:atI xs i=xU v):∃j,seqIndex? i xs.length=xU j/\xs[j]?=xU v/\j<xs.length/\ -(xs.length:Int)<=i/\i<xs.length:=by
 unfold atI at h;cases e:ixN xs.length i with
 |none=>rw[e]at h;cases h
 |some j=>
  rw[e]at h;obtain⟨h1,h2,h3,h4⟩:=ZMv e;exact⟨j,h1,h,h2,h3,h4⟩
def PlainIx(b:jB):Prop:=∀o i,subscripted b vJ o i=operate [o,i] (getItem o i)
def IxR(X:Cx)(r:R2):Prop:=
 ∀(value slice:jB)(xT:List (j9×Obj))(s:jG)(σ:St)(H:Hp)(x y:V)(v u:jI)(Q:VK),Inv X xT σ H s->RelV x v->RelV y u->r x y H Q->
  subscripted slice vJ v u=operate [v,u] (getItem v u)->xB (xw X.prog X.w) X.A (subscriptTail value slice v u) (EP X xT σ Q) X.xe s
def MtR(X:Cx)(id:String)(r:V->List V->Hp->VK->Prop):Prop:=
 ∀(xT:List (j9×Obj))(s:jG)(σ:St)(H:Hp)(x:V)(xs:List V)(v:jI)(us:List jI)(Q:VK),Inv X xT σ H s->RelV x v->Vals xs us->r x xs H Q->
  xB (xw X.prog X.w) X.A (call (.builtin id) (v::us)) (EP X xT σ Q) X.xe s
section
variable{X:Cx}{a b:jB}{ta tb:TE}{pos:Pos}
theorem IxR.or{r r':R2}(h:IxR X r)(h':IxR X r'):IxR X (λx y H Q=>r x y H Q∨r' x y H Q):=by
 intro value slice xT s σ H x y v u Q I rx ry q hs;rcases q with q|q
 ·exact h value slice xT s σ H x y v u Q I rx ry q hs
 ·exact h' value slice xT s σ H x y v u Q I rx ry q hs
theorem ZKF{r:R2}(hr:IxR X r)(ha:PE X a ta)(hb:PE X b tb)(hs:PlainIx b):PE X (.Subscript a b pos) (tOp r ta tb):=by intro xT s σ H Q I h;exact Subscript_ (ZBA ha hb I h λv u s2 x y H2 I2 rx ry q=>hr a b xT s2 σ H2 x y v u Q I2 rx ry q (hs _ _))
def rIxL(K:PySem.W.Frag):R2:=λx y H Q=>∃p xs i v,x=.ref p/\y=.int i/\SqL K H p xs/\atI xs i=xU v/\Q v H
def rIxT(K:PySem.W.Frag):R2:=λx y H Q=>∃p xs i v,x=.ref p/\y=.int i/\SqT K H p xs/\atI xs i=xU v/\Q v H
def rIxS:R2:=λx y H Q=>∃z i c,x=.str z/\y=.int i/\z.length<=sizeLine/\atI z.cps.toList i=xU c/\Q (.str ⟨#[c]⟩) H
theorem ZIK:IxR X (rIxL X.K):=by
 intro value slice xT s σ H x y v u Q I rx ry h hs;obtain⟨p,xs,i,z,rfl,rfl,hq,he,q⟩:=h;cases rx;obtain⟨t,rfl⟩:=ry;obtain⟨its,r,pl,hz⟩:=I.list hq;obtain⟨j,h1,h2,h3,h4,h5⟩:=ZAv he;obtain⟨w,ew,rw'⟩:=r.get h2;have hl:=r.length;have hn:=line63;have fin:EP X xT σ Q w s:=⟨z,H,I,rw',q⟩;by_cases h0:0<=i
 ·have hj:i.toNat=j:=by rw[seqIndex_of h0 h5]at h1;exact Option.some.inj h1
  exact item_listR pl.isList h0 (by lia) (by rw[hj];simpa using ew) fin hs
 ·have hj:(i+(its.toArray.size:Int)).toNat=j:=by rw[seqIndex_neg (by lia) h4]at h1;rw[zq,<-hl];exact Option.some.inj h1
  exact subscriptTail_builtinR (x:=w) pl.isList.typeIs slot_list_getitem.lookup
   (wpAny_getItem_list_neg (Q:=λr s'=>r=w/\EP X xT σ Q r s') pl.isList (by lia) (by rw[zq]<;>lia) (by lia) (by rw[hj];simpa using ew) ⟨rfl,fin⟩) hs
theorem ZKe:IxR X (rIxT X.K):=by
 intro value slice xT s σ H x y v u Q I rx ry h hs;obtain⟨p,xs,i,z,rfl,rfl,hq,he,q⟩:=h;cases rx;obtain⟨t,rfl⟩:=ry;obtain⟨its,r,pl,hz⟩:=I.tuple hq;obtain⟨j,h1,h2,h3,h4,h5⟩:=ZAv he;obtain⟨w,ew,rw'⟩:=r.get h2;have hl:=r.length;have hn:=line63;have fin:EP X xT σ Q w s:=⟨z,H,I,rw',q⟩;exact subscriptTail_builtinR (x:=w) pl.typeIs slot_tuple_getitem.lookup
  (getItem_tuple (j:=j) (Q:=λr s'=>r=w/\EP X xT σ Q r s') pl (by lia) (by lia) (by rw[zq,<-hl];exact h1) (by simpa using ew) ⟨rfl,fin⟩) hs
theorem ZLH:IxR X rIxS:=by
 intro value slice xT s σ H x y v u Q I rx ry h hs;obtain⟨z,i,c,rfl,rfl,hz,he,q⟩:=h;obtain⟨t,rfl⟩:=rx;obtain⟨t',rfl⟩:=ry;obtain⟨j,h1,h2,h3,h4,h5⟩:=ZAv he;have hl:z.cps.toList.length=z.length:=by simp[Str.length]
 rw[hl]at h1 h4 h5;have hn:=line63;exact tail_any (typeIs_str s z t) slot_str_getitem.lookup (getItem_str (c:=c) (by have e1:decide (i < -(2^63:Int))=vJ:=decide_eq_false (by lia);have e2:decide (i ≥ 2^63)=vJ:=decide_eq_false (by lia);rw[e1,e2,Bool.or_false]) (by rw[h1];simpa using h2) ⟨.str ⟨#[c]⟩,H,I.tok _,⟨_,rfl⟩,q⟩) hs
def rIx(K:PySem.W.Frag):R2:=λx y H Q=>rIxL K x y H Q∨rIxT K x y H Q∨rIxS x y H Q
theorem ZNT:IxR X (rIx X.K):=ZIK.or (ZKe.or ZLH)
theorem ZLk(lo hi:Option Int)(n:Nat):(xy lo hi vQ n).1=((HT.sIx n 0 lo:Nat):Int)/\(xy lo hi vQ n).2.1=((HT.sIx n n hi:Nat):Int)/\(xy lo hi vQ n).2.2=1:=by
 refine⟨?_,?_,rfl⟩
 ·cases lo with
  |none=>simp[xy,HT.sIx]
  |some i=>
   simp only[xy,HT.sIx,Option.getD_none,show(1:Int)>0 by decide,if_true];by_cases h:i<0
   ·simp only[h,if_true]<;>lia
   ·simp only[h,if_false]<;>lia
 ·cases hi with
  |none=>simp[xy,HT.sIx]
  |some i=>
   simp only[xy,HT.sIx,Option.getD_none,show(1:Int)>0 by decide,if_true];by_cases h:i<0
   ·simp only[h,if_true]<;>lia
   ·simp only[h,if_false]<;>lia
theorem ZNk(its:List jI)(lo hi:Option Int):slicePick its.toArray lo hi vQ=((its.drop (HT.sIx its.length 0 lo)).take (HT.sIx its.length its.length hi-HT.sIx its.length 0 lo)).toArray:=by
 obtain⟨h1,h2,h3⟩:=ZLk lo hi its.toArray.size;unfold slicePick;rw[h1,h2,h3]
 simp only[sliceRange_one,pick_run,zq]<;>rfl
def rSlL(K:PySem.W.Frag):V->Option Int->Option Int->Hp->VK->Prop:=λx lo hi H Q=>∃a xs,x=.ref a/\SqL K H a xs/\∀p,H p=vQ->Q (.ref p) (upd H p (.lst (Lx xs lo hi)))
theorem ZNr:SlR X (rSlL X.K):=by
 intro xT s σ H x v vl vu lo hi sl Q I rx hs pl pu h;obtain⟨a,xs,rfl,hx,q⟩:=h;cases rx;obtain⟨its,r,ht,hz⟩:=I.list hx;have hlen:=r.length;refine⟨"list",_,slot_list_getitem.lookup,ht.isList.typeIs,?_⟩
 refine wpAny_getItem_list_slice ht.isList hs pl pu .none (by simp) ?_ (by rw[zq]<;>lia)
 rw[ZNk,<-hlen];refine⟨.ref s.heap.objs.size,_,I.laid (t':=s.toks) (o:=.lst (Lx xs lo hi)) (λb ob q=>zX _ q) (zW _) ?_,rfl,q _ (I.hok.fresh (zW _))⟩;exact⟨z0 (ZC0 xs lo hi) hz,_,0,(r.drop (HT.sIx xs.length 0 lo)).take (HT.sIx xs.length xs.length hi-HT.sIx xs.length 0 lo),zk _ rfl⟩
noncomputable def Ej:V->Bool
 |.non=>vZ
 |.bl _=>vZ
 |.int _=>vZ
 |.str _=>vZ
 |_=>vJ
noncomputable def eqV:V->V->Bool
 |.non,.non=>vZ
 |.bl a,.bl b=>a==b
 |.bl a,.int b=>(if a then 1 else 0)==b
 |.int a,.bl b=>a==(if b then 1 else 0)
 |.int a,.int b=>a==b
 |.str a,.str b=>a==b
 |_,_=>vJ
theorem ZEi{A:jA}{y x:V}{u:jI}(ry:RelV y u)(rx:RelV x v)(fy:Ej y=vZ)(fx:Ej x=vZ):SeqAt.EqAt A s u v (eqV y x):=by
 cases y with
 |non=>
  cases ry;cases x with
  |non=>cases rx;exact SeqAt.EqAt.same _
  |bl b=>cases rx;exact SeqAt.EqAt.none_bool b
  |int b=>obtain⟨t,rfl⟩:=rx;exact SeqAt.EqAt.none_int b t
  |str b=>obtain⟨t,rfl⟩:=rx;exact SeqAt.EqAt.none_str b t
  |_=>exact absurd (show vJ=vZ from fx) zj
 |bl a=>
  cases ry;cases x with
  |non=>cases rx;exact SeqAt.EqAt.bool_none a
  |bl b=>cases rx;exact SeqAt.EqAt.bool_bool a b
  |int b=>obtain⟨t,rfl⟩:=rx;exact SeqAt.EqAt.bool_int a b t
  |str b=>obtain⟨t,rfl⟩:=rx;exact SeqAt.EqAt.bool_str a b t
  |_=>exact absurd (show vJ=vZ from fx) zj
 |int a=>
  obtain⟨t',rfl⟩:=ry;cases x with
  |non=>cases rx;exact SeqAt.EqAt.int_none a t'
  |bl b=>cases rx;exact SeqAt.EqAt.int_bool a t' b
  |int b=>obtain⟨t,rfl⟩:=rx;exact SeqAt.EqAt.int_int a t' b t
  |str b=>obtain⟨t,rfl⟩:=rx;exact SeqAt.EqAt.int_str a t' b t
  |_=>exact absurd (show vJ=vZ from fx) zj
 |str a=>
  obtain⟨t',rfl⟩:=ry;cases x with
  |non=>cases rx;exact SeqAt.EqAt.str_none a t'
  |bl b=>cases rx;exact SeqAt.EqAt.str_bool a t' b
  |int b=>obtain⟨t,rfl⟩:=rx;exact SeqAt.EqAt.str_int a t' b t
  |str b=>obtain⟨t,rfl⟩:=rx;exact SeqAt.EqAt.str_str a t' b t
  |_=>exact absurd (show vJ=vZ from fx) zj
 |_=>exact absurd (show vJ=vZ from fy) zj
def eqU(x:V)(u:jI):Bool:=match u with
 |.none=>eqV .non x
 |.bool b=>eqV (.bl b) x
 |.int i _=>eqV (.int i) x
 |.str z _=>eqV (.str z) x
 |_=>vJ
theorem ZC5{x y:V}{u:jI}(r:RelV y u)(f:Ej y=vZ):eqU x u=eqV y x:=by
 cases y with
 |non=>cases r;rfl
 |bl b=>cases r;rfl
 |int i=>obtain⟨t,rfl⟩:=r;rfl
 |str z=>obtain⟨t,rfl⟩:=r;rfl
 |_=>exact absurd (show vJ=vZ from f) zj
theorem Pa{x:V}:∀{xs:List V}{us:List jI},Vals xs us->xs.all Ej=vZ->us.any (eqU x)=xs.any λy=>eqV y x
 |_,_,.nil,_=>rfl
 |y::xs,u::us,.cons r t,f=>by rw[qR,zx]at f;rw[List.any_cons,List.any_cons,ZC5 r f.1,Pa t f.2]
theorem R4{A:jA}{x:V}(rx:RelV x v)(fx:Ej x=vZ):∀{xs:List V}{us:List jI},Vals xs us->xs.all Ej=vZ->∀u∈us,SeqAt.EqAt A s u v (eqU x u)
 |_,_,.nil,_=>λu hu=>by cases hu
 |y::xs,u::us,.cons r t,f=>λu' hu=>by
  rw[qR,zx]at f;rcases zJ.mp hu with rfl|hu
  ·rw[ZC5 r f.1];exact ZEi r rx f.1 fx
  ·exact R4 rx fx t f.2 u' hu
def inV(x:V)(xs:List V):Bool:=xs.any λy=>eqV y x
def rIn(K:PySem.W.Frag)(neg:Bool):R2:=λx y H Q=>∃p xs,y=.ref p/\(SqL K H p xs∨SqT K H p xs)/\Ej x=vZ/\xs.all Ej=vZ/\Q (.bl (if neg then !inV x xs else inV x xs)) H
theorem ZOs:OpR X (xQ .In) (rIn X.K vJ):=by
 intro xT s σ H x y v u Q I rx ry h;obtain⟨p,xs,rfl,hq,fx,fs,q⟩:=h;cases ry;rcases hq with hq|hq
 ·obtain⟨its,r,pl,hz⟩:=I.list hq;refine SeqAt.in_listAt (eqU x) pl.isList (λw hw=>R4 rx fx r fs w (by simpa using hw)) ⟨.bl _,H,I,rfl,?_⟩;rw[show its.toArray.any (eqU x)=its.any (eqU x) by simp,Pa r fs];exact q
 ·obtain⟨its,r,pl,hz⟩:=I.tuple hq;refine SeqAt.in_tupleAt (eqU x) pl (λw hw=>R4 rx fx r fs w (by simpa using hw)) ⟨.bl _,H,I,rfl,?_⟩;rw[show its.toArray.any (eqU x)=its.any (eqU x) by simp,Pa r fs];exact q
theorem ZKh:OpR X (xQ .NotIn) (rIn X.K vZ):=by
 intro xT s σ H x y v u Q I rx ry h;obtain⟨p,xs,rfl,hq,fx,fs,q⟩:=h;cases ry;rcases hq with hq|hq
 ·obtain⟨its,r,pl,hz⟩:=I.list hq;refine SeqAt.notIn_listAt (eqU x) pl.isList (λw hw=>R4 rx fx r fs w (by simpa using hw)) ⟨.bl _,H,I,rfl,?_⟩;rw[show its.toArray.any (eqU x)=its.any (eqU x) by simp,Pa r fs];exact q
 ·obtain⟨its,r,pl,hz⟩:=I.tuple hq;refine SeqAt.notIn_tupleAt (eqU x) pl (λw hw=>R4 rx fx r fs w (by simpa using hw)) ⟨.bl _,H,I,rfl,?_⟩;rw[show its.toArray.any (eqU x)=its.any (eqU x) by simp,Pa r fs];exact q
theorem ZOF:CallR X (.builtin "len") (λxs H Q=>∃p ys,xs=[.ref p]/\(SqL X.K H p ys∨SqT X.K H p ys)/\Q (.int ys.length) H):=by
 intro xT s σ H xs us Q I r h;obtain⟨p,ys,rfl,hq,q⟩:=h;obtain⟨u,rfl,rx⟩:=vals1 r;cases rx;have hn:=line63;rcases hq with hq|hq
 ·obtain⟨its,r',pl,hz⟩:=I.list hq;have hlen:=r'.length
  exact Calls.call_len_list pl.isList (by simp only[zq]<;>lia) ⟨.int ys.length,H,I.tok _,⟨s.toks+1,by rw[zq,hlen]⟩,q⟩
 ·obtain⟨its,r',pl,hz⟩:=I.tuple hq;have hlen:=r'.length
  exact len_tuple pl (by simp only[zq]<;>lia) ⟨.int ys.length,H,I.tok _,⟨s.toks+1,by rw[zq,hlen]⟩,q⟩
theorem ZMk:CallR X (.builtin "len") (λxs H Q=>∃z,xs=[.str z]/\z.length<=sizeLine/\Q (.int z.length) H):=by intro xT s σ H xs us Q I r h;obtain⟨z,rfl,hz,q⟩:=h;obtain⟨u,rfl,t,rfl⟩:=vals1 r;have hn:=line63;exact len_str (by lia) ⟨.int z.length,H,I.tok _,⟨_,rfl⟩,q⟩
theorem CallR.or{f:jI}{r r':List V->Hp->VK->Prop}(h:CallR X f r)(h':CallR X f r'):CallR X f (λxs H Q=>r xs H Q∨r' xs H Q):=by
 intro xT s σ H xs us Q I rs q;rcases q with q|q
 ·exact h xT s σ H xs us Q I rs q
 ·exact h' xT s σ H xs us Q I rs q
theorem ZLT:CallR X (.type "tuple") (λxs H Q=>∃p ys,xs=[.ref p]/\((SqL X.K H p ys/\∀l,H l=vQ->Q (.ref l) (upd H l (.tup ys)))∨(SqT X.K H p ys/\Q (.ref p) H))):=by
 intro xT s σ H xs us Q I r h;obtain⟨p,ys,rfl,h⟩:=h;obtain⟨u,rfl,rx⟩:=vals1 r;cases rx;rcases h with⟨hq,q⟩|⟨hq,q⟩
 ·obtain⟨its,r',pl,hz⟩:=I.list hq;have hlen:=r'.length
  refine call_tuple_list pl.isList (λh' kp=>?_) (by simp only[zq]<;>lia)
  have I1:Inv X xT σ H {s with heap:=h'}:=I.kept (t':=s.toks) kp;have I2:Inv X xT σ (upd H h'.objs.size (.tup ys)) {s with heap:=h'.push {cls:=.type "tuple",data:=.seq its.toArray}}:=
   I1.laid (t':=s.toks) (λb o e=>zX _ e) (zW _) (show ObjOk X.prog X.w _ _ _ (.tup ys)from⟨hz,its,r',IsTup.new _ _⟩)
  exact⟨.ref h'.objs.size,_,I2,rfl,q _ (I1.hok.fresh (zW _))⟩
 ·obtain⟨its,r',pl,hz⟩:=I.tuple hq;exact call_tuple_same pl ⟨.ref p,H,I,rfl,q⟩
def tyV(K:PySem.W.Frag)(T:String)(x:V)(H:Hp):Prop:=match x with
 |.str _=>T="str"
 |.int _=>T="int"
 | .ref p=>(T="list"/\∃xs,SqL K H p xs)∨(T="tuple"/\∃o,K.lookup p=xU o/\o.cls=.type "tuple"/\o.dict=vQ)∨
   (T="dict"/\((∃kvs,H p=xU (.dK kvs))∨∃kvs,H p=xU (.dT kvs)))∨(T="set"/\∃S n,H p=xU (.set S n))
 |_=>False
theorem ZKM{xT:List (j9×Obj)}{σ:St}{H:Hp}{T:String}{x:V}(I:Inv X xT σ H s)(r:RelV x v)(ty:tyV X.K T x H):
  s.TypeIs v T/\∀a,v=.ref a->∃ob,s.heap.get? a=xU ob/\ob.dict=vQ:=by
 cases x with
 |str z=>
  obtain⟨t,rfl⟩:=r
  cases(show T="str" from ty)
  exact⟨typeIs_str s z t,λ_ e=>nomatch e⟩
 |int i=>
  obtain⟨t,rfl⟩:=r
  cases(show T="int" from ty)
  exact⟨typeIs_int s i t,λ_ e=>nomatch e⟩
 | ref p=>
  cases r;rcases ty with⟨rfl,xs,hq⟩|⟨rfl,o,hk,hc,hd⟩|⟨rfl,hk⟩|⟨rfl,S,n,hk⟩
  ·obtain⟨its,_,pl,_⟩:=I.list hq;refine⟨pl.isList.typeIs,λa e=>?_⟩;cases e;obtain⟨o,n,e,c,hd,_⟩:=pl;exact⟨o,e,hd⟩
  ·refine⟨⟨o,I.kIn p o hk,hc⟩,λa e=>?_⟩;cases e;exact⟨o,I.kIn _ o hk,hd⟩
  ·have z:∃o,s.heap.get? p=xU o/\o.ExactDict:=by
    rcases hk with⟨kvs,hk⟩|⟨kvs,hk⟩
    ·obtain⟨_,_,_,_,o,_,_,e,ex,_⟩:=I.hok p _ hk;exact⟨o,e,ex⟩
    ·obtain⟨_,_,_,_,o,_,_,e,ex,_⟩:=I.hok p _ hk;exact⟨o,e,ex⟩
   obtain⟨o,e,ex⟩:=z;refine⟨⟨o,e,ex.1⟩,λa e2=>?_⟩;cases e2;exact⟨o,e,ex.2.1⟩
  ·obtain⟨o,_,_,_,e,ex,_⟩:=I.hok p _ hk;refine⟨⟨o,e,ex.1⟩,λa e2=>?_⟩;cases e2;exact⟨o,e,ex.2.1⟩
 |_=>exact False.elim ty
noncomputable def tBM(K:PySem.W.Frag)(T:String)(r:V->List V->Hp->VK->Prop)(to:TE)(t:TA):TE:=λσ H Q=>to σ H λx H1=>tyV K T x H1/\t σ H1 λxs H2=>r x xs H2 Q
variable{o e:jB}{es:List jB}{to:TE}{t:TA}{name:Str}{apos cpos:Pos}{T id:String}{r:V->List V->Hp->VK->Prop}
theorem ZG6(pa:PlainAttrs T)(slot:Slot T name id)(hty:typeOf (.builtin id)=pure (.type "method_descriptor"))(hm:MtR X id r)(ho:PE X o to)(ha:PA X (e::es) t)
  (hbase:attributeBase o name X.env (eval o X.env)=eval o X.env:=by rfl)
  (hfew:((jN cpos (x9 (e::es) X.env)).all (λx=> !x.1)&&(jO cpos (xq [] X.env)).all (λx=>x.1.isSome)
   && decide ((e::es).length+([]:List Keyword).length+(if([]:List Keyword).isEmpty then 0 else 1)<30))=vZ:=by rfl)
  (hline:(apos.endLine==cpos.line)=vZ:=by rfl) (hs:x9 (e::es) X.env=(vJ,eval e X.env)::x9 es X.env:=by rfl) (hplain:(jN cpos (x9 es X.env)).any (·.1)=vJ:=by rfl):
  PE X (.Call (.Attribute o name apos) (e::es) [] cpos) (tBM X.K T r to t):=by
 intro xT s σ H Q I h;refine wpAny_Call_method_late hbase hfew hline rfl (thn (ho xT s σ H _ I h) λv s1 ⟨x,H1,I1,r1,ty,q1⟩=>?_);obtain⟨h1,h2⟩:=ZKM I1 r1 ty;refine⟨T,id,pa,slot,hty,h1,h2,?_⟩;have hA:=ha cpos xT s1 σ H1 _ I1 q1;rw[hs]at hA⊢
 refine Calls.callWith_builtin (by show(vJ||(jN cpos (x9 es X.env)).any (·.1))=vJ;rw[hplain]<;>rfl) (Calls.evalArgs_plain ?_)
 exact thn hA λus s2 ⟨vs,H2,I2,r2,q2⟩=>hm xT s2 σ H2 x vs v us Q I2 r1 r2 q2
end
def MtM(X:Cx)(id:String)(r:V->List V->Hp->VK->Prop):Prop:=
 ∀(xT:List (j9×Obj))(s:jG)(σ:St)(H:Hp)(x:V)(xs:List V)(v:jI)(us:List jI)(Q:VK),Inv X xT σ H s->RelV x v->Vals xs us->r x xs H Q->
  xB (xw X.prog X.w) X.A (call (.builtin id) (v::us)) (EP X xT σ Q) X.xe s
theorem Vals.one:∀{x:V}{us:List jI},Vals [x] us->∃u,us=[u]/\RelV x u
 |_,_,.cons r .nil=>⟨_,rfl,r⟩
section
variable{X:Cx}{xT:List (j9×Obj)}{σ:St}{H:Hp}{s:jG}{l b:j9}{xs ys zs:List V}
theorem Inv.lset{its its':List jI}{n:Nat}{f:Array jI->Array jI}{t':Nat}(I:Inv X xT σ H s)(hH:H l=xU (.lst xs))
  (e:s.heap.get? l=xU {cls:=.type "list",data:=.seq its.toArray n}) (hf:f its.toArray=its'.toArray) (hv:Vals ys its') (hz:ys.length<=sizeLine):
  Inv X xT σ (upd H l (.lst ys)) {s with heap:=s.heap.update l (Obj.mapSeq f),toks:=t'}:=by
 have q:=PySem.IsL.update e f;rw[hf]at q;refine I.write (x:=l) (e:=l) (by rw[hH];exact trivial) (.inl rfl) (λb' u hb hu=>(Heap.get?_update_other s.heap (Obj.mapSeq f) (Ne.symm hb)).trans hu) ⟨_,q⟩ ?_;exact⟨hz,its',_,hv,q⟩
theorem Inv.lnew{its:List jI}{t':Nat}(I:Inv X xT σ H s)(hv:Vals ys its)(hz:ys.length<=sizeLine):
  Inv X xT σ (upd H s.heap.objs.size (.lst ys)) {s with heap:=s.heap.push {cls:=.type "list",data:=.seq its.toArray},toks:=t'}:=
 I.laid (λ_ _ q=>zX _ q) (zW _) ⟨hz,its,0,hv,zk _ rfl⟩
theorem Inv.fresh(I:Inv X xT σ H s):H s.heap.objs.size=vQ:=I.hok.fresh (zW _)
theorem Inv.lstM(I:Inv X xT σ H s)(hH:H l=xU (.lst xs)):xs.length<=sizeLine/\∃(its:List jI)(n:Nat),Vals xs its/\xs.length=its.length/\s.heap.get? l=xU {cls:=.type "list",data:=.seq its.toArray n}:=by obtain⟨z,its,n,r,e⟩:=I.hok l _ hH;exact⟨z,its,n,r,r.length,e⟩
end
section
variable{X:Cx}
def ZM2:V->List V->Hp->VK->Prop:=λx vs H Q=>∃l xs y,x=.ref l/\vs=[y]/\H l=xU (.lst xs)/\xs.length<sizeLine/\Q .non (upd H l (.lst (xs++[y])))
theorem ZN0:MtM X "list.append" ZM2:=by
 intro xT s σ H x vs v us Q I rx rv h;obtain⟨l,xs,y,rfl,rfl,hH,hz,q⟩:=h;cases rx;obtain⟨u,rfl,ru⟩:=rv.one;obtain⟨z,its,n,r,hl,e⟩:=I.lstM hH;refine call_meets F.slot_list_append ⟨_,e,rfl⟩ F.entry_list_append (F.args_list_append_2 _ _) (PySem.list_append l its.toArray n u (by rw[zq];lia)) ⟨e,?_⟩;refine⟨.non,_,I.lset (its':=its++[u]) hH e (by simp) (r.append (.cons ru .nil)) ?_,rfl,q⟩
 rw[zG,jz];lia
end
section
variable{prog:jE}{w:jL}{A:jA}{E:jI->jG->Prop}{s:jG}
end
section
variable{X:Cx}
end
end _L
namespace Att
open PySem PySem.W PySem.Calls PyProof.Rows
theorem ZLv{P:Params}{h:Heap}:∀(ns:List Int)(vs:List jI),WellAll P h vs (ns.map WData.int)->IntsAre vs ns:=by
 intro ns
 induction ns with
 |nil=>
  intro vs w;rw[zH]at w;cases w;exact .nil
 | cons n ns ih=>
  intro vs w;rw[zQ]at w;cases w with
  |cons a b=>
   cases a;exact .cons _ _ (ih _ b)
theorem ZOn{l:OpenLaw}{n:Nat}(hn:l.most=xU n){P:Params}{h:Heap}{args:List WData}{vals:List jI}
  (hpre:l.row.toRowW.claim.pre args=vZ) (hwl:WellAll P h vals args):
  ∃a vs ns,vals=[Value.ref a]/\args=[WData.list (ns.map WData.int)]/\h.get? a=xU {cls:=.type "list",data:=.seq vs.toArray}/\IntsAre vs ns/\ns.length<=n:=by
 have hsh:WShape.hasAll [] args [.list .int]=vZ:=(pre_splitW hpre).1;have hc:l.pre.holds [] {args:=args}=vZ:=(pre_splitW hpre).2;obtain⟨d,r,rfl,h1,h2⟩:=hasAllW_cons hsh;obtain rfl:=hasAllW_nil h2;obtain⟨xs,rfl,h3⟩:=hasW_list h1;obtain⟨ns,rfl⟩:=items_int h3;have hlen:ns.length<=n:=by
  unfold OpenLaw.pre at hc;have h4:(WTm.not (.lt (.lit (.int (n:Int))) (.len (.arg 0)))).holds [] {args:=[.list (ns.map .int)]}=vZ:=by have h4:=(holds_andW hc).1;rw[hn]at h4;exact h4
  have h5:=condW_of h4 (w_not (w_lt w_lit (w_len_list (w_arg rfl))));rw[zK]at h5;refine Nat.le_of_not_lt λq=>?_
  have q':(n:Int)<((ns.length:Nat):Int):=by lia
  first
   |(rw[decide_eq_true q']at h5;exact absurd h5 (by decide))
   |(simp at h5;lia)
 cases hwl with
 |cons w1 w2=>
  cases w2;cases w1 with
  |list ho hall=>exact⟨_,_,ns,rfl,rfl,ho,ZLv ns _ hall,hlen⟩
theorem ZKZ(l:OpenLaw)(args:List WData):l.row.toRowW.claim.post args (.bool vZ) args=vZ:=
 postW_of (r:=l.row.toRowW) (X:=(vZ==vZ))
  (show WShape.has [] (.bool vZ) .bool=vZ by first|rfl|decide|simp[WShape.has,WShape.arms,WShape.armsAll])
  (show(WTm.eq .res (.lit (.bool vZ))).value [] {args:=args,res:=xU (.bool vZ),after:=args}=xU (.bool (vZ==vZ))from w_eq_bool (w_res rfl) w_lit) rfl
section
variable{prog:jE}{w:jL}{A:jA}{E:jI->jG->Prop}{s:jG}{K:xR}
end
end Att
namespace _L
open PySem PySem.Spec PyProof.Rows
variable{fd:jC}{x:Str}
theorem W5:∀{vs:List jI}{ns:List Int},IntsAre vs ns->Vals (ns.map V.int) vs
 |_,_,.nil=>.nil
 |_,_,.cons n t h=>.cons ⟨t,rfl⟩ (W5 h)
def Only(H:Hp):Prop:=∀b,H b=vQ∨∃o xs,H b=xU (.frz o (.lst xs))
theorem ZLy{P:jE}{w:jL}{K:PySem.W.Frag}{mg mb:Str->Option jI}{CX:CXT}{k:Nat}{fa a:j9}{sp:Sp}{s₁:jG}{vs:List jI}{ns:List Int}
  (KX:K.In s₁.heap) (hns:s₁.heap.Ns xj mg) (hb:s₁.heap.Ns builtinsNs mb) (hbb:∀x:Str,x≠"__name__"->mb x=jS x) (hlim:s₁.heap.NoLimit) (hg:s₁.gens= #[])
  (ha:s₁.heap.get? a=xU {cls:=.type "list",data:=.seq vs.toArray}) (hi:IntsAre vs ns) (hl:ns.length<=sizeLine) (hr:Room k callerA)
  (F:∀base:Heap,K.In base->base.Ns xj mg->FnOk P w K mg base CX k fa fd [x] sp) (hbind:∀(s:jG)(u:jI),BindsTo s fd ⟨[u],[]⟩ [(x,u)])
  (hsp:∀H:Hp,Only H->SqL K H a (ns.map V.int)->sp [.ref a] H (λv _=>v=.bl vZ) λ_ _ _=>False)
  (hCX:∀H e s',CX [] H s₁ (λ_ _ _=>False) e s'->False):
  codeAny (xw P w) callerA (.call (.ref fa) ⟨[.ref a],[]⟩) (λr s'=>r=.ok (.ret (.bool vZ))/\OldK s₁.heap s'.heap/\s'.os=s₁.os/\AllBare s'.gens) s₁:=by
 have rv:=W5 hi;have lenV:=hi.length;have core:∀H:Hp,Only H->SqL K H a (ns.map V.int)->HOk P w H s₁.heap->(∀b,H b≠vQ->b=a)->(H a≠vQ->K.lookup a=vQ)->
   codeAny (xw P w) callerA (.call (.ref fa) ⟨[.ref a],[]⟩) (λr s'=>r=.ok (.ret (.bool vZ))/\OldK s₁.heap s'.heap/\s'.os=s₁.os/\AllBare s'.gens) s₁:=by
  intro H hO hS hok hA hK;have base_of:∀{b:j9}{o:Obj},s₁.heap.get? b=xU o->H b=vQ->(Kc s₁.heap H).get? b=xU o:=λe n=>ZNf e n
  have noA:∀{b:j9}{o:Obj}{es:Array DictEntry}{ep:Nat},s₁.heap.get? b=xU o->o.data=.dict es ep->H b=vQ:=λ{b o es ep}e d=>by
   cases q:H b with
   |none=>rfl
   |some u=>
    have e':b=a:=hA b (by rw[q];simp);subst e';rw[ha]at e;cases e;have d':Data.seq vs.toArray _=Data.dict es ep:=d;cases d'
  have nsK:∀{b:j9}{m:Str->Option jI},s₁.heap.Ns b m->(Kc s₁.heap H).Ns b m:=λ{b m}⟨o,es,ep,e,d,r⟩=>⟨o,es,ep,base_of e (noA e d),d,r⟩
  have hKb:K.In (Kc s₁.heap H):=λb o e=>base_of (KX b o e) (by
   cases q:H b with
   |none=>rfl
   |some u=>
    have e':b=a:=hA b (by rw[q];simp);subst e';rw[hK (by rw[q];simp)]at e;cases e)
  have hM:Mod K mg (Kc s₁.heap H):=⟨hKb,nsK hns,⟨mb,nsK hb,hbb⟩,let⟨mc,h1,h2⟩:=hlim;⟨mc,nsK h1,h2⟩⟩
  have e0:Env0 P w K mg (Kc s₁.heap H) callerA [] s₁ H:=⟨rfl,hM,λb o e=>ZKu e,Nat.le_of_eq (ZM5 _ _),trivial,λb hb=>absurd (show b∈([]:List j9)from hb) (by simp),hok,.of_eq hg⟩
  refine jU ((F _ hKb (nsK hns)).run callerA [] s₁ H ⟨[.ref a],[]⟩ [.ref a] [.ref a] _ _ hr e0 (hbind s₁ (.ref a)) (.cons rfl .nil) (hsp H hO hS)) λr s' h=>?_
  cases r with
  |error e=>exact(hCX H e s' h).elim
  | ok fl=>
   cases fl with
   |next=>exact False.elim h
   |brk=>exact False.elim h
   |cont=>exact False.elim h
   | ret u=>
    obtain⟨v,H',os,bare,un,hok',r',q⟩:=h;have q':v=.bl vZ:=q;subst q';obtain rfl:u=Value.bool vZ:=r';refine⟨rfl,OldK.of_keep λb o e=>?_,os,bare⟩;cases q:H b with
    |none=>exact un.keep b o e q (by intro z;exact absurd (show b∈([]:List j9)from z) (by simp)) (by simp)
    |some u=>
     rcases hO b with z|⟨ob,xs,z⟩
     ·rw[q]at z;cases z
     ·have z2:=un.frzs b ob _ z;obtain⟨e1,_⟩:=hok b _ z;obtain⟨e2,_⟩:=hok' b _ z2;rw[e]at e1;cases e1;exact e2
 cases hk:K.lookup a with
 |some o=>
  have e:=KX a o hk;rw[ha]at e;cases e;refine core (λ_=>vQ) (λ_=>.inl rfl) (.inr ⟨_,vs.toArray,_,hk,rfl,rfl,rfl,by rw[zq,lenV];exact hl,by simpa using rv⟩) (λb u z=>by have z':(vQ:Option HO)=xU u:=z;cases z') (λb z=>absurd rfl z) λz=>absurd rfl z
 | none=>
  refine core (λb=>if b=a then xU (.frz {cls:=.type "list",data:=.seq vs.toArray} (.lst (ns.map V.int)))else vQ) (λb=>?_) (.inl (.inr ⟨{cls:=.type "list",data:=.seq vs.toArray},if_pos rfl⟩)) (λb u z=>?_) (λb z=>?_) λ_=>hk
  ·by_cases hb:b=a
   ·exact .inr ⟨_,_,if_pos hb⟩
   ·exact .inl (if_neg hb)
  ·by_cases hb:b=a
   ·have z':=(if_pos hb).symm.trans z;cases z';subst hb;exact⟨ha,by rw[zK];exact hl,vs,_,rv,ha⟩
   ·have z':=(if_neg hb).symm.trans z;cases z'
  ·by_cases hb:b=a
   ·exact hb
   ·exact absurd (if_neg hb) z
noncomputable abbrev CX0:CXT:=λ_ _ _ _ _ _=>False
noncomputable abbrev E0:XK:=λ_ _ _=>False
theorem pass0{X:Cx}:Passes CX0 X E0:=λ_ _ _ _ _ _ _ h=>h.elim
structure Fun (K:PySem.W.Frag) (x qual:Str) (st:jH) (f:j9) (fd:jC):Prop where
 ex:∃(oc:jI)(od:Option j9)(kV doc pm:jI)(an:Option j9)(cdv ct:jI)(osl:Array (Option jI)),
  fd=PySem.W.fnOf x qual (Ka st) (Hz st) (Aw st) .none kV doc pm an cdv ct/\K.lookup f=xU ⟨oc,od,.func fd,osl⟩/\PySem.W.codeIn K cdv qual=vZ
 kp:PySem.W.keepIn K (.ref f)=vZ
section
variable{P:jE}{w:jL}{K:PySem.W.Frag}{mg:Str->Option jI}{base:Heap}
theorem Fun.ok{qual:Str}{st:jH}{f:j9}{N ps:List Str}{k:Nat}{sp:Sp}(F:Fun K x qual st f fd)(S:FnScope N ps (Aw st))(len:∀vs H Q E,sp vs H Q E->vs.length=ps.length)
  (hbody:∀(cdv:jI)(A:jA)(outer:List Env)(s:jG)(H:Hp)(vs:List V)(Q:VK)(E:XK),Room k (A.deeper (envOfC qual (Aw st) s.heap.objs.size f cdv))->sp vs H Q E->
   ∃t,PSs (Ms CX0 P w K mg base N qual (Aw st) f cdv A outer s H E).nox (Hz st) t/\t {nx:=λ_ H'=>Q .non H',rt:=Q} (start N vs) H):FnOk P w K mg base CX0 (k+1) f fd ps sp:=by
 obtain⟨oc,od,kV,doc,pm,an,cdv,ct,osl,rfl,lk,hcd⟩:=F.ex;refine ZMd lk hcd S len λA outer s H vs Q E hr hsp=>?_
 obtain⟨t,h,q⟩:=hbody cdv A outer s H vs Q E hr hsp;exact⟨t,h.nox,q⟩
theorem Fun.binds{qual:Str}{st:jH}{f:j9}{ps:List Str}(F:Fun K x qual st f fd)
  (h:∀(kV doc pm:jI)(an:Option j9)(cdv ct:jI)(us:List jI),us.length=ps.length->bindArgs (PySem.W.fnOf x qual (Ka st) (Hz st) (Aw st) .none kV doc pm an cdv ct) ⟨us,[]⟩=pure (ps.zip us)):Binds K fd ps []:=by
 obtain⟨oc,od,kV,doc,pm,an,cdv,ct,osl,rfl,lk,hcd⟩:=F.ex;exact .all (h kV doc pm an cdv ct)
end
section
variable{X:Cx}
end
section
variable{κ:Type}[DecidableEq κ]
end
section
variable{P:jE}{w:jL}{H:Hp}{h:Heap}{a:j9}
end
section
variable{X:Cx}{xT:List (j9×Obj)}{σ:St}{H:Hp}{s:jG}{a:j9}{y v:V}{u r:jI}{o:Option V}{A:jA}{E:jI->jG->Prop}
end
section
variable{X:Cx}{xT:List (j9×Obj)}{σ:St}{H:Hp}{s:jG}{a:j9}{kvs:List (Key×V)}{k:Key}{u:jI}{A:jA}{E:jI->jG->Prop}
end
section
variable{X:Cx}{o i e value:jB}{pos pos' tpos:Pos}{td ty tv:TE}
end
section
variable{X:Cx}{pos:Pos}
end
section
variable{X:Cx}{xT:List (j9×Obj)}{σ:St}{H:Hp}{s:jG}{a:j9}{y d:V}{u r:jI}{o:Option V}{A:jA}{E:jI->jG->Prop}
end
section
variable{X:Cx}{o e f:jB}{apos cpos:Pos}{td ty tx:TE}
end
section
variable{X:Cx}{xT:List (j9×Obj)}{σ:St}{H:Hp}{s:jG}{a:j9}{kvs:List (Key×V)}{A:jA}{E:jI->jG->Prop}
end
section
variable{X:Cx}{xT:List (j9×Obj)}{σ:St}{H:Hp}{s:jG}{a:j9}{y:V}{u:jI}{A:jA}{E:jI->jG->Prop}
end
section
variable{X:Cx}
end
end _L
namespace _L
section
variable{κ:Type}[DecidableEq κ]
end
end _L
namespace _D
open PySem PySem.Spec _L
open PyProof.Rows hiding St
variable{α:Type}{H:Hp}{p:j9}{v:V}{vs:List V}{σ:St}{E:XK}{Q:VK}{W:Ends}{e tg:jB}{ho:HO}{i j k nt:Nat}{x y:Str}{op:CmpOp}{A:jA}{s:jG}{P:jE}{w:jL}{scope:jF}{env:Env}{X:Cx}{lo hi:Option Int}
inductive D where
 |non|bl (b:Bool)|int (i:Int)|str (x:Str)|ty (n:String)
 |tup (xs:List D)
 |fl (xs:List D)
 |ref (i:Nat)
variable{d:D}{ds xs:List D}
inductive DO where
 |lst (xs:List D)
 |dct (kvs:List (Key×D))
 |ins (c:Str) (fs:List (Str×D))
 |tab (c m:Str)
 |gone
variable{o:DO}
noncomputable abbrev DH:=List DO
variable{G G' L:DH}
noncomputable abbrev DSt:=List (Option D)
variable{S:DSt}
structure Xn where
 cls:Str
 fs:List (Str×D)
inductive R (α:Type) where
 |ok (a:α) (G:DH)
 |err (x:Xn) (G:DH)
 |bad
variable{r:R D}{f:D->D->DH->R D}
noncomputable def R.bind{α β:Type}(r:R α)(f:α->DH->R β):R β:=match r with
 |.ok a G=>f a G
 |.err x G=>.err x G
 |.bad=>.bad
@[simp]theorem R.Gr{β:Type}(a:α)(G:DH)(f:α->DH->R β):(R.ok a G).bind f=f a G:=id rfl
inductive SR where
 |nx (S:DSt) (G:DH)
 |rt (d:D) (G:DH)
 |bk (S:DSt) (G:DH)
 |ct (S:DSt) (G:DH)
 |err (x:Xn) (G:DH)
 |bad
noncomputable abbrev DE:=DSt->DH->R D
variable{t te:DE}
noncomputable abbrev DB:=DSt->DH->R Bool
noncomputable abbrev DA:=DSt->DH->R (List D)
noncomputable abbrev DS:=DSt->DH->SR
variable{u:DS}
def FzL(K:PySem.W.Frag)(H:Hp)(a:j9)(xs:List V):Prop:=
 (∃o,H a=xU (.frz o (.lst xs)))∨
  ∃(o:Obj)(its:Array jI)(n:Nat),K.lookup a=xU o/\o.cls=.type "list"/\o.dict=vQ/\o.data=.seq its n/\its.size<=sizeLine/\Vals xs its.toList
theorem FzL.sq{K:PySem.W.Frag}{a:j9}{xs:List V}(h:FzL K H a xs):SqL K H a xs:=by
 rcases h with⟨o,h⟩|h
 ·exact .inl (.inr ⟨o,h⟩)
 ·exact .inr h
structure Wd where
 K:PySem.W.Frag
 n:Nat
 m:Nat->j9
 H:Hp
variable{a b c:Wd}
mutual
def Rep(a:Wd):D->V->Prop
 |.non,v=>v=.non
 |.bl b,v=>v=.bl b
 |.int i,v=>v=.int i
 |.str x,v=>v=.str x
 |.ty n,v=>v=.ty n
 |.tup ds,v=>∃p vs,v=.ref p/\SqT a.K a.H p vs/\Reps a ds vs
 |.fl ds,v=>∃p vs,v=.ref p/\FzL a.K a.H p vs/\Reps a ds vs
 |.ref i,v=>i<a.n/\v=.ref (a.m i)
def Reps(a:Wd):List D->List V->Prop
 |[],vs=>vs=[]
 |d::ds,vs=>∃v r,vs=v::r/\Rep a d v/\Reps a ds r
end
noncomputable def lamQ:Str:="Sending.send_by.<locals>.<lambda>"
def TabOk(H:Hp)(P:j9):Prop:=
 ∃ps:Array jI,H P=xU (.tbl ps)/\TriplesOk ps.toList/\∀pos cv,codeAmong pos ps.toList=xU cv->∃(c:j9)(oc:Obj)(vs:Array jI)(t:Tok),cv=.ref c/\H c=xU (.frz oc (.own 0))/\oc.data=.fields vs/\vs[1]?=xU (.str lamQ t)
theorem TabOk.mono{H':Hp}{P:j9}(h:TabOk H P)(ht:∀p ps,H p=xU (.tbl ps)->H' p=xU (.tbl ps))(hf:∀p o u,H p=xU (.frz o u)->H' p=xU (.frz o u)):TabOk H' P:=by obtain⟨ps,e,t,k⟩:=h;refine⟨ps,ht _ _ e,t,λpos cv hc=>?_⟩;obtain⟨c,oc,vs,tk,e1,e2,e3,e4⟩:=k pos cv hc;exact⟨c,oc,vs,tk,e1,hf _ _ _ e2,e3,e4⟩
def TabAt(K:PySem.W.Frag)(C m:Str)(c P:j9):Prop:=
 ∃(Ca f:j9)(oc:jI)(od:Option j9)(fd:jC)(sl:Array (Option jI)),PySem.W.nsIn K xj C=xU (xU (.ref Ca))/\PySem.W.findIn K (.ref Ca) m=xU (xU (.ref f))/\K.lookup f=xU ⟨oc,od,.func fd,sl⟩/\fd.code=.ref c/\PySem.W.codeHdIn K c P=vZ
structure Ext (a b:Wd):Prop where
 k:b.K=a.K
 n:a.n<=b.n
 m:∀i,i<a.n->b.m i=a.m i
 tup:∀p xs,a.H p=xU (.tup xs)->b.H p=xU (.tup xs)
 frz:∀p o u,a.H p=xU (.frz o u)->b.H p=xU (.frz o u)
 tab:∀p,TabOk a.H p->TabOk b.H p
theorem Ext.refl(a:Wd):Ext a a:=⟨rfl,zW _,λ_ _=>rfl,λ_ _ h=>h,λ_ _ _ h=>h,λ_ h=>h⟩
theorem Ext.trans(x:Ext a b)(y:Ext b c):Ext a c:=
 ⟨y.k.trans x.k,z0 x.n y.n,λi h=>(y.m i (zV h x.n)).trans (x.m i h),λp xs h=>y.tup p xs (x.tup p xs h),λp o u h=>y.frz p o u (x.frz p o u h),λp h=>y.tab p (x.tab p h)⟩
theorem Ext.sqT(x:Ext a b){xs:List V}(h:SqT a.K a.H p xs):SqT b.K b.H p xs:=by
 rcases h with(h|⟨o,h⟩)|h
 ·exact .inl (.inl (x.tup _ _ h))
 ·exact .inl (.inr ⟨o,x.frz _ _ _ h⟩)
 ·exact .inr (by rw[x.k];exact h)
theorem Ext.fzL(x:Ext a b){xs:List V}(h:FzL a.K a.H p xs):FzL b.K b.H p xs:=by
 rcases h with⟨o,h⟩|h
 ·exact .inl ⟨o,x.frz _ _ _ h⟩
 ·exact .inr (by rw[x.k];exact h)
mutual
theorem Rep.mono(x:Ext a b):∀{d:D}{v:V},Rep a d v->Rep b d v
 |.non,_,h=>h
 |.bl _,_,h=>h
 |.int _,_,h=>h
 |.str _,_,h=>h
 |.ty _,_,h=>h
 |.tup ds,v,h=>by obtain⟨p,vs,e,q,r⟩:=h;exact⟨p,vs,e,x.sqT q,Reps.mono x r⟩
 |.fl ds,v,h=>by obtain⟨p,vs,e,q,r⟩:=h;exact⟨p,vs,e,x.fzL q,Reps.mono x r⟩
 |.ref i,v,h=>by obtain⟨l,e⟩:=h;exact⟨zV l x.n,by rw[x.m i l];exact e⟩
theorem Reps.mono(x:Ext a b):∀{ds:List D}{vs:List V},Reps a ds vs->Reps b ds vs
 |[],_,h=>h
 |d::ds,vs,h=>by obtain⟨v,r,e,h1,h2⟩:=h;exact⟨v,r,e,Rep.mono x h1,Reps.mono x h2⟩
end
theorem Reps.length:∀{ds:List D}{vs:List V},Reps a ds vs->ds.length=vs.length
 |[],vs,h=>by cases(show vs=[]from h);rfl
 |d::ds,vs,h=>by obtain⟨v,r,e,h1,h2⟩:=h;subst e;show ds.length+1=r.length+1;rw[Reps.length h2]
theorem Reps.get:∀{ds:List D}{vs:List V}{i:Nat}{d:D},Reps a ds vs->ds[i]?=xU d->∃v,vs[i]?=xU v/\Rep a d v
 |[],vs,_,_,h,e=>by simp at e
 |d::ds,vs,0,d',h,e=>by obtain⟨v,r,e1,h1,h2⟩:=h;subst e1;simp at e;subst e;exact⟨v,rfl,h1⟩
 |d::ds,vs,i+1,d',h,e=>by obtain⟨v,r,e1,h1,h2⟩:=h;subst e1;obtain⟨w,e2,h3⟩:=Reps.get (i:=i) (d:=d') h2 (by simpa using e);exact⟨w,by simpa using e2,h3⟩
theorem Reps.get':∀{ds:List D}{vs:List V}{i:Nat}{v:V},Reps a ds vs->vs[i]?=xU v->∃d,ds[i]?=xU d/\Rep a d v
 |[],vs,_,_,h,e=>by cases(show vs=[]from h);simp at e
 |d::ds,vs,0,v',h,e=>by obtain⟨v,r,e1,h1,h2⟩:=h;subst e1;simp at e;subst e;exact⟨d,rfl,h1⟩
 |d::ds,vs,i+1,v',h,e=>by obtain⟨v,r,e1,h1,h2⟩:=h;subst e1;obtain⟨w,e2,h3⟩:=Reps.get' (i:=i) (v:=v') h2 (by simpa using e);exact⟨w,by simpa using e2,h3⟩
theorem Reps.append:∀{ds es:List D}{vs us:List V},Reps a ds vs->Reps a es us->Reps a (ds++es) (vs++us)
 |[],_,vs,_,h,h'=>by cases(show vs=[]from h);exact h'
 |d::ds,es,vs,us,h,h'=>by obtain⟨v,r,e1,h1,h2⟩:=h;subst e1;exact⟨v,r++us,rfl,h1,Reps.append h2 h'⟩
theorem Reps.cons(h:Rep a d v)(r:Reps a ds vs):Reps a (d::ds) (v::vs):=⟨v,vs,rfl,h,r⟩
theorem Reps.nil:Reps a [] []:=rfl
theorem Reps.take:∀{ds:List D}{vs:List V}(i:Nat),Reps a ds vs->Reps a (ds.take i) (vs.take i)
 |_,_,0,_=>rfl
 |[],vs,_+1,r=>by cases(show vs=[]from r);exact rfl
 |d'::ds,vs,i+1,r=>by obtain⟨v',r',e1,h1,h2⟩:=r;subst e1;exact⟨v',r'.take i,rfl,h1,Reps.take i h2⟩
theorem Reps.drop:∀{ds:List D}{vs:List V}(i:Nat),Reps a ds vs->Reps a (ds.drop i) (vs.drop i)
 |_,_,0,r=>r
 |[],vs,_+1,r=>by cases(show vs=[]from r);exact rfl
 |d'::ds,vs,i+1,r=>by obtain⟨v',r',e1,h1,h2⟩:=r;subst e1;exact Reps.drop i h2
theorem Reps.ints:∀(ns:List Int),Reps a (ns.map D.int) (ns.map V.int)
 |[]=>rfl
 |n::ns=>⟨.int n,ns.map V.int,rfl,rfl,Reps.ints ns⟩
def RepKV(a:Wd)(kvs:List (Key×D))(us:List (Key×V)):Prop:=kvs.map (·.1)=us.map (·.1)/\Reps a (kvs.map (·.2)) (us.map (·.2))
def RepF(a:Wd)(fs:List (Str×D))(us:List (Str×V)):Prop:=fs.map (·.1)=us.map (·.1)/\Reps a (fs.map (·.2)) (us.map (·.2))
def ORep(a:Wd):DO->Option HO->Prop
 |.lst ds,o=>∃vs,o=xU (.lst vs)/\Reps a ds vs
 |.dct kvs,o=>∃us,o=xU (.dK us)/\RepKV a kvs us
 |.ins c fs,o=>∃C dx us,PySem.W.nsIn a.K xj c=xU (xU (.ref C))/\o=xU (.ins C dx us)/\RepF a fs us
 |.tab C m,_=>∃c P,TabAt a.K C m c P/\TabOk a.H P
 |.gone,_=>True
structure Sim (a:Wd) (G:DH):Prop where
 len:G.length=a.n
 inj:∀i j,i<a.n->j<a.n->a.m i=a.m j->i=j
 obj:∀(i:Nat)(o:DO),G[i]?=xU o->ORep a o (a.H (a.m i))
 tr:∀i,i<a.n->a.H (a.m i)≠vQ
structure RepS (a:Wd) (S:DSt) (σ:St):Prop where
 len:S.length=σ.length
 get:∀(i:Nat)(d:D),S[i]?=xU (xU d)->∃v,σ[i]?=xU (xU v)/\Rep a d v
theorem RepS.mono(x:Ext a b)(r:RepS a S σ):RepS b S σ:=⟨r.len,λi d h=>let⟨v,e,q⟩:=r.get i d h;⟨v,e,q.mono x⟩⟩
theorem RepS.set(r:RepS a S σ)(i:Nat)(h:Rep a d v):RepS a (S.set i (xU d)) (σ.set i (xU v)):=by
 refine⟨by simpa using r.len,λj e he=>?_⟩;rw[qN]at he⊢;by_cases hij:i=j
 ·subst hij;rw[if_pos rfl]at he⊢;by_cases hl:i<S.length
  ·rw[if_pos hl]at he;have e1:d=e:=by simpa using he
   subst e1;rw[if_pos (by rw[<-r.len];exact hl)];exact⟨v,rfl,h⟩
  ·rw[if_neg hl]at he;cases he
 ·rw[if_neg hij]at he⊢;exact r.get j e he
def XOk(E:XK)(a:Wd)(x:Xn)(G:DH):Prop:=False
def out(E:XK)(a:Wd)(r:R D)(Q:VK):Prop:=match r with
 |.ok d G=>∀(b:Wd)(v:V),Ext a b->Sim b G->Rep b d v->Q v b.H
 |.err x G=>XOk E a x G
 |.bad=>False
def G9(E:XK)(a:Wd)(r:R Bool)(Q:Bool->Hp->Prop):Prop:=match r with
 |.ok k G=>∀(b:Wd),Ext a b->Sim b G->Q k b.H
 |.err x G=>XOk E a x G
 |.bad=>False
def Ft(E:XK)(a:Wd)(r:R (List D))(Q:List V->Hp->Prop):Prop:=match r with
 |.ok ds G=>∀(b:Wd)(vs:List V),Ext a b->Sim b G->Reps b ds vs->Q vs b.H
 |.err x G=>XOk E a x G
 |.bad=>False
def Dc(E:XK)(a:Wd)(r:SR)(W:Ends):Prop:=match r with
 |.nx S G=>∀(b:Wd)(σ:St),Ext a b->Sim b G->RepS b S σ->W.nx σ b.H
 |.bk S G=>∀(b:Wd)(σ:St),Ext a b->Sim b G->RepS b S σ->W.bk σ b.H
 |.ct S G=>∀(b:Wd)(σ:St),Ext a b->Sim b G->RepS b S σ->W.ct σ b.H
 |.rt d G=>∀(b:Wd)(v:V),Ext a b->Sim b G->Rep b d v->W.rt v b.H
 |.err x G=>XOk E a x G
 |.bad=>False
theorem XOk.mono(x:Ext a b){e:Xn}(h:XOk E a e G):XOk E b e G:=h
theorem out.mono(x:Ext a b)(h:out E a r Q):out E b r Q:=by
 cases r with
 |ok d G=>exact λc v y s q=>h c v (x.trans y) s q
 |err e G=>exact XOk.mono (E:=E) (e:=e) (G:=G) x h
 |bad=>exact h
theorem G9.mono(x:Ext a b){r:R Bool}{Q:Bool->Hp->Prop}(h:G9 E a r Q):G9 E b r Q:=by
 cases r with
 |ok d G=>exact λc y s=>h c (x.trans y) s
 |err e G=>exact XOk.mono (E:=E) (e:=e) (G:=G) x h
 |bad=>exact h
theorem Ft.mono(x:Ext a b){r:R (List D)}{Q:List V->Hp->Prop}(h:Ft E a r Q):Ft E b r Q:=by
 cases r with
 |ok d G=>exact λc vs y s q=>h c vs (x.trans y) s q
 |err e G=>exact XOk.mono (E:=E) (e:=e) (G:=G) x h
 |bad=>exact h
theorem Dc.mono(x:Ext a b){r:SR}(h:Dc E a r W):Dc E b r W:=by
 cases r with
 |nx d G=>exact λc vs y s q=>h c vs (x.trans y) s q
 |bk d G=>exact λc vs y s q=>h c vs (x.trans y) s q
 |ct d G=>exact λc vs y s q=>h c vs (x.trans y) s q
 |rt d G=>exact λc vs y s q=>h c vs (x.trans y) s q
 |err e G=>exact XOk.mono (E:=E) (e:=e) (G:=G) x h
 |bad=>exact h
def lE(K:PySem.W.Frag)(E:XK)(t:DE):TE:=λσ H Q=>∃(a:Wd)(S:DSt)(G:DH),a.K=K/\a.H=H/\Sim a G/\RepS a S σ/\out E a (t S G) Q
def lB(K:PySem.W.Frag)(E:XK)(t:DB):TT:=λσ H Q=>∃(a:Wd)(S:DSt)(G:DH),a.K=K/\a.H=H/\Sim a G/\RepS a S σ/\G9 E a (t S G) Q
def lA(K:PySem.W.Frag)(E:XK)(t:DA):TA:=λσ H Q=>∃(a:Wd)(S:DSt)(G:DH),a.K=K/\a.H=H/\Sim a G/\RepS a S σ/\Ft E a (t S G) Q
def lS(K:PySem.W.Frag)(E:XK)(t:DS):TS:=λW σ H=>∃(a:Wd)(S:DSt)(G:DH),a.K=K/\a.H=H/\Sim a G/\RepS a S σ/\Dc E a (t S G) W
def lR2(K:PySem.W.Frag)(E:XK)(f:D->D->DH->R D):R2:=λx y H Q=>∃(a:Wd)(G:DH)(d e:D),a.K=K/\a.H=H/\Sim a G/\Rep a d x/\Rep a e y/\out E a (f d e G) Q
def lR1(K:PySem.W.Frag)(E:XK)(f:D->DH->R D):V->Hp->VK->Prop:=λx H Q=>∃(a:Wd)(G:DH)(d:D),a.K=K/\a.H=H/\Sim a G/\Rep a d x/\out E a (f d G) Q
def lRn(K:PySem.W.Frag)(E:XK)(f:List D->DH->R D):List V->Hp->VK->Prop:=λxs H Q=>∃(a:Wd)(G:DH)(ds:List D),a.K=K/\a.H=H/\Sim a G/\Reps a ds xs/\out E a (f ds G) Q
def lF(K:PySem.W.Frag)(f:List D->DH->R D):Sp:=λxs H Q E=>∃(a:Wd)(G:DH)(ds:List D),a.K=K/\a.H=H/\Sim a G/\Reps a ds xs/\out E a (f ds G) Q
section
variable{X:Cx}{E:XK}
def QE(X:Cx)(E:XK)(e:jB)(t:DE):Prop:=PE X e (lE X.K E t)
def QT(X:Cx)(E:XK)(e:jB)(t:DB):Prop:=PT X e (lB X.K E t)
def QA(X:Cx)(E:XK)(es:List jB)(t:DA):Prop:=PA X es (lA X.K E t)
def QS(X:Cx)(E:XK)(st:jH)(t:DS):Prop:=PS X st (lS X.K E t)
def QSs(X:Cx)(E:XK)(st:List jH)(t:DS):Prop:=PSs X st (lS X.K E t)
theorem _root_._L.PE.mono{t t':TE}(h:PE X e t)(w:∀σ H Q,t' σ H Q->t σ H Q):PE X e t':=λxT s σ H Q I q=>h xT s σ H Q I (w σ H Q q)
theorem _root_._L.PT.mono{t t':TT}(h:PT X e t)(w:∀σ H Q,t' σ H Q->t σ H Q):PT X e t':=λxT s σ H Q I q=>h xT s σ H Q I (w σ H Q q)
theorem _root_._L.PA.mono{e:List jB}{t t':TA}(h:PA X e t)(w:∀σ H Q,t' σ H Q->t σ H Q):PA X e t':=λpos xT s σ H Q I q=>h pos xT s σ H Q I (w σ H Q q)
theorem _root_._L.PS.mono{e:jH}{t t':TS}(h:PS X e t)(w:∀W σ H,t' W σ H->t W σ H):PS X e t':=λxT s σ H W I q=>h xT s σ H W I (w W σ H q)
theorem _root_._L.PSs.mono{e:List jH}{t t':TS}(h:PSs X e t)(w:∀W σ H,t' W σ H->t W σ H):PSs X e t':=λxT s σ H W I q=>h xT s σ H W I (w W σ H q)
theorem _root_._L.OpR.mono{f:jI->jI->Sem jI}{r r':R2}(h:OpR X f r)(w:∀x y H Q,r' x y H Q->r x y H Q):OpR X f r':=λxT s σ H x y v u Q I rx ry q=>h xT s σ H x y v u Q I rx ry (w _ _ _ _ q)
end
theorem G6{f:D->DH->R D}(h:out E a (r.bind f) Q):
  out E a r (λv H=>∃(b:Wd)(d:D)(G:DH),b.H=H/\Ext a b/\Sim b G/\Rep b d v/\r=.ok d G/\out E b (f d G) Q):=by
 cases r with
 |ok d G=>exact λb v x s q=>⟨b,d,G,rfl,x,s,q,rfl,out.mono x h⟩
 |err e G=>exact h
 |bad=>exact h
theorem Pr{r:R (List D)}{f:List D->DH->R D}(h:out E a (r.bind f) Q):
  Ft E a r (λvs H=>∃(b:Wd)(ds:List D)(G:DH),b.H=H/\Ext a b/\Sim b G/\Reps b ds vs/\r=.ok ds G/\out E b (f ds G) Q):=by
 cases r with
 |ok d G=>exact λb v x s q=>⟨b,d,G,rfl,x,s,q,rfl,out.mono x h⟩
 |err e G=>exact h
 |bad=>exact h
theorem ZM6{r:R Bool}{f:Bool->DH->R D}(h:out E a (r.bind f) Q):
  G9 E a r (λk H=>∃(b:Wd)(G:DH),b.H=H/\Ext a b/\Sim b G/\r=.ok k G/\out E b (f k G) Q):=by
 cases r with
 |ok d G=>exact λb x s=>⟨b,G,rfl,x,s,rfl,out.mono x h⟩
 |err e G=>exact h
 |bad=>exact h
theorem ZI6{f:D->DH->R Bool}{Q:Bool->Hp->Prop}(h:G9 E a (r.bind f) Q):
  out E a r (λv H=>∃(b:Wd)(d:D)(G:DH),b.H=H/\Ext a b/\Sim b G/\Rep b d v/\r=.ok d G/\G9 E b (f d G) Q):=by
 cases r with
 |ok d G=>exact λb v x s q=>⟨b,d,G,rfl,x,s,q,rfl,G9.mono x h⟩
 |err e G=>exact h
 |bad=>exact h
theorem Zm{r:R Bool}{f:Bool->DH->R Bool}{Q:Bool->Hp->Prop}(h:G9 E a (r.bind f) Q):
  G9 E a r (λk H=>∃(b:Wd)(G:DH),b.H=H/\Ext a b/\Sim b G/\r=.ok k G/\G9 E b (f k G) Q):=by
 cases r with
 |ok d G=>exact λb x s=>⟨b,G,rfl,x,s,rfl,G9.mono x h⟩
 |err e G=>exact h
 |bad=>exact h
theorem ZK9{f:D->DH->R (List D)}{Q:List V->Hp->Prop}(h:Ft E a (r.bind f) Q):
  out E a r (λv H=>∃(b:Wd)(d:D)(G:DH),b.H=H/\Ext a b/\Sim b G/\Rep b d v/\r=.ok d G/\Ft E b (f d G) Q):=by
 cases r with
 |ok d G=>exact λb v x s q=>⟨b,d,G,rfl,x,s,q,rfl,Ft.mono x h⟩
 |err e G=>exact h
 |bad=>exact h
theorem ZLh{r:R (List D)}{f:List D->DH->R (List D)}{Q:List V->Hp->Prop}(h:Ft E a (r.bind f) Q):
  Ft E a r (λvs H=>∃(b:Wd)(ds:List D)(G:DH),b.H=H/\Ext a b/\Sim b G/\Reps b ds vs/\r=.ok ds G/\Ft E b (f ds G) Q):=by
 cases r with
 |ok d G=>exact λb v x s q=>⟨b,d,G,rfl,x,s,q,rfl,Ft.mono x h⟩
 |err e G=>exact h
 |bad=>exact h
noncomputable def R.toS{α:Type}(r:R α)(f:α->DH->SR):SR:=match r with
 |.ok a G=>f a G
 |.err x G=>.err x G
 |.bad=>.bad
@[simp]theorem R.H8(a:α)(G:DH)(f:α->DH->SR):(R.ok a G).toS f=f a G:=id rfl
theorem Ri{f:D->DH->SR}(h:Dc E a (r.toS f) W):
  out E a r (λv H=>∃(b:Wd)(d:D)(G:DH),b.H=H/\Ext a b/\Sim b G/\Rep b d v/\r=.ok d G/\Dc E b (f d G) W):=by
 cases r with
 |ok d G=>exact λb v x s q=>⟨b,d,G,rfl,x,s,q,rfl,Dc.mono x h⟩
 |err e G=>exact h
 |bad=>exact h
theorem ZKJ{r:R Bool}{f:Bool->DH->SR}(h:Dc E a (r.toS f) W):
  G9 E a r (λk H=>∃(b:Wd)(G:DH),b.H=H/\Ext a b/\Sim b G/\r=.ok k G/\Dc E b (f k G) W):=by
 cases r with
 |ok d G=>exact λb x s=>⟨b,G,rfl,x,s,rfl,Dc.mono x h⟩
 |err e G=>exact h
 |bad=>exact h
section
theorem out.imp{Q':VK}(h:out E a r Q)(w:∀v H,Q v H->Q' v H):out E a r Q':=by
 cases r with
 |ok d G=>exact λb v x s q=>w _ _ (h b v x s q)
 |err e G=>exact h
 |bad=>exact h
theorem Ft.imp{r:R (List D)}{Q Q':List V->Hp->Prop}(h:Ft E a r Q)(w:∀v H,Q v H->Q' v H):Ft E a r Q':=by
 cases r with
 |ok d G=>exact λb v x s q=>w _ _ (h b v x s q)
 |err e G=>exact h
 |bad=>exact h
theorem G9.imp{r:R Bool}{Q Q':Bool->Hp->Prop}(h:G9 E a r Q)(w:∀v H,Q v H->Q' v H):G9 E a r Q':=by
 cases r with
 |ok d G=>exact λb x s=>w _ _ (h b x s)
 |err e G=>exact h
 |bad=>exact h
def Wd.push(a:Wd)(p:j9)(ho:HO):Wd:=⟨a.K,a.n+1,λk=>if k=a.n then p else a.m k,upd a.H p ho⟩
def Wd.put(a:Wd)(p:j9)(ho:HO):Wd:={a with H:=upd a.H p ho}
theorem Ext.put(h:a.H p=vQ):Ext a (a.put p ho):=
 ⟨rfl,zW _,λ_ _=>rfl,λq xs e=>by show upd a.H p ho q=_;rw[Bs (Hr e h)];exact e,λq o u e=>by show upd a.H p ho q=_;rw[Bs (Hr e h)];exact e,λ_ t=>t.mono (λq ps e=>by show upd a.H p ho q=_;rw[Bs (Hr e h)];exact e) (λq o u e=>by show upd a.H p ho q=_;rw[Bs (Hr e h)];exact e)⟩
theorem Ext.push(h:a.H p=vQ):Ext a (a.push p ho):=
 ⟨rfl,jj _,λi hi=>by show(if i=a.n then p else a.m i)=a.m i;rw[if_neg (zL hi)],λq xs e=>by show upd a.H p ho q=_;rw[Bs (Hr e h)];exact e,λq o u e=>by show upd a.H p ho q=_;rw[Bs (Hr e h)];exact e,λ_ t=>t.mono (λq ps e=>by show upd a.H p ho q=_;rw[Bs (Hr e h)];exact e) (λq o u e=>by show upd a.H p ho q=_;rw[Bs (Hr e h)];exact e)⟩
theorem ORep.mono(x:Ext a b){q:Option HO}(h:ORep a o q):ORep b o q:=by
 cases o with
 |lst ds=>obtain⟨vs,e,r⟩:=h;exact⟨vs,e,r.mono x⟩
 |dct kvs=>obtain⟨us,e,k,r⟩:=h;exact⟨us,e,k,r.mono x⟩
 |ins c fs=>obtain⟨C,dx,us,n,e,k,r⟩:=h;exact⟨C,dx,us,by rw[x.k];exact n,e,k,r.mono x⟩
 |tab C m=>obtain⟨c,P,e,t⟩:=h;exact⟨c,P,by rw[x.k];exact e,x.tab _ t⟩
 |gone=>trivial
theorem Sim.lt(s:Sim a G)(h:G[i]?=xU o):i<a.n:=by rw[<-s.len];exact(z3.mp h).1
theorem Sim.put(s:Sim a G)(h:a.H p=vQ):Sim (a.put p ho) G:=by
 refine⟨s.len,s.inj,λi o e=>?_,λi hi=>?_⟩
 ·have z:a.H (a.m i)≠vQ:=s.tr i (s.lt e);have ne:a.m i≠p:=λq=>z (by rw[q];exact h)
  show ORep _ o (upd a.H p ho (a.m i));rw[Bs ne];exact(s.obj i o e).mono (Ext.put h)
 ·have z:a.H (a.m i)≠vQ:=s.tr i hi;have ne:a.m i≠p:=λq=>z (by rw[q];exact h)
  show upd a.H p ho (a.m i)≠vQ;rw[Bs ne];exact z
theorem Sim.push(s:Sim a G)(h:a.H p=vQ)(r:ORep (a.push p ho) o (xU ho)):Sim (a.push p ho) (G++[o]):=by
 have nep:∀i,i<a.n->a.m i≠p:=λi hi q=>s.tr i hi (by rw[q];exact h)
 have old:∀i,i<a.n->(a.push p ho).m i=a.m i:=λi hi=>by show(if i=a.n then p else a.m i)=_;rw[if_neg (zL hi)]
 have new:(a.push p ho).m a.n=p:=by show(if a.n=a.n then p else a.m a.n)=_;rw[if_pos rfl]
 refine⟨by simp[s.len,Wd.push],λi j hi hj e=>?_,λi u e=>?_,λi hi=>?_⟩
 ·have hi':i<a.n+1:=hi;have hj':j<a.n+1:=hj;by_cases h1:i<a.n
  ·by_cases h2:j<a.n
   ·rw[old i h1,old j h2]at e;exact s.inj i j h1 h2 e
   ·have:j=a.n:=by lia
    subst this;rw[old i h1,new]at e;exact absurd e (nep i h1)
  ·have:i=a.n:=by lia
   subst this;by_cases h2:j<a.n
   ·rw[old j h2,new]at e;exact absurd e.symm (nep j h2)
   ·lia
 ·by_cases h1:i<a.n
  ·rw[zP (by rw[s.len];exact h1)]at e;rw[old i h1];show ORep _ u (upd a.H p ho (a.m i));rw[Bs (nep i h1)];exact(s.obj i u e).mono (Ext.push h)
  ·have hl:i<(G++[o]).length:=(z3.mp e).1;have:i=a.n:=by rw[zG,s.len]at hl;simp at hl;lia
   subst this;rw[zE (by rw[s.len];exact zW _),s.len]at e;simp at e;subst e;rw[new];show ORep _ o (upd a.H p ho p);rw[I8];exact r
 ·have hi':i<a.n+1:=hi;by_cases h1:i<a.n
  ·rw[old i h1];show upd a.H p ho (a.m i)≠vQ;rw[Bs (nep i h1)];exact s.tr i h1
  ·have:i=a.n:=by lia
   subst this;rw[new];show upd a.H p ho p≠vQ;rw[I8];simp
theorem Ext.wr(h:a.H p=xU (.lst vs)):Ext a (a.put p ho):=
 ⟨rfl,zW _,λ_ _=>rfl,λq xs e=>by
  show upd a.H p ho q=_;rw[Bs (λz=>by subst z;rw[h]at e;cases e)];exact e,λq o u e=>by
  show upd a.H p ho q=_;rw[Bs (λz=>by subst z;rw[h]at e;cases e)];exact e,λ_ t=>t.mono (λq ps e=>by show upd a.H p ho q=_;rw[Bs (λz=>by subst z;rw[h]at e;cases e)];exact e) (λq o u e=>by show upd a.H p ho q=_;rw[Bs (λz=>by subst z;rw[h]at e;cases e)];exact e)⟩
theorem Sim.wr(s:Sim a G)(hi:i<a.n){vs':List V}{ds':List D}(h:a.H (a.m i)=xU (.lst vs))(r:Reps (a.put (a.m i) (.lst vs')) ds' vs'):Sim (a.put (a.m i) (.lst vs')) (G.set i (.lst ds')):=by
 refine⟨by rw[List.length_set];exact s.len,s.inj,λj o e=>?_,λj hj=>?_⟩
 ·rw[qN]at e;show ORep _ o (upd a.H (a.m i) (.lst vs') (a.m j));by_cases hij:i=j
  ·subst hij;rw[if_pos rfl,if_pos (by rw[s.len];exact hi)]at e;cases e;rw[I8];exact⟨vs',rfl,r⟩
  ·rw[if_neg hij]at e;rw[Bs λz=>hij (s.inj _ _ (s.lt e) hi z).symm];exact(s.obj j o e).mono (Ext.wr h)
 ·show upd a.H (a.m i) (.lst vs') (a.m j)≠vQ;by_cases hij:a.m j=a.m i
  ·rw[hij,I8];simp
  ·rw[Bs hij];exact s.tr j hj
mutual
noncomputable def bel(n:Nat):D->Bool
 |.ref i=>decide (i<n)
 |.tup ds=>bels n ds
 |.fl ds=>bels n ds
 |_=>vZ
noncomputable def bels(n:Nat):List D->Bool
 |[]=>vZ
 |d::ds=>bel n d&&bels n ds
end
def M5(n:Nat):DO->Bool
 |.lst ds=>bels n ds
 |.dct kvs=>bels n (kvs.map (·.2))
 |.ins _ fs=>bels n (fs.map (·.2))
 |.tab _ _=>vZ
 |.gone=>vZ
mutual
theorem Rep.bel:∀{d:D}{v:V},Rep a d v->bel a.n d=vZ
 |.non,_,_=>by simp[_D.bel]
 |.bl _,_,_=>by simp[_D.bel]
 |.int _,_,_=>by simp[_D.bel]
 |.str _,_,_=>by simp[_D.bel]
 |.ty _,_,_=>by simp[_D.bel]
 |.tup ds,v,h=>by obtain⟨p,vs,e,q,r⟩:=h;simp only[_D.bel];exact Reps.bels r
 |.fl ds,v,h=>by obtain⟨p,vs,e,q,r⟩:=h;simp only[_D.bel];exact Reps.bels r
 |.ref i,v,h=>by obtain⟨l,e⟩:=h;simp only[_D.bel];exact decide_eq_true l
theorem Reps.bels:∀{ds:List D}{vs:List V},Reps a ds vs->bels a.n ds=vZ
 |[],_,_=>by simp[_D.bels]
 |d::ds,vs,h=>by
  obtain⟨v,r,e,h1,h2⟩:=h;simp only[_D.bels];rw[Rep.bel h1,Reps.bels h2]
  rfl
end
structure Cut (b c:Wd):Prop where
 k:c.K=b.K
 h:c.H=b.H
mutual
theorem Rep.cut(x:Cut b c){n:Nat}(hn:n<=c.n)(hm:∀i,i<n->c.m i=b.m i):∀{d:D}{v:V},Rep b d v->bel n d=vZ->Rep c d v
 |.non,_,h,_=>h
 |.bl _,_,h,_=>h
 |.int _,_,h,_=>h
 |.str _,_,h,_=>h
 |.ty _,_,h,_=>h
 |.tup ds,v,h,q=>by obtain⟨p,vs,e,t,r⟩:=h;simp only[_D.bel]at q;exact⟨p,vs,e,by rw[x.k,x.h];exact t,Reps.cut x hn hm r q⟩
 |.fl ds,v,h,q=>by obtain⟨p,vs,e,t,r⟩:=h;simp only[_D.bel]at q;exact⟨p,vs,e,by rw[x.k,x.h];exact t,Reps.cut x hn hm r q⟩
 |.ref i,v,h,q=>by obtain⟨l,e⟩:=h;simp only[_D.bel]at q;have q':=of_decide_eq_true q;exact⟨zV q' hn,by rw[hm i q'];exact e⟩
theorem Reps.cut(x:Cut b c){n:Nat}(hn:n<=c.n)(hm:∀i,i<n->c.m i=b.m i):∀{ds:List D}{vs:List V},Reps b ds vs->bels n ds=vZ->Reps c ds vs
 |[],_,h,_=>h
 |d::ds,vs,h,q=>by obtain⟨v,r,e,h1,h2⟩:=h;simp only[_D.bels,zx]at q;exact⟨v,r,e,Rep.cut x hn hm h1 q.1,Reps.cut x hn hm h2 q.2⟩
end
theorem ORep.cut(x:Cut b c){n:Nat}(hn:n<=c.n)(hm:∀i,i<n->c.m i=b.m i){q:Option HO}(h:ORep b o q)(l:M5 n o=vZ):ORep c o q:=by
 cases o with
 |lst ds=>obtain⟨vs,e,r⟩:=h;exact⟨vs,e,Reps.cut x hn hm r l⟩
 |dct kvs=>obtain⟨us,e,k,r⟩:=h;exact⟨us,e,k,Reps.cut x hn hm r l⟩
 |ins c fs=>obtain⟨C,dx,us,n,e,k,r⟩:=h;exact⟨C,dx,us,by rw[x.k];exact n,e,k,Reps.cut x hn hm r l⟩
 |tab C m=>obtain⟨c,P,e,t⟩:=h;exact⟨c,P,by rw[x.k];exact e,by rw[x.h];exact t⟩
 |gone=>trivial
theorem ORep.M5{q:Option HO}(h:ORep a o q):M5 a.n o=vZ:=by
 cases o with
 |lst ds=>obtain⟨vs,e,r⟩:=h;exact r.bels
 |dct kvs=>obtain⟨us,e,k,r⟩:=h;exact r.bels
 |ins c fs=>obtain⟨C,dx,us,n,e,k,r⟩:=h;exact r.bels
 |tab C m=>rfl
 |gone=>rfl
open Classical in
def tidy (G:DH) (r:R D):R D:=match r with
 | .ok d G'=>if G'.take G.length=G then
   (if bel G.length d=vZ then .ok d G else match d with
    |.ref i=>match G'[i]? with
     |some o=>if M5 G.length o=vZ then .ok (.ref G.length) (G++[o])else .ok d G'
     |none=>.ok d G'
    |_=>.ok d G')else .ok d G'
 |r=>r
theorem ZF9 (s:Sim a G) (h:out E a (tidy G r) Q):out E a r Q:=by
 cases r with
 |err e G'=>exact h
 |bad=>exact h
 | ok d G'=>
  intro b v x sb rb;unfold tidy at h;dsimp only at h;split at h
  ·rename_i hG;have hlen:∀i o,G[i]?=xU o->G'[i]?=xU o:=λi o e=>by have hi:i<G.length:=(z3.mp e).1;rw[<-hG,jV hi]at e;exact e
   have base:∀(c:Wd),Cut b c->a.n<=c.n->(∀i,i<a.n->c.m i=b.m i)->∀i o,G[i]?=xU o->ORep c o (c.H (c.m i)):=λc cc hn hm i o e=>by have q:=sb.obj i o (hlen i o e);rw[cc.h,hm i (s.lt e)];exact q.cut cc hn hm (s.obj i o e).M5
   split at h
   ·rename_i hb;rw[s.len]at hb;let c:Wd:=⟨b.K,a.n,b.m,b.H⟩;have cc:Cut b c:=⟨rfl,rfl⟩;refine h c v ⟨x.k,zW _,x.m,x.tup,x.frz,x.tab⟩ ⟨s.len,λi j hi hj=>sb.inj i j (zV hi x.n) (zV hj x.n),base c cc (zW _) (λ_ _=>rfl),λi hi=>sb.tr i (zV hi x.n)⟩ ?_;exact rb.cut cc (zW _) (λ_ _=>rfl) hb
   ·rename_i hb;split at h
    ·rename_i i;obtain⟨il,iv⟩:=rb;split at h
     ·rename_i o ho;split at h
      ·rename_i hbo;rw[s.len]at hbo hb h;simp only[_D.bel,decide_eq_true_eq]at hb;let c:Wd:=⟨b.K,a.n+1,λk=>if k=a.n then b.m i else b.m k,b.H⟩;have cc:Cut b c:=⟨rfl,rfl⟩;have cm:∀j,j<a.n->c.m j=b.m j:=λj hj=>by show(if j=a.n then b.m i else b.m j)=_;rw[if_neg (zL hj)]
       have cn:c.m a.n=b.m i:=by show(if a.n=a.n then b.m i else b.m a.n)=_;rw[if_pos rfl]
       have lt':∀j,j<a.n->j<b.n:=λj hj=>zV hj x.n
       refine h c v ⟨x.k,jj _,λj hj=>(cm j hj).trans (x.m j hj),x.tup,x.frz,x.tab⟩ ⟨by simp[s.len,c],λj k hj hk e=>?_,λj u e=>?_,λj hj=>?_⟩ ⟨qK _,by rw[cn];exact iv⟩
       ·have hj':j<a.n+1:=hj;have hk':k<a.n+1:=hk;by_cases h1:j<a.n
        ·by_cases h2:k<a.n
         ·rw[cm j h1,cm k h2]at e;exact sb.inj j k (lt' j h1) (lt' k h2) e
         ·have:k=a.n:=by lia
          subst this;rw[cm j h1,cn]at e;have:=sb.inj j i (lt' j h1) il e;lia
        ·have:j=a.n:=by lia
         subst this;by_cases h2:k<a.n
         ·rw[cm k h2,cn]at e;have:=sb.inj i k il (lt' k h2) e;lia
         ·lia
       ·by_cases h1:j<a.n
        ·rw[zP (by rw[s.len];exact h1)]at e;exact base c cc (jj _) cm j u e
        ·have hl:j<(G++[o]).length:=(z3.mp e).1;have:j=a.n:=by rw[zG,s.len]at hl;simp at hl;lia
         subst this;rw[zE (by rw[s.len];exact zW _),s.len]at e;simp at e;subst e;rw[cn];exact(sb.obj i o ho).cut cc (jj _) cm hbo
       ·have hj':j<a.n+1:=hj;by_cases h1:j<a.n
        ·rw[cm j h1];exact sb.tr j (lt' j h1)
        ·have:j=a.n:=by lia
         subst this;rw[cn];exact sb.tr i il
      ·exact h b v x sb ⟨il,iv⟩
     ·exact h b v x sb ⟨il,iv⟩
    ·exact h b v x sb rb
  ·exact h b v x sb rb
end
noncomputable def dV(i:Nat):DE:=λS G=>match S[i]? with
 |some (xU d)=>.ok d G
 |_=>.bad
noncomputable def dC(d:D):DE:=λ_ G=>.ok d G
def dOp(f:D->D->DH->R D)(a b:DE):DE:=λS G=>(a S G).bind λx G1=>(b S G1).bind λy G2=>f x y G2
def dUn(f:D->DH->R D)(a:DE):DE:=λS G=>(a S G).bind f
noncomputable def Af:DA:=λ_ G=>.ok [] G
def Ac(a:DE)(r:DA):DA:=λS G=>(a S G).bind λx G1=>(r S G1).bind λxs G2=>.ok (x::xs) G2
def dFn(f:List D->DH->R D)(t:DA):DE:=λS G=>(t S G).bind f
def Jf(t:DE):DE:=λS G=>tidy G (t S G)
def asB:D->DH->R Bool
 |.bl k,G=>.ok k G
 |_,_=>.bad
def Aq(t:DE):DB:=λS G=>(t S G).bind asB
def Ho(t u:DB):DB:=λS G=>(t S G).bind λk G1=>if k=vZ then u S G1 else .ok vJ G1
def dOr(t u:DB):DB:=λS G=>(t S G).bind λk G1=>if k=vZ then .ok vZ G1 else u S G1
def Cp(t:DB):DB:=λS G=>(t S G).bind λk G1=>.ok (!k) G1
def Lp(t u:DE):DE:=λS G=>(t S G).bind λx G1=>(asB x G1).bind λk G2=>if k=vZ then u S G2 else .ok (.bl vJ) G2
def Sx(t u:DE):DE:=λS G=>(t S G).bind λx G1=>(asB x G1).bind λk G2=>if k=vZ then .ok (.bl vZ) G2 else u S G2
def Uj(t:DE):DE:=λS G=>(t S G).bind λx G1=>(asB x G1).bind λk G2=>.ok (.bl (!k)) G2
def Ip(f g:D->D->DH->R D)(a b c:DE):DE:=λS G=>(a S G).bind λx G1=>(b S G1).bind λy G2=>(f x y G2).bind λz G3=>(asB z G3).bind λk G4=>
 if k=vZ then(c S G4).bind λw G5=>g y w G5 else .ok (.bl vJ) G4
noncomputable def Dy(ds:List D)(G:DH):R D:=if ds.length<=1000000 then .ok (.tup ds) G else .bad
noncomputable def Bo(ds:List D)(G:DH):R D:=if ds.length<=1000000 then .ok (.ref G.length) (G++[.lst ds])else .bad
noncomputable def Cy(d:D)(G:DH):Option (List D):=match d with
 |.tup xs=>xU xs
 |.fl xs=>xU xs
 |.ref i=>match G[i]? with
  |some (.lst xs)=>xU xs
  |_=>vQ
 |_=>vQ
theorem size6:(1000000:Nat)<=sizeLine:=by decide
section
variable{X:Cx}{E:XK}{a b c:jB}{ta tb tc:DE}{pos:Pos}
theorem two{K:PySem.W.Frag}(h:lE K E (dOp f ta tb) σ H Q):tOp (lR2 K E f) (lE K E ta) (lE K E tb) σ H Q:=by obtain⟨a,S,G,hk,rfl,s,r,h⟩:=h;refine⟨a,S,G,hk,rfl,s,r,(G6 h).imp ?_⟩;rintro v _ ⟨b,d,G1,rfl,x,s1,q,_,h1⟩;refine⟨b,S,G1,x.k.trans hk,rfl,s1,r.mono x,(G6 h1).imp ?_⟩;rintro w _ ⟨c,e,G2,rfl,y,s2,q2,_,h2⟩;exact⟨c,G2,d,e,y.k.trans (x.k.trans hk),rfl,s2,q.mono y,q2,h2⟩
theorem Ab(i:Nat){pos:Pos}(hN:X.N[i]?=xU x:=by rfl)(hv:Vis X.env.scope x:=by first|exact Or.inl rfl|exact Or.inr (Or.inl rfl)|exact Or.inr (Or.inr rfl))(hd:(x==("__debug__":Str))=vJ:=by decide)
  (hcd:(x==("__classdict__":Str))=vJ:=by decide):QE X E (.Name x pos) (dV i):=by
 refine(ZOe hN hv hd hcd).mono λσ H Q h=>?_
 obtain⟨a,S,G,hk,rfl,s,r,h⟩:=h;unfold dV at h;split at h
 ·rename_i d e;obtain⟨v,e',q⟩:=r.get i d e;exact⟨v,e',h a v (Ext.refl a) s q⟩
 ·exact h.elim
theorem Nt{K:PySem.W.Frag}(h:lE K E (dC d) σ H Q)(r:∀a:Wd,a.K=K->Rep a d v):Q v H:=by obtain⟨a,S,G,hk,rfl,s,_,h⟩:=h;exact h a v (Ext.refl a) s (r a hk)
theorem Ae{i:Int}:QE X E (.Constant (.int i) j pos) (dC (.int i)):=ZIp.mono λσ H Q h=>Nt h λ_ _=>rfl
theorem Dr{i:Bool}:QE X E (.Constant (.bool i) j pos) (dC (.bl i)):=ZID.mono λσ H Q h=>Nt h λ_ _=>rfl
theorem J9:QE X E (.Constant .none j pos) (dC .non):=ZI0.mono λσ H Q h=>Nt h λ_ _=>rfl
theorem Bc{i:Str}:QE X E (.Constant (.str i) j pos) (dC (.str i)):=ZJV.mono λσ H Q h=>Nt h λ_ _=>rfl
theorem Cd{u:jI}(hg:Gl X x)(hm:X.mg x=xU u)(r:RelV v u)(rd:∀a:Wd,a.K=X.K->Rep a d v)(hd:(x==("__debug__":Str))=vJ:=by decide):QE X E (.Name x pos) (dC d):=
 (ZL7 hg hm r hd).mono λσ H Q h=>Nt h rd
theorem Al{op:Operator}(ho:OpR X (jR op) (lR2 X.K E f))(ha:QE X E a ta)(hb:QE X E b tb):QE X E (.BinOp a op b pos) (dOp f ta tb):=
 (ZHx ho ha hb).mono λ_ _ _ h=>two h
theorem Fj(ho:OpR X (xQ op) (lR2 X.K E f))(ha:QE X E a ta)(hb:QE X E b tb)(hm:jP op b=vJ):QE X E (.Compare a [op] [b] pos) (dOp f ta tb):=
 (ZIc ho ha hb hm).mono λ_ _ _ h=>two h
theorem ZA0{K:PySem.W.Frag}{Q:Bool->Hp->Prop}(h:lB K E (Aq t) σ H Q):Rr (lE K E t) σ H Q:=by
 obtain⟨a,S,G,hk,rfl,s,r,h⟩:=h;refine⟨a,S,G,hk,rfl,s,r,(ZI6 h).imp ?_⟩;rintro v _ ⟨b,d,G1,rfl,x,s1,q,_,h1⟩;cases d with
 |bl k=>exact⟨k,q,h1 b (Ext.refl b) s1⟩
 |_=>exact h1.elim
theorem ZCr{t t':TE}(w:∀σ H Q,t' σ H Q->t σ H Q)(σ:St)(H:Hp)(Q:Bool->Hp->Prop)(h:Rr t' σ H Q):Rr t σ H Q:=w _ _ _ h
theorem Bk(ho:OpR X (xQ op) (lR2 X.K E f))(ha:QE X E a ta)(hb:QE X E b tb)(hm:jP op b=vJ):QT X E (.Compare a [op] [b] pos) (Aq (dOp f ta tb)):=
 (ZN4 ho ha hb hm).mono λσ H Q h=>ZCr (λ_ _ _ z=>two z) σ H Q (ZA0 h)
theorem chain{K:PySem.W.Frag}{g:D->D->DH->R D}(h:lE K E (Ip f g ta tb tc) σ H Q):ZBJ (lR2 K E f) (lR2 K E g) (lE K E ta) (lE K E tb) (lE K E tc) σ H Q:=by
 obtain⟨a,S,G,hk,rfl,s,r,h⟩:=h;refine⟨a,S,G,hk,rfl,s,r,(G6 h).imp ?_⟩;rintro v _ ⟨b,d,G1,rfl,x,s1,q,_,h1⟩;refine⟨b,S,G1,x.k.trans hk,rfl,s1,r.mono x,(G6 h1).imp ?_⟩;rintro w _ ⟨c,e,G2,rfl,y,s2,q2,_,h2⟩;refine⟨c,G2,d,e,y.k.trans (x.k.trans hk),rfl,s2,q.mono y,q2,(G6 h2).imp ?_⟩;rintro z _ ⟨c3,e3,G3,rfl,y3,s3,q3,_,h3⟩;cases e3 with
 | bl k=>
  refine⟨k,q3,?_⟩;cases k with
  |false=>exact h3 c3 (.bl vJ) (Ext.refl _) s3 rfl
  |true=>
   refine⟨c3,S,G3,(y3.k.trans (y.k.trans (x.k.trans hk))),rfl,s3,((r.mono x).mono y).mono y3,(G6 h3).imp ?_⟩;rintro z4 _ ⟨c4,e4,G4,rfl,y4,s4,q4,_,h4⟩;exact⟨c4,G4,e,e4,y4.k.trans (y3.k.trans (y.k.trans (x.k.trans hk))),rfl,s4,(q2.mono y3).mono y4,q4,h4⟩
 |_=>exact h3.elim
theorem ZFl{op':CmpOp}{g:D->D->DH->R D}(ho:OpR X (xQ op) (lR2 X.K E f))(ho':OpR X (xQ op') (lR2 X.K E g))(ha:QE X E a ta)(hb:QE X E b tb)(hc:QE X E c tc)
  (hm:lastMarks [op,op'] [b,c]=vJ:=by with_unfolding_all rfl):QE X E (.Compare a [op,op'] [b,c] pos) (Ip f g ta tb tc):=
 (ZHm ho ho' ha hb hc hm).mono λ_ _ _ h=>chain h
theorem Qv{op':CmpOp}{g:D->D->DH->R D}(ho:OpR X (xQ op) (lR2 X.K E f))(ho':OpR X (xQ op') (lR2 X.K E g))(ha:QE X E a ta)(hb:QE X E b tb)(hc:QE X E c tc)
  (hm:lastMarks [op,op'] [b,c]=vJ:=by with_unfolding_all rfl):QT X E (.Compare a [op,op'] [b,c] pos) (Aq (Ip f g ta tb tc)):=
 (ZKk ho ho' ha hb hc hm).mono λσ H Q h=>ZCr (λ_ _ _ z=>chain z) σ H Q (ZA0 h)
theorem Cw(ha:QE X E a ta)(he:∀whole,isTrue a X.env whole=(do let v<-whole;standAt a.pos;holding [v] (truthy v)):=by intro _;rfl):QT X E a (Aq ta):=
 (ZMj ha he).mono λσ H Q h=>ZA0 h
theorem Li(ha:QE X E a ta):QE X E a (Jf ta):=_L.PE.mono ha λσ H Q h=>by obtain⟨w,S,G,hk,rfl,s,r,h⟩:=h;exact⟨w,S,G,hk,rfl,s,r,ZF9 s h⟩
def QW(X:Cx)(E:XK)(e:jB)(t:DB):Prop:=PW X e (lB X.K E t)
theorem _root_._L.PW.mono{t t':TT}(h:PW X e t)(w:∀σ H Q,t' σ H Q->t σ H Q):PW X e t':=λwh xT s σ H Q I q=>h wh xT s σ H Q I (w σ H Q q)
variable{u t:DB}{rest:List jB}
theorem ZNz{K:PySem.W.Frag}{Q:Bool->Hp->Prop}(h:lB K E (Ho t u) σ H Q):tAnd (lB K E t) (lB K E u) σ H Q:=by
 obtain⟨a,S,G,hk,rfl,s,r,h⟩:=h;refine⟨a,S,G,hk,rfl,s,r,(Zm h).imp ?_⟩;rintro k _ ⟨b,G1,rfl,x,s1,_,h1⟩;cases k with
 |true=>exact⟨b,S,G1,x.k.trans hk,rfl,s1,r.mono x,h1⟩
 |false=>exact h1 b (Ext.refl b) s1
theorem ZMz{K:PySem.W.Frag}{Q:Bool->Hp->Prop}(h:lB K E (dOr t u) σ H Q):tOr (lB K E t) (lB K E u) σ H Q:=by
 obtain⟨a,S,G,hk,rfl,s,r,h⟩:=h;refine⟨a,S,G,hk,rfl,s,r,(Zm h).imp ?_⟩;rintro k _ ⟨b,G1,rfl,x,s1,_,h1⟩;cases k with
 |true=>exact h1 b (Ext.refl b) s1
 |false=>exact⟨b,S,G1,x.k.trans hk,rfl,s1,r.mono x,h1⟩
theorem Js(ha:QT X E a t):QW X E (.BoolOp .And [a] pos) t:=pw_and1 ha
theorem Ex(ha:QT X E a t):QW X E (.BoolOp .Or [a] pos) t:=pw_or1 ha
theorem Je(ha:QT X E a t)(hb:QW X E (.BoolOp .And (b::rest) pos) u):QW X E (.BoolOp .And (a::b::rest) pos) (Ho t u):=(pw_and ha hb).mono λ_ _ _ h=>ZNz h
theorem Ea(ha:QT X E a t)(hb:QW X E (.BoolOp .Or (b::rest) pos) u):QW X E (.BoolOp .Or (a::b::rest) pos) (dOr t u):=(pw_or ha hb).mono λ_ _ _ h=>ZMz h
theorem Dj(h:QW X E a t):QT X E a t:=_L.PW.pt h
theorem Cu(ha:QT X E a t):QT X E (.UnaryOp .Not a pos) (Cp t):=(ZHk ha).mono λσ H Q h=>by obtain⟨a,S,G,hk,rfl,s,r,h⟩:=h;refine⟨a,S,G,hk,rfl,s,r,(Zm h).imp ?_⟩;rintro k _ ⟨b,G1,rfl,x,s1,_,h1⟩;exact h1 b (Ext.refl b) s1
theorem Ks{op}(h:QE X E a ta):QE X E (.BoolOp op [a] pos) ta:=ZKI h
theorem Nu(ha:QE X E a ta)(hb:QE X E (.BoolOp .And (b::rest) pos) tb):QE X E (.BoolOp .And (a::b::rest) pos) (Lp ta tb):=(ZHe ha hb).mono λσ H Q h=>by
 obtain⟨a,S,G,hk,rfl,s,r,h⟩:=h;refine⟨a,S,G,hk,rfl,s,r,(G6 h).imp ?_⟩;rintro v _ ⟨b,d,G1,rfl,x,s1,q,_,h1⟩;cases d with
 |bl k=>
  refine⟨k,q,?_⟩;cases k with
  |true=>exact⟨b,S,G1,x.k.trans hk,rfl,s1,r.mono x,h1⟩
  |false=>exact h1 b _ (Ext.refl b) s1 rfl
 |_=>exact h1.elim
theorem ZDM(ha:QE X E a ta)(hb:QE X E (.BoolOp .Or (b::rest) pos) tb):QE X E (.BoolOp .Or (a::b::rest) pos) (Sx ta tb):=(ZKQ ha hb).mono λσ H Q h=>by
 obtain⟨a,S,G,hk,rfl,s,r,h⟩:=h;refine⟨a,S,G,hk,rfl,s,r,(G6 h).imp ?_⟩;rintro v _ ⟨b,d,G1,rfl,x,s1,q,_,h1⟩;cases d with
 |bl k=>
  refine⟨k,q,?_⟩;cases k with
  |false=>exact⟨b,S,G1,x.k.trans hk,rfl,s1,r.mono x,h1⟩
  |true=>exact h1 b _ (Ext.refl b) s1 rfl
 |_=>exact h1.elim
theorem ZDD(ha:QE X E a ta):QE X E (.UnaryOp .Not a pos) (Uj ta):=(ZKS ha).mono λσ H Q h=>by
 obtain⟨a,S,G,hk,rfl,s,r,h⟩:=h;refine⟨a,S,G,hk,rfl,s,r,(G6 h).imp ?_⟩;rintro v _ ⟨b,d,G1,rfl,x,s1,q,_,h1⟩;cases d with
 |bl k=>exact⟨k,q,h1 b _ (Ext.refl b) s1 rfl⟩
 |_=>exact h1.elim
variable{es:List jB}{tr:DA}
theorem Ag:QA X E [] Af:=ZNF.mono λσ H Q h=>by obtain⟨a,S,G,hk,rfl,s,r,h⟩:=h;exact h a [] (Ext.refl a) s rfl
noncomputable def notStar:jB->Bool
 |.Starred _ _=>vJ
 |_=>vZ
theorem Rt(a:jB)(es:List jB)(env:Env)(h:notStar a=vZ):x9 (a::es) env=(vJ,eval a env)::x9 es env:=by
 cases a<;>first
  |exact absurd h zj
  |rfl
theorem Wr(pos:Pos)(env:Env):∀es:List jB,es.all notStar=vZ->(jN pos (x9 es env)).any (·.1)=vJ
 |[],_=>rfl
 |a::es,h=>by
  rw[qR,zx]at h;rw[Rt a es env h.1];have ih:=Wr pos env es h.2;unfold jN at ih⊢;rw[zQ,List.any_cons,ih]
  rfl
theorem Ad(ha:QE X E a ta)(hr:QA X E es tr)(hs:notStar a=vZ:=by rfl):QA X E (a::es) (Ac ta tr):=(ZLx ha hr (Rt a es X.env hs)).mono λσ H Q h=>by obtain⟨a,S,G,hk,rfl,s,r,h⟩:=h;refine⟨a,S,G,hk,rfl,s,r,(ZK9 h).imp ?_⟩;rintro v _ ⟨b,d,G1,rfl,x,s1,q,_,h1⟩;refine⟨b,S,G1,x.k.trans hk,rfl,s1,r.mono x,(ZLh h1).imp ?_⟩;rintro vs _ ⟨c,ds,G2,rfl,y,s2,q2,_,h2⟩;exact h2 c _ (Ext.refl c) s2 (Reps.cons (q.mono y) q2)
theorem Ek{x1}(h:QA X E es tr):QE X E (.Tuple es x1 pos) (dFn Dy tr):=(ZLZ h).mono λσ H Q h=>by
 obtain⟨a,S,G,hk,rfl,s,r,h⟩:=h;refine⟨a,S,G,hk,rfl,s,r,(Pr h).imp ?_⟩;rintro vs _ ⟨b,ds,G1,rfl,x,s1,q,_,h1⟩;unfold Dy at h1;split at h1
 ·rename_i hl;refine⟨by rw[<-q.length];exact z0 hl size6,λp hp=>?_⟩;exact h1 (b.put p (.tup vs)) (.ref p) (Ext.put hp) (s1.put hp) ⟨p,vs,rfl,.of I8,q.mono (Ext.put hp)⟩
 ·exact h1.elim
theorem Fl(h:QA X E es tr):QE X E (.List es pos) (dFn Bo tr):=(ZMM h).mono λσ H Q h=>by
 obtain⟨a,S,G,hk,rfl,s,r,h⟩:=h;refine⟨a,S,G,hk,rfl,s,r,(Pr h).imp ?_⟩;rintro vs _ ⟨b,ds,G1,rfl,x,s1,q,_,h1⟩;unfold Bo at h1;split at h1
 ·rename_i hl;refine⟨by rw[<-q.length];exact z0 hl size6,λp hp=>?_⟩;refine h1 (b.push p (.lst vs)) (.ref p) (Ext.push hp) (s1.push hp ⟨vs,rfl,q.mono (Ext.push hp)⟩) ⟨?_,?_⟩
  ·rw[s1.len];exact qK _
  ·rw[s1.len];show V.ref p=.ref (if b.n=b.n then p else b.m b.n);rw[if_pos rfl]
 ·exact h1.elim
variable{e:jB}{x:Str}{p:Pos}
theorem ZA5{K:PySem.W.Frag}{f:List D->DH->R D}(h:lE K E (dFn f tr) σ H Q):lA K E tr σ H (λvs H1=>lRn K E f vs H1 Q):=by obtain⟨a,S,G,hk,rfl,s,r,h⟩:=h;refine⟨a,S,G,hk,rfl,s,r,(Pr h).imp ?_⟩;rintro vs _ ⟨b,ds,G1,rfl,x,s1,q,_,h1⟩;exact⟨b,G1,ds,x.k.trans hk,rfl,s1,q,h1⟩
theorem Bx{id:String}{f:List D->DH->R D}(hc:CallR X (.builtin id) (lRn X.K E f))(hg:Gl X x)(hm:X.mg x=vQ)(hv:jS x=xU (.builtin id))(ha:QA X E (e::es) tr)(hn:x≠"__name__":=by decide)(hdb:(x==("__debug__":Str))=vJ:=by decide)
  (he:notStar e=vZ:=by rfl) (hpl:es.all notStar=vZ:=by rfl):QE X E (.Call (.Name x p) (e::es) [] pos) (dFn f tr):=
 (ZKr hc hg hm hv ha hn hdb (Rt e es X.env he) (Wr pos X.env es hpl)).mono λσ H Q h=>ZA5 h
theorem Em{id:String}{f:List D->DH->R D}(hc:CallR X (.type id) (lRn X.K E f))(hg:Gl X x)(hm:X.mg x=vQ)(hv:jS x=xU (.type id))(ha:QA X E (e::es) tr)(hn:x≠"__name__":=by decide)(hdb:(x==("__debug__":Str))=vJ:=by decide)
  (he:notStar e=vZ:=by rfl) (hpl:es.all notStar=vZ:=by rfl):QE X E (.Call (.Name x p) (e::es) [] pos) (dFn f tr):=
 (ZLQ hc hg hm hv ha hn hdb (Rt e es X.env he) (Wr pos X.env es hpl)).mono λσ H Q h=>ZA5 h
theorem ZMq{CX:CXT}{f:j9}{fd:jC}{ps:List Str}{F:List D->DH->R D}(FF:FnOk X.prog X.w X.K X.mg X.base CX k f fd ps (lF X.K F))(hr:Room k X.A)(hg:Gl X x)(hm:X.mg x=xU (.ref f))(hk:PySem.W.keepIn X.K (.ref f)=vZ)(hb:Binds X.K fd ps [])
  (hx:Passes CX X E) (ha:QA X E (e::es) tr) (hdb:(x==("__debug__":Str))=vJ:=by decide) (he:notStar e=vZ:=by rfl) (hpl:es.all notStar=vZ:=by rfl):
  QE X E (.Call (.Name x p) (e::es) [] pos) (dFn F tr):=
 (ZKv FF hr hg hm hk hb .nil hx ha hdb (Rt e es X.env he) (Wr pos X.env es hpl)).mono λσ H Q h=>by obtain⟨a,S,G,hk,rfl,s,r,h⟩:=ZA5 h;refine⟨a,S,G,hk,rfl,s,r,h.imp ?_⟩;rintro vs _ ⟨b,G1,ds,hk,rfl,s1,q,h1⟩;exact⟨b,G1,ds,hk,rfl,s1,by rw[qG];exact q,h1⟩
theorem An(hr:IxR X (lR2 X.K E f))(ha:QE X E a ta)(hb:QE X E b tb)(hs:PlainIx b:=by intro _ _;rfl):QE X E (.Subscript a b pos) (dOp f ta tb):=
 (ZKF hr ha hb hs).mono λ_ _ _ h=>two h
end
noncomputable instance (i j:Int):Decidable (CMul i j):=by unfold CMul;infer_instance
noncomputable instance (i j:Int):Decidable (CPow i j):=by unfold CPow;infer_instance
def CDivL(j:Int):Prop:=0<j/\j.natAbs.log2<9000
noncomputable instance (j:Int):Decidable (CDivL j):=by unfold CDivL;infer_instance
def Lg:D->D->DH->R D
 |.int i,.int j,G=>.ok (.int (i-j)) G
 |_,_,_=>.bad
def Fy:D->D->DH->R D
 |.int i,.int j,G=>if CDivL j then .ok (.int (i/j)) G else .bad
 |_,_,_=>.bad
def By:D->D->DH->R D
 |.int i,.int j,G=>if 0<j then .ok (.int (i%j)) G else .bad
 |_,_,_=>.bad
def K4:D->D->DH->R D
 |.int i,.int j,G=>if CPow i j then .ok (.int (i^j.toNat)) G else .bad
 |_,_,_=>.bad
def Jx:D->D->DH->R D
 |.int i,.int j,G=>.ok (.bl (decide (i<j))) G
 |.str i,.str j,G=>.ok (.bl (decide (i.cps.toList<j.cps.toList))) G
 |_,_,_=>.bad
def Ge:D->D->DH->R D
 |.int i,.int j,G=>.ok (.bl (decide (i<=j))) G
 |.str i,.str j,G=>.ok (.bl (!decide (j.cps.toList<i.cps.toList))) G
 |_,_,_=>.bad
def Jv:D->D->DH->R D
 |.int i,.int j,G=>.ok (.bl (decide (j<i))) G
 |.str i,.str j,G=>.ok (.bl (decide (j.cps.toList<i.cps.toList))) G
 |_,_,_=>.bad
def ZAS:D->D->DH->R D
 |.int i,.int j,G=>.ok (.bl (decide (j<=i))) G
 |.str i,.str j,G=>.ok (.bl (!decide (i.cps.toList<j.cps.toList))) G
 |_,_,_=>.bad
noncomputable def Jm(d:D)(G:DH):Option (List D):=match d with
 |.fl xs=>xU xs
 |.ref i=>match G[i]? with
  |some (.lst xs)=>xU xs
  |_=>vQ
 |_=>vQ
def Ax:D->D->DH->R D
 |.int i,.int j,G=>.ok (.int (i+j)) G
 |.str i,.str j,G=>if i.length+j.length<=1000000 then .ok (.str (i++j)) G else .bad
 |.tup xs,.tup ys,G=>if xs≠[]/\xs.length+ys.length<=1000000 then .ok (.tup (xs++ys)) G else .bad
 |d,e,G=>match Jm d G,Jm e G with
  |some xs,xU ys=>if xs.length+ys.length<=1000000 then .ok (.ref G.length) (G++[.lst (xs++ys)])else .bad
  |_,_=>.bad
section
variable{X:Cx}{E:XK}
theorem Hc{f:jI->jI->Sem jI}{r:R2}{F:D->D->DH->R D}(ho:OpR X f r)
  (h:∀(a:Wd)(G:DH)(d e:D)(x y:V)(Q:VK),a.K=X.K->Sim a G->Rep a d x->Rep a e y->out E a (F d e G) Q->r x y a.H Q):OpR X f (lR2 X.K E F):=
 ho.mono λx y H Q ⟨a,G,d,e,hk,hH,s,rd,re,q⟩=>by subst hH;exact h a G d e x y Q hk s rd re q
theorem Px:OpR X (jR .Sub) (lR2 X.K E Lg):=Hc ZII λa G d e x y Q hk s rd re q=>by
 cases d<;>cases e<;>first
  |exact q.elim
  |exact⟨_,_,rd,re,q a _ (Ext.refl a) s rfl⟩
theorem ZHz:OpR X (jR .FloorDiv) (rI (λ_ j=>CDivL j) λi j=>.int (i/j)):=opI λi j _ _ _ _ _ hc q=>by have e:i.fdiv j=i/j:=Int.fdiv_eq_ediv_of_nonneg _ (Int.le_of_lt hc.1);refine floordiv_int (by have:=hc.1;lia) (by rw[e];exact q) (.inl (PyProof.noPylong_of_log2 hc.2))
theorem Hv:OpR X (jR .FloorDiv) (lR2 X.K E Fy):=Hc ZHz λa G d e x y Q hk s rd re q=>by
 cases d<;>cases e<;>first
  |exact q.elim
  | (
    rename_i i j;unfold Fy at q;dsimp only at q;split at q
    ·exact⟨_,_,rd,re,by assumption,q a _ (Ext.refl a) s rfl⟩
    ·exact q.elim)
theorem Cg:OpR X (jR .Mod) (lR2 X.K E By):=Hc ZOJ λa G d e x y Q hk s rd re q=>by
 cases d<;>cases e<;>first
  |exact q.elim
  | (
    rename_i i j;unfold By at q;dsimp only at q;split at q
    ·exact⟨_,_,rd,re,by assumption,q a _ (Ext.refl a) s rfl⟩
    ·exact q.elim)
theorem Oh:OpR X (jR .Pow) (lR2 X.K E K4):=Hc ZMl λa G d e x y Q hk s rd re q=>by
 cases d<;>cases e<;>first
  |exact q.elim
  | (
    rename_i i j;unfold K4 at q;dsimp only at q;split at q
    ·exact⟨_,_,rd,re,by assumption,q a _ (Ext.refl a) s rfl⟩
    ·exact q.elim)
theorem Lb:OpR X (xQ .Lt) (lR2 X.K E Jx):=Hc (ZNj.or ZOj) λa G d e x y Q hk s rd re q=>by
 cases d<;>cases e<;>first
  |exact q.elim
  |exact .inl ⟨_,_,rd,re,q a _ (Ext.refl a) s rfl⟩
  |exact .inr ⟨_,_,rd,re,q a _ (Ext.refl a) s rfl⟩
theorem ZOt:OpR X (xQ .LtE) (λx y H Q=>∃i j,x=.str i/\y=.str j/\Q (.bl (!decide (j.cps.toList<i.cps.toList))) H):=by intro xT s σ H x y v u Q I rx ry h;obtain⟨i,j,rfl,rfl,q⟩:=h;obtain⟨t,rfl⟩:=rx;obtain⟨t',rfl⟩:=ry;exact PySem.P.le_str ⟨.bl _,H,I,rfl,q⟩
theorem ZM1:OpR X (xQ .Gt) (λx y H Q=>∃i j,x=.str i/\y=.str j/\Q (.bl (decide (j.cps.toList<i.cps.toList))) H):=by intro xT s σ H x y v u Q I rx ry h;obtain⟨i,j,rfl,rfl,q⟩:=h;obtain⟨t,rfl⟩:=rx;obtain⟨t',rfl⟩:=ry;exact PySem.P.gt_str ⟨.bl _,H,I,rfl,q⟩
theorem ZI5:OpR X (xQ .GtE) (λx y H Q=>∃i j,x=.str i/\y=.str j/\Q (.bl (!decide (i.cps.toList<j.cps.toList))) H):=by intro xT s σ H x y v u Q I rx ry h;obtain⟨i,j,rfl,rfl,q⟩:=h;obtain⟨t,rfl⟩:=rx;obtain⟨t',rfl⟩:=ry;exact PySem.P.ge_str ⟨.bl _,H,I,rfl,q⟩
theorem Hw:OpR X (xQ .LtE) (lR2 X.K E Ge):=Hc (ZLO.or ZOt) λa G d e x y Q hk s rd re q=>by
 cases d<;>cases e<;>first
  |exact q.elim
  |exact .inl ⟨_,_,rd,re,q a _ (Ext.refl a) s rfl⟩
  |exact .inr ⟨_,_,rd,re,q a _ (Ext.refl a) s rfl⟩
theorem Ky:OpR X (xQ .Gt) (lR2 X.K E Jv):=Hc (ZJ0.or ZM1) λa G d e x y Q hk s rd re q=>by
 cases d<;>cases e<;>first
  |exact q.elim
  |exact .inl ⟨_,_,rd,re,q a _ (Ext.refl a) s rfl⟩
  |exact .inr ⟨_,_,rd,re,q a _ (Ext.refl a) s rfl⟩
theorem o_ge:OpR X (xQ .GtE) (lR2 X.K E ZAS):=Hc (ZJp.or ZI5) λa G d e x y Q hk s rd re q=>by
 cases d<;>cases e<;>first
  |exact q.elim
  |exact .inl ⟨_,_,rd,re,q a _ (Ext.refl a) s rfl⟩
  |exact .inr ⟨_,_,rd,re,q a _ (Ext.refl a) s rfl⟩
theorem Sim.lst(s:Sim a G)(h:G[i]?=xU (.lst xs)):∃vs,a.H (a.m i)=xU (.lst vs)/\Reps a xs vs:=s.obj i _ h
theorem Qy(s:Sim a G)(r:Reps a ds vs)(h:out E a (.ok (.ref G.length) (G++[.lst ds])) Q)(p:j9)(hp:a.H p=vQ):Q (.ref p) (upd a.H p (.lst vs)):=by
 refine h (a.push p (.lst vs)) (.ref p) (Ext.push hp) (s.push hp ⟨vs,rfl,r.mono (Ext.push hp)⟩) ⟨?_,?_⟩
 ·rw[s.len];exact qK _
 ·rw[s.len];show V.ref p=.ref (if a.n=a.n then p else a.m a.n);rw[if_pos rfl]
theorem W4(s:Sim a G)(r:Reps a ds vs)(h:out E a (.ok (.tup ds) G) Q)(p:j9)(hp:a.H p=vQ):Q (.ref p) (upd a.H p (.tup vs)):=
 h (a.put p (.tup vs)) (.ref p) (Ext.put hp) (s.put hp) ⟨p,vs,rfl,.of I8,r.mono (Ext.put hp)⟩
theorem ZAs{x:V}(s:Sim a G)(r:Rep a d x)(h:Jm d G=xU xs):∃p vs,x=.ref p/\SqL a.K a.H p vs/\Reps a xs vs:=by
 cases d with
 |fl ys=>
  have e:ys=xs:=Option.some.inj h;subst e;obtain⟨p,vs,e,q,rr⟩:=r;exact⟨p,vs,e,q.sq,rr⟩
 |ref i=>
  unfold Jm at h;dsimp only at h;split at h
  ·rename_i ys hi;have e:ys=xs:=Option.some.inj h;subst e;obtain⟨vs,e1,r1⟩:=s.lst hi;exact⟨a.m i,vs,r.2,.of e1,r1⟩
  ·cases h
 |_=>cases h
def ZE6(K:PySem.W.Frag):R2:=λx y H Q=>∃l b xs zs,x=.ref l/\y=.ref b/\SqL K H l xs/\SqL K H b zs/\xs.length+zs.length<=sizeLine/\∀p,H p=vQ->Q (.ref p) (upd H p (.lst (xs++zs)))
theorem ZJD:OpR X (jR .Add) (ZE6 X.K):=by
 intro xT s σ H x y v u Q I rx ry h;obtain⟨l,b,xs,zs,rfl,rfl,hH,hB,hz,q⟩:=h;cases rx;cases ry;obtain⟨its,r,p1,_⟩:=I.list hH;obtain⟨its2,r2,p2,_⟩:=I.list hB;obtain⟨⟨cls,dd,data,sl⟩,n,ho,hc,_,hd⟩:=p1;obtain⟨⟨cls2,dd2,data2,sl2⟩,n2,ho2,hc2,_,hd2⟩:=p2;cases hc;cases hd;cases hc2;cases hd2;have hl:=r.length;have hl2:=r2.length;refine concat_meets ⟨_,ho,rfl⟩ ⟨_,ho2,rfl⟩ noFill_list_add seq_list_add PySem.F.slot_list_add PySem.F.entry_list_add (PySem.F.args_list_add_2 _ _) (list_addW l b its.toArray its2.toArray n n2 dd dd2 sl sl2 (by rw[zq,zq];lia)) ⟨ho,ho2,?_⟩
 have ea:its.toArray++its2.toArray=(its++its2).toArray:=by simp
 rw[ea];exact⟨.ref _,_,I.lnew (t':=s.toks) (r.append r2) (by rw[zG];lia),rfl,q _ I.fresh⟩
theorem Bj:OpR X (jR .Add) (lR2 X.K E Ax):=Hc (ZL3.or (ZKp.or (ZJD.or ZOw))) λa G d e x y Q hk s rd re q=>by
 have lst:out E a (match Jm d G,Jm e G with
  |some xs,xU ys=>if xs.length+ys.length<=1000000 then .ok (.ref G.length) (G++[.lst (xs++ys)])else .bad
  |_,_=>.bad) Q->ZE6 X.K x y a.H Q:=λq=>by
  split at q
  ·rename_i xs ys h1 h2;split at q
   ·rename_i hl;obtain⟨p,vs,e1,q1,r1⟩:=ZAs s rd h1;obtain⟨p',vs',e2,q2,r2⟩:=ZAs s re h2;rw[hk]at q1 q2;exact⟨p,p',vs,vs',e1,e2,q1,q2,by rw[<-r1.length,<-r2.length];exact z0 hl size6,λp hp=>Qy s (r1.append r2) q p hp⟩
   ·exact q.elim
  ·exact q.elim
 have L:=λq=>Or.inr (a:=rI0 (λi j=>V.int (i+j)) x y a.H Q) (Or.inr (a:=∃i j,x=.str i/\y=.str j/\i.length+j.length<=sizeLine/\Q (.str (i++j)) a.H) (Or.inl (b:=ZDl X.K x y a.H Q) (lst q)))
 cases d<;>cases e<;>first
  |exact .inl ⟨_,_,rd,re,q a _ (Ext.refl a) s rfl⟩
  |exact L q
  |skip
 ·rename_i i j;unfold Ax at q;dsimp only at q;split at q
  ·rename_i hl;exact .inr (.inl ⟨_,_,rd,re,z0 hl size6,q a _ (Ext.refl a) s rfl⟩)
  ·exact q.elim
 ·rename_i xs ys;unfold Ax at q;dsimp only at q;split at q
  ·rename_i hl;obtain⟨p,vs,e1,h1,r1⟩:=rd;obtain⟨p',vs',e2,h2,r2⟩:=re;rw[hk]at h1 h2;refine .inr (.inr (.inr ⟨p,p',vs,vs',e1,e2,h1,h2,λz=>hl.1 (List.eq_nil_of_length_eq_zero (by rw[r1.length,z];rfl)),by rw[<-r1.length,<-r2.length];exact z0 hl.2 size6,λz=>?_,λ_ p0 hp=>?_⟩))
   ·refine q a (.ref p) (Ext.refl a) s ⟨p,vs,rfl,by rw[hk];exact h1,?_⟩;have e3:ys=[]:=List.eq_nil_of_length_eq_zero (by rw[r2.length,z];rfl);rw[e3,qG];exact r1
   ·exact W4 s (r1.append r2) q p0 hp
  ·exact q.elim
inductive VD where
 |flat (v:V)
 |lst (xs:List D)
 |tup (xs:List D)
 |bad
def view(G:DH):D->VD
 |.non=>.flat .non
 |.bl b=>.flat (.bl b)
 |.int i=>.flat (.int i)
 |.str x=>.flat (.str x)
 |.ty _=>.bad
 |.tup xs=>.tup xs
 |.fl xs=>.lst xs
 |.ref i=>match G[i]? with
  |some (.lst xs)=>.lst xs
  |_=>.bad
noncomputable def eqZ(f:D->D->Option Bool):List D->List D->Option Bool
 |x::xs,y::ys=>match f x y,eqZ f xs ys with
  |some a,xU b=>xU (a&&b)
  |_,_=>vQ
 |_,_=>xU vZ
def eqD:Nat->DH->D->D->Option Bool
 |0=>λ_ _ _=>vQ
 | n+1=>λG d e=>match view G d,view G e with
  |.flat a,.flat b=>xU (eqV a b)
  |.lst xs,.lst ys=>if xs.length=ys.length then eqZ (eqD n G) xs ys else xU vJ
  |.tup xs,.tup ys=>match eqZ (eqD n G) xs ys with
   |some b=>xU (b&&xs.length==ys.length)
   |none=>vQ
  |.bad,_=>vQ
  |_,.bad=>vQ
  |_,_=>xU vJ
theorem Ux{f:D->D->Option Bool}:∀{xs ys:List D}{k:Bool},eqZ f xs ys=xU k->∃e:Nat->Bool,(∀(j:Nat)(x y:D),xs[j]?=xU x->ys[j]?=xU y->f x y=xU (e j))/\k=(zv (min xs.length ys.length)).all e
 | [],ys,k,h=>⟨λ_=>vZ,λj x y e1 _=>by simp at e1,by
   have h':xU vZ=xU k:=by cases ys<;>exact h
   cases h';simp⟩
 |x::xs,[],k,h=>⟨λ_=>vZ,λj x y _ e1=>by simp at e1,by have h':xU vZ=xU k:=h;cases h';simp⟩
 | x::xs,y::ys,k,h=>by
  unfold eqZ at h;split at h
  ·rename_i a b h1 h2;obtain⟨e,he,hk⟩:=Ux h2;have h':(a&&b)=k:=Option.some.inj h
   refine⟨λj=>match j with |0=>a|j+1=>e j,λj x' y' e1 e2=>?_,?_⟩
   ·cases j with
    |zero=>simp at e1 e2;subst e1;subst e2;exact h1
    |succ j=>exact he j x' y' (by simpa using e1) (by simpa using e2)
   ·rw[<-h',hk];have:min (x::xs).length (y::ys).length=min xs.length ys.length+1:=by simp only[zD];lia
    rw[this,jY,qR,List.all_map]
    rfl
  ·cases h
theorem Vl(s:Sim a G){x:V}(r:Rep a d x):match view G d with
  |.flat v=>x=v/\Ej v=vZ
  |.lst xs=>∃p vs,x=.ref p/\SqL a.K a.H p vs/\Reps a xs vs
  |.tup xs=>∃p vs,x=.ref p/\SqT a.K a.H p vs/\Reps a xs vs
  |.bad=>True:=by
 cases d with
 |non=>exact⟨r,rfl⟩
 |bl b=>exact⟨r,rfl⟩
 |int b=>exact⟨r,rfl⟩
 |str b=>exact⟨r,rfl⟩
 |ty n=>trivial
 |tup xs=>
  obtain⟨p,vs,e,h,q⟩:=r;exact⟨p,vs,e,h,q⟩
 |fl xs=>
  obtain⟨p,vs,e,h,q⟩:=r;exact⟨p,vs,e,h.sq,q⟩
 | ref i=>
  unfold view;dsimp only;split
  ·rename_i v hv
   split at hv<;>cases hv
  ·rename_i xs hv;split at hv
   ·rename_i ys hi;cases hv;obtain⟨vs,e1,r1⟩:=s.lst hi;exact⟨a.m i,vs,r.2,.of e1,r1⟩
   ·cases hv
  ·rename_i xs hv
   split at hv<;>cases hv
  ·trivial
theorem ZHd{y x:V}{u v:jI}(ry:RelV y u)(rx:RelV x v)(fy:Ej y=vZ)(fx:Ej x=vZ):SeqAt.RcAt A s u v (eqV y x):=by
 cases y with
 |non=>
  cases ry;cases x with
  |non=>cases rx;exact SeqAt.RcAt.none_none
  |bl b=>cases rx;exact SeqAt.RcAt.none_bool b
  |int b=>obtain⟨t,rfl⟩:=rx;exact SeqAt.RcAt.none_int b t
  |str b=>obtain⟨t,rfl⟩:=rx;exact SeqAt.RcAt.none_str b t
  |_=>exact absurd (show vJ=vZ from fx) zj
 |bl a=>
  cases ry;cases x with
  |non=>cases rx;exact SeqAt.RcAt.bool_none a
  |bl b=>cases rx;exact SeqAt.RcAt.bool_bool a b
  |int b=>obtain⟨t,rfl⟩:=rx;exact SeqAt.RcAt.bool_int a b t
  |str b=>obtain⟨t,rfl⟩:=rx;exact SeqAt.RcAt.bool_str a b t
  |_=>exact absurd (show vJ=vZ from fx) zj
 |int a=>
  obtain⟨t',rfl⟩:=ry;cases x with
  |non=>cases rx;exact SeqAt.RcAt.int_none a t'
  |bl b=>cases rx;exact SeqAt.RcAt.int_bool a t' b
  |int b=>obtain⟨t,rfl⟩:=rx;exact SeqAt.RcAt.int_int a t' b t
  |str b=>obtain⟨t,rfl⟩:=rx;exact SeqAt.RcAt.int_str a t' b t
  |_=>exact absurd (show vJ=vZ from fx) zj
 |str a=>
  obtain⟨t',rfl⟩:=ry;cases x with
  |non=>cases rx;exact SeqAt.RcAt.str_none a t'
  |bl b=>cases rx;exact SeqAt.RcAt.str_bool a t' b
  |int b=>obtain⟨t,rfl⟩:=rx;exact SeqAt.RcAt.str_int a t' b t
  |str b=>obtain⟨t,rfl⟩:=rx;exact SeqAt.RcAt.str_str a t' b t
  |_=>exact absurd (show vJ=vZ from fx) zj
 |_=>exact absurd (show vJ=vZ from fy) zj
theorem ZJ6{y x:V}{u v:jI}(ry:RelV y u)(rx:RelV x v)(fy:Ej y=vZ)(fx:Ej x=vZ):SeqAt.RcNeAt A s u v (!eqV y x):=by
 cases y with
 |non=>
  cases ry;cases x with
  |non=>cases rx;exact SeqAt.RcNeAt.none_none
  |bl b=>cases rx;exact SeqAt.RcNeAt.none_bool b
  |int b=>obtain⟨t,rfl⟩:=rx;exact SeqAt.RcNeAt.none_int b t
  |str b=>obtain⟨t,rfl⟩:=rx;exact SeqAt.RcNeAt.none_str b t
  |_=>exact absurd (show vJ=vZ from fx) zj
 |bl a=>
  cases ry;cases x with
  |non=>cases rx;exact SeqAt.RcNeAt.bool_none a
  |bl b=>cases rx;exact SeqAt.RcNeAt.bool_bool a b
  |int b=>obtain⟨t,rfl⟩:=rx;exact SeqAt.RcNeAt.bool_int a b t
  |str b=>obtain⟨t,rfl⟩:=rx;exact SeqAt.RcNeAt.bool_str a b t
  |_=>exact absurd (show vJ=vZ from fx) zj
 |int a=>
  obtain⟨t',rfl⟩:=ry;cases x with
  |non=>cases rx;exact SeqAt.RcNeAt.int_none a t'
  |bl b=>cases rx;exact SeqAt.RcNeAt.int_bool a t' b
  |int b=>obtain⟨t,rfl⟩:=rx;exact SeqAt.RcNeAt.int_int a t' b t
  |str b=>obtain⟨t,rfl⟩:=rx;exact SeqAt.RcNeAt.int_str a t' b t
  |_=>exact absurd (show vJ=vZ from fx) zj
 |str a=>
  obtain⟨t',rfl⟩:=ry;cases x with
  |non=>cases rx;exact SeqAt.RcNeAt.str_none a t'
  |bl b=>cases rx;exact SeqAt.RcNeAt.str_bool a t' b
  |int b=>obtain⟨t,rfl⟩:=rx;exact SeqAt.RcNeAt.str_int a t' b t
  |str b=>obtain⟨t,rfl⟩:=rx;exact SeqAt.RcNeAt.str_str a t' b t
  |_=>exact absurd (show vJ=vZ from fx) zj
 |_=>exact absurd (show vJ=vZ from fy) zj
end
section
variable{X:Cx}{E:XK}{xT:List (j9×Obj)}{σ:St}{s:jG}
theorem ZLJ(v:V)(h:Ej v=vZ):eqV v v=vZ:=by cases v<;>first|rfl|exact absurd (show vJ=vZ from h) zj|(simp[eqV])
theorem ZFY(I:Inv X xT σ a.H s)(hk:a.K=X.K)(sm:Sim a G):∀(n:Nat){d e:D}{x:V}{k:Bool},Rep a d x->Rep a e x->eqD n G d e=xU k->k=vZ
 |0,_,_,_,_,_,_,h=>by cases h
 | n+1,d,e,x,k,rd,re,h=>by
  have vd:=Vl sm rd;have ve:=Vl sm re;have items:∀{xs ys:List D}{vs:List V}{b:Bool},Reps a xs vs->Reps a ys vs->eqZ (eqD n G) xs ys=xU b->b=vZ:=λ{xs ys vs b}r1 r2 hz=>by obtain⟨f,hf,hb⟩:=Ux hz;rw[hb,qY];intro j hj;have hj':j<min xs.length ys.length:=qz.mp hj;have h1:xs[j]?=xU (xs[j]'(by lia)):=zY (by lia);have h2:ys[j]?=xU (ys[j]'(by lia)):=zY (by lia);obtain⟨v1,e1,q1⟩:=r1.get h1;obtain⟨v2,e2,q2⟩:=r2.get h2;rw[e1]at e2;cases e2;exact ZFY I hk sm n q1 q2 (hf j _ _ h1 h2)
  unfold eqD at h
  try dsimp only at h
  revert h vd ve
  cases view G d<;>cases view G e<;>intro vd ve h<;>dsimp only at h vd ve<;>first
   |cases h
   |skip
  ·
   rename_i v w;obtain⟨rfl,f1⟩:=vd;obtain⟨rfl,f2⟩:=ve;exact ZLJ _ f1
  ·obtain⟨rfl,f1⟩:=vd;obtain⟨p,vs,e1,_⟩:=ve;subst e1;cases f1
  ·obtain⟨rfl,f1⟩:=vd;obtain⟨p,vs,e1,_⟩:=ve;subst e1;cases f1
  ·obtain⟨rfl,f1⟩:=ve;obtain⟨p,vs,e1,_⟩:=vd;subst e1;cases f1
  ·obtain⟨p,vs,e1,h1,r1⟩:=vd;obtain⟨p',vs',e2,h2,r2⟩:=ve;rw[e1]at e2;cases e2;rw[hk]at h1 h2;cases I.Za h1 h2;split at h
   ·exact items r1 r2 h
   ·rename_i hl;exact absurd (r1.length.trans r2.length.symm) hl
  ·obtain⟨p,vs,e1,h1,r1⟩:=vd;obtain⟨p',vs',e2,h2,r2⟩:=ve;rw[e1]at e2;cases e2;rw[hk]at h1 h2;obtain⟨_,_,pl,_⟩:=I.list h1;obtain⟨_,_,pt,_⟩:=I.tuple h2;exact absurd rfl (SeqAt.ne_of_list_tuple pl.isList pt)
  ·obtain⟨rfl,f1⟩:=ve;obtain⟨p,vs,e1,_⟩:=vd;subst e1;cases f1
  ·obtain⟨p,vs,e1,h1,r1⟩:=vd;obtain⟨p',vs',e2,h2,r2⟩:=ve;rw[e1]at e2;cases e2;rw[hk]at h1 h2;obtain⟨_,_,pl,_⟩:=I.list h2;obtain⟨_,_,pt,_⟩:=I.tuple h1;exact absurd rfl (SeqAt.ne_of_list_tuple pl.isList pt)
  ·obtain⟨p,vs,e1,h1,r1⟩:=vd;obtain⟨p',vs',e2,h2,r2⟩:=ve;rw[e1]at e2;cases e2;rw[hk]at h1 h2;cases I.Z8 h1 h2;split at h
   ·rename_i b hz;have h':(b&&_)=k:=Option.some.inj h;rw[<-h',items r1 r2 hz,r1.length,r2.length];simp
   ·cases h
theorem Wf{its:List jI}(r:Reps a xs vs)(q:Vals vs its)(h:j<its.toArray.size):∃d v,xs[j]?=xU d/\Rep a d v/\RelV v its.toArray[j]:=by
 have hl:j<its.length:=by simpa using h
 have h2:j<vs.length:=by rw[q.length];exact hl
 obtain⟨v,e1⟩:∃v,vs[j]?=xU v:=⟨vs[j],zY h2⟩;obtain⟨d,e2,rd⟩:=r.get' e1;obtain⟨u,e3,ru⟩:=q.get e1;have e4:u=its.toArray[j]:=by have:its[j]?=xU its[j]:=zY hl;rw[this]at e3;simpa using(Option.some.inj e3).symm
 exact⟨d,v,e2,rd,by rw[<-e4];exact ru⟩
theorem Ti(I:Inv X xT σ a.H s)(hk:a.K=X.K)(sm:Sim a G):∀(n:Nat){A:jA}{d e:D}{x y:V}{u w:jI}{k:Bool},A.units+n<cLine->Rep a d x->Rep a e y->RelV x u->RelV y w->eqD n G d e=xU k->
  SeqAt.EqAt A s u w k/\SeqAt.RcAt A s u w k/\SeqAt.RcNeAt A s u w (!k)
 |0,_,_,_,_,_,_,_,_,_,_,_,_,_,h=>by cases h
 | n + 1,A,d,e,x,y,u,w,k,hu,rd,re,ru,rw',h=>by
  have vd:=Vl sm rd;have ve:=Vl sm re;have hu1:A.units<cLine:=by lia
  have hu2:A.in1.units+n<cLine:=by show A.units+1+n<cLine;lia
  have same:∀{z:V},Rep a d z->Rep a e z->eqD (n+1) G d e=xU k->k=vZ:=λr1 r2 r3=>ZFY I hk sm (n+1) r1 r2 r3
  have h0:=h;unfold eqD at h
  try dsimp only at h
  have refs:∀{p q:j9}{k:Bool},(p=q->k=vZ)->SeqAt.RcAt A s (.ref p) (.ref q) k->SeqAt.EqAt A s (.ref p) (.ref q) k:=λ{p q k}hs hr=>by
   by_cases e:p=q
   ·rw[hs e,e];exact SeqAt.EqAt.same _
   ·exact SeqAt.EqAt.of_refs e hr
  revert h vd ve
  cases hvd:view G d<;>cases hve:view G e<;>intro vd ve h<;>dsimp only at h vd ve<;>first
   |cases h
   |skip
  ·
   obtain⟨rfl,f1⟩:=vd;obtain⟨rfl,f2⟩:=ve;exact⟨ZEi ru rw' f1 f2,ZHd ru rw' f1 f2,ZJ6 ru rw' f1 f2⟩
  ·
   obtain⟨rfl,f1⟩:=vd;obtain⟨q,vs,rfl,h2,r2⟩:=ve;cases rw';rw[hk]at h2;obtain⟨its,qv,pl,_⟩:=I.list h2;cases x with
   |non=>cases ru;exact⟨SeqAt.EqAt.none_list pl.isList hu1,SeqAt.RcAt.none_list pl.isList hu1,SeqAt.RcNeAt.none_list pl.isList hu1⟩
   |bl b=>cases ru;exact⟨SeqAt.EqAt.bool_list b pl.isList hu1,SeqAt.RcAt.bool_list b pl.isList hu1,SeqAt.RcNeAt.bool_list b pl.isList hu1⟩
   |int b=>obtain⟨t,rfl⟩:=ru;exact⟨SeqAt.EqAt.int_list b t pl.isList hu1,SeqAt.RcAt.int_list b t pl.isList hu1,SeqAt.RcNeAt.int_list b t pl.isList hu1⟩
   |str b=>obtain⟨t,rfl⟩:=ru;exact⟨SeqAt.EqAt.str_list b t pl.isList hu1,SeqAt.RcAt.str_list b t pl.isList hu1,SeqAt.RcNeAt.str_list b t pl.isList hu1⟩
   |_=>exact absurd (show vJ=vZ from f1) zj
  ·
   obtain⟨rfl,f1⟩:=vd;obtain⟨q,vs,rfl,h2,r2⟩:=ve;cases rw';rw[hk]at h2;obtain⟨its,qv,pl,_⟩:=I.tuple h2;cases x with
   |non=>cases ru;exact⟨SeqAt.EqAt.none_tuple pl hu1,SeqAt.RcAt.none_tuple pl hu1,SeqAt.RcNeAt.none_tuple pl hu1⟩
   |bl b=>cases ru;exact⟨SeqAt.EqAt.bool_tuple b pl hu1,SeqAt.RcAt.bool_tuple b pl hu1,SeqAt.RcNeAt.bool_tuple b pl hu1⟩
   |int b=>obtain⟨t,rfl⟩:=ru;exact⟨SeqAt.EqAt.int_tuple b t pl hu1,SeqAt.RcAt.int_tuple b t pl hu1,SeqAt.RcNeAt.int_tuple b t pl hu1⟩
   |str b=>obtain⟨t,rfl⟩:=ru;exact⟨SeqAt.EqAt.str_tuple b t pl hu1,SeqAt.RcAt.str_tuple b t pl hu1,SeqAt.RcNeAt.str_tuple b t pl hu1⟩
   |_=>exact absurd (show vJ=vZ from f1) zj
  ·
   obtain⟨rfl,f1⟩:=ve;obtain⟨q,vs,rfl,h2,r2⟩:=vd;cases ru;rw[hk]at h2;obtain⟨its,qv,pl,_⟩:=I.list h2;cases y with
   |non=>cases rw';exact⟨SeqAt.EqAt.list_none pl.isList hu1,SeqAt.RcAt.list_none pl.isList hu1,SeqAt.RcNeAt.list_none pl.isList hu1⟩
   |bl b=>cases rw';exact⟨SeqAt.EqAt.list_bool b pl.isList hu1,SeqAt.RcAt.list_bool b pl.isList hu1,SeqAt.RcNeAt.list_bool b pl.isList hu1⟩
   |int b=>obtain⟨t,rfl⟩:=rw';exact⟨SeqAt.EqAt.list_int b t pl.isList hu1,SeqAt.RcAt.list_int b t pl.isList hu1,SeqAt.RcNeAt.list_int b t pl.isList hu1⟩
   |str b=>obtain⟨t,rfl⟩:=rw';exact⟨SeqAt.EqAt.list_str b t pl.isList hu1,SeqAt.RcAt.list_str b t pl.isList hu1,SeqAt.RcNeAt.list_str b t pl.isList hu1⟩
   |_=>exact absurd (show vJ=vZ from f1) zj
  ·
   obtain⟨p,vs,rfl,h1,r1⟩:=vd;obtain⟨q,vs',rfl,h2,r2⟩:=ve;cases ru;cases rw';rw[hk]at h1 h2;obtain⟨its,q1,p1,_⟩:=I.list h1;obtain⟨its',q2,p2,_⟩:=I.list h2;have sz1:its.toArray.size=vs.length:=by rw[zq];exact q1.length.symm
   have sz2:its'.toArray.size=vs'.length:=by rw[zq];exact q2.length.symm
   split at h
   ·rename_i hl;obtain⟨f,hf,hb⟩:=Ux h;have hsz:its.toArray.size=its'.toArray.size:=by rw[sz1,sz2,<-r1.length,<-r2.length];exact hl
    have he:∀j(g1:j<its.toArray.size)(g2:j<its'.toArray.size),SeqAt.EqAt A.in1 s its.toArray[j] its'.toArray[j] (f j):=λj g1 g2=>by obtain⟨d1,v1,e1,rd1,rv1⟩:=Wf r1 q1 g1;obtain⟨d2,v2,e2,rd2,rv2⟩:=Wf r2 q2 g2;exact(Ti I hk sm n hu2 rd1 rd2 rv1 rv2 (hf j d1 d2 e1 e2)).1
    have hk':k=(zv its.toArray.size).all f:=by
     rw[hb]
     congr 2
     rw[sz1,<-r1.length,hl];lia
    have rc:SeqAt.RcAt A s (.ref p) (.ref q) k:=by rw[hk'];exact SeqAt.RcAt.lists p1.isList p2.isList hsz hu1 he
    refine⟨refs (λe=>?_) rc,rc,by rw[hk'];exact SeqAt.RcNeAt.lists p1.isList p2.isList hsz hu1 he⟩;subst e;exact same rd re h0
   ·rename_i hl;have h':vJ=k:=Option.some.inj h;subst h';have hsz:(its.toArray.size != its'.toArray.size)=vZ:=by rw[bne_iff_ne,sz1,sz2,<-r1.length,<-r2.length];exact hl
    refine⟨refs (λe=>?_) (SeqAt.RcAt.lists_lengths p1.isList p2.isList hsz hu1),SeqAt.RcAt.lists_lengths p1.isList p2.isList hsz hu1,SeqAt.RcNeAt.lists_lengths p1.isList p2.isList hsz hu1⟩;subst e;exact same rd re h0
  ·
   obtain⟨p,vs,rfl,h1,r1⟩:=vd;obtain⟨q,vs',rfl,h2,r2⟩:=ve;cases ru;cases rw';rw[hk]at h1 h2;obtain⟨its,q1,p1,_⟩:=I.list h1;obtain⟨its',q2,p2,_⟩:=I.tuple h2;exact⟨SeqAt.EqAt.list_tuple p1.isList p2 hu1,SeqAt.RcAt.list_tuple p1.isList p2 hu1,SeqAt.RcNeAt.list_tuple p1.isList p2 hu1⟩
  ·
   obtain⟨rfl,f1⟩:=ve;obtain⟨q,vs,rfl,h2,r2⟩:=vd;cases ru;rw[hk]at h2;obtain⟨its,qv,pl,_⟩:=I.tuple h2;cases y with
   |non=>cases rw';exact⟨SeqAt.EqAt.tuple_none pl hu1,SeqAt.RcAt.tuple_none pl hu1,SeqAt.RcNeAt.tuple_none pl hu1⟩
   |bl b=>cases rw';exact⟨SeqAt.EqAt.tuple_bool b pl hu1,SeqAt.RcAt.tuple_bool b pl hu1,SeqAt.RcNeAt.tuple_bool b pl hu1⟩
   |int b=>obtain⟨t,rfl⟩:=rw';exact⟨SeqAt.EqAt.tuple_int b t pl hu1,SeqAt.RcAt.tuple_int b t pl hu1,SeqAt.RcNeAt.tuple_int b t pl hu1⟩
   |str b=>obtain⟨t,rfl⟩:=rw';exact⟨SeqAt.EqAt.tuple_str b t pl hu1,SeqAt.RcAt.tuple_str b t pl hu1,SeqAt.RcNeAt.tuple_str b t pl hu1⟩
   |_=>exact absurd (show vJ=vZ from f1) zj
  ·
   obtain⟨p,vs,rfl,h1,r1⟩:=vd;obtain⟨q,vs',rfl,h2,r2⟩:=ve;cases ru;cases rw';rw[hk]at h1 h2;obtain⟨its,q1,p1,_⟩:=I.tuple h1;obtain⟨its',q2,p2,_⟩:=I.list h2;exact⟨SeqAt.EqAt.tuple_list p1 p2.isList hu1,SeqAt.RcAt.tuple_list p1 p2.isList hu1,SeqAt.RcNeAt.tuple_list p1 p2.isList hu1⟩
  ·
   rename_i xs ys;obtain⟨p,vs,rfl,h1,r1⟩:=vd;obtain⟨q,vs',rfl,h2,r2⟩:=ve;cases ru;cases rw';rw[hk]at h1 h2;obtain⟨its,q1,p1,_⟩:=I.tuple h1;obtain⟨its',q2,p2,_⟩:=I.tuple h2;have sz1:its.toArray.size=xs.length:=by rw[zq,r1.length];exact q1.length.symm
   have sz2:its'.toArray.size=ys.length:=by rw[zq,r2.length];exact q2.length.symm
   split at h
   ·rename_i b hz;have h':(b&&xs.length==ys.length)=k:=Option.some.inj h;obtain⟨f,hf,hb⟩:=Ux hz;have he:∀j(g1:j<its.toArray.size)(g2:j<its'.toArray.size),SeqAt.EqAt A.in1 s its.toArray[j] its'.toArray[j] (f j):=λj g1 g2=>by obtain⟨d1,v1,e1,rd1,rv1⟩:=Wf r1 q1 g1;obtain⟨d2,v2,e2,rd2,rv2⟩:=Wf r2 q2 g2;exact(Ti I hk sm n hu2 rd1 rd2 rv1 rv2 (hf j d1 d2 e1 e2)).1
    have hk':k=((zv (min its.toArray.size its'.toArray.size)).all f&&its.toArray.size==its'.toArray.size):=by rw[<-h',hb,sz1,sz2]
    have rc:SeqAt.RcAt A s (.ref p) (.ref q) k:=by rw[hk'];exact SeqAt.RcAt.tuples p1 p2 hu1 he
    refine⟨refs (λe=>?_) rc,rc,by rw[hk'];exact SeqAt.RcNeAt.tuples p1 p2 hu1 he⟩;subst e;exact same rd re h0
   ·cases h
def Bw(d e:D)(G:DH):R D:=match eqD 30 G d e with
 |some k=>.ok (.bl k) G
 |none=>.bad
def Ep(d e:D)(G:DH):R D:=match eqD 30 G d e with
 |some k=>.ok (.bl (!k)) G
 |none=>.bad
theorem Cm(hu:X.A.units+64<cLine):OpR X (xQ .Eq) (lR2 X.K E Bw):=by
 intro xT s σ H x y v u Q I rx ry ⟨a,G,d,e,hk,hH,sm,rd,re,q⟩;subst hH;unfold Bw at q;split at q
 ·rename_i k hd;exact(Ti I hk sm 30 (by lia) rd re rx ry hd).2.1 _ _ _ _ ⟨.bl k,a.H,I,rfl,q a _ (Ext.refl a) sm rfl⟩
 ·exact q.elim
theorem Ga(hu:X.A.units+64<cLine):OpR X (xQ .NotEq) (lR2 X.K E Ep):=by
 intro xT s σ H x y v u Q I rx ry ⟨a,G,d,e,hk,hH,sm,rd,re,q⟩;subst hH;unfold Ep at q;split at q
 ·rename_i k hd;exact(Ti I hk sm 30 (by lia) rd re rx ry hd).2.2 _ _ _ _ ⟨.bl (!k),a.H,I,rfl,q a _ (Ext.refl a) sm rfl⟩
 ·exact q.elim
end
noncomputable abbrev DG:=D->DSt->DH->R DSt
variable{g:DG}
def Hh(E:XK)(a:Wd)(r:R DSt)(Q:St->Hp->Prop):Prop:=match r with
 |.ok S G=>∀(b:Wd)(σ:St),Ext a b->Sim b G->RepS b S σ->Q σ b.H
 |.err x G=>XOk E a x G
 |.bad=>False
def lG(K:PySem.W.Frag)(E:XK)(t:DG):TG:=λv σ H Q=>∃(a:Wd)(S:DSt)(G:DH)(d:D),a.K=K/\a.H=H/\Sim a G/\RepS a S σ/\Rep a d v/\Hh E a (t d S G) Q
def QG(X:Cx)(E:XK)(tg:jB)(t:DG):Prop:=PG X tg (lG X.K E t)
noncomputable abbrev DGs:=List D->DSt->DH->R DSt
def lGs(K:PySem.W.Frag)(E:XK)(t:DGs):TGs:=λvs σ H Q=>∃(a:Wd)(S:DSt)(G:DH)(ds:List D),a.K=K/\a.H=H/\Sim a G/\RepS a S σ/\Reps a ds vs/\Hh E a (t ds S G) Q
def QGs(X:Cx)(E:XK)(tg:List jB)(t:DGs):Prop:=PGs X tg (lGs X.K E t)
noncomputable def gV(i:Nat):DG:=λd S G=>.ok (S.set i (xU d)) G
noncomputable def Cv:DGs:=λds S G=>match ds with
 |[]=>.ok S G
 |_=>.bad
def Ar(t:DG)(u:DGs):DGs:=λds S G=>match ds with
 |d::r=>(t d S G).bind λS1 G1=>u r S1 G1
 |[]=>.bad
noncomputable def Cq(n:Nat)(t:DGs):DG:=λd S G=>match d with
 |.tup ds=>if ds.length=n then t ds S G else .bad
 |_=>.bad
theorem Hh.imp{r:R DSt}{Q Q':St->Hp->Prop}(h:Hh E a r Q)(w:∀v H,Q v H->Q' v H):Hh E a r Q':=by
 cases r with
 |ok d G=>exact λb v x s q=>w _ _ (h b v x s q)
 |err e G=>exact h
 |bad=>exact h
theorem Hh.mono(x:Ext a b){r:R DSt}{Q:St->Hp->Prop}(h:Hh E a r Q):Hh E b r Q:=by
 cases r with
 |ok d G=>exact λc v y s q=>h c v (x.trans y) s q
 |err e G=>exact XOk.mono (E:=E) (e:=e) (G:=G) x h
 |bad=>exact h
theorem ZMo{r:R DSt}{f:DSt->DH->R DSt}{Q:St->Hp->Prop}(h:Hh E a (r.bind f) Q):
  Hh E a r (λσ H=>∃(b:Wd)(S:DSt)(G:DH),b.H=H/\Ext a b/\Sim b G/\RepS b S σ/\r=.ok S G/\Hh E b (f S G) Q):=by
 cases r with
 |ok d G=>exact λb v x s q=>⟨b,d,G,rfl,x,s,q,rfl,Hh.mono x h⟩
 |err e G=>exact h
 |bad=>exact h
theorem ZDP{r:R DSt}{f:DSt->DH->SR}(h:Dc E a (r.toS f) W):
  Hh E a r (λσ H=>∃(b:Wd)(S:DSt)(G:DH),b.H=H/\Ext a b/\Sim b G/\RepS b S σ/\r=.ok S G/\Dc E b (f S G) W):=by
 cases r with
 |ok d G=>exact λb v x s q=>⟨b,d,G,rfl,x,s,q,rfl,Dc.mono x h⟩
 |err e G=>exact h
 |bad=>exact h
section
variable{X:Cx}{E:XK}
theorem _root_._L.PG.mono{t t':TG}(h:PG X e t)(w:∀v σ H Q,t' v σ H Q->t v σ H Q):PG X e t':=λxT s σ H v u Q I r q=>h xT s σ H v u Q I r (w v σ H Q q)
theorem _root_._L.PGs.mono{e:List jB}{t t':TGs}(h:PGs X e t)(w:∀v σ H Q,t' v σ H Q->t v σ H Q):PGs X e t':=λxT s σ H v u Q I r q=>h xT s σ H v u Q I r (w v σ H Q q)
theorem Ba(i:Nat){pos:Pos}(hN:X.N.Nodup)(hi:X.N[i]?=xU x:=by rfl)(hx:Loc X.env.scope x:=by first|exact Or.inl rfl|exact Or.inr rfl)
  (hf:X.fn x=vZ∨X.env.scope.names.lookup x=xU .local:=by first|exact .inl rfl|exact .inr rfl|assumption):QG X E (.Name x pos) (gV i):=
 (ZIZ hN hi hx hf).mono λv σ H Q h=>by obtain⟨a,S,G,d,hk,rfl,s,r,q,h⟩:=h;exact h a _ (Ext.refl a) s (r.set i q)
theorem G8:QGs X E [] Cv:=ZJd.mono λvs σ H Q h=>by
 obtain⟨a,S,G,ds,hk,rfl,s,r,q,h⟩:=h;cases ds with
 |nil=>exact⟨q,h a σ (Ext.refl a) s r⟩
 |cons d ds=>exact h.elim
theorem Bt{es:List jB}{t:DG}{u:DGs}(h1:QG X E e t)(h2:QGs X E es u)
  (hs:(jM (e::es) X.env).map (·.2)=assign e X.env::(jM es X.env).map (·.2):=by rfl):QGs X E (e::es) (Ar t u):=(ZKt h1 h2 hs).mono λvs σ H Q h=>by
 obtain⟨a,S,G,ds,hk,rfl,s,r,q,h⟩:=h;cases ds with
 |nil=>exact h.elim
 |cons d ds=>
  obtain⟨v,rest,e1,q1,q2⟩:=q;refine⟨v,rest,e1,a,S,G,d,hk,rfl,s,r,q1,(ZMo h).imp ?_⟩;rintro σ' _ ⟨b,S1,G1,rfl,x,s1,r1,_,h1⟩;exact⟨b,S1,G1,ds,x.k.trans hk,rfl,s1,r1,q2.mono x,h1⟩
theorem Gp{es:List jB}{k:Nat}{t:DGs}{n:Nat}{pos:Pos}(hc:X.calm=vZ)(h:QGs X E es t)
  (hn:(jM es X.env).length=n:=by rfl) (hst:(jM es X.env).findIdx? (·.1)=vQ:=by rfl):QG X E (.Tuple es k pos) (Cq n t):=(ZMr hc h hn hst).mono λv σ H Q h=>by
 obtain⟨a,S,G,d,hk,rfl,s,r,q,h⟩:=h;cases d with
 |tup ds=>
  obtain⟨p,vs,e,h1,r1⟩:=q;unfold Cq at h;dsimp only at h;split at h
  ·rename_i hl;exact⟨p,vs,e,by rw[<-hk];exact h1,by rw[<-r1.length];exact hl,a,S,G,ds,hk,rfl,s,r,r1,h⟩
  ·exact h.elim
 |_=>exact h.elim
theorem ZHb{vs':List V}{ds':List D}(s:Sim a G)(hi:i<a.n)(h:a.H (a.m i)=xU (.lst vs))(r:Reps a ds' vs'):
  Ext a (a.put (a.m i) (.lst vs'))/\Sim (a.put (a.m i) (.lst vs')) (G.set i (.lst ds')):=⟨Ext.wr h,s.wr hi h (r.mono (Ext.wr h))⟩
variable{st:jH}{rest:List jH}{t u:DS}{e:jB}{te:DE}{pos:Pos}
noncomputable def sNx:DS:=λS G=>.nx S G
noncomputable def Ah(t u:DS):DS:=λS G=>match t S G with
 |.nx S1 G1=>u S1 G1
 |r=>r
def sEx(te:DE):DS:=λS G=>(te S G).toS λ_ G1=>.nx S G1
def sRt(te:DE):DS:=λS G=>(te S G).toS λd G1=>.rt d G1
def sIf(c:DB)(t u:DS):DS:=λS G=>(c S G).toS λk G1=>if k=vZ then t S G1 else u S G1
def sAs(te:DE)(g:DG):DS:=λS G=>(te S G).toS λd G1=>(g d S G1).toS λS2 G2=>.nx S2 G2
theorem Bf:QSs X E [] sNx:=ZJh.mono λW σ H h=>by obtain⟨a,S,G,hk,rfl,s,r,h⟩:=h;exact h a σ (Ext.refl a) s r
theorem Dc.nxOf{t:DS}{K:PySem.W.Frag}(hk:a.K=K)(h:Dc E a (Ah t u S G) W):Dc E a (t S G) {W with nx:=lS K E u W}:=by
 unfold Ah at h
 revert h
 cases t S G<;>intro h
 ·exact λb σ x s r=>⟨b,_,_,x.k.trans hk,rfl,s,r,Dc.mono x h⟩
 all_goals exact h
theorem Ak(h1:QS X E st t)(h2:QSs X E rest u):QSs X E (st::rest) (Ah t u):=(ZN9 h1 h2).mono λW σ H h=>by obtain⟨a,S,G,hk,rfl,s,r,h⟩:=h;exact⟨a,S,G,hk,rfl,s,r,h.nxOf hk⟩
theorem Ao(h1:QS X E st t):QSs X E [st] t:=ZNe h1
theorem Io(he:QE X E e te)(hs:swapsWith e vQ pos.line X.env=pure vJ:=by rfl):QS X E (.Expr e pos) (sEx te):=(ZIr he hs).mono λW σ H h=>by obtain⟨a,S,G,hk,rfl,s,r,h⟩:=h;refine⟨a,S,G,hk,rfl,s,r,(Ri h).imp ?_⟩;rintro v _ ⟨b,d,G1,rfl,x,s1,q,_,h1⟩;exact h1 b σ (Ext.refl b) s1 (r.mono x)
theorem Av(he:QE X E e te):QS X E (.Return (xU e) pos) (sRt te):=(ZMF he).mono λW σ H h=>by obtain⟨a,S,G,hk,rfl,s,r,h⟩:=h;refine⟨a,S,G,hk,rfl,s,r,(Ri h).imp ?_⟩;rintro v _ ⟨b,d,G1,rfl,x,s1,q,_,h1⟩;exact h1 b v (Ext.refl b) s1 q
theorem Bg{c:jB}{tc:DB}{a b:List jH}(hc:QT X E c tc)(ha:QSs X E a t)(hb:QSs X E b u):QS X E (.If c a b pos) (sIf tc t u):=(ZHl hc ha hb).mono λW σ H h=>by
 obtain⟨a,S,G,hk,rfl,s,r,h⟩:=h;refine⟨a,S,G,hk,rfl,s,r,(ZKJ h).imp ?_⟩;rintro k _ ⟨b,G1,rfl,x,s1,_,h1⟩;cases k with
 |true=>exact⟨b,S,G1,x.k.trans hk,rfl,s1,r.mono x,h1⟩
 |false=>exact⟨b,S,G1,x.k.trans hk,rfl,s1,r.mono x,h1⟩
theorem ZKT{K:PySem.W.Frag}(h:lS K E (sAs te g) W σ H):ZBs (lE K E te) (lG K E g) W σ H:=by obtain⟨a,S,G,hk,rfl,s,r,h⟩:=h;refine⟨a,S,G,hk,rfl,s,r,(Ri h).imp ?_⟩;rintro v _ ⟨b,d,G1,rfl,x,s1,q,_,h1⟩;refine⟨b,S,G1,d,x.k.trans hk,rfl,s1,r.mono x,q,(ZDP h1).imp ?_⟩;rintro σ' _ ⟨c,S2,G2,rfl,y,s2,r2,_,h2⟩;exact h2 c σ' (Ext.refl c) s2 r2
theorem Ov(he:QE X E e te)(hg:QG X E tg g)(hs:swapsWithSole [tg] e pos.line X.env=pure vJ:=by rfl)(hw:swappedStores [tg] e X.env=pure vQ:=by rfl)
  (h1:(jM [tg] X.env).map (·.2)=[assign tg X.env]:=by rfl):QS X E (.Assign [tg] e pos) (sAs te g):=(ZN6 he hg hs hw h1).mono λ_ _ _ h=>ZKT h
theorem Bb(i:Nat){pos':Pos}(hN:X.N.Nodup)(he:QE X E e te)(hi:X.N[i]?=xU x:=by rfl)(hx:Loc X.env.scope x:=by first|exact Or.inl rfl|exact Or.inr rfl)(hs:swapsWith e (xU (.Name x pos')) pos.line X.env=pure vJ:=by rfl)
  (hf:X.fn x=vZ∨X.env.scope.names.lookup x=xU .local:=by first|exact .inl rfl|exact .inr rfl|assumption):QS X E (.Assign [.Name x pos'] e pos) (sAs te (gV i)):=
 (ZNm hN hi hx he hs hf).mono λW σ H h=>by obtain⟨a,S,G,hk,rfl,s,r,h⟩:=h;refine⟨a,S,G,hk,rfl,s,r,(Ri h).imp ?_⟩;rintro v _ ⟨b,d,G1,rfl,x,s1,q,_,h1⟩;exact h1 b _ (Ext.refl b) s1 ((r.mono x).set i q)
end
noncomputable def aft(r:SR)(k:DSt->DH->SR):SR:=match r with
 |.nx S G=>k S G
 |.ct S G=>k S G
 |.bk S G=>.nx S G
 |r=>r
def Dl(g:DG)(b:DS):List D->DS
 |[],S,G=>.nx S G
 |x::xs,S,G=>(g x S G).toS λS1 G1=>aft (b S1 G1) (Dl g b xs)
def forM(i:Nat)(g:DG)(b:DS):Nat->Nat->DS
 |0,j,S,G=>match G[i]? with
  |some (.lst xs)=>if xs.length<=j then .nx S G else .bad
  |_=>.bad
 | k+1,j,S,G=>match G[i]? with
  |some (.lst xs)=>match xs[j]? with
   |some x=>(g x S G).toS λS1 G1=>aft (b S1 G1) (forM i g b k (j+1))
   |none=>.nx S G
  |_=>.bad
def Hq(f:Nat->DH->Option (Option D))(g:DG)(b:DS):Nat->Nat->DS
 |0,j,S,G=>match f j G with
  |some vQ=>.nx S G
  |_=>.bad
 |k+1,j,S,G=>match f j G with
  |some (xU x)=>(g x S G).toS λS1 G1=>aft (b S1 G1) (Hq f g b k (j+1))
  |some vQ=>.nx S G
  |none=>.bad
inductive ItD where
 |pure (xs:List D)
 |mt (i:Nat)
 |fn (n:Nat) (f:Nat->DH->Option (Option D))
noncomputable abbrev DI:=DSt->DH->R ItD
def Fg(it:DI)(g:DG)(b:DS):DS:=λS G=>(it S G).toS λJ G1=>match J with
 |.pure xs=>Dl g b xs S G1
 |.mt i=>match G1[i]? with
  |some (.lst xs)=>forM i g b xs.length 0 S G1
  |_=>.bad
 |.fn n f=>Hq f g b n 0 S G1
def RepI(a:Wd):ItD->It->Prop
 |.pure xs,J=>∃vs:List V,Reps a xs vs/\∀b:Wd,Ext a b->∀i,(∀v,vs[i]?=xU v->J.go i b.H/\∀x H',J.yld i b.H x H'->x=v/\H'=b.H)/\(vs.length<=i->J.stop i b.H)
 |.mt k,J=>k<a.n/\∀b:Wd,Ext a b->∀vs,b.H (b.m k)=xU (.lst vs)->∀i,(∀v,vs[i]?=xU v->J.go i b.H/\∀x H',J.yld i b.H x H'->x=v/\H'=b.H)/\(vs.length<=i->J.stop i b.H)
 |.fn _ f,J=>∀b:Wd,Ext a b->∀G,Sim b G->∀i,(∀d,f i G=xU (xU d)->J.go i b.H/\∀x H',J.yld i b.H x H'->∃c:Wd,c.H=H'/\Ext b c/\Sim c G/\Rep c d x)/\(f i G=xU vQ->J.stop i b.H)
def outI(E:XK)(a:Wd)(r:R ItD)(Q:It->Hp->Prop):Prop:=match r with
 |.ok J G=>∀(b:Wd)(JJ:It),Ext a b->Sim b G->RepI b J JJ->Q JJ b.H
 |.err x G=>XOk E a x G
 |.bad=>False
def lI(K:PySem.W.Frag)(E:XK)(t:DI):TI:=λσ H Q=>∃(a:Wd)(S:DSt)(G:DH),a.K=K/\a.H=H/\Sim a G/\RepS a S σ/\outI E a (t S G) Q
def QI(X:Cx)(E:XK)(tg iter:jB)(t:DI):Prop:=PI X tg iter (lI X.K E t)
theorem outI.imp{r:R ItD}{Q Q':It->Hp->Prop}(h:outI E a r Q)(w:∀v H,Q v H->Q' v H):outI E a r Q':=by
 cases r with
 |ok d G=>exact λb v x s q=>w _ _ (h b v x s q)
 |err e G=>exact h
 |bad=>exact h
theorem ZKb{r:R ItD}{f:ItD->DH->SR}(h:Dc E a (r.toS f) W):
  outI E a r (λJ H=>∃(b:Wd)(d:ItD)(G:DH),b.H=H/\Ext a b/\Sim b G/\RepI b d J/\r=.ok d G/\Dc E b (f d G) W):=by
 cases r with
 |ok d G=>exact λb v x s q=>⟨b,d,G,rfl,x,s,q,rfl,Dc.mono x h⟩
 |err e G=>exact h
 |bad=>exact h
theorem ZHi {r:SR} {k:DSt->DH->SR} (h:Dc E a (aft r k) W):
  Dc E a r {W with
            nx:=λσ H=>∃(b:Wd)(S:DSt)(G:DH),b.H=H/\Ext a b/\Sim b G/\RepS b S σ/\Dc E b (k S G) W,
            ct:=λσ H=>∃(b:Wd)(S:DSt)(G:DH),b.H=H/\Ext a b/\Sim b G/\RepS b S σ/\Dc E b (k S G) W,bk:=W.nx}:=by
 cases r with
 |nx S G=>exact λb σ x s q=>⟨b,S,G,rfl,x,s,q,Dc.mono x h⟩
 |ct S G=>exact λb σ x s q=>⟨b,S,G,rfl,x,s,q,Dc.mono x h⟩
 |bk S G=>exact h
 |rt d G=>exact h
 |err x G=>exact h
 |bad=>exact h
noncomputable def mtF(i j:Nat)(G:DH):Option (Option D):=match G[i]? with
 |some (.lst xs)=>xU xs[j]?
 |_=>vQ
theorem ZHW{J:It}{n:Nat}(r:RepI a (.pure xs) J):RepI a (.fn n λj _=>xU xs[j]?) J:=by
 obtain⟨vs,rv,h⟩:=r;refine λb x G sm i=>⟨λd e=>?_,λe=>?_⟩
 ·obtain⟨v,ev,q⟩:=rv.get (Option.some.inj e);obtain⟨h1,h2⟩:=(h b x i).1 v ev;refine⟨h1,λy H' hy=>?_⟩;obtain⟨rfl,rfl⟩:=h2 y H' hy;exact⟨b,rfl,Ext.refl b,sm,q.mono x⟩
 ·exact(h b x i).2 (by rw[<-rv.length];exact qS.mp (Option.some.inj e))
theorem ZFS{J:It}{n:Nat}(r:RepI a (.mt k) J):RepI a (.fn n (mtF k)) J:=by
 obtain⟨hk,h⟩:=r;refine λb x G sm i=>?_
 unfold mtF;cases hG:G[k]? with
 |none=>exact⟨λd e=>(by cases e),λe=>(by cases e)⟩
 | some o=>
  cases o with
  |lst xs=>
   obtain⟨vs,e1,rv⟩:=sm.lst hG;refine⟨λd e=>?_,λe=>?_⟩
   ·obtain⟨v,ev,q⟩:=rv.get (Option.some.inj e);obtain⟨h1,h2⟩:=(h b x vs e1 i).1 v ev;refine⟨h1,λy H' hy=>?_⟩;obtain⟨rfl,rfl⟩:=h2 y H' hy;exact⟨b,rfl,Ext.refl b,sm,q⟩
   ·exact(h b x vs e1 i).2 (by rw[<-rv.length];exact qS.mp (Option.some.inj e))
  |_=>exact⟨λd e=>(by cases e),λe=>(by cases e)⟩
theorem ZFp{b:DS}:∀(n j:Nat),j+n=xs.length->Dl g b (xs.drop j)=Hq (λj _=>xU xs[j]?) g b n j
 |0,j,h=>by
  funext S G;rw[qx (by lia)]
  show SR.nx S G=(match xU xs[j]? with |some vQ=>SR.nx S G|_=>.bad)
  rw[zU (by lia)]
 |n+1,j,h=>by
  funext S G;have hj:j<xs.length:=by lia
  rw[zI hj]
  show(g xs[j] S G).toS (λS1 G1=>aft (b S1 G1) (Dl g b (xs.drop (j+1))))=(match xU xs[j]? with |some (xU x)=>(g x S G).toS (λS1 G1=>aft (b S1 G1) (Hq (λj _=>xU xs[j]?) g b n (j+1)))|some vQ=>SR.nx S G|none=>.bad)
  rw[zY hj,ZFp n (j+1) (by lia)]
theorem ZC3{b:DS}:∀(n j:Nat),forM i g b n j=Hq (mtF i) g b n j
 | 0,j=>by
  funext S G;unfold forM Hq mtF;cases G[i]? with
  |none=>rfl
  | some o=>
   cases o with
   |lst xs=>
    dsimp only;by_cases hj:j<xs.length
    ·rw[if_neg (by lia),zY hj]
    ·rw[if_pos (by lia),zU (by lia)]
   |_=>rfl
 | n+1,j=>by
  funext S G;unfold forM Hq;rw[ZC3 n (j+1)];unfold mtF;cases G[i]? with
  |none=>rfl
  | some o=>
   cases o with
   |lst xs=>
    dsimp only
    cases xs[j]?<;>rfl
   |_=>rfl
section
variable{X:Cx}{E:XK}{tg iter:jB}{pos:Pos}
theorem ZK1{K:PySem.W.Frag}{it:DI}{b:DS}(h:lS K E (Fg it g b) W σ H):tFor (lI K E it) (lG K E g) (lS K E b) W σ H:=by
 obtain⟨a,S,G,hk,rfl,s,r,h⟩:=h;refine⟨a,S,G,hk,rfl,s,r,(ZKb h).imp ?_⟩;rintro J _ ⟨a1,d,G1,rfl,x1,s1,q1,_,h1⟩;have k1:a1.K=K:=x1.k.trans hk
 suffices fnc:∃n f,RepI a1 (.fn n f) J/\Dc E a1 (Hq f g b n 0 S G1) W by
  obtain⟨n,f,q1,h1⟩:=fnc;have walk:∀b:Wd,Ext a1 b->∀G,Sim b G->∀i,(∀d,f i G=xU (xU d)->J.go i b.H/\∀x H',J.yld i b.H x H'->∃c:Wd,c.H=H'/\Ext b c/\Sim c G/\Rep c d x)/\(f i G=xU vQ->J.stop i b.H):=q1;refine⟨λi m σ H=>∃(c:Wd)(S:DSt)(G:DH),c.H=H/\Ext a1 c/\Sim c G/\RepS c S σ/\Dc E c (Hq f g b m i S G) W,⟨_,a1,S,G1,rfl,Ext.refl _,s1,r.mono x1,h1⟩,?_⟩;rintro i m σ2 _ ⟨c,S2,G2,rfl,x2,s2,r2,h2⟩
  cases m with
  |zero=>
   unfold Hq at h2;split at h2
   ·rename_i hf;exact .inl ⟨(walk c x2 G2 s2 i).2 hf,h2 c σ2 (Ext.refl c) s2 r2⟩
   ·exact h2.elim
  | succ m=>
   unfold Hq at h2;split at h2
   ·rename_i d hf;obtain⟨go,yl⟩:=(walk c x2 G2 s2 i).1 d hf;refine .inr ⟨go,λσ' H'=>∃(c:Wd)(S:DSt)(G:DH),c.H=H'/\Ext a1 c/\Sim c G/\RepS c S σ'/\Dc E c (Hq f g b m (i+1) S G) W,λσ' H' z=>⟨m,qK _,z⟩,λw H' y=>?_⟩;obtain⟨cc,rfl,xx,ss,rd⟩:=yl w H' y;refine⟨cc,S2,G2,d,xx.k.trans (x2.k.trans k1),rfl,ss,r2.mono xx,rd,(ZDP (Dc.mono xx h2)).imp ?_⟩;rintro σ3 _ ⟨c3,S3,G3,rfl,x3,s3,r3,_,h3⟩
    have fin:=ZHi h3;refine⟨c3,S3,G3,x3.k.trans (xx.k.trans (x2.k.trans k1)),rfl,s3,r3,?_⟩
    revert fin
    cases b S3 G3 with
    | nx S4 G4=>
      intro fin c4 σ4 x4 s4 q4;obtain⟨c5,S5,G5,hh,x5,s5,r5,h5⟩:=fin c4 σ4 x4 s4 q4;exact⟨c5,S5,G5,hh,x2.trans (xx.trans (x3.trans x5)),s5,r5,h5⟩
    | ct S4 G4=>
      intro fin c4 σ4 x4 s4 q4;obtain⟨c5,S5,G5,hh,x5,s5,r5,h5⟩:=fin c4 σ4 x4 s4 q4;exact⟨c5,S5,G5,hh,x2.trans (xx.trans (x3.trans x5)),s5,r5,h5⟩
    |bk S4 G4=>exact λfin=>fin
    |rt S4 G4=>exact λfin=>fin
    |err S4 G4=>exact λfin=>fin
    |bad=>exact λfin=>fin
   ·rename_i hf;exact .inl ⟨(walk c x2 G2 s2 i).2 hf,h2 c σ2 (Ext.refl c) s2 r2⟩
   ·exact h2.elim
 cases d with
 |pure xs=>
  have h1':Dc E a1 (Dl g b (xs.drop 0) S G1) W:=h1;rw[ZFp xs.length 0 (by lia)]at h1';exact⟨_,_,ZHW q1,h1'⟩
 |mt k=>
  dsimp only at h1;split at h1
  ·rw[ZC3]at h1;exact⟨_,_,ZFS q1,h1⟩
  ·exact h1.elim
 |fn n f=>exact⟨n,f,q1,h1⟩
theorem Gq{body:List jH}{it:DI}{b:DS}(hp:PassesOwn (xw X.prog X.w) X.A X.env X.xe)(hc:X.calm=vZ)(hi:QI X E tg iter it)(hg:QG X E tg g)(hb:QSs X E body b)
  (hs:∀x,foldedSetIterable iter X.env x=pure x:=by intro _;rfl):QS X E (.For tg iter body [] pos) (Fg it g b):=(ZIb hp hc hi hg hb hs).mono λ_ _ _ h=>ZK1 h
theorem _root_._L.PI.mono{t t':TI}(h:PI X tg iter t)(w:∀σ H Q,t' σ H Q->t σ H Q):PI X tg iter t':=λxT s σ H Q I q=>h xT s σ H Q I (w σ H Q q)
noncomputable def sgn(c:Nat):D:=.str ⟨#[c]⟩
def signs(x:Str):List D:=x.cps.toList.map sgn
noncomputable def Its(x:Str):It:=⟨λi _=>i<x.cps.size,λi H v H'=>H'=H/\∃c,x.cps[i]?=xU c/\v=.str ⟨#[c]⟩,λi _=>x.cps.size<=i⟩
theorem ZNQ{K:PySem.W.Frag}(it:j9)(x:Str)(t:Tok):Turn P w K tg (Its x) [it] it (λi h=>h.IsStrIter it "str_ascii_iterator" x t i) where
 mem:=by simp
 obj:=λi h st b hb=>by
  have e:b=it:=by simpa using hb
  subst e;obtain⟨o,e,c,d⟩:=st;exact⟨o,e,λv z=>by rw[d]at z;cases z⟩
 keep:=λi h h' st k=>let⟨o,ho,r⟩:=st;⟨o,k it (by simp) o ho,r⟩
 item:=by
  intro X hP hw hK hc i xT s σ H E I hf st hg;subst hP hw hK;obtain⟨f0,f1,f2,f3,f4,f5⟩:=hf it (by simp);have hi:i<x.cps.size:=hg;refine wpAny_pyNext_ascii_item st (c:=x.cps[i]) (by simp[hi]) λh' st' sb=>?_
  have I1:Inv X xT σ H {s with heap:=h',toks:=s.toks+1}:=I.turned (λb o hb e=>(sb.2 b hb).trans e) f0 f1 f3 f4 f5;obtain⟨o,e,c,d⟩:=id st';exact⟨_,rfl,Qs (s:={s with heap:=h',toks:=s.toks+1}) e c d (by decide) ⟨.str ⟨#[x.cps[i]]⟩,H,I1,⟨_,rfl⟩,⟨rfl,_,by simp[hi],rfl⟩,st',λb hb=>(hf b hb).1⟩⟩
 done:=by intro X hP hw hK hc i xT s σ H E I hf st hg;subst hP hw hK;obtain⟨f0,f1,f2,f3,f4,f5⟩:=hf it (by simp);have hi:x.cps.size<=i:=hg;exact wpAny_pyNext_ascii_end (I.ok.hd hc) st (by simp[hi]) λh' eb=>⟨rfl,I.turned (t':=s.toks) (λb o hb e=>eb b o hb e) f0 f1 f3 f4 f5⟩
 self:=λ_ _ _ _ _ st h=>wpAny_pyIter_striter_ascii st h
theorem ZJW{K:PySem.W.Frag}(it:j9)(x:Str)(t:Tok):Turn P w K tg (Its x) [it] it (λi h=>h.IsStrIter it "str_iterator" x t i) where
 mem:=by simp
 obj:=λi h st b hb=>by
  have e:b=it:=by simpa using hb
  subst e;obtain⟨o,e,c,d⟩:=st;exact⟨o,e,λv z=>by rw[d]at z;cases z⟩
 keep:=λi h h' st k=>let⟨o,ho,r⟩:=st;⟨o,k it (by simp) o ho,r⟩
 item:=by
  intro X hP hw hK hc i xT s σ H E I hf st hg;subst hP hw hK;obtain⟨f0,f1,f2,f3,f4,f5⟩:=hf it (by simp);have hi:i<x.cps.size:=hg;refine wpAny_pyNext_wide_item st (c:=x.cps[i]) (by simp[hi]) λh' st' sb=>?_
  have I1:Inv X xT σ H {s with heap:=h',toks:=s.toks+1}:=I.turned (λb o hb e=>(sb.2 b hb).trans e) f0 f1 f3 f4 f5;obtain⟨o,e,c,d⟩:=id st';exact⟨_,rfl,Qs (s:={s with heap:=h',toks:=s.toks+1}) e c d (by decide) ⟨.str ⟨#[x.cps[i]]⟩,H,I1,⟨_,rfl⟩,⟨rfl,_,by simp[hi],rfl⟩,st',λb hb=>(hf b hb).1⟩⟩
 done:=by intro X hP hw hK hc i xT s σ H E I hf st hg;subst hP hw hK;obtain⟨f0,f1,f2,f3,f4,f5⟩:=hf it (by simp);have hi:x.cps.size<=i:=hg;exact wpAny_pyNext_wide_end (I.ok.hd hc) st (by simp[hi]) λh' eb=>⟨rfl,I.turned (t':=s.toks) (λb o hb e=>eb b o hb e) f0 f1 f3 f4 f5⟩
 self:=λ_ _ _ _ _ st h=>wpAny_pyIter_striter_wide st h
def iStr(tl:TE):TI:=λσ H R=>tl σ H λx H1=>∃z,x=.str z/\R (Its z) H1
theorem ZLf{l:jB}{tl:TE}(hl:PE X l tl):PI X tg l (iStr tl):=by
 intro xT s σ H R I h;refine thn (hl xT s σ H _ I h) λv s1 ⟨x,H1,I1,r1,q1⟩=>?_
 obtain⟨z,e,q⟩:=q1;subst e;obtain⟨t,rfl⟩:=r1;have fp:∀b∈[s1.heap.objs.size],FpOk X xT H1 b:=λb hb=>by
  have e:b=s1.heap.objs.size:=by simpa using hb
  subst e;exact I1.Nq (zW _) (I1.hok.fresh (zW _))
 cases ha:z.cps.all (· < 128)
 ·refine wpAny_pyIter_wide ha ?_;exact⟨s1.heap.objs.size,[s1.heap.objs.size],_,_,H1,rfl,I1.kept (t':=s1.toks) λb o e=>zX _ e,ZJW _ z t,⟨_,zk _ rfl,rfl,rfl⟩,fp,q⟩
 ·refine wpAny_pyIter_ascii ha ?_;exact⟨s1.heap.objs.size,[s1.heap.objs.size],_,_,H1,rfl,I1.kept (t':=s1.toks) λb o e=>zX _ e,ZNQ _ z t,⟨_,zk _ rfl,rfl,rfl⟩,fp,q⟩
theorem Reps.signs(x:Str):Reps a (signs x) (x.cps.toList.map λc=>V.str ⟨#[c]⟩):=by
 unfold _D.signs
 induction x.cps.toList with
 |nil=>exact rfl
 |cons c r ih=>exact⟨_,_,rfl,rfl,ih⟩
def Hg:D->DH->R ItD
 |.tup xs,G=>.ok (.pure xs) G
 |.str x,G=>.ok (.pure (signs x)) G
 |.fl xs,G=>.ok (.pure xs) G
 |.ref i,G=>match G[i]? with
  |some (.lst _)=>.ok (.mt i) G
  |_=>.bad
 |_,_=>.bad
def Cz(te:DE):DI:=λS G=>(te S G).bind Hg
theorem Df(he:QE X E iter te):QI X E tg iter (Cz te):=by
 intro xT s σ H R I h;obtain⟨a,S,G,hk,rfl,sm,r,h⟩:=h;cases ht:te S G with
 |bad=>
  have h':outI E a ((te S G).bind Hg) R:=h;rw[ht]at h';exact h'.elim
 |err e G1=>
  have h':outI E a ((te S G).bind Hg) R:=h;rw[ht]at h';refine ZBH (tg:=tg) he xT s σ a.H R I ⟨a,S,G,hk,rfl,sm,r,?_⟩;rw[ht];exact h'
 | ok d G1=>
  have h':outI E a ((te S G).bind Hg) R:=h;rw[ht]at h';cases d with
  |tup xs=>
   refine ZJb (tg:=tg) he xT s σ a.H R I ⟨a,S,G,hk,rfl,sm,r,?_⟩;rw[ht];rintro b v x sb ⟨p,vs,rfl,hq,rv⟩;have hq':SqT X.K b.H p vs:=by rw[<-hk,<-x.k];exact hq
   refine⟨p,rfl,⟨vs,hq'⟩,h' b _ x sb ⟨vs,rv,λc y i=>⟨λv hv=>⟨⟨vs,v,?_,hv⟩,λw H' z=>?_⟩,λhl=>⟨vs,?_,hl⟩⟩⟩⟩
   ·have:=y.sqT hq;rw[y.k,x.k,hk]at this;exact this
   ·have:=y.sqT hq;rw[y.k,x.k,hk]at this;exact⟨Option.some.inj ((z.2 vs this).symm.trans hv),z.1⟩
   ·have:=y.sqT hq;rw[y.k,x.k,hk]at this;exact this
  |fl xs=>
   refine ZBH (tg:=tg) he xT s σ a.H R I ⟨a,S,G,hk,rfl,sm,r,?_⟩;rw[ht];rintro b v x sb ⟨p,vs,rfl,hq,rv⟩;have hq':SqL X.K b.H p vs:=by rw[<-hk,<-x.k];exact hq.sq
   refine⟨p,rfl,⟨vs,hq'⟩,h' b _ x sb ⟨vs,rv,λc y i=>⟨λv hv=>⟨⟨vs,v,?_,hv⟩,λw H' z=>?_⟩,λhl=>⟨vs,?_,hl⟩⟩⟩⟩
   ·have:=(y.fzL hq).sq;rw[y.k,x.k,hk]at this;exact this
   ·have:=(y.fzL hq).sq;rw[y.k,x.k,hk]at this;exact⟨Option.some.inj ((z.2 vs this).symm.trans hv),z.1⟩
   ·have:=(y.fzL hq).sq;rw[y.k,x.k,hk]at this;exact this
  |ref k=>
   have h2:outI E a (Hg (.ref k) G1) R:=h';unfold Hg at h2;dsimp only at h2;split at h2
   ·rename_i xs hx;refine ZBH (tg:=tg) he xT s σ a.H R I ⟨a,S,G,hk,rfl,sm,r,?_⟩;rw[ht];rintro b v x sb ⟨hkn,rfl⟩;obtain⟨vs,hx,_⟩:=sb.lst hx;refine⟨b.m k,rfl,⟨vs,.of hx⟩,h2 b _ x sb ⟨hkn,λc y us hu i=>?_⟩⟩;rw[y.m k hkn]at hu;exact⟨λv hv=>⟨⟨us,v,.of hu,hv⟩,λw H' z=>⟨Option.some.inj ((z.2 us (.of hu)).symm.trans hv),z.1⟩⟩,λhl=>⟨us,.of hu,hl⟩⟩
   ·exact h2.elim
  | str z=>
   refine ZLf (tg:=tg) he xT s σ a.H R I ⟨a,S,G,hk,rfl,sm,r,?_⟩;rw[ht];intro b v x sb rv
   cases(show v=V.str z from rv)
   refine⟨z,rfl,h' b _ x sb ⟨_,Reps.signs z,λc y i=>⟨λv hv=>?_,λhl=>?_⟩⟩⟩
   ·rw[zR,zA]at hv;obtain⟨k,hk1,rfl⟩:=hv;have hk2:z.cps[i]?=xU k:=by rw[<-Array.getElem?_toList];exact hk1
    refine⟨(Array.getElem?_eq_some_iff.mp hk2).1,λw H' q=>?_⟩;obtain⟨e1,k',e2,e3⟩:=q;rw[hk2]at e2;cases e2;exact⟨e3,e1⟩
   ·rw[zK,qP]at hl;exact hl
  |_=>exact h'.elim
end
noncomputable def Do(lo:Int)(n:Nat):List D:=(zv n).map λ(k:Nat)=>D.int (lo+(k:Int))
def inR(j:Int):Prop:= -(2^62)<=j/\j<2^62
noncomputable instance (j:Int):Decidable (inR j):=by unfold inR;infer_instance
def rng1(ds:List D)(G:DH):R ItD:=match ds with
 |[.int j]=>if inR j then .ok (.pure (Do 0 j.toNat)) G else .bad
 |_=>.bad
def Hy(f:List D->DH->R ItD)(ta:DA):DI:=λS G=>(ta S G).bind f
def Br(np nl:Nat)(b:DS):List D->DH->R D:=λds G=>if ds.length=np then tidy G (match b (ds.map xU++zN nl vQ) G with
 |.nx _ G'=>.ok .non G'
 |.rt d G'=>.ok d G'
 |.err x G'=>.err x G'
 |_=>.bad)else .bad
theorem outI.mono(x:Ext a b){r:R ItD}{Q:It->Hp->Prop}(h:outI E a r Q):outI E b r Q:=by
 cases r with
 |ok d G=>exact λc v y s q=>h c v (x.trans y) s q
 |err e G=>exact XOk.mono (E:=E) (e:=e) (G:=G) x h
 |bad=>exact h
theorem ZGy{r:R (List D)}{f:List D->DH->R ItD}{Q:It->Hp->Prop}(h:outI E a (r.bind f) Q):
  Ft E a r (λvs H=>∃(b:Wd)(ds:List D)(G:DH),b.H=H/\Ext a b/\Sim b G/\Reps b ds vs/\r=.ok ds G/\outI E b (f ds G) Q):=by
 cases r with
 |ok d G=>exact λb v x s q=>⟨b,d,G,rfl,x,s,q,rfl,outI.mono x h⟩
 |err e G=>exact h
 |bad=>exact h
section
variable{X:Cx}{E:XK}{tg iter:jB}{pos:Pos}
theorem ZKB(lo:Int)(n:Nat):RepI a (.pure (Do lo n)) (Itr lo n):=by
 refine⟨(zv n).map λ(k:Nat)=>V.int (lo+(k:Int)),?_,λb x i=>⟨λv hv=>?_,λhl=>?_⟩⟩
 ·unfold Do;generalize zv n=l
  induction l with
  |nil=>exact rfl
  |cons k l ih=>exact⟨_,_,rfl,rfl,ih⟩
 ·rw[zR]at hv;by_cases hi:i<n
  ·rw[List.getElem?_range hi]at hv;have hv':V.int (lo+(i:Int))=v:=by simpa using hv
   exact⟨hi,λw H' y=>⟨y.2.trans hv',y.1⟩⟩
  ·rw[zU (by simpa using hi)]at hv;cases hv
 ·show n<=i;simpa using hl
theorem Ir{ta:DA}{p pos:Pos}(hg:Gl X "range")(hm:X.mg "range"=vQ)(ha:QA X E [e] ta)(hs:x9 [e] X.env=[(vJ,eval e X.env)]:=by rfl):QI X E tg (.Call (.Name "range" p) [e] [] pos) (Hy rng1 ta):=
 (ZH6 hg hm ha hs).mono λσ H Q h=>by
  obtain⟨a,S,G,hk,rfl,s,r,h⟩:=h;refine⟨a,S,G,hk,rfl,s,r,(ZGy h).imp ?_⟩;rintro vs _ ⟨b,ds,G1,rfl,x,s1,q,-,h1⟩;unfold rng1 at h1;split at h1
  ·rename_i j;split at h1
   ·rename_i hj;obtain⟨v,r,e1,q1,q2⟩:=q
    cases(show v=V.int j from q1)
    cases(show r=[]from q2)
    exact⟨j,e1,hj.1,hj.2,h1 b _ (Ext.refl b) s1 (ZKB 0 j.toNat)⟩
   ·exact h1.elim
  ·exact h1.elim
end
theorem ZOh(r:Reps a ds vs)(n m:Nat)(h:n=m):RepS a (ds.map xU++zN n vQ) (vs.map xU++zN m vQ):=by
 subst h;refine⟨by simp[r.length],λi d hd=>?_⟩;by_cases hi:i<ds.length
 ·rw[zP (by simpa using hi),zR]at hd;cases e:ds[i]? with
  |none=>rw[e]at hd;cases hd
  |some d'=>
   rw[e]at hd;have hd':d'=d:=by simpa using hd
   subst hd';obtain⟨v,ev,q⟩:=r.get e;exact⟨v,by rw[zP (by rw[zK,<-r.length];exact hi),zR,ev];rfl,q⟩
 ·rw[zE (by simpa using hi),qB]at hd
  split at hd<;>cases hd
theorem Bu{K:PySem.W.Frag}{mg:Str->Option jI}{base:Heap}{qual:Str}{st:jH}{f:j9}{fd:jC}{N ps:List Str}{b:DS}(F:Fun K x qual st f fd)(S:FnScope N ps (Aw st))
  (hbody:∀(cdv:jI)(A:jA)(outer:List Env)(s:jG)(H:Hp)(E:XK),Room k (A.deeper (envOfC qual (Aw st) s.heap.objs.size f cdv))->QSs (Ms CX0 P w K mg base N qual (Aw st) f cdv A outer s H E).nox E0 (Hz st) b):
  FnOk P w K mg base CX0 (k+1) f fd ps (lF K (Br ps.length (N.length-ps.length) b)):=by
 have hlen:∀vs H Q E,lF K (Br ps.length (N.length-ps.length) b) vs H Q E->vs.length=ps.length:=λvs H Q E h=>by
  obtain⟨a,G,ds,hk,rfl,sm,r,h⟩:=h;unfold Br at h;split at h
  ·rename_i hl;rw[<-r.length];exact hl
  ·exact h.elim
 refine F.ok S hlen (λcdv A outer s H vs Q E hr h=>?_);refine⟨lS K E0 b,hbody cdv A outer s H E hr,?_⟩;have hl:=hlen vs H Q E h;obtain⟨a,G,ds,hk,rfl,sm,r,h⟩:=h;unfold Br at h;split at h
 ·have h2:=ZF9 sm h;refine⟨a,ds.map xU++zN (N.length-ps.length) vQ,G,hk,rfl,sm,ZOh r _ _ (by rw[hl]),?_⟩
  revert h2
  cases b (ds.map xU++zN (N.length-ps.length) vQ) G with
  |nx S1 G1=>exact λh2 c σ x s1 _=>h2 c .non x s1 rfl
  |rt d G1=>exact λh2=>h2
  |err e G1=>exact λh2=>h2
  |bk S1 G1=>exact λh2=>h2.elim
  |ct S1 G1=>exact λh2=>h2.elim
  |bad=>exact λh2=>h2
 ·exact h.elim
theorem K6{x:V}(s:Sim a G)(r:Rep a d x)(h:Cy d G=xU xs):∃p vs,x=.ref p/\(SqL a.K a.H p vs∨SqT a.K a.H p vs)/\Reps a xs vs:=by
 cases d with
 |tup ys=>
  have e:ys=xs:=Option.some.inj h;subst e;obtain⟨p,vs,e,q,rr⟩:=r;exact⟨p,vs,e,.inr q,rr⟩
 |fl ys=>
  have e:ys=xs:=Option.some.inj h;subst e;obtain⟨p,vs,e,q,rr⟩:=r;exact⟨p,vs,e,.inl q.sq,rr⟩
 |ref i=>
  unfold Cy at h;dsimp only at h;split at h
  ·rename_i ys hi;have e:ys=xs:=Option.some.inj h;subst e;obtain⟨vs,e1,r1⟩:=s.lst hi;exact⟨a.m i,vs,r.2,.inl (.of e1),r1⟩
  ·cases h
 |_=>cases h
def Aj (d e:D) (G:DH):R D:=match e with
 | .int i=>match d with
  | .str z=>if z.length<=1000000 then(match atI z.cps.toList i with
    |some c=>.ok (.str ⟨#[c]⟩) G
    |none=>.bad)else .bad
  | d=>match Cy d G with
   |some xs=>match atI xs i with
    |some v=>.ok v G
    |none=>.bad
   |none=>.bad
 |_=>.bad
theorem ZMP{i:Int}(r:Reps a xs vs)(h:atI xs i=xU d):∃v,atI vs i=xU v/\Rep a d v:=by
 unfold atI at h⊢;rw[<-r.length];cases e:ixN xs.length i with
 |none=>rw[e]at h;cases h
 |some j=>
  rw[e]at h
  obtain⟨v,ev,q⟩:=r.get (show xs[j]?=xU d from h)
  exact⟨v,ev,q⟩
section
variable{X:Cx}{E:XK}
theorem _root_._L.IxR.mono{r r':R2}(h:IxR X r)(w:∀x y H Q,r' x y H Q->r x y H Q):IxR X r':=λvalue slice xT s σ H x y v u Q I rx ry q hs=>h value slice xT s σ H x y v u Q I rx ry (w _ _ _ _ q) hs
theorem _root_._L.CallR.mono{f:jI}{r r':List V->Hp->VK->Prop}(h:CallR X f r)(w:∀xs H Q,r' xs H Q->r xs H Q):CallR X f r':=λxT s σ H xs us Q I rs q=>h xT s σ H xs us Q I rs (w _ _ _ q)
theorem _root_._L.MtM.mono{id:String}{r r':V->List V->Hp->VK->Prop}(h:MtM X id r)(w:∀x xs H Q,r' x xs H Q->r x xs H Q):MtM X id r':=λxT s σ H x xs v us Q I rx rs q=>h xT s σ H x xs v us Q I rx rs (w _ _ _ _ q)
theorem Am:IxR X (lR2 X.K E Aj):=ZNT.mono λx y H Q h=>by
 obtain⟨a,G,d,e,hk,rfl,s,rd,re,q⟩:=h;cases e with
 | int i=>
  have fin:∀{xs:List D},Cy d G=xU xs->out E a (match atI xs i with |some v=>.ok v G|none=>.bad) Q->rIx X.K x y a.H Q:=λ{xs}hs q=>by
   obtain⟨p,vs,e1,h1,r1⟩:=K6 s rd hs;rw[hk]at h1;split at q
   ·rename_i v hv;obtain⟨u,hu,ru⟩:=ZMP r1 hv;have z:=q a u (Ext.refl a) s ru;rcases h1 with h1|h1
    ·exact .inl ⟨p,vs,i,u,e1,re,h1,hu,z⟩
    ·exact .inr (.inl ⟨p,vs,i,u,e1,re,h1,hu,z⟩)
   ·exact q.elim
  have fin':out E a (match Cy d G with |some xs=>(match atI xs i with |some v=>.ok v G|none=>.bad)|none=>.bad) Q->rIx X.K x y a.H Q:=λq=>by
   cases hs:Cy d G with
   |none=>rw[hs]at q;exact q.elim
   |some xs=>rw[hs]at q;exact fin hs q
  cases d with
  | str z=>
   unfold Aj at q;dsimp only at q;split at q
   ·rename_i hl;split at q
    ·rename_i c hc;exact .inr (.inr ⟨z,i,c,rd,re,z0 hl size6,hc,q a _ (Ext.refl a) s rfl⟩)
    ·exact q.elim
   ·exact q.elim
  |tup ys=>exact fin' q
  |fl ys=>exact fin' q
  |ref j=>exact fin' q
  |_=>exact fin' q
 |_=>exact q.elim
def Dk(ds:List D)(G:DH):R D:=match ds with
 |[.str z]=>if z.length<=1000000 then .ok (.int z.length) G else .bad
 |[d]=>match Cy d G with
  |some xs=>.ok (.int xs.length) G
  |none=>.bad
 |_=>.bad
theorem reps1(r:Reps a [d] vs):∃v,vs=[v]/\Rep a d v:=by
 obtain⟨v,r',e,q,z⟩:=r
 cases(show r'=[]from z)
 exact⟨v,e,q⟩
theorem reps2{d':D}(r:Reps a [d,d'] vs):∃v v',vs=[v,v']/\Rep a d v/\Rep a d' v':=by obtain⟨v,r',e,q,z⟩:=r;obtain⟨v',e',q'⟩:=reps1 z;subst e';exact⟨v,v',e,q,q'⟩
theorem Eh:CallR X (.builtin "len") (lRn X.K E Dk):=(ZOF.or ZMk).mono λvs H Q h=>by
 obtain⟨a,G,ds,hk,rfl,s,r,q⟩:=h;unfold Dk at q;split at q
 ·rename_i z;split at q
  ·rename_i hl;obtain⟨v,rfl,rv⟩:=reps1 r
   cases(show v=V.str z from rv)
   exact .inr ⟨z,rfl,z0 hl size6,q a _ (Ext.refl a) s rfl⟩
  ·exact q.elim
 ·rename_i d _;split at q
  ·rename_i xs hs;obtain⟨v,rfl,rv⟩:=reps1 r;obtain⟨p,us,rfl,h1,r1⟩:=K6 s rv hs;rw[hk]at h1;exact .inl ⟨p,us,rfl,h1,q a _ (Ext.refl a) s (by rw[<-r1.length];exact rfl)⟩
  ·exact q.elim
 ·exact q.elim
def Il(ds:List D)(G:DH):R D:=match ds with
 |[d]=>match Cy d G with
  |some xs=>.ok (.tup xs) G
  |none=>.bad
 |_=>.bad
theorem Mg:CallR X (.type "tuple") (lRn X.K E Il):=ZLT.mono λvs H Q h=>by
 obtain⟨a,G,ds,hk,rfl,s,r,q⟩:=h;unfold Il at q;split at q
 ·rename_i d;split at q
  ·rename_i xs hs;obtain⟨v,rfl,rv⟩:=reps1 r;obtain⟨p,us,rfl,h1,r1⟩:=K6 s rv hs;refine⟨p,us,rfl,?_⟩;rcases h1 with h1|h1
   ·exact .inl ⟨by rw[<-hk];exact h1,λl hl=>W4 s r1 q l hl⟩
   ·exact .inr ⟨by rw[<-hk];exact h1,q a _ (Ext.refl a) s ⟨p,us,rfl,h1,r1⟩⟩
  ·exact q.elim
 ·exact q.elim
noncomputable def Wk(ds:List D)(G:DH):R D:=match ds with
 |[.int i,.int j]=>.ok (.int (if j>i then j else i)) G
 |_=>.bad
theorem ZLE(hc:X.calm=vZ):CallR X (.builtin "max") (lRn X.K E Wk):=(ZMR hc).mono λvs H Q h=>by
 obtain⟨a,G,ds,hk,rfl,s,r,q⟩:=h;unfold Wk at q;split at q
 ·obtain⟨v,v',rfl,h1,h2⟩:=reps2 r
  cases(show v=V.int _ from h1)
  cases(show v'=V.int _ from h2)
  exact⟨_,_,rfl,q a _ (Ext.refl a) s rfl⟩
 ·exact q.elim
noncomputable def Rc(ds:List D)(G:DH):R D:=match ds with
 |[.int i]=>.ok (.int i) G
 |[.bl k]=>.ok (.int (if k then 1 else 0)) G
 |_=>.bad
theorem ZHJ:CallR X (.type "int") (lRn X.K E Rc):=ZIR.mono λvs H Q h=>by
 obtain⟨a,G,ds,hk,rfl,s,r,q⟩:=h;unfold Rc at q;split at q
 ·obtain⟨v,rfl,h1⟩:=reps1 r
  cases(show v=V.int _ from h1)
  exact .inl ⟨_,rfl,q a _ (Ext.refl a) s rfl⟩
 ·obtain⟨v,rfl,h1⟩:=reps1 r
  cases(show v=V.bl _ from h1)
  exact .inr ⟨_,rfl,q a _ (Ext.refl a) s rfl⟩
 ·exact q.elim
noncomputable def Gy(ds:List D)(G:DH):R D:=match ds with
 |[.int i]=>if i.natAbs.log2<1920 then .ok (.str (toString i)) G else .bad
 |_=>.bad
theorem Jw:CallR X (.type "str") (lRn X.K E Gy):=ZNo.mono λvs H Q h=>by
 obtain⟨a,G,ds,hk,rfl,s,r,q⟩:=h;unfold Gy at q;split at q
 ·obtain⟨v,rfl,h1⟩:=reps1 r
  cases(show v=V.int _ from h1)
  split at q
  ·exact⟨_,rfl,by assumption,q a _ (Ext.refl a) s rfl⟩
  ·exact q.elim
 ·exact q.elim
noncomputable def Hl(o:D)(ds:List D)(G:DH):R D:=match o,ds with
 |.ref i,[d]=>match G[i]? with
  |some (.lst xs)=>if xs.length<1000000 then .ok .non (G.set i (.lst (xs++[d])))else .bad
  |_=>.bad
 |_,_=>.bad
def lRm(K:PySem.W.Frag)(E:XK)(f:D->List D->DH->R D):V->List V->Hp->VK->Prop:=λx xs H Q=>∃(a:Wd)(G:DH)(d:D)(ds:List D),a.K=K/\a.H=H/\Sim a G/\Rep a d x/\Reps a ds xs/\out E a (f d ds G) Q
theorem Sim.isList(s:Sim a G)(h:G[i]?=xU (.lst xs)):∃vs,SqL a.K a.H (a.m i) vs:=let⟨vs,e,_⟩:=s.lst h;⟨vs,.of e⟩
theorem Jh:MtM X "list.append" (lRm X.K E Hl):=ZN0.mono λx xs H Q h=>by
 obtain⟨a,G,d,ds,hk,rfl,s,rd,r,q⟩:=h;unfold Hl at q;split at q
 ·rename_i i d;obtain⟨v,rfl,rv⟩:=reps1 r;split at q
  ·rename_i ys hy;split at q
   ·rename_i hl;obtain⟨vs,e1,r1⟩:=s.lst hy;obtain⟨x3,s3⟩:=ZHb s rd.1 e1 (r1.append (Reps.cons rv Reps.nil));refine⟨a.m i,vs,v,rd.2,rfl,e1,by rw[<-r1.length];exact zV hl size6,?_⟩;exact q _ .non x3 s3 rfl
   ·exact q.elim
  ·exact q.elim
 ·exact q.elim
variable{o e:jB}{es:List jB}{to:DE}{t:DA}{name:Str}{apos cpos:Pos}{T id:String}{f:D->List D->DH->R D}
noncomputable def isL(d:D)(G:DH):Bool:=match d with
 |.ref i=>match G[i]? with
  |some (.lst _)=>vZ
  |_=>vJ
 |.fl _=>vZ
 |_=>vJ
def I9(f:D->List D->DH->R D)(o:DE)(t:DA):DE:=λS G=>(o S G).bind λx G1=>if isL x G1=vZ then(t S G1).bind λxs G2=>f x xs G2 else .bad
theorem ZLr{x:V}(s:Sim a G)(r:Rep a d x)(h:isL d G=vZ):tyV a.K "list" x a.H:=by
 cases d with
 |ref i=>
  unfold isL at h;dsimp only at h;split at h
  ·rename_i xs hx;cases r.2;exact .inl ⟨rfl,s.isList hx⟩
  ·cases h
 |fl xs=>
  obtain⟨p,vs,rfl,q,_⟩:=r;exact .inl ⟨rfl,vs,q.sq⟩
 |_=>cases h
theorem Jc(slot:Slot "list" name id)(hty:typeOf (.builtin id)=pure (.type "method_descriptor"))(hm:MtM X id (lRm X.K E f))(ho:QE X E o to)(ha:QA X E (e::es) t)
  (hbase:attributeBase o name X.env (eval o X.env)=eval o X.env:=by rfl)
  (hfew:((jN cpos (x9 (e::es) X.env)).all (λx=> !x.1)&&(jO cpos (xq [] X.env)).all (λx=>x.1.isSome)
   && decide ((e::es).length+([]:List Keyword).length+(if([]:List Keyword).isEmpty then 0 else 1)<30))=vZ:=by rfl)
  (hline:(apos.endLine==cpos.line)=vZ:=by rfl) (hs:x9 (e::es) X.env=(vJ,eval e X.env)::x9 es X.env:=by rfl) (hplain:(jN cpos (x9 es X.env)).any (·.1)=vJ:=by rfl):
  QE X E (.Call (.Attribute o name apos) (e::es) [] cpos) (I9 f to t):=(ZG6 PySem.F.plainAttrs_list slot hty hm ho ha hbase hfew hline hs hplain).mono λσ H Q h=>by
 obtain⟨a,S,G,hk,rfl,s,r,h⟩:=h;refine⟨a,S,G,hk,rfl,s,r,(G6 h).imp ?_⟩;rintro v _ ⟨b,d,G1,rfl,x,s1,q,-,h1⟩;split at h1
 ·rename_i hl;have ty:=ZLr s1 q hl;rw[x.k,hk]at ty;refine⟨ty,b,S,G1,x.k.trans hk,rfl,s1,r.mono x,(Pr h1).imp ?_⟩;rintro vs _ ⟨c,ds,G2,rfl,y,s2,q2,-,h2⟩;exact⟨c,G2,d,ds,y.k.trans (x.k.trans hk),rfl,s2,q.mono y,q2,h2⟩
 ·exact h1.elim
end
inductive Ty where|non|bl|int|str|tup|lst
def tyD(G:DH):D->Option Ty
 |.non=>xU .non
 |.bl _=>xU .bl
 |.int _=>xU .int
 |.str _=>xU .str
 |.tup _=>xU .tup
 |.fl _=>xU .lst
 |.ref i=>match G[i]? with
  |some (.lst _)=>xU .lst
  |_=>vQ
 |.ty _=>vQ
noncomputable def Ty.sub(t:Ty):String->Option Bool
 |"int"=>xU (match t with | .int=>vZ | .bl=>vZ|_=>vJ)
 |"bool"=>xU (match t with | .bl=>vZ|_=>vJ)
 |"str"=>xU (match t with | .str=>vZ|_=>vJ)
 |"tuple"=>xU (match t with | .tup=>vZ|_=>vJ)
 |"list"=>xU (match t with | .lst=>vZ|_=>vJ)
 |_=>vQ
def Dm(ds:List D)(G:DH):R D:=match ds with
 | [d,.ty T]=>match tyD G d with
  |some t=>match t.sub T with
   |some k=>.ok (.bl k) G
   |none=>.bad
  |none=>.bad
 |_=>.bad
section
variable{prog:jE}{w:jL}{A:jA}{E:jI->jG->Prop}{s:jG}
theorem Mf{x:jI}{Tx T:String}{Q:jI->jG->Prop}(hx:s.TypeIs x Tx)(hty:typeOf (.type T)=pure (.type "type"))(hsub:xJ (.type Tx) (.type T)=pure vZ)(h:Q (.bool vZ) s):
  xB (xw prog w) A (call (.builtin "isinstance") [x,.type T]) Q E s:=jT (isinstance_true hty hsub) ⟨hx,h⟩
end
theorem ty_int:typeOf (.type "int")=pure (.type "type"):=by with_unfolding_all rfl
theorem ty_bool:typeOf (.type "bool")=pure (.type "type"):=by with_unfolding_all rfl
theorem ty_str:typeOf (.type "str")=pure (.type "type"):=by with_unfolding_all rfl
theorem ty_tuple:typeOf (.type "tuple")=pure (.type "type"):=by with_unfolding_all rfl
theorem ty_list:typeOf (.type "list")=pure (.type "type"):=by with_unfolding_all rfl
theorem ZOI:xJ (.type "NoneType") (.type "int")=pure vJ:=by with_unfolding_all rfl
theorem ZIk:xJ (.type "NoneType") (.type "bool")=pure vJ:=by with_unfolding_all rfl
theorem ZKC:xJ (.type "NoneType") (.type "str")=pure vJ:=by with_unfolding_all rfl
theorem ZJB:xJ (.type "NoneType") (.type "tuple")=pure vJ:=by with_unfolding_all rfl
theorem ZH5:xJ (.type "NoneType") (.type "list")=pure vJ:=by with_unfolding_all rfl
theorem ZJH:xJ (.type "bool") (.type "int")=pure vZ:=by with_unfolding_all rfl
theorem ZHn:xJ (.type "bool") (.type "bool")=pure vZ:=by with_unfolding_all rfl
theorem ZOY:xJ (.type "bool") (.type "str")=pure vJ:=by with_unfolding_all rfl
theorem ZLK:xJ (.type "bool") (.type "tuple")=pure vJ:=by with_unfolding_all rfl
theorem ZJm:xJ (.type "bool") (.type "list")=pure vJ:=by with_unfolding_all rfl
theorem ZNG:xJ (.type "int") (.type "int")=pure vZ:=by with_unfolding_all rfl
theorem ZLp:xJ (.type "int") (.type "bool")=pure vJ:=by with_unfolding_all rfl
theorem ZIF:xJ (.type "int") (.type "str")=pure vJ:=by with_unfolding_all rfl
theorem ZIL:xJ (.type "int") (.type "tuple")=pure vJ:=by with_unfolding_all rfl
theorem ZHs:xJ (.type "int") (.type "list")=pure vJ:=by with_unfolding_all rfl
theorem ZNW:xJ (.type "str") (.type "int")=pure vJ:=by with_unfolding_all rfl
theorem ZOb:xJ (.type "str") (.type "bool")=pure vJ:=by with_unfolding_all rfl
theorem ZMe:xJ (.type "str") (.type "str")=pure vZ:=by with_unfolding_all rfl
theorem ZNy:xJ (.type "str") (.type "tuple")=pure vJ:=by with_unfolding_all rfl
theorem ZLl:xJ (.type "str") (.type "list")=pure vJ:=by with_unfolding_all rfl
theorem ZHZ:xJ (.type "tuple") (.type "int")=pure vJ:=by with_unfolding_all rfl
theorem ZOZ:xJ (.type "tuple") (.type "bool")=pure vJ:=by with_unfolding_all rfl
theorem ZOK:xJ (.type "tuple") (.type "str")=pure vJ:=by with_unfolding_all rfl
theorem ZNH:xJ (.type "tuple") (.type "tuple")=pure vZ:=by with_unfolding_all rfl
theorem ZLz:xJ (.type "tuple") (.type "list")=pure vJ:=by with_unfolding_all rfl
theorem ZF2:xJ (.type "list") (.type "int")=pure vJ:=by with_unfolding_all rfl
theorem ZFt:xJ (.type "list") (.type "bool")=pure vJ:=by with_unfolding_all rfl
theorem ZFA:xJ (.type "list") (.type "str")=pure vJ:=by with_unfolding_all rfl
theorem ZFc:xJ (.type "list") (.type "tuple")=pure vJ:=by with_unfolding_all rfl
theorem ZCs:xJ (.type "list") (.type "list")=pure vZ:=by with_unfolding_all rfl
section
variable{X:Cx}{E:XK}
theorem Gx:CallR X (.builtin "isinstance") (lRn X.K E Dm):=by
 intro xT s σ H vs us Q I rs h;obtain⟨a,G,ds,hk,rfl,sm,r,q⟩:=h;unfold Dm at q;split at q
 ·rename_i d T;obtain⟨v,v',rfl,h1,h2⟩:=reps2 r
  cases(show v'=V.ty T from h2)
  obtain⟨u,u',rfl,ru,ru'⟩:∃u u',us=[u,u']/\RelV v u/\RelV (.ty T) u':=by
   cases rs with
   |cons p q=>cases q with
    |cons p' q'=>cases q';exact⟨_,_,rfl,p,p'⟩
  cases(show u'=Value.type T from ru')
  split at q
  ·rename_i t ht;split at q
   ·rename_i k hk';have fin:∀{n:Nat},EP X xT σ Q (.bool k) {s with toks:=n}:=λ{n}=>⟨.bl k,a.H,I.tok _,rfl,q a _ (Ext.refl a) sm rfl⟩
    have fin0:EP X xT σ Q (.bool k) s:=⟨.bl k,a.H,I,rfl,q a _ (Ext.refl a) sm rfl⟩;unfold Ty.sub at hk';split at hk'
    ·cases d with
     |non=>
      cases ht;cases hk'
      cases(show v=_ from h1)
      cases ru;exact jT (xW (by decide) ty_int ZOI) fin
     |bl b=>
      cases ht;cases hk'
      cases(show v=_ from h1)
      cases ru;exact Mf (Tx:="bool") rfl ty_int ZJH fin0
     |int b=>
      cases ht;cases hk'
      cases(show v=_ from h1)
      obtain⟨tk,rfl⟩:=ru;exact Mf (Tx:="int") (typeIs_int s _ _) ty_int ZNG fin0
     |str b=>
      cases ht;cases hk'
      cases(show v=_ from h1)
      obtain⟨tk,rfl⟩:=ru;exact jT (xK (by decide) ty_int ZNW) fin
     |tup b=>
      cases ht;cases hk';obtain⟨p,ws,rfl,hq,_⟩:=h1;cases ru;rw[hk]at hq;obtain⟨its,_,pl,_⟩:=I.tuple hq;exact jT (xY (by decide) ty_int ZHZ) ⟨(let⟨o,e,c,_⟩:=pl;⟨o,e,c⟩),fin⟩
     |fl b=>
      cases ht;cases hk';obtain⟨p,ws,rfl,hq,_⟩:=h1;cases ru;have hq:=hq.sq;rw[hk]at hq;obtain⟨its,_,pl,_⟩:=I.list hq;exact jT (xV (by decide) ty_int ZF2) ⟨(let⟨o,e,c,_⟩:=pl.isList;⟨o,e,c⟩),fin⟩
     |ref b=>
      unfold tyD at ht;dsimp only at ht;split at ht
      ·rename_i xs hx;cases ht;cases hk';obtain⟨ws,e1,_⟩:=sm.lst hx;cases h1.2;cases ru;obtain⟨its,_,pl,_⟩:=I.list (.of e1);exact jT (xV (by decide) ty_int ZF2) ⟨(let⟨o,e,c,_⟩:=pl.isList;⟨o,e,c⟩),fin⟩
      ·cases ht
     |ty n=>cases ht
    ·cases d with
     |non=>
      cases ht;cases hk'
      cases(show v=_ from h1)
      cases ru;exact jT (xW (by decide) ty_bool ZIk) fin
     |bl b=>
      cases ht;cases hk'
      cases(show v=_ from h1)
      cases ru;exact Mf (Tx:="bool") rfl ty_bool ZHn fin0
     |int b=>
      cases ht;cases hk'
      cases(show v=_ from h1)
      obtain⟨tk,rfl⟩:=ru;exact jT (xX (by decide) ty_bool ZLp) fin
     |str b=>
      cases ht;cases hk'
      cases(show v=_ from h1)
      obtain⟨tk,rfl⟩:=ru;exact jT (xK (by decide) ty_bool ZOb) fin
     |tup b=>
      cases ht;cases hk';obtain⟨p,ws,rfl,hq,_⟩:=h1;cases ru;rw[hk]at hq;obtain⟨its,_,pl,_⟩:=I.tuple hq;exact jT (xY (by decide) ty_bool ZOZ) ⟨(let⟨o,e,c,_⟩:=pl;⟨o,e,c⟩),fin⟩
     |fl b=>
      cases ht;cases hk';obtain⟨p,ws,rfl,hq,_⟩:=h1;cases ru;have hq:=hq.sq;rw[hk]at hq;obtain⟨its,_,pl,_⟩:=I.list hq;exact jT (xV (by decide) ty_bool ZFt) ⟨(let⟨o,e,c,_⟩:=pl.isList;⟨o,e,c⟩),fin⟩
     |ref b=>
      unfold tyD at ht;dsimp only at ht;split at ht
      ·rename_i xs hx;cases ht;cases hk';obtain⟨ws,e1,_⟩:=sm.lst hx;cases h1.2;cases ru;obtain⟨its,_,pl,_⟩:=I.list (.of e1);exact jT (xV (by decide) ty_bool ZFt) ⟨(let⟨o,e,c,_⟩:=pl.isList;⟨o,e,c⟩),fin⟩
      ·cases ht
     |ty n=>cases ht
    ·cases d with
     |non=>
      cases ht;cases hk'
      cases(show v=_ from h1)
      cases ru;exact jT (xW (by decide) ty_str ZKC) fin
     |bl b=>
      cases ht;cases hk'
      cases(show v=_ from h1)
      cases ru;exact jT (isinstance_false_bool (by decide) ty_str ZOY) fin
     |int b=>
      cases ht;cases hk'
      cases(show v=_ from h1)
      obtain⟨tk,rfl⟩:=ru;exact jT (xX (by decide) ty_str ZIF) fin
     |str b=>
      cases ht;cases hk'
      cases(show v=_ from h1)
      obtain⟨tk,rfl⟩:=ru;exact Mf (Tx:="str") (typeIs_str s _ _) ty_str ZMe fin0
     |tup b=>
      cases ht;cases hk';obtain⟨p,ws,rfl,hq,_⟩:=h1;cases ru;rw[hk]at hq;obtain⟨its,_,pl,_⟩:=I.tuple hq;exact jT (xY (by decide) ty_str ZOK) ⟨(let⟨o,e,c,_⟩:=pl;⟨o,e,c⟩),fin⟩
     |fl b=>
      cases ht;cases hk';obtain⟨p,ws,rfl,hq,_⟩:=h1;cases ru;have hq:=hq.sq;rw[hk]at hq;obtain⟨its,_,pl,_⟩:=I.list hq;exact jT (xV (by decide) ty_str ZFA) ⟨(let⟨o,e,c,_⟩:=pl.isList;⟨o,e,c⟩),fin⟩
     |ref b=>
      unfold tyD at ht;dsimp only at ht;split at ht
      ·rename_i xs hx;cases ht;cases hk';obtain⟨ws,e1,_⟩:=sm.lst hx;cases h1.2;cases ru;obtain⟨its,_,pl,_⟩:=I.list (.of e1);exact jT (xV (by decide) ty_str ZFA) ⟨(let⟨o,e,c,_⟩:=pl.isList;⟨o,e,c⟩),fin⟩
      ·cases ht
     |ty n=>cases ht
    ·cases d with
     |non=>
      cases ht;cases hk'
      cases(show v=_ from h1)
      cases ru;exact jT (xW (by decide) ty_tuple ZJB) fin
     |bl b=>
      cases ht;cases hk'
      cases(show v=_ from h1)
      cases ru;exact jT (isinstance_false_bool (by decide) ty_tuple ZLK) fin
     |int b=>
      cases ht;cases hk'
      cases(show v=_ from h1)
      obtain⟨tk,rfl⟩:=ru;exact jT (xX (by decide) ty_tuple ZIL) fin
     |str b=>
      cases ht;cases hk'
      cases(show v=_ from h1)
      obtain⟨tk,rfl⟩:=ru;exact jT (xK (by decide) ty_tuple ZNy) fin
     |tup b=>
      cases ht;cases hk';obtain⟨p,ws,rfl,hq,_⟩:=h1;cases ru;rw[hk]at hq;obtain⟨its,_,pl,_⟩:=I.tuple hq;exact Mf (Tx:="tuple") pl.typeIs ty_tuple ZNH fin0
     |fl b=>
      cases ht;cases hk';obtain⟨p,ws,rfl,hq,_⟩:=h1;cases ru;have hq:=hq.sq;rw[hk]at hq;obtain⟨its,_,pl,_⟩:=I.list hq;exact jT (xV (by decide) ty_tuple ZFc) ⟨(let⟨o,e,c,_⟩:=pl.isList;⟨o,e,c⟩),fin⟩
     |ref b=>
      unfold tyD at ht;dsimp only at ht;split at ht
      ·rename_i xs hx;cases ht;cases hk';obtain⟨ws,e1,_⟩:=sm.lst hx;cases h1.2;cases ru;obtain⟨its,_,pl,_⟩:=I.list (.of e1);exact jT (xV (by decide) ty_tuple ZFc) ⟨(let⟨o,e,c,_⟩:=pl.isList;⟨o,e,c⟩),fin⟩
      ·cases ht
     |ty n=>cases ht
    ·cases d with
     |non=>
      cases ht;cases hk'
      cases(show v=_ from h1)
      cases ru;exact jT (xW (by decide) ty_list ZH5) fin
     |bl b=>
      cases ht;cases hk'
      cases(show v=_ from h1)
      cases ru;exact jT (isinstance_false_bool (by decide) ty_list ZJm) fin
     |int b=>
      cases ht;cases hk'
      cases(show v=_ from h1)
      obtain⟨tk,rfl⟩:=ru;exact jT (xX (by decide) ty_list ZHs) fin
     |str b=>
      cases ht;cases hk'
      cases(show v=_ from h1)
      obtain⟨tk,rfl⟩:=ru;exact jT (xK (by decide) ty_list ZLl) fin
     |tup b=>
      cases ht;cases hk';obtain⟨p,ws,rfl,hq,_⟩:=h1;cases ru;rw[hk]at hq;obtain⟨its,_,pl,_⟩:=I.tuple hq;exact jT (xY (by decide) ty_list ZLz) ⟨(let⟨o,e,c,_⟩:=pl;⟨o,e,c⟩),fin⟩
     |fl b=>
      cases ht;cases hk';obtain⟨p,ws,rfl,hq,_⟩:=h1;cases ru;have hq:=hq.sq;rw[hk]at hq;obtain⟨its,_,pl,_⟩:=I.list hq;exact Mf (Tx:="list") pl.isList.typeIs ty_list ZCs fin0
     |ref b=>
      unfold tyD at ht;dsimp only at ht;split at ht
      ·rename_i xs hx;cases ht;cases hk';obtain⟨ws,e1,_⟩:=sm.lst hx;cases h1.2;cases ru;obtain⟨its,_,pl,_⟩:=I.list (.of e1);exact Mf (Tx:="list") pl.isList.typeIs ty_list ZCs fin0
      ·cases ht
     |ty n=>cases ht
    ·cases hk'
   ·exact q.elim
  ·exact q.elim
 ·exact q.elim
end
noncomputable def Gk:List D->Option (List Int)
 |[]=>xU []
 |.int i::r=>(Gk r).map (i::·)
 |_=>vQ
noncomputable def Hm:List D->Option (List Bool)
 |[]=>xU []
 |.bl i::r=>(Hm r).map (i::·)
 |_=>vQ
@[simp]theorem ZFb(ns:List Int):Gk (ns.map D.int)=xU ns:=by
 induction ns with
 |nil=>rfl
 |cons n ns ih=>simp[Gk,ih]
@[simp]theorem ZPf(ns:List Bool):Hm (ns.map D.bl)=xU ns:=by
 induction ns with
 |nil=>rfl
 |cons n ns ih=>simp[Hm,ih]
theorem Y9:∀{xs:List D}{ns:List Int},Gk xs=xU ns->xs=ns.map D.int
 |[],ns,h=>by cases h;rfl
 |.int i::r,ns,h=>by simp only[Gk,zA]at h;obtain⟨ms,h1,rfl⟩:=h;rw[zQ,Y9 h1]
 |.non::r,ns,h=>by simp[Gk]at h
 |.bl _::r,ns,h=>by simp[Gk]at h
 |.str _::r,ns,h=>by simp[Gk]at h
 |.ty _::r,ns,h=>by simp[Gk]at h
 |.tup _::r,ns,h=>by simp[Gk]at h
 |.fl _::r,ns,h=>by simp[Gk]at h
 |.ref _::r,ns,h=>by simp[Gk]at h
theorem ZGf:∀{xs:List D}{ns:List Bool},Hm xs=xU ns->xs=ns.map D.bl
 |[],ns,h=>by cases h;rfl
 |.bl i::r,ns,h=>by simp only[Hm,zA]at h;obtain⟨ms,h1,rfl⟩:=h;rw[zQ,ZGf h1]
 |.non::r,ns,h=>by simp[Hm]at h
 |.int _::r,ns,h=>by simp[Hm]at h
 |.str _::r,ns,h=>by simp[Hm]at h
 |.ty _::r,ns,h=>by simp[Hm]at h
 |.tup _::r,ns,h=>by simp[Hm]at h
 |.fl _::r,ns,h=>by simp[Hm]at h
 |.ref _::r,ns,h=>by simp[Hm]at h
def M7(ds:List D)(G:DH):R D:=match ds with
 | [d]=>match Cy d G with
  |some xs=>match Gk xs with
   |some ns=>.ok (.int ns.sum) G
   |none=>.bad
  |none=>.bad
 |_=>.bad
def Hj(ds:List D)(G:DH):R D:=match ds with
 | [d]=>match Cy d G with
  |some xs=>match Hm xs with
   |some ns=>.ok (.bl (ns.all id)) G
   |none=>.bad
  |none=>.bad
 |_=>.bad
section
variable{X:Cx}{E:XK}{xT:List (j9×Obj)}{σ:St}{s:jG}{H:Hp}
theorem Wg(I:Inv X xT σ H s)(hc:X.calm=vZ)(h:SqL X.K H p vs∨SqT X.K H p vs){E':jI->jG->Prop}{Q:jI->jG->Prop}
  (hQ:∀(it:j9)(fp wr:List j9)(its:List jI)(St:Nat->Heap->Prop)(s₂:jG),Vals vs its->Walks X.prog X.w X.A.in1 it fp wr its.toArray.size (λi v=>its.toArray[i]?=xU v) St->St 0 s₂.heap->(∀b∈fp,b<s₂.heap.objs.size)->
   (∀h' tk,(∀b o,b∉wr->s₂.heap.get? b=xU o->h'.get? b=xU o)->Inv X xT σ H {s₂ with heap:=h',toks:=tk})->Q (.ref it) s₂):
  xB (xw X.prog X.w) X.A.in1 (pyIter (.ref p)) Q E' s:=by
 have hh:X.A.in1.handled=vQ:=I.ok.hd hc;rcases h with h|h
 ·obtain⟨its,r,pl,hz⟩:=I.list h;refine wpAny_pyIter_list pl.isList ?_;have hp:p<s.heap.objs.size:=by obtain⟨o,e,_⟩:=pl.isList;exact zz e
  refine hQ _ _ _ its _ _ r (Walks.list hh _ p (zL hp) its.toArray) ⟨⟨_,zk _ rfl,rfl,rfl⟩,?_⟩ (λb hb=>?_) λh' tk kk=>?_
  ·obtain⟨o,e,c⟩:=pl.isList;exact⟨o,zX _ e,c⟩
  ·show b<(s.heap.push _).objs.size;rw[jW];rcases zJ.mp hb with rfl|hb
   ·exact qK _
   ·have e:b=p:=by simpa using hb
    subst e;exact Nat.lt_succ_of_lt hp
  ·refine I.kept λb o e=>kk b o (λhb=>?_) (zX _ e)
   have e2:b=s.heap.objs.size:=by simpa using hb
   subst e2;exact absurd (zz e) (zO _)
 ·obtain⟨its,r,pl,hz⟩:=I.tuple h
  refine wpAny_pyIter_tuple (show s.heap.IsTuple p its.toArray from pl) ?_
  have hp:p<s.heap.objs.size:=by obtain⟨o,e,_⟩:=pl;exact zz e
  refine hQ _ _ _ its _ _ r (Walks.tuple hh _ p (zL hp) its.toArray) ⟨⟨_,zk _ rfl,rfl,rfl⟩,?_⟩ (λb hb=>?_) λh' tk kk=>?_
  ·obtain⟨o,e,c⟩:=pl;exact⟨o,zX _ e,c⟩
  ·show b<(s.heap.push _).objs.size;rw[jW];rcases zJ.mp hb with rfl|hb
   ·exact qK _
   ·have e:b=p:=by simpa using hb
    subst e;exact Nat.lt_succ_of_lt hp
  ·refine I.kept λb o e=>kk b o (λhb=>?_) (zX _ e)
   have e2:b=s.heap.objs.size:=by simpa using hb
   subst e2;exact absurd (zz e) (zO _)
theorem ZHV(ns:List Int):∀n,n<=ns.length->preSum (λi=>ns.getD i 0) n=(ns.take n).sum
 |0,_=>by simp[preSum]
 |n+1,h=>by have hn:n<ns.length:=h;rw[preSum,ZHV ns n (by lia),List.take_succ_eq_append_getElem hn,List.sum_append];simp[hn]
theorem Yq:∀{ns:List Int}{vs:List V},Reps a (ns.map D.int) vs->vs=ns.map V.int
 |[],vs,h=>h
 |n::ns,vs,h=>by
  obtain⟨v,r,e,h1,h2⟩:=h
  cases(show v=V.int n from h1)
  rw[e,Yq h2]
  rfl
theorem ZHC:∀{ns:List Bool}{vs:List V},Reps a (ns.map D.bl) vs->vs=ns.map V.bl
 |[],vs,h=>h
 |n::ns,vs,h=>by
  obtain⟨v,r,e,h1,h2⟩:=h
  cases(show v=V.bl n from h1)
  rw[e,ZHC h2]
  rfl
theorem ZFx(hc:X.calm=vZ):CallR X (.builtin "sum") (lRn X.K E M7):=by
 intro xT s σ H vs us Q I rs h;obtain⟨a,G,ds,hk,rfl,sm,r,q⟩:=h;unfold M7 at q;split at q
 ·rename_i d;obtain⟨v,rfl,rv⟩:=reps1 r;split at q
  ·rename_i xs hs;split at q
   ·rename_i ns hn;cases Y9 hn;obtain⟨p,ws,rfl,h1,r1⟩:=K6 sm rv hs;cases Yq r1;rw[hk]at h1;obtain⟨u,rfl,ru⟩:=vals1 rs;cases ru;refine call_sum_walkG (Wg I hc h1 λit fp wr its St s₂ hv W st hfp fin=>⟨it,fp,wr,its.toArray.size,_,St,λi=>ns.getD i 0,rfl,W,st,hfp,λi w hw=>?_,λh' tk t' kk=>?_⟩)
    ·have hw':its[i]?=xU w:=by simpa using hw
     have hl:i<(ns.map V.int).length:=by rw[hv.length];exact(z3.mp hw').1
     have hl':i<ns.length:=by simpa using hl
     obtain⟨u,hu,ru⟩:=hv.get (i:=i) (x:=V.int ns[i]) (by simp[hl']);rw[hw']at hu;cases hu;obtain⟨t,rfl⟩:=ru;exact⟨t,by simp[hl']⟩
    ·refine⟨.int ns.sum,a.H,fin h' tk kk,⟨t',?_⟩,q a _ (Ext.refl a) sm rfl⟩;have hl:its.toArray.size=ns.length:=by rw[zq,<-hv.length];simp
     rw[hl,ZHV ns ns.length (zW _),q0]
   ·exact q.elim
  ·exact q.elim
 ·exact q.elim
theorem all_range(ns:List Bool):(zv ns.length).all (λi=>ns.getD i vZ)=ns.all id:=by
 rw[Bool.eq_iff_iff,qY,qY];constructor
 ·intro h b hb;obtain⟨i,hi,rfl⟩:=qT hb;simpa[hi]using h i (qz.mpr hi)
 ·intro h i hi;have hi':i<ns.length:=qz.mp hi;simpa[hi']using h ns[i] (qJ hi')
theorem Qz(hc:X.calm=vZ):CallR X (.builtin "all") (lRn X.K E Hj):=by
 intro xT s σ H vs us Q I rs h;obtain⟨a,G,ds,hk,rfl,sm,r,q⟩:=h;unfold Hj at q;split at q
 ·rename_i d;obtain⟨v,rfl,rv⟩:=reps1 r;split at q
  ·rename_i xs hs;split at q
   ·rename_i ns hn;cases ZGf hn;obtain⟨p,ws,rfl,h1,r1⟩:=K6 sm rv hs;cases ZHC r1;rw[hk]at h1;obtain⟨u,rfl,ru⟩:=vals1 rs;cases ru;refine call_all_walk (Wg I hc h1 λit fp wr its St s₂ hv W st hfp fin=>⟨it,fp,wr,its.toArray.size,_,St,λi=>ns.getD i vZ,rfl,W,st,λi w s' Q' E' hw hQ'=>?_,λh' tk kk=>?_⟩)
    ·have hw':its[i]?=xU w:=by simpa using hw
     have hl:i<(ns.map V.bl).length:=by rw[hv.length];exact(z3.mp hw').1
     have hl':i<ns.length:=by simpa using hl
     obtain⟨u,hu,ru⟩:=hv.get (i:=i) (x:=V.bl ns[i]) (by simp[hl']);rw[hw']at hu;cases hu;cases ru;refine xP ?_;simpa[hl']using hQ'
    ·refine⟨.bl (ns.all id),a.H,fin h' tk kk,?_,q a _ (Ext.refl a) sm rfl⟩;have hl:its.toArray.size=ns.length:=by rw[zq,<-hv.length];simp
     rw[hl,all_range]
     rfl
   ·exact q.elim
  ·exact q.elim
 ·exact q.elim
end
section
variable{X:Cx}{xT:List (j9×Obj)}{σ:St}{H:Hp}{s:jG}
theorem ZEC{a:j9}{o:HO}(I:Inv X xT σ H s)(hn:H a=vQ)(hy:X.s₀.heap.objs.size<=a)(hL:a≠X.env.locals)(hc:∀x c,X.env.cells.lookup x=xU c->c≠a)(hp:∀p∈X.pn++xT,p.1≠a)
  (new:ObjOk X.prog X.w (upd H a o) s.heap a o):Inv X xT σ (upd H a o) s:=by
 have ne:∀b u,H b=xU u->b≠a:=λb u e z=>by rw[z,hn]at e;cases e
 refine⟨I.ok,I.os,I.bare,⟨I.base.keep,I.base.slot,λb ob q n hx=>?_,I.base.there,λb xs q=>?_,λb ob u q=>?_,λb ps q=>?_⟩,I.loc,I.cell,?_,λx c e=>?_,λp hp'=>?_,λb u e=>?_,I.len⟩
 ·rw[Bs (zL (zV (zz q) hy))];exact I.base.free b ob q n hx
 ·have:=I.base.tups b xs q;rw[Bs (ne _ _ this)];exact this
 ·have:=I.base.frzs b ob u q;rw[Bs (ne _ _ this)];exact this
 ·obtain⟨more,this⟩:=I.base.tbls b ps q;exact⟨more,by rw[Bs (ne _ _ this)];exact this⟩
 ·rw[Bs (Ne.symm hL)];exact I.free
 ·rw[Bs (hc x c e)];exact I.Iz x c e
 ·obtain⟨e1,e2,e3⟩:=I.pin p hp';exact⟨e1,by rw[Bs (hp p hp')];exact e2,e3⟩
 ·by_cases hb:b=a
  ·subst hb;rw[I8]at e;cases e;exact new
  ·rw[Bs hb]at e;exact(I.hok b u e).stay (λ_ _ _ q=>q) (λc q=>by rw[Bs (ne _ _ q)];exact q) λc xs q=>by rw[Bs (ne _ _ q)];exact q
end
noncomputable def Ff(env:Env):List (Str×jD)->List (Str×j9)->List (Str×j9)
 |[],cs=>cs
 |(n,k)::r,cs=>if(k==NameKind.free)=vZ then Ff env r ((n,(env.cells.lookup n).getD 0)::cs)else Ff env r cs
theorem ZHM(h:∀y∈scope.names,y.2=.free->∃c,env.cells.lookup y.1=xU c):closureFor scope env=pure (Ff env scope.names []):=by
 unfold closureFor;obtain⟨kind,names,g1,g2⟩:=scope;have key:∀(names:List (Str×jD))(cs:List (Str×j9)),(∀y∈names,y.2=.free->∃c,env.cells.lookup y.1=xU c)->
   (forIn names cs (λx r=>match x with
    |(name,kind)=>if(kind==NameKind.free)=vZ then(do let c<-cellOf env name;pure (ForInStep.yield ((name,c)::r)))else pure (ForInStep.yield r)):Sem (List (Str×j9)))=pure (Ff env names cs):=by
  intro names
  induction names with
  |nil=>intro cs _;rfl
  | cons y r ih=>
   intro cs hy;obtain⟨n,k⟩:=y;rw[j2];by_cases hk:(k==NameKind.free)=vZ
   ·obtain⟨c,hc⟩:=hy (n,k) zy (by simpa using hk)
    have e1:cellOf env n=pure c:=by unfold cellOf;rw[show env.cells.lookup n=xU c from hc]
    have e2:Ff env ((n,k)::r) cs=Ff env r ((n,c)::cs):=by rw[Ff,if_pos hk,show env.cells.lookup n=xU c from hc];rfl
    rw[e2,<-ih ((n,c)::cs) λy' hy'=>hy y' (zZ _ hy')];simp only[hk,if_true,e1]
    rfl
   ·have e2:Ff env ((n,k)::r) cs=Ff env r cs:=by rw[Ff,if_neg hk]
    rw[e2,<-ih cs λy' hy'=>hy y' (zZ _ hy')];simp only[hk]
    rfl
 have:=key names [] h;exact congrArg (λm:Sem (List (Str×j9))=>m >>=λr=>pure r) this
theorem ZBN:∀{names:List (Str×jD)}{cs:List (Str×j9)},(∀y∈names,y.2=.free->∃c,env.cells.lookup y.1=xU c)->(∀p∈cs,env.cells.lookup p.1=xU p.2)->∀p∈Ff env names cs,env.cells.lookup p.1=xU p.2
 |[],cs,_,hc,p,hp=>hc p hp
 | (n,k)::r,cs,hn,hc,p,hp=>by
  rw[Ff]at hp;split at hp
  ·rename_i hk;obtain⟨c,e⟩:=hn (n,k) zy (by simpa using hk);refine ZBN (λy hy=>hn y (zZ _ hy)) (λq hq=>?_) p hp;rcases zJ.mp hq with rfl|hq
   ·rw[show env.cells.lookup n=xU c from e];rfl
   ·exact hc q hq
  ·exact ZBN (λy hy=>hn y (zZ _ hy)) hc p hp
theorem Vm:∀{names:List (Str×jD)}{cs:List (Str×j9)},((x,.free)∈names∨∃c,(x,c)∈cs)->∃c,(x,c)∈Ff env names cs
 |[],cs,h=>by
  rcases h with h|h
  ·cases h
  ·exact h
 | (n,k)::r,cs,h=>by
  rw[Ff];split
  ·refine Vm ?_;rcases h with h|⟨c,h⟩
   ·rcases zJ.mp h with e|h
    ·cases e;exact .inr ⟨_,zy⟩
    ·exact .inl h
   ·exact .inr ⟨c,zZ _ h⟩
  ·rename_i hk;refine Vm ?_;rcases h with h|h
   ·rcases zJ.mp h with e|h
    ·cases e;exact absurd rfl hk
    ·exact .inl h
   ·exact .inr h
theorem Zv{c:j9}:∀{l:List (Str×j9)},(x,c)∈l->∃d,l.lookup x=xU d
 |[],h=>by cases h
 | (y,d)::l,h=>by
  by_cases e:x=y
  ·subst e;exact⟨d,by simp⟩
  ·rcases zJ.mp h with z|h
   ·cases z;exact absurd rfl e
   ·obtain⟨d',q⟩:=Zv h;exact⟨d',by rw[qC,beq_eq_false_iff_ne.mpr e];exact q⟩
theorem ZEA(x:Str):(relabel scope env).names.lookup x=(scope.names.lookup x).map λk=>if(k==NameKind.free&&env.scope.kind == .function&&env.kindOf x==xU .cell)=vZ then .cell else k:=by
 unfold relabel;generalize scope.names=l
 induction l with
 |nil=>rfl
 | cons y r ih=>
  obtain⟨n,k⟩:=y;by_cases e:x=n
  ·subst e;simp only[zQ]
   cases hc:(k==NameKind.free&&env.scope.kind==ScopeKind.function&&env.kindOf x==xU NameKind.cell) <;>
    simp only[hc,if_true,qC,beq_self_eq_true,j3,Bool.false_eq_true,if_false]
  ·have hb:(x==n)=vJ:=beq_eq_false_iff_ne.mpr e;simp only[zQ];split
   ·rw[qC,qC,hb];exact ih
   ·rw[qC,qC,hb];exact ih
def blk(X:Cx)(N:List Str)(scope:jF)(C:j9)(s₀:jG)(H₀:Hp)(ex:List j9):Cx where
 prog:=X.prog
 w:=X.w
 K:=X.K
 mg:=X.mg
 base:=X.base
 A:=X.A
 N:=N
 s₀:=s₀
 H₀:=H₀
 env:=compEnvC scope (Ff X.env scope.names []) C X.env
 outer:=X.stack
 stack:=X.stack
 ex:=ex
 fn:=λ_=>vJ
 calm:=X.calm
 pn:=[]
 xe:=λ_ _=>False
structure CompSc (X:Cx) (N:List Str) (scope:jF) (nt:Nat) (caps:List Nat):Prop where
 kind:scope.kind=.function
 names:∀y∈scope.names,y.2=.local->scope.names.lookup y.1=xU .local
 nocell:∀y∈scope.names,y.2≠ .cell
 free:∀y∈scope.names,y.2=.free->X.env.kindOf y.1=xU .cell∨X.env.kindOf y.1=xU .free
 nd:N.Nodup
 len:N.length=nt+caps.length
 cap:∀(k j:Nat),caps[k]?=xU j->∃x,X.N[j]?=xU x/\N[nt+k]?=xU x/\scope.names.lookup x=xU .free
section
variable{X:Cx}{xT:List (j9×Obj)}{σ:St}{H:Hp}{s:jG}{N:List Str}{scope:jF}{nt:Nat}{caps:List Nat}
theorem CompSc.cells(c:CompSc X N scope nt caps)(ok:X.Ok):∀y∈scope.names,y.2=.free->∃c,X.env.cells.lookup y.1=xU c:=λy hy hk=>ok.has y.1 (c.free y hy hk)
theorem CompSc.cl(c:CompSc X N scope nt caps)(ok:X.Ok){d:j9}(h:(Ff X.env scope.names []).lookup x=xU d):X.env.cells.lookup x=xU d:=
 ZBN (c.cells ok) (λp hp=>by cases hp) (x,d) (PySem.mem_of_lookup h)
theorem ZIv(c:CompSc X N scope nt caps)(I:Inv X xT σ H s){fp:List j9}(hf:∀b∈fp,FpOk X xT H b){C:j9}(hC:s.heap.objs.size<=C)(hCf:C∉fp):(blk X N scope C s H fp).Ok where
 mod:=I.ok.mod
 kind:=c.kind
 glob:=I.ok.glob
 blt:=I.ok.blt
 above:=hC
 inj:=λx y d h1 h2=>I.ok.inj x y d (c.cl I.ok h1) (c.cl I.ok h2)
 has:=λx h=>by
  have h':(relabel scope X.env).names.lookup x=xU .cell∨(relabel scope X.env).names.lookup x=xU .free:=h;rw[ZEA]at h';have hfree:scope.names.lookup x=xU .free:=by
   cases e:scope.names.lookup x with
   |none=>rw[e]at h';rcases h' with h'|h'<;>cases h'
   |some k=>
    rw[e]at h';cases k with
    |free=>rfl
    |cell=>exact absurd rfl (c.nocell _ (PySem.mem_of_lookup e))
    |_=>rcases h' with h'|h'<;>(simp at h')
  obtain⟨d,hd⟩:=Vm (env:=X.env) (x:=x) (names:=scope.names) (cs:=[]) (.inl (PySem.mem_of_lookup hfree));exact Zv hd
 cab:=λx d h=>by cases h
 hd:=I.ok.hd
 frames:=I.ok.frames
 stk:=.inl rfl
 exf:=λb hb=>⟨λz=>hCf (by rw[<-show b=C from z];exact hb),λx d h=>(hf b hb).2.2.2.2.1 x d (c.cl I.ok h)⟩
 bs:=I.bs
 bsz:=z0 I.ok.bsz I.sz
 noex:=λb o e hb=>by
  rcases(hf b hb).2.2.2.1 with h|h
  ·exact I.ok.noex b o e h
  ·exact absurd (zV (zz (I.ok.bs b o e).1) h) (zO _)
 exfs:=λb hb hz=>by
  rcases zJ.mp (I.Xr b hz)with z|z
  ·exact(hf b hb).2.1 z
  ·exact(hf b hb).2.2.1 z
 funs:=I.stack
 frf:=I.ZEM
end
def Cj(g:DG)(c:DB)(te:DE)(S:DSt):List D->DH->R (List D)
 |[],G=>.ok [] G
 | x::xs,G=>(g x S G).bind λS1 G1=>(c S1 G1).bind λk G2=>
   if k=vZ then(te S1 G2).bind λd G3=>(Cj g c te S xs G3).bind λds G4=>.ok (d::ds) G4 else Cj g c te S xs G2
def Hf(i:Nat)(g:DG)(c:DB)(te:DE)(S:DSt):Nat->Nat->DH->R (List D)
 |0,j,G=>match G[i]? with
  |some (.lst xs)=>if xs.length<=j then .ok [] G else .bad
  |_=>.bad
 | n + 1,j,G=>match G[i]? with
  |some (.lst xs)=>match xs[j]? with
   | some x=>(g x S G).bind λS1 G1=>(c S1 G1).bind λk G2=>
     if k=vZ then(te S1 G2).bind λd G3=>(Hf i g c te S n (j+1) G3).bind λds G4=>.ok (d::ds) G4 else Hf i g c te S n (j+1) G2
   |none=>.ok [] G
  |_=>.bad
def Eo(f:Nat->DH->Option (Option D))(g:DG)(c:DB)(te:DE)(S:DSt):Nat->Nat->DH->R (List D)
 |0,j,G=>match f j G with
  |some vQ=>.ok [] G
  |_=>.bad
 | n + 1,j,G=>match f j G with
  |some (xU x)=>(g x S G).bind λS1 G1=>(c S1 G1).bind λk G2=>
     if k=vZ then(te S1 G2).bind λd G3=>(Eo f g c te S n (j+1) G3).bind λds G4=>.ok (d::ds) G4 else Eo f g c te S n (j+1) G2
  |some vQ=>.ok [] G
  |none=>.bad
noncomputable def Bq(nt:Nat)(caps:List Nat)(S:DSt):DSt:=zN nt vQ++caps.map λj=>(S[j]?).join
def De(it:DI)(nt:Nat)(caps:List Nat)(g:DG)(c:DB)(te:DE):DE:=λS G=>(it S G).bind λJ G1=>(match J with
 |.pure xs=>Cj g c te (Bq nt caps S) xs G1
 |.mt i=>match G1[i]? with
  |some (.lst xs)=>Hf i g c te (Bq nt caps S) xs.length 0 G1
  |_=>.bad
 |.fn n f=>Eo f g c te (Bq nt caps S) n 0 G1).bind Bo
noncomputable def Bp:DB:=λ_ G=>.ok vZ G
def GK(nt:Nat)(g:DG):Prop:=∀d S G S1 G1,g d S G=.ok S1 G1->∀i e,nt<=i->S[i]?=xU (xU e)->S1[i]?=xU (xU e)
def GKs(nt:Nat)(g:DGs):Prop:=∀d S G S1 G1,g d S G=.ok S1 G1->∀i e,nt<=i->S[i]?=xU (xU e)->S1[i]?=xU (xU e)
theorem Cr(h:i<nt):GK nt (gV i):=λd S G S1 G1 e j x hj hx=>by cases e;rw[j1 (by lia)];exact hx
theorem Np:GKs nt Cv:=λd S G S1 G1 e j x hj hx=>by
 cases d with
 |nil=>cases e;exact hx
 |cons _ _=>cases e
theorem Gi{t:DG}{u:DGs}(h1:GK nt t)(h2:GKs nt u):GKs nt (Ar t u):=λd S G S1 G1 e j x hj hx=>by
 cases d with
 |nil=>cases e
 |cons a r=>
  have e':(t a S G).bind (λS1 G1=>u r S1 G1)=.ok S1 G1:=e;cases ht:t a S G with
  |ok S2 G2=>rw[ht]at e';exact h2 _ _ _ _ _ e' j x hj (h1 _ _ _ _ _ ht j x hj hx)
  |err _ _=>rw[ht]at e';cases e'
  |bad=>rw[ht]at e';cases e'
theorem Nf{n:Nat}{t:DGs}(h:GKs nt t):GK nt (Cq n t):=λd S G S1 G1 e j x hj hx=>by
 cases d with
 |tup ds=>
  unfold Cq at e;dsimp only at e;split at e
  ·exact h _ _ _ _ _ e j x hj hx
  ·cases e
 |_=>cases e
theorem ZJt{r:R DSt}{f:DSt->DH->R D}(h:out E a (r.bind f) Q):
  Hh E a r (λσ H=>∃(b:Wd)(S:DSt)(G:DH),b.H=H/\Ext a b/\Sim b G/\RepS b S σ/\r=.ok S G/\out E b (f S G) Q):=by
 cases r with
 |ok d G=>exact λb v x s q=>⟨b,d,G,rfl,x,s,q,rfl,out.mono x h⟩
 |err e G=>exact h
 |bad=>exact h
theorem R.bind_assoc{β γ:Type}(r:R α)(f:α->DH->R β)(g:β->DH->R γ):(r.bind f).bind g=r.bind λa G=>(f a G).bind g:=by cases r<;>rfl
theorem ZDL{r:R ItD}{f:ItD->DH->R D}(h:out E a (r.bind f) Q):
  outI E a r (λJ H=>∃(b:Wd)(d:ItD)(G:DH),b.H=H/\Ext a b/\Sim b G/\RepI b d J/\r=.ok d G/\out E b (f d G) Q):=by
 cases r with
 |ok d G=>exact λb v x s q=>⟨b,d,G,rfl,x,s,q,rfl,out.mono x h⟩
 |err e G=>exact h
 |bad=>exact h
section
variable{prog:jE}{w:jL}{A:jA}{R':Result->jG->Prop}{s:jG}
theorem ZMg{elt target iter:jB}{ifs:List jB}{scope:jF}{pos:Pos}{it acc:jI}{env:Env}(I:Nat->jG->Prop)
  (turn:∀n s,I n s->xB (xw prog w) A (pyNext it) (λr s₁=>match r with
   |none=>R' (.ok .next) s₁
   | some v=>xB (xw prog w) A (xz target it v) (λ_ s₁=>xB (xw prog w) A (assign target env v) (λ_ s₂=>
     xB (xw prog w) A (forIn ifs vZ λc r=>if r=vZ then do let ok<-isTrue c env (eval c env);pure (ForInStep.yield ok)else pure (ForInStep.yield r)) (λok s₃=>
      if ok=vZ then xB (xw prog w) A (eval elt env) (λx s₄=>
       xB (xw prog w) A (call (.builtin "list.append") [acc,x]) (λ_ s₅=>∃m,m<n/\I m s₅) (λ_ _=>False) s₄) (λ_ _=>False) s₃
      else∃m,m<n/\I m s₃) (λ_ _=>False) s₂) (λ_ _=>False) s₁) (λ_ _=>False) s₁) (λ_ _=>False) s)
  (n:Nat) (h:I n s):
  codeAny (xw prog w) A (.compLoop (.ListComp elt [⟨target,iter,ifs,0⟩] scope pos) 0 it acc env) R' s:=by
 refine codeAny_loop rfl I (λn s hI=>?_) n h
 show xB _ A ((compTurn (.ListComp elt [⟨target,iter,ifs,0⟩] scope pos) 0 it acc env).onRaise (λx=>do noteFrame x env;theTreesLotGoes x)) _ _ s
 refine wpAny_noted ?_;rw[compTurn_list];refine xI ?_ (λ_ _ q=>q) (λ_ _(f:False)=>f.elim);refine xD (wpAny_standAt (xD (xI (turn n s hI) (λr s₁ h₁=>?_) λ_ _ h'=>h')));cases r with
 |none=>exact xN h₁
 | some v=>
  refine xD (xI h₁ (λ_ s₂' h₁=>?_) λ_ _ h'=>h');refine xD (xI h₁ (λ_ s₂ h₂=>xD (xI h₂ (λok s₃ h₃=>?_) λ_ _ h'=>h')) λ_ _ h'=>h');cases ok with
  |false=>exact xN ⟨rfl,h₃⟩
  |true=>
   exact xD (xD (xI h₃ (λx s₄ h₄=>xD (xI h₄ (λ_ s₅ h₅=>xN (xN ⟨rfl,h₅⟩)) λ_ _ h'=>h')) λ_ _ h'=>h'))
end
def QTs(X:Cx)(E:XK)(ifs:List jB)(t:DB):Prop:=
 ∀(xT:List (j9×Obj))(s:jG)(σ:St)(H:Hp)(Q:Bool->Hp->Prop),Inv X xT σ H s->lB X.K E t σ H Q->
  xB (xw X.prog X.w) X.A (forIn ifs vZ λc r=>if r=vZ then do let ok<-isTrue c X.env (eval c X.env);pure (ForInStep.yield ok)else pure (ForInStep.yield r)) (TP X xT σ Q) X.xe s
theorem Dw:QTs X E [] Bp:=λxT s σ H Q I h=>by obtain⟨a,S,G,hk,rfl,sm,r,h⟩:=h;exact wpAny_tests_nil ⟨a.H,I,h a (Ext.refl a) sm⟩
theorem ZCN{c:jB}{t:DB}(hc:QT X E c t):QTs X E [c] t:=λxT s σ H Q I h=>wpAny_tests_one (hc xT s σ H Q I h)
section
variable{X:Cx}{E:XK}{N:List Str}{scope:jF}{nt:Nat}{caps:List Nat}{tg elt iter:jB}{ifs:List jB}{pos:Pos}{it:DI}{g:DG}{c:DB}{te:DE}
theorem ZME(r:RepS a S σ):RepS a (Bq nt caps S) (zN nt vQ++caps.map λj=>(σ[j]?).join):=by
 refine⟨by simp[Bq],λi d h=>?_⟩;unfold Bq at h;by_cases hi:i<nt
 ·rw[zP (by simpa using hi),qB]at h
  split at h<;>cases h
 ·rw [zE (by simpa using hi),zR]at h;rw[zE (by simpa using hi),zR];rw[jq]at h⊢;cases e:caps[i-nt]? with
  |none=>rw[e]at h;cases h
  | some j=>
   rw[e]at h;have h1:(S[j]?).join=xU d:=by simpa using h
   have h2:S[j]?=xU (xU d):=by
    cases q:S[j]? with
    |none=>rw[q]at h1;cases h1
    |some o=>
     rw[q]at h1;have h1':o=xU d:=h1;rw[h1']
   obtain⟨v,ev,rv⟩:=r.get j d h2;exact⟨v,by simp[ev],rv⟩
theorem ZJi(h:(Bq nt caps S)[i]?=xU (xU d)):nt<=i:=by
 unfold Bq at h;by_cases hi:i<nt
 ·rw[zP (by simpa using hi),qB]at h
  split at h<;>cases h
 ·lia
theorem ZAQ (hc:X.calm=vZ) (cs:CompSc X N scope nt caps)
  (hg:∀C s₀ H₀ ex,QG (blk X N scope C s₀ H₀ ex) E0 tg g) (gk:GK nt g) (hts:∀C s₀ H₀ ex,QTs (blk X N scope C s₀ H₀ ex) E0 ifs c) (he:∀C s₀ H₀ ex,QE (blk X N scope C s₀ H₀ ex) E0 elt te)
  {xT:List (j9×Obj)} {σ:St} {s:jG} {a:Wd} {S:DSt} {G:DH} {J:It} {n0:Nat} {f:Nat->DH->Option (Option D)} {i0:j9} {fp:List j9} {tn:Nat->Heap->Prop} (I:Inv X xT σ a.H s) (hk:a.K=X.K) (sm:Sim a G) (rS:RepS a S σ)
  (T:Turn X.prog X.w X.K tg J fp i0 tn) (t0:tn 0 s.heap) (hf:∀b∈fp,FpOk X xT a.H b) (rJ:RepI a (.fn n0 f) J) {Q:VK}
  (h:out E0 a ((Eo f g c te (Bq nt caps S) n0 0 G).bind Bo) Q)
  {RR:jI->j9->Result->jG->Prop} {E':jI->jG->Prop}
  (hRR:∀(D C:j9)(s':jG)(b:Wd)(vs:List V),Inv X xT σ (upd b.H D (.lst vs)) s'->b.H D=vQ->s.heap.objs.size<=C->D≠C->(∃m,s'.heap.Ns C m)->b.H C=vQ->Q (.ref D) (upd b.H D (.lst vs))->RR (.ref D) C (.ok .next) s'):
  xB (xw X.prog X.w) X.A (newList []) (λacc s₃=>xB (xw X.prog X.w) X.A (newFunctionEnv scope X.env.globals (Ff X.env scope.names []) [] X.env.qual vQ .none (xU X.env)) (λcenv s₄=>
   codeAny (xw X.prog X.w) X.A (.compStart (.ListComp elt [⟨tg,iter,ifs,0⟩] scope pos) 0 (.ref i0) acc {cenv with scope:=relabel scope X.env}) (RR acc cenv.locals) s₄) E' s₃) E' s:=by
 refine xL (wpAny_newFunctionEnv cs.nocell (by intro y hy;simp at hy) (λh₁ hns₁ hsb₁=>?_) cs.kind);dsimp only at hns₁ hsb₁⊢;generalize hH2:s.heap.push {cls:=.type "list",dict:=vQ,data:=.seq ([]:List jI).toArray}=H2 at hns₁ hsb₁⊢;have hC:H2.objs.size=s.heap.objs.size+1:=by rw[<-hH2,jW]
 have hDC:s.heap.objs.size≠H2.objs.size:=by rw[hC];exact zL (qK _)
 have hCle:s.heap.objs.size<=H2.objs.size:=by rw[hC];exact jj _
 have fpOld:∀b∈fp,b<s.heap.objs.size:=λb hb=>by obtain⟨o,e,_⟩:=T.obj 0 _ t0 b hb;exact zz e
 have hDf:s.heap.objs.size∉fp:=λhm=>zO _ (fpOld _ hm)
 have hCf:H2.objs.size∉fp:=λhm=>by have:=fpOld _ hm;rw[hC]at this;exact zO _ (Nat.lt_of_succ_lt this)
 have old:∀b o,s.heap.get? b=xU o->h₁.get? b=xU o:=λb o e=>
  hsb₁.extBut b o (by rw[hC];exact zL (Nat.lt_succ_of_lt (zz e))) (zX _ (hH2▸zX _ e))
 have hacc:h₁.PlainList s.heap.objs.size ([]:List jI).toArray:=⟨_,hsb₁.extBut _ _ hDC (zX _ (hH2▸zk _ rfl))⟩;generalize hCe:H2.objs.size=C at*;generalize hDe:s.heap.objs.size=Dd at*;let B:=blk X N scope C s a.H fp;have okB:B.Ok:=ZIv cs I hf (by rw[hDe];exact hCle) hCf;let σ0:St:=zN nt vQ++caps.map λj=>(σ[j]?).join
 have start:∀tk,Inv B [] σ0 a.H {s with heap:=h₁,toks:=tk}:=λtk=>by
  refine⟨okB,rfl,I.bare,Un.kept old,⟨_,hns₁,λi x v e1 e2 e3=>?_⟩,λx d' e=>?_,I.hok.fresh (by rw[hDe];exact hCle),λx d' e=>?_,λp hp=>?_,I.hok.kept old,?_⟩
  ·have hi:nt<=i:=by
    by_cases hi:i<nt
    ·have e2':σ0[i]?=xU (xU v):=e2;rw[zP (by simpa using hi),qB]at e2'
     split at e2'<;>cases e2'
    ·lia
   have e2':σ0[i]?=xU (xU v):=e2;rw[zE (by simpa using hi),zR,jq]at e2';cases ej:caps[i-nt]? with
   |none=>rw[ej]at e2';cases e2'
   | some j=>
    rw[ej]at e2';have h1:(σ[j]?).join=xU v:=by simpa using e2'
    have h2:σ[j]?=xU (xU v):=by
     cases q:σ[j]? with
     |none=>rw[q]at h1;cases h1
     |some o=>
      rw[q]at h1;have h1':o=xU v:=h1;rw[h1']
    obtain⟨y,ey,en,ek⟩:=cs.cap (i-nt) j ej;have exy:x=y:=by
     have:nt+(i-nt)=i:=by lia
     rw[this]at en;have e1':N[i]?=xU x:=e1;rw[e1']at en;exact Option.some.inj en
    subst exy;have kx:=cs.free (x,.free) (PySem.mem_of_lookup ek) rfl;have vis:Vis X.env.scope x:=by
     rcases kx with kx|kx
     ·exact .inr (.inl kx)
     ·exact .inr (.inr kx)
    obtain⟨m,hn,hl⟩:=I.loc;obtain⟨u,ru,lk⟩:=hl j x v ey h2 vis;refine⟨u,ru,?_⟩;rcases lk with⟨k1,_⟩|⟨k1,c1,ec,hcell⟩
    ·rcases kx with kx|kx
     ·rw[k1]at kx;cases kx
     ·rw[k1]at kx;cases kx
    ·refine .inr ⟨?_,c1,?_,?_⟩
     ·show(relabel scope X.env).names.lookup x=xU .cell∨(relabel scope X.env).names.lookup x=xU .free;rw[ZEA,ek];simp only[j3];split
      ·exact .inl rfl
      ·exact .inr rfl
     ·obtain⟨d1,hd1⟩:=Vm (env:=X.env) (x:=x) (names:=scope.names) (cs:=[]) (.inl (PySem.mem_of_lookup ek));obtain⟨d2,hd2⟩:=Zv hd1;have:=cs.cl I.ok hd2;rw[ec]at this;cases this;exact hd2
     ·obtain⟨o,e,dd⟩:=hcell;exact⟨o,old _ _ e,dd⟩
  ·obtain⟨v,o,e',dd⟩:=I.cell x d' (cs.cl I.ok e);exact⟨v,o,old _ _ e',dd⟩
  ·exact I.Iz x d' (cs.cl I.ok e)
  ·exact absurd hp (by simp[B,blk])
  ·show σ0.length=N.length;rw[cs.len];simp[σ0]
 have rS0:RepS a (Bq nt caps S) σ0:=ZME rS;have aD:a.H Dd=vQ:=I.hok.fresh (by rw[hDe];exact zW _);have young:∀b∈fp,b≠C:=λb hb z=>hCf (z▸hb)
 have fpB:∀{H':Hp}{ps:List (j9×Obj)},(∀b∈fp,H' b=vQ)->(∀p∈ps,p.1∉fp)->∀b∈fp,FpOk B ps H' b:=λ{H' ps}hn hps b hb=>
  ⟨hn b hb,young b hb,okB.exfs b hb,.inl hb,λx d' e=>(hf b hb).2.2.2.2.1 x d' (cs.cl I.ok e),λp hp z=>by
   have hp':p∈ps:=by simpa[B,blk]using hp
   exact hps p hp' (z▸hb)⟩
 have nstk:Dd∉frs X.stack:=λz=>by
  rcases zJ.mp (I.Xr Dd z)with z|z
  ·have:=I.lt;rw[hDe,<-z]at this;exact zO _ this
  ·exact I.nofs (by rw[hDe];exact zW _) z
 have pinD:∀{σ':St}{H':Hp}{s':jG}{its:List jI}{nD:Nat},Inv B [] σ' H' s'->s'.heap.get? Dd=xU {cls:=.type "list",data:=.seq its.toArray nD}->H' Dd=vQ->Inv B [(Dd,{cls:=.type "list",data:=.seq its.toArray nD})] σ' H' s':=λ{σ' H' s' its nD}J e n=>
  J.Kz λp hp=>by
   have ep:p=(Dd,{cls:=.type "list",data:=.seq its.toArray nD}):=by simpa using hp
   subst ep;exact⟨e,n,hDC,nstk,λv' z=>by cases z⟩
 have fin:∀(s':jG)(b:Wd)(σ':St)(its:List jI)(ds:List D)(G':DH),Inv B [] σ' b.H s'->Ext a b->Sim b G'->s'.heap.PlainList Dd its.toArray->b.H Dd=vQ->(∃vs,Vals vs its/\Reps b ds vs)->out E0 b (Bo ds G') Q->RR (.ref Dd) C (.ok .next) s':=by
  intro s' b σ' its ds G' IB x sb pl hD ⟨vs,hv,rv⟩ hq;have hz:ds.length<=1000000:=by
   unfold Bo at hq;split at hq
   ·assumption
   ·exact hq.elim
  have Ix:Inv X xT σ b.H s':=I.call' IB.os IB.base IB.hok IB.bare λb hb=>⟨(hf b hb).2.2.2.1,(hf b hb).2.1,(hf b hb).2.2.2.2.1,(hf b hb).2.2.2.2.2⟩
  obtain⟨n,eD⟩:=pl;have ylt:∀{q:j9}{o:Obj},s.heap.get? q=xU o->q≠Dd:=λe z=>by rw[z,<-hDe]at e;exact absurd (zz e) (zO _)
  have Ia:Inv X xT σ (upd b.H Dd (.lst vs)) s':=by
   refine ZEC Ix hD (by rw[<-hDe];exact I.sz) ?_ (λy c' ec=>?_) (λp hp=>?_) ⟨?_,its,n,hv,eD⟩
   ·rw[<-hDe];exact j6 I.lt
   ·obtain⟨v,o,e,_⟩:=I.cell y c' ec;exact ylt e
   ·exact ylt (I.pin p hp).1
   ·rw[<-rv.length];exact z0 hz size6
  refine hRR Dd C s' b vs Ia hD hCle hDC (let⟨m,hn,_⟩:=IB.loc;⟨m,hn⟩) IB.free ?_;unfold Bo at hq;rw[if_pos hz]at hq;exact Qy sb rv hq Dd hD
 have turnX:∀(n:Nat)(P:Nat->jG->Prop)(rest:DH->R (List D))(s1:jG)(b:Wd)(G1:DH)(σ1:St)(its:List jI)(acc:List D)(u:jI)(v:V)(x:D)(i:Nat),Inv B [] σ1 b.H s1->Ext a b->Sim b G1->RepS b (Bq nt caps S) σ1->tn i s1.heap->(∀q∈fp,b.H q=vQ)->
   s1.heap.PlainList Dd its.toArray->b.H Dd=vQ->(∃vs,Vals vs its/\Reps b acc vs)->RelV v u->Rep b x v->
   out E0 b (((g x (Bq nt caps S) G1).bind λS1 G1=>(c S1 G1).bind λk G2=>if k=vZ then(te S1 G2).bind λd G3=>(rest G3).bind λds G4=>.ok (d::ds) G4 else rest G2).bind λds G=>Bo (acc++ds) G) Q->
   (∀(s2:jG)(b2:Wd)(G2:DH)(σ2:St)(its2:List jI)(acc2:List D),Inv B [] σ2 b2.H s2->Ext a b2->Sim b2 G2->RepS b2 (Bq nt caps S) σ2->tn i s2.heap->(∀q∈fp,b2.H q=vQ)->
    s2.heap.PlainList Dd its2.toArray->b2.H Dd=vQ->(∃vs,Vals vs its2/\Reps b2 acc2 vs)->out E0 b2 ((rest G2).bind λds G=>Bo (acc2++ds) G) Q->∃m,m<n/\P m s2)->
   xB (xw X.prog X.w) X.A (assign tg B.env u) (λ_ s₂=>
     xB (xw X.prog X.w) X.A (forIn ifs vZ λc r=>if r=vZ then do let ok<-isTrue c B.env (eval c B.env);pure (ForInStep.yield ok)else pure (ForInStep.yield r)) (λok s₃=>
      if ok=vZ then xB (xw X.prog X.w) X.A (eval elt B.env) (λx s₄=>
       xB (xw X.prog X.w) X.A (call (.builtin "list.append") [.ref Dd,x]) (λ_ s₅=>∃m,m<n/\P m s₅) (λ_ _=>False) s₄) (λ_ _=>False) s₃
      else∃m,m<n/\P m s₃) (λ_ _=>False) s₂) (λ_ _=>False) s1:=by
  intro n P rest s1 b G1 σ1 its acc u v x i I1 x1 sb rSb t1 hfp pl hD hacc' ru rx hq next
  rw[R.bind_assoc]at hq;obtain⟨nD,eD⟩:=id pl;let pinD:List (j9×Obj):=[(Dd,{cls:=.type "list",data:=.seq its.toArray nD})];have pinOk:∀{σ':St}{H':Hp}{s':jG},Inv B (pinD++O9 fp s1.heap) σ' H' s'->s'.heap.PlainList Dd its.toArray/\H' Dd=vQ/\tn i s'.heap/\∀q∈fp,H' q=vQ:=λ{σ' H' s'}J=>by
   have p1:=J.pin (Dd,{cls:=.type "list",data:=.seq its.toArray nD}) (zC _ (j0 _ (by simp[pinD])));refine⟨⟨nD,p1.1⟩,p1.2.1,T.keep _ _ _ t1 λq hq' o e=>(J.pin (q,o) (zC _ (zC _ (Wa hq' e)))).1,λq hq'=>?_⟩;obtain⟨o,e,_⟩:=T.obj _ _ t1 q hq';exact(J.pin (q,o) (zC _ (zC _ (Wa hq' e)))).2.1
  have I2:Inv B (pinD++O9 fp s1.heap) σ1 b.H s1:=I1.Kz λp hp=>by
   rcases zB.mp hp with hp|hp
   ·have e:p=(Dd,{cls:=.type "list",data:=.seq its.toArray nD}):=by simpa[pinD]using hp
    subst e;refine⟨eD,hD,hDC,λz=>?_,λv' z=>by cases z⟩;exact nstk z
   ·obtain⟨hb,e⟩:=ZG0 hp;obtain⟨f0,f1,f2,_⟩:=fpB (ps:=[]) hfp (λp hp=>by cases hp) p.1 hb;obtain⟨o,e',dd⟩:=T.obj _ _ t1 p.1 hb;rw[e]at e';cases e';exact⟨e,f0,f1,f2,dd⟩
  refine thn (hg C s a.H fp _ s1 σ1 b.H v u _ I2 ru ⟨b,Bq nt caps S,G1,x,x1.k.trans hk,rfl,sb,rSb,rx,(ZJt hq).imp λ_ _ z=>z⟩) ?_;rintro _ s2 ⟨σ2,H2',J2,b2,S2,G2,rfl,y2,sb2,rS2,eg,hq2⟩;rw[R.bind_assoc]at hq2;have rS2':RepS b2 (Bq nt caps S) σ2:=⟨by have h1:=J2.len;have h2:σ1.length=N.length:=I1.len;rw[rSb.len,h2];exact h1.symm,λj e' hj=>rS2.get j e' (gk _ _ _ _ _ eg j e' (ZJi hj) hj)⟩
  refine thn (hts C s a.H fp _ s2 σ2 b2.H _ J2 ⟨b2,S2,G2,y2.k.trans (x1.k.trans hk),rfl,sb2,rS2,(ZM6 hq2).imp λ_ _ z=>z⟩) ?_;rintro k s3 ⟨H3,J3,b3,G3,rfl,y3,sb3,_,hq3⟩;cases k with
  |false=>
   obtain⟨p1,p2,p3,p4⟩:=pinOk J3;have Jn:Inv B [] σ2 b3.H s3:=J3.Kz λp hp=>by cases hp
   obtain⟨vs,hv,rv⟩:=hacc'
   exact next s3 b3 G3 σ2 its acc Jn (x1.trans (y2.trans y3)) sb3 (rS2'.mono y3) p3 p4 p1 p2 ⟨vs,hv,(rv.mono y2).mono y3⟩ hq3
  | true=>
   have hq3':out E0 b3 (((te S2 G3).bind λd G3=>(rest G3).bind λds G4=>.ok (d::ds) G4).bind λds G=>Bo (acc++ds) G) Q:=hq3;rw[R.bind_assoc]at hq3';refine thn (he C s a.H fp _ s3 σ2 b3.H _ J3 ⟨b3,S2,G3,y3.k.trans (y2.k.trans (x1.k.trans hk)),rfl,sb3,rS2.mono y3,(G6 hq3').imp λ_ _ z=>z⟩) ?_;rintro w s4 ⟨vw,H4,J4,rw',b4,d4,G4,rfl,y4,sb4,q4,_,hq4⟩;obtain⟨p1,p2,p3,p4⟩:=pinOk J4;rw[R.bind_assoc]at hq4
   have hq4':out E0 b4 ((rest G4).bind λds G=>Bo ((acc++[d4])++ds) G) Q:=by
    have e:(λ(ds:List D)(G:DH)=>(R.ok (d4::ds) G).bind λds G=>Bo (acc++ds) G)=λds G=>Bo ((acc++[d4])++ds) G:=by funext ds G;simp
    rw[<-e];exact hq4
   obtain⟨vs,hv,rv⟩:=hacc';have hsz:its.toArray.size<=sizeLine:=by
    have:acc.length<=1000000:=by
     cases hr:rest G4 with
     |ok ds G5=>
      rw[hr]at hq4';have hq5:out E0 b4 (Bo ((acc++[d4])++ds) G5) Q:=hq4';unfold Bo at hq5;split at hq5
      ·rename_i hl;simp at hl;lia
      ·exact hq5.elim
     |err e' G5=>rw[hr]at hq4';exact hq4'.elim
     |bad=>rw[hr]at hq4';exact hq4'.elim
    rw[zq,<-hv.length,<-rv.length];exact z0 this size6
   refine wpAny_list_append_plain p1 (λh' hpl hsb=>?_) hsz;have Jn:Inv B [] σ2 b4.H s4:=J4.Kz λp hp=>by cases hp
   have J5:Inv B [] σ2 b4.H {s4 with heap:=h'}:=by refine Jn.turned (it:=Dd) (t':=s4.toks) (λq o hq' e=>(hsb.2 q hq').trans e) p2 hDC (.inr (by show s.heap.objs.size<=Dd;rw[hDe];exact zW _)) (λy c' ec=>?_) (λp hp=>absurd hp (by simp[B,blk]));obtain⟨v',o,e,_⟩:=I.cell y c' (cs.cl I.ok ec);intro z;rw[z,<-hDe]at e;exact absurd (zz e) (zO _)
   refine next _ b4 G4 σ2 (its++[w]) (acc++[d4]) J5 (x1.trans (y2.trans (y3.trans y4))) sb4 ((rS2'.mono y3).mono y4) (T.keep _ _ _ p3 λq hq' o e=>(hsb.2 q (λz=>hDf (z▸hq'))).trans e) p4 (by simpa using hpl) p2 ⟨vs++[vw],hv.append (.cons rw' .nil),(((rv.mono y2).mono y3).mono y4).append (Reps.cons q4 Reps.nil)⟩ hq4'
 have loop:∀s₃:jG,s₃={s with heap:=h₁,toks:=s.toks+([]:List (Str×jI)).length}->
   codeAny (xw X.prog X.w) X.A (.compLoop (.ListComp elt [⟨tg,iter,ifs,0⟩] scope pos) 0 (.ref i0) (.ref Dd) B.env) (RR (.ref Dd) C) s₃:=by
  rintro s₃ rfl;have t1:tn 0 h₁:=T.keep _ _ _ t0 λq _ o e=>old q o e
  have fp0:∀q∈fp,a.H q=vQ:=λq hq=>(hf q hq).1
  have walk:∀b:Wd,Ext a b->∀G,Sim b G->∀i,(∀d,f i G=xU (xU d)->J.go i b.H/\∀x H',J.yld i b.H x H'->∃c:Wd,c.H=H'/\Ext b c/\Sim c G/\Rep c d x)/\(f i G=xU vQ->J.stop i b.H):=rJ;refine ZMg (λm s'=>∃(i:Nat)(b:Wd)(G':DH)(σ':St)(its:List jI)(acc:List D),Inv B [] σ' b.H s'/\Ext a b/\Sim b G'/\RepS b (Bq nt caps S) σ'/\tn i s'.heap/\(∀q∈fp,b.H q=vQ)/\s'.heap.PlainList Dd its.toArray/\b.H Dd=vQ/\(∃vs,Vals vs its/\Reps b acc vs)/\
   out E0 b ((Eo f g c te (Bq nt caps S) m i G').bind λds G=>Bo (acc++ds) G) Q) ?_ n0 ⟨0,a,G,σ0,[],[],start _,Ext.refl a,sm,rS0,t1,fp0,hacc,aD,⟨[],.nil,rfl⟩,by simpa using h⟩
  rintro m s' ⟨i,b,G',σ',its,acc,IB,x,sb,rSb,ti,hfp,pl,hD,hac,hq⟩;obtain⟨nD,eD⟩:=pl;have I0:=pinD IB eD hD;have f0:=fpB (ps:=[(Dd,{cls:=.type "list",data:=.seq its.toArray nD})]) hfp (λp hp=>by
   have ep:p=(Dd,{cls:=.type "list",data:=.seq its.toArray nD}):=by simpa using hp
   subst ep;exact hDf)
  have stop:J.stop i b.H->out E0 b (Bo acc G') Q->xB (xw X.prog X.w) X.A (pyNext (.ref i0)) (λr s₁=>match r with
    |none=>RR (.ref Dd) C (.ok .next) s₁
    | some v=>xB (xw X.prog X.w) X.A (xz tg (.ref i0) v) (λ_ s₁=>xB (xw X.prog X.w) X.A (assign tg B.env v) (λ_ s₂=>
     xB (xw X.prog X.w) X.A (forIn ifs vZ λc r=>if r=vZ then do let ok<-isTrue c B.env (eval c B.env);pure (ForInStep.yield ok)else pure (ForInStep.yield r)) (λok s₃=>
      if ok=vZ then xB (xw X.prog X.w) X.A (eval elt B.env) (λx s₄=>
       xB (xw X.prog X.w) X.A (call (.builtin "list.append") [.ref Dd,x]) (λ_ s₅=>∃m',m'<m/\∃(i:Nat)(b:Wd)(G':DH)(σ':St)(its:List jI)(acc:List D),Inv B [] σ' b.H s₅/\Ext a b/\Sim b G'/\RepS b (Bq nt caps S) σ'/\tn i s₅.heap/\(∀q∈fp,b.H q=vQ)/\s₅.heap.PlainList Dd its.toArray/\b.H Dd=vQ/\(∃vs,Vals vs its/\Reps b acc vs)/\
        out E0 b ((Eo f g c te (Bq nt caps S) m' i G').bind λds G=>Bo (acc++ds) G) Q) (λ_ _=>False) s₄) (λ_ _=>False) s₃
      else∃m',m'<m/\∃(i:Nat)(b:Wd)(G':DH)(σ':St)(its:List jI)(acc:List D),Inv B [] σ' b.H s₃/\Ext a b/\Sim b G'/\RepS b (Bq nt caps S) σ'/\tn i s₃.heap/\(∀q∈fp,b.H q=vQ)/\s₃.heap.PlainList Dd its.toArray/\b.H Dd=vQ/\(∃vs,Vals vs its/\Reps b acc vs)/\
        out E0 b ((Eo f g c te (Bq nt caps S) m' i G').bind λds G=>Bo (acc++ds) G) Q) (λ_ _=>False) s₂) (λ_ _=>False) s₁) (λ_ _=>False) s₁) (λ_ _=>False) s':=by
   intro st hq';refine thn (T.done B rfl rfl rfl hc i _ s' σ' b.H _ I0 f0 ti st) ?_;rintro r s1 ⟨rfl,I2⟩;have pD:=(I2.pin (Dd,{cls:=.type "list",data:=.seq its.toArray nD}) (zC _ (by simp))).1;exact fin s1 b σ' its acc G' (I2.Kz λp hp=>by cases hp) x sb ⟨nD,pD⟩ hD hac hq'
  cases m with
  |zero=>
   unfold Eo at hq;split at hq
   ·rename_i hf;exact stop ((walk b x G' sb i).2 hf) (by have hq':out E0 b (Bo (acc++[]) G') Q:=hq;rw[qG]at hq';exact hq')
   ·exact hq.elim
  | succ m=>
   unfold Eo at hq;split at hq
   ·rename_i d1 hf;obtain⟨go,yl⟩:=(walk b x G' sb i).1 d1 hf;refine thn (T.item B rfl rfl rfl hc i _ s' σ' b.H _ I0 f0 ti go) ?_;rintro r s1 ⟨u,rfl,hgo⟩;refine thn hgo ?_;rintro _ s2 ⟨v,H',I2,ru,y,t2,hfp2⟩;obtain⟨cc,rfl,xx,ss,rd⟩:=yl v H' y;have pD:=I2.pin (Dd,{cls:=.type "list",data:=.seq its.toArray nD}) (zC _ (by simp));obtain⟨vs1,hv1,rv1⟩:=hac;refine turnX _ _ (λG3=>Eo f g c te (Bq nt caps S) m (i+1) G3) s2 cc G' σ' its acc u _ d1 (i+1) (I2.Kz λp hp=>by cases hp) (x.trans xx) ss (rSb.mono xx) t2 hfp2 ⟨nD,pD.1⟩ pD.2.1 ⟨vs1,hv1,rv1.mono xx⟩ ru rd (out.mono xx hq) ?_
    intro s3 b3 G3 σ3 its3 acc3 a1 a2 a3 a4 a5 a6 a7 a8 a9 a10;exact⟨m,qK _,i+1,b3,G3,σ3,its3,acc3,a1,a2,a3,a4,a5,a6,a7,a8,a9,a10⟩
   ·rename_i hf;exact stop ((walk b x G' sb i).2 hf) (by have hq':out E0 b (Bo (acc++[]) G') Q:=hq;rw[qG]at hq';exact hq')
   ·exact hq.elim
 exact codeAny_compStart_list (loop _ rfl) (T.self _ 0 _ _ _ (T.keep _ _ _ t0 λq _ o e=>old q o e) (loop _ rfl))
theorem ZCI{c:DB}:∀(n j:Nat)(G:DH),j+n=xs.length->Cj g c te S (xs.drop j) G=Eo (λj _=>xU xs[j]?) g c te S n j G
 |0,j,G,h=>by
  rw[qx (by lia)]
  show _=(match xU xs[j]? with |some vQ=>R.ok [] G|_=>.bad)
  rw[zU (by lia)]
  rfl
 |n+1,j,G,h=>by
  have hj:j<xs.length:=by lia
  rw[zI hj]
  show(g xs[j] S G).bind _=(match xU xs[j]? with |some (xU x)=>_|some vQ=>R.ok [] G|none=>.bad)
  rw[zY hj];dsimp only
  congr 1
  funext S1 G1
  congr 1
  funext k G2;rw[ZCI n (j+1) G2 (by lia)]
  congr 1
  congr 1
  funext d G3;rw[ZCI n (j+1) G3 (by lia)]
theorem ZFZ{c:DB}:∀(n j:Nat)(G:DH),Hf i g c te S n j G=Eo (mtF i) g c te S n j G
 | 0,j,G=>by
  unfold Hf Eo mtF;cases G[i]? with
  |none=>rfl
  | some o=>
   cases o with
   |lst xs=>
    dsimp only;by_cases hj:j<xs.length
    ·rw[if_neg (by lia),zY hj]
    ·rw[if_pos (by lia),zU (by lia)]
   |_=>rfl
 | n+1,j,G=>by
  have ih:(Hf i g c te S n (j+1))=Eo (mtF i) g c te S n (j+1):=funext λG=>ZFZ n (j+1) G
  unfold Hf Eo;rw[ih];unfold mtF;cases G[i]? with
  |none=>rfl
  | some o=>
   cases o with
   |lst xs=>
    dsimp only
    cases xs[j]?<;>rfl
   |_=>rfl
theorem ZCp(hc:X.calm=vZ)(cs:CompSc X N scope nt caps)
  (hg:∀C s₀ H₀ ex,QG (blk X N scope C s₀ H₀ ex) E0 tg g) (gk:GK nt g) (hts:∀C s₀ H₀ ex,QTs (blk X N scope C s₀ H₀ ex) E0 ifs c) (he:∀C s₀ H₀ ex,QE (blk X N scope C s₀ H₀ ex) E0 elt te)
  {xT:List (j9×Obj)} {σ:St} {s:jG} {a:Wd} {S:DSt} {G:DH} {J:It} {d:ItD} {i0:j9} {fp:List j9} {tn:Nat->Heap->Prop} (I:Inv X xT σ a.H s) (hk:a.K=X.K) (sm:Sim a G) (rS:RepS a S σ)
  (T:Turn X.prog X.w X.K tg J fp i0 tn) (t0:tn 0 s.heap) (hf:∀b∈fp,FpOk X xT a.H b) (rJ:RepI a d J) {Q:VK}
  (h:out E0 a ((match d with
   |.pure xs=>Cj g c te (Bq nt caps S) xs G
   |.mt i=>match G[i]? with
    |some (.lst xs)=>Hf i g c te (Bq nt caps S) xs.length 0 G
    |_=>.bad
   |.fn n f=>Eo f g c te (Bq nt caps S) n 0 G).bind Bo) Q)
  {RR:jI->j9->Result->jG->Prop} {E':jI->jG->Prop}
  (hRR:∀(D C:j9)(s':jG)(b:Wd)(vs:List V),Inv X xT σ (upd b.H D (.lst vs)) s'->b.H D=vQ->s.heap.objs.size<=C->D≠C->(∃m,s'.heap.Ns C m)->b.H C=vQ->Q (.ref D) (upd b.H D (.lst vs))->RR (.ref D) C (.ok .next) s'):
  xB (xw X.prog X.w) X.A (newList []) (λacc s₃=>xB (xw X.prog X.w) X.A (newFunctionEnv scope X.env.globals (Ff X.env scope.names []) [] X.env.qual vQ .none (xU X.env)) (λcenv s₄=>
   codeAny (xw X.prog X.w) X.A (.compStart (.ListComp elt [⟨tg,iter,ifs,0⟩] scope pos) 0 (.ref i0) acc {cenv with scope:=relabel scope X.env}) (RR acc cenv.locals) s₄) E' s₃) E' s:=by
 cases d with
 |pure xs=>
  have h':out E0 a ((Cj g c te (Bq nt caps S) (xs.drop 0) G).bind Bo) Q:=h;rw[ZCI xs.length 0 G (by lia)]at h';exact ZAQ hc cs hg gk hts he I hk sm rS T t0 hf (ZHW rJ) h' hRR
 |mt k=>
  dsimp only at h;split at h
  ·rename_i xs hx;rw[ZFZ]at h;exact ZAQ hc cs hg gk hts he I hk sm rS T t0 hf (ZFS rJ) h hRR
  ·exact h.elim
 |fn n0 f=>exact ZAQ hc cs hg gk hts he I hk sm rS T t0 hf rJ h hRR
end
section
variable{X:Cx}{N:List Str}{scope:jF}{nt:Nat}{caps:List Nat}{tg elt iter:jB}{ifs:List jB}{pos:Pos}{it:DI}{g:DG}{c:DB}{te:DE}
theorem letGo{xT:List (j9×Obj)}{s2 s':jG}{h':Heap}{C:j9}{t':Nat}{σ2:St}{H2:Hp}(I2:Inv X xT σ2 H2 s2)(Ia:Inv X xT σ H s')(hC:s2.heap.objs.size<=C)(hn:H C=vQ)(hsb:qE C s'.heap h'):Inv X xT σ H {s' with heap:=h',toks:=t'}:=by
 have young:∀{b:j9}{o:Obj},s2.heap.get? b=xU o->b≠C:=λe z=>by rw[z]at e;exact absurd (zV (zz e) hC) (zO _)
 refine Ia.turned (it:=C) (λb o hb e=>(hsb.2 b hb).trans e) hn (j6 (zV I2.lt hC)) (.inr (z0 I2.sz hC)) (λx c' e=>?_) λp hp=>?_
 ·obtain⟨v,o,e',_⟩:=I2.cell x c' e;exact young e'
 ·exact young (I2.pin p hp).1
theorem Es(hc:X.calm=vZ)(cs:CompSc X N scope nt caps)(hi:QI X E0 tg iter it)
  (hg:∀C s₀ H₀ ex,QG (blk X N scope C s₀ H₀ ex) E0 tg g) (gk:GK nt g) (hts:∀C s₀ H₀ ex,QTs (blk X N scope C s₀ H₀ ex) E0 ifs c) (he:∀C s₀ H₀ ex,QE (blk X N scope C s₀ H₀ ex) E0 elt te)
  (hs:∀x,foldedSetIterable iter X.env x=pure x:=by intro _;rfl):QE X E0 (.ListComp elt [⟨tg,iter,ifs,0⟩] scope pos) (De it nt caps g c te):=by
 intro xT s σ H Q I h;obtain⟨a,S,G,hk,rfl,sm,r,h⟩:=h;rw[eval_ListComp];refine wpAny_comprehension_free (use:=vQ) rfl hs (ZHM (cs.cells I.ok)) cs.kind cs.names (thn (hi xT s σ a.H _ I ⟨a,S,G,hk,rfl,sm,r,(ZDL h).imp λ_ _ z=>z⟩) λxv s1 h1=>thn h1 λitv s2 h2=>?_);obtain⟨i0,fp,tn,J,H2,rfl,I2,T,t0,f2,b,d,G1,rfl,x,sb,rJ,_,h1⟩:=h2;refine ZCp hc cs hg gk hts he I2 (x.k.trans hk) sb (r.mono x) T t0 f2 rJ h1 (RR:=λacc C=>compPost (xw X.prog X.w) X.A X.xe vQ (EP X xT σ Q) acc C) ?_
 intro D C s' b vs Ia hD hCle hDC ⟨m,hn⟩ hCn hq;refine⟨m,hn,λh' hsb=>⟨.ref D,_,letGo I2 Ia hCle ?_ hsb,rfl,hq⟩⟩;rw[Bs (Ne.symm hDC)];exact hCn
theorem Mq(i:Nat){py spos:Pos}(hc:X.calm=vZ)(hN:X.N.Nodup)(cs:CompSc X N scope nt caps)(hi:QI X E0 tg iter it)
  (hg:∀C s₀ H₀ ex,QG (blk X N scope C s₀ H₀ ex) E0 tg g) (gk:GK nt g) (hts:∀C s₀ H₀ ex,QTs (blk X N scope C s₀ H₀ ex) E0 ifs c) (he:∀C s₀ H₀ ex,QE (blk X N scope C s₀ H₀ ex) E0 elt te)
  (hy:X.N[i]?=xU y:=by rfl) (hx:Loc X.env.scope y:=by first|exact Or.inl rfl|exact Or.inr rfl) (hf:X.fn y=vZ∨X.env.scope.names.lookup y=xU .local:=by first|exact .inl rfl|exact .inr rfl|assumption)
  (hsw:swapsWith (.ListComp elt [⟨tg,iter,ifs,0⟩] scope pos) (xU (.Name y py)) spos.line X.env=pure vZ:=by rfl)
  (hs:∀x,foldedSetIterable iter X.env x=pure x:=by intro _;rfl):QS X E0 (.Assign [.Name y py] (.ListComp elt [⟨tg,iter,ifs,0⟩] scope pos) spos) (sAs (De it nt caps g c te) (gV i)):=by
 intro xT s σ H W I h;obtain⟨a,S,G,hk,rfl,sm,r,h⟩:=h;have h0:=Ri h;rw[exec_Assign_Name_used _ _ _ _ hsw];refine xD (wpAny_standAt (xD ?_))
 show xB _ X.A (do let _<-comprehension (.ListComp elt [⟨tg,iter,ifs,0⟩] scope pos) scope X.env _ (newList []) vJ (eval iter X.env) (xU (assign (.Name y py) X.env))) _ _ s
 refine xD (xI (wpAny_comprehension_free (use:=xU (assign (.Name y py) X.env)) (Q:=λ_ s'=>SP X xT W .next s') rfl hs (ZHM (cs.cells I.ok)) cs.kind cs.names
  (thn (hi xT s σ a.H _ I ⟨a,S,G,hk,rfl,sm,r,(ZDL h0).imp λ_ _ z=>z⟩) λxv s1 h1=>thn h1 λitv s2 h2=>?_)) (λ_ s' hq=>xN (xN hq)) λ_ _ e=>e)
 obtain⟨i0,fp,tn,J,H2,rfl,I2,T,t0,f2,b,d,G1,rfl,x,sb,rJ,_,h1⟩:=h2
 refine ZCp hc cs hg gk hts he I2 (x.k.trans hk) sb (r.mono x) T t0 f2 rJ h1 (RR:=λacc C=>compPost (xw X.prog X.w) X.A X.xe (xU (assign (.Name y py) X.env)) (λ_ s'=>SP X xT W .next s') acc C) ?_
 intro D C s' b' vs Ia hD hCle hDC ⟨m,hn⟩ hCn hq;show xB _ X.A (assign (.Name y py) X.env (.ref D)) _ _ _;refine wpAny_assign_Name (ZER Ia hN hy hx (v:=.ref D) rfl (λs'' I'' hch=>?_) hf);obtain⟨a',hsb',ha'⟩:=hch;have hCa:C≠a':=by
  rintro rfl;rcases ha' with rfl|ha'
  ·exact absurd (zV I2.lt hCle) (zO _)
  ·obtain⟨v,o,e',_⟩:=I2.cell _ _ ha';exact absurd (zV (zz e') hCle) (zO _)
 refine⟨m,hn.sameBut hsb' hCa,λh' hsb=>⟨_,_,letGo I2 I'' hCle ?_ hsb,?_⟩⟩
 ·rw[Bs (Ne.symm hDC)];exact hCn
 ·obtain⟨b3,d3,G3,e3,x3,s3,q3,_,h3⟩:=hq;rw[<-e3];exact h3 b3 _ (Ext.refl b3) s3 ((r.mono x3).set i q3)
end
def Zu:D->DH->R D
 |.int i,G=>.ok (.int (-i)) G
 |_,_=>.bad
noncomputable def Fi:D->Bool
 |.non=>vZ
 |_=>vJ
def M8:D->D->DH->R D
 |d,.non,G=>.ok (.bl (Fi d)) G
 |_,_,_=>.bad
def R9:D->D->DH->R D
 |d,.non,G=>.ok (.bl (!Fi d)) G
 |_,_,_=>.bad
noncomputable def M9:D->Option V
 |.non=>xU .non
 |.bl b=>xU (.bl b)
 |.int i=>xU (.int i)
 |.str x=>xU (.str x)
 |_=>vQ
def K7:List D->Option (List V)
 |[]=>xU []
 |d::r=>match M9 d,K7 r with
  |some v,xU vs=>xU (v::vs)
  |_,_=>vQ
def inD(d e:D)(G:DH):Option Bool:=match e with
 |.str j=>match d with
  |.str i=>xU (!(Builtin.Str.occurrences j i 0 j.length 1).isEmpty)
  |_=>vQ
 |e=>match Cy e G,M9 d with
  |some xs,xU v=>(K7 xs).map λvs=>inV v vs
  |_,_=>vQ
def Fx(d e:D)(G:DH):R D:=match inD d e G with
 |some k=>.ok (.bl k) G
 |none=>.bad
def Ld(d e:D)(G:DH):R D:=match inD d e G with
 |some k=>.ok (.bl (!k)) G
 |none=>.bad
section
variable{X:Cx}{E:XK}{a b:jB}{ta tb:DE}{pos:Pos}
theorem ZJA:UnR X (unaryOp .USub) (lR1 X.K E Zu):=λxT s σ H x v Q I rx h=>by
 obtain⟨a,G,d,hk,rfl,sm,rd,q⟩:=h;cases d with
 |int i=>exact ZLC xT s σ a.H x v Q I rx ⟨i,rd,q a _ (Ext.refl a) sm rfl⟩
 |_=>exact q.elim
theorem ZMx{op:UnaryOp}{f:D->DH->R D}(ho:UnR X (unaryOp op) (lR1 X.K E f))(ha:QE X E a ta):QE X E (.UnaryOp op a pos) (dUn f ta):=(ZMU ho ha).mono λσ H Q h=>by obtain⟨a,S,G,hk,rfl,s,r,h⟩:=h;refine⟨a,S,G,hk,rfl,s,r,(G6 h).imp ?_⟩;rintro v _ ⟨b,d,G1,rfl,x,s1,q,-,h1⟩;exact⟨b,G1,d,x.k.trans hk,rfl,s1,q,h1⟩
theorem Gz{n:String}(hg:Gl X x)(hm:X.mg x=vQ)(hv:jS x=xU (.type n))(hn:x≠"__name__":=by decide)(hd:(x==("__debug__":Str))=vJ:=by decide):QE X E (.Name x pos) (dC (.ty n)):=
 (ZMO (v:=.ty n) hg hm hv rfl hn hd).mono λσ H Q h=>Nt h λ_ _=>rfl
theorem ZDI{a:Wd}{x:V}(rd:Rep a d x):decide (x=V.non)=Fi d:=by
 cases d with
 |non=>rw[show x=V.non from rd];rfl
 |bl _=>rw[show x=V.bl _ from rd];rfl
 |int _=>rw[show x=V.int _ from rd];rfl
 |str _=>rw[show x=V.str _ from rd];rfl
 |ty _=>rw[show x=V.ty _ from rd];rfl
 |tup _=>obtain⟨p,vs,rfl,_⟩:=rd;rfl
 |fl _=>obtain⟨p,vs,rfl,_⟩:=rd;rfl
 |ref _=>rw[rd.2];rfl
theorem Qo:OpR X (xQ .Is) (lR2 X.K E M8):=Hc ZMZ λa G d e x y Q hk s rd re q=>by
 cases e with
 |non=>exact⟨re,by rw[ZDI rd];cases d<;>exact q a _ (Ext.refl a) s rfl⟩
 |_=>cases d<;>exact q.elim
theorem ZB7:OpR X (xQ .IsNot) (lR2 X.K E R9):=Hc ZL1 λa G d e x y Q hk s rd re q=>by
 cases e with
 |non=>exact⟨re,by rw[ZDI rd];cases d<;>exact q a _ (Ext.refl a) s rfl⟩
 |_=>cases d<;>exact q.elim
theorem ZC1{a:Wd}{x:V}(r:Rep a d x)(h:M9 d=xU v):x=v/\Ej v=vZ:=by
 cases d<;>first
  |(cases h;exact⟨r,rfl⟩)
  |cases h
theorem ZD3{a:Wd}:∀{ds:List D}{xs vs:List V},Reps a ds xs->K7 ds=xU vs->xs=vs/\vs.all Ej=vZ
 |[],xs,vs,r,h=>by cases h;exact⟨r,rfl⟩
 |d::ds,xs,vs,r,h=>by
  obtain⟨x,r',rfl,r1,r2⟩:=r;unfold K7 at h;split at h
  ·rename_i v ws h1 h2;cases h;obtain⟨e1,f1⟩:=ZC1 r1 h1;obtain⟨e2,f2⟩:=ZD3 r2 h2;subst e1;subst e2;exact⟨rfl,by rw[qR,f1,f2];rfl⟩
  ·cases h
theorem ZFg{a:Wd}{e:D}{x y:V}{k:Bool}(s:Sim a G)(rd:Rep a d x)(re:Rep a e y)(h:inD d e G=xU k):
  (∃i j,x=.str i/\y=.str j/\k= !(Builtin.Str.occurrences j i 0 j.length 1).isEmpty)∨(∃p xs,y=.ref p/\(SqL a.K a.H p xs∨SqT a.K a.H p xs)/\Ej x=vZ/\xs.all Ej=vZ/\k=inV x xs):=by
 have seq:(match Cy e G,M9 d with |some xs,xU v=>(K7 xs).map λvs=>inV v vs|_,_=>vQ)=xU k->(∃p xs,y=.ref p/\(SqL a.K a.H p xs∨SqT a.K a.H p xs)/\Ej x=vZ/\xs.all Ej=vZ/\k=inV x xs):=λh=>by
  split at h
  ·rename_i xs v h1 h2;obtain⟨p,ws,e1,q,r1⟩:=K6 s re h1;obtain⟨e2,f2⟩:=ZC1 rd h2;subst e2;rw[zA]at h;obtain⟨us,h3,h4⟩:=h;obtain⟨e3,f3⟩:=ZD3 r1 h3;subst e3;exact⟨p,ws,e1,q,f2,f3,h4.symm⟩
  ·cases h
 cases e with
 |str j=>
  cases d with
  |str i=>exact .inl ⟨i,j,rd,re,(Option.some.inj h).symm⟩
  |_=>cases h
 |tup xs=>exact .inr (seq h)
 |fl xs=>exact .inr (seq h)
 |ref i=>exact .inr (seq h)
 |_=>exact .inr (seq h)
theorem Ng:OpR X (xQ .In) (lR2 X.K E Fx):=Hc (ZOB.or ZOs) λa G d e x y Q hk s rd re q=>by
 unfold Fx at q;split at q
 ·rename_i k h;have z:=q a _ (Ext.refl a) s rfl;rcases ZFg s rd re h with⟨i,j,e1,e2,rfl⟩|⟨p,xs,e1,hq,f1,f2,rfl⟩
  ·exact .inl ⟨i,j,e1,e2,z⟩
  ·exact .inr ⟨p,xs,e1,by rw[<-hk];exact hq,f1,f2,z⟩
 ·exact q.elim
theorem ZDj:OpR X (xQ .NotIn) (lR2 X.K E Ld):=Hc (ZJ4.or ZKh) λa G d e x y Q hk s rd re q=>by
 unfold Ld at q;split at q
 ·rename_i k h;have z:=q a _ (Ext.refl a) s rfl;rcases ZFg s rd re h with⟨i,j,e1,e2,rfl⟩|⟨p,xs,e1,hq,f1,f2,rfl⟩
  ·exact .inl ⟨i,j,e1,e2,z⟩
  ·exact .inr ⟨p,xs,e1,by rw[<-hk];exact hq,f1,f2,z⟩
 ·exact q.elim
end
theorem H9:jS "isinstance"=xU (.builtin "isinstance"):=by decide +kernel
theorem Rp:jS "all"=xU (.builtin "all"):=by decide +kernel
theorem ZD6:jS "sum"=xU (.builtin "sum"):=by decide +kernel
theorem ZGq:jS "max"=xU (.builtin "max"):=by decide +kernel
theorem ZKy:jS "min"=xU (.builtin "min"):=by decide +kernel
theorem Ef:jS "len"=xU (.builtin "len"):=by decide +kernel
theorem Ym:jS "int"=xU (.type "int"):=by decide +kernel
theorem ZIJ:jS "bool"=xU (.type "bool"):=by decide +kernel
theorem Gf:jS "str"=xU (.type "str"):=by decide +kernel
theorem Gg:jS "tuple"=xU (.type "tuple"):=by decide +kernel
noncomputable def Hk:jD->Bool | .local=>vZ|_=>vJ
noncomputable def Kq:jD->Bool | .cell=>vZ|_=>vJ
noncomputable def Jl:jD->Bool | .free=>vZ|_=>vJ
noncomputable def isK(p:jD->Bool):Option jD->Bool|some k=>p k|none=>vJ
theorem ZEp{k:jD}(h:Hk k=vZ):k=.local:=by cases k<;>first|rfl|cases h
theorem ZOu{k:jD}(h:Kq k=vZ):k=.cell:=by cases k<;>first|rfl|cases h
theorem ZGD{k:jD}(h:Jl k=vZ):k=.free:=by cases k<;>first|rfl|cases h
theorem Pq{p:jD->Bool}{k:jD}(hp:∀k',p k'=vZ->k'=k){o:Option jD}(h:isK p o=vZ):o=xU k:=by
 cases o with
 |none=>cases h
 |some k'=>rw[hp _ h]
def ZD2(dn:List (Str×jD))(N0 N:List Str)(names:List (Str×jD))(nt:Nat)(caps:List Nat):Bool:=
 names.all (λy=>(!Hk y.2||isK Hk (names.lookup y.1)) && !Kq y.2&&(!Jl y.2||isK Kq (dn.lookup y.1)||isK Jl (dn.lookup y.1)))&&decide N.Nodup&&decide (N.length=nt+caps.length) &&
 (zv caps.length).all λk=>match caps[k]? with
  |some j=>match N0[j]? with
   |some x=>decide (N[nt+k]?=xU x)&&isK Jl (names.lookup x)
   |none=>vJ
  |none=>vZ
theorem Dn{X:Cx}{N0 N:List Str}{nt:Nat}{caps:List Nat}{dn:List (Str×jD)}(hk:scope.kind=.function:=by rfl)(hdn:∀x,X.env.kindOf x=dn.lookup x:=by intro _;rfl)(hN:X.N=N0:=by rfl)
  (h:ZD2 dn N0 N scope.names nt caps=vZ:=by decide +kernel):CompSc X N scope nt caps:=by
 unfold ZD2 at h;rw[zx,zx,zx]at h;obtain⟨⟨⟨h1,h2⟩,h3⟩,h4⟩:=h;rw[qY]at h1 h4;have key:=λ(y:Str×jD)(hy:y∈scope.names)=>(by have:=h1 y hy;rw[zx,zx]at this;exact this:((!Hk y.2||isK Hk (scope.names.lookup y.1))=vZ/\(!Kq y.2)=vZ)/\(!Jl y.2||isK Kq (dn.lookup y.1)||isK Jl (dn.lookup y.1))=vZ)
 refine⟨hk,λy hy hl=>?_,λy hy hl=>?_,λy hy hl=>?_,of_decide_eq_true h2,of_decide_eq_true h3,λk j hj=>?_⟩
 ·have:=(key y hy).1.1;rw[hl]at this;exact Pq (p:=Hk) (λ_ h=>ZEp h) (by have t:(vJ||isK Hk (scope.names.lookup y.1))=vZ:=this;simpa using t)
 ·have:=(key y hy).1.2;rw[hl]at this;exact absurd this (by decide)
 ·have:=(key y hy).2;rw[hl,j4]at this;rw[hdn];rcases this with h|h
  ·exact .inl (Pq (p:=Kq) (λ_ h=>ZOu h) (by have t:(vJ||isK Kq (dn.lookup y.1))=vZ:=h;simpa using t))
  ·exact .inr (Pq (p:=Jl) (λ_ h=>ZGD h) h)
 ·have hk':k<caps.length:=(z3.mp hj).1;have:=h4 k (qz.mpr hk');rw[hj]at this;dsimp only at this;cases e:N0[j]? with
  |none=>rw[e]at this;cases this
  |some x=>
   rw[e]at this;dsimp only at this;rw[zx]at this;exact⟨x,by rw[hN];exact e,of_decide_eq_true this.1,Pq (p:=Jl) (λ_ h=>ZGD h) this.2⟩
section
section
variable{X:Cx}{xT:List (j9×Obj)}{σ:St}{H:Hp}{s:jG}
theorem ZK8{xs:List V}(I:Inv X xT σ H s)(h:H p=xU (.lst xs)):∃o,Inv X xT σ (upd H p (.frz o (.lst xs))) s:=by
 obtain⟨hl,its,n,r,e⟩:=I.hok p _ h;have nt:∀b(u:HO),H b=xU u->u≠ .lst xs->b≠p:=λb u q d z=>by subst z;rw[h]at q;exact d (Option.some.inj q).symm
 refine⟨_,I.un (t':=s.toks) (H':=upd H p (.frz {cls:=.type "list",data:=.seq its.toArray n} (.lst xs))) ⟨λb o q _ _ _=>q,λb o q _ _ _=>⟨o.slots,q⟩,λb o q z _=>?_,λb o q _=>⟨o,q⟩,λb ys q=>?_,λb o u q=>?_,λb ps q=>⟨#[],?_⟩⟩ ?_⟩
 ·rw[Bs (λz'=>by subst z';rw[h]at z;cases z)];exact z
 ·rw[Bs (nt b _ q (by intro z;cases z))];exact q
 ·rw[Bs (nt b _ q (by intro z;cases z))];exact q
 ·rw[Bs (nt b _ q (by intro z;cases z)),Array.append_empty];exact q
 ·intro b u q;by_cases hb:b=p
  ·subst hb;rw[I8]at q;cases q;exact⟨e,hl,its,n,r,e⟩
  ·rw[Bs hb]at q;exact(I.hok b u q).stay (λc v _ z=>z) (λc z=>by rw[Bs (nt c _ z (by intro z;cases z))];exact z) λc ys z=>by rw[Bs (nt c _ z (by intro z;cases z))];exact z
def Fz(P:j9->Prop)(H H':Hp):Prop:=∀p,(H' p=H p/\(∀vs,H p=xU (.lst vs)->¬P p))∨∃o vs,P p/\H p=xU (.lst vs)/\H' p=xU (.frz o (.lst vs))
theorem ZHB(I:Inv X xT σ H s)(m:Nat->j9)(n:Nat):∀k:Nat,∃H',Inv X xT σ H' s/\Fz (λp=>∃i,n<=i/\i<n+k/\p=m i) H H'
 |0=>⟨H,I,λp=>.inl ⟨rfl,λ_ _ ⟨i,h1,h2,_⟩=>by lia⟩⟩
 | k + 1=>by
  obtain⟨H',I',F⟩:=ZHB I m n k;have keep:(∀vs,H' (m (n+k))≠xU (.lst vs))->Fz (λp=>∃i,n<=i/\i<n+(k+1)/\p=m i) H H':=λno p=>by
   rcases F p with⟨e,z⟩|⟨o,vs,⟨i,h1,h2,h3⟩,e1,e2⟩
   ·refine .inl ⟨e,λvs e1 ⟨i,h1,h2,h3⟩=>?_⟩;by_cases hi:i<n+k
    ·exact z vs e1 ⟨i,h1,hi,h3⟩
    ·have:i=n+k:=by lia
     subst this;subst h3;exact no vs (e.trans e1)
   ·exact .inr ⟨o,vs,⟨i,h1,by lia,h3⟩,e1,e2⟩
  cases hH:H' (m (n+k))with
  |none=>exact⟨H',I',keep λvs z=>by rw[hH]at z;cases z⟩
  | some u=>
   cases u with
   | lst vs=>
    obtain⟨o,I2⟩:=ZK8 I' hH;refine⟨_,I2,λp=>?_⟩;by_cases hp:p=m (n+k)
    ·subst hp;rcases F (m (n+k))with⟨e,z⟩|⟨o',vs',_,e1,e2⟩
     ·exact .inr ⟨o,vs,⟨n+k,by lia,by lia,rfl⟩,e.symm.trans hH,I8⟩
     ·rw[hH]at e2;cases e2
    ·rcases F p with⟨e,z⟩|⟨o',vs',⟨i,h1,h2,h3⟩,e1,e2⟩
     ·refine .inl ⟨by rw[Bs hp];exact e,λvs' e1 ⟨i,h1,h2,h3⟩=>?_⟩;by_cases hi:i<n+k
      ·exact z vs' e1 ⟨i,h1,hi,h3⟩
      ·have:i=n+k:=by lia
       subst this;exact hp h3
     ·exact .inr ⟨o',vs',⟨i,h1,by lia,h3⟩,e1,by rw[Bs hp];exact e2⟩
   |_=>exact⟨H',I',keep λvs z=>by rw[hH]at z;cases z⟩
end
noncomputable def Lr(f:D->Option D):List D->Option (List D)
 |[]=>xU []
 |d::r=>match f d,Lr f r with
  |some d',xU r'=>xU (d'::r')
  |_,_=>vQ
def Ig(G:DH)(n:Nat):Nat->D->Option D
 |0,_=>vQ
 | k+1,d=>if bel n d=vZ then xU d else match d with
  |.ref i=>match G[i]? with
   |some (.lst xs)=>(Lr (Ig G n k) xs).map .fl
   |_=>vQ
  |.tup xs=>(Lr (Ig G n k) xs).map .tup
  |.fl xs=>(Lr (Ig G n k) xs).map .fl
  |_=>vQ
open Classical in
def freeze(G:DH)(r:R D):R D:=match r with
 | .ok d G'=>if G'.take G.length=G then(match Ig G' G.length 9 d with
   |some d'=>.ok d' G
   |none=>.ok d G')else .ok d G'
 |r=>r
def Bd(t:DE):DE:=λS G=>freeze G (t S G)
structure CutF (b c:Wd) (n:Nat):Prop where
 k:c.K=b.K
 n:c.n=n
 m:c.m=b.m
 tup:∀p xs,b.H p=xU (.tup xs)->c.H p=xU (.tup xs)
 frz:∀p o u,b.H p=xU (.frz o u)->c.H p=xU (.frz o u)
theorem CutF.sqT{n:Nat}(x:CutF b c n){xs:List V}(h:SqT b.K b.H p xs):SqT c.K c.H p xs:=by
 rcases h with(h|⟨o,h⟩)|h
 ·exact .inl (.inl (x.tup _ _ h))
 ·exact .inl (.inr ⟨o,x.frz _ _ _ h⟩)
 ·exact .inr (by rw[x.k];exact h)
theorem CutF.fzL{n:Nat}(x:CutF b c n){xs:List V}(h:FzL b.K b.H p xs):FzL c.K c.H p xs:=by
 rcases h with⟨o,h⟩|h
 ·exact .inl ⟨o,x.frz _ _ _ h⟩
 ·exact .inr (by rw[x.k];exact h)
mutual
theorem Rep.J7{n:Nat}(x:CutF b c n):∀{d:D}{v:V},Rep b d v->bel n d=vZ->Rep c d v
 |.non,_,h,_=>h
 |.bl _,_,h,_=>h
 |.int _,_,h,_=>h
 |.str _,_,h,_=>h
 |.ty _,_,h,_=>h
 |.tup ds,v,h,q=>by obtain⟨p,vs,e,t,r⟩:=h;simp only[_D.bel]at q;exact⟨p,vs,e,x.sqT t,Reps.J7 x r q⟩
 |.fl ds,v,h,q=>by obtain⟨p,vs,e,t,r⟩:=h;simp only[_D.bel]at q;exact⟨p,vs,e,x.fzL t,Reps.J7 x r q⟩
 |.ref i,v,h,q=>by obtain⟨l,e⟩:=h;simp only[_D.bel]at q;have q':=of_decide_eq_true q;exact⟨by rw[x.n];exact q',by rw[x.m];exact e⟩
theorem Reps.J7{n:Nat}(x:CutF b c n):∀{ds:List D}{vs:List V},Reps b ds vs->bels n ds=vZ->Reps c ds vs
 |[],_,h,_=>h
 |d::ds,vs,h,q=>by obtain⟨v,r,e,h1,h2⟩:=h;simp only[_D.bels,zx]at q;exact⟨v,r,e,Rep.J7 x h1 q.1,Reps.J7 x h2 q.2⟩
end
theorem Uz{f:D->Option D}(hf:∀d d' v,f d=xU d'->Rep b d v->Rep c d' v):∀{ds ds':List D}{vs:List V},Lr f ds=xU ds'->Reps b ds vs->Reps c ds' vs
 |[],ds',vs,e,h=>by cases e;exact h
 |d::ds,ds',vs,e,h=>by
  obtain⟨v,r,rfl,h1,h2⟩:=h;unfold Lr at e;split at e
  ·rename_i d' r' e1 e2;cases e;exact⟨v,r,rfl,hf _ _ _ e1 h1,Uz hf e2 h2⟩
  ·cases e
theorem ZF1{n:Nat}(s:Sim b G')(x:CutF b c n)(hz:∀i,n<=i->i<b.n->∀vs,b.H (b.m i)=xU (.lst vs)->∃o,c.H (b.m i)=xU (.frz o (.lst vs))):∀(k:Nat)(d d':D)(v:V),Ig G' n k d=xU d'->Rep b d v->Rep c d' v
 |0,d,d',v,e,h=>by cases e
 | k + 1,d,d',v,e,h=>by
  have ih:=ZF1 s x hz k;unfold Ig at e;split at e
  ·rename_i hb;cases e;exact h.J7 x hb
  ·rename_i hb;cases d with
   | ref i=>
    dsimp only at e;split at e
    ·rename_i xs hx;rw[zA]at e;obtain⟨ys,e1,rfl⟩:=e;obtain⟨vs,e2,r2⟩:=s.obj i _ hx;obtain⟨il,rfl⟩:=h;have hi:n<=i:=by simp only[_D.bel,decide_eq_true_eq]at hb;lia
     obtain⟨o,e3⟩:=hz i hi il vs e2;exact⟨_,vs,rfl,.inl ⟨o,e3⟩,Uz ih e1 r2⟩
    ·cases e
   |tup xs=>
    dsimp only at e;rw[zA]at e;obtain⟨ys,e1,rfl⟩:=e;obtain⟨p,vs,rfl,t,r⟩:=h;exact⟨p,vs,rfl,x.sqT t,Uz ih e1 r⟩
   |fl xs=>
    dsimp only at e;rw[zA]at e;obtain⟨ys,e1,rfl⟩:=e;obtain⟨p,vs,rfl,t,r⟩:=h;exact⟨p,vs,rfl,x.fzL t,Uz ih e1 r⟩
   |_=>cases e
theorem ZFF{xT:List (j9×Obj)}{sh:jG}(s:Sim a G)(hG:G'.take G.length=G)(x:Ext a b)(sb:Sim b G')(I:Inv X xT σ b.H sh):
  ∃c:Wd,Inv X xT σ c.H sh/\Ext a c/\Sim c G/\CutF b c a.n/\∀(k:Nat)(d d':D)(v:V),Ig G' G.length k d=xU d'->Rep b d v->Rep c d' v:=by
 have hlen:∀i o,G[i]?=xU o->G'[i]?=xU o:=λi o e=>by have hi:i<G.length:=(z3.mp e).1;rw[<-hG,jV hi]at e;exact e
 obtain⟨H',I',F⟩:=ZHB I b.m a.n (b.n-a.n);have hbn:a.n+(b.n-a.n)=b.n:=by have:=x.n;lia
 rw[hbn]at F;have ct:∀p(u:HO),(∀vs,u≠ .lst vs)->b.H p=xU u->H' p=xU u:=λp u nu e=>by
  rcases F p with⟨e1,_⟩|⟨o,vs,_,e1,_⟩
  ·exact e1.trans e
  ·rw[e]at e1;exact absurd (Option.some.inj e1) (nu vs)
 have tabs:∀p,TabOk b.H p->TabOk H' p:=λp t=>t.mono (λp ps e=>ct p _ (by intro _ z;cases z) e) λp o u e=>ct p _ (by intro _ z;cases z) e
 have cc:CutF b ⟨b.K,a.n,b.m,H'⟩ a.n:=⟨rfl,rfl,rfl,λp xs e=>ct p _ (by intro _ z;cases z) e,λp o u e=>ct p _ (by intro _ z;cases z) e⟩;have old:∀i,i<a.n->H' (b.m i)=b.H (b.m i):=λi hi=>by
  rcases F (b.m i)with⟨e1,_⟩|⟨o,vs,⟨j,h1,h2,h3⟩,e1,e2⟩
  ·exact e1
  ·have:=sb.inj i j (zV hi x.n) h2 h3;lia
 refine⟨⟨b.K,a.n,b.m,H'⟩,I',⟨x.k,zW _,x.m,λp xs e=>cc.tup p xs (x.tup p xs e),λp o u e=>cc.frz p o u (x.frz p o u e),λp t=>tabs p (x.tab p t)⟩,⟨s.len,λi j hi hj=>sb.inj i j (zV hi x.n) (zV hj x.n),λi o e=>?_,λi hi=>?_⟩,cc,λk d d' v hd rb=>?_⟩
 ·show ORep ⟨b.K,a.n,b.m,H'⟩ o (H' (b.m i));rw[old i (s.lt e)];have q:=sb.obj i o (hlen i o e);have lb:=(s.obj i o e).M5;cases o with
  |lst ds=>obtain⟨vs,e1,r1⟩:=q;exact⟨vs,e1,r1.J7 cc lb⟩
  |dct kvs=>obtain⟨us,e1,k1,r1⟩:=q;exact⟨us,e1,k1,r1.J7 cc lb⟩
  |ins c fs=>obtain⟨C,dx,us,n1,e1,k1,r1⟩:=q;exact⟨C,dx,us,n1,e1,k1,r1.J7 cc lb⟩
  |tab C m=>obtain⟨c1,P1,e1,t1⟩:=q;exact⟨c1,P1,e1,tabs _ t1⟩
  |gone=>trivial
 ·show H' (b.m i)≠vQ;rw[old i hi];exact sb.tr i (zV hi x.n)
 ·rw[s.len]at hd;refine ZF1 sb cc (λi h1 h2 vs e=>?_) k d d' v hd rb;rcases F (b.m i)with⟨e1,z⟩|⟨o,vs',_,e1,e2⟩
  ·exact absurd ⟨i,h1,h2,rfl⟩ (z vs e)
  ·rw[e]at e1;cases e1;exact⟨o,e2⟩
theorem ZMW(s:Sim a G)(h:out E a (freeze G r) Q):
  out E a r λv H=>∀(xT:List (j9×Obj))(σ:St)(sh:jG),Inv X xT σ H sh->∃H',Inv X xT σ H' sh/\Q v H':=by
 cases r with
 |err e G'=>exact h
 |bad=>exact h
 | ok d G'=>
  intro b v x sb rb xT σ sh I;unfold freeze at h;dsimp only at h;split at h
  ·rename_i hG;split at h
   ·rename_i d' hd;obtain⟨c,Ic,xc,sc,cc,hr⟩:=ZFF s hG x sb I;exact⟨c.H,Ic,h c v xc sc (hr _ _ _ _ hd rb)⟩
   ·exact⟨_,I,h b v x sb rb⟩
  ·exact⟨_,I,h b v x sb rb⟩
theorem Bm(ha:QE X E e t):QE X E e (Bd t):=λxT s σ H Q I h=>by
 obtain⟨a,S,G,hk,rfl,sm,r,h⟩:=h;refine thn (ha xT s σ a.H _ I ⟨a,S,G,hk,rfl,sm,r,ZMW (X:=X) sm h⟩) λu s' ⟨v,H',I',rv,q⟩=>?_
 obtain⟨H2,I2,q2⟩:=q xT σ s' I';exact⟨v,H2,I2,rv,q2⟩
theorem Ry {st:jH} (ha:QS X E st (sAs t (gV i))):QS X E st (sAs (Bd t) (gV i)):=λxT s σ H W I h=>by
 obtain ⟨a,S,G,hk,rfl,sm,r,h⟩:=h;have h2:Dc E a (sAs t (gV i) S G) {W with nx:=λσ H=>∀(xT:List (j9×Obj))(sh:jG),Inv X xT σ H sh->∃H',Inv X xT σ H' sh/\W.nx σ H'}:=by
  unfold sAs Bd at h;unfold sAs;cases ht:t S G with
  |err e G'=>rw[ht]at h;exact h
  |bad=>rw[ht]at h;exact h
  | ok d G'=>
   rw[ht]at h;intro b σ' x sb rb xT sh I;unfold freeze at h;dsimp only at h;split at h
   ·rename_i hG;split at h
    ·rename_i d' hd;obtain⟨c,Ic,xc,sc,cc,hr⟩:=ZFF sm hG x sb I;refine⟨c.H,Ic,h c σ' xc sc ⟨?_,λj e he=>?_⟩⟩
     ·rw[List.length_set,<-rb.len,List.length_set]
     ·rw[qN]at he;by_cases hij:i=j
      ·subst hij;rw[if_pos rfl]at he;by_cases hl:i<S.length
       ·rw[if_pos hl]at he;have e1:d'=e:=by simpa using he
        subst e1;obtain⟨v,e2,rv⟩:=rb.get i d (by rw[qN,if_pos rfl,if_pos hl]);exact⟨v,e2,hr _ _ _ _ hd rv⟩
       ·rw[if_neg hl]at he;cases he
      ·rw[if_neg hij]at he;obtain⟨v,e2,rv⟩:=rb.get j e (by rw[qN,if_neg hij];exact he);obtain⟨v',_,rv'⟩:=r.get j e he;exact⟨v,e2,rv.J7 cc rv'.bel⟩
    ·exact⟨_,I,h b σ' x sb rb⟩
   ·exact⟨_,I,h b σ' x sb rb⟩
 refine thn (ha xT s σ a.H _ I ⟨a,S,G,hk,rfl,sm,r,h2⟩) λf s' hf=>?_
 cases f with
 |next=>
  obtain⟨σ',H',I',q⟩:=hf;obtain⟨H2,I2,q2⟩:=q xT s' I';exact⟨σ',H2,I2,q2⟩
 |brk=>exact hf
 |cont=>exact hf
 |ret u=>exact hf
end
section
variable{S:DSt}{G:DH}
@[simp]theorem X7:dV i S G=(match S[i]? with |some (xU d)=>.ok d G|_=>.bad):=id rfl
@[simp]theorem ev_C:dC d S G=.ok d G:=id rfl
@[simp]theorem ev_Op{a b:DE}:dOp f a b S G=(a S G).bind λx G1=>(b S G1).bind λy G2=>f x y G2:=id rfl
@[simp]theorem ev_Un{f:D->DH->R D}{a:DE}:dUn f a S G=(a S G).bind f:=id rfl
@[simp]theorem ev_Nil:Af S G=.ok [] G:=id rfl
@[simp]theorem ZPV{a:DE}{r:DA}:Ac a r S G=(a S G).bind λx G1=>(r S G1).bind λxs G2=>.ok (x::xs) G2:=id rfl
@[simp]theorem ev_Fn{f:List D->DH->R D}{t:DA}:dFn f t S G=(t S G).bind f:=id rfl
@[simp]theorem ZPS:Jf t S G=tidy G (t S G):=id rfl
@[simp]theorem ev_Frz:Bd t S G=freeze G (t S G):=id rfl
@[simp]theorem ev_asB{k:Bool}:asB (.bl k) G=.ok k G:=id rfl
@[simp]theorem ev_Tst:Aq t S G=(t S G).bind asB:=id rfl
@[simp]theorem ev_And{t u:DB}:Ho t u S G=(t S G).bind λk G1=>if k=vZ then u S G1 else .ok vJ G1:=id rfl
@[simp]theorem ev_Or{t u:DB}:dOr t u S G=(t S G).bind λk G1=>if k=vZ then .ok vZ G1 else u S G1:=id rfl
@[simp]theorem ev_Not{t:DB}:Cp t S G=(t S G).bind λk G1=>.ok (!k) G1:=id rfl
@[simp]theorem ZPm{u:DE}:Lp t u S G=(t S G).bind λx G1=>(asB x G1).bind λk G2=>if k=vZ then u S G2 else .ok (.bl vJ) G2:=id rfl
@[simp]theorem ev_OrV{u:DE}:Sx t u S G=(t S G).bind λx G1=>(asB x G1).bind λk G2=>if k=vZ then .ok (.bl vZ) G2 else u S G2:=id rfl
@[simp]theorem ZPJ:Uj t S G=(t S G).bind λx G1=>(asB x G1).bind λk G2=>.ok (.bl (!k)) G2:=id rfl
@[simp]theorem ZPW{g:D->D->DH->R D}{a b c:DE}:Ip f g a b c S G=(a S G).bind λx G1=>(b S G1).bind λy G2=>(f x y G2).bind λz G3=>(asB z G3).bind λk G4=>
 if k=vZ then(c S G4).bind λw G5=>g y w G5 else .ok (.bl vJ) G4:=id rfl
@[simp]theorem ev_sNx:sNx S G=.nx S G:=id rfl
noncomputable def SR.then(r:SR)(u:DS):SR:=match r with
 |.nx S1 G1=>u S1 G1
 |r=>r
@[simp]theorem ZPK{t:DS}:Ah t u S G=(t S G).then u:=id rfl
@[simp]theorem ZPg:(SR.nx S G).then u=u S G:=id rfl
@[simp]theorem ZPa:(SR.rt d G).then u=.rt d G:=id rfl
@[simp]theorem ev_sEx:sEx t S G=(t S G).toS λ_ G1=>.nx S G1:=id rfl
@[simp]theorem ZKU:sRt t S G=(t S G).toS λd G1=>.rt d G1:=id rfl
@[simp]theorem ev_sIf{c:DB}{t:DS}:sIf c t u S G=(c S G).toS λk G1=>if k=vZ then t S G1 else u S G1:=id rfl
@[simp]theorem ev_sAs:sAs t g S G=(t S G).toS λd G1=>(g d S G1).toS λS2 G2=>.nx S2 G2:=id rfl
@[simp]theorem ZPU{it:DI}{b:DS}:Fg it g b S G=(it S G).toS λJ G1=>(match J with
 |.pure xs=>Dl g b xs S G1
 |.mt i=>match G1[i]? with
  |some (.lst xs)=>forM i g b xs.length 0 S G1
  |_=>.bad
 |.fn n f=>Hq f g b n 0 S G1):=id rfl
@[simp]theorem ZPI:Cz t S G=(t S G).bind Hg:=id rfl
@[simp]theorem ZPE{f:List D->DH->R ItD}{t:DA}:Hy f t S G=(t S G).bind f:=id rfl
@[simp]theorem El:gV i d S G=.ok (S.set i (xU d)) G:=id rfl
@[simp]theorem ZDx:Cv [] S G=.ok S G:=id rfl
@[simp]theorem ZDE{t:DG}{u:DGs}{r:List D}:Ar t u (d::r) S G=(t d S G).bind λS1 G1=>u r S1 G1:=id rfl
@[simp]theorem ZFK{n:Nat}{t:DGs}:Cq n t (.tup ds) S G=if ds.length=n then t ds S G else .bad:=id rfl
@[simp]theorem ev_MtL{f:D->List D->DH->R D}{o:DE}{t:DA}:I9 f o t S G=(o S G).bind λx G1=>if isL x G1=vZ then(t S G1).bind λxs G2=>f x xs G2 else .bad:=id rfl
@[simp]theorem ZPT{it:DI}{caps:List Nat}{c:DB}:De it nt caps g c te S G=(it S G).bind λJ G1=>(match J with
 |.pure xs=>Cj g c te (Bq nt caps S) xs G1
 |.mt i=>match G1[i]? with
  |some (.lst xs)=>Hf i g c te (Bq nt caps S) xs.length 0 G1
  |_=>.bad
 |.fn n f=>Eo f g c te (Bq nt caps S) n 0 G1).bind Bo:=id rfl
@[simp]theorem Jk:Bp S G=.ok vZ G:=id rfl
@[simp]theorem Ht{k:DSt->DH->SR}:aft (.nx S G) k=k S G:=id rfl
theorem Gm{b:DS}:Dl g b [] S G=.nx S G:=id rfl
theorem G7{b:DS}{x:D}:Dl g b (x::xs) S G=(g x S G).toS λS1 G1=>aft (b S1 G1) (Dl g b xs):=id rfl
theorem Ru{c:DB}:Cj g c te S [] G=.ok [] G:=id rfl
theorem Ew{c:DB}{x:D}:Cj g c te S (x::xs) G=(g x S G).bind λS1 G1=>(c S1 G1).bind λk G2=>
   if k=vZ then(te S1 G2).bind λd G3=>(Cj g c te S xs G3).bind λds G4=>.ok (d::ds) G4 else Cj g c te S xs G2:=id rfl
noncomputable def SR.ret(r:SR):R D:=match r with
 |.nx _ G'=>.ok .non G'
 |.rt d G'=>.ok d G'
 |.err x G'=>.err x G'
 |_=>.bad
@[simp]theorem ret_nx:(SR.nx S G).ret=.ok .non G:=id rfl
@[simp]theorem ret_rt:(SR.rt d G).ret=.ok d G:=id rfl
theorem Be{np nl:Nat}{b:DS}:Br np nl b ds G=if ds.length=np then tidy G (b (ds.map xU++zN nl vQ) G).ret else .bad:=id rfl
end
section
variable{n:Nat}{G:DH}
@[simp]theorem ZPj:bel n .non=vZ:=by simp[_D.bel]
@[simp]theorem ZJZ{b:Bool}:bel n (.bl b)=vZ:=by simp[_D.bel]
@[simp]theorem ZLF{b:Int}:bel n (.int b)=vZ:=by simp[_D.bel]
@[simp]theorem ZMy{b:Str}:bel n (.str b)=vZ:=by simp[_D.bel]
@[simp]theorem ZDf{b:List D}:bel n (.tup b)=bels n b:=by simp[_D.bel]
@[simp]theorem bel_fl{b:List D}:bel n (.fl b)=bels n b:=by simp[_D.bel]
@[simp]theorem ZPX{b:Nat}:bel n (.ref b)=decide (b<n):=by simp[_D.bel]
@[simp]theorem ZPn:bels n []=vZ:=by simp[_D.bels]
@[simp]theorem ZMh:bels n (d::ds)=(bel n d&&bels n ds):=by simp[_D.bels]
theorem ZOM:bels n ds=vZ↔∀d∈ds,bel n d=vZ:=by
 induction ds with
 |nil=>simp
 |cons d ds ih=>simp[ih]
theorem Gs{f:α->D}{xs:List α}(h:∀x∈xs,bel n (f x)=vZ):bels n (xs.map f)=vZ:=by rw[ZOM];intro d hd;obtain⟨x,hx,rfl⟩:=zw.mp hd;exact h x hx
@[simp]theorem Jj{xs:List Int}:bels n (xs.map D.int)=vZ:=Gs λ_ _=>ZLF
@[simp]theorem ZCi{xs:List Bool}:bels n (xs.map D.bl)=vZ:=Gs λ_ _=>ZJZ
@[simp]theorem Dv{xs:List Str}:bels n (xs.map D.str)=vZ:=Gs λ_ _=>ZMy
theorem Bh(h:bel G.length d=vZ):tidy G (.ok d G)=.ok d G:=by unfold tidy;simp[h]
theorem Sg(h:bel G.length d=vZ):tidy G (.ok d (G++L))=.ok d G:=by unfold tidy;simp[h]
theorem ZC6(L:DH)(hk:L[k]?=xU (.lst ds))(h:bels G.length ds=vZ):tidy G (.ok (.ref (G.length+k)) (G++L))=.ok (.ref G.length) (G++[.lst ds]):=by
 unfold tidy;have e:(G++L)[G.length+k]?=xU (.lst ds):=by rw[zE (by lia)];simpa using hk
 simp[e,M5,h]
theorem Fp(h:bels G.length ds=vZ):tidy G (.ok (.ref G.length) (G++ .lst ds::L))=.ok (.ref G.length) (G++[.lst ds]):=ZC6 (.lst ds::L) (k:=0) rfl h
theorem Lh(h:bel G.length d=vZ):freeze G (.ok d G)=.ok d G:=by unfold freeze;simp[h,Ig]
theorem ZEL{n:Nat}:∀{ds:List D},bels n ds=vZ->Lr (Ig G' n (k+1)) ds=xU ds
 |[],_=>rfl
 |d::ds,h=>by simp only[ZMh,zx]at h;unfold Lr;rw[ZEL h.2];simp[Ig,h.1]
theorem ZJQ(L:DH)(hk:L[k]?=xU (.lst ds))(h:bels G.length ds=vZ):freeze G (.ok (.ref (G.length+k)) (G++L))=.ok (.fl ds) G:=by
 unfold freeze;have e:(G++L)[G.length+k]?=xU (.lst ds):=by rw[zE (by lia)];simpa using hk
 have m:Ig (G++L) G.length 9 (.ref (G.length+k))=xU (.fl ds):=by unfold Ig;simp[e,ZEL h]
 simp[m]
theorem Ce(h:bels G.length ds=vZ):freeze G (.ok (.ref G.length) (G++ .lst ds::L))=.ok (.fl ds) G:=ZJQ (.lst ds::L) (k:=0) rfl h
theorem ZK5(L:DH)(k:Nat):(G++L)[G.length+k]?=L[k]? :=by rw[zE (by lia)];simp
theorem Er(L:DH):(G++L)[G.length]?=L[0]? :=ZK5 L 0
theorem ZIm(L:DH)(k:Nat)(o:DO):(G++L).set (G.length+k) o=G++L.set k o:=by rw[List.set_append_right _ _ (by lia)];simp
theorem Hi(L:DH)(o:DO):(G++L).set G.length o=G++L.set 0 o:=ZIm L 0 o
theorem Lw{lo:Int}:Do lo 0=[]:=id rfl
theorem K8{lo:Int}{n:Nat}:Do lo (n+1)=.int lo::Do (lo+1) n:=by
 unfold Do;rw[jY,zQ,qk]
 congr 1
 ·simp
 ·apply qU;intro k _;simp only[Function.comp]
  congr 1
  lia
end
section
variable{G:DH}{i j:Int}{x y:Str}{k l:Bool}
@[simp]theorem ev_add:Ax (.int i) (.int j) G=.ok (.int (i+j)) G:=id rfl
@[simp]theorem J1:Ax (.str x) (.str y) G=if x.length+y.length<=1000000 then .ok (.str (x++y)) G else .bad:=id rfl
@[simp]theorem Nk{ys:List D}:Ax (.tup xs) (.tup ys) G=if xs≠[]/\xs.length+ys.length<=1000000 then .ok (.tup (xs++ys)) G else .bad:=id rfl
@[simp]theorem ZLV:Lg (.int i) (.int j) G=.ok (.int (i-j)) G:=id rfl
theorem log2_small{n:Nat}(h:n<10^100):n.log2<9000:=by
 by_cases hn:n=0
 ·subst hn;decide
 ·rw[Nat.log2_lt hn];exact Nat.lt_trans h (by decide)
@[simp]theorem ZPF{n:Nat}[NeZero n](h:n<10^100):Fy (.int i) (.int (no_index (OfNat.ofNat n))) G=.ok (.int (i/OfNat.ofNat n)) G:=
 if_pos ⟨Int.ofNat_lt.mpr (Nat.pos_of_ne_zero (NeZero.ne n)),log2_small h⟩
@[simp]theorem ev_mod:By (.int i) (.int j) G=if 0<j then .ok (.int (i%j)) G else .bad:=id rfl
@[simp]theorem ev_pow:K4 (.int i) (.int j) G=if 0<=j/\j<=1000000/\i.natAbs<18446744073709551616 then .ok (.int (i^j.toNat)) G else .bad:=id rfl
@[simp]theorem ev_lt:Jx (.int i) (.int j) G=.ok (.bl (decide (i<j))) G:=id rfl
@[simp]theorem ev_le:Ge (.int i) (.int j) G=.ok (.bl (decide (i<=j))) G:=id rfl
@[simp]theorem ev_gt:Jv (.int i) (.int j) G=.ok (.bl (decide (j<i))) G:=id rfl
@[simp]theorem ev_ge:ZAS (.int i) (.int j) G=.ok (.bl (decide (j<=i))) G:=id rfl
@[simp]theorem ev_eq:Bw (.int i) (.int j) G=.ok (.bl (decide (i=j))) G:=id rfl
@[simp]theorem ev_ne:Ep (.int i) (.int j) G=.ok (.bl (!decide (i=j))) G:=id rfl
@[simp]theorem ev_eqS:Bw (.str x) (.str y) G=.ok (.bl (decide (x=y))) G:=id rfl
@[simp]theorem ev_neS:Ep (.str x) (.str y) G=.ok (.bl (!decide (x=y))) G:=id rfl
@[simp]theorem ev_neg:Zu (.int i) G=.ok (.int (-i)) G:=id rfl
@[simp]theorem ev_is:M8 d .non G=.ok (.bl (Fi d)) G:=by cases d<;>exact id rfl
@[simp]theorem ZPd:R9 d .non G=.ok (.bl (!Fi d)) G:=by cases d<;>exact id rfl
@[simp]theorem ev_max:Wk [.int i,.int j] G=.ok (.int (max i j)) G:=by
 show R.ok (D.int (if j>i then j else i)) G=_
 congr 2
 split <;> lia
@[simp]theorem ZPD:Rc [.bl k] G=.ok (.int (if k then 1 else 0)) G:=id rfl
@[simp]theorem ZPY:Cy (.fl ds) G=xU ds:=id rfl
@[simp]theorem ZL2{n:Nat}:Cy (.ref n) G=(match G[n]? with |some (.lst xs)=>xU xs|_=>vQ):=id rfl
@[simp]theorem ZPc:Dk [.str x] G=if x.length<=1000000 then .ok (.int x.length) G else .bad:=id rfl
@[simp]theorem ZPG:Dk [.tup ds] G=.ok (.int ds.length) G:=id rfl
@[simp]theorem ZPH:Dk [.fl ds] G=.ok (.int ds.length) G:=id rfl
@[simp]theorem ev_ixT:Aj (.tup ds) (.int i) G=(match atI ds i with |some v=>.ok v G|none=>.bad):=id rfl
@[simp]theorem ev_ixF:Aj (.fl ds) (.int i) G=(match atI ds i with |some v=>.ok v G|none=>.bad):=id rfl
theorem ZIY{n k:Nat}(h:k<n):ixN n (k:Int)=xU k:=by unfold ixN;rw[if_pos (by lia),if_pos (by lia)];simp
theorem ZH0{xs:List α}{k:Nat}{d:α}(h:xs[k]?=xU d):atI xs (k:Int)=xU d:=by unfold atI;rw[ZIY (z3.mp h).1];exact h
theorem Gh{xs:List α}{j:Int}{k:Nat}{d:α}(e:j=k)(h:xs[k]?=xU d):atI xs j=xU d:=by subst e;exact ZH0 h
@[simp]theorem atI_0{a:α}{xs:List α}:atI (a::xs) 0=xU a:=Gh (k:=0) rfl rfl
@[simp]theorem atI_1{a b:α}{xs:List α}:atI (a::b::xs) 1=xU b:=Gh (k:=1) rfl rfl
@[simp]theorem atI_2{a b c:α}{xs:List α}:atI (a::b::c::xs) 2=xU c:=Gh (k:=2) rfl rfl
@[simp]theorem atI_3{a b c d:α}{xs:List α}:atI (a::b::c::d::xs) 3=xU d:=Gh (k:=3) rfl rfl
@[simp]theorem atI_4{a b c d e:α}{xs:List α}:atI (a::b::c::d::e::xs) 4=xU e:=Gh (k:=4) rfl rfl
@[simp]theorem atI_5{a b c d e f:α}{xs:List α}:atI (a::b::c::d::e::f::xs) 5=xU f:=Gh (k:=5) rfl rfl
@[simp]theorem atI_6{a b c d e f g:α}{xs:List α}:atI (a::b::c::d::e::f::g::xs) 6=xU g:=Gh (k:=6) rfl rfl
@[simp]theorem ZPB:Dy ds G=if ds.length<=1000000 then .ok (.tup ds) G else .bad:=id rfl
@[simp]theorem ZPe:Bo ds G=if ds.length<=1000000 then .ok (.ref G.length) (G++[.lst ds])else .bad:=id rfl
@[simp]theorem ZPA:Il [.fl ds] G=.ok (.tup ds) G:=id rfl
@[simp]theorem ZPP{n:Nat}:Il [.ref n] G=(match G[n]? with |some (.lst xs)=>.ok (.tup xs) G|_=>.bad):=by
 unfold Il;simp only[ZL2];cases G[n]? with
 |none=>rfl
 |some o=>cases o<;>rfl
@[simp]theorem ev_itT:Hg (.tup ds) G=.ok (.pure ds) G:=id rfl
@[simp]theorem ev_itF:Hg (.fl ds) G=.ok (.pure ds) G:=id rfl
@[simp]theorem ZPi:rng1 [.int j] G=if inR j then .ok (.pure (Do 0 j.toNat)) G else .bad:=id rfl
theorem J0(h0: -1000000000<=i)(h:i<=1000000000):inR i:=⟨by lia,by lia⟩
@[simp]theorem ZPZ{n:Nat}:isL (.ref n) G=(match G[n]? with |some (.lst _)=>vZ|_=>vJ):=id rfl
@[simp]theorem ev_app{n:Nat}:Hl (.ref n) [d] G=(match G[n]? with |some (.lst xs)=>if xs.length<1000000 then .ok .non (G.set n (.lst (xs++[d])))else .bad|_=>.bad):=id rfl
@[simp]theorem Ml{ks:List Bool}:Hj [.fl (ks.map D.bl)] G=.ok (.bl (ks.all id)) G:=by simp[Hj]
@[simp]theorem ZLN{ks:List Int}:M7 [.fl (ks.map D.int)] G=.ok (.int ks.sum) G:=by simp[M7]
@[simp]theorem ZPR:Dm [d,.ty "int"] G=(match tyD G d with |some .int=>.ok (.bl vZ) G|some .bl=>.ok (.bl vZ) G|some _=>.ok (.bl vJ) G|none=>.bad):=by
 unfold Dm;dsimp only;cases tyD G d with
 |none=>rfl
 |some t=>cases t<;>rfl
@[simp]theorem ZPM:Dm [d,.ty "bool"] G=(match tyD G d with |some .bl=>.ok (.bl vZ) G|some _=>.ok (.bl vJ) G|none=>.bad):=by
 unfold Dm;dsimp only;cases tyD G d with
 |none=>rfl
 |some t=>cases t<;>rfl
@[simp]theorem ZOk:Dm [d,.ty "tuple"] G=(match tyD G d with |some .tup=>.ok (.bl vZ) G|some _=>.ok (.bl vJ) G|none=>.bad):=by
 unfold Dm;dsimp only;cases tyD G d with
 |none=>rfl
 |some t=>cases t<;>rfl
@[simp]theorem ZI1:Dm [d,.ty "str"] G=(match tyD G d with |some .str=>.ok (.bl vZ) G|some _=>.ok (.bl vJ) G|none=>.bad):=by
 unfold Dm;dsimp only;cases tyD G d with
 |none=>rfl
 |some t=>cases t<;>rfl
@[simp]theorem ZPL:tyD G .non=xU .non:=id rfl
end
section
variable{c:Prop}[Decidable c]
@[simp]theorem ite_ok{a b:α}:(if c then R.ok a G else R.ok b G)=R.ok (if c then a else b) G:=by split <;> rfl
theorem ZIi{S':DSt}:(if c then SR.nx S G else SR.nx S' G')=SR.nx (if c then S else S') (if c then G else G'):=by split <;> rfl
theorem ZKl{a b:α}{l m:List α}:(if c then a::l else b::m)=(if c then a else b)::(if c then l else m):=by split <;> rfl
theorem ZNu{a b:α}:(if c then xU a else xU b)=xU (if c then a else b):=by split <;> rfl
theorem ite_int{a b:Int}:(if c then D.int a else D.int b)=D.int (if c then a else b):=by split <;> rfl
end
section
variable{X:Cx}{E:XK}
end
section
variable{S:DSt}{G:DH}{n:Nat}{kvs:List (Key×D)}
end
section
noncomputable def okD:Nat->D->Bool
 |0,_=>vJ
 |_+1,.non=>vZ
 |_+1,.int _=>vZ
 |_+1,.str _=>vZ
 |n+1,.tup ds=>ds.all (okD n)
 |n+1,.fl ds=>ds.all (okD n)
 |_+1,_=>vJ
theorem Z0{f:D->D->Option Bool}{P:D->Prop}(hf:∀x y,P x->P y->∃b,f x y=xU b/\(b=vZ↔x=y)):∀{xs ys:List D},(∀x∈xs,P x)->(∀y∈ys,P y)->
  ∃b,eqZ f xs ys=xU b/\(b=vZ↔xs.take ys.length=ys.take xs.length)
 |[],ys,_,_=>⟨vZ,by cases ys<;>rfl,by simp⟩
 |x::xs,[],_,_=>⟨vZ,rfl,by simp⟩
 |x::xs,y::ys,hx,hy=>by obtain⟨b,e1,h1⟩:=hf x y (hx x (by simp)) (hy y (by simp));obtain⟨c,e2,h2⟩:=Z0 hf (λz hz=>hx z (zZ _ hz)) (λz hz=>hy z (zZ _ hz));refine⟨b&&c,by simp[eqZ,e1,e2],?_⟩;simp[h1,h2]
theorem ZDi{G:DH}:∀(n:Nat)(d e:D),okD n d=vZ->okD n e=vZ->∃b,eqD n G d e=xU b/\(b=vZ↔d=e)
 |0,d,e,h,_=>by cases h
 | n+1,d,e,h1,h2=>by
  have ih:=ZDi (G:=G) n;cases d with
  |bl _=>simp[okD]at h1
  |ty _=>simp[okD]at h1
  |ref _=>simp[okD]at h1
  | tup xs=>
   cases e with
   |bl _=>simp[okD]at h2
   |ty _=>simp[okD]at h2
   |ref _=>simp[okD]at h2
   |tup ys=>
    simp only[okD,qY]at h1 h2;obtain⟨b,e1,h3⟩:=Z0 ih (λx hx=>h1 x hx) (λx hx=>h2 x hx);refine⟨b&&xs.length==ys.length,by simp[eqD,view,e1],?_⟩;simp only[zx,h3,beq_iff_eq,D.tup.injEq];constructor
    ·rintro⟨e,hl⟩;rw[<-hl,q0]at e;rw[e,hl,q0]
    ·rintro rfl;exact⟨rfl,rfl⟩
   |_=>exact⟨vJ,by simp[eqD,view],by simp⟩
  | fl xs=>
   cases e with
   |bl _=>simp[okD]at h2
   |ty _=>simp[okD]at h2
   |ref _=>simp[okD]at h2
   |fl ys=>
    simp only[okD,qY]at h1 h2;by_cases hl:xs.length=ys.length
    ·obtain⟨b,e1,h3⟩:=Z0 ih (λx hx=>h1 x hx) (λx hx=>h2 x hx);refine⟨b,by simp[eqD,view,hl,e1],?_⟩;rw[h3,<-hl,q0,hl,q0];simp
    ·exact⟨vJ,by simp[eqD,view,hl],by simp;rintro rfl;exact hl rfl⟩
   |_=>exact⟨vJ,by simp[eqD,view],by simp⟩
  |non=>cases e<;>first|(simp[okD]at h2;done)|exact⟨_,rfl,by simp[eqV]⟩
  |int i=>cases e<;>first|(simp[okD]at h2;done)|exact⟨_,rfl,by simp[eqV]⟩
  |str i=>cases e<;>first|(simp[okD]at h2;done)|exact⟨_,rfl,by simp[eqV]⟩
open Classical in
theorem ZNs{e:D}(h1:okD 30 d=vZ)(h2:okD 30 e=vZ):Bw d e G=.ok (.bl (decide (d=e))) G:=by
 obtain⟨b,e1,h⟩:=ZDi (G:=G) 30 d e h1 h2;unfold Bw;rw[e1];cases b with
 |true=>simp[h.mp rfl]
 |false=>simp[show¬d=e from λz=>zj (h.mpr z)]
theorem ZC7(h1:okD 30 d=vZ):Bw d d G=.ok (.bl vZ) G:=by rw[ZNs h1 h1];simp
theorem Xa{n:Nat}(h:∀d∈ds,okD n d=vZ):okD (n+1) (.tup ds)=vZ:=by simpa[okD]using h
end
def cutD{α:Type}(xs:List α)(lo hi:Option Int):List α:=(xs.drop (HT.sIx xs.length 0 lo)).take (HT.sIx xs.length xs.length hi-HT.sIx xs.length 0 lo)
def Ni(z:Str)(lo hi:Option Int):Str:=⟨(cutD z.cps.toList lo hi).toArray⟩
theorem Xj(xs:List α)(lo hi:Option Int):(cutD xs lo hi).length<=xs.length:=by unfold cutD;rw[qy,qH];lia
def J6(t:Option DE)(S:DSt)(G:DH):R (Option Int):=match t with
 |none=>.ok vQ G
 |some t=>(t S G).bind λd G1=>match d with
  |.int i=>.ok (xU i) G1
  |_=>.bad
def Jr(d:D)(lo hi:Option Int)(G:DH):R D:=match d with
 |.str z=>if z.length<=1000000 then .ok (.str (Ni z lo hi)) G else .bad
 |.tup xs=>.ok (.tup (cutD xs lo hi)) G
 |d=>match Jm d G with
  |some xs=>.ok (.ref G.length) (G++[.lst (cutD xs lo hi)])
  |none=>.bad
def dSl(e:DE)(lo hi:Option DE):DE:=λS G=>(e S G).bind λd G1=>(J6 lo S G1).bind λl G2=>(J6 hi S G2).bind λh G3=>Jr d l h G3
theorem Jg(n:Nat)(v:Int):((HT.sIx n n (xU v):Nat):Int)=max 0 (min (if v<0 then v+(n:Int)else v) n)/\((HT.sIx n 0 (xU v):Nat):Int)=max 0 (min (if v<0 then v+(n:Int)else v) n):=by
 unfold HT.sIx;by_cases hv:v<0
 ·simp only[if_pos hv];lia
 ·simp only[if_neg hv];lia
theorem ZMQ(xs:Array Nat)(i k:Nat):(zv k).filterMap (λm=>xs[i+m]?)=(xs.toList.drop i).take k:=by
 induction k generalizing i with
 |zero=>simp
 | succ k ih=>
  rw[jY,zS];have e:(List.map Nat.succ (zv k)).filterMap (λm=>xs[i+m]?)=(zv k).filterMap (λm=>xs[i+1+m]?):=by
   rw[qL]
   congr 1
   funext m;simp only[Function.comp]
   congr 1
   lia
  rw[e,ih (i+1)];by_cases hi:i<xs.size
  ·have h1:xs[i+0]?=xU xs[i]:=by simp[hi]
   rw[h1];have h2:xs.toList.drop i=xs[i]::xs.toList.drop (i+1):=by rw[zI (by simpa using hi)];simp
   rw[h2];simp
  ·have h1:xs[i+0]?=vQ:=by simp;lia
   rw[h1];simp only;rw[qx (by simp;lia),qx (by simp;lia)];simp
theorem ZOR(x:Str)(lo hi:Option Int):Txt.slice x lo hi=Ni x lo hi:=by
 have hlen:x.length=x.cps.toList.length:=by simp[Str.length]
 have key:(Builtin.Str.strSliceIndices lo hi 1 x.length).filterMap (x.cps[·]?)=cutD x.cps.toList lo hi:=by
  have e1:∀(v:Option Int),(match v with |none=>(0:Int)|some i=>max 0 (min (if i<0 then i+(x.length:Int)else i) x.length))=((HT.sIx x.length 0 v:Nat):Int):=λv=>by
   cases v with
   |none=>rfl
   |some i=>exact(Jg x.length i).2.symm
  have e2:∀(v:Option Int),(match v with |none=>(x.length:Int)|some i=>max 0 (min (if i<0 then i+(x.length:Int)else i) x.length))=((HT.sIx x.length x.length v:Nat):Int):=λv=>by
   cases v with
   |none=>rfl
   |some i=>exact(Jg x.length i).1.symm
  have e3:Builtin.Str.strSliceIndices lo hi 1 x.length=sliceRange ((HT.sIx x.length 0 lo:Nat):Int) ((HT.sIx x.length x.length hi:Nat):Int) 1:=by
   rw[<-e1 lo,<-e2 hi];unfold Builtin.Str.strSliceIndices
   cases lo<;>cases hi<;>simp
  rw[e3];unfold sliceRange cutD;rw[qL,<-hlen];generalize HT.sIx x.length 0 lo=i;generalize HT.sIx x.length x.length hi=j;have e4:((λa=>x.cps[a]?) ∘ λ(k:Nat)=>((i:Int)+1*(k:Int)).toNat)=λk=>x.cps[i+k]? :=by
   funext k;simp only[Function.comp]
   congr 1
   lia
  have e5:(if(1:Int)>0 then if(i:Int)<(j:Int)then((j:Int)-i+1-1)/1 else 0 else if(i:Int)>(j:Int)then((i:Int)-j-1-1) / -1 else 0).toNat=j-i:=by
   rw[if_pos (by lia)];split
   ·rw[Int.ediv_one];lia
   ·lia
  rw[e4,e5];exact ZMQ x.cps i (j-i)
 unfold Txt.slice Ni;split
 ·rename_i h;have h':(Builtin.Str.strSliceIndices lo hi 1 x.length).length=x.length:=by simpa using h
  have hsz:(cutD x.cps.toList lo hi).length=x.cps.toList.length∨(cutD x.cps.toList lo hi).length<x.cps.toList.length:=by have:=Xj x.cps.toList lo hi;lia
  have hall:(cutD x.cps.toList lo hi).length=x.cps.toList.length:=by
   have e3:(Builtin.Str.strSliceIndices lo hi 1 x.length).length=HT.sIx x.length x.length hi-HT.sIx x.length 0 lo:=by
    have e1:∀(v:Option Int),(match v with |none=>(0:Int)|some i=>max 0 (min (if i<0 then i+(x.length:Int)else i) x.length))=((HT.sIx x.length 0 v:Nat):Int):=λv=>by
     cases v with
     |none=>rfl
     |some i=>exact(Jg x.length i).2.symm
    have e2:∀(v:Option Int),(match v with |none=>(x.length:Int)|some i=>max 0 (min (if i<0 then i+(x.length:Int)else i) x.length))=((HT.sIx x.length x.length v:Nat):Int):=λv=>by
     cases v with
     |none=>rfl
     |some i=>exact(Jg x.length i).1.symm
    have e3:Builtin.Str.strSliceIndices lo hi 1 x.length=sliceRange ((HT.sIx x.length 0 lo:Nat):Int) ((HT.sIx x.length x.length hi:Nat):Int) 1:=by
     rw[<-e1 lo,<-e2 hi];unfold Builtin.Str.strSliceIndices
     cases lo<;>cases hi<;>simp
    rw[e3];unfold sliceRange;rw[zK,List.length_range];generalize HT.sIx x.length 0 lo=i;generalize HT.sIx x.length x.length hi=j;rw[if_pos (by lia)];split
    ·rw[Int.ediv_one];lia
    ·lia
   have hj:HT.sIx x.length x.length hi<=x.length:=HT.ZGZ _ _ (zW _) hi;unfold cutD;rw[qy,qH,<-hlen];lia
  have hs:(cutD x.cps.toList lo hi).Sublist x.cps.toList:=(List.take_sublist _ _).trans (List.drop_sublist _ _);rw[hs.eq_of_length hall]
 ·rw[key]
section
variable{X:Cx}{E:XK}
theorem K9:SlR X (λx lo hi H Q=>∃z:Str,x=.str z/\z.length<=sizeLine/\Q (.str (Ni z lo hi)) H):=by
 intro xT s σ H x v vl vu lo hi sl Q I rx hs pl pu h;obtain⟨z,rfl,hz,q⟩:=h;obtain⟨t,rfl⟩:=rx;refine⟨"str",_,PySem.F.slot_str_getitem.lookup,typeIs_str _ _ _,?_⟩
 have fin:∀(l u:Option (Int×Tok)),vl=partValue l->vu=partValue u->l.map (·.1)=lo->u.map (·.1)=hi->xB (xw X.prog X.w) X.A (getItem (.str z t) (.ref sl)) (EP X xT σ Q) X.xe s:=by
  rintro l u rfl rfl rfl rfl
  refine wpAny_getItem_str_slice (l:=l) (u:=u) (st:=vQ) (show s.heap.IsSlice sl l u vQ from hs) rfl ?_
  have e:∀Q',(Txt.slice z (l.map (·.1)) (u.map (·.1))).length<=sizeLine/\(∀t' k,Q' (.str (Txt.slice z (l.map (·.1)) (u.map (·.1))) t') {s with toks:=k})->(sliceMade z t l u vQ).post Q' s:=λQ' hq=>post_val_or_str hq
  refine e _ ⟨z0 (Txt.slice_le z _ _) hz,λt' k=>?_⟩;rw[ZOR];exact⟨.str _,H,I.tok k,⟨t',rfl⟩,q⟩
 cases pl with
 |none=>cases pu with
  |none=>exact fin vQ vQ rfl rfl rfl rfl
  |int j tj=>exact fin vQ (xU (j,tj)) rfl rfl rfl rfl
 |int i ti=>cases pu with
  |none=>exact fin (xU (i,ti)) vQ rfl rfl rfl rfl
  |int j tj=>exact fin (xU (i,ti)) (xU (j,tj)) rfl rfl rfl rfl
theorem ZIH{prog:jE}{E:jI->jG->Prop}{t sl:j9}{items:Array jI}{vl vu:jI}{Q:jI->jG->Prop}(ht:IsTup s.heap t items)(hs:s.heap.IsSliceOf sl vl vu .none)(pl:IsPart vl lo)(pu:IsPart vu hi)
  (hw:HT.sIx items.size 0 lo=0/\HT.sIx items.size items.size hi=items.size) (h:Q (.ref t) s):xB (xw prog w) A (getItem (.ref t) (.ref sl)) Q E s:=by
 obtain⟨os,hos,hcs,hds⟩:=id hs;have hTs:s.TypeIs (.ref sl) "slice":=⟨os,hos,hcs⟩;unfold getItem
 try with_reducible refine xH ?_
 first|refine xD (xN ?_)|skip
 refine xD (wpAny_sequenceKey ht.typeIs (by decide) ?_);refine xD (xE (name:=Str.ofString "__getitem__") ht.typeIs PyProof.Rows.slot_tuple_getitem
  (xF PyProof.Rows.slot_tuple_getitem ht.typeIs entry_tuple_getitem ?_ (args_tuple_getitem _ _)))
 show xB _ _ (Builtin.Tuple.tupleItemsOf (.ref t) >>=_) _ _ s;refine xD (tupleItemsOf_ ht ?_);refine xD (wpAny_typeOf hTs ?_);rw[if_pos (by decide)];refine xD (HT.ZDm hs pl pu ?_);have hyes:(((HT.sIx items.size 0 lo:Nat):Int)==0&&(1:Int)==1&&(HT.sIx items.size items.size hi-HT.sIx items.size 0 lo)==items.size)=vZ:=by rw[hw.1,hw.2];simp
 show xB _ _ (if(((HT.sIx items.size 0 lo:Nat):Int)==0&&(1:Int)==1&&(HT.sIx items.size items.size hi-HT.sIx items.size 0 lo)==items.size)=vZ then _ else _) _ _ s;rw[if_pos hyes];refine xD ?_;unfold Builtin.Tuple.tupleIsExact;refine xD (wpAny_typeOf ht.typeIs (xN ?_));rw[if_pos (by decide)];exact xD (wpAny_rule (xN ⟨_,rfl,xN h⟩))
theorem ZLc:SlR X (λx lo hi H Q=>∃a xs,x=.ref a/\SqT X.K H a xs/\(HT.sIx xs.length 0 lo=0/\HT.sIx xs.length xs.length hi=xs.length)/\Q (.ref a) H):=by
 intro xT s σ H x v vl vu lo hi sl Q I rx hs pl pu h;obtain⟨a,xs,rfl,hx,hw,q⟩:=h;cases rx;obtain⟨its,r,ht,hz⟩:=I.tuple hx;have hlen:its.toArray.size=xs.length:=by rw[zq];exact r.length.symm
 exact⟨"tuple",_,PyProof.Rows.slot_tuple_getitem.lookup,ht.typeIs,ZIH ht hs pl pu (by rw[hlen];exact hw) ⟨.ref a,H,I,rfl,q⟩⟩
def N8(E:XK)(a:Wd)(r:R (Option Int))(Q:Option Int->Hp->Prop):Prop:=match r with
 |.ok k G=>∀(b:Wd),Ext a b->Sim b G->Q k b.H
 |.err x G=>XOk E a x G
 |.bad=>False
def QO(X:Cx)(E:XK)(e:Option jB)(t:Option DE):Prop:=PO X e (λσ H Q=>∃(a:Wd)(S:DSt)(G:DH),a.K=X.K/\a.H=H/\Sim a G/\RepS a S σ/\N8 E a (J6 t S G) Q)
theorem _root_._L.PO.mono{e:Option jB}{t t':TO}(h:PO X e t)(w:∀σ H Q,t' σ H Q->t σ H Q):PO X e t':=λxT s σ H Q I q=>h xT s σ H Q I (w σ H Q q)
theorem Gj:QO X E vQ vQ:=ZNJ.mono λσ H Q h=>by obtain⟨a,S,G,hk,rfl,s,r,h⟩:=h;exact h a (Ext.refl a) s
theorem Eb(he:QE X E e t):QO X E (xU e) (xU t):=(ZM9 he).mono λσ H Q h=>by
 obtain⟨a,S,G,hk,rfl,s,r,h⟩:=h;refine⟨a,S,G,hk,rfl,s,r,?_⟩
 have h':N8 E a ((t S G).bind λd G1=>match d with | .int i=>.ok (xU i) G1|_=>.bad) Q:=h
 cases ht:t S G with
 |ok d G1=>
  rw[ht]at h';intro b v x sb rv;cases d with
  |int i=>exact⟨i,rv,h' b x sb⟩
  |_=>exact h'.elim
 |err x G1=>rw[ht]at h';exact h'
 |bad=>rw[ht]at h';exact h'
theorem Reps.cutD(r:Reps a ds vs)(lo hi:Option Int):Reps a (_D.cutD ds lo hi) (Lx vs lo hi):=by unfold _D.cutD Lx;rw[r.length];exact(r.drop _).take _
theorem N8.imp{r:R (Option Int)}{Q Q':Option Int->Hp->Prop}(h:N8 E a r Q)(w:∀v H,Q v H->Q' v H):N8 E a r Q':=by
 cases r with
 |ok d G=>exact λb x s=>w _ _ (h b x s)
 |err e G=>exact h
 |bad=>exact h
theorem ZFO{r:R (Option Int)}{f:Option Int->DH->R D}(h:out E a (r.bind f) Q):
  N8 E a r (λk H=>∃(b:Wd)(G:DH),b.H=H/\Ext a b/\Sim b G/\r=.ok k G/\out E b (f k G) Q):=by
 cases r with
 |ok d G=>exact λb x s=>⟨b,G,rfl,x,s,rfl,out.mono x h⟩
 |err e G=>exact h
 |bad=>exact h
theorem Fb{lo hi:Option jB}{tl th:Option DE}{p2 pos:Pos}(he:QE X E e te)(hl:QO X E lo tl)(hu:QO X E hi th):QE X E (.Subscript e (.Slice lo hi vQ p2) pos) (dSl te tl th):=
 (ZLq (ZNr.or (ZLI.or (ZLc.or K9))) he hl hu).mono λσ H Q h=>by
 obtain⟨a,S,G,hk,rfl,s,r,h⟩:=h;refine⟨a,S,G,hk,rfl,s,r,(G6 h).imp ?_⟩;rintro v _ ⟨b,d,G1,rfl,x,s1,q,_,h1⟩;refine⟨b,S,G1,x.k.trans hk,rfl,s1,r.mono x,(ZFO h1).imp ?_⟩;rintro l _ ⟨c,G2,rfl,y,s2,_,h2⟩;refine⟨c,S,G2,y.k.trans (x.k.trans hk),rfl,s2,(r.mono x).mono y,(ZFO h2).imp ?_⟩;rintro u _ ⟨c3,G3,rfl,y3,s3,_,h3⟩;have hk3:=y3.k.trans (y.k.trans (x.k.trans hk));have q3:=(q.mono y).mono y3
 have lst:out E c3 (match Jm d G3 with |some xs=>.ok (.ref G3.length) (G3++[.lst (cutD xs l u)])|none=>.bad) Q->rSlL X.K v l u c3.H Q:=λh3=>by
  split at h3
  ·rename_i xs hx;obtain⟨p,vs,e1,q1,r1⟩:=ZAs s3 q3 hx;exact⟨p,vs,e1,by rw[<-hk3];exact q1,λp hp=>Qy s3 (Reps.cutD r1 l u) h3 p hp⟩
  ·exact h3.elim
 cases d with
 | str z=>
  have h4:out E c3 (if z.length<=1000000 then .ok (.str (Ni z l u)) G3 else .bad) Q:=h3;split at h4
  ·rename_i hl
   cases(show v=V.str z from q3)
   exact .inr (.inr (.inr ⟨z,rfl,z0 hl size6,h4 c3 _ (Ext.refl _) s3 rfl⟩))
  ·exact h4.elim
 | tup xs=>
  have h4:out E c3 (.ok (.tup (cutD xs l u)) G3) Q:=h3;obtain⟨p,vs,e1,q1,r1⟩:=q3;by_cases hw:HT.sIx vs.length 0 l=0/\HT.sIx vs.length vs.length u=vs.length
  ·refine .inr (.inr (.inl ⟨p,vs,e1,by rw[<-hk3];exact q1,hw,h4 c3 _ (Ext.refl _) s3 ⟨p,vs,rfl,q1,?_⟩⟩));have:cutD xs l u=xs:=by unfold cutD;rw[r1.length,hw.1,hw.2,<-r1.length];simp
   rw[this];exact r1
  ·exact .inr (.inl ⟨p,vs,e1,by rw[<-hk3];exact q1,hw,λp hp=>W4 s3 (Reps.cutD r1 l u) h4 p hp⟩)
 |fl xs=>exact .inl (lst h3)
 |ref i=>exact .inl (lst h3)
 |non=>exact(show False from h3).elim
 |bl _=>exact(show False from h3).elim
 |int _=>exact(show False from h3).elim
 |ty _=>exact(show False from h3).elim
noncomputable def isS:D->Bool
 |.str _=>vZ
 |_=>vJ
def Du(f:D->List D->DH->R D)(o:DE)(t:DA):DE:=λS G=>(o S G).bind λx G1=>if isS x=vZ then(t S G1).bind λxs G2=>f x xs G2 else .bad
section
variable{name:Str}{id:String}{f:D->List D->DH->R D}{o e:jB}{es:List jB}{to:DE}{t:DA}{apos cpos:Pos}
theorem Ed(slot:Slot "str" name id)(hty:typeOf (.builtin id)=pure (.type "method_descriptor"))(hm:MtM X id (lRm X.K E f))(ho:QE X E o to)(ha:QA X E (e::es) t)
  (hbase:attributeBase o name X.env (eval o X.env)=eval o X.env:=by rfl)
  (hfew:((jN cpos (x9 (e::es) X.env)).all (λx=> !x.1)&&(jO cpos (xq [] X.env)).all (λx=>x.1.isSome)
   && decide ((e::es).length+([]:List Keyword).length+(if([]:List Keyword).isEmpty then 0 else 1)<30))=vZ:=by rfl)
  (hline:(apos.endLine==cpos.line)=vZ:=by rfl) (hs:x9 (e::es) X.env=(vJ,eval e X.env)::x9 es X.env:=by rfl) (hplain:(jN cpos (x9 es X.env)).any (·.1)=vJ:=by rfl):
  QE X E (.Call (.Attribute o name apos) (e::es) [] cpos) (Du f to t):=(ZG6 PySem.F.plainAttrs_str slot hty hm ho ha hbase hfew hline hs hplain).mono λσ H Q h=>by
 obtain⟨a,S,G,hk,rfl,s,r,h⟩:=h;refine⟨a,S,G,hk,rfl,s,r,(G6 h).imp ?_⟩;rintro v _ ⟨b,d,G1,rfl,x,s1,q,-,h1⟩;split at h1
 ·rename_i hl;have ty:tyV X.K "str" v b.H:=by
   cases d with
   |str z=>cases(show v=V.str z from q);exact rfl
   |_=>cases hl
  refine⟨ty,b,S,G1,x.k.trans hk,rfl,s1,r.mono x,(Pr h1).imp ?_⟩;rintro vs _ ⟨c,ds,G2,rfl,y,s2,q2,-,h2⟩;exact⟨c,G2,d,ds,y.k.trans (x.k.trans hk),rfl,s2,q.mono y,q2,h2⟩
 ·exact h1.elim
end
noncomputable def Nv:List D->Option (List Str)
 |[]=>xU []
 |.str x::r=>(Nv r).map (x::·)
 |_=>vQ
@[simp]theorem ZPQ(ns:List Str):Nv (ns.map D.str)=xU ns:=by
 induction ns with
 |nil=>rfl
 |cons n ns ih=>simp[Nv,ih]
theorem ZEU:∀{xs:List D}{ns:List Str},Nv xs=xU ns->xs=ns.map D.str
 |[],ns,h=>by cases h;rfl
 |.str i::r,ns,h=>by
  unfold Nv at h;rw[zA]at h;obtain⟨m,e,rfl⟩:=h;rw[ZEU e]
  rfl
 |.non::_,_,h=>by cases h
 |.bl _::_,_,h=>by cases h
 |.int _::_,_,h=>by cases h
 |.ty _::_,_,h=>by cases h
 |.tup _::_,_,h=>by cases h
 |.fl _::_,_,h=>by cases h
 |.ref _::_,_,h=>by cases h
noncomputable def Ai(sep:List Nat):List (List Nat)->List Nat
 |[]=>[]
 |[x]=>x
 |x::y::r=>x++sep++Ai sep (y::r)
def Ez(o:D)(ds:List D)(G:DH):R D:=match o,ds with
 | .str sep,[d]=>match Cy d G with
  |some xs=>match Nv xs with
   |some ys=>if(ys.map (·.length)).sum+ys.length*sep.length<=1000000 then .ok (.str (Txt.join sep ys)) G else .bad
   |none=>.bad
  |none=>.bad
 |_,_=>.bad
theorem ZBg:∀{ys:List Str}{us:List jI},Vals (ys.map V.str) us->StrsAre us ys
 |[],us,r=>by cases r;exact .nil
 | y::ys,us,r=>by
  cases r with
  |cons h t=>
   obtain⟨tk,rfl⟩:=h;exact .cons _ _ (ZBg t)
theorem ZDS:∀{ys:List Str}{vs:List V},Reps a (ys.map D.str) vs->vs=ys.map V.str
 |[],vs,r=>r
 |y::ys,vs,r=>by
  obtain⟨v,w,rfl,h1,h2⟩:=r
  cases(show v=V.str y from h1)
  rw[ZDS h2]
  rfl
theorem Ko:MtM X "str.join" (lRm X.K E Ez):=λxT s σ H x xs v us Q I rx rs h=>by
 obtain⟨a,G,d,ds,hk,rfl,sm,rd,r,q⟩:=h;unfold Ez at q;split at q
 ·rename_i sep e;obtain⟨w,rfl,rw'⟩:=reps1 r
  cases(show x=V.str sep from rd)
  obtain⟨t,rfl⟩:=rx;split at q
  ·rename_i ys hs;split at q
   ·rename_i zs hz;split at q
    ·rename_i hl;obtain⟨p,vs,rfl,h1,r1⟩:=K6 sm rw' hs;rw[ZEU hz]at r1;have ev:=ZDS r1;subst ev;obtain⟨u,rfl,ru⟩:=vals1 rs;cases ru;rw[hk]at h1;rcases h1 with h1|h1
     ·obtain⟨its,r2,pl,_⟩:=I.list h1;exact join_list pl.isList (by simpa using ZBg r2) (z0 hl (by decide)) λt' k=>⟨.str _,a.H,I.tok k,⟨t',rfl⟩,q a _ (Ext.refl a) sm rfl⟩
     ·obtain⟨its,r2,pl,_⟩:=I.tuple h1;exact join_tuple pl (by simpa using ZBg r2) (z0 hl (by decide)) λt' k=>⟨.str _,a.H,I.tok k,⟨t',rfl⟩,q a _ (Ext.refl a) sm rfl⟩
    ·exact q.elim
   ·exact q.elim
  ·exact q.elim
 ·exact q.elim
noncomputable def Vx(o:D)(ds:List D)(G:DH):R D:=match o,ds with
 |.str x,[.str y]=>.ok (.int (Txt.find x y)) G
 |_,_=>.bad
theorem m_find:MtM X "str.find" (lRm X.K E Vx):=λxT s σ H x xs v us Q I rx rs h=>by
 obtain⟨a,G,d,ds,hk,rfl,sm,rd,r,q⟩:=h;unfold Vx at q;split at q
 ·rename_i x' y;obtain⟨w,rfl,rw'⟩:=reps1 r
  cases(show x=V.str x' from rd)
  cases(show w=V.str y from rw')
  obtain⟨t,rfl⟩:=rx;obtain⟨u,rfl,u',rfl⟩:=vals1 rs;exact SC.find ⟨.int _,a.H,I.tok _,⟨_,rfl⟩,q a _ (Ext.refl a) sm rfl⟩
 ·exact q.elim
noncomputable def Ro(o:D)(ds:List D)(G:DH):R D:=match o,ds with
 |.str x,[.str y]=>.ok (.bl (Txt.startswith x y)) G
 |_,_=>.bad
theorem ZGr:MtM X "str.startswith" (lRm X.K E Ro):=λxT s σ H x xs v us Q I rx rs h=>by
 obtain⟨a,G,d,ds,hk,rfl,sm,rd,r,q⟩:=h;unfold Ro at q;split at q
 ·rename_i x' y;obtain⟨w,rfl,rw'⟩:=reps1 r
  cases(show x=V.str x' from rd)
  cases(show w=V.str y from rw')
  obtain⟨t,rfl⟩:=rx;obtain⟨u,rfl,u',rfl⟩:=vals1 rs;exact SC.startswith ⟨.bl _,a.H,I,rfl,q a _ (Ext.refl a) sm rfl⟩
 ·exact q.elim
end
section
variable{S:DSt}{G:DH}
@[simp]theorem ev_Sl{e:DE}{lo hi:Option DE}:dSl e lo hi S G=(e S G).bind λd G1=>(J6 lo S G1).bind λl G2=>(J6 hi S G2).bind λh G3=>Jr d l h G3:=id rfl
@[simp]theorem ZPO:J6 vQ S G=.ok vQ G:=id rfl
@[simp]theorem ZPC:J6 (xU t) S G=(t S G).bind λd G1=>match d with | .int i=>.ok (xU i) G1|_=>.bad:=id rfl
@[simp]theorem J8{z:Str}:Jr (.str z) lo hi G=if z.length<=1000000 then .ok (.str (Ni z lo hi)) G else .bad:=id rfl
@[simp]theorem ev_slT:Jr (.tup xs) lo hi G=.ok (.tup (cutD xs lo hi)) G:=id rfl
@[simp]theorem ev_slF:Jr (.fl xs) lo hi G=.ok (.ref G.length) (G++[.lst (cutD xs lo hi)]):=id rfl
@[simp]theorem ev_MtS{f:D->List D->DH->R D}{o:DE}{t:DA}:Du f o t S G=(o S G).bind λx G1=>if isS x=vZ then(t S G1).bind λxs G2=>f x xs G2 else .bad:=id rfl
@[simp]theorem ev_isS:isS (.str x)=vZ:=id rfl
@[simp]theorem ZPk:Vx (.str x) [.str y] G=.ok (.int (Txt.find x y)) G:=id rfl
@[simp]theorem ZPl:Ro (.str x) [.str y] G=.ok (.bl (Txt.startswith x y)) G:=id rfl
@[simp]theorem ZCG:Hg (.str x) G=.ok (.pure (signs x)) G:=id rfl
@[simp]theorem ZE1{ys:List D}:Ax (.fl xs) (.fl ys) G=if xs.length+ys.length<=1000000 then .ok (.ref G.length) (G++[.lst (xs++ys)])else .bad:=id rfl
@[simp]theorem Kv{z:Str}{i:Int}:Aj (.str z) (.int i) G=if z.length<=1000000 then(match atI z.cps.toList i with |some c=>.ok (sgn c) G|none=>.bad)else .bad:=id rfl
theorem ZEO{sep:Str}{ys:List Str}(h:(ys.map (·.length)).sum+ys.length*sep.length<=1000000):Ez (.str sep) [.fl (ys.map D.str)] G=.ok (.str (Txt.join sep ys)) G:=by simp[Ez,h]
end
end _D
namespace _D
open PySem PySem.Spec _L
open PyProof.Rows hiding St
open Builtin.Str
variable{g:DG}{te:DE}{S:DSt}{G:DH}{F:D->Option D}
section
variable(p:Nat->Bool)(m:Nat)
def Jt(i:Nat)(st:Array Nat×Nat):Id (ForInStep (Array Nat×Nat)):=
 if(decide (st.1.size<1)&&decide (st.2<=i)&&p i)=vZ then pure (ForInStep.yield (st.1.push i,i+m))else pure (ForInStep.yield (st.1,st.2))
theorem ZGu:∀(l:List Nat)(st:Array Nat×Nat),st.1.size=1->(forIn l st (Jt p m):Id _)=pure st
 |[],st,_=>rfl
 |i::l,st,h=>by
  rw[j2];have:Jt p m i st=pure (ForInStep.yield st):=by unfold Jt;rw[if_neg (by simp[h])]
  rw[this];exact ZGu l st h
theorem occ_first(lo:Nat):∀(l:List Nat),(∀i∈l,lo<=i)->((forIn l (#[],lo) (Jt p m):Id (Array Nat×Nat))).run.1.toList=(l.find? p).toList
 |[],_=>rfl
 | i::l,h=>by
  rw[j2];by_cases hp:p i=vZ
  ·have:Jt p m i (#[],lo)=pure (ForInStep.yield (#[i],i+m)):=by
    unfold Jt;rw[if_pos (by simp[hp,h i (by simp)])]
    rfl
   rw[this];have e:=ZGu p m l (#[i],i+m) rfl;show(Id.run (forIn l (#[i],i+m) (Jt p m))).1.toList=_;rw[e];simp[List.find?_cons,hp]
  ·have:Jt p m i (#[],lo)=pure (ForInStep.yield (#[],lo)):=by unfold Jt;rw[if_neg (by simp[hp])]
   rw[this];have:=occ_first lo l (λj hj=>h j (zZ _ hj));rw[List.find?_cons_of_neg hp];exact this
end
theorem occ1(s sub:Str)(lo hi:Nat):occurrences s sub lo hi 1=((qQ lo (hi+1-lo)).find? (λi=>decide (i+sub.length<=hi)&&subAt s sub i)).toList:=by
 unfold occurrences;simp only[Std.Legacy.Range.forIn_eq_forIn_range',Std.Legacy.Range.size,Nat.sub_one_add_one,Nat.add_one_sub_one,Nat.div_one];have:=occ_first (λi=>decide (i+sub.length<=hi)&&subAt s sub i) sub.length lo (qQ lo (hi+1-lo)) (λi hi'=>by rw[jK]at hi';exact hi'.1);rw[<-this];unfold Jt;simp only[<-Bool.and_assoc]
 rfl
theorem ZFv(s sub:Str)(i:Nat)(h:i+sub.length<=s.length):subAt s sub i=vZ↔(s.cps.toList.drop i).take sub.length=sub.cps.toList:=by unfold subAt;rw[beq_iff_eq,<-Array.toList_inj];rw[Array.toList_extract];simp[List.extract_eq_take_drop]
theorem contains1(s:Str)(c:Nat):(!(occurrences s ⟨#[c]⟩ 0 s.length 1).isEmpty)=decide (c∈s.cps.toList):=by
 rw[occ1];have hl:(⟨#[c]⟩:Str).length=1:=rfl;rw[hl];by_cases h:c∈s.cps.toList
 ·obtain⟨i,hi,e⟩:=List.mem_iff_getElem.mp h;have hi':i<s.length:=by simpa[Str.length]using hi
  have hf:((qQ 0 (s.length+1-0)).find? (λi=>decide (i+1<=s.length)&&subAt s ⟨#[c]⟩ i)).isSome=vZ:=by rw[List.find?_isSome];refine⟨i,by rw[jK];lia,?_⟩;rw[zx];refine⟨decide_eq_true (by lia),?_⟩;rw[ZFv s ⟨#[c]⟩ i (by rw[hl];lia),hl,zI hi,e];simp
  cases hc:(qQ 0 (s.length+1-0)).find? (λi=>decide (i+1<=s.length)&&subAt s ⟨#[c]⟩ i)with
  |none=>rw[hc]at hf;cases hf
  |some j=>simp[h]
 ·have hf:(qQ 0 (s.length+1-0)).find? (λi=>decide (i+1<=s.length)&&subAt s ⟨#[c]⟩ i)=vQ:=by
   rw[List.find?_eq_none];intro i hi hp;rw[zx]at hp;have h1:i+1<=s.length:=by simpa using hp.1
   have h2:=(ZFv s ⟨#[c]⟩ i (by rw[hl];lia)).mp hp.2
   rw[hl,zI (show i<s.cps.toList.length from zV (qK i) (by simpa[Str.length]using h1))]at h2
   simp at h2;exact h (by rw[<-h2];simp)
  rw[hf];simp[h]
theorem ZHN(sep:Str):∀(xs:List Str),(Txt.join sep xs).cps.toList=Ai sep.cps.toList (xs.map (·.cps.toList))
 |[]=>rfl
 |[x]=>by simp[Txt.join,glued,Ai]
 | x::y::r=>by
  have key:∀(r:List Str)(acc:Array Nat),(r.foldl (λacc p=>acc++sep.cps++p.cps) acc).toList=acc.toList++(r.map λp=>sep.cps.toList++p.cps.toList).flatten:=by
   intro r
   induction r with
   |nil=>intro acc;simp
   |cons p r ih=>intro acc;rw[qA,ih];simp
  have j:∀(x:Str)(r:List Str),Ai sep.cps.toList ((x::r).map (·.cps.toList))=x.cps.toList++(r.map λp=>sep.cps.toList++p.cps.toList).flatten:=by
   intro x r
   induction r generalizing x with
   |nil=>simp[Ai]
   |cons p r ih=>
    have:=ih p;simp only[zQ]at this⊢;rw[Ai,this];simp
  rw[j];show(glued sep (x::y::r)).cps.toList=_;unfold glued;simp only[List.drop_one,List.tail_cons,List.headD_cons];rw[key]
def CStep(g:DG)(c:DB)(te:DE)(S:DSt)(G:DH)(x:D)(r:Option D):Prop:=
 ∃S1,g x S G=.ok S1 G/\((c S1 G=.ok vJ G/\r=vQ)∨(c S1 G=.ok vZ G/\∃d,te S1 G=.ok d G/\r=xU d))
theorem Pn{c:DB}:∀{xs:List D},(∀x∈xs,CStep g c te S G x (F x))->Cj g c te S xs G=.ok (xs.filterMap F) G
 |[],_=>rfl
 |x::xs,h=>by
  obtain⟨S1,h1,h2⟩:=h x (by simp);have ih:=Pn (λy hy=>h y (zZ _ hy));rw[Ew,h1];rcases h2 with⟨h2,h3⟩|⟨h2,d,h3,h4⟩
  ·simp[h2,h3,ih,zS]
  ·simp[h2,h3,h4,ih,zS]
theorem ZGc{i:Nat}{c:DB}{xs:List D}(hG:G[i]?=xU (.lst xs))(h:∀x∈xs,CStep g c te S G x (F x)):
  ∀(n j:Nat),j+n=xs.length->Hf i g c te S n j G=.ok ((xs.drop j).filterMap F) G
 |0,j,hj=>by
  unfold Hf;rw[hG];simp only;rw[if_pos (by lia),qx (by lia)]
  rfl
 |n+1,j,hj=>by
  have hlt:j<xs.length:=by lia
  have ih:=ZGc hG h n (j+1) (by lia);obtain⟨S1,h1,h2⟩:=h xs[j] (qJ hlt);unfold Hf;rw[hG];simp only;rw[zY hlt];simp only[h1,R.Gr];rw[zI hlt,zS];rcases h2 with⟨h2,h3⟩|⟨h2,d,h3,h4⟩
  ·simp[h2,h3,ih]
  ·simp[h2,h3,h4,ih]
theorem ZMJ{i:Nat}{c:DB}{xs:List D}(hG:G[i]?=xU (.lst xs))(h:∀x∈xs,CStep g c te S G x (F x)):
  Hf i g c te S xs.length 0 G=.ok (xs.filterMap F) G:=ZGc hG h xs.length 0 (by lia)
theorem ZC4:∀xs:List (List Nat),Ai [] xs=xs.flatten
 |[]=>rfl
 |[x]=>by simp[Ai]
 |x::y::r=>by rw[Ai,ZC4 (y::r)];simp
theorem ZMN(cs:List Nat):Txt.join ("":Str) (cs.map λc=>(⟨#[c]⟩:Str))=⟨cs.toArray⟩:=by
 have h:=ZHN ("":Str) (cs.map λc=>(⟨#[c]⟩:Str));have e:("":Str).cps.toList=[]:=by decide +kernel
 rw[e,ZC4,qk]at h;have e2:(cs.map ((λx:Str=>x.cps.toList) ∘ λc=>(⟨#[c]⟩:Str))).flatten=cs:=by
  clear h
  induction cs with
  |nil=>rfl
  |cons c cs ih=>simp only[zQ,List.flatten_cons,ih];rfl
 rw[e2]at h;generalize Txt.join ("":Str) (cs.map λc=>(⟨#[c]⟩:Str))=z at h;obtain⟨a⟩:=z;simp only at h;rw[<-h]
theorem Rb{x y:Str}(h:x.cps.toList=y.cps.toList):x=y:=by obtain⟨a⟩:=x;obtain⟨b⟩:=y;simp only at h;rw[Array.toList_inj.mp h]
theorem ZKG{x y:Str}:x=y↔x.cps.toList=y.cps.toList:=⟨λh=>by rw[h],Rb⟩
end _D
namespace _D
open PySem PySem.Spec _L
open PyProof.Rows hiding St
variable{p:j9}{k:Nat}{old:jI}
inductive Src where
 |l (a:j9)
 |t (a:j9)
variable{sr:Src}
noncomputable def Src.itn:Src->String
 |.l _=>"list_iterator"
 |.t _=>"tuple_iterator"
noncomputable def Src.adr:Src->j9
 |.l a=>a
 |.t a=>a
def Src.it(h:Heap)(p:j9)(k:Nat)(sr:Src):Prop:=∃o,h.get? p=xU o/\o.cls=.type sr.itn/\o.data=.fields #[.ref sr.adr,.int k 0]
def Src.val(h:Heap)(xs:Array jI):Src->Prop
 |.l a=>h.IsList a xs
 |.t a=>h.IsTuple a xs
theorem Src.it.at{h h':Heap}(x:sr.it h p k)(e:∀o,h.get? p=xU o->h'.get? p=xU o):sr.it h' p k:=let⟨o,ho,r⟩:=x;⟨o,e o ho,r⟩
theorem Src.it.lt{h:Heap}(x:sr.it h p k):p<h.objs.size:=let⟨_,ho,_⟩:=x;zz ho
section
variable{prog:jE}{w:jL}{A:jA}{E:jI->jG->Prop}{s:jG}
theorem Src.next_item{xs:Array jI}{x:jI}{Q:jI->jG->Prop}(hit:sr.it s.heap p k)(hv:sr.val s.heap xs)(hx:xs[k]?=xU x)
  (hQ:∀h',sr.it h' p (k+1)->qE p s.heap h'->Q x {s with heap:=h'}):xB (xw prog w) A (Builtin.SmallTypes.nextOf (.ref p)) Q E s:=by
 cases sr with
 |l a=>exact wpAny_nextOf_list_item (show s.heap.IsListIter p a k from hit) hv hx hQ
 |t a=>
  obtain⟨o,ho,hc,hd⟩:=id hit;obtain⟨ol,hol,_,nl,hdl⟩:=hv;have hT:s.TypeIs (.ref p) "tuple_iterator":=⟨o,ho,hc⟩;unfold Builtin.SmallTypes.nextOf;refine xD (xE (name:=Str.ofString "__next__") hT PySem.F.slot_tuple_iterator_next (xF PySem.F.slot_tuple_iterator_next hT PySem.F.entry_tuple_iterator_next ?_ (PySem.F.args_tuple_iterator_next_1 _)));refine xD (m:=field (.ref p) 0) (xG ho hd (x:=.ref a) rfl ?_)
  show xB _ _ (if(Value.ref a==Value.none)=vZ then _ else(field (.ref p) 1 >>=_)) _ _ s
  rw[if_neg (show¬((Value.ref a==Value.none)=vZ)from zj)]
  refine xD (m:=field (.ref p) 1) (xG ho hd (x:=.int k 0) rfl (xD (m:=seqItems? (.ref a)) (wpAny_seqItems hol hdl ?_)));simp only[Int.toNat_natCast,hx];refine xD (wpAny_setField ho hd (by simp) (xN ⟨x,rfl,xN (hQ _ ⟨_,Heap.get?_update_self _ ho (Obj.isFreed_of_fields (Obj.data_mapFields hd _)),(Obj.cls_mapFields ..).trans hc,?_⟩ (qE.update ..))⟩))
  rw[Obj.data_mapFields hd];simp[xk,Src.adr]
theorem Src.next_end{xs:Array jI}{Q:jI->jG->Prop}(hh:A.handled=vQ)(hit:sr.it s.heap p k)(hv:sr.val s.heap xs)(hx:xs[k]?=vQ)
  (hE:∀h' e,Heap.ExtBut p s.heap h'->(∃o,h'.get? e=xU o/\o.cls=.type "StopIteration")->E (.ref e) {s with heap:=h'}):xB (xw prog w) A (Builtin.SmallTypes.nextOf (.ref p)) Q E s:=by
 cases sr with
 |l a=>exact wpAny_nextOf_list_end hh (show s.heap.IsListIter p a k from hit) hv hx hE
 |t a=>
  obtain⟨o,ho,hc,hd⟩:=id hit;obtain⟨ol,hol,_,nl,hdl⟩:=hv;have hT:s.TypeIs (.ref p) "tuple_iterator":=⟨o,ho,hc⟩;unfold Builtin.SmallTypes.nextOf;refine xD (xE (name:=Str.ofString "__next__") hT PySem.F.slot_tuple_iterator_next (xF PySem.F.slot_tuple_iterator_next hT PySem.F.entry_tuple_iterator_next ?_ (PySem.F.args_tuple_iterator_next_1 _)));refine xD (m:=field (.ref p) 0) (xG ho hd (x:=.ref a) rfl ?_)
  show xB _ _ (if(Value.ref a==Value.none)=vZ then _ else(field (.ref p) 1 >>=_)) _ _ s
  rw[if_neg (show¬((Value.ref a==Value.none)=vZ)from zj)]
  refine xD (m:=field (.ref p) 1) (xG ho hd (x:=.int k 0) rfl (xD (m:=seqItems? (.ref a)) (wpAny_seqItems hol hdl ?_)));simp only[Int.toNat_natCast,hx];refine xD (wpAny_rule (xD (wpAny_setField ho hd (by simp) (xD (m:=newExc (.type "StopIteration") []) ?_))));simp only[newExc,newTuple]
  refine xD (xL (xD (m:=firstArgMember _ _) (wpAny_of_eq (a:=Value.none) (by first|rfl|(simp only[firstArgMember];rfl)) (xL ?_ (by size_fits)))) (by size_fits))
  simp only[raiseNew];refine xD (wpAny_handled ?_)
  first|rw[show A.in1.handled=vQ from hh]|rw[hh]
  exact xD (xN (wpAny_throw (hE _ _ (((qE.update ..).extBut.push _).push _) ⟨_,zk _ rfl,rfl⟩)))
theorem Src.iter{xs:Array jI}{Q:jI->jG->Prop}(hv:sr.val s.heap xs)
  (hQ:Q (.ref s.heap.objs.size) {s with heap:=s.heap.push {cls:=.type sr.itn,data:=.fields #[.ref sr.adr,.int 0 0]}}):xB (xw prog w) A (pyIter (.ref sr.adr)) Q E s:=by
 cases sr with
 |l a=>exact wpAny_pyIter_list hv hQ
 |t a=>exact wpAny_pyIter_tuple hv hQ
end
abbrev En(h:Heap)(e it:j9)(f0:jI)(i:Int)(g old:jI):Prop:=
 h.get? e=xU {cls:=.type "enumerate",dict:=vQ,data:=.fields #[f0,.bool vJ,.ref it,xk i,g,old],slots:= #[]}
def Gv(i:Int)(g:jI):Prop:=g=.none∨∃t,g=.int i t
section
variable{prog:jE}{w:jL}{A:jA}{E:jI->jG->Prop}{s:jG}
theorem ZL6{e it:j9}{i:Int}{xs:Array jI}{x g:jI}{Q:jI->jG->Prop}(he:En s.heap e it .none i g old)(hg:Gv i g)(hit:sr.it s.heap it k)(hv:sr.val s.heap xs)(hx:xs[k]?=xU x)(hne:e≠it)
  (hQ:∀h' t tk,En h' e it (xk s.heap.objs.size) (i+1) .none x->sr.it h' it (k+1)->h'.get? s.heap.objs.size=xU {cls:=.type "tuple",data:=.seq #[.int i t,x]}->h'.objs.size=s.heap.objs.size+1->
   (∀b o,b≠e->b≠it->s.heap.get? b=xU o->h'.get? b=xU o)->Q (.ref s.heap.objs.size) {s with heap:=h',toks:=tk}):
  xB (xw prog w) A (Builtin.«enumerate.__next__» ⟨[.ref e],[]⟩) (λfin s'=>∃v,fin=.done (.ret v)/\Q v s') E s:=by
 obtain⟨hp,gg,d,tk,os⟩:=s;refine xD (m:=field (.ref e) 2) (xG he rfl (x:=.ref it) rfl (xD (m:=Builtin.SmallTypes.nextOf (.ref it)) (Src.next_item hit hv hx λh₁ hit₁ hs₁=>?_)));have he₁:En h₁ e it .none i g old:=(hs₁.2 e hne).trans he;have k₁:∀b o,b≠e->b≠it->hp.get? b=xU o->h₁.get? b=xU o:=λb o _ hb q=>hs₁.extBut b o hb q
 have z₁:h₁.objs.size=hp.objs.size:=hs₁.1;refine xD (m:=field (.ref e) 3) (xG he₁ rfl (x:=xk i) rfl ?_);refine xD (m:=field (.ref e) 4) (xG he₁ rfl (x:=g) rfl ?_)
 have rest:∀(t:Tok)(tk':Nat),xB (xw prog w) A (do
   setField (.ref e) 3 (xk (i+1));setField (.ref e) 4 .none
   let result<-newTuple [.int i t,x]
   if<-Builtin.SmallTypes.ownedTupleIsFree (.ref e)then
    rule "enumerate.__next__.owned-tuple-again"
    let old<-field (.ref e) 5
    setField (.ref e) 5 x
    Builtin.SmallTypes.ownedTupleHandOut (.ref e) result
    PySem.letGo [old] [result]
   ret result) (λfin s'=>∃v,fin=.done (.ret v)/\Q v s') E ⟨h₁,gg,d,tk',os⟩:=by
  intro t tk';refine xD (xO he₁ (by simp) λh₂ he₂ hs₂=>?_);refine xD (xO he₂ (by simp) λh₃ he₃ hs₃=>?_)
  replace he₃:En h₃ e it .none (i+1) .none old:=he₃
  have z₃:h₃.objs.size=hp.objs.size:=by rw[hs₃.1];show h₂.objs.size=_;rw[hs₂.1];exact z₁
  have k₃:∀b o,b≠e->b≠it->hp.get? b=xU o->h₃.get? b=xU o:=λb o h1 h2 q=>hs₃.extBut b o h1 (hs₂.extBut b o h1 (k₁ b o h1 h2 q))
  have i₃:sr.it h₃ it (k+1):=(hit₁.at λo q=>hs₂.extBut it o (Ne.symm hne) q).at λo q=>hs₃.extBut it o (Ne.symm hne) q
  refine xD (wpAny_newTuple ?_);generalize hh₄:h₃.push {cls:=.type "tuple",data:=.seq [Value.int i t,x].toArray}=h₄;have he₄:En h₄ e it .none (i+1) .none old:=by rw[<-hh₄];exact zX _ he₃
  have ht₄:h₄.get? hp.objs.size=xU {cls:=.type "tuple",data:=.seq #[.int i t,x]}:=by rw[<-hh₄,<-z₃];exact zk _ rfl
  have z₄:h₄.objs.size=hp.objs.size+1:=by rw[<-hh₄,jW,z₃]
  have k₄:∀b o,b≠e->b≠it->hp.get? b=xU o->h₄.get? b=xU o:=λb o h1 h2 q=>by rw[<-hh₄];exact zX _ (k₃ b o h1 h2 q)
  have i₄:sr.it h₄ it (k+1):=i₃.at λo q=>by rw[<-hh₄];exact zX _ q
  have ez:e<hp.objs.size:=zz he;refine xD (m:=Builtin.SmallTypes.ownedTupleIsFree (.ref e)) ?_;unfold Builtin.SmallTypes.ownedTupleIsFree;refine xD (xG he₄ rfl (x:=.none) rfl (xN ?_));simp only[if_true];refine xD (wpAny_rule (xD (xG he₄ rfl (x:=old) rfl (xD (xO he₄ (by simp) λh₅ he₅ hs₅=>?_)))))
  replace he₅:En h₅ e it .none (i+1) .none x:=he₅
  refine xD (m:=Builtin.SmallTypes.ownedTupleHandOut _ _) ?_;unfold Builtin.SmallTypes.ownedTupleHandOut;refine xD (xO he₅ (by simp) λh₆ he₆ hs₆=>?_);refine xO he₆ (by simp) λh₇ he₇ hs₇=>?_
  refine xD (wpAny_letGo (xN ⟨_,rfl,?_⟩));have up:∀b o,b≠e->h₄.get? b=xU o->h₇.get? b=xU o:=λb o hb q=>hs₇.extBut b o hb (hs₆.extBut b o hb (hs₅.extBut b o hb q))
  show Q (.ref h₃.objs.size) _;rw[z₃];rw[z₃]at he₇;exact hQ h₇ t tk' he₇ (i₄.at λo q=>up it o (Ne.symm hne) q) (up _ _ (j6 ez) ht₄) (by rw[hs₇.1];show h₆.objs.size=_;rw[hs₆.1];show h₅.objs.size=_;rw[hs₅.1];exact z₄) λb o h1 h2 q=>up b o h1 (k₄ b o h1 h2 q)
 rcases hg with rfl|⟨t,rfl⟩
 ·exact xD (m:=mkInt i) (wpAny_mkInt (rest tk (tk+1)))
 ·exact xD (m:=(pure (Value.int i t):Sem jI)) (xN (rest t tk))
theorem ZJy{e it:j9}{i:Int}{xs:Array jI}{x g:jI}{Q:Option jI->jG->Prop}(he:En s.heap e it .none i g old)(hg:Gv i g)(hit:sr.it s.heap it k)(hv:sr.val s.heap xs)(hx:xs[k]?=xU x)(hne:e≠it)
  (hQ:∀h' t tk,En h' e it (xk s.heap.objs.size) (i+1) .none x->sr.it h' it (k+1)->h'.get? s.heap.objs.size=xU {cls:=.type "tuple",data:=.seq #[.int i t,x]}->h'.objs.size=s.heap.objs.size+1->
   (∀b o,b≠e->b≠it->s.heap.get? b=xU o->h'.get? b=xU o)->Q (xU (.ref s.heap.objs.size)) {s with heap:=h',toks:=tk}):
  xB (xw prog w) A (pyNext (.ref e)) Q E s:=by
 have hT:s.TypeIs (.ref e) "enumerate":=⟨_,he,rfl⟩;unfold pyNext;exact xD (wpAny_attempt (xE (name:=Str.ofString "__next__") hT PySem.F.slot_enumerate_next
  (xF PySem.F.slot_enumerate_next hT PySem.F.entry_enumerate_next (ZL6 he hg hit hv hx hne λh' t tk a1 a2 a3 a4 a5=>xN (hQ h' t tk a1 a2 a3 a4 a5)) (PySem.F.args_enumerate_next_1 _))))
theorem ZOV{e it:j9}{i:Int}{xs:Array jI}{g:jI}{Q:Option jI->jG->Prop}(hh:A.handled=vQ)(he:En s.heap e it .none i g old)(hit:sr.it s.heap it k)(hv:sr.val s.heap xs)(hx:xs[k]?=vQ)
  (hQ:∀h',Heap.ExtBut it s.heap h'->Q vQ {s with heap:=h'}):xB (xw prog w) A (pyNext (.ref e)) Q E s:=by
 have hT:s.TypeIs (.ref e) "enumerate":=⟨_,he,rfl⟩;unfold pyNext;refine xD (wpAny_attempt (xE (name:=Str.ofString "__next__") hT PySem.F.slot_enumerate_next
  (xF PySem.F.slot_enumerate_next hT PySem.F.entry_enumerate_next (xD (m:=field (.ref e) 2) (xG he rfl (x:=.ref it) rfl (xD (m:=Builtin.SmallTypes.nextOf (.ref it)) (Src.next_end hh hit hv hx λh' x he' hx'=>?_)))) (PySem.F.args_enumerate_next_1 _))))
 obtain⟨o,ho,hc⟩:=hx';exact xD (wpAny_isInstance (T:="StopIteration") (b:=vZ) ⟨o,ho,hc⟩ isSubtype_stop (xN (hQ _ he')))
theorem ZM8{elts:List jB}{x1}{pos:Pos}{e it a:j9}{i:Int}{g:jI}{Q:Unit->jG->Prop}(he:En s.heap e it (xk a) i g old)
  (hQ:∀h',En h' e it .none i g old->qE e s.heap h'->Q () {s with heap:=h'}):xB (xw prog w) A (xz (.Tuple elts x1 pos) (.ref e) (.ref a)) Q E s:=by
 unfold xz;refine xD (wpAny_load he ?_);dsimp only;rw[if_pos (by simp)];exact xD (wpAny_rule (xO he (by simp) λh' he' hs'=>hQ h' he' hs'))
theorem ZCy{e it:j9}{f0:jI}{i:Int}{g:jI}{Q:jI->jG->Prop}(he:En s.heap e it f0 i g old)(h:Q (.ref e) s):xB (xw prog w) A (pyIter (.ref e)) Q E s:=by have hT:s.TypeIs (.ref e) "enumerate":=⟨_,he,rfl⟩;exact wpAny_pyIter_slot hT PySem.F.slot_enumerate_iter (xF PySem.F.slot_enumerate_iter hT PySem.F.entry_enumerate_iter (xN ⟨_,rfl,"enumerate",_,hT,PySem.F.slot_enumerate_next.lookup,h⟩) (PySem.F.args_enumerate_iter_1 _))
end
abbrev Tp(h:Heap)(T:j9)(xs:List jI):Prop:=h.get? T=xU {cls:=.type "tuple",data:=.seq xs.toArray}
section
variable{prog:jE}{w:jL}{A:jA}{E:jI->jG->Prop}{s:jG}
end
section
variable{prog:jE}{w:jL}{A:jA}{E:jI->jG->Prop}{s:jG}
end
end _D
namespace _D
open PySem PySem.W PyProof.Rows
section
variable{lt:Nat->Nat->Bool}
noncomputable abbrev pt(p:Array Nat)(j:Nat):Nat:=p.getD j 0
end
end _D
namespace _D
open PySem PySem.Spec _L
open PyProof.Rows hiding St
section
variable{X:Cx}{xT:List (j9×Obj)}{σ:St}{H:Hp}{s:jG}{h':Heap}
theorem ZEG{t':Nat}{fp:List j9}(I:Inv X xT σ H s)(k:∀b o,b∉fp->s.heap.get? b=xU o->h'.get? b=xU o)(hf:∀b∈fp,FpOk X xT H b):Inv X xT σ H {s with heap:=h',toks:=t'}:=by
 have nit:∀b u,H b=xU u->b∉fp:=λb u e z=>by rw[(hf b z).1]at e;cases e
 refine I.step (g':=s.gens) (d':=s.drawn) (ch:=fp) (λb hb=>?_) (λb o _ _ hc e _=>k b o hc e) (λb o _ _ hc e _=>⟨o.slots,k b o hc e⟩) (λ_ _ _ _ n=>n)
  (λb o hc e=>⟨o,k b o hc e⟩) (λ_ _ e=>e) (λ_ _ _ e=>e) (λb ps e=>⟨#[],by rw[e];simp⟩) (λm hm=>?_) (λb u e=>?_) I.bare
 ·obtain⟨f0,f1,f2,f3,f4,f5⟩:=hf b hb;exact⟨f3,f1,f4,f5⟩
 ·obtain⟨o,es,ep,ho,r⟩:=hm;exact⟨o,es,ep,k _ o (λz=>(hf _ z).2.1 rfl) ho,r⟩
 ·refine(I.hok b u e).stay (λc v hc q=>k c v ?_ q) (λ_ q=>q) λ_ _ q=>q
  rcases hc with z|z
  ·rw[z];exact nit b u e
  ·exact nit c _ z
theorem ZOi{t':Nat}{fp:List j9}{p:j9}{xs:List V}{its:List jI}(I:Inv X xT σ H s)(k:∀b o,b∉fp->s.heap.get? b=xU o->h'.get? b=xU o)(hf:∀b∈fp,FpOk X xT H b)(hp:s.heap.objs.size<=p)
  (hz:xs.length<=sizeLine) (r:Vals xs its) (ht:Tp h' p its):Inv X xT σ (upd H p (.tup xs)) {s with heap:=h',toks:=t'}:=by
 obtain⟨g0,g1,g2,g3,g4,g5⟩:=I.Nq (H':=H) hp (I.hok.fresh hp);exact ZEC (ZEG I k hf) g0 (z0 I.sz hp) g1 g4 g5 ⟨hz,its,r,_,ht,rfl,_,rfl⟩
end
def Src.sq(K:PySem.W.Frag)(H:Hp)(xs:List V):Src->Prop
 |.l a=>SqL K H a xs
 |.t a=>SqT K H a xs
theorem Src.sq.val{X:Cx}{xT:List (j9×Obj)}{σ:St}{H:Hp}{s:jG}{sr:Src}{xs:List V}(I:Inv X xT σ H s)(h:sr.sq X.K H xs):∃its:List jI,Vals xs its/\sr.val s.heap its.toArray/\xs.length<=sizeLine:=by
 cases sr with
 |l a=>obtain⟨its,r,p,hz⟩:=I.list h;exact⟨its,r,p.isList,hz⟩
 |t a=>obtain⟨its,r,p,hz⟩:=I.tuple h;exact⟨its,r,p,hz⟩
theorem Src.sq.inj{X:Cx}{xT:List (j9×Obj)}{σ:St}{H:Hp}{s:jG}{sr:Src}{xs ys:List V}(I:Inv X xT σ H s)(h:sr.sq X.K H xs)(h':sr.sq X.K H ys):xs=ys:=by
 cases sr with
 |l a=>exact I.Za h h'
 |t a=>exact I.Z8 h h'
def Ite(K:PySem.W.Frag)(sr:Src)(n:Int):It:=
 ⟨λi H=>∃xs x,sr.sq K H xs/\xs[i]?=xU x,λi H v H'=>∃p x,v=.ref p/\H p=vQ/\H'=upd H p (.tup [.int (n+i),x])/\∀xs,sr.sq K H xs->xs[i]?=xU x,λi H=>∃xs,sr.sq K H xs/\xs.length<=i⟩
theorem ZOo{P:jE}{w:jL}{K:PySem.W.Frag}{elts:List jB}{x1}{pos:Pos}(sr:Src)(n:Int)(e it:j9)(hne:e≠it):
  Turn P w K (.Tuple elts x1 pos) (Ite K sr n) [e,it] e (λi h=>∃g old,En h e it .none (n+i) g old/\Gv (n+i) g/\sr.it h it i) where
 mem:=by simp
 obj:=λi h st b hb=>by
  obtain⟨g,old,he,_,o,ho,_,hd⟩:=st;rcases(show b=e∨b=it by simpa using hb)with rfl|rfl
  ·exact⟨_,he,λv z=>by cases z⟩
  ·exact⟨o,ho,λv z=>by rw[hd]at z;cases z⟩
 keep:=λi h h' st k=>by obtain⟨g,old,he,hg,hi⟩:=st;exact⟨g,old,k e (by simp) _ he,hg,hi.at λo q=>k it (by simp) o q⟩
 item:=by
  intro X hP hw hK hc i xT s σ H E I hf st hg;subst hP hw hK;obtain⟨xs,x,hq,hx⟩:=hg;obtain⟨its,rv,hv,hz⟩:=Src.sq.val I hq;obtain⟨u,hu,ru⟩:=rv.get hx;obtain⟨g,old,he,hgv,hi⟩:=st;refine ZJy he hgv hi hv (x:=u) (by simpa using hu) hne λh1 t tk e1 i1 t1 z1 k1=>⟨_,rfl,?_⟩
  refine ZM8 (s:={s with heap:=h1,toks:=tk}) e1 λh2 e2 sb=>?_
  have hpe:s.heap.objs.size≠e:=j6 (zz he);have I2:Inv X xT σ (upd H s.heap.objs.size (.tup [.int (n+i),x])) {s with heap:=h2,toks:=tk}:=
   ZOi (fp:=[e,it]) (its:=[.int (n+i) t,u]) I (λb o hb q=>by
    have hb':b≠e/\b≠it:=by simpa using hb
    exact sb.extBut b o hb'.1 (k1 b o hb'.1 hb'.2 q)) hf (zW _) (by show 2<=sizeLine;decide) (.cons ⟨t,rfl⟩ (.cons ru .nil)) (sb.extBut _ _ hpe t1)
  have hfr:H s.heap.objs.size=vQ:=I.hok.fresh (zW _);refine⟨.ref s.heap.objs.size,_,I2,rfl,⟨_,x,rfl,hfr,rfl,λys hy=>by rw[Src.sq.inj I hy hq];exact hx⟩,⟨.none,u,?_,.inl rfl,i1.at λo q=>sb.extBut _ _ (Ne.symm hne) q⟩,λb hb=>?_⟩
  ·have ee:n+(i:Int)+1=n+((i+1:Nat):Int):=by lia
   rw[<-ee];exact e2
  ·have hb':b=e∨b=it:=by simpa using hb
   rw[Bs (λz=>?_)]
   ·exact(hf b hb).1
   ·rcases hb' with rfl|rfl
    ·exact hpe z.symm
    ·have hlt:=Src.it.lt hi;rw[z]at hlt;exact zO _ hlt
 done:=by
  intro X hP hw hK hc i xT s σ H E I hf st hg;subst hP hw hK;obtain⟨xs,hq,hx⟩:=hg;obtain⟨its,rv,hv,hz⟩:=Src.sq.val I hq;obtain⟨g,old,he,hgv,hi⟩:=st;have hl:=rv.length;refine ZOV (I.ok.hd hc) he hi hv (by simp;lia) λh1 xb=>⟨rfl,?_⟩
  exact ZEG (t':=s.toks) (fp:=[e,it]) I (λb o hb q=>xb b o (λz=>hb (by simp[z])) q) hf
 self:=λ_ _ _ _ _ st h=>by obtain⟨g,old,he,_⟩:=st;exact ZCy he h
section
variable{X:Cx}{E:XK}
end
section
variable{X:Cx}{xT:List (j9×Obj)}{σ:St}{H:Hp}{s:jG}
end
def Mi(n:Int)(d:D)(j:Nat)(G:DH):Option (Option D):=match Cy d G with
 |none=>vQ
 |some xs=>xU (xs[j]?.map λx=>.tup [.int (n+j),x])
section
variable{X:Cx}{E:XK}
theorem ZN7{a:Wd}{G:DH}{d:D}{v:V}{xs:List D}(s:Sim a G)(r:Rep a d v)(h:Cy d G=xU xs):
  ∃sr:Src,v=.ref sr.adr/\(∃vs,sr.sq a.K a.H vs)/\∀b:Wd,Ext a b->∀G',Sim b G'->∀ys,Cy d G'=xU ys->∃us,sr.sq b.K b.H us/\Reps b ys us:=by
 cases d with
 |tup ds=>
  obtain⟨p,vs,rfl,hq,rv⟩:=r;refine⟨.t p,rfl,⟨vs,hq⟩,λb x G' s' ys hy=>?_⟩
  cases(show xU ds=xU ys from hy)
  exact⟨vs,x.sqT hq,rv.mono x⟩
 |fl ds=>
  obtain⟨p,vs,rfl,hq,rv⟩:=r;refine⟨.l p,rfl,⟨vs,hq.sq⟩,λb x G' s' ys hy=>?_⟩
  cases(show xU ds=xU ys from hy)
  exact⟨vs,(x.fzL hq).sq,rv.mono x⟩
 | ref i=>
  obtain⟨hi,rfl⟩:=r;have hx:∃zs,G[i]?=xU (.lst zs):=by
   unfold Cy at h;dsimp only at h;split at h
   ·rename_i zs hz;exact⟨zs,hz⟩
   ·cases h
  obtain⟨zs,hz⟩:=hx;obtain⟨vs,e1,_⟩:=s.lst hz;refine⟨.l (a.m i),rfl,⟨vs,.of e1⟩,λb x G' s' ys hy=>?_⟩;unfold Cy at hy;dsimp only at hy;split at hy
  ·rename_i zs' hz';cases hy;obtain⟨us,e2,r2⟩:=s'.lst hz';rw[x.m i hi]at e2;exact⟨us,.of e2,r2⟩
  ·cases hy
 |_=>cases h
end
noncomputable def Fo:DS:=λ_ _=>.bad
section
variable{X:Cx}{E:XK}
theorem Fv{st:jH}:QS X E st Fo:=λxT s σ H W I h=>by obtain⟨a,S,G,hk,rfl,sm,r,h⟩:=h;exact h.elim
end
def O5(ds:List D)(G:DH):R D:=match ds with
 | [d]=>match Cy d G with
  |some xs=>match Gk xs with
   |some (n::ns)=>.ok (.int (ns.foldl min n)) G
   |_=>.bad
  |none=>.bad
 |_=>.bad
def O8(ds:List D)(G:DH):R D:=match ds with
 | [d]=>match Cy d G with
  |some xs=>match Gk xs with
   |some (n::ns)=>.ok (.int (ns.foldl max n)) G
   |_=>.bad
  |none=>.bad
 |_=>.bad
theorem ZFM:∀(ns:List Int)(n:Int),ns.foldl min n<=n/\(∀x∈ns,ns.foldl min n<=x)/\(ns.foldl min n=n∨ns.foldl min n∈ns)
 |[],n=>⟨jx _,λx h=>(by cases h),.inl rfl⟩
 | m::ns,n=>by
  obtain⟨h1,h2,h3⟩:=ZFM ns (min n m);rw[qA];refine⟨by lia,λx hx=>?_,?_⟩
  ·rcases zJ.mp hx with rfl|hx
   ·lia
   ·exact h2 x hx
  ·rcases h3 with h|h
   ·by_cases e:n<=m
    ·exact .inl (by rw[h];lia)
    ·exact .inr (by rw[h];rw[show min n m=m by lia];exact zy)
   ·exact .inr (zZ _ h)
theorem ZGY:∀(ns:List Int)(n:Int),n<=ns.foldl max n/\(∀x∈ns,x<=ns.foldl max n)/\(ns.foldl max n=n∨ns.foldl max n∈ns)
 |[],n=>⟨jx _,λx h=>(by cases h),.inl rfl⟩
 | m::ns,n=>by
  obtain⟨h1,h2,h3⟩:=ZGY ns (max n m);rw[qA];refine⟨by lia,λx hx=>?_,?_⟩
  ·rcases zJ.mp hx with rfl|hx
   ·lia
   ·exact h2 x hx
  ·rcases h3 with h|h
   ·by_cases e:m<=n
    ·exact .inl (by rw[h];lia)
    ·exact .inr (by rw[h];rw[show max n m=m by lia];exact zy)
   ·exact .inr (zZ _ h)
section
variable{X:Cx}{E:XK}
theorem intAt{ns:List Int}{its:List jI}{i:Nat}{w:jI}(hv:Vals (ns.map V.int) its)(hw:its.toArray[i]?=xU w):i<ns.length/\∃t,w=.int (ns.getD i 0) t:=by
 have hw':its[i]?=xU w:=by simpa using hw
 have hl:i<(ns.map V.int).length:=by rw[hv.length];exact(z3.mp hw').1
 have hl':i<ns.length:=by simpa using hl
 obtain⟨u,hu,ru⟩:=hv.get (i:=i) (x:=V.int ns[i]) (by simp[hl']);rw[hw']at hu;cases hu;obtain⟨t,rfl⟩:=ru;exact⟨hl',t,by simp[hl']⟩
theorem ZJ9(hc:X.calm=vZ):CallR X (.builtin "min") (lRn X.K E O5):=by
 intro xT s σ H vs us Q I rs h;obtain⟨a,G,ds,hk,rfl,sm,r,q⟩:=h;unfold O5 at q;split at q
 ·rename_i d;obtain⟨v,rfl,rv⟩:=reps1 r;split at q
  ·rename_i xs hs;split at q
   ·rename_i n ns hn;cases Y9 hn;obtain⟨p,ws,rfl,h1,r1⟩:=K6 sm rv hs;cases Yq r1;rw[hk]at h1;obtain⟨u,rfl,ru⟩:=vals1 rs;cases ru;refine call_min_walk (Wg I hc h1 λit fp wr its St s₂ hv W st hfp fin=>⟨it,fp,wr,its.toArray.size,_,St,_,rfl,W,st,hfp,?_,CmpOf.ints_lt (λi=>(n::ns).getD i 0) (λi w hw=>(intAt hv hw).2),λw h' tk hw kk=>?_⟩)
    ·rw[zq,<-hv.length];simp
    ·obtain⟨hl,t,rfl⟩:=intAt hv hw;obtain⟨b1,b2⟩:=argBest_lt (λi=>(n::ns).getD i 0) (its.toArray.size-1);refine⟨.int (ns.foldl min n),a.H,fin h' tk kk,⟨t,?_⟩,q a _ (Ext.refl a) sm rfl⟩;have hsz:its.toArray.size=ns.length+1:=by rw[zq,<-hv.length];simp
     obtain⟨m1,m2,m3⟩:=ZFM ns n;have hle:∀x∈n::ns,ns.foldl min n<=x:=λx hx=>by
      rcases zJ.mp hx with rfl|hx
      ·exact m1
      ·exact m2 x hx
     have hin:ns.foldl min n∈n::ns:=by
      rcases m3 with h|h
      ·rw[h];exact zy
      ·exact zZ _ h
     obtain⟨j,hj,ej⟩:=qT hin;have c1:=b2 j (by simp at hj;lia);have c2:=hle _ (qJ hl);have e1:(n::ns).getD j 0=ns.foldl min n:=by rw[zF,zY hj];exact ej
     have e2:(n::ns).getD (argBest (λi j=>decide ((λi=>(n::ns).getD i 0) i<(λi=>(n::ns).getD i 0) j)) (its.toArray.size-1)) 0=(n::ns)[argBest (λi j=>decide ((λi=>(n::ns).getD i 0) i<(λi=>(n::ns).getD i 0) j)) (its.toArray.size-1)]:=by rw[zF,zY hl];rfl
     have c1':=c1;rw[e1]at c1';rw[<-e2]at c2
     congr 1
     exact Int.le_antisymm c1' c2
   ·exact q.elim
  ·exact q.elim
 ·exact q.elim
theorem ZHa(hc:X.calm=vZ):CallR X (.builtin "max") (lRn X.K E O8):=by
 intro xT s σ H vs us Q I rs h;obtain⟨a,G,ds,hk,rfl,sm,r,q⟩:=h;unfold O8 at q;split at q
 ·rename_i d;obtain⟨v,rfl,rv⟩:=reps1 r;split at q
  ·rename_i xs hs;split at q
   ·rename_i n ns hn;cases Y9 hn;obtain⟨p,ws,rfl,h1,r1⟩:=K6 sm rv hs;cases Yq r1;rw[hk]at h1;obtain⟨u,rfl,ru⟩:=vals1 rs;cases ru;refine call_max_walk (Wg I hc h1 λit fp wr its St s₂ hv W st hfp fin=>⟨it,fp,wr,its.toArray.size,_,St,_,rfl,W,st,hfp,?_,CmpOf.ints_gt (λi=>(n::ns).getD i 0) (λi w hw=>(intAt hv hw).2),λw h' tk hw kk=>?_⟩)
    ·rw[zq,<-hv.length];simp
    ·obtain⟨hl,t,rfl⟩:=intAt hv hw;obtain⟨b1,b2⟩:=argBest_gt (λi=>(n::ns).getD i 0) (its.toArray.size-1);refine⟨.int (ns.foldl max n),a.H,fin h' tk kk,⟨t,?_⟩,q a _ (Ext.refl a) sm rfl⟩;have hsz:its.toArray.size=ns.length+1:=by rw[zq,<-hv.length];simp
     obtain⟨m1,m2,m3⟩:=ZGY ns n;have hle:∀x∈n::ns,x<=ns.foldl max n:=λx hx=>by
      rcases zJ.mp hx with rfl|hx
      ·exact m1
      ·exact m2 x hx
     have hin:ns.foldl max n∈n::ns:=by
      rcases m3 with h|h
      ·rw[h];exact zy
      ·exact zZ _ h
     obtain⟨j,hj,ej⟩:=qT hin;have c1:=b2 j (by simp at hj;lia);have c2:=hle _ (qJ hl);have e1:(n::ns).getD j 0=ns.foldl max n:=by rw[zF,zY hj];exact ej
     have e2:(n::ns).getD (argBest (λi j=>decide ((λi=>(n::ns).getD i 0) i>(λi=>(n::ns).getD i 0) j)) (its.toArray.size-1)) 0=(n::ns)[argBest (λi j=>decide ((λi=>(n::ns).getD i 0) i>(λi=>(n::ns).getD i 0) j)) (its.toArray.size-1)]:=by rw[zF,zY hl];rfl
     have c1':=c1;rw[e1]at c1';rw[<-e2]at c2
     congr 1
     exact Int.le_antisymm c2 c1'
   ·exact q.elim
  ·exact q.elim
 ·exact q.elim
end
end _D
namespace _D
open PySem PySem.W PyProof.Rows
end _D
namespace _D
open PySem PySem.Spec _L
open PyProof.Rows hiding St
variable{d:D}{T:String}
section
variable{prog:jE}{w:jL}{A:jA}{s:jG}
end
section
variable{X:Cx}{E:XK}{xT:List (j9×Obj)}{σ:St}{s:jG}{H:Hp}{h':Heap}
end
section
variable{prog:jE}{w:jL}{A:jA}{E:jI->jG->Prop}{s:jG}
end
section
variable{X:Cx}{E:XK}{xT:List (j9×Obj)}{σ:St}{s:jG}{H:Hp}
end
section
variable{X:Cx}{E:XK}
end
section
variable{S:DSt}{G:DH}
theorem ZLw{n:Int}{ns:List Int}(h:Cy d G=xU ((n::ns).map D.int)):O5 [d] G=.ok (.int (ns.foldl min n)) G:=by simp only[O5,h,ZFb]
theorem ZKo{n:Int}{ns:List Int}(h:Cy d G=xU ((n::ns).map D.int)):O8 [d] G=.ok (.int (ns.foldl max n)) G:=by simp only[O8,h,ZFb]
end
def Bts(i:Int):Prop:=i.natAbs.log2<33554432
def MulB(i j:Int):Prop:=CMul i j∨(Bts i/\Bts j)
noncomputable instance (i:Int):Decidable (Bts i):=by unfold Bts;infer_instance
noncomputable instance (i j:Int):Decidable (MulB i j):=by unfold MulB;infer_instance
theorem MulB.ok{i j:Int}(h:MulB i j):IntMulOk i j:=by
 rcases h with h|⟨h1,h2⟩
 ·exact h.ok
 ·have b:∀k:Int,Bts k->Builtin.Int.intBits k<=33554432:=λk hk=>by
   unfold Builtin.Int.intBits;split
   ·exact Nat.zero_le _
   ·exact hk
  have c1:=b i h1;have c2:=b j h2;have h:Builtin.Int.intTooBig (Builtin.Int.intBits i+Builtin.Int.intBits j)=vJ:=by unfold Builtin.Int.intTooBig bitsLine;exact decide_eq_false (by lia)
  unfold IntMulOk;rw[h];simp
def Ei:D->D->DH->R D
 |.int i,.int j,G=>if MulB i j then .ok (.int (i*j)) G else .bad
 |_,_,_=>.bad
section
variable{X:Cx}{E:XK}
theorem ZMV:OpR X (jR .Mult) (rI MulB λi j=>.int (i*j)):=opI λ_ _ _ _ _ _ _ hc q=>mul_int q hc.ok
theorem Gw:OpR X (jR .Mult) (lR2 X.K E Ei):=Hc ZMV λa G d e x y Q hk s rd re q=>by
 cases d<;>cases e<;>first
  |exact q.elim
  | (
    rename_i i j;unfold Ei at q;dsimp only at q;split at q
    ·exact⟨_,_,rd,re,by assumption,q a _ (Ext.refl a) s rfl⟩
    ·exact q.elim)
end
section
variable{i j:Int}{G:DH}
theorem Nm(h1: -(2^64)<i)(h2:i<2^64):Ei (.int i) (.int j) G=.ok (.int (i*j)) G:=if_pos (.inl (.inl ⟨h1,h2⟩))
theorem Xb(h1: -(2^64)<j)(h2:j<2^64):Ei (.int i) (.int j) G=.ok (.int (i*j)) G:=if_pos (.inl (.inr ⟨h1,h2⟩))
@[simp]theorem ZPb{n:Nat}(h:n<18446744073709551616):Ei (.int (no_index (OfNat.ofNat n))) (.int j) G=.ok (.int (OfNat.ofNat n*j)) G:=
 Nm (by have:(0:Int)<=(OfNat.ofNat n:Int):=Int.natCast_nonneg n;lia) (by have:(OfNat.ofNat n:Int)<18446744073709551616:=Int.ofNat_lt.mpr h;lia)
end
theorem ZDO:∀{ns:List Int},PySem.W.WData.weightAll (ns.map PySem.W.WData.int)<=2^20->∀n∈ns,n.natAbs.log2<1048576
 |[],_,n,h=>nomatch h
 | m::ns,hw,n,h=>by
  rw[zQ,PySem.W.WData.weightAll,PySem.W.WData.weight]at hw;rcases zJ.mp h with rfl|h
  ·split at hw
   ·rename_i hz;have:n=0:=by simpa using hz
    rw[this];decide
   ·lia
  ·exact ZDO (by lia) n h
theorem ZIz{l:PySem.W.OpenLaw}{n k:Nat}{q:jE}{loose:List Str}{XP:(Str->Option jI)->Heap->Prop}{YP:jL->Heap->Prop}{d:DefRec}{K:jL->PySem.W.Frag}{CX:jL->CXT}{sp:jL->Sp}{x:Str}
  (hn:l.most=xU n) (hn2:n<=sizeLine) (hdf:d.params.defaults=[]) (hr:Room k callerA) (hY:∀(w:jL)(h:Heap),YP w h->(K w).In h)
  (F:∀(w:jL)(mg:Str->Option jI)(fa:j9)(h:Heap),(K w).In h->h.Ns xj mg->mg d.name=xU (.ref fa)->
   ∃fd:jC,(∀(s:jG)(u:jI),BindsTo s fd ⟨[u],[]⟩ [(x,u)])/\∀base:Heap,(K w).In base->base.Ns xj mg->FnOk l.prog w (K w) mg base (CX w) k fa fd [x] (sp w))
  (hsp:∀(w:jL)(H:Hp)(a:j9)(ns:List Int),ns.length<=n->(∀m∈ns,m.natAbs.log2<1048576)->Only H->SqL (K w) H a (ns.map V.int)->sp w [.ref a] H (λv _=>v=.bl vZ) λ_ _ _=>False)
  (hCX:∀(w:jL)(H:Hp)(s:jG)(e:jI)(s':jG),CX w [] H s (λ_ _ _=>False) e s'->False):PySem.W.WalkO q loose XP YP l.row.toRowW d [] (λf vs=>PySem.call f vs):=by
 intro w s₀ s₁ mg mb G Y fa o pm cd doc dV kV ho hd hcd hD hmg hg args vals as hpre hlay hrd hwl hlo;obtain rfl:dV=.none:=PySem.W.Dflts.none hD hdf;obtain rfl:kV=.none:=PySem.W.Dflts.noKw hD;obtain⟨a,vs,ns,rfl,rfl,hobj,hints,hlen⟩:=Att.ZOn hn hpre hwl;have KX:=hY w _ Y;obtain⟨fd,hb,hF⟩:=F w mg fa _ KX G.T.g hmg;have hw:PySem.W.WData.weightAll (ns.map PySem.W.WData.int)<=2^20:=by
  have h1:PySem.W.WData.layable (.list (ns.map PySem.W.WData.int))=vZ:=by have:=hlay;simpa[PySem.W.WData.layableAll]using this
  have h2:=of_decide_eq_true (q8.mp h1).2;simpa only[PySem.W.WData.weight]using h2
 refine PySem.W.enter_call (jU (ZLy KX G.T.g G.T.b G.T.builtins G.T.nolimit hg hobj hints (z0 hlen hn2) hr hF hb (λH hO hS=>hsp w H a ns hlen (ZDO hw) hO hS) λH e s'=>hCX w H s₁ e s') λr s' hq=>?_);obtain⟨rfl,h2,h3,h4⟩:=hq
 exact⟨.inl ⟨.bool vZ,.bool vZ,[],rfl,λ_=>rfl,.bool vZ,Att.ZKZ l _,λ_=>⟨List.Pairwise.nil,λ_ hm=>(nomatch hm)⟩⟩,h2,h3,h4⟩
section
variable{X:Cx}{E:XK}
end
section
variable{X:Cx}{E:XK}{c f m:Str}{C:j9}{e o:jB}{es:List jB}{t ta tv:DE}{tr:DA}{pos apos pos':Pos}
end
theorem W5:∀{ns:List Int}{us:List jI},Vals (ns.map V.int) us->us.length=ns.length/\∀(j:Nat)(u:jI),us[j]?=xU u->∃t,∃h:j<ns.length,u=.int ns[j] t
 |[],us,h=>by cases h;exact⟨rfl,λj u e=>by simp at e⟩
 | n::ns,us,h=>by
  cases h with
  | cons r rr=>
   obtain⟨h1,h2⟩:=W5 rr;obtain⟨t,rfl⟩:=r;refine⟨by simp[h1],λj u e=>?_⟩;cases j with
   |zero=>simp at e;exact⟨t,by simp,by simpa using e.symm⟩
   |succ j=>
    obtain⟨t',hj,e'⟩:=h2 j u (by simpa using e);exact⟨t',by simpa using hj,by simpa using e'⟩
section
variable{X:Cx}{E:XK}
end
theorem ZLY(a b:jI):checkTypeCall "enumerate" ⟨[a],[("start",b)]⟩=pure ():=by kernel_rfl
theorem ZLn(a b:jI):checkBuiltinCall "enumerate.__new__" ⟨[.type "enumerate",a],[("start",b)]⟩=pure ():=by kernel_rfl
theorem ZIO(o a b:jI):argsOk "object.__init__" ⟨[o,a],[("start",b)]⟩:=by
 unfold argsOk;rw[signature?_of (id:="object.__init__") (n:=['_','_','t','i','n','i','_','_']) (o:=['t','c','e','j','b','o']) (by kernel_rfl) PySem.F.owner_object]
 kernel_rfl
section
variable{prog:jE}{w:jL}{A:jA}{E:jI->jG->Prop}{s:jG}
theorem ZJe{newId:String}{self a:jI}{kw:List (Str×jI)}(hl:typeLookup (.type T) "__init__"=pure (xU (.builtin "object.__init__")))(hm:Bind.madeBy (.type T)=pure (xU newId))(hne:(xU newId != xU "object.__new__")=vZ):
  Meets (Builtin.«object.__init__» ⟨[self,a],kw⟩) (λ_ R s=>s.TypeIs self T/\R (.ok (.ret .none)) s):=by
 refine Meets.of_wp λprog w A R s hs=>?_
 obtain⟨hT,hq⟩:=hs
 repeat (any_goals (first|assumption|wp_step))
 exact⟨_,rfl,hq⟩
theorem ZMB{newId initId:String}{Bn Bi:Builtin}{args:List jI}{kw:List (Str×jI)}{S:PySem.Spec}{Q Q₁:jI->jG->Prop}(ft:TypeCalled T newId initId)
  (hct:checkTypeCall T ⟨args,kw⟩=pure ()) (hcn:checkBuiltinCall newId ⟨.type T::args,kw⟩=pure ())
  (entryN:entryFor table newId=xU Bn) (entryI:entryFor table initId=xU Bi) (g:Meets (Bn ⟨.type T::args,kw⟩) S) (h:S A.in1 (wants Q₁ E) s)
  (hnext:∀obj s₁,Q₁ obj s₁->s₁.TypeIs obj T/\argsOk initId ⟨obj::args,kw⟩/\∃Si,Meets (Bi ⟨obj::args,kw⟩) Si/\Si A.in1 (wants (λr s₂=>r=.none/\Q obj s₂) E) s₁):
  xB (xw prog w) A (call (.type T) args kw) Q E s:=by
 obtain⟨c,tl,hmro⟩:=ft.mro;have hmade:=ft.made;have hsub:=ft.sub;refine wpAny_call (codeAny_of_tree ?_);show xB _ _ (callAny (.type T) _) _ _ _;refine xN ⟨Code.quiet_builtin _ (by decide +kernel),codeAny_builtin PySem.F.entry_type_call ?_⟩;rw[Around.under_plain (weight_type_call_type T args kw) (units_type_call_type T args kw)];have h1:=ft.notType;have h2:=ft.canCreate
 repeat (any_goals (first|assumption|wp_step))
 refine jU (codeAny_call_builtin ft.plain entryN (wpAny_of_eq hcn (g prog w A.in1 _ s h))) λr s₁ hr=>?_
 cases r with
 |error e=>exact hr
 | ok fl=>
  cases fl with
  | ret obj=>
   obtain⟨hT,hok,Si,gi,hsi⟩:=hnext _ _ hr;have hli:=ft.init.lookup;have hbi:=ft.init.bind obj
   repeat (any_goals (first|assumption|wp_step))
   refine jU (codeAny_call_builtin ft.init.plain entryI (ft.init.check _ _ _ _ _ _ _ _ hT hok (gi prog w A.in1 _ s₁ hsi))) λr₂ s₂ hr₂=>?_
   cases r₂ with
   |error e=>exact hr₂
   | ok fl₂=>
    cases fl₂ with
    |ret r=>
     obtain⟨rfl,hq⟩:=hr₂
     repeat (any_goals (first|assumption|wp_step))
    |_=>exact hr₂.elim
  |_=>exact hr.elim
theorem ZJJ{sr:Src}{xs:Array jI}{n:Int}{t:Tok}{Q:jI->jG->Prop}(hv:sr.val s.heap xs)
  (h:∀h' tk g,Gv n g->En h' (s.heap.objs.size+1) s.heap.objs.size .none n g .none->sr.it h' s.heap.objs.size 0->(∀b o,s.heap.get? b=xU o->h'.get? b=xU o)->Q (.ref (s.heap.objs.size+1)) {s with heap:=h',toks:=tk}):
  xB (xw prog w) A (call (.type "enumerate") [.ref sr.adr] [("start",.int n t)]) Q E s:=by
 have g:Meets (Builtin.«enumerate.__new__» ⟨[.type "enumerate",.ref sr.adr],[("start",.int n t)]⟩) (λ_ R s=>sr.val s.heap xs/\∀g tk,Gv n g->
   R (.ok (.ret (.ref (s.heap.push {cls:=.type sr.itn,data:=.fields #[.ref sr.adr,.int 0 0]}).objs.size)))
    {s with heap:=(s.heap.push {cls:=.type sr.itn,data:=.fields #[.ref sr.adr,.int 0 0]}).push {cls:=.type "enumerate",data:=.fields #[.none,.bool vJ,.ref s.heap.objs.size,xk n,g,.none]},toks:=tk}):=
  .of_wp λprog w A R s h=>by
   obtain⟨hp,g,d,tk,os⟩:=s;obtain⟨hl,h⟩:=h;have hsub:=sub_enumerate;have hL:sr.val (Shared.heap ⟨hp,g,d,tk,os⟩) xs:=hl
   wp_walk
   refine wpAny_stack_any λst=>xN ?_
   cases hf:Builtin.SmallTypes.fitsIndex n
   ·split
    ·rename_i c _ _ _ _ _
     cases(c==Value.type "enumerate")<;>(wp_walk using Src.iter hL;exact⟨_,rfl,h _ _ (.inr ⟨t,rfl⟩)⟩)
    ·wp_walk using Src.iter hL
     exact⟨_,rfl,h _ _ (.inr ⟨t,rfl⟩)⟩
   ·split
    ·rename_i c _ _ _ _ _
     cases(c==Value.type "enumerate")<;>(wp_walk using Src.iter hL;exact⟨_,rfl,h _ _ (.inl rfl)⟩)
    ·wp_walk using Src.iter hL
     exact⟨_,rfl,h _ _ (.inl rfl)⟩
 refine ZMB (Q₁:=λobj s₁=>s₁.TypeIs obj "enumerate"/\Q obj s₁) PySem.F.called_enumerate (ZLY _ _) (ZLn _ _) PySem.F.entry_enumerate_new PySem.F.entry_object_init g ⟨hv,λg tk hg=>?_⟩ λobj s₁ hq=>⟨hq.1,ZIO obj _ _,_,ZJe PySem.F.called_enumerate.init.lookup PySem.F.called_enumerate.made (by decide),hq.1,rfl,hq.2⟩
 have hz:(s.heap.push {cls:=.type sr.itn,data:=.fields #[.ref sr.adr,.int 0 0]}).objs.size=s.heap.objs.size+1:=jW ..;show _/\_;rw[hz];have he:En ((s.heap.push {cls:=.type sr.itn,data:=.fields #[.ref sr.adr,.int 0 0]}).push {cls:=.type "enumerate",data:=.fields #[.none,.bool vJ,.ref s.heap.objs.size,xk n,g,.none]}) (s.heap.objs.size+1) s.heap.objs.size .none n g .none:=by
  have:=zk (s.heap.push {cls:=.type sr.itn,data:=.fields #[.ref sr.adr,.int 0 0]}) (o:={cls:=.type "enumerate",data:=.fields #[.none,.bool vJ,.ref s.heap.objs.size,xk n,g,.none]}) rfl;rw[hz]at this;exact this
 exact⟨⟨_,he,rfl⟩,h _ tk g hg he ⟨_,zX _ (zk _ rfl),rfl,rfl⟩ λb o x=>zX _ (zX _ x)⟩
theorem ZJG{M:Model}{A:jA}{E:jI->jG->Prop}{s:jG}{env:Env}{pos:Pos}{e:jB}{rest:List jB}{kws:List Keyword}{Q:jI->jG->Prop}
  (hall:(jO pos (xq kws env)).all (·.1.isSome)=vZ)
  (h:xB M A (spliced (jN pos (x9 (e::rest) env))) (λvs s₁=>xB M A (evalAll ((jO pos (xq kws env)).map (·.2)))
   (λks s₂=>xB M A (call (.type T) vs (((jO pos (xq kws env)).filterMap (·.1)).zip ks)) Q E s₂) E s₁) E s)
  (hplain:(jN pos (x9 (e::rest) env)).any (·.1)=vJ) (hkw:(jO pos (xq kws env)).any (·.1.isNone)=vJ) (he:x9 (e::rest) env=(vJ,eval e env)::x9 rest env):
  xB M A (callWith pos (.type T) [] (jN pos (x9 (e::rest) env)) (jO pos (xq kws env))) Q E s:=by
 unfold callWith;refine xD (xH (xI (PyProof.Rows.evalArgs_kw2 (Q:=λa s₁=>xB M A (call (.type T) ([]++a.pos) a.kw) Q E s₁) hall h he) (λa s₁ h₁=>xD (wpAny_standAt ?_)) λ_ _ x=>x));simp only[hplain,hkw,Bool.or_false];refine xD (xN ?_);exact xD (xI h₁ (λr s₂ hr=>xD (xH (wpAny_point (xN hr)))) λ_ _ x=>x)
end
section
variable{X:Cx}{E:XK}
def ZJq(K:PySem.W.Frag)(ta tk:TA):TI:=λσ H R=>ta σ H λvs H1=>tk σ H1 λws H2=>∃sr xs n,vs=[.ref (Src.adr sr)]/\ws=[.int n]/\sr.sq K H2 xs/\R (Ite K sr n) H2
theorem ZKH{elts:List jB}{x1}{tp:Pos}{a b:jB}{ta tk:TA}{p pos kp:Pos}(hg:Gl X "enumerate")(hm:X.mg "enumerate"=vQ)(ha:PA X [a] ta)(hk:PK X [⟨xU "start",b,kp⟩] tk)(hs:x9 [a] X.env=[(vJ,eval a X.env)]:=by rfl):
  PI X (.Tuple elts x1 tp) (.Call (.Name "enumerate" p) [a] [⟨xU "start",b,kp⟩] pos) (ZJq X.K ta tk):=by
 intro xT s σ H R I h;refine xC (Rf I hg hm PyProof.Rows.boot_enumerate (ZJG rfl (thn (ha pos xT s σ H _ I h) λus s1 ⟨vs,H1,I1,r1,q1⟩=>thn (hk pos xT s1 σ H1 _ I1 q1) λus2 s2 ⟨ws,H2,I2,r2,q2⟩=>?_) (by rw[hs];rfl) rfl hs));obtain⟨sr,xs,n,e,e2,hq,q⟩:=q2;subst e;subst e2;cases r1 with
 |cons r rr=>
  cases rr;cases r;obtain⟨u,rfl,ru⟩:=r2.one;obtain⟨t,rfl⟩:=ru;obtain⟨its,rv,hv,hz⟩:=Src.sq.val I2 hq;refine ZJJ hv λh' tk g hg he hi kp=>?_
  refine ZCy he ?_;have I3:Inv X xT σ H2 {s2 with heap:=h',toks:=tk}:=I2.kept (t':=tk) kp;refine⟨s2.heap.objs.size+1,[s2.heap.objs.size+1,s2.heap.objs.size],_,_,H2,rfl,I3,ZOo sr n _ _ (Nat.succ_ne_self _),⟨g,.none,by simpa using he,by simpa using hg,hi⟩,λb hb=>?_,q⟩;have hb':b=s2.heap.objs.size+1∨b=s2.heap.objs.size:=by simpa using hb
  have hle:s2.heap.objs.size<=b:=by rcases hb' with rfl|rfl<;>lia
  exact I2.Nq hle (I2.hok.fresh hle)
theorem ZNN{a:Wd}{sr:Src}{n0:Int}(hk:a.K=X.K)(rd:∀b:Wd,Ext a b->∀G',Sim b G'->∀ys,Cy d G'=xU ys->∃us,sr.sq b.K b.H us/\Reps b ys us)(n:Nat):RepI a (.fn n (Mi n0 d)) (Ite X.K sr n0):=by
 intro b x G' s' i;have kb:b.K=X.K:=x.k.trans hk;constructor
 ·intro e he;unfold Mi at he;split at he
  ·cases he
  ·rename_i ys hy;obtain⟨us,hq,ru⟩:=rd b x G' s' ys hy;rw[kb]at hq;cases hyi:ys[i]? with
   |none=>rw[hyi]at he;cases he
   |some y=>
    rw[hyi]at he;have he':D.tup [.int (n0+i),y]=e:=by simpa using he
    subst he';obtain⟨u,hu,rx⟩:=ru.get hyi;refine⟨⟨us,u,hq,hu⟩,?_⟩;rintro w H' ⟨p,u',rfl,hp,rfl,hu'⟩;refine⟨b.put p (.tup [.int (n0+i),u']),rfl,Ext.put hp,s'.put hp,p,_,rfl,.of I8,?_⟩;have e1:=hu' us hq;rw[hu]at e1;cases e1;exact⟨_,_,rfl,rfl,Reps.cons (rx.mono (Ext.put hp)) rfl⟩
 ·intro he;unfold Mi at he;split at he
  ·cases he
  ·rename_i ys hy;obtain⟨us,hq,ru⟩:=rd b x G' s' ys hy;rw[kb]at hq;cases hyi:ys[i]? with
   |none=>exact⟨us,hq,by rw[<-ru.length];exact qS.mp hyi⟩
   |some y=>rw[hyi]at he;cases he
def ZB8(ta:DA)(tb:DE):DI:=λS G=>(ta S G).bind λds G1=>(tb S G1).bind λk G2=>match ds,k with
 |[d],.int n=>match Cy d G2 with
  |some xs=>.ok (.fn xs.length (Mi n d)) G2
  |none=>.bad
 |_,_=>.bad
theorem ZJ5{b:jB}{nm:Option Str}{kp:Pos}{tb:DE}(hb:QE X E b tb):PK X [⟨nm,b,kp⟩] (ZAm (lE X.K E tb) ZBx):=ZLM hb ZIS
theorem ZON{E:XK}{a:Wd}{r:R D}{f:D->DH->R ItD}{Q:It->Hp->Prop}(h:outI E a (r.bind f) Q):
  out E a r (λv H=>∃(b:Wd)(d:D)(G:DH),b.H=H/\Ext a b/\Sim b G/\Rep b d v/\outI E b (f d G) Q):=by
 cases r with
 |ok d G=>exact λb v x s q=>⟨b,d,G,rfl,x,s,q,outI.mono x h⟩
 |err e G=>exact h
 |bad=>exact h
theorem ZK0{elts:List jB}{x1}{tp:Pos}{e b:jB}{ta:DA}{tb:DE}{p pos kp:Pos}(hg:Gl X "enumerate")(hm:X.mg "enumerate"=vQ)(ha:QA X E [e] ta)(hb:QE X E b tb)(hs:x9 [e] X.env=[(vJ,eval e X.env)]:=by rfl):
  QI X E (.Tuple elts x1 tp) (.Call (.Name "enumerate" p) [e] [⟨xU "start",b,kp⟩] pos) (ZB8 ta tb):=(ZKH hg hm ha (ZJ5 hb) hs).mono λσ H Q h=>by
 obtain⟨a,S,G,hk,rfl,s,r,h⟩:=h;refine⟨a,S,G,hk,rfl,s,r,(ZGy h).imp ?_⟩;rintro vs _ ⟨b,ds,G1,rfl,x,s1,q,-,h1⟩;refine⟨b,S,G1,x.k.trans hk,rfl,s1,r.mono x,(ZON h1).imp ?_⟩;rintro v _ ⟨c,k,G2,rfl,y,s2,q2,h2⟩;split at h2
 ·rename_i d n;split at h2
  ·rename_i xs hx;obtain⟨w,r,e1,q1,q3⟩:=q
   cases(show r=[]from q3)
   subst e1
   cases(show v=V.int n from q2)
   obtain⟨sr,rfl,⟨us,hq⟩,rd⟩:=ZN7 s2 (q1.mono y) hx;have kb:c.K=X.K:=(y.k.trans x.k).trans hk;exact⟨sr,us,n,rfl,rfl,by rw[<-kb];exact hq,h2 c _ (Ext.refl c) s2 (ZNN kb rd _)⟩
  ·exact h2.elim
 ·exact h2.elim
end
end _D
namespace _D
open PySem PySem.Spec _L
section
variable{S:DSt}{G:DH}{c f m:Str}{t to tv:DE}{ta:DA}{F:List D->DH->R D}{i:Nat}{fs:List (Str×D)}{v d:D}
end
end _D
namespace _D
open PySem PySem.Spec _L
open PyProof.Rows hiding St
variable{t:DE}
section
variable{X:Cx}{E:XK}
end
section
variable{i j:Int}{G:DH}
end
def comp0(N:List Str)(names:List (Str×jD))(nt:Nat):Bool:=
 names.all (λy=>(!Hk y.2||isK Hk (names.lookup y.1)) && !Kq y.2 && !Jl y.2)&&decide N.Nodup&&decide (N.length=nt)
theorem ZNw{X:Cx}{N:List Str}{scope:jF}{nt:Nat}(hk:scope.kind=.function:=by rfl)(h:comp0 N scope.names nt=vZ:=by decide +kernel):CompSc X N scope nt []:=by
 unfold comp0 at h;rw[zx,zx]at h;obtain⟨⟨h1,h2⟩,h3⟩:=h;rw[qY]at h1;have key:=λ(y:Str×jD)(hy:y∈scope.names)=>(by have:=h1 y hy;rw[zx,zx]at this;exact this:((!Hk y.2||isK Hk (scope.names.lookup y.1))=vZ/\(!Kq y.2)=vZ)/\(!Jl y.2)=vZ)
 refine⟨hk,λy hy hl=>?_,λy hy hl=>?_,λy hy hl=>?_,of_decide_eq_true h2,by rw[of_decide_eq_true h3];rfl,λk j hj=>?_⟩
 ·have:=(key y hy).1.1;rw[hl]at this;exact Pq (p:=Hk) (λ_ h=>ZEp h) (by have t:(vJ||isK Hk (scope.names.lookup y.1))=vZ:=this;simpa using t)
 ·have:=(key y hy).1.2;rw[hl]at this;exact absurd this (by decide)
 ·have:=(key y hy).2;rw[hl]at this;exact absurd this (by decide)
 ·cases hj
section
variable{X:Cx}{E:XK}{e st:jB}{te:TE}{ts:TO}{p2 pos:Pos}
end
section
variable{S:DSt}{G:DH}
end
theorem size6'{n:Nat}(h:n<=1000000):n<=sizeLine:=z0 h (by decide)
def Q6(ds:List D)(G:DH):R D:=match ds with
 |[.str x]=>match PySem.intText? x with
  |some n=>if x.length<=640 then .ok (.int n) G else .bad
  |none=>.bad
 |_=>.bad
section
variable{X:Cx}{E:XK}
theorem ZKL:CallR X (.type "int") (lRn X.K E Q6):=λxT s σ H xs us Q I rs h=>by
 obtain⟨a,G,ds,hk,rfl,sm,r,q⟩:=h;unfold Q6 at q;split at q
 ·rename_i x;obtain⟨v,rfl,h1⟩:=reps1 r
  cases(show v=V.str x from h1)
  obtain⟨u,rfl,t,rfl⟩:=vals1 rs;split at q
  ·rename_i n hn;split at q
   ·rename_i hl;exact PySem.W.KIN.call_text hn hl ⟨.int n,a.H,I.tok _,⟨_,rfl⟩,q a _ (Ext.refl a) sm rfl⟩
   ·exact q.elim
  ·exact q.elim
 ·exact q.elim
noncomputable def part3(x y:Str):List D:=[.str (Txt.partition x y).1,.str (Txt.partition x y).2.1,.str (Txt.partition x y).2.2]
def Lq(o:D)(ds:List D)(G:DH):R D:=match o,ds with
 |.str x,[.str y]=>if y.length≠0/\x.length<=1000000 then .ok (.tup (part3 x y)) G else .bad
 |_,_=>.bad
theorem Wj:MtM X "str.partition" (lRm X.K E Lq):=λxT s σ H x xs v us Q I rx rs h=>by
 obtain⟨a,G,d,ds,hk,rfl,sm,rd,r,q⟩:=h;unfold Lq at q;split at q
 ·rename_i x' y;obtain⟨w,rfl,rw'⟩:=reps1 r
  cases(show x=V.str x' from rd)
  cases(show w=V.str y from rw')
  obtain⟨t,rfl⟩:=rx;obtain⟨u,rfl,u',rfl⟩:=vals1 rs;split at q
  ·rename_i hl;have hy:(y.length==0)=vJ:=by simpa using hl.1
   have rs3:Reps a (part3 x' y) [.str (Txt.partition x' y).1,.str (Txt.partition x' y).2.1,.str (Txt.partition x' y).2.2]:=Reps.cons (show Rep a (.str _) (V.str _)from rfl) (Reps.cons (show Rep a (.str _) (V.str _)from rfl) (Reps.cons (show Rep a (.str _) (V.str _)from rfl) Reps.nil))
   have key:∀(t1 t2 t3:Tok)(k:Nat),EP X xT σ Q (.ref s.heap.objs.size) {s with toks:=k,heap:=s.heap.push {cls:=.type "tuple",data:=.seq [.str (Txt.partition x' y).1 t1,.str (Txt.partition x' y).2.1 t2,.str (Txt.partition x' y).2.2 t3].toArray}}:=λt1 t2 t3 k=>
    ⟨.ref s.heap.objs.size,_,I.laid (t':=k) (o:=.tup [.str (Txt.partition x' y).1,.str (Txt.partition x' y).2.1,.str (Txt.partition x' y).2.2]) (λb ob q=>zX _ q) (zW _) ⟨by show 3<=sizeLine;decide,_,.cons ⟨t1,rfl⟩ (.cons ⟨t2,rfl⟩ (.cons ⟨t3,rfl⟩ .nil)),IsTup.new _ _⟩,rfl,W4 sm rs3 q _ (I.hok.fresh (zW _))⟩
   refine call_meets F.slot_str_partition (typeIs_str _ _ _) F.entry_str_partition (F.args_str_partition_2 _ _) (meets_str_partition x' y t u' hy (size6' hl.2)) ?_;clear rs3
   revert key
   clear q;unfold Txt.partition;cases Builtin.Str.occurrences x' y 0 x'.length 1 with
   |nil=>intro key;exact key _ _ _ _
   |cons i r=>intro key;exact key _ _ _ _
  ·exact q.elim
 ·exact q.elim
def Iv(o:D)(ds:List D)(G:DH):R D:=match o,ds with
 |.str x,[.str y]=>if y.length≠0/\x.length<=1000000 then .ok (.ref G.length) (G++[.lst ((Txt.split x y).map D.str)])else .bad
 |_,_=>.bad
theorem ZCd:∀(l:List (Str×Tok)),Vals ((l.map (·.1)).map V.str) (strValues l)
 |[]=>.nil
 |a::l=>.cons ⟨a.2,rfl⟩ (ZCd l)
theorem W7{a:Wd}:∀(l:List Str),Reps a (l.map D.str) (l.map V.str)
 |[]=>Reps.nil
 |x::l=>Reps.cons (show Rep a (.str x) (V.str x)from rfl) (W7 l)
theorem m_split:MtM X "str.split" (lRm X.K E Iv):=λxT s σ H x xs v us Q I rx rs h=>by
 obtain⟨a,G,d,ds,hk,rfl,sm,rd,r,q⟩:=h;unfold Iv at q;split at q
 ·rename_i x' y;obtain⟨w,rfl,rw'⟩:=reps1 r
  cases(show x=V.str x' from rd)
  cases(show w=V.str y from rw')
  obtain⟨t,rfl⟩:=rx;obtain⟨u,rfl,u',rfl⟩:=vals1 rs;split at q
  ·rename_i hl;have hy:(y.length==0)=vJ:=by simpa using hl.1
   have hsl:=split_le x' y;have hsz:(Txt.split x' y).length<=sizeLine:=z0 (z0 hsl (Nat.add_le_add_right hl.2 2)) (by decide)
   have key:∀(l:List (Str×Tok))(k:Nat),l.map (·.1)=Txt.split x' y->EP X xT σ Q (.ref s.heap.objs.size) {s with toks:=k,heap:=s.heap.push {cls:=.type "list",data:=.seq (strValues l).toArray}}:=λl k e=>
    ⟨.ref s.heap.objs.size,_,I.laid (t':=k) (o:=.lst ((Txt.split x' y).map V.str)) (λb ob q=>zX _ q) (zW _) ⟨by rw[zK];exact hsz,_,0,by rw[<-e];exact ZCd l,zk _ rfl⟩,rfl,Qy sm (W7 _) q _ (I.hok.fresh (zW _))⟩
   cases h1:(decide (x'.length<y.length)||decide (Builtin.Str.strKind x'<Builtin.Str.strKind y))
   ·cases hf:(Builtin.Str.occurrences x' y 0 x'.length (x'.length+1)).isEmpty
    ·have e:Txt.split x' y=Builtin.Str.partsBetween x' (Builtin.Str.occurrences x' y 0 x'.length (x'.length+1)) y.length:=(if_neg (ne_true_of_eq_false h1)).trans (if_neg (ne_true_of_eq_false hf));refine call_meets F.slot_str_split (typeIs_str _ _ _) F.entry_str_split (F.args_str_split_2 _ _) (meets_str_split_sep x' y t u' h1 hy hf (size6' hl.2) (by rw[<-e];exact hsz)) ?_;show EP X xT σ Q _ {s with toks:=_,heap:=s.heap.push {cls:=.type "list",data:=.seq (strsFrom s.toks (Builtin.Str.partsBetween x' (Builtin.Str.occurrences x' y 0 x'.length (x'.length+1)) y.length)).toArray}}
     rw[strsFrom_eq];exact key (numbered s.toks _) _ ((numbered_texts _ _).trans e.symm)
    ·exact call_meets F.slot_str_split (typeIs_str _ _ _) F.entry_str_split (F.args_str_split_2 _ _) (meets_str_split_not_found x' y t u' h1 hy hf) (key [(x',t)] s.toks ((if_neg (ne_true_of_eq_false h1)).trans (if_pos hf)).symm)
   ·exact call_meets F.slot_str_split (typeIs_str _ _ _) F.entry_str_split (F.args_str_split_2 _ _) (meets_str_split_cannot_occur x' y t u' h1) (key [(x',t)] s.toks (if_pos h1).symm)
  ·exact q.elim
 ·exact q.elim
def Hu:D->Option Str
 |.str x=>if x.length<=1000000 then xU x else vQ
 |.int i=>if i.natAbs.log2<1920 then xU (toString i)else vQ
 |_=>vQ
def dFv(t:DE):DE:=λS G=>(t S G).bind λd G1=>match Hu d with
 |some x=>.ok (.str x) G1
 |none=>.bad
def dJp:Str->List DE->DE
 |out,[]=>λ_ G=>.ok (.str out) G
 |out,t::r=>λS G=>(t S G).bind λd G1=>match d with
  |.str y=>if(out++y).length<=1000000 then dJp (out++y) r S G1 else .bad
  |_=>.bad
theorem Hd{e:jB}{pos:Pos}(he:QE X E e t):QE X E (.FormattedValue e (-1) vQ pos) (dFv t):=λxT s σ H Q I h=>by
 obtain⟨a,S,G,hk,rfl,sm,r,h⟩:=h;refine FormattedValue_plain (thn (he xT s σ a.H _ I ⟨a,S,G,hk,rfl,sm,r,G6 h⟩) λv s1 h1=>?_);obtain⟨x,H1,I1,rx,b,d,G1,rfl,y,s2,q,_,h2⟩:=h1;split at h2
 ·rename_i z hz;cases d with
  |str w=>
   have hz':(if w.length<=1000000 then xU w else vQ)=xU z:=hz;split at hz'
   ·rename_i hl;cases hz';have ex:x=V.str z:=q;subst ex;obtain⟨t0,rfl⟩:=rx;exact formatField_str (λt' tk=>⟨.str z,b.H,I1.tok tk,⟨t',rfl⟩,h2 b _ (Ext.refl b) s2 rfl⟩) (size6' hl)
   ·cases hz'
  | int i=>
   have hz':(if i.natAbs.log2<1920 then xU (Str.ofString (toString i))else vQ)=xU z:=hz;split at hz'
   ·rename_i hl;cases hz'
    cases(show x=V.int i from q)
    obtain⟨t0,rfl⟩:=rx;exact formatField_int_small hl ⟨.str (toString i),b.H,I1.tok _,⟨_,rfl⟩,h2 b _ (Ext.refl b) s2 rfl⟩
   ·cases hz'
  |_=>cases hz
 ·exact h2.elim
def QJ(X:Cx)(E:XK):List jB->List DE->Prop
 |[],[]=>True
 |e::es,t::ts=>QE X E e t/\QJ X E es ts
 |_,_=>False
theorem S9:QJ X E [] []:=trivial
theorem Ds{e:jB}{es:List jB}{ts:List DE}(h:QE X E e t)(r:QJ X E es ts):QJ X E (e::es) (t::ts):=⟨h,r⟩
theorem ZDK:∀(es:List jB)(ts:List DE)(out_:Str),QJ X E es ts->out_.length<=1000000->∀(xT:List (j9×Obj))(s:jG)(σ:St)(H:Hp)(Q:VK),Inv X xT σ H s->lE X.K E (dJp out_ ts) σ H Q->xB (xw X.prog X.w) X.A (joinParts out_ (evalEach es X.env)) (EP X xT σ Q) X.xe s
 |[],[],out_,_,hl,xT,s,σ,H,Q,I,h=>by obtain⟨a,S,G,hk,rfl,sm,r,h⟩:=h;exact joinParts_nil ⟨.str out_,a.H,I.tok _,⟨_,rfl⟩,h a _ (Ext.refl a) sm rfl⟩ (size6' hl)
 | e::es,t::ts,out_,hq,hl,xT,s,σ,H,Q,I,h=>by
  obtain⟨a,S,G,hk,rfl,sm,r,h⟩:=h;refine joinParts_cons (thn (hq.1 xT s σ a.H _ I ⟨a,S,G,hk,rfl,sm,r,G6 h⟩) λv s1 h1=>?_);obtain⟨x,H1,I1,rx,b,d,G1,rfl,y,s2,q,_,h2⟩:=h1;split at h2
  ·rename_i w _;split at h2
   ·rename_i hl2;have ex:x=V.str w:=q;subst ex;obtain⟨t0,rfl⟩:=rx;exact⟨size6' hl2,ZDK es ts (out_++w) hq.2 hl2 xT s1 σ b.H Q I1 ⟨b,S,G1,y.k.trans hk,rfl,s2,r.mono y,h2⟩⟩
   ·exact h2.elim
  ·exact h2.elim
theorem Pj{e1 e2:jB}{es:List jB}{ts:List DE}{pos:Pos}(h:QJ X E (e1::e2::es) ts):QE X E (.JoinedStr (e1::e2::es) pos) (dJp Str.empty ts):=λxT s σ H Q I q=>JoinedStr_many (ZDK _ _ _ h (by decide) xT s σ H Q I q)
def TupG(K:PySem.W.Frag)(mg:Str->Option jI)(n:Str)(ss:List Str):Prop:=∃(p:j9)(o:Obj)(its:Array jI)(k:Nat),mg n=xU (.ref p)/\K.lookup p=xU o/\o.cls=.type "tuple"/\o.data=.seq its k/\its.size<=sizeLine/\Vals (ss.map V.str) its.toList
theorem ZN5{K:PySem.W.Frag}{h:Heap}{mg:Str->Option jI}{n:Str}{p:j9}{od:Option j9}{sl:Array (Option jI)}{k:Nat}{its:List jI}{ss:List Str}(KX:K.In h)(G:h.Ns xj mg)(a:PySem.W.nsIn K xj n=xU (xU (.ref p)))
  (l:K.lookup p=xU ⟨.type "tuple",od,.seq its.toArray k,sl⟩) (hs:its.length<=1000) (v:Vals (ss.map V.str) its):TupG K mg n ss:=
 ⟨p,_,its.toArray,k,PySem.W.mg_of KX G a,l,rfl,rfl,by rw[zq];exact z0 hs (by decide),by simpa using v⟩
theorem ZNb{x:Str}{ss:List Str}{pos:Pos}(hg:Gl X x)(h:TupG X.K X.mg x ss)(hd:(x==("__debug__":Str))=vJ:=by decide):QE X E (.Name x pos) (dC (.tup (ss.map D.str))):=by obtain⟨p,o,its,k,h1,h2,h3,h4,h5,h6⟩:=h;exact Cd (v:=.ref p) hg h1 rfl (λa ha=>⟨p,ss.map V.str,rfl,.inr ⟨o,its,k,by rw[ha];exact h2,h3,h4,h5,h6⟩,W7 ss⟩) hd
end
section
variable{S:DSt}{G:DH}
@[simp]theorem ZNK:dFv t S G=(t S G).bind λd G1=>match Hu d with
 |some x=>.ok (.str x) G1
 |none=>.bad:=id rfl
@[simp]theorem Qt{out_:Str}:dJp out_ [] S G=.ok (.str out_) G:=id rfl
@[simp]theorem U9{out_:Str}{r:List DE}:dJp out_ (t::r) S G=(t S G).bind λd G1=>match d with
  |.str y=>if(out_++y).length<=1000000 then dJp (out_++y) r S G1 else .bad
  |_=>.bad:=id rfl
end
section
variable{X:Cx}{xT:List (j9×Obj)}{σ:St}{H:Hp}{s:jG}{N:List Str}{scope:jF}{caps:List Nat}{x qual:Str}{f:j9}{cd:jI}{A:jA}
end
section
variable{X:Cx}{xT:List (j9×Obj)}{σ:St}{s:jG}{scope:jF}{a:Wd}
end
section
variable{prog:jE}{w:jL}{A:jA}{E:jI->jG->Prop}{s:jG}
end
section
variable{X:Cx}{xT:List (j9×Obj)}{σ:St}{H:Hp}{s:jG}{h':Heap}{m:Str->Option jI}
end
section
variable{X:Cx}{xT:List (j9×Obj)}{σ:St}{N:List Str}{scope:jF}{caps:List Nat}{x:Str}{f:j9}{A:jA}{a:Wd}{S:DSt}{body:jB}{te:DE}{params:Arguments}{pm ctv:jI}{c':j9}{ob oc:Obj}{vs0:Array jI}{t0:Tok}{E:XK}
 {Dd kS:j9} {e1:Nat} {m:Str->Option jI} {h₀:Heap} {Q:VK}
end
end _D
namespace _D
open PySem PySem.Spec _L
open PyProof.Rows hiding St
open PySem.W (KatKeys KatFin katRev KatBack)
section
variable{prog:jE}{w:jL}{A:jA}{E:jI->jG->Prop}{s:jG}{h₀:Heap}{L a kS:j9}{m:Str->Option jI}{P:PySem.Fin->jG->Prop}
end
end _D
namespace _D
open PySem PySem.Spec _L
open PyProof.Rows hiding St
section
variable{X:Cx}{xT:List (j9×Obj)}{σ:St}{N:List Str}{scope:jF}{caps:List Nat}{x:Str}{f:j9}{A:jA}{a:Wd}{S:DSt}{body:jB}{te:DE}{params:Arguments}{pm ctv:jI}{c':j9}{ob oc:Obj}{vs0:Array jI}{t0:Tok}
 {Dd kS:j9} {e1:Nat} {m:Str->Option jI} {h₀:Heap} {Q:VK}
end
section
variable{X:Cx}{xT:List (j9×Obj)}{σ:St}{N:List Str}{scope:jF}{caps:List Nat}{x:Str}{f:j9}{A:jA}{a:Wd}{S:DSt}{body:jB}{te:DE}{params:Arguments}{pm ctv:jI}{c':j9}{ob oc:Obj}{vs0:Array jI}{t0:Tok}{Q:VK}
end
section
variable{X:Cx}{N:List Str}{scope:jF}{caps:List Nat}{x:Str}{body:jB}{te:DE}{params:Arguments}{e:jB}{tn:DA}{p p' pos pos' lp kp kp' cp:Pos}{C m:Str}{cj:Nat}
end
end _D
namespace _D
open PySem PySem.W _L
variable{h:Heap}{K:xR}{C:j9}{x q:Str}{st:jH}
theorem ZFf{a:j9}{o:Obj}:∀{l:List Obj}{n:Nat},(M3 l n).lookup a=xU o->n<=a/\l[a-n]?=xU o/\∀x y z,o≠⟨x,y,.freed,z⟩
 |[],n,h=>by cases h
 | p::r,n,h=>by
  have next:(M3 r (n+1)).lookup a=xU o->n<=a/\(p::r)[a-n]?=xU o/\∀x y z,o≠⟨x,y,.freed,z⟩:=λh=>by obtain⟨h1,h2,h3⟩:=ZFf h;obtain⟨k,rfl⟩:=Nat.exists_eq_add_of_le h1;rw[Nat.add_sub_cancel_left]at h2;refine⟨z0 (jj n) h1,?_,h3⟩;rw[show n+1+k-n=k+1 by rw[Nat.add_assoc,Nat.add_sub_cancel_left,Nat.add_comm],List.getElem?_cons_succ];exact h2
  unfold M3 at h;split at h
  ·exact next h
  ·exact next h
  ·rename_i hz hf;rw[qC]at h;split at h
   ·rename_i e;have e':a=n:=by simpa using e
    subst e';cases h;refine⟨zW _,by simp,λx y z q=>?_⟩;subst q;exact hz rfl
   ·exact next h
theorem ZOf(h:Heap):(Ph h).In h:=λa o e=>by
 obtain⟨_,h2,h3⟩:=ZFf e;have h4:h.objs[a]?=xU o:=by simpa using h2
 unfold Heap.get?;rw[h4];split
 ·rename_i q;cases q;exact absurd rfl (h3 _ _ _)
 ·rfl
noncomputable def Kf(p:jE)(N:Nat)(w:jL):Heap:=match openEnds xA p w N with
 |some s=>s.heap
 |none=>default
def Stays(p:jE)(N:Nat)(w:jL)(h:Heap):Prop:=∀b o,(Kf p N w).get? b=xU o->h.get? b=xU o
theorem Stays.in{p:jE}{N:Nat}{w:jL}(x:Stays p N w h):(Ph (Kf p N w)).In h:=λa o e=>x a o (ZOf _ a o e)
def Xq(p:jE)(N:Nat):Hook:=
 ⟨Heap,λs=>s.heap,Kf p N,Stays p N,λw s e b o q=>by rw[show s.heap=Kf p N w from e];exact q,λw h h' x k b o q=>k b o (x b o q)⟩
section
variable{p q:jE}{loose:List Str}{Xt:jG->Bool}{N:Nat}{β:Type}{see:Heap->β}{val:β}
theorem ZJU(E:∀w,(openEnds xA p w N).map (λs=>(openSeen q loose (xZ p.main.body) Xt vZ s,see s.heap))=xU (openGood q loose,val)):
  LeftO p q loose Xt (Xq p N).obs (Xq p N).val N:=λw=>by
 obtain⟨s,h1,h2⟩:=zA.mp (E w);show Option.map _ _=xU (openGood q loose,Kf p N w);unfold Kf;rw[h1];show xU (openSeen q loose (xZ p.main.body) Xt vZ s,s.heap)=_;rw[(Prod.mk.inj h2).1]
theorem ZOS(E:∀w,(openEnds xA p w N).map (λs=>(openSeen q loose (xZ p.main.body) Xt vZ s,see s.heap))=xU (openGood q loose,val))(w:jL):see (Kf p N w)=val:=by obtain⟨s,h1,h2⟩:=zA.mp (E w);unfold Kf;rw[h1];exact(Prod.mk.inj h2).2
end
noncomputable def dOf(s:jH):DefRec:=match s with
 |Stmt.FunctionDef n a b _ _ _ s _ _ p=>⟨n,a,b,s,p⟩
 |_=>⟨Str.empty,⟨[],[],vQ,[],[],vQ,[]⟩,[],{kind:=.module,names:=[],isGenerator:=vJ,isCoroutine:=vJ,more:=[]},⟨0,0,0,0⟩⟩
theorem holds_top{l:OpenLaw}{q:jE}{loose:List Str}{N:Nat}{β:Type}{see:Heap->β}{val:β}{d:DefRec}(well:l.wellSaid=vZ)
  (E:∀w,(openEnds xA l.prog w N).map (λs=>(openSeen q loose (xZ l.prog.main.body) (XtOf l q) vZ s,see s.heap))=xU (openGood q loose,val))
  (hdef:defOf q l.row.name=xU (d,[])) (hp:l.row.prog.theDef l.row.name=xU (d.params,d.body,d.scope)) (hk:kwWritten? d.params.kwonlyargs d.params.kw_defaults=xU []) (hwr:(!l.row.writes||l.row.records.isEmpty)=vZ)
  (ok:(chainsOk q&&opensWell l.row.prog&&(frees l.row.toRowW&&l.row.within.isEmpty))=vZ) (hb:l.row.prog.bare) (hw:l.row.toRowW.promised)
  (call:WalkO q loose (XL q []) (Stays l.prog N) l.row.toRowW d [] λf vs=>PySem.call f vs):l.Holds:=
 holds_law well λsaid=>holds_open (r:=l.row) (q:=q) (loose:=loose) (Xt:=XtOf l q) (XP:=XL q []) (YP:=Stays l.prog N) (N:=N) (ZJU E) (Xq l.prog N).of (Xq l.prog N).keeps
  (λs e=>xl_of s (q8.mp e).1) XL.keeps hdef hp hk (λs e=>recFacts_of (q8.mp e).2) hwr said ok hb hw call
theorem ZGg{n:Str}(h:gOk K n=vZ):nsIn K xj n=xU (xU (.ref (Ck K n))):=by
 unfold gOk at h;unfold Ck;split at h
 ·rename_i e;rw[e]
 ·cases h
theorem ZFw{m:Str}(h:mOk K C m=vZ):findIn K (.ref C) m=xU (xU (.ref (La K C m)))/\isFn K (.ref (La K C m))=vZ:=by
 unfold mOk at h;unfold La;split at h
 ·rename_i e;rw[e];exact⟨rfl,h⟩
 ·cases h
theorem ZNO{m:Str}(h:noF K C m=vZ):findIn K (.ref C) m=xU vQ:=by
 unfold noF at h;split at h
 ·assumption
 ·cases h
theorem ZJT{n:Str}(h:zOk K n=vZ):nsIn K xj n=xU vQ:=by
 unfold zOk at h;split at h
 ·assumption
 ·cases h
theorem ZIh(h:ZB2 K C=vZ):findIn K (.ref C) "__setattr__"=xU (xU (.builtin "object.__setattr__")):=by
 unfold ZB2 at h;split at h
 ·rename_i e;rw[e,beq_iff_eq.mp h]
 ·cases h
noncomputable def Dg(K:xR)(n:Str):Tok:=match nsIn K xj n with
 |some (xU (.int _ t))=>t
 |some (xU (.str _ t))=>t
 |_=>0
theorem ZLu{n:Str}{v:Int}(h:iOk K n v=vZ):nsIn K xj n=xU (xU (.int v (Dg K n))):=by
 unfold iOk at h;unfold Dg;split at h
 ·rename_i e;rw[e,of_decide_eq_true h]
 ·cases h
theorem ZOc{n:Str}{v:Str}(h:sOk K n v=vZ):nsIn K xj n=xU (xU (.str v (Dg K n))):=by
 unfold sOk at h;unfold Dg;split at h
 ·rename_i e;rw[e,of_decide_eq_true h]
 ·cases h
abbrev FnSaid(K:xR)(x q:Str)(st:jH)(f:j9):Prop:=
 K.lookup f=xU ⟨(M6 K f).cls,(M6 K f).dict,.func (fnOf x q (Ka st) (Hz st) (Aw st) .none (Dz K f).kwdefaults (Dz K f).doc (Dz K f).pyModule (Dz K f).annotations (Dz K f).code (Dz K f).closureTuple),(M6 K f).slots⟩/\
  codeIn K (Dz K f).code q=vZ/\keepIn K (.ref f)=vZ
theorem ZFV{f:j9}(h:Wo K x q f=vZ)(t:Wq K f=We st):FnSaid K x q st f:=by
 unfold Wo at h;split at h
 ·rename_i oc od fd sl e;have eo:M6 K f=⟨oc,od,.func fd,sl⟩:=by unfold M6;rw[e]
  have ef:Dz K f=fd:=by unfold Dz;rw[eo]
  unfold Wq We at t;rw[ef]at t;obtain⟨t1,t2⟩:=Prod.mk.inj t;obtain⟨t2,t3⟩:=Prod.mk.inj t2;simp only[zx,decide_eq_true_eq,beq_iff_eq,jv]at h;obtain⟨⟨⟨h1,h2⟩,⟨⟨h3,h4⟩,h5⟩,h6⟩,h7,h8⟩:=h;unfold FnSaid;rw[ef,eo,e];refine⟨?_,h7,h8⟩;have h6':fd.defaults=.none:=by
   revert h6
   generalize fd.defaults=df;intro h6
   cases df<;>first|rfl|cases h6
  have h9:fd.body=.stmts (Hz st):=by
   revert t2
   generalize fd.body=bd;intro t2
   cases bd<;>first|(cases t2;rfl)|(cases t2)
  have ef':fd=fnOf x q (Ka st) (Hz st) (Aw st) .none fd.kwdefaults fd.doc fd.pyModule fd.annotations fd.code fd.closureTuple:=by show FuncData.mk fd.name fd.qualname fd.params fd.body fd.scope fd.globals fd.closure fd.defaults fd.kwdefaults fd.doc fd.pyModule fd.annotations fd.code fd.closureTuple fd.builtins=_;rw[h1,h2,t1,h9,t3,h3,h5,h6',h4]
  exact congrArg (λz=>xU (Obj.mk oc od (.func z) sl)) ef'
 ·cases h
theorem Xz:∀{l:List jI}{ss:List Str},strsOf l=xU ss->Vals (ss.map V.str) l
 |[],ss,h=>by cases h;exact .nil
 |v::r,ss,h=>by
  unfold strsOf at h;split at h
  ·rename_i q;cases q
  ·rename_i s t r' q;cases q;obtain⟨ss',h1,rfl⟩:=zA.mp h;exact .cons ⟨_,rfl⟩ (Xz h1)
  ·cases h
abbrev GtSaid(K:xR)(n:Str)(vs:List Str):Prop:=∃(p:j9)(od:Option j9)(sl:Array (Option jI))(k:Nat)(its:List jI),nsIn K xj n=xU (xU (.ref p))/\K.lookup p=xU ⟨.type "tuple",od,.seq its.toArray k,sl⟩/\its.length<=1000/\Vals (vs.map V.str) its
theorem ZHh{n:Str}{vs:List Str}(h:ZAk K n vs=vZ):GtSaid K n vs:=by
 unfold ZAk at h;split at h
 ·rename_i p e;split at h
  ·rename_i t od its k sl e2;simp only[zx,beq_iff_eq,decide_eq_true_eq]at h;obtain⟨⟨rfl,h2⟩,h3⟩:=h;exact⟨p,od,sl,k,its.toList,e,by rw[e2],Nat.le_of_ble_eq_true h3,Xz h2⟩
  ·cases h
 ·cases h
theorem ZI8{mg:Str->Option jI}{n:Str}{vs:List Str}(X:K.In h)(G:h.Ns xj mg)(s:GtSaid K n vs):TupG K mg n vs:=by obtain⟨p,od,sl,k,its,h1,h2,h3,h4⟩:=s;exact ZN5 X G h1 h2 h3 h4
abbrev GdSaid(K:xR)(n:Str)(kvs:List (Str×Str)):Prop:=∃(p:j9)(od:Option j9)(sl:Array (Option jI))(k:Nat)(es:Array DictEntry),nsIn K xj n=xU (xU (.ref p))/\K.lookup p=xU ⟨.type "dict",od,.dict es k,sl⟩/\(p==sysModules)=vJ/\Vals ((kvs.map (·.1)).map V.str) (es.toList.map (·.key))/\Vals ((kvs.map (·.2)).map V.str) (es.toList.map (·.val))
theorem ZOa{n:Str}{kvs:List (Str×Str)}(h:ZBF K n kvs=vZ):GdSaid K n kvs:=by
 unfold ZBF at h;split at h
 ·rename_i p e;split at h
  ·rename_i t od es k sl e2;simp only[zx,beq_iff_eq,decide_eq_true_eq,Bool.not_eq_true']at h;obtain⟨⟨⟨rfl,h2⟩,h3⟩,h4⟩:=h;exact⟨p,od,sl,k,es,e,by rw[e2],h2,Xz h3,Xz h4⟩
  ·cases h
 ·cases h
def Ask.Said(K:xR):Ask->Prop
 |.fn n st=>nsIn K xj n=xU (xU (.ref (Ck K n)))/\FnSaid K n n st (Ck K n)
 |.mt c m q st=>findIn K (.ref (Ck K c)) m=xU (xU (.ref (La K (Ck K c) m)))/\isFn K (.ref (La K (Ck K c) m))=vZ/\FnSaid K m q st (La K (Ck K c) m)
 | .cl c=>nsIn K xj c=xU (xU (.ref (Ck K c)))/\plainGet K (Ck K c) Str.empty=vZ/\hasDictIn K (Ck K c)=vZ/\plainOver K (Ck K c)=vZ/\
   findIn K (.ref (Ck K c)) "__setattr__"=xU (xU (.builtin "object.__setattr__"))/\makesIn K (Ck K c)=vZ/\keepIn K (.ref (Ck K c))=vZ
 |.no c x=>findIn K (.ref (Ck K c)) x=xU vQ
 |.z n=>nsIn K xj n=xU vQ
 |.gi n v=>nsIn K xj n=xU (xU (.int v (Dg K n)))
 |.gs n v=>nsIn K xj n=xU (xU (.str v (Dg K n)))
 |.gt n vs=>GtSaid K n vs
 |.gd n kvs=>GdSaid K n kvs
theorem Ask.said:∀{a:Ask},a.chk K=vZ->a.txt K=a.want->a.Said K
 |.fn n st,h,t=>by obtain⟨h1,h2⟩:=q8.mp h;exact⟨ZGg h1,ZFV h2 (Option.some.inj t)⟩
 |.mt c m q st,h,t=>by obtain⟨h1,h2⟩:=q8.mp h;exact⟨(ZFw h1).1,(ZFw h1).2,ZFV h2 (Option.some.inj t)⟩
 |.cl c,h,_=>by simp only[Ask.chk,zx]at h;obtain⟨⟨h1,⟨h2,h3⟩,h4⟩,⟨h5,h6⟩,h7⟩:=h;exact⟨ZGg h1,h2,h3,h4,ZIh h5,h6,h7⟩
 |.no c x,h,_=>ZNO h
 |.z n,h,_=>ZJT h
 |.gi n v,h,_=>ZLu h
 |.gs n v,h,_=>ZOc h
 |.gt n vs,h,_=>ZHh h
 |.gd n kvs,h,_=>ZOa h
def AllSaid(K:xR):List Ask->Prop
 |[]=>True
 |a::r=>a.Said K/\AllSaid K r
theorem ZDc:∀{l:List Ask},(l.all (Ask.chk K),l.map (Ask.txt K))=(vZ,l.map Ask.want)->AllSaid K l
 |[],_=>trivial
 |a::r,h=>by obtain⟨h1,h2⟩:=Prod.mk.inj h;rw[qR]at h1;obtain⟨h3,h4⟩:=q8.mp h1;rw[zQ,zQ]at h2;obtain⟨h5,h6⟩:=List.cons.inj h2;exact⟨Ask.said h3 h5,ZDc (by rw[h4,h6])⟩
theorem ZND{a:Str}{f:j9}{fd:jC}{s:jG}{v:jI}(F:Fun K x q st f fd)
  (h:∀(kV doc pm:jI)(an:Option j9)(cdv ct:jI)(u:jI),bindArgs (fnOf x q (Ka st) (Hz st) (Aw st) .none kV doc pm an cdv ct) ⟨[u],[]⟩=pure [(a,u)]):BindsTo s fd ⟨[v],[]⟩ [(a,v)]:=by
 obtain⟨oc,od,kV,doc,pm,an,cdv,ct,osl,rfl,lk,hcd⟩:=F.ex;exact .of_eq (h kV doc pm an cdv ct v)
theorem ZFX{p:jE}{w:jL}{n₀:Nat}{ann:Option jI}:∀{n:Nat}{s s':SharedT}{t:Thread},W9 p w n₀ ann n s t=xU s'->topRun xA p w n₀ ann n s.abs t=xU s'.abs
 |0,_,_,_,h=>by cases h
 | n+1,s,s',t,h=>by
  unfold W9 at h;unfold topRun;rw[<-PySem.W.Fast.te6613529449190102663,<-PySem.W.Fast.te10156331382660048174,<-PySem.W.Fast.te11892475500146522536,<-PySem.W.Fast.te14364793385576792824]at h;cases ht:through t with
  |true=>
   rw[ht]at h;cases h
   rfl
  | false=>
   rw[ht]at h;dsimp only at h⊢;cases ho:stepOk n₀ ann t with
   |false=>rw[ho]at h;cases h
   |true=>
    rw[ho]at h;dsimp only at h⊢;split at h
    ·rename_i s2 t2 e;rw[stepT_spec e];exact ZFX h
    ·cases h
theorem boot_abs:∀w os,(ZFj w os).abs=⟨xS w.params,Array.mk [],boot_drawn,boot_toks,os⟩:=λw os=>by kernel_rfl
theorem ZOg:∀w:jL,((xS w.params).isNs xj&&(Array.mk []:Array GenState).size==0)=vZ:=λw=>by kernel_rfl
theorem ZIA{p q:jE}{loose:List Str}{Xt:jG->Bool}{β:Type}{see:Heap->β}{val:β}(e:opening p=plainProg p.main.scope.names)(f:∀s,fenceModules? p s=xU s)
  (R:∀w os,(ZB4 p w os).map (λs=>(ZBT p w s.abs,PySem.W.Fast.tw4187177175401517315 q loose (PySem.W.Fast.tw5923862056798008813 p.main.body) Xt vZ s.abs,see s.abs.heap))=xU (vZ,openGood q loose,val)):
  ∀w,(openEnds xA p w 100000).map (λs=>(openSeen q loose (xZ p.main.body) Xt vZ s,see s.heap))=xU (openGood q loose,val):=λw=>by
 obtain⟨⟨h,gs,d,k,os⟩,h0,e0⟩:=zA.mp (boot_open (N:=100000) e rfl f w);obtain⟨rfl,rfl,rfl,rfl⟩:h=xS w.params/\gs=Array.mk []/\d=boot_drawn/\k=boot_toks:=by simpa using e0
 obtain⟨s,h1,h2⟩:=zA.mp (R w os);obtain⟨h3,h4⟩:=Prod.mk.inj h2;obtain⟨h4,h5⟩:=Prod.mk.inj h4;unfold ZB4 at h1;have r:=ZFX h1;rw[boot_abs,<-PySem.W.Fast.te8920871248978507458]at r;rw[<-PySem.W.Fast.te4187177175401517315,<-PySem.W.Fast.te5923862056798008813]at h4;unfold ZBT at h3;rw[<-PySem.W.Fast.te5923862056798008813]at h3;have t:topFrom xA p w 100000 ⟨xS w.params,Array.mk [],boot_drawn,boot_toks,os⟩=xU s.abs:=by
  unfold topFrom;dsimp only;rw[ZOg,r]
  show(match staticsOk (xZ p.main.body) (xS w.params) s.abs.heap&&namesBound p s.abs.heap&&gensDone s.abs&&laidKept (xS w.params) s.abs.heap with |true=>_|false=>_)=_
  rw[h3]
 unfold openEnds;rw[h0];show(topFrom xA p w 100000 _).map _=_;rw[t];exact congrArg xU (Prod.ext h4 h5)
theorem ZMa{l:OpenLaw}(h:PySem.W.Fast.tw9446332074065402090 l=vZ):l.wellSaid=vZ:=by rw[PySem.W.Fast.te9446332074065402090];exact h
structure FT (K:xR) (mg:Str->Option jI) (n:Str) (st:jH) (ps:List Str):Prop where
 F:Fun K n n st (Ck K n) (Dz K (Ck K n))
 b:Binds K (Dz K (Ck K n)) ps []
 m:mg n=xU (.ref (Ck K n))
 k:keepIn K (.ref (Ck K n))=vZ
theorem Z9{f:j9}(s:FnSaid K x q st f):Fun K x q st f (Dz K f):=by
 have e:Dz K f=fnOf x q (Ka st) (Hz st) (Aw st) .none (Dz K f).kwdefaults (Dz K f).doc (Dz K f).pyModule (Dz K f).annotations (Dz K f).code (Dz K f).closureTuple:=by
  have h:=s.1
  conv=>lhs;unfold Dz M6;rw[h]
 exact⟨⟨_,_,_,_,_,_,_,_,_,e,by rw[e];exact s.1,s.2.1⟩,s.2.2⟩
theorem Bv{mg:Str->Option jI}{n:Str}{ps:List Str}(X:K.In h)(G:h.Ns xj mg)(s:Ask.Said K (.fn n st))
  (hb:∀(kV doc pm:jI)(an:Option j9)(cdv ct:jI)(us:List jI),us.length=ps.length->bindArgs (fnOf n n (Ka st) (Hz st) (Aw st) .none kV doc pm an cdv ct) ⟨us,[]⟩=pure (ps.zip us)):FT K mg n st ps:=
 ⟨Z9 s.2,(Z9 s.2).binds hb,mg_of X G s.1,s.2.2.2⟩
abbrev FnO(P:jE)(w:jL)(K:xR)(mg:Str->Option jI)(base:Heap)(k:Nat)(n:Str)(ps:List Str)(F:List D->DH->R D):Prop:=FnOk P w K mg base CX0 k (Ck K n) (Dz K (Ck K n)) ps (lF K F)
theorem ZNl{fd:jC}{s:jG}{v:jI}{a:Str}{f:j9}(F:Fun K x q st f fd)
  (h:∀(kV doc pm:jI)(an:Option j9)(cdv ct:jI)(u:jI),bindArgs (fnOf x q (Ka st) (Hz st) (Aw st) .none kV doc pm an cdv ct) ⟨[u],[]⟩=pure [(a,u)]:=by intros;rfl):BindsTo s fd ⟨[v],[]⟩ [(a,v)]:=ZND F h
end _D
namespace _D
open PySem PySem.Spec _L
open PyProof.Rows hiding St
variable{es:List jB}
section
variable{prog:jE}{w:jL}{A:jA}{E:jI->jG->Prop}{s:jG}
end
section
variable{X:Cx}{E:XK}{p:j9}{kvs:List (Str×Str)}{x:Str}{a:jB}{ta:DE}{np pos:Pos}
end
noncomputable def Ej:D->Option V
 |.int i=>xU (.int i)
 |.str x=>xU (.str x)
 |_=>vQ
section
variable{X:Cx}{E:XK}{pos:Pos}
end
section
variable{S:DSt}{G:DH}
end
theorem Az{X:Cx}{k j:Nat}{n:Str}{st:jH}{ps:List Str}{F:List D->DH->R D}{p pos:Pos}{e:jB}{tr:DA}(FF:FnO X.prog X.w X.K X.mg X.base k n ps F)(T:FT X.K X.mg n st ps)(hr:Room j X.A)(ha:QA X E0 (e::es) tr)
  (hj:k<=j:=by decide) (hg:Gl X n:=by exact rfl) (hd:(n==("__debug__":Str))=vJ:=by decide) (he:notStar e=vZ:=by exact rfl) (hp:es.all notStar=vZ:=by exact rfl):QE X E0 (.Call (.Name n p) (e::es) [] pos) (dFn F tr):=
 ZMq FF (hr.mono hj) hg T.m T.k T.b pass0 ha hd he hp
section
variable{X:Cx}{E:XK}
def Oq(o:D)(ds:List D)(G:DH):R D:=match o,ds with
 |.str x,[.str y,.int k]=>if(y.length≠0/\x.length<=1000000)/\0<=k/\k<=1000 then .ok (.ref G.length) (G++[.lst ((Txt.splitMax x y k).map D.str)])else .bad
 |_,_=>.bad
theorem ZIu{x y:Str}{k:Int}(h0:0<=k):(Txt.splitMax x y k).length<=k.toNat+1:=by
 unfold Txt.splitMax;split
 ·show 1<=_;lia
 ·split
  ·show 1<=_;lia
  ·have h:=StrLaws.occ_length_le x y 0 x.length (limitOf x k);have e:limitOf x k=k.toNat:=by unfold limitOf;rw[if_neg (by lia)]
   rw[e]at h⊢;have:(Builtin.Str.partsBetween x (Builtin.Str.occurrences x y 0 x.length k.toNat) y.length).length=(Builtin.Str.occurrences x y 0 x.length k.toNat).length+1:=by simp[Builtin.Str.partsBetween]
   lia
theorem ZKz:MtM X "str.split" (lRm X.K E Oq):=λxT s σ H x xs v us Q I rx rs h=>by
 obtain⟨a,G,d,ds,hk,rfl,sm,rd,r,q⟩:=h;unfold Oq at q;split at q
 ·rename_i x' y k;obtain⟨w,w2,rfl,rw',rw2⟩:=reps2 r
  cases(show x=V.str x' from rd)
  cases(show w=V.str y from rw')
  cases(show w2=V.int k from rw2)
  obtain⟨t,rfl⟩:=rx;obtain⟨u1,u2,rfl,⟨u',rfl⟩,⟨u3,rfl⟩⟩:∃u1 u2,us=[u1,u2]/\RelV (.str y) u1/\RelV (.int k) u2:=by
   cases rs with
   |cons p q=>cases q with
    |cons p' q'=>cases q';exact⟨_,_,rfl,p,p'⟩
  split at q
  ·rename_i hl;obtain⟨⟨hy0,hx0⟩,k0,k1⟩:=hl;have hy:(y.length==0)=vJ:=by simpa using hy0
   have hkk:(decide (k < -(2^63:Int))||decide (k ≥ 2^63))=vJ:=by
    rw[decide_eq_false (by lia),decide_eq_false (by lia)]
    rfl
   have hsl:=ZIu (x:=x') (y:=y) k0;have hsz:(Txt.splitMax x' y k).length<=sizeLine:=by rw[sizeLine_eq];lia
   have key:∀(l:List (Str×Tok))(tk:Nat),l.map (·.1)=Txt.splitMax x' y k->EP X xT σ Q (.ref s.heap.objs.size) {s with toks:=tk,heap:=s.heap.push {cls:=.type "list",data:=.seq (strValues l).toArray}}:=λl tk e=>
    ⟨.ref s.heap.objs.size,_,I.laid (t':=tk) (o:=.lst ((Txt.splitMax x' y k).map V.str)) (λb ob q=>zX _ q) (zW _) ⟨by rw[zK];exact hsz,_,0,by rw[<-e];exact ZCd l,zk _ rfl⟩,rfl,Qy sm (W7 _) q _ (I.hok.fresh (zW _))⟩
   cases h1:(decide (x'.length<y.length)||decide (Builtin.Str.strKind x'<Builtin.Str.strKind y))
   ·cases hf:(Builtin.Str.occurrences x' y 0 x'.length (limitOf x' k)).isEmpty
    ·have e:Txt.splitMax x' y k=Builtin.Str.partsBetween x' (Builtin.Str.occurrences x' y 0 x'.length (limitOf x' k)) y.length:=(if_neg (ne_true_of_eq_false h1)).trans (if_neg (ne_true_of_eq_false hf));refine call_meets F.slot_str_split (typeIs_str _ _ _) F.entry_str_split (F.args_str_split_3 _ _ _) (meets_str_split_sep_max x' y k t u' u3 hkk h1 hy hf (size6' hx0) (by rw[<-e];exact hsz)) ?_;show EP X xT σ Q _ {s with toks:=_,heap:=s.heap.push {cls:=.type "list",data:=.seq (strsFrom s.toks (Builtin.Str.partsBetween x' (Builtin.Str.occurrences x' y 0 x'.length (limitOf x' k)) y.length)).toArray}}
     rw[strsFrom_eq];exact key (numbered s.toks _) _ ((numbered_texts _ _).trans e.symm)
    ·exact call_meets F.slot_str_split (typeIs_str _ _ _) F.entry_str_split (F.args_str_split_3 _ _ _) (meets_str_split_max_not_found x' y k t u' u3 hkk h1 hy hf) (key [(x',t)] s.toks ((if_neg (ne_true_of_eq_false h1)).trans (if_pos hf)).symm)
   ·exact call_meets F.slot_str_split (typeIs_str _ _ _) F.entry_str_split (F.args_str_split_3 _ _ _) (meets_str_split_max_cannot_occur x' y k t u' u3 hkk h1) (key [(x',t)] s.toks (if_pos h1).symm)
  ·exact q.elim
 ·exact q.elim
end
section
variable{prog:jE}{w:jL}{A:jA}{E:jI->jG->Prop}
theorem ZCx{it l:j9}{its:Array jI}(ne:l≠it):∀(m j:Nat)(s:jG)(Q:List jI->jG->Prop),s.heap.IsListIter it l j->s.heap.IsList l its->j+m<=its.size->
  (∀h',h'.IsListIter it l (j+m)->qE it s.heap h'->Q ((its.toList.drop j).take m) {s with heap:=h'})->xB (xw prog w) A (draw (.ref it) m) Q E s
 |0,j,s,Q,a,_,_,k=>xN (by simpa using k s.heap a (qE.refl ..))
 |m+1,j,s,Q,a,b,c,k=>by
  have lt:j<its.size:=by lia
  apply xD (m:=pyNext (.ref it));refine wpAny_pyNext_list_item a b (x:=its[j]) (by simp[lt]) λh1 a1 e1=>?_
  apply xD;apply xH;refine ZCx ne m (j+1) _ _ a1 (b.extBut e1.extBut ne) (by lia) λh2 a2 e2=>xN ?_
  have z:=k h2 (by rw[show j+(m+1)=j+1+m by lia];exact a2) (e1.trans e2);have dr:its.toList.drop j=its[j]::its.toList.drop (j+1):=by simp[zI,lt]
  rwa[dr,jQ]at z
theorem ZK4{s:jG}{l:j9}{its:Array jI}{Q:List jI->jG->Prop}(hh:A.handled=vQ)(hl:s.heap.IsList l its)
  (k:∀h',Heap.ExtBut s.heap.objs.size s.heap h'->Q its.toList {s with heap:=h'}):xB (xw prog w) A (unpackItems (.ref l) its.size vQ) Q E s:=by
 have ne:l≠s.heap.objs.size:=by obtain⟨o,ho,_⟩:=hl;exact zL (zz ho)
 unfold unpackItems notIterableAtAll;refine xD (xD (wpAny_specialOf hl.typeIs slot_list_iter.lookup (xN ?_)));simp only[Bool.false_eq_true,if_false];apply xD;apply xH;refine wpAny_pyIter_list hl ?_;apply xD;apply xH;refine ZCx ne its.size 0 _ _ ⟨_,zk _ rfl,rfl,rfl⟩ (hl.push _) (by lia) λh1 a1 e1=>?_
 have all:List.take its.size (List.drop 0 its.toList)=its.toList:=by rw[List.drop_zero];exact qw (by simp)
 rw[all,if_neg (by simp)];apply xD;apply xH;refine wpAny_pyNext_list_end hh a1 ((hl.push _).extBut e1.extBut ne) (by simp) λh2 e2=>?_
 simp only[Option.isSome_none,Bool.false_eq_true,if_false];exact xN (k h2 λb o hb e=>e2 b o hb (e1.extBut b o hb (zX _ e)))
end
section
variable{X:Cx}{E:XK}
noncomputable def gLs(K:PySem.W.Frag)(n:Nat)(t:TGs):TG:=λv σ H Q=>∃a xs,v=.ref a/\SqL K H a xs/\xs.length=n/\t xs σ H Q
theorem ZI4{k:Nat}{t:TGs}{n:Nat}{pos:Pos}(hc:X.calm=vZ)(h:PGs X es t)
  (hn:(jM es X.env).length=n:=by rfl) (hst:(jM es X.env).findIdx? (·.1)=vQ:=by rfl):PG X (.Tuple es k pos) (gLs X.K n t):=by
 intro xT s σ H v u Q I r ⟨a,xs,e1,hq,hl,hw⟩;subst e1;cases r;obtain⟨its,rv,ht,hz⟩:=I.list hq;rw[assign_Tuple];apply xD;apply wpAny_standAt;unfold unpack;rw[hst,hn];apply xD;apply xH;have e2:n=its.toArray.size:=by rw[zq,<-rv.length,hl]
 rw[e2];refine ZK4 (I.ok.hd hc) ht.isList λh' hx=>?_
 have I1:Inv X xT σ H {s with heap:=h'}:=I.kept (t':=s.toks) λb o e=>hx b o (zL (zz e)) e
 exact h xT _ σ H xs _ Q I1 (by simpa using rv) hw
def Sq(n:Nat)(t:DGs):DG:=λd S G=>match d with
 |.fl ds=>if ds.length=n then t ds S G else .bad
 |_=>.bad
theorem ZIy{k:Nat}{t:DGs}{n:Nat}{pos:Pos}(hc:X.calm=vZ)(h:QGs X E es t)
  (hn:(jM es X.env).length=n:=by rfl) (hst:(jM es X.env).findIdx? (·.1)=vQ:=by rfl):QG X E (.Tuple es k pos) (Sq n t):=(ZI4 hc h hn hst).mono λv σ H Q h=>by
 obtain⟨a,S,G,d,hk,rfl,s,r,q,h⟩:=h;cases d with
 |fl ds=>
  obtain⟨p,vs,e,h1,r1⟩:=q;unfold Sq at h;dsimp only at h;split at h
  ·rename_i hl;exact⟨p,vs,e,by rw[<-hk];exact h1.sq,by rw[<-r1.length];exact hl,a,S,G,ds,hk,rfl,s,r,r1,h⟩
  ·exact h.elim
 |_=>exact h.elim
@[simp]theorem ZPh{n:Nat}{t:DGs}{ds:List D}{S:DSt}{G:DH}:Sq n t (.fl ds) S G=if ds.length=n then t ds S G else .bad:=id rfl
end
def Kg(ds:List D)(G:DH):R D:=match ds with
 |[.str x]=>.ok (.str x) G
 |_=>Gy ds G
theorem ZEk{X:Cx}{E:XK}:CallR X (.type "str") (lRn X.K E Kg):=λxT s σ H vs us Q I rs h=>by
 obtain⟨a,G,ds,hk,rfl,sm,r,q⟩:=h;unfold Kg at q;split at q
 ·rename_i x;obtain⟨v,rfl,rv⟩:=reps1 r
  cases(show v=V.str x from rv)
  obtain⟨u,rfl,t,rfl⟩:=vals1 rs;exact PySem.P.str_of_str ⟨.str x,a.H,I,⟨t,rfl⟩,q a _ (Ext.refl a) sm rfl⟩
 ·exact Jw xT s σ _ vs us Q I rs ⟨a,G,ds,hk,rfl,sm,r,q⟩
@[simp]theorem ZNS{x:Str}{G:DH}:Kg [.str x] G=.ok (.str x) G:=id rfl
end _D
namespace _W
open PySem _L _D
noncomputable abbrev ZGU:List Str:=["_law_script","_law_k"]
noncomputable abbrev ZBp:List Str:=ZGU.take 2
theorem ZNq:FnScope ZGU ZBp (Aw ZCl):=⟨rfl,rfl,rfl,by decide +kernel,rfl,by decide +kernel,by decide +kernel⟩
noncomputable abbrev Ue:List Str:=["_law_xs","_law_letters","_law_names_here","_law_x","_law_word","_law_rest","_law_j","_law_some"]
noncomputable abbrev ZCU:List Str:=Ue.take 1
theorem Ju:FnScope Ue ZCU (Aw R7):=⟨rfl,rfl,rfl,by decide +kernel,rfl,by decide +kernel,by decide +kernel⟩
noncomputable abbrev ZHK:List Str:=["_law_cell","_law_k","_law_many","_law_number_here","_law_left","_law_found","_law_j"]
noncomputable abbrev Zc:List Str:=ZHK.take 3
theorem Le:FnScope ZHK Zc (Aw ZCO):=⟨rfl,rfl,rfl,by decide +kernel,rfl,by decide +kernel,by decide +kernel⟩
noncomputable abbrev Ol:List Str:=["_law_cell","_law_letters","_law_xs","_law_word","_law_turned","_law_other","_law_names_here","_law_k","_law_name","_law_size","_law_at","_law_sign"]
noncomputable abbrev ZCo:List Str:=Ol.take 1
theorem Fq:FnScope Ol ZCo (Aw Mt):=⟨rfl,rfl,rfl,by decide +kernel,rfl,by decide +kernel,by decide +kernel⟩
noncomputable abbrev ZGS:List Str:=["_law_x"]
noncomputable abbrev ZCb:List Str:=ZGS.take 1
theorem ZM7:FnScope ZGS ZCb (Aw ZBh):=⟨rfl,rfl,rfl,by decide +kernel,rfl,by decide +kernel,by decide +kernel⟩
noncomputable abbrev ZEv:List Str:=["_law_x","_law_cell"]
noncomputable abbrev ZAd:List Str:=ZEv.take 2
theorem ZNx:FnScope ZEv ZAd (Aw ZBI):=⟨rfl,rfl,rfl,by decide +kernel,rfl,by decide +kernel,by decide +kernel⟩
noncomputable abbrev ZAU:List Str:=["_law_rule_here"]
noncomputable abbrev ZB6:List Str:=ZAU.take 1
theorem ZKx:FnScope ZAU ZB6 (Aw Wn):=⟨rfl,rfl,rfl,by decide +kernel,rfl,by decide +kernel,by decide +kernel⟩
noncomputable abbrev ZGx:List Str:=["_law_xs","_law_cell","_law_pumps","_law_steps","_law_top","_law_j","_law_height","_law_many","_law_way"]
noncomputable abbrev ZAy:List Str:=ZGx.take 3
theorem Kh:FnScope ZGx ZAy (Aw Zi):=⟨rfl,rfl,rfl,by decide +kernel,rfl,by decide +kernel,by decide +kernel⟩
noncomputable abbrev ZDb:List Str:=["_law_xs","_law_cell","_law_year","_law_pumps","_law_seasons","_law_begin","_law_j"]
noncomputable abbrev Zw:List Str:=ZDb.take 4
theorem Rx:FnScope ZDb Zw (Aw ZAK):=⟨rfl,rfl,rfl,by decide +kernel,rfl,by decide +kernel,by decide +kernel⟩
noncomputable abbrev ZGM:List Str:=["_law_names_here","_law_many","_law_k","_law_year","_law_cell","_law_xs","_law_down","_law_head","_law_pumps","_law_rule_here","_law_pump","_law_to"]
noncomputable abbrev ZBS:List Str:=ZGM.take 5
theorem Ji:FnScope ZGM ZBS (Aw ZCV):=⟨rfl,rfl,rfl,by decide +kernel,rfl,by decide +kernel,by decide +kernel⟩
noncomputable abbrev ZBl:List Str:=["_law_script","_law_at","_law_many","_law_year","_law_names_here","_law_places"]
noncomputable abbrev ZBf:List Str:=ZBl.take 2
theorem Rn:FnScope ZBl ZBf (Aw Vz):=⟨rfl,rfl,rfl,by decide +kernel,rfl,by decide +kernel,by decide +kernel⟩
noncomputable abbrev ZE5:List Str:=["_law_found"]
noncomputable abbrev ZAg:List Str:=ZE5.take 1
theorem ZHu:FnScope ZE5 ZAg (Aw ZAx):=⟨rfl,rfl,rfl,by decide +kernel,rfl,by decide +kernel,by decide +kernel⟩
noncomputable abbrev ZEc:List Str:=["_law_found","_law_due","_law_season","_law_step"]
noncomputable abbrev ZAb:List Str:=ZEc.take 2
theorem ZBP:FnScope ZEc ZAb (Aw ZBe):=⟨rfl,rfl,rfl,by decide +kernel,rfl,by decide +kernel,by decide +kernel⟩
noncomputable abbrev Zd:List Str:=["_law_found","_law_due","_law_j"]
noncomputable abbrev ZAM:List Str:=Zd.take 2
theorem ZD0:FnScope Zd ZAM (Aw Tq):=⟨rfl,rfl,rfl,by decide +kernel,rfl,by decide +kernel,by decide +kernel⟩
noncomputable abbrev ZCj:List Str:=["_law_found","_law_due"]
noncomputable abbrev Yu:List Str:=ZCj.take 2
theorem ZK6:FnScope ZCj Yu (Aw V0):=⟨rfl,rfl,rfl,by decide +kernel,rfl,by decide +kernel,by decide +kernel⟩
noncomputable abbrev ZEg:List Str:=["_law_rule_here","_law_seasons","_law_begin","_law_stairs_here","_law_text","_law_mark","_law_height","_law_many","_law_way"]
noncomputable abbrev ZBr:List Str:=ZEg.take 1
theorem Iu:FnScope ZEg ZBr (Aw Z5):=⟨rfl,rfl,rfl,by decide +kernel,rfl,by decide +kernel,by decide +kernel⟩
noncomputable abbrev ZEh:List Str:=["_law_place_here","_law_words"]
noncomputable abbrev Zo:List Str:=ZEh.take 1
theorem ZDq:FnScope ZEh Zo (Aw ZA3):=⟨rfl,rfl,rfl,by decide +kernel,rfl,by decide +kernel,by decide +kernel⟩
noncomputable abbrev ZCD:List Str:=["_law_house_here"]
noncomputable abbrev ZBt:List Str:=ZCD.take 1
theorem ZNn:FnScope ZCD ZBt (Aw Xc):=⟨rfl,rfl,rfl,by decide +kernel,rfl,by decide +kernel,by decide +kernel⟩
noncomputable abbrev ZBq:List Str:=["thing"]
noncomputable abbrev ZCT:List Str:=ZBq.take 1
theorem ZIU:FnScope ZBq ZCT (Aw V9):=⟨rfl,rfl,rfl,by decide +kernel,rfl,by decide +kernel,by decide +kernel⟩
noncomputable abbrev ZHD:List Str:=["pump","others"]
noncomputable abbrev ZAZ:List Str:=ZHD.take 2
theorem ZNc:FnScope ZHD ZAZ (Aw ZBo):=⟨rfl,rfl,rfl,by decide +kernel,rfl,by decide +kernel,by decide +kernel⟩
noncomputable abbrev ZDJ:List Str:=["place","later"]
noncomputable abbrev ZBB:List Str:=ZDJ.take 2
theorem ZJk:FnScope ZDJ ZBB (Aw ZAf):=⟨rfl,rfl,rfl,by decide +kernel,rfl,by decide +kernel,by decide +kernel⟩
noncomputable abbrev ZGL:List Str:=["rule","year","ahead","first","stairs"]
noncomputable abbrev ZBz:List Str:=ZGL.take 2
theorem S8:FnScope ZGL ZBz (Aw Z3):=⟨rfl,rfl,rfl,by decide +kernel,rfl,by decide +kernel,by decide +kernel⟩
noncomputable abbrev ZEt:List Str:=["stairs","end","height","many","way"]
noncomputable abbrev ZAi:List Str:=ZEt.take 1
theorem Ob:FnScope ZEt ZAi (Aw ZCF):=⟨rfl,rfl,rfl,by decide +kernel,rfl,by decide +kernel,by decide +kernel⟩
noncomputable abbrev ZCn:List Str:=["stairs","pump","pumped"]
noncomputable abbrev ZB1:List Str:=ZCn.take 2
theorem ZC8:FnScope ZCn ZB1 (Aw Su):=⟨rfl,rfl,rfl,by decide +kernel,rfl,by decide +kernel,by decide +kernel⟩
noncomputable abbrev ZDd:List Str:=["rule","pump","year","first","stairs"]
noncomputable abbrev Yw:List Str:=ZDd.take 3
theorem Yy:FnScope ZDd Yw (Aw ZAc):=⟨rfl,rfl,rfl,by decide +kernel,rfl,by decide +kernel,by decide +kernel⟩
noncomputable abbrev ZHR:List Str:=["place"]
noncomputable abbrev Zn:List Str:=ZHR.take 1
theorem ZH7:FnScope ZHR Zn (Aw ZAe):=⟨rfl,rfl,rfl,by decide +kernel,rfl,by decide +kernel,by decide +kernel⟩
noncomputable abbrev U5:List Str:=["house","number","places","place","ahead","later"]
noncomputable abbrev ZAO:List Str:=U5.take 2
theorem Ou:FnScope U5 ZAO (Aw Rh):=⟨rfl,rfl,rfl,by decide +kernel,rfl,by decide +kernel,by decide +kernel⟩
noncomputable abbrev ZGz:List Str:=["house","places","number"]
noncomputable abbrev Z6:List Str:=ZGz.take 1
theorem ZB3:FnScope ZGz Z6 (Aw ZBu):=⟨rfl,rfl,rfl,by decide +kernel,rfl,by decide +kernel,by decide +kernel⟩
noncomputable abbrev ZBD:List Str:=["text"]
noncomputable abbrev ZBy:List Str:=ZBD.take 1
theorem ZHt:FnScope ZBD ZBy (Aw T8):=⟨rfl,rfl,rfl,by decide +kernel,rfl,by decide +kernel,by decide +kernel⟩
noncomputable abbrev ZHF:List Str:=["text","row"]
noncomputable abbrev Zf:List Str:=ZHF.take 2
theorem ZJc:FnScope ZHF Zf (Aw ZAq):=⟨rfl,rfl,rfl,by decide +kernel,rfl,by decide +kernel,by decide +kernel⟩
noncomputable abbrev ZCL:List Str:=["text","row"]
noncomputable abbrev ZBU:List Str:=ZCL.take 2
theorem ZN2:FnScope ZCL ZBU (Aw Yn):=⟨rfl,rfl,rfl,by decide +kernel,rfl,by decide +kernel,by decide +kernel⟩
noncomputable abbrev ZFN:List Str:=["text","row","parts"]
noncomputable abbrev ZCH:List Str:=ZFN.take 2
theorem ZEq:FnScope ZFN ZCH (Aw ZCC):=⟨rfl,rfl,rfl,by decide +kernel,rfl,by decide +kernel,by decide +kernel⟩
noncomputable abbrev ZFm:List Str:=["text","row","height","plus","rest","many","blank","way"]
noncomputable abbrev Ze:List Str:=ZFm.take 2
theorem Mv:FnScope ZFm Ze (Aw ZAB):=⟨rfl,rfl,rfl,by decide +kernel,rfl,by decide +kernel,by decide +kernel⟩
noncomputable abbrev ZCB:List Str:=["text","row"]
noncomputable abbrev ZA9:List Str:=ZCB.take 2
theorem ZMn:FnScope ZCB ZA9 (Aw Tt):=⟨rfl,rfl,rfl,by decide +kernel,rfl,by decide +kernel,by decide +kernel⟩
noncomputable abbrev ZGb:List Str:=["text","row","first","colon","steps"]
noncomputable abbrev ZBd:List Str:=ZGb.take 2
theorem Yi:FnScope ZGb ZBd (Aw Zz):=⟨rfl,rfl,rfl,by decide +kernel,rfl,by decide +kernel,by decide +kernel⟩
noncomputable abbrev ZB9:List Str:=["text","row"]
noncomputable abbrev ZCm:List Str:=ZB9.take 2
theorem ZLj:FnScope ZB9 ZCm (Aw Sv):=⟨rfl,rfl,rfl,by decide +kernel,rfl,by decide +kernel,by decide +kernel⟩
noncomputable abbrev ZDo:List Str:=["text","row","words","kind","name","down","delay","brim","pump","rule","river"]
noncomputable abbrev ZCk:List Str:=ZDo.take 2
theorem Jb:FnScope ZDo ZCk (Aw ZCf):=⟨rfl,rfl,rfl,by decide +kernel,rfl,by decide +kernel,by decide +kernel⟩
noncomputable abbrev Z4:List Str:=["words","row","names"]
noncomputable abbrev ZAo:List Str:=Z4.take 2
theorem ZED:FnScope Z4 ZAo (Aw Wi):=⟨rfl,rfl,rfl,by decide +kernel,rfl,by decide +kernel,by decide +kernel⟩
noncomputable abbrev ZF3:List Str:=["text","many","row","words"]
noncomputable abbrev Yv:List Str:=ZF3.take 3
theorem ZEx:FnScope ZF3 Yv (Aw ZBE):=⟨rfl,rfl,rfl,by decide +kernel,rfl,by decide +kernel,by decide +kernel⟩
noncomputable abbrev ZF7:List Str:=["text","row","kind"]
noncomputable abbrev ZBw:List Str:=ZF7.take 2
theorem ZEm:FnScope ZF7 ZBw (Aw Zj):=⟨rfl,rfl,rfl,by decide +kernel,rfl,by decide +kernel,by decide +kernel⟩
noncomputable abbrev ZEK:List Str:=["text","words"]
noncomputable abbrev Yx:List Str:=ZEK.take 1
theorem ZF4:FnScope ZEK Yx (Aw ZAl):=⟨rfl,rfl,rfl,by decide +kernel,rfl,by decide +kernel,by decide +kernel⟩
noncomputable abbrev ZB5:List Str:=["text","rows","year","places"]
noncomputable abbrev Yz:List Str:=ZB5.take 1
theorem W8:FnScope ZB5 Yz (Aw Th):=⟨rfl,rfl,rfl,by decide +kernel,rfl,by decide +kernel,by decide +kernel⟩
noncomputable abbrev ZAw:List Str:=["pump"]
noncomputable abbrev ZBL:List Str:=ZAw.take 1
theorem ZK3:FnScope ZAw ZBL (Aw Vs):=⟨rfl,rfl,rfl,by decide +kernel,rfl,by decide +kernel,by decide +kernel⟩
noncomputable abbrev ZA6:List Str:=["first","stairs","steps"]
noncomputable abbrev ZBV:List Str:=ZA6.take 2
theorem ZET:FnScope ZA6 ZBV (Aw Xh):=⟨rfl,rfl,rfl,by decide +kernel,rfl,by decide +kernel,by decide +kernel⟩
noncomputable abbrev ZAE:List Str:=["rule"]
noncomputable abbrev ZAY:List Str:=ZAE.take 1
theorem ZLb:FnScope ZAE ZAY (Aw Yo):=⟨rfl,rfl,rfl,by decide +kernel,rfl,by decide +kernel,by decide +kernel⟩
noncomputable abbrev ZAz:List Str:=["place","kind","name","down","delay","brim","rule","pump","pump_text","rule_text"]
noncomputable abbrev ZAF:List Str:=ZAz.take 1
theorem Ja:FnScope ZAz ZAF (Aw Tn):=⟨rfl,rfl,rfl,by decide +kernel,rfl,by decide +kernel,by decide +kernel⟩
noncomputable abbrev ZAh:List Str:=["house","year"]
noncomputable abbrev Zk:List Str:=ZAh.take 1
theorem ZG8:FnScope ZAh Zk (Aw Yh):=⟨rfl,rfl,rfl,by decide +kernel,rfl,by decide +kernel,by decide +kernel⟩
noncomputable abbrev ZFi:List Str:=["_law_house_here","_law_text","_law_told","_law_found"]
noncomputable abbrev ZBi:List Str:=ZFi.take 1
theorem Xk:FnScope ZFi ZBi (Aw ZBv):=⟨rfl,rfl,rfl,by decide +kernel,rfl,by decide +kernel,by decide +kernel⟩
noncomputable abbrev ZFs:List Str:=["_law_script","_law_house_here","_law_other"]
noncomputable abbrev ZAW:List Str:=ZFs.take 1
theorem ZAj:FnScope ZFs ZAW (Aw Ii):=⟨rfl,rfl,rfl,by decide +kernel,rfl,by decide +kernel,by decide +kernel⟩
def ZFU:DS:=(Ah (sIf (Aq (dOp Jx (dV 1) (dFn Dk (Ac (dV 0) Af)))) (sRt (dOp Aj (dV 0) (dV 1))) sNx) (sRt (dC (.int 0))))
def Jo:List D->DH->R D:=Br 2 0 ZFU
def Um:DS:=(Ah (sAs (dOp Ax (dV 4) (dOp Aj (dV 1) (dOp By (dV 5) (dC (.int 26))))) (gV 4)) (sAs (dOp Fy (dV 5) (dC (.int 26))) (gV 5)))
def V1:DE:=(dOp Ax (dC (.str "z")) (dV 0))
def Ys:DE:=(dV 0)
def Tz:DB:=(Ho (Aq (dOp Ld (dV 0) (dV 1))) (Aq (dOp Ep (dV 0) (dC (.str "sea")))))
def U8:DS:=(Ah (sAs (dC (.str "")) (gV 4)) (Ah (sAs (dOp Fy (dV 3) (dC (.int 8))) (gV 5)) (Ah (Fg (Hy rng1 (Ac (dOp Ax (dC (.int 1)) (dOp By (dV 3) (dC (.int 8)))) Af)) (gV 6) Um) (Ah (sAs (Bd (dOp Ax (Bd (dFn Bo (Ac (dV 4) Af))) (Bd (De (Cz (dV 1)) 1 [] (gV 0) Bp V1)))) (gV 7)) (sEx (I9 Hl (dV 2) (Ac (dOp Aj (Bd (De (Cz (dV 7)) 1 [2] (gV 0) Tz Ys)) (dC (.int 0))) Af)))))))
def ZEf:DS:=(Ah (sAs (dC (.str "abcdefghijklmnopqrstuvwxyz")) (gV 1)) (Ah (sAs (Jf (dFn Bo Af)) (gV 2)) (Ah (Fg (Cz (dV 0)) (gV 3) U8) (sRt (dV 2)))))
def U0:List D->DH->R D:=Br 1 7 ZEf
def U3:DS:=(Ah (sAs (dOp By (dOp Ax (dOp Ax (dOp Ei (dV 3) (dV 3)) (dOp Ei (dC (.int 48271)) (dV 6))) (dC (.int 11))) (dC (.int 2147483647))) (gV 3)) (Ah (sEx (I9 Hl (dV 5) (Ac (dOp Aj (Bd (dFn Bo (Ac (dV 3) (Ac (dOp By (dV 4) (dOp K4 (dC (.int 10)) (dC (.int 42)))) Af)))) (dFn Rc (Ac (dOp Jv (dV 4) (dC (.int 0))) Af))) Af))) (sAs (dOp Fy (dV 4) (dOp K4 (dC (.int 10)) (dC (.int 42)))) (gV 4))))
def ZDT:DS:=(Ah (sAs (dOp By (dOp Ei (dOp Ax (dOp By (dV 0) (dC (.int 999999937))) (dC (.int 2))) (dOp Ax (dOp Ei (dOp Ei (dC (.int 7919)) (dV 1)) (dV 1)) (dC (.int 48271)))) (dC (.int 2147483647))) (gV 3)) (Ah (sAs (dC (.int 0)) (gV 4)) (Ah (sIf (dOr (Aq (dOp Jx (dV 0) (dC (.int 0)))) (Aq (dOp ZAS (dV 0) (dOp K4 (dC (.int 10)) (dC (.int 18)))))) (sAs (dFn Wk (Ac (dV 0) (Ac (dOp Lg (dC (.int 0)) (dV 0)) Af))) (gV 4)) sNx) (Ah (sAs (Jf (dFn Bo Af)) (gV 5)) (Ah (Fg (Hy rng1 (Ac (dV 2) Af)) (gV 6) U3) (sRt (dV 5)))))))
def Ly:List D->DH->R D:=Br 3 4 ZDT
def Xd:DE:=(dOp Aj (dV 1) (dOp By (dV 0) (dC (.int 26))))
def Yr:DE:=(Bd (dSl (dV 1) vQ (xU (dOp Ax (dV 0) (dC (.int 1))))))
def T3:DE:=(Bd (dSl (dV 1) vQ (xU (dOp Ax (dV 0) (dC (.int 1))))))
def Uq:DE:=(dOp Aj (Bd (dFn Bo (Ac (dV 0) (Ac (dC (.str "sa")) Af)))) (dFn Rc (Ac (dOp Bw (dV 0) (dC (.str "sea"))) Af)))
def Rw:DS:=(Ah (sAs (dOp Aj (dV 1) (dOp By (dOp Ax (dOp Aj (dV 2) (dC (.int 10))) (dOp Ei (dC (.int 5)) (dV 7))) (dC (.int 26)))) (gV 11)) (Ah (sAs (Bd (dOp Ax (Bd (dOp Ax (Bd (dSl (dV 3) vQ (xU (dV 10)))) (dV 11))) (Bd (dSl (dV 3) (xU (dV 10)) (xU (dV 9)))))) (gV 8)) (Ah (sIf (Aq (dOp Bw (dV 8) (dC (.str "sea")))) (sAs (dC (.str "seat")) (gV 8)) sNx) (sEx (I9 Hl (dV 6) (Ac (dV 8) Af))))))
def ZDy:DS:=(sRt (dV 6))
def ZFr:DS:=(Ah (Fg (Hy rng1 (Ac (dC (.int 12)) Af)) (gV 7) Rw) ZDy)
def ZHP:DS:=(Ah (sAs (Jf (dFn Bo Af)) (gV 6)) ZFr)
def ZD8:DS:=(Ah (sAs (dOp By (dOp Aj (dV 2) (dC (.int 9))) (dOp Ax (dV 9) (dC (.int 1)))) (gV 10)) ZHP)
def ZGQ:DS:=(Ah (sAs (dOp By (dOp Fy (dOp Aj (dV 2) (dC (.int 8))) (dC (.int 3))) (dC (.int 8))) (gV 9)) ZD8)
def Rk:DS:=(Ah (sIf (Aq (dOp Bw (dOp By (dOp Aj (dV 2) (dC (.int 8))) (dC (.int 3))) (dC (.int 0)))) (Ah (sAs (dOp By (dOp Ax (dOp Ax (Du Vx (dV 1) (Ac (dOp Aj (dV 3) (dC (.int 0))) Af)) (dC (.int 1))) (dOp By (dOp Aj (dV 2) (dC (.int 9))) (dC (.int 25)))) (dC (.int 26))) (gV 4)) (Ah (sAs (Bd (dOp Ax (dOp Aj (dV 1) (dV 4)) (Bd (dSl (dV 3) (xU (dC (.int 1))) vQ)))) (gV 5)) (Ah (sAs (De (Hy rng1 (Ac (dC (.int 8)) Af)) 1 [3] (gV 0) Bp Yr) (gV 6)) (Ah (sAs (Jf (dOp Ax (dV 6) (Bd (De (Hy rng1 (Ac (dC (.int 4)) Af)) 1 [5] (gV 0) Bp T3)))) (gV 6)) (Ah (sAs (De (Cz (dV 6)) 1 [] (gV 0) Bp Uq) (gV 6)) (sRt (dOp Ax (Bd (dSl (dV 6) (xU (dOp By (dOp Aj (dV 2) (dC (.int 10))) (dC (.int 12)))) vQ)) (Bd (dSl (dV 6) vQ (xU (dOp By (dOp Aj (dV 2) (dC (.int 10))) (dC (.int 12))))))))))))) sNx) ZGQ)
def Y8:DS:=(Ah (sIf (Aq (dOp Bw (dOp By (dOp Fy (dOp Aj (dV 2) (dC (.int 10))) (dC (.int 26))) (dC (.int 4))) (dC (.int 0)))) (sAs (Bd (dSl (Bd (dOp Ax (dOp Aj (Bd (dFn Bo (Ac (dC (.str "sea")) (Ac (dC (.str "none")) Af)))) (dOp By (dOp Fy (dOp Aj (dV 2) (dC (.int 10))) (dC (.int 104))) (dC (.int 2)))) (Bd (dSl (dV 3) (xU (dC (.int 3))) vQ)))) vQ (xU (dC (.int 8))))) (gV 3)) sNx) Rk)
def T4:DS:=(Ah (sAs (Du Ez (dC (.str "")) (Ac (Bd (De (Cz (Bd (dSl (dV 2) vQ (xU (dC (.int 8)))))) 1 [1] (gV 0) Bp Xd)) Af)) (gV 3)) Y8)
def Qu:DS:=(Ah (sIf (Aq (dOp Jv (dOp Aj (dV 2) (dC (.int 11))) (dC (.int 2147483647)))) (sRt (dFn U0 (Ac (Bd (dSl (dV 2) (xU (dC (.int 11))) (xU (dC (.int 23))))) Af))) sNx) T4)
def S7:DS:=(Ah (sAs (Bd (dFn Ly (Ac (dV 0) (Ac (dC (.int 0)) (Ac (dC (.int 24)) Af))))) (gV 2)) Qu)
def Qm:DS:=(Ah (sAs (dC (.str "abcdefghijklmnopqrstuvwxyz")) (gV 1)) S7)
def Kl:List D->DH->R D:=Br 1 11 Qm
def Zq:DS:=(Ah (sIf (Aq (dOp Jv (dV 0) (dC (.int 2147483647)))) (sRt (dOp Ei (dOp By (dOp Fy (dV 0) (dC (.int 2))) (dOp K4 (dC (.int 10)) (dC (.int 38)))) (dOp By (dV 0) (dC (.int 2))))) sNx) (sRt (dOp Ei (dOp By (dV 0) (dC (.int 50))) (dOp By (dOp Fy (dV 0) (dC (.int 50))) (dC (.int 2))))))
def Q7:List D->DH->R D:=Br 1 0 Zq
def ZDG:DS:=(Ah (sIf (Aq (dOp Bw (dOp By (dV 0) (dC (.int 4))) (dC (.int 0)))) (sRt (dC (.int 0))) sNx) (Ah (sIf (Ho (Aq (dOp Bw (dOp By (dV 0) (dC (.int 4))) (dC (.int 1)))) (Aq (dOp Jv (dV 0) (dC (.int 2147483647))))) (sRt (dOp By (dOp Fy (dV 0) (dC (.int 4))) (dOp K4 (dC (.int 10)) (dC (.int 38))))) sNx) (Ah (sIf (Aq (dOp Bw (dOp By (dV 0) (dC (.int 4))) (dC (.int 1)))) (sRt (dOp By (dOp Ei (dV 1) (dOp Ax (dOp Fy (dV 0) (dC (.int 4))) (dC (.int 2)))) (dOp K4 (dC (.int 10)) (dC (.int 38))))) sNx) (sRt (dOp By (dOp Fy (dV 0) (dC (.int 4))) (dC (.int 40)))))))
def Km:List D->DH->R D:=Br 2 0 ZDG
def Xy:DE:=(dV 1)
def Vg:DB:=(Aq (dOp Bw (dV 2) (dC (.str "pump"))))
def Tr:DE:=(dFn M7 (Ac (Bd (De (Cz (dV 1)) 3 [] (Cq 3 (Ar (gV 0) (Ar (gV 1) (Ar (gV 2) Cv)))) Vg Xy)) Af))
def ZHG:DS:=(sRt (dFn O8 (Ac (Bd (De (Cz (dV 0)) 2 [] (Cq 2 (Ar (gV 0) (Ar (gV 1) Cv))) Bp Tr)) Af)))
def Y7:List D->DH->R D:=Br 1 0 ZHG
def Uu:DS:=(Ah (sAs (dOp Ax (dV 4) (dFn Km (Ac (dOp Aj (dV 0) (dOp Ax (dC (.int 1)) (dOp Ei (dC (.int 2)) (dV 5)))) (Ac (dV 1) Af)))) (gV 6)) (Ah (sAs (dOp Ax (dC (.int 1)) (dFn Km (Ac (dOp Aj (dV 0) (dOp Ax (dC (.int 2)) (dOp Ei (dC (.int 2)) (dV 5)))) (Ac (dV 1) Af)))) (gV 7)) (Ah (sAs (dC (.str "river")) (gV 8)) (Ah (sIf (Ho (Aq (dV 2)) (Aq (dOp Bw (dOp By (dOp Fy (dOp Aj (dV 0) (dOp Ax (dC (.int 2)) (dOp Ei (dC (.int 2)) (dV 5)))) (dC (.int 160))) (dC (.int 2))) (dC (.int 0))))) (sAs (dC (.str "pump")) (gV 8)) sNx) (Ah (sEx (I9 Hl (dV 3) (Ac (dFn Dy (Ac (dV 6) (Ac (dV 7) (Ac (dV 8) Af)))) Af))) (sAs (dOp Ax (dV 6) (dV 7)) (gV 4)))))))
def ZG3:DS:=(Ah (sAs (Jf (dFn Bo Af)) (gV 3)) (Ah (sAs (dC (.int 0)) (gV 4)) (Ah (Fg (Hy rng1 (Ac (dOp By (dOp Aj (dV 0) (dC (.int 0))) (dC (.int 4))) Af)) (gV 5) Uu) (sRt (dFn Il (Ac (dV 3) Af))))))
def V8:List D->DH->R D:=Br 3 6 ZG3
def Om:DS:=(sIf (dOr (Aq (dOp Bw (dV 6) (dC (.int 0)))) (Ho (Aq (dOp Jv (dOp By (dOp Aj (dV 0) (dV 6)) (dC (.int 3))) (dC (.int 0)))) (Aq (dOp Jx (dV 5) (dV 2))))) (Ah (sEx (I9 Hl (dV 4) (Ac (dFn Dy (Ac (dV 5) (Ac (dFn V8 (Ac (Bd (dSl (dV 0) (xU (dOp Ax (dC (.int 3)) (dOp Ei (dC (.int 7)) (dV 6)))) (xU (dOp Ax (dC (.int 10)) (dOp Ei (dC (.int 7)) (dV 6)))))) (Ac (dV 1) (Ac (dV 3) Af)))) Af))) Af))) (sAs (dOp Ax (dOp Ax (dV 5) (dC (.int 1))) (dOp By (dOp Fy (dOp Aj (dV 0) (dV 6)) (dC (.int 3))) (dC (.int 9)))) (gV 5))) sNx)
def ZGm:DS:=(Ah (sAs (Jf (dFn Bo Af)) (gV 4)) (Ah (sAs (dC (.int 0)) (gV 5)) (Ah (Fg (Hy rng1 (Ac (dC (.int 3)) Af)) (gV 6) Om) (sRt (dFn Il (Ac (dV 4) Af))))))
def Ui:List D->DH->R D:=Br 4 3 ZGm
def ZCP:DS:=(sRt (dOp Ax (dOp Ax (dFn Dy (Ac (dC (.str "basin")) Af)) (dV 7)) (dFn Dy (Ac (dFn Km (Ac (dOp Aj (dV 5) (dC (.int 3))) (Ac (dV 4) Af))) (Ac (dV 9) (Ac (dV 10) Af))))))
def ZBC:DS:=(Ah (sIf (Aq (dV 8)) (Ah (sAs (dOp By (dOp Ax (dOp Ax (dV 2) (dC (.int 1))) (dOp By (dOp Aj (dV 5) (dC (.int 6))) (dOp Lg (dV 1) (dC (.int 1))))) (dV 1)) (gV 11)) (sAs (dFn Dy (Ac (dOp Aj (dV 0) (dV 11)) (Ac (dOp Ax (dC (.int 1)) (dOp By (dOp Aj (dV 5) (dC (.int 7))) (dC (.int 5)))) (Ac (dOp Ax (dFn Y7 (Ac (dV 9) Af)) (dFn Q7 (Ac (dOp Aj (dV 5) (dC (.int 4))) Af))) Af)))) (gV 10))) sNx) ZCP)
def ZAa:DS:=(Ah (sAs (dC .non) (gV 10)) ZBC)
def Zy:DS:=(Ah (sAs (dFn Ui (Ac (Bd (dSl (dV 5) (xU (dC (.int 8))) (xU (dC (.int 32))))) (Ac (dV 4) (Ac (dV 3) (Ac (dV 8) Af))))) (gV 9)) ZAa)
def ZBR:DS:=(Ah (sAs (Lp (dOp Jv (dV 1) (dC (.int 1))) (dOp Jv (dOp By (dOp Aj (dV 5) (dC (.int 5))) (dC (.int 3))) (dC (.int 0)))) (gV 8)) Zy)
def Yb:DS:=(Ah (sIf (Aq (dOp Bw (dOp By (dOp Aj (dV 5) (dC (.int 2))) (dC (.int 5))) (dC (.int 1)))) (sRt (dOp Ax (dOp Ax (dFn Dy (Ac (dC (.str "town")) Af)) (dV 7)) (dFn Dy (Ac (dFn Km (Ac (dOp Aj (dV 5) (dC (.int 3))) (Ac (dV 4) Af))) (Ac (dFn Km (Ac (dOp Aj (dV 5) (dC (.int 4))) (Ac (dV 4) Af))) Af))))) sNx) ZBR)
def Od:DS:=(Ah (sIf (Aq (dOp Bw (dOp By (dOp Aj (dV 5) (dC (.int 2))) (dC (.int 5))) (dC (.int 0)))) (sRt (dOp Ax (dOp Ax (dFn Dy (Ac (dC (.str "mill")) Af)) (dV 7)) (dFn Dy (Ac (dFn Km (Ac (dOp Aj (dV 5) (dC (.int 3))) (Ac (dV 4) Af))) Af)))) sNx) Yb)
def ZAp:DS:=(Ah (sAs (dFn Dy (Ac (dOp Aj (dV 0) (dV 2)) (Ac (dV 6) (Ac (dOp By (dOp Aj (dV 5) (dC (.int 1))) (dC (.int 6))) Af)))) (gV 7)) Od)
def ZCE:DS:=(Ah (sIf (Aq (dOp Jv (dOp By (dOp Aj (dV 5) (dC (.int 0))) (dOp Lg (dV 1) (dV 2))) (dC (.int 0)))) (sAs (dOp Aj (dV 0) (dOp Ax (dV 2) (dOp By (dOp Aj (dV 5) (dC (.int 0))) (dOp Lg (dV 1) (dV 2))))) (gV 6)) sNx) ZAp)
def ZBb:DS:=(Ah (sAs (dC (.str "sea")) (gV 6)) ZCE)
def ZBO:DS:=(Ah (sAs (Bd (dFn Ly (Ac (dV 4) (Ac (dV 2) (Ac (dC (.int 33)) Af))))) (gV 5)) ZBb)
def Lf:List D->DH->R D:=Br 5 7 ZBO
def Xe:DE:=(dFn Lf (Ac (dV 5) (Ac (dV 3) (Ac (dV 0) (Ac (dV 4) (Ac (dFn Jo (Ac (dV 1) (Ac (dOp Ax (dOp Ax (dV 2) (dC (.int 3))) (dV 0)) Af))) Af))))))
def ZHQ:DS:=(Ah (sAs (dOp Ax (dC (.int 1)) (dOp By (dFn Jo (Ac (dV 0) (Ac (dV 1) Af))) (dC (.int 12)))) (gV 2)) (Ah (sAs (dOp Ax (dC (.int 1)) (dOp By (dFn Jo (Ac (dV 0) (Ac (dOp Ax (dV 1) (dC (.int 1))) Af))) (dC (.int 24)))) (gV 3)) (Ah (sAs (Bd (dFn Kl (Ac (dFn Jo (Ac (dV 0) (Ac (dOp Ax (dV 1) (dC (.int 2))) Af))) Af))) (gV 4)) (Ah (sAs (Bd (De (Hy rng1 (Ac (dV 2) Af)) 1 [0,1,2,3,4] (gV 0) Bp Xe)) (gV 5)) (sRt (dFn Dy (Ac (dV 3) (Ac (dFn Il (Ac (dV 5) Af)) Af))))))))
def K3:List D->DH->R D:=Br 2 4 ZHQ
def Ox:DS:=(sRt (Lp (dFn Dm (Ac (dV 0) (Ac (dC (.ty "int")) Af))) (Uj (dFn Dm (Ac (dV 0) (Ac (dC (.ty "bool")) Af))))))
def Ha:List D->DH->R D:=Br 1 0 Ox
def U6:DS:=(Ah (sIf (dOr (Cp (Aq (dFn Dm (Ac (dV 3) (Ac (dC (.ty "tuple")) Af))))) (dOr (Aq (dOp Ep (dFn Dk (Ac (dV 3) Af)) (dC (.int 3)))) (Cp (Aq (dFn Dm (Ac (dOp Aj (dV 3) (dC (.int 2))) (Ac (dC (.ty "str")) Af))))))) (sRt (dC (.bl vJ))) sNx) (sIf (dOr (Cp (Aq (dFn Ha (Ac (dOp Aj (dV 3) (dC (.int 0))) Af)))) (Cp (Aq (dFn Ha (Ac (dOp Aj (dV 3) (dC (.int 1))) Af))))) (sRt (dC (.bl vJ))) sNx))
def U4:DS:=(Ah (sIf (dOr (Cp (Aq (dFn Dm (Ac (dV 2) (Ac (dC (.ty "tuple")) Af))))) (dOr (Aq (dOp Ep (dFn Dk (Ac (dV 2) Af)) (dC (.int 2)))) (Cp (Aq (dFn Ha (Ac (dOp Aj (dV 2) (dC (.int 0))) Af)))))) (sRt (dC (.bl vJ))) sNx) (Ah (sIf (Cp (Aq (dFn Dm (Ac (dOp Aj (dV 2) (dC (.int 1))) (Ac (dC (.ty "tuple")) Af))))) (sRt (dC (.bl vJ))) sNx) (Fg (Cz (dOp Aj (dV 2) (dC (.int 1)))) (gV 3) U6)))
def ZG5:DS:=(Ah (sIf (dOr (Cp (Aq (dFn Dm (Ac (dV 0) (Ac (dC (.ty "tuple")) Af))))) (Aq (dOp Ep (dFn Dk (Ac (dV 0) Af)) (dFn Dk (Ac (dV 1) Af))))) (sRt (dC (.bl vJ))) sNx) (Ah (Fg (Cz (dV 0)) (gV 2) U4) (sRt (dOp Bw (dV 0) (dV 1)))))
def Yj:List D->DH->R D:=Br 2 2 ZG5
def R1:DS:=(Ah (sIf (Ho (Aq (dFn Dm (Ac (dOp Aj (dV 1) (dV 2)) (Ac (dC (.ty "str")) Af)))) (Cp (Aq (dFn Dm (Ac (dOp Aj (dV 0) (dV 2)) (Ac (dC (.ty "str")) Af)))))) (sRt (dC (.bl vJ))) sNx) (sIf (Ho (Aq (dFn Ha (Ac (dOp Aj (dV 1) (dV 2)) Af))) (Cp (Aq (dFn Ha (Ac (dOp Aj (dV 0) (dV 2)) Af))))) (sRt (dC (.bl vJ))) sNx))
def Ve:DE:=(dFn Ha (Ac (dV 0) Af))
def ZA1:DS:=(sRt (Lp (dFn Yj (Ac (dOp Aj (dV 0) (dC (.int 5))) (Ac (dOp Aj (dV 1) (dC (.int 5))) Af))) (dOp Bw (dV 0) (dV 1))))
def ZCg:DS:=(Ah (sIf (Ho (Aq (dOp R9 (dOp Aj (dV 1) (dC (.int 6))) (dC .non))) (Cp (Aq (dFn Hj (Ac (Bd (De (Cz (Bd (dSl (dOp Aj (dV 0) (dC (.int 6))) (xU (dC (.int 1))) vQ))) 1 [] (gV 0) Bp Ve)) Af))))) (sRt (dC (.bl vJ))) sNx) ZA1)
def ZCJ:DS:=(Ah (sIf (Ho (Aq (dOp R9 (dOp Aj (dV 1) (dC (.int 6))) (dC .non))) (Cp (Aq (dFn Dm (Ac (dOp Aj (dV 0) (dC (.int 6))) (Ac (dC (.ty "tuple")) Af)))))) (sRt (dC (.bl vJ))) sNx) ZCg)
def Nz:DS:=(Ah (sIf (Aq (dOp Ep (dOp Aj (dV 1) (dC (.int 0))) (dC (.str "basin")))) (sRt (dOp Bw (dV 0) (dV 1))) sNx) ZCJ)
def ZGp:DS:=(Ah (Fg (Hy rng1 (Ac (dFn Dk (Ac (dV 1) Af)) Af)) (gV 2) R1) Nz)
def ZEH:DS:=(Ah (sIf (dOr (Cp (Aq (dFn Dm (Ac (dV 0) (Ac (dC (.ty "tuple")) Af))))) (Aq (dOp Ep (dFn Dk (Ac (dV 0) Af)) (dFn Dk (Ac (dV 1) Af))))) (sRt (dC (.bl vJ))) sNx) ZGp)
def Rv:List D->DH->R D:=Br 2 1 ZEH
def Qa:DE:=(dFn Rv (Ac (dOp Aj (dOp Aj (dV 1) (dC (.int 1))) (dV 0)) (Ac (dOp Aj (dOp Aj (dV 2) (dC (.int 1))) (dV 0)) Af)))
def ZGe:DS:=(sRt (dFn Hj (Ac (Bd (De (Hy rng1 (Ac (dFn Dk (Ac (dOp Aj (dV 1) (dC (.int 1))) Af)) Af)) 1 [0,1] (gV 0) Bp Qa)) Af)))
def ZEy:DS:=(Ah (sIf (dOr (Cp (Aq (dFn Dm (Ac (dOp Aj (dV 0) (dC (.int 1))) (Ac (dC (.ty "tuple")) Af))))) (Aq (dOp Ep (dFn Dk (Ac (dOp Aj (dV 0) (dC (.int 1))) Af)) (dFn Dk (Ac (dOp Aj (dV 1) (dC (.int 1))) Af))))) (sRt (dC (.bl vJ))) sNx) ZGe)
def ZGt:DS:=(Ah (sIf (dOr (Cp (Aq (dFn Dm (Ac (dV 0) (Ac (dC (.ty "tuple")) Af))))) (dOr (Aq (dOp Ep (dFn Dk (Ac (dV 0) Af)) (dC (.int 2)))) (dOr (Cp (Aq (dFn Ha (Ac (dOp Aj (dV 0) (dC (.int 0))) Af)))) (Aq (dOp Ep (dOp Aj (dV 0) (dC (.int 0))) (dOp Aj (dV 1) (dC (.int 0)))))))) (sRt (dC (.bl vJ))) sNx) ZEy)
def Y5:List D->DH->R D:=Br 2 0 ZGt
def Ww:DS:=(Ah (sAs (dOp Ax (dOp Ax (dOp Ax (dOp Ax (dOp Ax (dOp Ax (dV 4) (dV 5)) (dFn Gy (Ac (dV 6) Af))) (dC (.str "+"))) (dFn Gy (Ac (dV 7) Af))) (dC (.str " "))) (dV 8)) (gV 4)) (sAs (dC (.str ", ")) (gV 5)))
def Q5:DS:=(Ah (sAs (dOp Ax (dFn Gy (Ac (dV 2) Af)) (dC (.str ":"))) (gV 4)) (Ah (sAs (dC (.str " ")) (gV 5)) (Ah (Fg (Cz (dV 3)) (Cq 3 (Ar (gV 6) (Ar (gV 7) (Ar (gV 8) Cv)))) Ww) (sEx (I9 Hl (dV 1) (Ac (dV 4) Af))))))
def ZDV:DS:=(Ah (sAs (Jf (dFn Bo Af)) (gV 1)) (Ah (Fg (Cz (dV 0)) (Cq 2 (Ar (gV 2) (Ar (gV 3) Cv))) Q5) (sRt (Du Ez (dC (.str "; ")) (Ac (dV 1) Af)))))
def Ul:List D->DH->R D:=Br 1 8 ZDV
def Ql:DS:=(sRt (Du Ez (dC (.str " ")) (Ac (dV 1) Af)))
def R3:DS:=(Ah (sIf (Aq (dOp Bw (dOp Aj (dV 0) (dC (.int 0))) (dC (.str "basin")))) (sEx (I9 Hl (dV 1) (Ac (dFn Ul (Ac (dOp Aj (dV 0) (dC (.int 5))) Af)) Af))) sNx) Ql)
def R0:DS:=(Ah (sIf (Ho (Aq (dOp Bw (dOp Aj (dV 0) (dC (.int 0))) (dC (.str "basin")))) (Aq (dOp R9 (dOp Aj (dV 0) (dC (.int 6))) (dC .non)))) (sEx (I9 Hl (dV 1) (Ac (dOp Ax (dOp Ax (dOp Ax (dOp Ax (dOp Aj (dOp Aj (dV 0) (dC (.int 6))) (dC (.int 0))) (dC (.str ","))) (dFn Gy (Ac (dOp Aj (dOp Aj (dV 0) (dC (.int 6))) (dC (.int 1))) Af))) (dC (.str ","))) (dFn Gy (Ac (dOp Aj (dOp Aj (dV 0) (dC (.int 6))) (dC (.int 2))) Af))) Af))) sNx) R3)
def Q9:DS:=(Ah (sIf (Ho (Aq (dOp Bw (dOp Aj (dV 0) (dC (.int 0))) (dC (.str "basin")))) (Aq (dOp M8 (dOp Aj (dV 0) (dC (.int 6))) (dC .non)))) (sEx (I9 Hl (dV 1) (Ac (dC (.str "none")) Af))) sNx) R0)
def P0:DS:=(Ah (sIf (Aq (dOp Bw (dOp Aj (dV 0) (dC (.int 0))) (dC (.str "town")))) (sEx (I9 Hl (dV 1) (Ac (dFn Gy (Ac (dOp Aj (dV 0) (dC (.int 5))) Af)) Af))) sNx) Q9)
def R5:DS:=(Ah (sAs (Jf (dFn Bo (Ac (dOp Aj (dV 0) (dC (.int 0))) (Ac (dOp Aj (dV 0) (dC (.int 1))) (Ac (dOp Aj (dV 0) (dC (.int 2))) (Ac (dFn Gy (Ac (dOp Aj (dV 0) (dC (.int 3))) Af)) (Ac (dFn Gy (Ac (dOp Aj (dV 0) (dC (.int 4))) Af)) Af))))))) (gV 1)) P0)
def M4:List D->DH->R D:=Br 1 1 R5
def Pz:DE:=(dFn M4 (Ac (dV 0) Af))
def ZEY:DS:=(sRt (dOp Ax (Bd (dFn Bo (Ac (dOp Ax (dC (.str "year ")) (dFn Gy (Ac (dOp Aj (dV 0) (dC (.int 0))) Af))) Af))) (Bd (De (Cz (dOp Aj (dV 0) (dC (.int 1)))) 1 [] (gV 0) Bp Pz))))
def Vo:List D->DH->R D:=Br 1 0 ZEY
def Wc:DE:=(dOp Fx (dV 0) (dC (.str "abcdefghijklmnopqrstuvwxyz")))
def ZHT:DS:=(Ah (sIf (dOr (Aq (dOp Bw (dV 0) (dC (.str "sea")))) (Cp (Aq (Ip Ge Ge (dC (.int 1)) (dFn Dk (Ac (dV 0) Af)) (dC (.int 8)))))) (sRt (dC (.bl vJ))) sNx) (sRt (dFn Hj (Ac (Bd (De (Cz (dV 0)) 1 [] (gV 0) Bp Wc)) Af))))
def V6:List D->DH->R D:=Br 1 0 ZHT
def ZGl:DS:=(Ah (sIf (Aq (dOp M8 (dV 0) (dC .non))) (sRt (dC (.bl vZ))) sNx) (sRt (Lp (dOp Fx (dOp Aj (dV 0) (dC (.int 0))) (dV 1)) (Ip Ge Ge (dC (.int 1)) (dOp Aj (dV 0) (dC (.int 1))) (dC (.int 5))))))
def Yd:List D->DH->R D:=Br 2 0 ZGl
def ZEl:DS:=(sRt (Lp (Sx (dOp Bw (dOp Aj (dV 0) (dC (.int 2))) (dC (.str "sea"))) (dOp Fx (dOp Aj (dV 0) (dC (.int 2))) (dV 1))) (Ip Ge Ge (dC (.int 0)) (dOp Aj (dV 0) (dC (.int 3))) (dC (.int 5)))))
def Uk:List D->DH->R D:=Br 2 0 ZEl
def Vc:DS:=(Ah (sIf (Cp (Aq (Ip Jx Jx (dV 2) (dV 3) (dV 1)))) (sRt (dC (.bl vJ))) sNx) (sAs (dV 3) (gV 2)))
def ZDU:DS:=(Ah (sIf (dOr (Aq (dOp Bw (dFn Dk (Ac (dV 0) Af)) (dC (.int 0)))) (Aq (dOp Ep (dOp Aj (dOp Aj (dV 0) (dC (.int 0))) (dC (.int 0))) (dC (.int 0))))) (sRt (dC (.bl vJ))) sNx) (Ah (sAs (dUn Zu (dC (.int 1))) (gV 2)) (Ah (Fg (Cz (dV 0)) (Cq 2 (Ar (gV 3) (Ar (gV 4) Cv))) Vc) (sRt (dC (.bl vZ))))))
def Qe:List D->DH->R D:=Br 2 3 ZDU
def Xw:DS:=(Ah (sIf (dOr (Aq (dOp Jx (dV 2) (dV 1))) (Aq (dOp Jx (dV 3) (dC (.int 1))))) (sRt (dC (.bl vJ))) sNx) (sAs (dOp Ax (dV 2) (dV 3)) (gV 1)))
def ZGW:DS:=(Ah (sAs (dC (.int 0)) (gV 1)) (Ah (Fg (Cz (dV 0)) (Cq 3 (Ar (gV 2) (Ar (gV 3) (Ar (gV 4) Cv)))) Xw) (sRt (dC (.bl vZ)))))
def Og:List D->DH->R D:=Br 1 4 ZGW
def ZCQ:DE:=(dV 1)
def ZBY:DB:=(Aq (dOp Bw (dV 2) (dC (.str "pump"))))
def Zr:DS:=(Ah (sAs (Bd (De (Cz (dV 0)) 3 [] (Cq 3 (Ar (gV 0) (Ar (gV 1) (Ar (gV 2) Cv)))) ZBY ZCQ)) (gV 2)) (Ah (sIf (Aq (dOp M8 (dV 1) (dC .non))) (sRt (dOp Bw (dFn Dk (Ac (dV 2) Af)) (dC (.int 0)))) sNx) (sRt (dOp Ge (dFn M7 (Ac (dV 2) Af)) (dOp Aj (dV 1) (dC (.int 2)))))))
def Kw:List D->DH->R D:=Br 2 1 Zr
def Te:DS:=(sIf (dOr (Cp (Aq (dFn Og (Ac (dV 4) Af)))) (Cp (Aq (dFn Kw (Ac (dV 4) (Ac (dV 1) Af)))))) (sRt (dC (.bl vJ))) sNx)
def ZHL:DS:=(Ah (sIf (Cp (Aq (dFn Qe (Ac (dV 0) (Ac (dV 2) Af))))) (sRt (dC (.bl vJ))) sNx) (Ah (Fg (Cz (dV 0)) (Cq 2 (Ar (gV 3) (Ar (gV 4) Cv))) Te) (sRt (dC (.bl vZ)))))
def Xu:List D->DH->R D:=Br 3 2 ZHL
def Qd:DS:=(Ah (sIf (Aq (dOp Bw (dOp Aj (dV 0) (dC (.int 0))) (dC (.str "town")))) (sRt (dFn Bo (Ac (dOp Aj (dV 0) (dC (.int 4))) (Ac (dOp Aj (dV 0) (dC (.int 5))) Af)))) sNx) (Ah (sIf (Aq (dOp Bw (dOp Aj (dV 0) (dC (.int 0))) (dC (.str "mill")))) (sRt (dFn Bo (Ac (dOp Aj (dV 0) (dC (.int 4))) Af))) sNx) (Ah (sIf (Aq (dOp M8 (dOp Aj (dV 0) (dC (.int 6))) (dC .non))) (sRt (dFn Bo (Ac (dOp Aj (dV 0) (dC (.int 4))) Af))) sNx) (sRt (dFn Bo (Ac (dOp Aj (dV 0) (dC (.int 4))) (Ac (dOp Aj (dOp Aj (dV 0) (dC (.int 6))) (dC (.int 2))) Af)))))))
def Mx:List D->DH->R D:=Br 1 0 Qd
def T7:DE:=(dOp Aj (dV 0) (dC (.int 1)))
def Yk:DE:=(dOp Aj (dV 0) (dC (.int 1)))
def Pk:DS:=(sIf (Aq (dOp Bw (dOp Aj (dV 3) (dC (.int 0))) (dC (.str "basin")))) (Ah (sIf (Cp (Aq (dFn Yd (Ac (dOp Aj (dV 3) (dC (.int 6))) (Ac (dOp Ax (dV 4) (dV 5)) Af))))) Fo sNx) (sIf (Cp (Aq (dFn Xu (Ac (dOp Aj (dV 3) (dC (.int 5))) (Ac (dOp Aj (dV 3) (dC (.int 6))) (Ac (dOp Aj (dV 0) (dC (.int 0))) Af)))))) Fo sNx)) sNx)
def ZEF:DS:=(Ah (sIf (Aq (dOp Jx (dFn O5 (Ac (Bd (dFn Mx (Ac (dV 3) Af))) Af)) (dC (.int 0)))) Fo sNx) Pk)
def ZDg:DS:=(Ah (sIf (Cp (Aq (dFn Uk (Ac (dV 3) (Ac (dV 5) Af))))) Fo sNx) ZEF)
def ZGE:DS:=(Ah (sIf (dOr (Cp (Aq (dFn V6 (Ac (dOp Aj (dV 3) (dC (.int 1))) Af)))) (Aq (dOp Fx (dOp Aj (dV 3) (dC (.int 1))) (dV 4)))) Fo sNx) ZDg)
def ZEI:DS:=(Ah (sAs (Bd (De (Cz (Bd (dSl (dV 2) (xU (dOp Ax (dV 1) (dC (.int 1)))) vQ))) 1 [] (gV 0) Bp Yk)) (gV 5)) ZGE)
def ZGC:DS:=(Ah (sAs (Bd (De (Cz (Bd (dSl (dV 2) vQ (xU (dV 1))))) 1 [] (gV 0) Bp T7)) (gV 4)) ZEI)
def ZFd:DS:=(Ah (sAs (dOp Aj (dV 2) (dV 1)) (gV 3)) ZGC)
def ZEw:DS:=(Ah (sAs (dOp Aj (dV 0) (dC (.int 1))) (gV 2)) ZFd)
def Mw:List D->DH->R D:=Br 2 4 ZEw
def Pg:DS:=(sEx (dFn Mw (Ac (dV 0) (Ac (dV 2) Af))))
def ZE8:DS:=(Ah (sAs (dOp Aj (dV 0) (dC (.int 1))) (gV 1)) (Ah (sIf (dOr (Cp (Aq (Ip Ge Ge (dC (.int 1)) (dOp Aj (dV 0) (dC (.int 0))) (dC (.int 24))))) (Cp (Aq (Ip Ge Ge (dC (.int 1)) (dFn Dk (Ac (dV 1) Af)) (dC (.int 12)))))) Fo sNx) (Ah (Fg (Hy rng1 (Ac (dFn Dk (Ac (dV 1) Af)) Af)) (gV 2) Pg) (sRt (dV 0)))))
def Mu:List D->DH->R D:=Br 1 2 ZE8
def Vb:DE:=(dOp Fx (dV 0) (dC (.str "0123456789")))
def ZGT:DS:=(Ah (sIf (dOr (Cp (Aq (Ip Ge Ge (dC (.int 1)) (dFn Dk (Ac (dV 0) Af)) (dC (.int 40))))) (Cp (Aq (dFn Hj (Ac (Bd (De (Cz (dV 0)) 1 [] (gV 0) Bp Vb)) Af))))) (sRt (dC (.bl vJ))) sNx) (sRt (Sx (dOp Bw (dV 0) (dC (.str "0"))) (Uj (Du Ro (dV 0) (Ac (dC (.str "0")) Af))))))
def Uv:List D->DH->R D:=Br 1 0 ZGT
def ZGF:DS:=(Ah (sIf (Cp (Aq (dFn Uv (Ac (dV 0) Af)))) Fo sNx) (sRt (dFn Q6 (Ac (dV 0) Af))))
def Im:List D->DH->R D:=Br 2 0 ZGF
def V7:DE:=(dOp Fx (dV 0) (dC (.str "abcdefghijklmnopqrstuvwxyz")))
def ZC9:DS:=(Ah (sIf (dOr (Aq (dOp Bw (dV 0) (dC (.str "")))) (Cp (Aq (dFn Hj (Ac (Bd (De (Cz (dV 0)) 1 [] (gV 0) Bp V7)) Af))))) Fo sNx) (sRt (dV 0)))
def Ls:List D->DH->R D:=Br 2 0 ZC9
def ZAD:DS:=(Ah (sIf (Aq (dOp Bw (dV 0) (dC (.str "none")))) (sRt (dC .non)) sNx) (Ah (sAs (Bd (Du Iv (dV 0) (Ac (dC (.str ",")) Af))) (gV 2)) (Ah (sIf (Aq (dOp Ep (dFn Dk (Ac (dV 2) Af)) (dC (.int 3)))) Fo sNx) (sRt (dFn Dy (Ac (dFn Ls (Ac (dOp Aj (dV 2) (dC (.int 0))) (Ac (dV 1) Af))) (Ac (dFn Im (Ac (dOp Aj (dV 2) (dC (.int 1))) (Ac (dV 1) Af))) (Ac (dFn Im (Ac (dOp Aj (dV 2) (dC (.int 2))) (Ac (dV 1) Af))) Af))))))))
def Qj:List D->DH->R D:=Br 2 1 ZAD
def ZGX:DS:=(Ah (sAs (Du Lq (dV 0) (Ac (dC (.str "+")) Af)) (Cq 3 (Ar (gV 2) (Ar (gV 3) (Ar (gV 4) Cv))))) (Ah (sAs (Du Lq (dV 4) (Ac (dC (.str " ")) Af)) (Cq 3 (Ar (gV 5) (Ar (gV 6) (Ar (gV 7) Cv))))) (Ah (sIf (Aq (dOp Ld (dV 7) (dC (.tup [.str "river",.str "pump"])))) Fo sNx) (sRt (dFn Dy (Ac (dFn Im (Ac (dV 2) (Ac (dV 1) Af))) (Ac (dFn Im (Ac (dV 5) (Ac (dV 1) Af))) (Ac (dV 7) Af))))))))
def Xv:List D->DH->R D:=Br 2 6 ZGX
def Vk:DE:=(dFn Xv (Ac (dV 0) (Ac (dV 1) Af)))
def ZAR:DS:=(Ah (sIf (Aq (dOp Bw (dV 0) (dC (.str "")))) (sRt (dFn Dy Af)) sNx) (Ah (sIf (Cp (Aq (Du Ro (dV 0) (Ac (dC (.str " ")) Af)))) Fo sNx) (sRt (dFn Il (Ac (Bd (De (Cz (Bd (Du Iv (Bd (dSl (dV 0) (xU (dC (.int 1))) vQ)) (Ac (dC (.str ", ")) Af)))) 1 [1] (gV 0) Bp Vk)) Af)))))
def Qg:List D->DH->R D:=Br 2 0 ZAR
def ZFu:DS:=(Ah (sAs (Du Lq (dV 0) (Ac (dC (.str ":")) Af)) (Cq 3 (Ar (gV 2) (Ar (gV 3) (Ar (gV 4) Cv))))) (Ah (sIf (Aq (dOp Bw (dV 3) (dC (.str "")))) Fo sNx) (sRt (dFn Dy (Ac (dFn Im (Ac (dV 2) (Ac (dV 1) Af))) (Ac (dFn Qg (Ac (dV 4) (Ac (dV 1) Af))) Af))))))
def Tc:List D->DH->R D:=Br 2 3 ZFu
def Y6:DE:=(dFn Tc (Ac (dV 0) (Ac (dV 1) Af)))
def ZD1:DS:=(sRt (dFn Il (Ac (Bd (De (Cz (Bd (Du Iv (dV 0) (Ac (dC (.str "; ")) Af)))) 1 [1] (gV 0) Bp Y6)) Af)))
def Vi:List D->DH->R D:=Br 2 0 ZD1
def ZEa:DS:=(sRt (dOp Ax (dOp Ax (dFn Dy (Ac (dV 3) Af)) (dV 10)) (dFn Dy (Ac (dFn Im (Ac (dV 7) (Ac (dV 1) Af))) (Ac (dFn Vi (Ac (dV 9) (Ac (dV 1) Af))) (Ac (dFn Qj (Ac (dV 8) (Ac (dV 1) Af))) Af))))))
def ZG7:DS:=(Ah (sAs (dFn Dy (Ac (dFn Ls (Ac (dV 4) (Ac (dV 1) Af))) (Ac (dFn Ls (Ac (dV 5) (Ac (dV 1) Af))) (Ac (dFn Im (Ac (dV 6) (Ac (dV 1) Af))) Af)))) (gV 10)) ZEa)
def ZDB:DS:=(Ah (sAs (dV 2) (Sq 7 (Ar (gV 3) (Ar (gV 4) (Ar (gV 5) (Ar (gV 6) (Ar (gV 7) (Ar (gV 8) (Ar (gV 9) Cv))))))))) ZG7)
def ZGj:DS:=(Ah (sIf (Aq (dOp Ep (dFn Dk (Ac (dV 2) Af)) (dC (.int 7)))) Fo sNx) ZDB)
def ZGJ:DS:=(Ah (sAs (Bd (Du Oq (dV 0) (Ac (dC (.str " ")) (Ac (dOp Lg (dC (.int 7)) (dC (.int 1))) Af)))) (gV 2)) ZGj)
def Wt:List D->DH->R D:=Br 2 9 ZGJ
def Wb:DE:=(dFn Im (Ac (dV 0) (Ac (dV 1) Af)))
def ZDH:DS:=(Ah (sAs (dFn Dy (Ac (dFn Ls (Ac (dOp Aj (dV 0) (dC (.int 1))) (Ac (dV 1) Af))) (Ac (dFn Ls (Ac (dOp Aj (dV 0) (dC (.int 2))) (Ac (dV 1) Af))) Af))) (gV 2)) (sRt (dOp Ax (dOp Ax (dFn Dy (Ac (dOp Aj (dV 0) (dC (.int 0))) Af)) (dV 2)) (dFn Il (Ac (Bd (De (Cz (Bd (dSl (dV 0) (xU (dC (.int 3))) vQ))) 1 [1] (gV 0) Bp Wb)) Af)))))
def Pu:List D->DH->R D:=Br 2 1 ZDH
def ZEW:DS:=(Ah (sAs (Bd (Du Iv (dV 0) (Ac (dC (.str " ")) Af))) (gV 3)) (Ah (sIf (Aq (dOp Ep (dFn Dk (Ac (dV 3) Af)) (dV 1))) Fo sNx) (sRt (dV 3))))
def Nx:List D->DH->R D:=Br 3 1 ZEW
def Ug:DS:=(Ah (sAs (dOp Aj (Du Lq (dV 0) (Ac (dC (.str " ")) Af)) (dC (.int 0))) (gV 2)) (Ah (sIf (Aq (dOp Bw (dV 2) (dC (.str "basin")))) (sRt (dFn Wt (Ac (dV 0) (Ac (dV 1) Af)))) sNx) (Ah (sIf (Aq (dOp Bw (dV 2) (dC (.str "town")))) (sRt (dFn Pu (Ac (Bd (dFn Nx (Ac (dV 0) (Ac (dC (.int 6)) (Ac (dV 1) Af))))) (Ac (dV 1) Af)))) sNx) (Ah (sIf (Aq (dOp Bw (dV 2) (dC (.str "mill")))) (sRt (dFn Pu (Ac (Bd (dFn Nx (Ac (dV 0) (Ac (dC (.int 5)) (Ac (dV 1) Af))))) (Ac (dV 1) Af)))) sNx) Fo))))
def Nh:List D->DH->R D:=Br 2 1 Ug
def ZEb:DS:=(Ah (sAs (Bd (dFn Nx (Ac (dV 0) (Ac (dC (.int 2)) (Ac (dC (.int 0)) Af))))) (gV 1)) (Ah (sIf (Aq (dOp Ep (dOp Aj (dV 1) (dC (.int 0))) (dC (.str "year")))) Fo sNx) (sRt (dFn Im (Ac (dOp Aj (dV 1) (dC (.int 1))) (Ac (dC (.int 0)) Af))))))
def Tj:List D->DH->R D:=Br 1 1 ZEb
def Uo:DE:=(dFn Nh (Ac (dV 1) (Ac (dV 0) Af)))
def ZFH:DS:=(Ah (sAs (Bd (Du Iv (dV 0) (Ac (dC (.str "\n")) Af))) (gV 1)) (Ah (sAs (dFn Tj (Ac (dOp Aj (dV 1) (dC (.int 0))) Af)) (gV 2)) (Ah (sAs (Bd (De (ZB8 (Ac (Bd (dSl (dV 1) (xU (dC (.int 1))) vQ)) Af) (dC (.int 1))) 2 [] (Cq 2 (Ar (gV 0) (Ar (gV 1) Cv))) Bp Uo)) (gV 3)) (sRt (dFn Mu (Ac (dFn Dy (Ac (dV 2) (Ac (dFn Il (Ac (dV 3) Af)) Af))) Af))))))
def Ws:List D->DH->R D:=Br 1 3 ZFH
def ZFT:DE:=(dFn Kg (Ac (dV 0) Af))
def ZCc:DS:=(Ah (sIf (Aq (dOp M8 (dV 0) (dC .non))) (sRt (dC (.str "none"))) sNx) (sRt (Du Ez (dC (.str ",")) (Ac (Bd (De (Cz (dV 0)) 1 [] (gV 0) Bp ZFT)) Af))))
def Ot:List D->DH->R D:=Br 1 0 ZCc
def Tu:DE:=(dJp Str.empty [(dFv (dV 0)),(dC (.str "+")),(dFv (dV 1)),(dC (.str " ")),(dFv (dV 2))])
def ZCY:DS:=(Ah (sIf (Aq (dOp Bw (dFn Dk (Ac (dV 1) Af)) (dC (.int 0)))) (sRt (dJp Str.empty [(dFv (dV 0)),(dC (.str ":"))])) sNx) (Ah (sAs (Du Ez (dC (.str ", ")) (Ac (Bd (De (Cz (dV 1)) 3 [] (Cq 3 (Ar (gV 0) (Ar (gV 1) (Ar (gV 2) Cv)))) Bp Tu)) Af)) (gV 2)) (sRt (dJp Str.empty [(dFv (dV 0)),(dC (.str ": ")),(dFv (dV 2))]))))
def Rz:List D->DH->R D:=Br 2 1 ZCY
def Ub:DE:=(dFn Rz (Ac (dV 0) (Ac (dV 1) Af)))
def ZGn:DS:=(sRt (Du Ez (dC (.str "; ")) (Ac (Bd (De (Cz (dV 0)) 2 [] (Cq 2 (Ar (gV 0) (Ar (gV 1) Cv))) Bp Ub)) Af)))
def Xm:List D->DH->R D:=Br 1 0 ZGn
def ZCA:DE:=(dFn Kg (Ac (dV 0) Af))
def ZAV:DS:=(sRt (dJp Str.empty [(dFv (dV 1)),(dC (.str " ")),(dFv (dV 2)),(dC (.str " ")),(dFv (dV 3)),(dC (.str " ")),(dFv (dV 4)),(dC (.str " ")),(dFv (dV 5)),(dC (.str " ")),(dFv (dV 8)),(dC (.str " ")),(dFv (dV 9))]))
def ZF5:DS:=(Ah (sAs (dFn Xm (Ac (dV 6) Af)) (gV 9)) ZAV)
def ZEu:DS:=(Ah (sAs (dFn Ot (Ac (dV 7) Af)) (gV 8)) ZF5)
def ZEo:DS:=(Ah (sAs (dV 0) (Cq 7 (Ar (gV 1) (Ar (gV 2) (Ar (gV 3) (Ar (gV 4) (Ar (gV 5) (Ar (gV 6) (Ar (gV 7) Cv))))))))) ZEu)
def Yg:DS:=(Ah (sIf (Aq (dOp Ep (dOp Aj (dV 0) (dC (.int 0))) (dC (.str "basin")))) (sRt (Du Ez (dC (.str " ")) (Ac (Bd (De (Cz (dV 0)) 1 [] (gV 0) Bp ZCA)) Af))) sNx) ZEo)
def Oa:List D->DH->R D:=Br 1 9 Yg
def Qq:DE:=(dFn Oa (Ac (dV 0) Af))
def ZCz:DS:=(Ah (sAs (dOp Aj (dV 0) (dC (.int 0))) (gV 1)) (sRt (Du Ez (dC (.str "\n")) (Ac (Bd (dOp Ax (Bd (dFn Bo (Ac (dJp Str.empty [(dC (.str "year ")),(dFv (dV 1))]) Af))) (Bd (De (Cz (dOp Aj (dV 0) (dC (.int 1)))) 1 [] (gV 0) Bp Qq)))) Af))))
def S6:List D->DH->R D:=Br 1 1 ZCz
def ZDX:DS:=(Ah (sAs (Du Ez (dC (.str "\n")) (Ac (Bd (dFn Vo (Ac (dV 0) Af))) Af)) (gV 1)) (Ah (sAs (dFn S6 (Ac (dV 0) Af)) (gV 2)) (Ah (sIf (dOr (Cp (Aq (dFn Dm (Ac (dV 2) (Ac (dC (.ty "str")) Af))))) (Aq (dOp Ep (dV 2) (dV 1)))) (sRt (dC (.bl vJ))) sNx) (Ah (sAs (dFn Ws (Ac (dV 1) Af)) (gV 3)) (sRt (Lp (dFn Y5 (Ac (dV 3) (Ac (dV 0) Af))) (dOp Bw (dFn S6 (Ac (dV 3) Af)) (dV 1))))))))
def Nr:List D->DH->R D:=Br 1 3 ZDX
def ZDk:DS:=(sRt (dFn Nr (Ac (dV 1) Af)))
def ZDW:DS:=(Ah (sIf (dOr (Cp (Aq (dFn Nr (Ac (dV 1) Af)))) (Cp (Aq (dFn Nr (Ac (dV 2) Af))))) (sRt (dC (.bl vJ))) sNx) ZDk)
def ZF6:DS:=(Ah (sAs (dFn K3 (Ac (dV 0) (Ac (dC (.int 15)) Af))) (gV 2)) ZDW)
def ZGV:DS:=(Ah (sAs (dFn K3 (Ac (dV 0) (Ac (dC (.int 0)) Af))) (gV 1)) ZF6)
def Mm:List D->DH->R D:=Br 1 2 ZGV
def Holds:Prop:=∀ns:List Int,ns.length<=63->(∀m∈ns,m.natAbs.log2<1048576)->∃G,Mm [.fl (ns.map D.int)] []=.ok (.bl vZ) G
end _W
namespace _W
open PySem _L _D
variable{ns xs:List Int}{G:DH}{ds:List D}{k a i b m c d:Nat}{q:Option (Nat×Nat×Int)}{α:Type}{l l' L sep w:List Nat}{s x z:Str}{ls:List (List Nat)}{cell big yr y:Int}{te:DE}{S:DSt}{lo hi:Option Int}{nm:List Str}{r:D}
noncomputable def cellAt(ns:List Int)(k:Int):Int:=ns.getD k.toNat 0
theorem Ur{k:Int}(hk:0<=k):Jo [.fl (ns.map D.int),.int k] G=.ok (.int (cellAt ns k)) G:=by
 unfold Jo ZFU cellAt;rw[Be];by_cases h:k<ns.length
 ·simp[h];rw[Gh (d:=D.int (ns[k.toNat]'(by lia))) (k:=k.toNat) (by lia) (by rw[zR,zY (by lia)];rfl)];simp[Bh,zY (show k.toNat<ns.length by lia)]
 ·simp[h,Bh,zU (show ns.length<=k.toNat by lia)]
noncomputable def tab(n:Nat)(F:Nat->Int):List D:=(zv n).map λi=>D.int (F i)
theorem ZCX{A:DO}{L:DH}(h:bels (G.length+1) ds=vZ):freeze (G++[A]) (.ok (.ref (G.length+1)) (G++A:: .lst ds::L))=.ok (.fl ds) (G++[A]):=by have:=Ce (G:=G++[A]) (ds:=ds) (L:=L) (by simpa using h);simpa using this
theorem ZIq{A:DO}{L:DH}(h:bels (G.length+1) ds=vZ):tidy (G++[A]) (.ok (.ref (G.length+1)) (G++A:: .lst ds::L))=.ok (.ref (G.length+1)) (G++[A,.lst ds]):=by have:=Fp (G:=G++[A]) (ds:=ds) (L:=L) (by simpa using h);simpa using this
theorem pr:¬(("river":Str)="pump"):=by decide
structure Stp where
 h:Int
 m:Int
 r:Bool
variable{st:List Stp}
def wy(r:Bool):Str:=if r then "river" else "pump"
def Stp.enc(s:Stp):D:=.tup [.int s.h,.int s.m,.str (wy s.r)]
@[simp]theorem ZBm{n:Nat}:bels n (st.map Stp.enc)=vZ:=Gs λs _=>by simp[Stp.enc]
@[simp]theorem ZPN{r:Bool}:(wy r="pump")=(r=vJ):=by
 cases r
 ·exact propext ⟨λh=>rfl,λ_=>rfl⟩
 ·exact propext ⟨λh=>absurd h pr,λh=>by cases h⟩
noncomputable abbrev Ssn:=Int×List Stp
variable{ss:List Ssn}
def Ay(s:Ssn):D:=.tup [.int s.1,.tup (s.2.map Stp.enc)]
@[simp]theorem ZDN{n:Nat}:bels n (ss.map Ay)=vZ:=Gs λs _=>by simp[Ay]
inductive Kd where
 |basin (brim:Int) (rule:List Ssn) (pump:Option (Nat×Nat×Int))
 |town (need rank:Int)
 |mill (most:Int)
structure Pl where
 nm:Str
 dn:Option Nat
 dl:Nat
 kd:Kd
variable{p:Pl}
noncomputable def noPl:Pl:=⟨"",vQ,0,.mill 0⟩
structure Hs where
 yr:Int
 ps:List Pl
variable{h:Hs}
noncomputable def Kd.txt:Kd->Str
 |.basin ..=>"basin"
 |.town ..=>"town"
 |.mill ..=>"mill"
noncomputable def Kd.isB:Kd->Bool
 |.basin ..=>vZ
 |_=>vJ
def Hs.pl(h:Hs)(k:Nat):Pl:=h.ps.getD k noPl
noncomputable def Hs.n(h:Hs):Nat:=h.ps.length
def Hs.dnT(h:Hs):Option Nat->Str
 |none=>"sea"
 |some d=>(h.pl d).nm
def Hs.Dh(h:Hs):Option (Nat×Nat×Int)->D
 |none=>.non
 |some (to,dl,m)=>.tup [.str (h.pl to).nm,.int dl,.int m]
def Hs.encP(h:Hs)(p:Pl):D:=match p.kd with
 |.basin b r q=>.tup [.str "basin",.str p.nm,.str (h.dnT p.dn),.int p.dl,.int b,.tup (r.map Ay),h.Dh q]
 |.town a b=>.tup [.str "town",.str p.nm,.str (h.dnT p.dn),.int p.dl,.int a,.int b]
 |.mill a=>.tup [.str "mill",.str p.nm,.str (h.dnT p.dn),.int p.dl,.int a]
def Hs.Dq(h:Hs):List D:=h.ps.map h.encP
def Hs.enc(h:Hs):D:=.tup [.int h.yr,.tup h.Dq]
def Good:Int->List Stp->Prop
 |_,[]=>True
 |t,s::r=>t<=s.h/\1<=s.m/\Good (s.h+s.m) r
structure GoodH (h:Hs):Prop where
 yr:0<h.yr
 len:h.n<=12
 inj:∀i j,i<h.n->j<h.n->(h.pl i).nm=(h.pl j).nm->i=j
 sea:∀i,i<h.n->(h.pl i).nm≠"sea"
 dn:∀k d,k<h.n->(h.pl k).dn=xU d->k<d/\d<h.n
 dl:∀k,k<h.n->(h.pl k).dl<=5
 pump:∀k b r to dl m,k<h.n->(h.pl k).kd=.basin b r (xU (to,dl,m))->to<h.n/\1<=dl/\dl<=5
 brim:∀k b r q,k<h.n->(h.pl k).kd=.basin b r q->0<=b/\∀s∈r,Good 0 s.2
 town:∀k a b,k<h.n->(h.pl k).kd=.town a b->0<=a/\0<=b
theorem Hs.Vd:h.Dq.length=h.n:=by simp[Hs.Dq,Hs.n]
theorem Hs.ZJY(hk:k<h.n):h.Dq[k]?=xU (h.encP (h.pl k)):=by unfold Hs.Dq Hs.pl;rw[zR,zY hk];simp[zF,zY hk]
theorem Hs.ZEQ(hk:k<h.n):atI h.Dq (k:Int)=xU (h.encP (h.pl k)):=Gh rfl (Hs.ZJY hk)
theorem Hs.ZK2{n:Nat}:bel n (h.Dh q)=vZ:=by
 cases q with
 |none=>rfl
 |some x=>obtain⟨a,b,c⟩:=x;simp[Hs.Dh]
@[simp]theorem Hs.R8{n:Nat}:bel n (h.encP p)=vZ:=by
 unfold Hs.encP
 cases p.kd<;>simp[Hs.ZK2]
@[simp]theorem Hs.ZIt{n:Nat}:bels n h.Dq=vZ:=Gs λ_ _=>Hs.R8
@[simp]theorem Hs.ZJ3{n:Nat}:bel n h.enc=vZ:=by simp[Hs.enc]
section
variable{h:Hs}{p:Pl}{G:DH}
@[simp]theorem encP0:Aj (h.encP p) (.int 0) G=.ok (.str p.kd.txt) G:=by
 unfold Hs.encP
 cases p.kd<;>simp[Kd.txt]
@[simp]theorem encP1:Aj (h.encP p) (.int 1) G=.ok (.str p.nm) G:=by
 unfold Hs.encP
 cases p.kd<;>simp
@[simp]theorem encP2:Aj (h.encP p) (.int 2) G=.ok (.str (h.dnT p.dn)) G:=by
 unfold Hs.encP
 cases p.kd<;>simp
@[simp]theorem encP3:Aj (h.encP p) (.int 3) G=.ok (.int p.dl) G:=by
 unfold Hs.encP
 cases p.kd<;>simp
theorem Oo:Aj h.enc (.int 1) G=.ok (.tup h.Dq) G:=by unfold Hs.enc;simp
theorem Sh:Aj h.enc (.int 0) G=.ok (.int h.yr) G:=by unfold Hs.enc;simp
theorem ZAr{k:Kd}:(k.txt="basin")=(k.isB=vZ):=by cases k<;>simp[Kd.txt,Kd.isB]<;>decide
end
theorem Mj{xs:List α}(h:a<=xs.length):cutD xs vQ (xU (a:Int))=xs.take a:=by
 have:=(Jg xs.length (a:Int)).1;have e:HT.sIx xs.length xs.length (xU (a:Int))=a:=by lia
 unfold cutD;rw[e];simp[HT.sIx]
theorem Ln{xs:List α}(h:a<=xs.length):cutD xs (xU (a:Int)) vQ=xs.drop a:=by
 have:=(Jg xs.length (a:Int)).2;have e:HT.sIx xs.length 0 (xU (a:Int))=a:=by lia
 unfold cutD;rw[e];simp only[HT.sIx];exact qw (by simp)
noncomputable def Aa(l:List Nat):Str:=⟨l.toArray⟩
@[simp]theorem Ij:(Aa l).cps.toList=l:=by simp[Aa]
@[simp]theorem Dp:(Aa l).length=l.length:=by simp[Aa,Str.length]
theorem Vh:Aa l++Aa l'=Aa (l++l'):=by show Str.append _ _=_;unfold Str.append Aa;simp
theorem ZMm:s=Aa s.cps.toList:=_D.Rb (by simp)
theorem ZN1:(Aa l=Aa l')=(l=l'):=propext ⟨λh=>by have h1:=congrArg (λs:Str=>s.cps.toList) h;simpa using h1,λh=>by rw[h]⟩
theorem Hn{S:List Nat}:StrLaws.At (Aa L) (Aa S) (Aa L).length i↔i+S.length<=L.length/\(L.drop i).take S.length=S:=by unfold StrLaws.At;rw[StrLaws.subAt_eq,Ij,Ij,Dp,Dp];simp
theorem Lk:Builtin.Str.strSub (Aa L) a b=Aa ((L.drop a).take (b-a)):=_D.Rb (by rw[StrLaws.strSub_toList];simp)
theorem Sy{r s:List Nat}(hi:i<l.length)(h:((l++r).drop i).take (m+1)=c::s):c∈l:=by rw[List.drop_append_of_le_length (by lia),zI hi,List.cons_append,jQ]at h;have:=(List.cons.inj h).1;rw[<-this];exact qJ hi
theorem ZLR{p q:List Nat}(hp:c∉p):Txt.partition (Aa (p++c::q)) (Aa [c])=(Aa p,Aa [c],Aa q):=by
 have hat:StrLaws.At (Aa (p++c::q)) (Aa [c]) (Aa (p++c::q)).length p.length:=Hn.mpr ⟨by simp,by simp⟩;have hno:∀k,k<p.length->¬StrLaws.At (Aa (p++c::q)) (Aa [c]) (Aa (p++c::q)).length k:=λk hk h=>by exact hp (Sy hk (Hn.mp h).2)
 rcases PyProof.Rows.partition_whole (Aa (p++c::q)) (Aa [c])with⟨_,h⟩|⟨i,e,h,hn⟩
 ·exact absurd hat (h _)
 ·have hi:i=p.length:=by
   rcases qO i p.length with z|z|z
   ·exact absurd h (hno i z)
   ·exact z
   ·exact absurd hat (hn _ z)
  subst hi;rw[e,Lk,Lk,Dp,Dp];have e1:((p++c::q).drop 0).take (p.length-0)=p:=by simp
  have e2:((p++c::q).drop (p.length + [c].length)).take ((p++c::q).length-(p.length + [c].length))=q:=by
   have e3:(p++c::q).drop (p.length + [c].length)=q:=by
    rw[<-qZ,List.drop_append_of_le_length (zW _),List.drop_length]
    rfl
   rw[e3];exact qw (by simp;lia)
  rw[e1,e2]
theorem ZGs:∀(ls:List (List Nat))(l:List Nat)(a f:Nat)(cuts:List Nat),(∀x∈l::ls,c∉x)->L.drop a=Ai [c,d] (l::ls)->a<=L.length->
  StrLaws.ChainG (Aa L) (Aa [c,d]) (Aa L).length a cuts f->(∀k,f<=k->¬StrLaws.At (Aa L) (Aa [c,d]) (Aa L).length k)->StrLaws.partsFrom (Aa L) 2 a cuts=(l::ls).map Aa
 | [],l,a,f,cuts,hc,hd,ha,hch,hn=>by
  have hj:Ai [c,d] [l]=l:=rfl;rw[hj]at hd;have hno:∀k,a<=k->¬StrLaws.At (Aa L) (Aa [c,d]) (Aa L).length k:=λk hk h=>by
   have h1:=(Hn.mp h).2;have e:L.drop k=(L.drop a).drop (k-a):=by rw[qZ];congr 1;lia
   rw[e,hd]at h1;cases hq:l.drop (k-a)with
   |nil=>rw[hq]at h1;cases h1
   |cons x r=>
    rw[hq]at h1;simp at h1;exact hc l (by simp) (h1.1▸q9 (hq▸zy ..))
  cases cuts with
  |nil=>
   show[Builtin.Str.strSub (Aa L) a (Aa L).length]=[Aa l];rw[Lk,Dp,hd]
   congr 2
   have:l.length=L.length-a:=by rw[<-hd];simp
   exact qw (by lia)
  |cons k r=>exact absurd hch.2.1 (hno k hch.1)
 | l'::ls,l,a,f,cuts,hc,hd,ha,hch,hn=>by
  have hj:Ai [c,d] (l::l'::ls)=l++[c,d]++Ai [c,d] (l'::ls):=rfl;rw[hj]at hd;have hlen:L.length=a+(l.length+2+(Ai [c,d] (l'::ls)).length):=by have:=congrArg qj hd;simp at this;lia
  have e1:L.drop (a+l.length)=[c,d]++Ai [c,d] (l'::ls):=by rw[<-qZ,hd];simp
  have hat:StrLaws.At (Aa L) (Aa [c,d]) (Aa L).length (a+l.length):=Hn.mpr ⟨by simp;lia,by rw[e1];simp⟩;have hno:∀k,a<=k->k<a+l.length->¬StrLaws.At (Aa L) (Aa [c,d]) (Aa L).length k:=λk h1 h2 h=>by
   have h3:=(Hn.mp h).2;have e:L.drop k=(L.drop a).drop (k-a):=by rw[qZ];congr 1;lia
   have hk:k-a<l.length:=by lia
   rw[e,hd,zT]at h3;exact hc l (by simp) (Sy hk h3)
  cases cuts with
  |nil=>
   have hf:f=a:=hch;exact absurd hat (hn _ (by lia))
  | cons k r=>
   obtain⟨h1,h2,h3,h4⟩:=hch;have hk:k=a+l.length:=by
    rcases qO k (a+l.length)with z|z|z
    ·exact absurd h2 (hno k h1 z)
    ·exact z
    ·exact absurd hat (h3 _ (by lia) z)
   subst hk;have h4':StrLaws.ChainG (Aa L) (Aa [c,d]) (Aa L).length (a+l.length+2) r f:=h4;have ih:=ZGs ls l' (a+l.length+2) f r (λx hx=>hc x (zZ _ hx)) (by rw[<-qZ,e1];simp) (by lia) h4' hn;show Builtin.Str.strSub (Aa L) a (a+l.length)::StrLaws.partsFrom (Aa L) 2 (a+l.length+2) r=Aa l::_;rw[ih,Lk,hd]
   congr 2
   rw[show a+l.length-a=l.length by lia,zT,qM (zW _),q0]
theorem ZL5(hc:∀x∈l::ls,c∉x)(hcd:c<256/\d<256):Txt.split (Aa (Ai [c,d] (l::ls))) (Aa [c,d])=(l::ls).map Aa:=by
 have key:=StrLaws.occ_tight (Aa (Ai [c,d] (l::ls))) (Aa [c,d]) (by simp);obtain⟨f,h1,h2⟩:=key;have hp:=ZGs (c:=c) (d:=d) (L:=Ai [c,d] (l::ls)) ls l 0 f _ hc rfl (by lia) h1 h2;cases ls with
 | nil=>
  have hj:Ai [c,d] [l]=l:=rfl;rw[hj]at*;unfold Txt.split;split
  ·rfl
  ·split
   ·rfl
   ·rw[StrLaws.partsBetween_eq];exact hp
 | cons l' ls=>
  have hat:StrLaws.At (Aa (Ai [c,d] (l::l'::ls))) (Aa [c,d]) (Aa (Ai [c,d] (l::l'::ls))).length l.length:=Hn.mpr (by have hj:Ai [c,d] (l::l'::ls)=l++[c,d]++Ai [c,d] (l'::ls):=rfl;rw[hj];exact⟨by simp,by simp⟩)
  unfold Txt.split;rw[if_neg,if_neg]
  ·rw[StrLaws.partsBetween_eq];exact hp
  ·intro he;have h0:Builtin.Str.occurrences (Aa (Ai [c,d] (l::l'::ls))) (Aa [c,d]) 0 (Aa (Ai [c,d] (l::l'::ls))).length ((Aa (Ai [c,d] (l::l'::ls))).length+1)=[]:=jv.mp he;rw[h0]at h1;have hf:f=0:=h1;exact h2 l.length (by lia) hat
  ·have hk:Builtin.Str.strKind (Aa [c,d])=1:=by unfold Builtin.Str.strKind Aa;rw[if_pos];simp[hcd.1,hcd.2]
   have hk2:1<=Builtin.Str.strKind (Aa (Ai [c,d] (l::l'::ls))):=by
    unfold Builtin.Str.strKind;split
    ·exact zW _
    ·split <;> lia
   have hl:=hat.1;rw[hk];simp only[j4,decide_eq_true_eq,not_or];lia
theorem ZJ8:Txt.join (Aa sep) (ls.map Aa)=Aa (Ai sep ls):=_D.Rb (by
 rw[ZHN,Ij,Ij,qk]
 congr 1
 have:((λx:Str=>x.cps.toList)∘Aa)=id:=by funext l;simp
 rw[this,List.map_id])
theorem Qf{sep:List Nat}{B:Nat}:∀(ls:List (List Nat)),(∀l∈ls,l.length<=B)->(Ai sep ls).length<=ls.length*(B+sep.length)
 |[],_=>by simp[Ai]
 |[x],h=>by have:=h x (by simp);show x.length<=1*(B+sep.length);lia
 |x::y::r,h=>by
  have h1:=h x (by simp);have ih:=Qf (sep:=sep) (y::r) λl hl=>h l (zZ _ hl)
  show(x++sep++Ai sep (y::r)).length<=(y::r).length.succ*(B+sep.length);rw[zG,zG,Nat.succ_mul];lia
def num(n:Int):List Nat:=(qF 10 n.toNat).map Char.toNat
theorem ZE7{n:Int}(h:0<=n):Str.ofString (toString n)=Aa (num n):=by obtain⟨m,rfl⟩:=Int.eq_ofNat_of_zero_le h;refine _D.Rb ?_;rw[Ij];exact PySem.W.KIN.signs_num m
theorem ZAC{n:Int}:∀c∈num n,48<=c/\c<=57:=λc hc=>by
 obtain⟨ch,hch,e⟩:=zw.mp hc;have r:=Nat.isDigit_of_mem_toDigits (by decide) (by decide) hch;rw[<-e];have h1:48<=ch.toNat/\ch.toNat<=57:=by unfold Char.isDigit at r;simp at r;exact⟨r.1,r.2⟩
 exact h1
theorem ZLS(n:Nat):NumText.digitsVal (num n)=n:=by unfold num;exact PySem.W.KIN.val_back n
theorem Z7(h:¬m<10):qF 10 m=qF 10 (m/10)++[Nat.digitChar (m%10)]:=by have hm:m%10<10:=Nat.mod_lt m (by decide);have t:qF 10 (m/10)++qF 10 (m%10)=qF 10 (10*(m/10)+m%10):=Nat.toDigits_append_toDigits (by decide) (by lia) hm;rw[Nat.div_add_mod]at t;rw[<-t,qI hm]
theorem ZDC:∀(k m:Nat),1<=k->m<10^k->(qF 10 m).length<=k
 |0,m,h,_=>by lia
 | k+1,m,_,h=>by
  by_cases hm:m<10
  ·rw[qI hm];simp
  ·rw[Z7 hm,zG];have hk:1<=k:=by
    cases k with
    |zero=>lia
    |succ k=>lia
   have h1:m/10<10^k:=by rw[Nat.pow_succ]at h;lia
   have:=ZDC k (m/10) hk h1;simp;lia
theorem ZNL(m:Nat):qF 10 m≠[]:=by
 by_cases hm:m<10
 ·rw[qI hm];simp
 ·rw[Z7 hm];simp
theorem ZOH:∀d:Nat,d<10->(Nat.digitChar d).toNat=48+d:=by decide
theorem ZIQ(m:Nat):m≠0->∃c r,qF 10 m=c::r/\c.toNat≠48:=by
 induction m using Nat.strongRecOn with
 |_ m ih=>
  intro h0;by_cases hm:m<10
  ·rw[qI hm];refine⟨_,[],rfl,?_⟩;rw[ZOH m hm];lia
  ·obtain⟨c,r,e,hc⟩:=ih (m/10) (by lia) (by lia);rw[Z7 hm,e];exact⟨c,r++[Nat.digitChar (m%10)],rfl,hc⟩
theorem ZDh{n:Int}:num n≠[]:=by unfold num;intro e;exact ZNL _ (List.map_eq_nil_iff.mp e)
theorem Fw{n:Int}(h1:n<10^40):(num n).length<=40:=by
 unfold num;rw[zK];refine ZDC 40 n.toNat (by decide) ?_;have h2:(10:Int)^40=((10^40:Nat):Int):=by decide
 rw[h2]at h1;have h3:0<10^40:=by decide
 generalize 10^40=N at*;lia
theorem ZOl{n:Int}(h0:0<=n):n=0∨∃c r,num n=c::r/\c≠48:=by
 by_cases h:n=0
 ·exact .inl h
 ·obtain⟨c,r,e,hc⟩:=ZIQ n.toNat (by lia);refine .inr ⟨c.toNat,r.map Char.toNat,?_,hc⟩;unfold num;rw[e]
  rfl
theorem ZNU{n:Int}(h0:0<=n)(h1:n<10^40):PySem.intText? (Aa (num n))=xU n:=by have hl:=Fw h1;have:=intText_digits (x:=Aa (num n)) (by rw[Ij];exact ZAC) (by rw[Ij];exact ZDh) (by rw[Dp];lia);rw[Ij]at this;rw[this];obtain⟨m,rfl⟩:=Int.eq_ofNat_of_zero_le h0;rw[ZLS]
theorem ZD7{n:Int}(h0:0<=n)(h1:n<10^40):n.natAbs.log2<1920:=by
 by_cases hz:n.natAbs=0
 ·rw[hz];decide
 ·rw[Nat.log2_lt hz];have h2:(10:Int)^40=((10^40:Nat):Int):=by decide
  have h3:(10:Nat)^40<2^200:=by decide
  have h4:(2:Nat)^200<=2^1920:=Nat.pow_le_pow_right (by decide) (by decide);rw[h2]at h1;have h5:n.natAbs<10^40:=by generalize 10^40=N at*;lia
  exact zV (Nat.lt_trans h5 h3) h4
theorem Ib{n:Int}(h0:0<=n)(h1:n<10^40)(G:DH):Gy [.int n] G=.ok (.str (Aa (num n))) G:=by
 have e:Gy [.int n] G=if n.natAbs.log2<1920 then .ok (.str (Str.ofString (toString n))) G else .bad:=rfl
 rw[e,if_pos (ZD7 h0 h1),ZE7 h0]
theorem Ma{n:Int}(h0:0<=n)(h1:n<10^40):Hu (.int n)=xU (Aa (num n)):=by
 have e:Hu (.int n)=if n.natAbs.log2<1920 then xU (Str.ofString (toString n))else vQ:=rfl
 rw[e,if_pos (ZD7 h0 h1),ZE7 h0]
theorem Vu(h:l.length<=1000000):Hu (.str (Aa l))=xU (Aa l):=if_pos (by rw[Dp];exact h)
theorem ZNY:∀c∈qQ 48 10,inD (sgn c) (.str ("0123456789":Str)) []=xU vZ:=by decide +kernel
theorem ZNa(h1:48<=c)(h2:c<=57)(G:DH):Fx (sgn c) (.str ("0123456789":Str)) G=.ok (.bl vZ) G:=by have h:=ZNY c (jK.mpr ⟨h1,by lia⟩);have e:inD (sgn c) (.str ("0123456789":Str)) G=inD (sgn c) (.str ("0123456789":Str)) []:=rfl;unfold Fx;rw[e,h]
theorem ZF8{x:Nat}:Txt.startswith (Aa (c::l)) (Aa [x])=decide (c=x):=by
 unfold Txt.startswith;rw[StrLaws.subAt_eq,Ij,Ij,Dp,Dp];by_cases h:c=x
 ·subst h;simp
 ·simp[h]
theorem ZE3:∀(ls:List (List Nat))(l:List Nat)(a f:Nat)(cuts:List Nat),(∀x∈l::ls,c∉x)->L.drop a=Ai [c] (l::ls)->a<=L.length->
  StrLaws.ChainG (Aa L) (Aa [c]) (Aa L).length a cuts f->(∀k,f<=k->¬StrLaws.At (Aa L) (Aa [c]) (Aa L).length k)->StrLaws.partsFrom (Aa L) 1 a cuts=(l::ls).map Aa
 | [],l,a,f,cuts,hc,hd,ha,hch,hn=>by
  have hj:Ai [c] [l]=l:=rfl;rw[hj]at hd;have hno:∀k,a<=k->¬StrLaws.At (Aa L) (Aa [c]) (Aa L).length k:=λk hk h=>by
   have h1:=(Hn.mp h).2;have e:L.drop k=(L.drop a).drop (k-a):=by rw[qZ];congr 1;lia
   rw[e,hd]at h1;cases hq:l.drop (k-a)with
   |nil=>rw[hq]at h1;cases h1
   |cons x r=>
    rw[hq]at h1;simp at h1;exact hc l (by simp) (h1▸q9 (hq▸zy ..))
  cases cuts with
  |nil=>
   show[Builtin.Str.strSub (Aa L) a (Aa L).length]=[Aa l];rw[Lk,Dp,hd]
   congr 2
   have:l.length=L.length-a:=by rw[<-hd];simp
   exact qw (by lia)
  |cons k r=>exact absurd hch.2.1 (hno k hch.1)
 | l'::ls,l,a,f,cuts,hc,hd,ha,hch,hn=>by
  have hj:Ai [c] (l::l'::ls)=l++[c]++Ai [c] (l'::ls):=rfl;rw[hj]at hd;have hlen:L.length=a+(l.length+1+(Ai [c] (l'::ls)).length):=by have:=congrArg qj hd;simp at this;lia
  have e1:L.drop (a+l.length)=[c]++Ai [c] (l'::ls):=by rw[<-qZ,hd];simp
  have hat:StrLaws.At (Aa L) (Aa [c]) (Aa L).length (a+l.length):=Hn.mpr ⟨by simp;lia,by rw[e1];simp⟩;have hno:∀k,a<=k->k<a+l.length->¬StrLaws.At (Aa L) (Aa [c]) (Aa L).length k:=λk h1 h2 h=>by
   have h3:=(Hn.mp h).2;have e:L.drop k=(L.drop a).drop (k-a):=by rw[qZ];congr 1;lia
   have hk:k-a<l.length:=by lia
   rw[e,hd,zT]at h3;exact hc l (by simp) (Sy hk h3)
  cases cuts with
  |nil=>
   have hf:f=a:=hch;exact absurd hat (hn _ (by lia))
  | cons k r=>
   obtain⟨h1,h2,h3,h4⟩:=hch;have hk:k=a+l.length:=by
    rcases qO k (a+l.length)with z|z|z
    ·exact absurd h2 (hno k h1 z)
    ·exact z
    ·exact absurd hat (h3 _ (by lia) z)
   subst hk;have h4':StrLaws.ChainG (Aa L) (Aa [c]) (Aa L).length (a+l.length+1) r f:=h4;have ih:=ZE3 ls l' (a+l.length+1) f r (λx hx=>hc x (zZ _ hx)) (by rw[<-qZ,e1];simp) (by lia) h4' hn;show Builtin.Str.strSub (Aa L) a (a+l.length)::StrLaws.partsFrom (Aa L) 1 (a+l.length+1) r=Aa l::_;rw[ih,Lk,hd]
   congr 2
   rw[show a+l.length-a=l.length by lia,zT,qM (zW _),q0]
theorem ZMC(hc:∀x∈l::ls,c∉x)(hcd:c<256):Txt.split (Aa (Ai [c] (l::ls))) (Aa [c])=(l::ls).map Aa:=by
 have key:=StrLaws.occ_tight (Aa (Ai [c] (l::ls))) (Aa [c]) (by simp);obtain⟨f,h1,h2⟩:=key;have hp:=ZE3 (c:=c) (L:=Ai [c] (l::ls)) ls l 0 f _ hc rfl (by lia) h1 h2;cases ls with
 | nil=>
  have hj:Ai [c] [l]=l:=rfl;rw[hj]at*;unfold Txt.split;split
  ·rfl
  ·split
   ·rfl
   ·rw[StrLaws.partsBetween_eq];exact hp
 | cons l' ls=>
  have hat:StrLaws.At (Aa (Ai [c] (l::l'::ls))) (Aa [c]) (Aa (Ai [c] (l::l'::ls))).length l.length:=Hn.mpr (by have hj:Ai [c] (l::l'::ls)=l++[c]++Ai [c] (l'::ls):=rfl;rw[hj];exact⟨by simp,by simp⟩)
  unfold Txt.split;rw[if_neg,if_neg]
  ·rw[StrLaws.partsBetween_eq];exact hp
  ·intro he;have h0:Builtin.Str.occurrences (Aa (Ai [c] (l::l'::ls))) (Aa [c]) 0 (Aa (Ai [c] (l::l'::ls))).length ((Aa (Ai [c] (l::l'::ls))).length+1)=[]:=jv.mp he;rw[h0]at h1;have hf:f=0:=h1;exact h2 l.length (by lia) hat
  ·have hk:Builtin.Str.strKind (Aa [c])=1:=by unfold Builtin.Str.strKind Aa;rw[if_pos];simp[hcd]
   have hk2:1<=Builtin.Str.strKind (Aa (Ai [c] (l::l'::ls))):=by
    unfold Builtin.Str.strKind;split
    ·exact zW _
    ·split <;> lia
   have hl:=hat.1;rw[hk];simp only[j4,decide_eq_true_eq,not_or];lia
theorem ZCK(s sub:Str)(hi limit lo:Nat)(hw:1<=sub.length):∀(m cur:Nat)(st:Array Nat×Nat),StrLaws.ChainG s sub hi lo st.fst.toList st.snd->(st.fst.size<limit->∀k,st.snd<=k->k<cur->¬StrLaws.At s sub hi k)->st.fst.size<=limit->
  StrLaws.ChainG s sub hi lo (forIn (qQ cur m) st (StrLaws.occBody s sub hi limit)).run.fst.toList (forIn (qQ cur m) st (StrLaws.occBody s sub hi limit)).run.snd/\
  ((forIn (qQ cur m) st (StrLaws.occBody s sub hi limit)).run.fst.size<limit->∀k,(forIn (qQ cur m) st (StrLaws.occBody s sub hi limit)).run.snd<=k->k<cur+m->¬StrLaws.At s sub hi k)
 |0,cur,st,h,hn,_=>⟨h,hn⟩
 | m+1,cur,st,h,hn,hl=>by
  rw[List.range'_succ,j2];unfold StrLaws.occBody;have e:cur+(m+1)=(cur+1)+m:=by lia
  rw[e];split
  ·rename_i hc;refine ZCK s sub hi limit lo hw m (cur+1) (st.fst.push cur,cur+sub.length) ?_ ?_ ?_
   ·show StrLaws.ChainG s sub hi lo (st.fst.push cur).toList (cur+sub.length);rw[Array.toList_push];exact StrLaws.chainG_snoc h hc.1.1.2 ⟨hc.1.2,hc.2⟩ (hn hc.1.1.1)
   ·intro _ k h1 h2;have h1':cur+sub.length<=k:=h1;lia
   ·show(st.fst.push cur).size<=limit;rw[Array.size_push];have:=hc.1.1.1;lia
  ·rename_i hc;refine ZCK s sub hi limit lo hw m (cur+1) (st.fst,st.snd) h ?_ hl;intro hs k h1 h2 hA;by_cases hk:k<cur
   ·exact hn hs k h1 hk hA
   ·have ek:k=cur:=by lia
    subst ek;exact hc ⟨⟨⟨hs,h1⟩,hA.1⟩,hA.2⟩
theorem ZIa(x y:Str)(limit:Nat)(hw:1<=y.length):∃f,StrLaws.ChainG x y x.length 0 (Builtin.Str.occurrences x y 0 x.length limit) f/\((Builtin.Str.occurrences x y 0 x.length limit).length<limit->∀k,f<=k->¬StrLaws.At x y x.length k):=by rw[StrLaws.occ_eq];have key:=ZCK x y x.length limit 0 hw (x.length+1-0) 0 ((#[]:Array Nat),0) rfl (λ_ k _ h=>by lia) (by simp);refine⟨_,key.1,λhs k hk hA=>?_⟩;exact key.2 (by simpa using hs) k hk (by have:=hA.1;lia) hA
theorem ZGI{rest:List Nat}:∀(ws:List (List Nat))(a f:Nat)(cuts:List Nat),(∀x∈ws,c∉x)->L.drop a=Ai [c] (ws++[rest])->a<=L.length->cuts.length<=ws.length->
  StrLaws.ChainG (Aa L) (Aa [c]) (Aa L).length a cuts f->(cuts.length<ws.length->∀k,f<=k->¬StrLaws.At (Aa L) (Aa [c]) (Aa L).length k)->StrLaws.partsFrom (Aa L) 1 a cuts=(ws++[rest]).map Aa
 | [],a,f,cuts,hc,hd,ha,hcl,hch,hn=>by
  have hd':L.drop a=rest:=hd;cases cuts with
  |nil=>
   show[Builtin.Str.strSub (Aa L) a (Aa L).length]=[Aa rest];rw[Lk,Dp,hd']
   congr 2
   have:rest.length=L.length-a:=by rw[<-hd'];simp
   exact qw (by lia)
  |cons k r=>simp at hcl
 | l::ls,a,f,cuts,hc,hd,ha,hcl,hch,hn=>by
  obtain⟨l',ls',hls⟩:∃l' ls',ls++[rest]=l'::ls':=by cases ls with |nil=>exact⟨_,_,rfl⟩|cons x y=>exact⟨_,_,rfl⟩
  have hj:Ai [c] (l::(ls++[rest]))=l++[c]++Ai [c] (ls++[rest]):=by rw[hls];rfl
  have hd2:L.drop a=l++[c]++Ai [c] (ls++[rest]):=by rw[<-hj];exact hd
  have hlen:L.length=a+(l.length+1+(Ai [c] (ls++[rest])).length):=by have:=congrArg qj hd2;simp at this;lia
  have e1:L.drop (a+l.length)=[c]++Ai [c] (ls++[rest]):=by rw[<-qZ,hd2];simp
  have hat:StrLaws.At (Aa L) (Aa [c]) (Aa L).length (a+l.length):=Hn.mpr ⟨by simp;lia,by rw[e1];simp⟩;have hno:∀k,a<=k->k<a+l.length->¬StrLaws.At (Aa L) (Aa [c]) (Aa L).length k:=λk h1 h2 h=>by
   have h3:=(Hn.mp h).2;have e:L.drop k=(L.drop a).drop (k-a):=by rw[qZ];congr 1;lia
   have hk:k-a<l.length:=by lia
   rw[e,hd2,zT]at h3;exact hc l (by simp) (Sy hk h3)
  cases cuts with
  |nil=>
   have hf:f=a:=hch;exact absurd hat (hn (by simp) _ (by lia))
  | cons k r=>
   obtain⟨h1,h2,h3,h4⟩:=hch;have hk:k=a+l.length:=by
    rcases qO k (a+l.length)with z|z|z
    ·exact absurd h2 (hno k h1 z)
    ·exact z
    ·exact absurd hat (h3 _ (by lia) z)
   subst hk;have h4':StrLaws.ChainG (Aa L) (Aa [c]) (Aa L).length (a+l.length+1) r f:=h4;have ih:=ZGI (rest:=rest) ls (a+l.length+1) f r (λx hx=>hc x (zZ _ hx)) (by rw[<-qZ,e1];simp) (by lia) (by simpa using hcl) h4' (λz=>hn (by simpa using z));show Builtin.Str.strSub (Aa L) a (a+l.length)::StrLaws.partsFrom (Aa L) 1 (a+l.length+1) r=Aa l::_;rw[ih,Lk,hd2]
   congr 2
   rw[show a+l.length-a=l.length by lia,zT,qM (zW _),q0]
theorem ZKg{ws:List (List Nat)}{rest:List Nat}(hc:∀x∈ws,c∉x)(hcd:c<256)(hw:ws≠[]):Txt.splitMax (Aa (Ai [c] (ws++[rest]))) (Aa [c]) (ws.length:Int)=(ws++[rest]).map Aa:=by
 obtain⟨f,h1,h2⟩:=ZIa (Aa (Ai [c] (ws++[rest]))) (Aa [c]) ws.length (by simp);have hle:=StrLaws.occ_length_le (Aa (Ai [c] (ws++[rest]))) (Aa [c]) 0 (Aa (Ai [c] (ws++[rest]))).length ws.length;have hp:=ZGI (c:=c) (L:=Ai [c] (ws++[rest])) (rest:=rest) ws 0 f _ hc rfl (by lia) hle h1 h2;have el:limitOf (Aa (Ai [c] (ws++[rest]))) (ws.length:Int)=ws.length:=by unfold limitOf;rw[if_neg (by lia)];lia
 obtain⟨l,ls,rfl⟩:∃l ls,ws=l::ls:=by cases ws with |nil=>exact absurd rfl hw|cons l ls=>exact⟨l,ls,rfl⟩
 obtain⟨l',ls',hls⟩:∃l' ls',ls++[rest]=l'::ls':=by cases ls with |nil=>exact⟨_,_,rfl⟩|cons x y=>exact⟨_,_,rfl⟩
 have hj:Ai [c] ((l::ls)++[rest])=l++[c]++Ai [c] (ls++[rest]):=by rw[List.cons_append,hls];rfl
 have hat:StrLaws.At (Aa (Ai [c] ((l::ls)++[rest]))) (Aa [c]) (Aa (Ai [c] ((l::ls)++[rest]))).length l.length:=Hn.mpr (by rw[hj];exact⟨by simp,by simp⟩)
 unfold Txt.splitMax;rw[el,if_neg,if_neg]
 ·rw[StrLaws.partsBetween_eq];exact hp
 ·intro he;have h0:=jv.mp he;rw[h0]at h1 h2;have hf:f=0:=h1;exact h2 (by simp) l.length (by lia) hat
 ·have hk:Builtin.Str.strKind (Aa [c])=1:=by unfold Builtin.Str.strKind Aa;rw[if_pos];simp[hcd]
  have hk2:1<=Builtin.Str.strKind (Aa (Ai [c] ((l::ls)++[rest]))):=by
   unfold Builtin.Str.strKind;split
   ·exact zW _
   ·split <;> lia
  have hl:=hat.1;rw[hk];simp only[j4,decide_eq_true_eq,not_or];lia
def number(x cell:Int):Int:=if x%4=0 then 0 else if x%4=1/\2147483647<x then x/4%10^38 else if x%4=1 then cell*(x/4+2)%10^38 else x/4%40
theorem N7{x:Int}(hx:0<=x):Km [.int x,.int cell] G=.ok (.int (number x cell)) G:=by
 unfold Km ZDG number;rw[Be];by_cases h0:x%4=0
 ·simp[h0,Bh]
 by_cases h1:x%4=1
 ·by_cases h2:2147483647<x
  ·simp[h1,h2,Bh]
  ·simp[h1,h2];rw[Xb (by lia) (by lia)];simp[Bh]
 ·simp[h0,h1,Bh]
theorem Jz{x:Int}:0<=number x cell:=by
 unfold number;split
 ·lia
 split
 ·exact qV _ (by decide)
 split
 ·exact qV _ (by decide)
 ·lia
def strm:Nat->Int->Int->Int->List Int
 |0,_,_,_=>[]
 |n+1,j,num,left=>(if 0<left then left%10^42 else(num*num+48271*j+11)%2147483647)::strm n (j+1) ((num*num+48271*j+11)%2147483647) (left/10^42)
theorem ZFn:∀{n:Nat}{j num left:Int},(strm n j num left).length=n
 |0,_,_,_=>rfl
 |n+1,_,_,_=>by simp[strm,ZFn]
theorem ZGB:∀{n:Nat}{j num left:Int},∀x∈strm n j num left,0<=x
 |0,_,_,_,x,h=>by cases h
 | n+1,j,num,left,x,h=>by
  simp only[strm,zJ]at h;rcases h with rfl|h
  ·split
   ·exact qV _ (by decide)
   ·exact qV _ (by decide)
  ·exact ZGB x h
theorem ZDz{c k m:D}{G:DH}:∀{n:Nat}{j num left:Int}{acc:List Int}{e:Option D},0<=num->num<2147483647->0<=j->acc.length+n<=1000->∃a b d,Dl (gV 6) U3 (Do j n) [xU c,xU k,xU m,xU (.int num),xU (.int left),xU (.ref G.length),e] (G++[.lst (acc.map D.int)])=
  .nx [xU c,xU k,xU m,a,b,xU (.ref G.length),d] (G++[.lst ((acc++strm n j num left).map D.int)])
 |0,j,num,left,acc,e,h1,h2,h3,h4=>⟨xU (.int num),xU (.int left),e,by rw[Lw,Gm];simp[strm]⟩
 | n+1,j,num,left,acc,e,h1,h2,h3,h4=>by
  obtain⟨a,b,d,ih⟩:=ZDz (c:=c) (k:=k) (m:=m) (G:=G) (n:=n) (j:=j+1) (num:=(num*num+48271*j+11)%2147483647) (left:=left/10^42) (acc:=acc++[if 0<left then left%10^42 else(num*num+48271*j+11)%2147483647]) (e:=xU (.int j)) (qV _ (by decide)) (qW _ (by decide)) (by lia) (by simp;lia);refine⟨a,b,d,?_⟩;have hb:U3 [xU c,xU k,xU m,xU (.int num),xU (.int left),xU (.ref G.length),xU (.int j)] (G++[.lst (acc.map D.int)])=
    .nx [xU c,xU k,xU m,xU (.int ((num*num+48271*j+11)%2147483647)),xU (.int (left/10^42)),xU (.ref G.length),xU (.int j)] (G++[.lst ((acc++[if 0<left then left%10^42 else(num*num+48271*j+11)%2147483647]).map D.int)]):=by
   have hl:acc.length<1000000:=by lia
   unfold U3
   by_cases hl0:0<left<;>simp[Nm (i:=num) (j:=num) (by lia) (by lia),Er,Ce,hl0,hl,Hi]
  rw[K8,G7];simp only[El,R.H8,qX,hb,Ht,ih];simp[strm]
theorem ZBc{n:Nat}{F:Nat->D}(h:∀k:Nat,k<n->te (S.set 0 (xU (.int k))) G=.ok (F k) G):Cj (gV 0) Bp te S (Do 0 n) G=.ok ((zv n).map F) G:=by
 have e:Do 0 n=(zv n).map λ(i:Nat)=>D.int (i:Int):=by
  refine List.ext_getElem? λi=>?_
  simp[Do]
 rw[Pn (F:=λd=>match d with | .int i=>xU (F i.toNat)|_=>vQ) (λq hq=>?_)]
 ·congr 1
  rw[e,qL];show(zv n).filterMap (λ(i:Nat)=>xU (F ((i:Int).toNat)))=_;rw[List.filterMap_eq_map'];simp
 ·rw[e]at hq;obtain⟨i,hi,rfl⟩:=zw.mp hq;exact⟨S.set 0 (xU (.int i)),by simp,.inr ⟨rfl,F i,h i (qz.mp hi),by simp⟩⟩
def Hx(cell k:Int)(n:Nat):List Int:=strm n 0 ((cell%999999937+2)*(7919*k*k+48271)%2147483647) (if cell<0∨10^18<=cell then max cell (-cell)else 0)
theorem ZEj{k:Int}{n:Nat}:(Hx cell k n).length=n:=ZFn
theorem ZGN{k:Int}{n:Nat}:∀x∈Hx cell k n,0<=x:=λx h=>ZGB x h
theorem ZMb{k:Int}{n:Nat}(hk:0<=k/\k<100)(hn:n<=1000)(G:DH):Ly [.int cell,.int k,.int n] G=.ok (.ref G.length) (G++[.lst ((Hx cell k n).map D.int)]):=by
 have hr:inR (n:Int):=J0 (by lia) (by lia);have h3:0<=7919*k*k:=j8 (by lia) (by lia);have h2:7919*k*k<=791900*100:=Int.le_trans (Int.mul_le_mul_of_nonneg_right (c:=k) (by lia:7919*k<=791900) (by lia)) (Int.mul_le_mul_of_nonneg_left (by lia) (by lia));have hnum:(cell%999999937+2)*(7919*k*k+48271)%2147483647<2147483647:=qW _ (by decide)
 obtain⟨a,b,d,h⟩:=ZDz (c:=.int cell) (k:=.int k) (m:=.int n) (G:=G) (n:=n) (j:=0) (num:=(cell%999999937+2)*(7919*k*k+48271)%2147483647) (left:=if cell<0∨10^18<=cell then max cell (-cell)else 0) (acc:=[]) (e:=vQ) (qV _ (by decide)) hnum (by lia) (by simp;lia);unfold Hx Ly ZDT;rw[Be];simp at h;simp[Nm (i:=7919*k) (j:=k) (by lia) (by lia),Xb (i:=cell%999999937+2) (j:=7919*k*k+48271) (by lia) (by lia),ZIi,ZKl,ZNu,ite_int,Fp,hr,h]
theorem Jj:bels m (xs.map D.int)=vZ:=Gs λ_ _=>rfl
theorem ZDF{k:Int}{n:Nat}(hk:0<=k/\k<100)(hn:n<=1000)(G:DH):freeze G (Ly [.int cell,.int k,.int n] G)=.ok (.fl ((Hx cell k n).map D.int)) G:=by rw[ZMb hk hn];exact Ce Jj
noncomputable def gx(xs:List Int)(i:Nat):Int:=xs.getD i 0
theorem Fe(h:i<xs.length):atI (xs.map D.int) (i:Int)=xU (.int (gx xs i)):=Gh rfl (by rw[zR,zY h];simp[gx,zF,h])
theorem Ow(hx:∀x∈xs,0<=x)(i:Nat):0<=gx xs i:=by
 unfold gx;rw[zF];by_cases h:i<xs.length
 ·rw[zY h];exact hx _ (qJ h)
 ·rw[zU (by lia)];exact jx _
theorem ZBW(hab:a<=b)(hb:b<=xs.length):cutD (xs.map D.int) (xU (a:Int)) (xU (b:Int))=((xs.drop a).take (b-a)).map D.int:=by
 have h1:=(Jg (xs.map D.int).length (a:Int)).2;have h2:=(Jg (xs.map D.int).length (b:Int)).1;have l:(xs.map D.int).length=xs.length:=by simp
 have e1:HT.sIx (xs.map D.int).length 0 (xU (a:Int))=a:=by lia
 have e2:HT.sIx (xs.map D.int).length (xs.map D.int).length (xU (b:Int))=b:=by lia
 unfold cutD;rw[e1,e2,List.map_take,List.map_drop]
def stF(xs:List Int)(big:Int)(p:Bool):Nat->Nat->Int->List Stp
 |0,_,_=>[]
 |n+1,j,top=>⟨top+number (gx xs (1+2*j)) big,1+number (gx xs (2+2*j)) big, !(p&&decide (gx xs (2+2*j)/160%2=0))⟩::stF xs big p n (j+1) (top+number (gx xs (1+2*j)) big+(1+number (gx xs (2+2*j)) big))
theorem ZDs{xs:List Int}{big:Int}{p:Bool}{G:DH}(hx:∀x∈xs,0<=x):∀(n j:Nat)(top:Int)(acc:List Stp)(a b d e:Option D),2*(j+n)<xs.length->acc.length+n<=1000->∃a' b' d' e' t',Dl (gV 5) Uu (Do j n) [xU (.fl (xs.map D.int)),xU (.int big),xU (.bl p),xU (.ref G.length),xU (.int top),a,b,d,e] (G++[.lst (acc.map Stp.enc)])=
  .nx [xU (.fl (xs.map D.int)),xU (.int big),xU (.bl p),xU (.ref G.length),t',a',b',d',e'] (G++[.lst ((acc++stF xs big p n j top).map Stp.enc)])
 |0,j,top,acc,a,b,d,e,h1,h2=>⟨a,b,d,e,xU (.int top),by rw[Lw,Gm];simp[stF]⟩
 | n+1,j,top,acc,a,b,d,e,h1,h2=>by
  have x0:=Ow hx (1+2*j);have x1:=Ow hx (2+2*j);have a0:atI (xs.map D.int) (1+2*(j:Int))=xU (.int (gx xs (1+2*j))):=by have:=Fe (xs:=xs) (i:=1+2*j) (by lia);rwa[show((1+2*j:Nat):Int)=1+2*(j:Int) by lia]at this
  have a1:atI (xs.map D.int) (2+2*(j:Int))=xU (.int (gx xs (2+2*j))):=by have:=Fe (xs:=xs) (i:=2+2*j) (by lia);rwa[show((2+2*j:Nat):Int)=2+2*(j:Int) by lia]at this
  unfold stF;generalize gx xs (1+2*j)=u0 at*;generalize gx xs (2+2*j)=u1 at*;obtain⟨a',b',d',e',t',ih⟩:=ZDs (big:=big) (p:=p) (G:=G) hx n (j+1) (top+number u0 big+(1+number u1 big)) (acc++[⟨top+number u0 big,1+number u1 big, !(p&&decide (u1/160%2=0))⟩]) (xU (.int j)) (xU (.int (top+number u0 big))) (xU (.int (1+number u1 big))) (xU (.str (wy (!(p&&decide (u1/160%2=0)))))) (by lia) (by simp;lia)
  refine⟨a',b',d',e',t',?_⟩;have hb:Uu [xU (.fl (xs.map D.int)),xU (.int big),xU (.bl p),xU (.ref G.length),xU (.int top),xU (.int j),b,d,e] (G++[.lst (acc.map Stp.enc)])=
    .nx [xU (.fl (xs.map D.int)),xU (.int big),xU (.bl p),xU (.ref G.length),xU (.int (top+number u0 big+(1+number u1 big))),xU (.int j),xU (.int (top+number u0 big)),xU (.int (1+number u1 big)),xU (.str (wy (!(p&&decide (u1/160%2=0)))))] (G++[.lst ((acc++[(⟨top+number u0 big,1+number u1 big, !(p&&decide (u1/160%2=0))⟩:Stp)]).map Stp.enc)]):=by
   have hl:acc.length<1000000:=by lia
   have m2:∀G,Ei (.int 2) (.int (j:Int)) G=.ok (.int (2*(j:Int))) G:=λG=>Nm (by lia) (by lia)
   unfold Uu;cases p with
   |false=>simp[m2,a0,a1,N7 x0,N7 x1,Er,hl,Hi,Stp.enc,wy]
   |true=>by_cases hz:u1/160%2=0<;>simp[m2,a0,a1,N7 x0,N7 x1,Er,hl,Hi,Stp.enc,wy,hz]
  rw[K8,G7];simp only[El,R.H8,qX,hb,Ht];have e1:((j:Int)+1)=((j+1:Nat):Int):=by lia
  rw[e1,ih];simp
theorem ZOr{p:Bool}(hx:∀x∈xs,0<=x)(hl:xs.length=7)(G:DH):V8 [.fl (xs.map D.int),.int big,.bl p] G=.ok (.tup ((stF xs big p (gx xs 0%4).toNat 0 0).map Stp.enc)) G:=by have a0:atI (xs.map D.int) 0=xU (.int (gx xs 0)):=Fe (i:=0) (by lia);obtain⟨n,hn⟩:∃n:Nat,gx xs 0%4=n:=⟨(gx xs 0%4).toNat,by lia⟩;obtain⟨a,b,d,e,t,h⟩:=ZDs (big:=big) (p:=p) (G:=G) hx n 0 0 [] vQ vQ vQ vQ (by lia) (by simp;lia);rw[hn];unfold V8 ZG3;rw[Be];have hr:inR (n:Int):=J0 (by lia) (by lia);simp at h;simp[a0,hn,Fp,hr,h,Er,Sg]
def ruF(xs:List Int)(big yr:Int)(p:Bool):Nat->Nat->Int->List Ssn
 |0,_,_=>[]
 |m+1,j,b=>if j=0∨(0<gx xs j%3/\b<yr)then(b,stF ((xs.drop (3+7*j)).take 7) big p (gx ((xs.drop (3+7*j)).take 7) 0%4).toNat 0 0)::ruF xs big yr p m (j+1) (b+1+gx xs j/3%9)else ruF xs big yr p m (j+1) b
theorem ZB0{xs:List Int}{big yr:Int}{p:Bool}{G:DH}(hx:∀x∈xs,0<=x)(hl:xs.length=24):∀(m j:Nat)(b:Int)(acc:List Ssn)(x:Option D),j+m=3->acc.length+m<=1000->∃b' x',Dl (gV 6) Om (Do j m) [xU (.fl (xs.map D.int)),xU (.int big),xU (.int yr),xU (.bl p),xU (.ref G.length),xU (.int b),x] (G++[.lst (acc.map Ay)])=
  .nx [xU (.fl (xs.map D.int)),xU (.int big),xU (.int yr),xU (.bl p),xU (.ref G.length),b',x'] (G++[.lst ((acc++ruF xs big yr p m j b).map Ay)])
 |0,j,b,acc,x,e,h2=>⟨xU (.int b),x,by rw[Lw,Gm];simp[ruF]⟩
 | m + 1,j,b,acc,x,e,h2=>by
  have e1:((j:Int)+1)=((j+1:Nat):Int):=by lia
  have a0:atI (xs.map D.int) (j:Int)=xU (.int (gx xs j)):=Fe (by lia);have m7:∀G,Ei (.int 7) (.int (j:Int)) G=.ok (.int (7*(j:Int))) G:=λG=>Nm (by lia) (by lia)
  have cu:cutD (xs.map D.int) (xU (3+7*(j:Int))) (xU (10+7*(j:Int)))=((xs.drop (3+7*j)).take 7).map D.int:=by have:=ZBW (xs:=xs) (a:=3+7*j) (b:=10+7*j) (by lia) (by lia);rwa[show((3+7*j:Nat):Int)=3+7*(j:Int) by lia,show((10+7*j:Nat):Int)=10+7*(j:Int) by lia,show 10+7*j-(3+7*j)=7 by lia]at this
  have cs:=λG=>ZOr (xs:=(xs.drop (3+7*j)).take 7) (big:=big) (p:=p) (λx h=>hx x (q9 (qq h))) (by simp;lia) G
  have hal:acc.length<1000000:=by lia
  unfold ruF;generalize((xs.drop (3+7*j)).take 7)=zs at*;generalize stF zs big p (gx zs 0%4).toNat 0 0=st at*;have fz:∀A:DO,freeze (G++[A]) (.ok (.ref (G.length+1)) (G++[A,.lst (zs.map D.int)]))=.ok (.fl (zs.map D.int)) (G++[A]):=λA=>ZCX Jj
  by_cases hc:j=0∨(0<gx xs j%3/\b<yr)
  ·rw [if_pos hc];obtain⟨b',x',ih⟩:=ZB0 (big:=big) (yr:=yr) (p:=p) (G:=G) hx hl m (j+1) (b+1+gx xs j/3%9) (acc++[(b,st)]) (xU (.int j)) (by lia) (by simp;lia);refine⟨b',x',?_⟩;have hb:Om [xU (.fl (xs.map D.int)),xU (.int big),xU (.int yr),xU (.bl p),xU (.ref G.length),xU (.int b),xU (.int j)] (G++[.lst (acc.map Ay)])=
     .nx [xU (.fl (xs.map D.int)),xU (.int big),xU (.int yr),xU (.bl p),xU (.ref G.length),xU (.int (b+1+gx xs j/3%9)),xU (.int j)] (G++[.lst ((acc++[(b,st)]).map Ay)]):=by
    unfold Om;rcases hc with h0|⟨h3,h4⟩
    ·have h0':(j:Int)=0:=by lia
     subst h0;simp at cu m7 a0;simp[m7,a0,cu,fz,cs,Er,hal,Hi,Ay]
    ·by_cases h0:j=0
     ·subst h0;simp at cu m7 a0;simp[m7,a0,cu,fz,cs,Er,hal,Hi,Ay]
     ·have h0':¬(j:Int)=0:=by lia
      simp[h0,h0',h3,h4,m7,a0,cu,fz,cs,Er,hal,Hi,Ay]
   rw[K8,G7];simp only[El,R.H8,qX,hb,Ht];rw[e1,ih];simp
  ·rw[if_neg hc];obtain⟨b',x',ih⟩:=ZB0 (big:=big) (yr:=yr) (p:=p) (G:=G) hx hl m (j+1) b acc (xU (.int j)) (by lia) (by lia);refine⟨b',x',?_⟩;have hb:Om [xU (.fl (xs.map D.int)),xU (.int big),xU (.int yr),xU (.bl p),xU (.ref G.length),xU (.int b),xU (.int j)] (G++[.lst (acc.map Ay)])=
     .nx [xU (.fl (xs.map D.int)),xU (.int big),xU (.int yr),xU (.bl p),xU (.ref G.length),xU (.int b),xU (.int j)] (G++[.lst (acc.map Ay)]):=by
    have h0:¬j=0:=λz=>hc (.inl z)
    have h0':¬(j:Int)=0:=by lia
    unfold Om;by_cases h3:0<gx xs j%3
    ·have h4:¬b<yr:=λz=>hc (.inr ⟨h3,z⟩)
     simp[h0,h0',a0,h3,h4]
    ·simp[h0,h0',a0,h3]
   rw[K8,G7];simp only[El,R.H8,qX,hb,Ht];rw[e1,ih]
theorem ZKA{p:Bool}(hx:∀x∈xs,0<=x)(hl:xs.length=24)(G:DH):Ui [.fl (xs.map D.int),.int big,.int yr,.bl p] G=.ok (.tup ((ruF xs big yr p 3 0 0).map Ay)) G:=by obtain⟨b',x',h⟩:=ZB0 (big:=big) (yr:=yr) (p:=p) (G:=G) hx hl 3 0 0 [] vQ (by lia) (by simp);have hr:inR 3:=J0 (by lia) (by lia);unfold Ui ZGm;rw[Be];simp at h;simp[Fp,hr,h,Er,Sg]
theorem ZHX{p:Bool}:∃s r,ruF xs big yr p 3 0 0=s::r:=by unfold ruF;rw[if_pos (.inl rfl)];exact⟨_,_,rfl⟩
noncomputable def pmps(st:List Stp):List Int:=(st.filter λs=> !s.r).map Stp.m
theorem ZHp{b:D}(hst:st.length<=1000)(G:DH):Tr [xU b,xU (.tup (st.map Stp.enc))] G=.ok (.int (pmps st).sum) G:=by
 have hc:Cj (Cq 3 (Ar (gV 0) (Ar (gV 1) (Ar (gV 2) Cv)))) Vg Xy [vQ,vQ,vQ] (st.map Stp.enc) G=.ok ((pmps st).map D.int) G:=by
  clear hst
  induction st with
  |nil=>rfl
  | cons s st ih=>
   have e0:Stp.enc s=.tup [.int s.h,.int s.m,.str (wy s.r)]:=rfl;have h1:Vg [xU (.int s.h),xU (.int s.m),xU (.str (wy s.r))] G=.ok (!s.r) G:=by
    unfold Vg
    cases s.r<;>simp
   have h2:Xy [xU (.int s.h),xU (.int s.m),xU (.str (wy s.r))] G=.ok (.int s.m) G:=by unfold Xy;simp
   rw[zQ,Ew,e0];cases hs:s.r
   ·rw[hs]at h1 h2;simp[h1,h2,ih,pmps,hs]
   ·rw[hs]at h1;simp[h1,ih,pmps,hs]
 have fz:freeze G (.ok (.ref G.length) (G++[.lst ((pmps st).map D.int)]))=.ok (.fl ((pmps st).map D.int)) G:=Ce Jj;have hcs:∀S:DSt,Bq 3 [] S=[vQ,vQ,vQ]:=λS=>rfl
 unfold Tr;have hl:(pmps st).length<=1000000:=by
  have:(pmps st).length<=st.length:=by unfold pmps;rw[zK];exact jk _ _
  lia
 simp[hcs,hc,hl,fz]
theorem ZAt{p:Bool}:∀(n j:Nat)(top:Int),(stF xs big p n j top).length=n
 |0,j,top=>rfl
 |n+1,j,top=>by simp[stF,ZAt n]
theorem Wl{xs:List Int}{big yr:Int}{p:Bool}:∀(m j:Nat)(b:Int),(ruF xs big yr p m j b).length<=m/\∀s∈ruF xs big yr p m j b,s.2.length<=1000
 |0,j,b=>⟨zW _,λs h=>by cases h⟩
 | m+1,j,b=>by
  unfold ruF;split
  ·have ih:=Wl (xs:=xs) (big:=big) (yr:=yr) (p:=p) m (j+1) (b+1+gx xs j/3%9);refine⟨by simp[ih.1],λs h=>?_⟩;rcases zJ.mp h with rfl|h
   ·show(stF _ _ _ _ _ _).length<=1000;rw[ZAt];lia
   ·exact ih.2 s h
  ·have ih:=Wl (xs:=xs) (big:=big) (yr:=yr) (p:=p) m (j+1) b;exact⟨by lia,ih.2⟩
theorem ZEJ{E X Y F:α->D}(hE:∀a,E a=.tup [X a,Y a]):∀{l:List α},(∀a∈l,te [xU (X a),xU (Y a)] G=.ok (F a) G)->Cj (Cq 2 (Ar (gV 0) (Ar (gV 1) Cv))) Bp te [vQ,vQ] (l.map E) G=.ok (l.map F) G
 |[],_=>rfl
 |a::l,h=>by
  have ih:=ZEJ hE (l:=l) λb hb=>h b (zZ _ hb)
  rw[zQ,Ew,hE];simp[h a (by simp),ih]
theorem ZFk:∀(l:List Int)(a:Int),a<=l.foldl max a/\∀x∈l,x<=l.foldl max a
 |[],a=>⟨jx _,λx h=>nomatch h⟩
 | y::l,a=>by
  obtain⟨h1,h2⟩:=ZFk l (max a y);refine⟨?_,λx hx=>?_⟩
  ·rw[qA];lia
  ·rw[qA];rcases zJ.mp hx with rfl|hx
   ·lia
   ·exact h2 x hx
theorem ZEB{B:Int}:∀(l:List Int)(a:Int),a<=B->(∀x∈l,x<=B)->l.foldl max a<=B
 |[],a,h,_=>h
 |y::l,a,h,hl=>by rw[qA];have:=hl y zy;exact ZEB l (max a y) (by lia) λx hx=>hl x (zZ _ hx)
theorem ZIN{r:List Ssn}(hr:r.length<=1000)(h:∀s∈r,s.2.length<=1000)(hne:∃s r',r=s::r'):∃v:Int,((∀s∈r,(pmps s.2).sum<=v)/\∀B:Int,(∀s∈r,(pmps s.2).sum<=B)->v<=B)/\∀G,Y7 [.tup (r.map Ay)] G=.ok (.int v) G:=by
 obtain⟨s,r',rfl⟩:=hne;refine⟨(r'.map λs=>(pmps s.2).sum).foldl max (pmps s.2).sum,⟨λz hz=>?_,λB hB=>ZEB _ _ (hB s zy) λx hx=>by obtain⟨z,hz,rfl⟩:=zw.mp hx;exact hB z (zZ _ hz)⟩,λG=>?_⟩
 ·obtain⟨h1,h2⟩:=ZFk (r'.map λs=>(pmps s.2).sum) (pmps s.2).sum;rcases zJ.mp hz with rfl|hz
  ·exact h1
  ·exact h2 _ (zw.mpr ⟨z,hz,rfl⟩)
 have hc:Cj (Cq 2 (Ar (gV 0) (Ar (gV 1) Cv))) Bp Tr [vQ,vQ] ((s::r').map Ay) G=.ok (((s::r').map λs=>(pmps s.2).sum).map D.int) G:=by rw[qk];exact ZEJ (X:=λs:Ssn=>.int s.1) (Y:=λs:Ssn=>.tup (s.2.map Stp.enc)) (F:=D.int ∘ λs:Ssn=>(pmps s.2).sum) (λ_=>rfl) λa ha=>ZHp (h a ha) G
 have hl:((s::r').map λs=>(pmps s.2).sum).length<=1000000:=by rw[zK];lia
 have hm:O8 [.fl (((s::r').map λs=>(pmps s.2).sum).map D.int)] G=.ok (.int ((r'.map λs=>(pmps s.2).sum).foldl max (pmps s.2).sum)) G:=ZKo (by rw[zQ];rfl);have fz:freeze G (.ok (.ref G.length) (G++[.lst (((s::r').map λs=>(pmps s.2).sum).map D.int)]))=.ok (.fl (((s::r').map λs=>(pmps s.2).sum).map D.int)) G:=Ce Jj;have hcs:∀S:DSt,Bq 2 [] S=[vQ,vQ]:=λS=>rfl
 generalize((s::r').map λs=>(pmps s.2).sum)=zs at*;generalize(s::r').map Ay=rs at*;unfold Y7 ZHG;rw[Be];simp[hcs,hc,hl,fz,hm,Bh]
theorem ZOD{x:Int}(hx:0<=x):∃v:Int,(0<=v/\v<10^39)/\∀G,Q7 [.int x] G=.ok (.int v) G:=by
 by_cases h:2147483647<x
 ·have m:=λG=>Xb (i:=x/2%100000000000000000000000000000000000000) (j:=x%2) (G:=G) (by lia) (by lia)
  exact⟨x/2%100000000000000000000000000000000000000*(x%2),⟨j8 (by lia) (by lia),by rcases(by lia:x%2=0∨x%2=1)with z|z<;>rw[z]<;>lia⟩,λG=>by unfold Q7 Zq;rw[Be];simp[h,m,Bh]⟩
 ·have m:=λG=>Xb (i:=x%50) (j:=x/50%2) (G:=G) (by lia) (by lia)
  exact⟨x%50*(x/50%2),⟨j8 (by lia) (by lia),by rcases(by lia:x/50%2=0∨x/50%2=1)with z|z<;>rw[z]<;>lia⟩,λG=>by unfold Q7 Zq;rw[Be];simp[h,m,Bh]⟩
noncomputable def Lj:List Nat:=("abcdefghijklmnopqrstuvwxyz":Str).cps.toList
theorem ZH2:∀i,i<26->Lj[i]?=xU (97+i):=by decide +kernel
theorem ZN8:("abcdefghijklmnopqrstuvwxyz":Str).length<=1000000:=by decide +kernel
theorem Uy{i:Int}(h0:0<=i)(h1:i<26)(G:DH):Aj (.str ("abcdefghijklmnopqrstuvwxyz":Str)) (.int i) G=.ok (.str (Aa [97+i.toNat])) G:=by
 rw[Kv,if_pos ZN8]
 show(match atI Lj i with |some c=>R.ok (sgn c) G|none=>.bad)=_
 rw[Gh (k:=i.toNat) (by lia) (ZH2 _ (by lia))]
 rfl
theorem add_str(h:l.length+l'.length<=1000000)(G:DH):Ax (.str (Aa l)) (.str (Aa l')) G=.ok (.str (Aa (l++l'))) G:=by
 have e:Ax (.str (Aa l)) (.str (Aa l')) G=if(Aa l).length+(Aa l').length<=1000000 then .ok (.str (Aa l++Aa l')) G else .bad:=rfl
 rw[e,if_pos (by show l.toArray.size+l'.toArray.size<=1000000;simpa using h),Vh]
theorem K9(h:l.length<=1000000)(G:DH):Jr (.str (Aa l)) lo hi G=.ok (.str (Aa (cutD l lo hi))) G:=by
 rw[J8,if_pos (by show l.toArray.size<=1000000;simpa using h)]
 rfl
theorem ZJ1(h:(c::l).length<=1000000)(G:DH):Aj (.str (Aa (c::l))) (.int 0) G=.ok (.str (Aa [c])) G:=by
 rw[Kv,if_pos (by show(c::l).toArray.size<=1000000;simpa using h)]
 show(match atI (c::l) 0 with |some c=>R.ok (sgn c) G|none=>.bad)=_
 have h0:atI (c::l) (0:Int)=xU c:=Gh (k:=0) rfl rfl;rw[h0]
 rfl
theorem My(G:DH):freeze G (.ok (.str x) G)=.ok (.str x) G:=Lh rfl
theorem Dv{l:List Str}:bels m (l.map D.str)=vZ:=Gs λ_ _=>rfl
theorem pigeon[DecidableEq α]:∀(zs l:List α),zs.Nodup->l.length<zs.length->∃z,z∈zs/\z∉l
 |[],l,_,h=>by simp at h
 | z::zs,l,hn,h=>by
  by_cases hz:z∈l
  ·have hn':=jJ.mp hn;have hl:(l.erase z).length=l.length-1:=List.length_erase_of_mem hz;have hp:0<l.length:=List.length_pos_of_mem hz;obtain⟨y,hy,hny⟩:=pigeon zs (l.erase z) hn'.2 (by simp only[zD]at h;lia);have hne:y≠z:=λe=>hn'.1 (e▸hy)
   exact⟨y,zZ _ hy,λhm=>hny ((List.mem_erase_of_ne hne).mpr hm)⟩
  ·exact⟨z,by simp,hz⟩
def zsL:List Str:=Lj.map λc=>Aa [122,c]
theorem ZKn:zsL.Nodup:=by decide +kernel
theorem Oe:zsL.length=26:=by decide +kernel
theorem ZM3:∀z∈zsL,z≠"sea":=by decide +kernel
theorem Us:∀l:List Str,K7 (l.map D.str)=xU (l.map V.str)
 |[]=>rfl
 |a::l=>by
  rw[zQ,K7,Us l]
  rfl
theorem T6(x:Str):∀l:List Str,inV (.str x) (l.map V.str)=decide (x∈l)
 |[]=>by simp[inV]
 | a::l=>by
  show(eqV (.str a) (.str x)||inV (.str x) (l.map V.str))=_;rw[T6 x l];show((a==x)||decide (x∈l))=_;by_cases e:a=x
  ·subst e;simp
  ·have e2:¬x=a:=λz=>e z.symm
   simp[e,e2]
theorem ZJO{l:List Str}(h:G[i]?=xU (.lst (l.map D.str))):Ld (.str x) (.ref i) G=.ok (.bl (!decide (x∈l))) G:=by
 have hs:Cy (.ref i) G=xU (l.map D.str):=by simp[h]
 have key:inD (.str x) (.ref i) G=xU (decide (x∈l)):=by
  show(match Cy (.ref i) G,M9 (.str x)with |some xs,xU v=>(K7 xs).map λvs=>inV v vs|_,_=>vQ)=_
  rw[hs];show(K7 (l.map D.str)).map (λvs=>inV (.str x) vs)=_;rw[Us];show xU (inV _ _)=_;rw[T6]
 unfold Ld;rw[key]
def wdF:Nat->Int->List Nat->List Nat
 |0,_,w=>w
 |m+1,rest,w=>wdF m (rest/26) (w++[97+(rest%26).toNat])
theorem ZCR:∀(m:Nat)(rest:Int)(w:List Nat),(wdF m rest w).length=w.length+m
 |0,_,_=>rfl
 |m+1,rest,w=>by unfold wdF;rw[ZCR m];simp;lia
theorem ZDp{s0 s2 s3 s7:Option D}{G:DH}:∀(m:Nat)(j rest:Int)(w:List Nat)(x:Option D),w.length+m<=1000->∃r y,Dl (gV 6) Um (Do j m) [s0,xU (.str ("abcdefghijklmnopqrstuvwxyz":Str)),s2,s3,xU (.str (Aa w)),xU (.int rest),x,s7] G=.nx [s0,xU (.str ("abcdefghijklmnopqrstuvwxyz":Str)),s2,s3,xU (.str (Aa (wdF m rest w))),r,y,s7] G
 |0,j,rest,w,x,h=>⟨xU (.int rest),x,by rw[Lw,Gm];rfl⟩
 | m+1,j,rest,w,x,h=>by
  obtain⟨r,y,ih⟩:=ZDp (s0:=s0) (s2:=s2) (s3:=s3) (s7:=s7) (G:=G) m (j+1) (rest/26) (w++[97+(rest%26).toNat]) (xU (.int j)) (by simp;lia);refine⟨r,y,?_⟩;have hb:Um [s0,xU (.str ("abcdefghijklmnopqrstuvwxyz":Str)),s2,s3,xU (.str (Aa w)),xU (.int rest),xU (.int j),s7] G=.nx [s0,xU (.str ("abcdefghijklmnopqrstuvwxyz":Str)),s2,s3,xU (.str (Aa (w++[97+(rest%26).toNat]))),xU (.int (rest/26)),xU (.int j),s7] G:=by
   have hi:=λG=>Uy (i:=rest%26) (by lia) (by lia) G
   have ha:=λG=>add_str (l:=w) (l':=[97+(rest%26).toNat]) (by simp;lia) G
   generalize Aa [97+(rest%26).toNat]=z at hi ha;generalize("abcdefghijklmnopqrstuvwxyz":Str)=AB at hi;unfold Um;simp[-Kv,-J1,hi,ha]
  rw[K8,G7];simp only[El,R.H8,qX,hb,Ht];exact ih
theorem ZIf(G:DH):Cj (gV 0) Bp V1 [vQ] (Lj.map sgn) G=.ok (zsL.map D.str) G:=by
 unfold zsL;rw[qk];generalize Lj=l
 induction l with
 |nil=>rfl
 | cons c l ih=>
  have he:V1 [xU (sgn c)] G=.ok (.str (Aa [122,c])) G:=by
   have ha:=add_str (l:=[122]) (l':=[c]) (by simp) G;have e1:Aa [122]=("z":Str):=by decide +kernel
   rw[e1]at ha;have e2:sgn c=.str (Aa [c]):=rfl;unfold V1;rw[e2];simp[-J1,ha]
  rw[zQ,Ew];simp[he,ih]
theorem ZCu{names:List Str}(hG:G[i]?=xU (.lst (names.map D.str))):∀l:List Str,Cj (gV 0) Tz Ys [vQ,xU (.ref i)] (l.map D.str) G=.ok ((l.filter λx=>decide (x∉names)&&decide (x≠"sea")).map D.str) G
 |[]=>rfl
 | a::l=>by
  have ih:=ZCu hG l;have h1:=ZJO (x:=a) hG;have ht:Tz [xU (.str a),xU (.ref i)] G=.ok (decide (a∉names)&&decide (a≠"sea")) G:=by
   unfold Tz;by_cases h:a∈names
   ·simp[h1,h]
   ·by_cases h2:a="sea"
    ·have h3:(a="sea")=True:=by simp[h2]
     simp[h1,h,h3]
    ·simp[h1,h,h2]
  have he:Ys [xU (.str a),xU (.ref i)] G=.ok (.str a) G:=by unfold Ys;simp
  rw[zQ,Ew];simp only[El,R.Gr,qX,ht,he,ih];rw[jy]
  cases(decide (a∉names)&&decide (a≠"sea"))<;>simp
def LL(l:List Nat):Prop:=1<=l.length/\l.length<=8/\∀c∈l,97<=c/\c<123
def Wd(z:Str):Prop:=∃l:List Nat,z=Aa l/\LL l
theorem ZFe:∀(m:Nat)(rest:Int)(w:List Nat),(∀c∈w,97<=c/\c<123)->∀c∈wdF m rest w,97<=c/\c<123
 |0,_,_,h=>h
 | m+1,rest,w,h=>by
  unfold wdF;exact ZFe m _ _ λc hc=>by
   rcases zB.mp hc with hc|hc
   ·exact h c hc
   ·rw[qD.mp hc];lia
theorem ZIg:∀c∈Lj,97<=c/\c<123:=by decide +kernel
theorem ZJI:∀z∈zsL,Wd z:=λz hz=>by
 obtain⟨c,hc,rfl⟩:=zw.mp hz;refine⟨[122,c],rfl,by simp,by simp,λx hx=>?_⟩;rcases zJ.mp hx with rfl|hx
 ·lia
 ·rw[qD.mp hx];exact ZIg c hc
theorem ZJ7{names:List Str}{x:Int}(hx:0<=x)(hl:names.length<26):∃nm:Str,(nm∉names/\nm≠"sea"/\Wd nm)/\∀(G:DH)(s0 x4 x5 x6 x7:Option D),∃y4 y5 y6 y7,
  U8 [s0,xU (.str ("abcdefghijklmnopqrstuvwxyz":Str)),xU (.ref G.length),xU (.int x),x4,x5,x6,x7] (G++[.lst (names.map D.str)])=
   .nx [s0,xU (.str ("abcdefghijklmnopqrstuvwxyz":Str)),xU (.ref G.length),xU (.int x),y4,y5,y6,y7] (G++[.lst ((names++[nm]).map D.str)]):=by
 obtain⟨m,hm⟩:∃m:Nat,1+x%8=m:=⟨(1+x%8).toNat,by lia⟩;have hm8:m<=8:=by lia
 obtain⟨w,ew⟩:∃w:Str,Aa (wdF m (x/8) [])=w:=⟨_,rfl⟩;obtain⟨z,hz,hzn⟩:=pigeon zsL names ZKn (by rw[Oe];exact hl);have hne:∃a r,((w::zsL).filter λx=>decide (x∉names)&&decide (x≠"sea"))=a::r:=by
  have:z∈((w::zsL).filter λx=>decide (x∉names)&&decide (x≠"sea")):=jZ.mpr ⟨zZ _ hz,by simp[hzn,ZM3 z hz]⟩;cases e:((w::zsL).filter λx=>decide (x∉names)&&decide (x≠"sea"))with
  |nil=>rw[e]at this;cases this
  |cons a r=>exact⟨a,r,rfl⟩
 obtain⟨a,r,har⟩:=hne;have ha:a∉names/\a≠"sea"/\Wd a:=by
  have h1:a∈((w::zsL).filter λx=>decide (x∉names)&&decide (x≠"sea")):=by rw[har];exact zy
  have h2:a∉names/\a≠"sea":=by simpa using(jZ.mp h1).2
  refine⟨h2.1,h2.2,?_⟩;rcases zJ.mp (jZ.mp h1).1 with h3|h3
  ·rw[h3,<-ew]
   refine⟨_,rfl,?_,?_,ZFe m _ [] (λc hc=>nomatch hc)⟩
   ·rw[ZCR];simp;lia
   ·rw[ZCR];simp;lia
  ·exact ZJI a h3
 refine⟨a,ha,λG s0 x4 x5 x6 x7=>?_⟩;obtain⟨r5,y6,hw⟩:=ZDp (s0:=s0) (s2:=xU (.ref G.length)) (s3:=xU (.int x)) (s7:=x7) (G:=G++[.lst (names.map D.str)]) m 0 (x/8) [] x6 (by simp;lia);refine⟨xU (.str w),r5,y6,xU (.fl ((w::zsL).map D.str)),?_⟩;have hz0:=λG=>ZIf G
 have hk:=ZCu (names:=names) (i:=G.length) (G:=G++[.lst (names.map D.str)]) (by rw[Er];rfl) (w::zsL);rw[har]at hk;have hlow:Hg (.str ("abcdefghijklmnopqrstuvwxyz":Str)) (G++[DO.lst (names.map D.str)])=.ok (.pure (Lj.map sgn)) (G++[DO.lst (names.map D.str)]):=rfl;have hzl:(zsL.map D.str).length<=1000000:=by rw[zK,Oe];decide
 have hzl4:1+(zsL.map D.str).length<=1000000:=by rw[zK,Oe];decide
 have hzl2:zsL.length<=999999:=by rw[Oe];decide
 have hzl3:zsL.length<=1000000:=by rw[Oe];decide
 have e0:Aa []=("":Str):=by decide +kernel
 have fz1:∀ls:List Str,freeze (G++[.lst (names.map D.str)]) (.ok (.ref (G.length+1)) (G++[.lst (names.map D.str),.lst (ls.map D.str)]))=.ok (.fl (ls.map D.str)) (G++[.lst (names.map D.str)]):=λls=>ZCX Dv
 have fza:=fz1 [w];have fzb:=fz1 zsL;have fzc:=fz1 (w::zsL);have fzd:=fz1 (a::r);have hrl:r.length<=1000000/\r.length<=999999:=by
  have h1:(a::r).length<=(w::zsL).length:=by rw[<-har];exact jk _ _
  simp only[zD,Oe]at h1;lia
 have hnl:names.length<1000000:=by lia
 have hr:inR (m:Int):=J0 (by lia) (by lia);rw[e0,ew]at hw;have hcs1:∀S:DSt,Bq 1 [] S=[vQ]:=λS=>rfl
 have hcs2:∀(a b c d e f g h:Option D),Bq 1 [2] [a,b,c,d,e,f,g,h]=[vQ,c]:=λ_ _ _ _ _ _ _ _=>rfl
 simp only[zQ,zH]at fza fzc fzd hk⊢;generalize zsL.map D.str=Z at*;generalize("abcdefghijklmnopqrstuvwxyz":Str)=AB at*;generalize Lj.map sgn=LS at*;unfold U8;simp[-ZCG,hm,hr,hw,hlow,hcs1,hz0,fza,hzl,fzb,fzc,hcs2,hk,hrl,fzd,Er,Hi,hnl,hzl4]
theorem ZNX{l:List Str}{a:Str}(h:l.Nodup)(ha:a∉l):(l++[a]).Nodup:=by rw[List.nodup_append];refine⟨h,by simp,λx hx y hy e=>?_⟩;rw[qD.mp hy]at e;exact ha (e▸hx)
theorem ZDu:∀(xs:List Int)(acc:List Str),(∀x∈xs,0<=x)->acc.length+xs.length<26->∃nm:List Str,nm.length=xs.length/\(acc.Nodup->(acc++nm).Nodup)/\(∀z∈nm,z≠"sea"/\Wd z)/\∀(G:DH)(s0 x3 x4 x5 x6 x7:Option D),∃y3 y4 y5 y6 y7,
  Dl (gV 3) U8 (xs.map D.int) [s0,xU (.str ("abcdefghijklmnopqrstuvwxyz":Str)),xU (.ref G.length),x3,x4,x5,x6,x7] (G++[.lst (acc.map D.str)])=
   .nx [s0,xU (.str ("abcdefghijklmnopqrstuvwxyz":Str)),xU (.ref G.length),y3,y4,y5,y6,y7] (G++[.lst ((acc++nm).map D.str)])
 |[],acc,_,_=>⟨[],rfl,(λh=>by rw[qG];exact h),(λz hz=>nomatch hz),λG s0 x3 x4 x5 x6 x7=>⟨x3,x4,x5,x6,x7,by rw[zH,Gm,qG]⟩⟩
 | x::xs,acc,hx,hl=>by
  simp only[zD]at hl;obtain⟨a,ha0,ha⟩:=ZJ7 (names:=acc) (x:=x) (hx x (by simp)) (by lia);obtain⟨nm,hn,hd,hs,ih⟩:=ZDu xs (acc++[a]) (λy hy=>hx y (zZ _ hy)) (by simp;lia);refine⟨a::nm,by simp[hn],λh=>?_,λz hz=>?_,λG s0 x3 x4 x5 x6 x7=>?_⟩
  ·have h1:=hd (ZNX h ha0.1);rwa[zT]at h1
  ·rcases zJ.mp hz with rfl|hz
   ·exact ha0.2
   ·exact hs z hz
  obtain⟨z4,z5,z6,z7,hb⟩:=ha G s0 x4 x5 x6 x7;obtain⟨y3,y4,y5,y6,y7,hL⟩:=ih G s0 (xU (.int x)) z4 z5 z6 z7;refine⟨y3,y4,y5,y6,y7,?_⟩;rw[zQ,G7];simp only[El,R.H8,qX,hb,Ht];rw[hL,zT]
  rfl
theorem ZNt(hx:∀x∈xs,0<=x)(hl:xs.length<26):∃nm:List Str,nm.length=xs.length/\nm.Nodup/\(∀z∈nm,z≠"sea"/\Wd z)/\∀G,U0 [.fl (xs.map D.int)] G=.ok (.ref G.length) (G++[.lst (nm.map D.str)]):=by obtain⟨nm,hn,hd,hs,h⟩:=ZDu xs [] hx (by simpa using hl);refine⟨nm,hn,hd List.nodup_nil,hs,λG=>?_⟩;obtain⟨y3,y4,y5,y6,y7,hL⟩:=h G (xU (.fl (xs.map D.int))) vQ vQ vQ vQ vQ;simp only[zH,List.nil_append]at hL;have td:=Fp (G:=G) (ds:=nm.map D.str) (L:=[]) Dv;unfold U0 ZEf;rw[Be];generalize("abcdefghijklmnopqrstuvwxyz":Str)=AB at*;simp[Bo,Fp,hL,td]
def nmS(l:List Nat):Str:=if Aa l="sea" then "seat" else Aa l
def nmF(xs:List Int)(w:List Nat)(sz a:Nat)(k:Nat):List Nat:=cutD w vQ (xU (a:Int))++[97+((gx xs 10+5*(k:Int))%26).toNat]++cutD w (xU (a:Int)) (xU (sz:Int))
theorem ZEe(hxl:xs.length=24)(hw:w.length<=1000){sz a:Nat}{s0 s4 s5:Option D}{G:DH}:∀(m k:Nat)(acc:List Str)(x7 x8 x11:Option D),k+m<=12->acc.length+m<=1000->∃y7 y8 y11,
  Dl (gV 7) Rw (Do k m) [s0,xU (.str ("abcdefghijklmnopqrstuvwxyz":Str)),xU (.fl (xs.map D.int)),xU (.str (Aa w)),s4,s5,xU (.ref G.length),x7,x8,xU (.int sz),xU (.int a),x11] (G++[.lst (acc.map D.str)])=
   .nx [s0,xU (.str ("abcdefghijklmnopqrstuvwxyz":Str)),xU (.fl (xs.map D.int)),xU (.str (Aa w)),s4,s5,xU (.ref G.length),y7,y8,xU (.int sz),xU (.int a),y11] (G++[.lst ((acc++(qQ k m).map λk=>nmS (nmF xs w sz a k)).map D.str)])
 |0,k,acc,x7,x8,x11,e,h=>⟨x7,x8,x11,by rw[Lw,Gm];simp⟩
 | m+1,k,acc,x7,x8,x11,e,h=>by
  obtain⟨y7,y8,y11,ih⟩:=ZEe hxl hw (sz:=sz) (a:=a) (s0:=s0) (s4:=s4) (s5:=s5) (G:=G) m (k+1) (acc++[nmS (nmF xs w sz a k)]) (xU (.int k)) (xU (.str (nmS (nmF xs w sz a k)))) (xU (.str (Aa [97+((gx xs 10+5*(k:Int))%26).toNat]))) (by lia) (by simp;lia);refine⟨y7,y8,y11,?_⟩;have a10:atI (xs.map D.int) 10=xU (.int (gx xs 10)):=Fe (i:=10) (by lia);have m5:∀G,Ei (.int 5) (.int (k:Int)) G=.ok (.int (5*(k:Int))) G:=λG=>Nm (by lia) (by lia)
  have hi:=λG=>Uy (i:=(gx xs 10+5*(k:Int))%26) (by lia) (by lia) G
  have l1:=Xj w vQ (xU (a:Int));have l2:=Xj w (xU (a:Int)) (xU (sz:Int));have h1:=λG=>K9 (l:=w) (lo:=vQ) (hi:=xU (a:Int)) (by lia) G
  have h2:=λG=>K9 (l:=w) (lo:=xU (a:Int)) (hi:=xU (sz:Int)) (by lia) G
  have h3:=λG=>add_str (l:=cutD w vQ (xU (a:Int))) (l':=[97+((gx xs 10+5*(k:Int))%26).toNat]) (by simp;lia) G
  have h4:=λG=>add_str (l:=cutD w vQ (xU (a:Int))++[97+((gx xs 10+5*(k:Int))%26).toNat]) (l':=cutD w (xU (a:Int)) (xU (sz:Int))) (by simp;lia) G
  have hb:Rw [s0,xU (.str ("abcdefghijklmnopqrstuvwxyz":Str)),xU (.fl (xs.map D.int)),xU (.str (Aa w)),s4,s5,xU (.ref G.length),xU (.int k),x8,xU (.int sz),xU (.int a),x11] (G++[.lst (acc.map D.str)])=
    .nx [s0,xU (.str ("abcdefghijklmnopqrstuvwxyz":Str)),xU (.fl (xs.map D.int)),xU (.str (Aa w)),s4,s5,xU (.ref G.length),xU (.int k),xU (.str (nmS (nmF xs w sz a k))),xU (.int sz),xU (.int a),xU (.str (Aa [97+((gx xs 10+5*(k:Int))%26).toNat]))] (G++[.lst ((acc++[nmS (nmF xs w sz a k)]).map D.str)]):=by
   have hal:acc.length<1000000:=by lia
   unfold nmF nmS;generalize Aa (cutD w vQ (xU (a:Int))++[97+((gx xs 10+5*(k:Int))%26).toNat]++cutD w (xU (a:Int)) (xU (sz:Int)))=nm at*;generalize Aa (cutD w vQ (xU (a:Int))++[97+((gx xs 10+5*(k:Int))%26).toNat])=nm1 at*;generalize Aa (cutD w vQ (xU (a:Int)))=nm2 at*;generalize Aa [97+((gx xs 10+5*(k:Int))%26).toNat]=nm3 at*;generalize Aa (cutD w (xU (a:Int)) (xU (sz:Int)))=nm4 at*
   generalize Aa w=W at*;generalize("abcdefghijklmnopqrstuvwxyz":Str)=AB at*;unfold Rw;by_cases hs:nm="sea"
   ·have hs':(nm="sea")=True:=by simp[hs]
    simp[-Kv,-J1,-J8,a10,m5,hi,h1,h2,h3,h4,My,Er,Hi,hal,hs']
   ·simp[-Kv,-J1,-J8,a10,m5,hi,h1,h2,h3,h4,My,Er,Hi,hal,hs]
  rw[K8,G7];simp only[El,R.H8,qX,hb,Ht];have e1:((k:Int)+1)=((k+1:Nat):Int):=by lia
  rw[e1,ih,List.range'_succ,zQ,zT]
  rfl
noncomputable def wd0(xs:List Int):List Nat:=(xs.take 8).map λx=>97+(x%26).toNat
theorem ZJo(l:List Int)(G:DH):Cj (gV 0) Bp Xd [vQ,xU (.str ("abcdefghijklmnopqrstuvwxyz":Str))] (l.map D.int) G=.ok ((l.map λx=>97+(x%26).toNat).map sgn) G:=by
 induction l with
 |nil=>rfl
 |cons x l ih=>
  have hi:=Uy (i:=x%26) (by lia) (by lia) G;have he:Xd [xU (.int x),xU (.str ("abcdefghijklmnopqrstuvwxyz":Str))] G=.ok (sgn (97+(x%26).toNat)) G:=by have e2:sgn (97+(x%26).toNat)=.str (Aa [97+(x%26).toNat]):=rfl;rw[e2];generalize("abcdefghijklmnopqrstuvwxyz":Str)=AB at*;unfold Xd;simp[-Kv,hi]
  rw[zQ,Ew];simp[-Kv,he,ih]
theorem ZLL{cs:List Nat}(h:cs.length<=1000)(G:DH):Ez (.str ("":Str)) [.fl (cs.map sgn)] G=.ok (.str (Aa cs)) G:=by
 have h1:=ZEO (sep:=("":Str)) (ys:=cs.map λc=>(⟨#[c]⟩:Str)) (G:=G) (by
  have e:("":Str).length=0:=by decide +kernel
  rw[e]
  have:∀l:List Nat,((l.map λc=>(⟨#[c]⟩:Str)).map (·.length)).sum=l.length:=λl=>by
   induction l with
   |nil=>rfl
   |cons a l ih=>
    simp only[zQ,List.sum_cons,ih,zD];show 1+l.length=_;lia
  rw[this];lia)
 rw[ZMN,qk]at h1;exact h1
theorem addR{p:Nat}{xs ys:List D}(h:G[p]?=xU (.lst xs))(hl:xs.length+ys.length<=1000000):Ax (.ref p) (.fl ys) G=.ok (.ref G.length) (G++[.lst (xs++ys)]):=by simp[Ax,Jm,h,hl]
theorem slR{p:Nat}{xs:List D}(h:G[p]?=xU (.lst xs)):Jr (.ref p) lo hi G=.ok (.ref G.length) (G++[.lst (cutD xs lo hi)]):=by simp[Jr,Jm,h]
def sea2(x:Str):Str:=if x="sea" then "sa" else x
structure NmOk (nm:List Str):Prop where
 nd:nm.Nodup
 sea:∀z∈nm,z≠"sea"
 wd:∀z∈nm,Wd z
theorem Ie(h:Aa l=Aa l'):l=l':=by have h1:l.toArray=l'.toArray:=congrArg Str.cps h;simpa using h1
theorem O6:("sea":Str)=Aa [115,101,97]:=by decide +kernel
theorem ZBG:("sa":Str)=Aa [115,97]:=by decide +kernel
theorem ZAJ:("seat":Str)=Aa [115,101,97,116]:=by decide +kernel
theorem ZNv(h:sea2 (Aa l)=sea2 (Aa l'))(hp:∀a b,l=[115,a,b]->l'≠[115,97]∨a=97)(hp':∀a b,l'=[115,a,b]->l≠[115,97]∨a=97):l=l':=by
 unfold sea2 at h;split at h
 ·rename_i h1;rw[O6]at h1;have e:=Ie h1;split at h
  ·rename_i h2;rw[O6]at h2;rw[e,Ie h2]
  ·rw[ZBG]at h;have e2:=Ie h;rcases hp _ _ e with z|z
   ·exact absurd e2.symm z
   ·cases z
 ·split at h
  ·rename_i h2;rw[O6]at h2;have e:=Ie h2;rw[ZBG]at h;have e2:=Ie h;rcases hp' _ _ e with z|z
   ·exact absurd e2 z
   ·cases z
  ·exact Ie h
theorem ZHv(x:Str):sea2 x≠"sea":=by
 unfold sea2;split
 ·decide +kernel
 ·assumption
theorem ZHw(h:NmOk nm)(r:Nat):NmOk (nm.drop r++nm.take r):=by
 have p:List.Perm (nm.drop r++nm.take r) nm:=by have:=List.perm_append_comm (l₁:=nm.drop r) (l₂:=nm.take r);rwa[List.take_append_drop]at this
 exact⟨p.nodup_iff.mpr h.nd,λz hz=>h.sea z (p.mem_iff.mp hz),λz hz=>h.wd z (p.mem_iff.mp hz)⟩
theorem ZDe{l:List α}(h:∀i j(hi:i<l.length)(hj:j<l.length),l[i]=l[j]->i=j):l.Nodup:=by rw[List.nodup_iff_pairwise_ne,List.pairwise_iff_getElem];intro i j hi hj hij e;have:=h i j hi hj e;lia
theorem ZMI{l:List α}(h:l.Nodup){j:Nat}(hi:i<l.length)(hj:j<l.length)(e:l[i]=l[j]):i=j:=by
 rw[List.nodup_iff_pairwise_ne,List.pairwise_iff_getElem]at h;rcases qO i j with z|z|z
 ·exact absurd e (h i j hi hj z)
 ·exact z
 ·exact absurd e.symm (h j i hj hi z)
theorem Zh{x:Nat}{r:List Nat}:∀{m:Nat},(x::w).take m=a::r->x=a
 |0,h=>by cases h
 |m+1,h=>by rw[jQ]at h;exact(List.cons.inj h).1
theorem ZCt(h:LL l):Wd (sea2 (Aa l)):=by
 unfold sea2;split
 ·exact⟨[115,97],ZBG,by simp,by simp,by decide⟩
 ·exact⟨l,rfl,h⟩
theorem ZLB(h:LL l):Wd (nmS l):=by
 unfold nmS;split
 ·exact⟨[115,101,97,116],ZAJ,by simp,by simp,by decide⟩
 ·exact⟨l,rfl,h⟩
theorem ZEr(hc:97<=c/\c<123)(hw:∀x∈w,97<=x/\x<123)(hk:k<8):LL ((c::w).take (k+1)):=by
 refine⟨?_,?_,λx hx=>?_⟩
 ·rw[qy,zD];lia
 ·rw[qy];lia
 ·rcases zJ.mp (qq hx)with rfl|hx
  ·exact hc
  ·exact hw x hx
theorem ZNZ(hw:w.length=7)(hcd:c≠d)(hc':97<=c/\c<123)(hd':97<=d/\d<123)(hww:∀x∈w,97<=x/\x<123):NmOk ((((zv 8).map λk=>Aa ((c::w).take (k+1)))++(zv 4).map λk=>Aa ((d::w).take (k+1))).map sea2):=by
 refine⟨ZDe λi j hi hj e=>?_,λz hz=>?_,λz hz=>?_⟩
 ·clear hc' hd' hww;simp only[zK,zG,List.length_range]at hi hj;have g:∀i(h:i<((((zv 8).map λk=>Aa ((c::w).take (k+1)))++(zv 4).map λk=>Aa ((d::w).take (k+1))).map sea2).length),
    ((((zv 8).map λk=>Aa ((c::w).take (k+1)))++(zv 4).map λk=>Aa ((d::w).take (k+1))).map sea2)[i]=sea2 (Aa (if i<8 then c::w.take i else d::w.take (i-8))):=λi h=>by
   rw[List.getElem_map];by_cases h8:i<8
   ·rw[List.getElem_append_left (by simpa using h8),if_pos h8];simp
   ·rw[List.getElem_append_right (by simp;lia),if_neg h8];simp
  rw[g,g]at e;have key:=ZNv e ?_ ?_
  ·split at key<;>split at key
   ·have:=congrArg qj (List.cons.inj key).2;simp at this;lia
   ·exact absurd (List.cons.inj key).1 hcd
   ·exact absurd (List.cons.inj key).1.symm hcd
   ·have:=congrArg qj (List.cons.inj key).2;simp at this;lia
  all_goals
   intro a b h1;cases w with
   |nil=>cases hw
   | cons x w=>
    refine Classical.or_iff_not_imp_right.mpr λha h2=>?_
    have key:∀p q:Nat,(if p<8 then c::(x::w).take p else d::(x::w).take (p-8))=[115,a,b]->(if q<8 then c::(x::w).take q else d::(x::w).take (q-8))=[115,97]->False:=λp q z1 z2=>by
     have t1:∀m r,(x::w).take m=a::r->x=a:=λm r z=>Zh z
     split at z1<;>split at z2<;>exact ha ((Zh (List.cons.inj z1).2).symm.trans (Zh (List.cons.inj z2).2))
    exact key _ _ h1 h2
 ·obtain⟨x,_,rfl⟩:=zw.mp hz;exact ZHv x
 ·obtain⟨x,hx,rfl⟩:=zw.mp hz;rcases zB.mp hx with hx|hx
  ·obtain⟨k,hk,rfl⟩:=zw.mp hx;have:=qz.mp hk;exact ZCt (ZEr hc' hww this)
  ·obtain⟨k,hk,rfl⟩:=zw.mp hx;have:=qz.mp hk;exact ZCt (ZEr hd' hww (by lia))
theorem ZIM(hl:l.length=l'.length)(h:nmS l=nmS l'):l=l':=by
 unfold nmS at h;split at h
 ·rename_i h1;rw[O6]at h1;have e:=Ie h1;split at h
  ·rename_i h2;rw[O6]at h2;rw[e,Ie h2]
  ·rw[ZAJ]at h;rw[e,<-Ie h]at hl;cases hl
 ·split at h
  ·rename_i h2;rw[O6]at h2;rw[ZAJ]at h;rw[Ie h2,Ie h]at hl;cases hl
  ·exact Ie h
theorem ZKE(l:List Nat):nmS l≠"sea":=by
 unfold nmS;split
 ·decide +kernel
 ·assumption
theorem ZHy{X Y:List Nat}{g:Int}(hl:X.length+Y.length<=7)(hX:∀x∈X,97<=x/\x<123)(hY:∀x∈Y,97<=x/\x<123):NmOk ((qQ 0 12).map λk:Nat=>nmS (X++[97+((g+5*(k:Int))%26).toNat]++Y)):=by
 refine⟨ZDe λi j hi hj e=>?_,λz hz=>?_,λz hz=>?_⟩
 ·clear hl hX hY;simp only[zK,List.length_range']at hi hj;simp only[List.getElem_map,List.getElem_range',Nat.zero_add,Nat.one_mul]at e;have e1:=ZIM (by simp) e;have e2:=List.append_cancel_right e1;have e3:=List.append_cancel_left e2;have e4:97+((g+5*(i:Int))%26).toNat=97+((g+5*(j:Int))%26).toNat:=(List.cons.inj e3).1;omega +splitNatSub
 ·obtain⟨x,_,rfl⟩:=zw.mp hz;exact ZKE _
 ·obtain⟨x,_,rfl⟩:=zw.mp hz;refine ZLB ⟨by simp;lia,by simp;lia,λy hy=>?_⟩;rcases zB.mp hy with hy|hy
  ·rcases zB.mp hy with hy|hy
   ·exact hX y hy
   ·rw[qD.mp hy];lia
  ·exact hY y hy
theorem ZNA:∀i,i<26->Txt.find ("abcdefghijklmnopqrstuvwxyz":Str) (Aa [97+i])=(i:Int):=by decide +kernel
theorem ZJa{p:Nat}{l:List Str}(h:G[p]?=xU (.lst (l.map D.str))):Hf p (gV 0) Bp Uq [vQ] l.length 0 G=.ok ((l.map sea2).map D.str) G:=by
 have h1:=ZMJ (g:=gV 0) (c:=Bp) (te:=Uq) (S:=[vQ]) (F:=λd=>match d with
  |.str x=>xU (.str (sea2 x))
  | _=>vQ) h (λx hx=>by
   obtain⟨y,_,rfl⟩:=zw.mp hx;refine⟨[xU (.str y)],rfl,.inr ⟨rfl,.str (sea2 y),?_,rfl⟩⟩;have fz:freeze G (.ok (.ref G.length) (G++[.lst [.str y,.str "sa"]]))=.ok (.fl [.str y,.str "sa"]) G:=Ce rfl;unfold Uq sea2;by_cases hs:y="sea"
   ·have hs':(y="sea")=True:=by simp[hs]
    simp[fz,hs']
   ·simp[fz,hs])
 rw[zK]at h1;rw[h1,qL,qk]
 congr 1
 show List.filterMap (λx=>xU ((D.str∘sea2) x)) l=_;rw[List.filterMap_eq_map']
theorem ZJj(hw:w.length<=1000)(n:Nat)(G:DH):Cj (gV 0) Bp Yr [vQ,xU (.str (Aa w))] (Do 0 n) G=.ok (((zv n).map λk:Nat=>Aa (cutD w vQ (xU ((k:Int)+1)))).map D.str) G:=by
 rw[qk];exact ZBc (te:=Yr) (S:=[vQ,xU (.str (Aa w))]) λk _=>by have h:=K9 (l:=w) (lo:=vQ) (hi:=xU ((k:Int)+1)) (by lia) G;unfold Yr;simp[-J8,h,My]
theorem ZMu(hw:w.length<=1000)(n:Nat)(G:DH):Cj (gV 0) Bp T3 [vQ,xU (.str (Aa w))] (Do 0 n) G=.ok (((zv n).map λk:Nat=>Aa (cutD w vQ (xU ((k:Int)+1)))).map D.str) G:=by
 rw[qk];exact ZBc (te:=T3) (S:=[vQ,xU (.str (Aa w))]) λk _=>by have h:=K9 (l:=w) (lo:=vQ) (hi:=xU ((k:Int)+1)) (by lia) G;unfold T3;simp[-J8,h,My]
theorem Sw{xs:List α}{x:α}(h:x∈cutD xs lo hi):x∈xs:=by unfold cutD at h;exact q9 (qq h)
theorem ZIj{xs:List α}(hab:a<=b)(hb:b<=xs.length):cutD xs (xU (a:Int)) (xU (b:Int))=(xs.drop a).take (b-a):=by
 have h1:=(Jg xs.length (a:Int)).2;have h2:=(Jg xs.length (b:Int)).1;have e1:HT.sIx xs.length 0 (xU (a:Int))=a:=by lia
 have e2:HT.sIx xs.length xs.length (xU (b:Int))=b:=by lia
 unfold cutD;rw[e1,e2]
theorem ZKq(hxl:xs.length=24)(hx:∀x∈xs,0<=x)(hw8:w.length=7)(hc:97<=c/\c<123)(hww:∀x∈w,97<=x/\x<123):∃nm:List Str,nm.length=12/\NmOk nm/\∀(G:DH)(s0:Option D),∃k L,
  Rk [s0,xU (.str ("abcdefghijklmnopqrstuvwxyz":Str)),xU (.fl (xs.map D.int)),xU (.str (Aa (c::w))),vQ,vQ,vQ,vQ,vQ,vQ,vQ,vQ] G=.rt (.ref (G.length+k)) (G++L)/\L[k]?=xU (.lst (nm.map D.str)):=by
 have hw:(c::w).length<=100:=by simp[hw8]
 have a8:atI (xs.map D.int) 8=xU (.int (gx xs 8)):=Fe (i:=8) (by lia);have a9:atI (xs.map D.int) 9=xU (.int (gx xs 9)):=Fe (i:=9) (by lia);have a10:atI (xs.map D.int) 10=xU (.int (gx xs 10)):=Fe (i:=10) (by lia);by_cases h8:gx xs 8%3=0
 ·obtain⟨t,et⟩:∃t:Int,(Txt.find ("abcdefghijklmnopqrstuvwxyz":Str) (Aa [c])+1+gx xs 9%25)%26=t:=⟨_,rfl⟩;have ht:0<=t/\t<26:=by lia
  let o:List Nat:=[97+t.toNat]++cutD (c::w) (xU 1) vQ;obtain⟨r,hr⟩:∃r:Nat,gx xs 10%12=r:=⟨(gx xs 10%12).toNat,by lia⟩;have hr12:r<12:=by lia
  obtain⟨A,hA⟩:∃A:List Str,((zv 8).map λk:Nat=>Aa (cutD (c::w) vQ (xU ((k:Int)+1))))=A:=⟨_,rfl⟩;obtain⟨B,hB⟩:∃B:List Str,((zv 4).map λk:Nat=>Aa (cutD o vQ (xU ((k:Int)+1))))=B:=⟨_,rfl⟩;have lA:A.length=8:=by rw[<-hA];simp
  have lB:B.length=4:=by rw[<-hB];simp
  have eA:A=(zv 8).map λk=>Aa ((c::w).take (k+1)):=by
   rw[<-hA];refine qU λk hk=>?_
   have hk':=qz.mp hk;have e:(k:Int)+1=((k+1:Nat):Int):=by lia
   rw[e,Mj (by simp[hw8];lia)]
  have eo:o=(97+t.toNat)::w:=by
   show[97+t.toNat]++cutD (c::w) (xU 1) vQ=_;have e:cutD (c::w) (xU ((1:Nat):Int)) vQ=(c::w).drop 1:=Ln (by simp);have e':cutD (c::w) (xU 1) vQ=w:=e;rw[e']
   rfl
  have eB:B=(zv 4).map λk=>Aa (((97+t.toNat)::w).take (k+1)):=by
   rw[<-hB,eo];refine qU λk hk=>?_
   have hk':=qz.mp hk;have e:(k:Int)+1=((k+1:Nat):Int):=by lia
   rw[e,Mj (by simp[hw8];lia)]
  have hcd:c≠97+t.toNat:=by have hf:=ZNA (c-97) (by lia);rw[show 97+(c-97)=c by lia]at hf;rw[hf]at et;lia
  have hok:NmOk (((A++B).map sea2).drop r++((A++B).map sea2).take r):=ZHw (by rw[eA,eB];exact ZNZ hw8 hcd hc (by lia) hww) r;refine⟨((A++B).map sea2).drop r++((A++B).map sea2).take r,by simp[lA,lB];lia,hok,λG s0=>?_⟩;clear hok eA eB eo;have l1:=Xj (c::w) (xU 1) vQ;have c1:=λG=>ZJj (w:=c::w) (by lia) 8 G
  have c2:=λG=>ZMu (w:=o) (by simp[o];lia) 4 G
  rw[hA]at c1;rw[hB]at c2;have hi:=λG=>Uy (i:=t) ht.1 ht.2 G
  have h0:=λG=>ZJ1 (c:=c) (l:=w) (by lia) G
  have h1:=λG=>K9 (l:=c::w) (lo:=xU 1) (hi:=vQ) (by lia) G
  have h2:=λG=>add_str (l:=[97+t.toNat]) (l':=cutD (c::w) (xU 1) vQ) (by simp;lia) G
  have e2:Aa ([97+t.toNat]++cutD (c::w) (xU 1) vQ)=Aa o:=rfl;rw[e2]at h2
  clear_value o
  have r8:inR 8:=J0 (by lia) (by lia);have r4:inR 4:=J0 (by lia) (by lia);have lA':(A.map D.str).length<=1000000:=by simp[lA]
  have lB':(B.map D.str).length<=1000000:=by simp[lB]
  have hAB:A.map D.str++B.map D.str=(A++B).map D.str:=by simp
  have lAB:(A.map D.str).length+(B.map D.str).length<=1000000:=by simp[lA,lB]
  have ad:=addR (p:=G.length) (xs:=A.map D.str) (ys:=B.map D.str) (G:=G++[.lst (A.map D.str)]) (by rw[Er];rfl) lAB;rw[hAB]at ad;have fzB:freeze (G++[.lst (A.map D.str)]) (.ok (.ref (G.length+1)) (G++[.lst (A.map D.str),.lst (B.map D.str)]))=.ok (.fl (B.map D.str)) (G++[.lst (A.map D.str)]):=ZCX Dv;have td1:tidy (G++[.lst (A.map D.str)]) (.ok (.ref (G.length+1)) (G++[.lst (A.map D.str),.lst ((A++B).map D.str)]))=.ok (.ref (G.length+1)) (G++[.lst (A.map D.str),.lst ((A++B).map D.str)]):=ZIq Dv
  have g2:(G++[DO.lst (A.map D.str),DO.lst ((A++B).map D.str)])[G.length+1]?=xU (.lst ((A++B).map D.str)):=by simp
  have sc:=ZJa g2;have lC:((A++B).map D.str).length=(A++B).length:=by simp
  have lS:((A++B).map sea2).length=12:=by simp[lA,lB]
  have lAB2:(A++B).length=12:=by simp[lA,lB]
  generalize(A++B).map sea2=C at sc lS⊢;generalize A++B=Q at*;have lC':(C.map D.str).length<=1000000:=by simp[lS]
  have ct:cutD (C.map D.str) vQ (xU (r:Int))=(C.take r).map D.str:=by rw[Mj (by simp;lia),List.map_take]
  have cd:cutD (C.map D.str) (xU (r:Int)) vQ=(C.drop r).map D.str:=by rw[Ln (by simp;lia),List.map_drop]
  have sl1:=λlo hi=>slR (p:=G.length+2) (xs:=C.map D.str) (lo:=lo) (hi:=hi) (G:=G++[.lst (A.map D.str),.lst (Q.map D.str),.lst (C.map D.str)]) (by simp)
  have fz3:∀ls:List Str,freeze (G++[.lst (A.map D.str),.lst (Q.map D.str),.lst (C.map D.str)]) (.ok (.ref (G.length+3)) (G++[.lst (A.map D.str),.lst (Q.map D.str),.lst (C.map D.str),.lst (ls.map D.str)]))=.ok (.fl (ls.map D.str)) (G++[.lst (A.map D.str),.lst (Q.map D.str),.lst (C.map D.str)]):=λls=>by have:=Ce (G:=G++[.lst (A.map D.str),.lst (Q.map D.str),.lst (C.map D.str)]) (ds:=ls.map D.str) (L:=[]) Dv;simpa using this
  have lcc:((C.drop r).map D.str).length+((C.take r).map D.str).length<=1000000:=by simp[lS];lia
  have fzd:=fz3 (C.drop r);have fzt:=fz3 (C.take r);refine⟨3,[.lst (A.map D.str),.lst (Q.map D.str),.lst (C.map D.str),.lst ((C.drop r++C.take r).map D.str)],?_,rfl⟩;rw[j5];generalize(C.drop r).map D.str=X1 at*;generalize(C.take r).map D.str=X2 at*;generalize C.map D.str=X3 at*;have it2:Hg (.ref (G.length+1)) (G++[DO.lst (A.map D.str),DO.lst (Q.map D.str)])=.ok (.mt (G.length+1)) (G++[DO.lst (A.map D.str),DO.lst (Q.map D.str)]):=by simp[Hg]
  rw[lAB2]at sc;have lQ:(Q.map D.str).length=12:=by rw[zK,lAB2]
  generalize Q.map D.str=X4 at*;generalize A.map D.str=X5 at*;generalize B.map D.str=X6 at*;have cs1:∀a b c d e f' g h i j k' l:Option D,Bq 1 [3] [a,b,c,d,e,f',g,h,i,j,k',l]=[vQ,d]:=λ_ _ _ _ _ _ _ _ _ _ _ _=>rfl
  have cs2:∀a b c d e f' g h i j k' l:Option D,Bq 1 [5] [a,b,c,d,e,f',g,h,i,j,k',l]=[vQ,f']:=λ_ _ _ _ _ _ _ _ _ _ _ _=>rfl
  have cs3:∀S:DSt,Bq 1 [] S=[vQ]:=λ_=>rfl
  generalize Aa o=O at*;generalize Aa (cutD (c::w) (xU 1) vQ)=O1 at*;generalize Aa [97+t.toNat]=O2 at*;generalize Aa (c::w)=O3 at*;generalize Aa [c]=O4 at*;generalize("abcdefghijklmnopqrstuvwxyz":Str)=AL at*;unfold Rk;simp[-Kv,-J1,-J8,a8,a9,a10,h8,h0,et,hi,h1,My,h2,r8,cs1,c1,lA',r4,cs2,c2,lB',fzB,ad,td1,it2,g2,lQ,cs3,sc,lC',hr,sl1,ct,cd,fzd,fzt,lcc]
 ·obtain⟨sz,hsz⟩:∃sz:Nat,gx xs 8/3%8=sz:=⟨(gx xs 8/3%8).toNat,by lia⟩;obtain⟨a,ha⟩:∃a:Nat,gx xs 9%((sz:Int)+1)=a:=⟨(gx xs 9%((sz:Int)+1)).toNat,by have:=qV (gx xs 9) (show((sz:Int)+1)≠0 by lia);lia⟩
  have hasz:a<=sz:=by have:=qW (gx xs 9) (show(0:Int)<(sz:Int)+1 by lia);lia
  refine⟨(qQ 0 12).map λk=>nmS (nmF xs (c::w) sz a k),by simp,ZHy (by have h1:(cutD (c::w) vQ (xU (a:Int)))=(c::w).take a:=Mj (by simp[hw8];lia);have h2:=ZIj (xs:=c::w) (a:=a) (b:=sz) (by lia) (by simp[hw8];lia);rw[h1,h2];simp;lia) (λx hx=>by have:=Sw hx;rcases zJ.mp this with rfl|h;exact hc;exact hww x h) (λx hx=>by have:=Sw hx;rcases zJ.mp this with rfl|h;exact hc;exact hww x h),λG s0=>?_⟩
  obtain⟨y7,y8,y11,hL⟩:=ZEe hxl (w:=c::w) (by lia) (sz:=sz) (a:=a) (s0:=s0) (s4:=vQ) (s5:=vQ) (G:=G) 12 0 [] vQ vQ vQ (by lia) (by simp);have hL':Dl (gV 7) Rw (Do 0 12) [s0,xU (.str ("abcdefghijklmnopqrstuvwxyz":Str)),xU (.fl (xs.map D.int)),xU (.str (Aa (c::w))),vQ,vQ,xU (.ref G.length),vQ,vQ,xU (.int sz),xU (.int a),vQ] (G++[.lst []])=_:=hL;rw[List.nil_append]at hL'
  refine⟨0,[.lst (((qQ 0 12).map λk=>nmS (nmF xs (c::w) sz a k)).map D.str)],?_,rfl⟩;generalize((qQ 0 12).map λk=>nmS (nmF xs (c::w) sz a k)).map D.str=Z at*;generalize Aa (c::w)=W at*;generalize("abcdefghijklmnopqrstuvwxyz":Str)=AL at*;have r12:inR 12:=J0 (by lia) (by lia);have hp:(0:Int)<(sz:Int)+1:=by lia
  unfold Rk ZGQ ZD8 ZHP ZFr ZDy;simp[a8,a9,h8,hsz,hp,ha,Bo,Fp,r12,hL']
theorem ZOG:∃nm:List Str,nm.length=12/\NmOk nm/\∀G,Kl [.int cell] G=.ok (.ref G.length) (G++[.lst (nm.map D.str)]):=by
 have hst:∀G,freeze G (Ly [.int cell,.int 0,.int 24] G)=.ok (.fl ((Hx cell 0 24).map D.int)) G:=λG=>ZDF (cell:=cell) (k:=0) (n:=24) (by lia) (by lia) G
 have hxl:(Hx cell 0 24).length=24:=ZEj;have hx:∀x∈Hx cell 0 24,0<=x:=ZGN;generalize Hx cell 0 24=xs at*;have a10:atI (xs.map D.int) 10=xU (.int (gx xs 10)):=Fe (i:=10) (by lia);have a11:atI (xs.map D.int) 11=xU (.int (gx xs 11)):=Fe (i:=11) (by lia);by_cases h11:2147483647<gx xs 11
 ·obtain⟨nm,hn,hnd,hns,hf⟩:=ZNt (xs:=(xs.drop 11).take (23-11)) (λx h=>hx x (q9 (qq h))) (by simp;lia);refine⟨nm,by rw[hn];simp;lia,⟨hnd,λz h=>(hns z h).1,λz h=>(hns z h).2⟩,λG=>?_⟩;have cu:=ZBW (xs:=xs) (a:=11) (b:=23) (by lia) (by lia);have cu':cutD (xs.map D.int) (xU 11) (xU 23)=((xs.drop 11).take (23-11)).map D.int:=cu;generalize(xs.drop 11).take (23-11)=ys at*
  have fz:freeze G (.ok (.ref G.length) (G++[.lst (ys.map D.int)]))=.ok (.fl (ys.map D.int)) G:=Ce Jj;have td:=Fp (G:=G) (ds:=nm.map D.str) (L:=[]) Dv;generalize nm.map D.str=N at*;unfold Kl Qm S7 Qu;rw[Be];simp[hst,a11,h11,cu',fz,hf,td]
 ·have cu':cutD (xs.map D.int) vQ (xU 8)=(xs.take 8).map D.int:=by rw[List.map_take];exact Mj (a:=8) (by simp;lia)
  have lw:(wd0 xs).length=8:=by simp[wd0];lia
  have wd_let:∀x∈wd0 xs,97<=x/\x<123:=λx hx=>by obtain⟨y,_,rfl⟩:=zw.mp hx;lia
  have wc:=λG=>ZJo (xs.take 8) G
  have jw:=λG=>ZLL (cs:=wd0 xs) (by lia) G
  have fz:∀G:DH,freeze G (.ok (.ref G.length) (G++[.lst ((wd0 xs).map sgn)]))=.ok (.fl ((wd0 xs).map sgn)) G:=λG=>Ce (Gs λ_ _=>rfl)
  have fzi:∀G:DH,freeze G (.ok (.ref G.length) (G++[.lst ((xs.take 8).map D.int)]))=.ok (.fl ((xs.take 8).map D.int)) G:=λG=>Ce Jj
  have ew:(xs.take 8).map (λx=>97+(x%26).toNat)=wd0 xs:=rfl;rw[ew]at wc;have cs1:∀a b c d e f' g h i j k' l:Option D,Bq 1 [1] [a,b,c,d,e,f',g,h,i,j,k',l]=[vQ,b]:=λ_ _ _ _ _ _ _ _ _ _ _ _=>rfl
  have lw2:(wd0 xs).length<=1000000:=by lia
  generalize(xs.take 8).map D.int=X8 at*;have fin:∃(c:Nat)(w:List Nat),w.length=7/\(97<=c/\c<123)/\(∀x∈w,97<=x/\x<123)/\∀G,Kl [.int cell] G=tidy G (Rk [xU (.int cell),xU (.str ("abcdefghijklmnopqrstuvwxyz":Str)),xU (.fl (xs.map D.int)),xU (.str (Aa (c::w))),vQ,vQ,vQ,vQ,vQ,vQ,vQ,vQ] G).ret:=by
   by_cases h10:gx xs 10/26%4=0
   ·have l5:(cutD (wd0 xs) (xU 3) vQ).length=5:=by have:=Ln (xs:=wd0 xs) (a:=3) (by lia);have e3:cutD (wd0 xs) (xU 3) vQ=(wd0 xs).drop 3:=this;rw[e3,qH,lw]
    have s3:=λG=>K9 (l:=wd0 xs) (lo:=xU 3) (hi:=vQ) (by lia) G
    have fz2:∀G:DH,freeze G (.ok (.ref G.length) (G++[.lst [.str "sea",.str "none"]]))=.ok (.fl [.str "sea",.str "none"]) G:=λG=>Ce rfl
    have key:∀(c:Nat)(l0:List Nat),l0.length=2∨l0.length=3->∀G,Ax (.str (Aa (c::l0))) (.str (Aa (cutD (wd0 xs) (xU 3) vQ))) G=.ok (.str (Aa (c::(l0++cutD (wd0 xs) (xU 3) vQ)))) G/\Jr (.str (Aa (c::(l0++cutD (wd0 xs) (xU 3) vQ)))) vQ (xU 8) G=.ok (.str (Aa (c::(l0++cutD (wd0 xs) (xU 3) vQ).take 7))) G:=λc l0 h0 G=>by
     refine⟨add_str (l:=c::l0) (l':=cutD (wd0 xs) (xU 3) vQ) (by simp[l5];lia) G,?_⟩;rw[K9 (by simp[l5];lia)];have:=Mj (xs:=c::(l0++cutD (wd0 xs) (xU 3) vQ)) (a:=8) (by simp[l5];lia);have e8:cutD (c::(l0++cutD (wd0 xs) (xU 3) vQ)) vQ (xU 8)=(c::(l0++cutD (wd0 xs) (xU 3) vQ)).take 8:=this;rw[e8,jQ]
    rcases(by lia:gx xs 10/104%2=0∨gx xs 10/104%2=1)with z|z
    ·have es:("sea":Str)=Aa (115::[101,97]):=by decide +kernel
     have k1:=λG=>(key 115 [101,97] (by simp) G).1
     have k2:=λG=>(key 115 [101,97] (by simp) G).2
     refine⟨115,([101,97]++cutD (wd0 xs) (xU 3) vQ).take 7,by simp[l5],by lia,(λx hx=>by rcases zB.mp (qq hx)with h|h;(simp at h;lia);exact wd_let x (Sw h)),λG=>?_⟩;rw[<-es]at k1;generalize Aa (115::([101,97]++cutD (wd0 xs) (xU 3) vQ))=Q1 at*;generalize Aa (115::([101,97]++cutD (wd0 xs) (xU 3) vQ).take 7)=Q2 at*;generalize Aa (cutD (wd0 xs) (xU 3) vQ)=Q3 at*
     generalize Aa (wd0 xs)=Q4 at*;unfold Kl Qm S7 Qu T4 Y8;rw[Be];generalize("abcdefghijklmnopqrstuvwxyz":Str)=AL at*;simp[-J1,-J8,hst,a11,h11,cu',fzi,cs1,wc,lw2,fz,jw,a10,h10,z,fz2,s3,My,k1,k2]
    ·have es:("none":Str)=Aa (110::[111,110,101]):=by decide +kernel
     have k1:=λG=>(key 110 [111,110,101] (by simp) G).1
     have k2:=λG=>(key 110 [111,110,101] (by simp) G).2
     refine⟨110,([111,110,101]++cutD (wd0 xs) (xU 3) vQ).take 7,by simp[l5],by lia,(λx hx=>by rcases zB.mp (qq hx)with h|h;(simp at h;lia);exact wd_let x (Sw h)),λG=>?_⟩;rw[<-es]at k1;generalize Aa (110::([111,110,101]++cutD (wd0 xs) (xU 3) vQ))=Q1 at*;generalize Aa (110::([111,110,101]++cutD (wd0 xs) (xU 3) vQ).take 7)=Q2 at*;generalize Aa (cutD (wd0 xs) (xU 3) vQ)=Q3 at*
     generalize Aa (wd0 xs)=Q4 at*;unfold Kl Qm S7 Qu T4 Y8;rw[Be];generalize("abcdefghijklmnopqrstuvwxyz":Str)=AL at*;simp[-J1,-J8,hst,a11,h11,cu',fzi,cs1,wc,lw2,fz,jw,a10,h10,z,fz2,s3,My,k1,k2]
   ·cases hcw:wd0 xs with
    |nil=>rw[hcw]at lw;cases lw
    | cons c w=>
     have hc97:97<=c/\c<123:=by
      have hm:c∈wd0 xs:=by rw[hcw];exact zy
      obtain⟨y,_,rfl⟩:=zw.mp hm;lia
     refine⟨c,w,by rw[hcw]at lw;simpa using lw,hc97,(λx hx=>wd_let x (by rw[hcw];exact zZ _ hx)),λG=>?_⟩;rw[<-hcw];generalize Aa (wd0 xs)=Q4 at*;unfold Kl Qm S7 Qu T4 Y8;rw[Be];generalize("abcdefghijklmnopqrstuvwxyz":Str)=AL at*;simp[hst,a11,h11,cu',fzi,cs1,wc,lw2,fz,jw,a10,h10]
  obtain⟨c,w,hw,hc,hww,hf⟩:=fin;obtain⟨nm,hn,hok,ht⟩:=ZKq hxl hx hw hc hww;refine⟨nm,hn,hok,λG=>?_⟩;obtain⟨k,L,h1,h2⟩:=ht G (xU (.int cell));rw[hf,h1];exact ZC6 L h2 Dv
noncomputable def Hb(nm:List Str)(k:Nat):Str:=nm.getD k ""
theorem R6(h:k<nm.length):nm[k]=Hb nm k:=by simp[Hb,zF,zY h]
def Rq(nm:List Str):Option Nat->Str
 |none=>"sea"
 |some d=>(Hb nm d)
def Oz(nm:List Str):Option (Nat×Nat×Int)->D
 |none=>.non
 |some (to,dl,m)=>.tup [.str ((Hb nm to)),.int dl,.int m]
def Jd(nm:List Str)(p:Pl):D:=match p.kd with
 |.basin b r q=>.tup [.str "basin",.str p.nm,.str (Rq nm p.dn),.int p.dl,.int b,.tup (r.map Ay),Oz nm q]
 |.town a b=>.tup [.str "town",.str p.nm,.str (Rq nm p.dn),.int p.dl,.int a,.int b]
 |.mill a=>.tup [.str "mill",.str p.nm,.str (Rq nm p.dn),.int p.dl,.int a]
structure PlG (n k:Nat) (p:Pl):Prop where
 dn:∀d,p.dn=xU d->k<d/\d<n
 dl:p.dl<=5
 pump:∀b r to dl m,p.kd=.basin b r (xU (to,dl,m))->to<n/\1<=dl/\dl<=5
 brim:∀b r q,p.kd=.basin b r q->0<=b/\∀s∈r,Good 0 s.2
 town:∀a b,p.kd=.town a b->0<=a/\0<=b
 nop:∀b r,p.kd=.basin b r vQ->∀s∈r,∀t∈s.2,t.r=vZ
def Asc(yr:Int):Int->List Ssn->Prop
 |_,[]=>True
 |a,s::r=>a<s.1/\s.1<yr/\Asc yr s.1 r
theorem Mr{x:Int}:number x cell<10^38:=by
 unfold number;split
 ·decide
 split
 ·exact qW _ (by decide)
 split
 ·exact qW _ (by decide)
 ·lia
def Stp40(s:Stp):Prop:=(0<=s.h/\s.h<10^40)/\(0<=s.m/\s.m<=10^38)
theorem ZG1{p:Bool}:∀(n j:Nat)(top:Int),0<=top->top+(n:Int)*(2*10^38)<10^40->∀t∈stF xs big p n j top,Stp40 t
 |0,_,_,_,_,t,h=>nomatch h
 |n+1,j,top,h0,hb,t,h=>by
  have h1:=Jz (x:=gx xs (1+2*j)) (cell:=big);have h2:=Jz (x:=gx xs (2+2*j)) (cell:=big);have h3:=Mr (x:=gx xs (1+2*j)) (cell:=big);have h4:=Mr (x:=gx xs (2+2*j)) (cell:=big);have e:((n+1:Nat):Int)*(2*10^38)=(n:Int)*(2*10^38)+2*10^38:=by rw[Int.natCast_add,Int.add_mul];rfl
  have h5:0<=(n:Int)*(2*10^38):=j8 (by lia) (by decide);rw[e]at hb;unfold stF at h;rcases zJ.mp h with rfl|h
  ·exact⟨⟨by show 0<=top+number (gx xs (1+2*j)) big;lia,by show top+number (gx xs (1+2*j)) big<10^40;lia⟩,by show 0<=1+number (gx xs (2+2*j)) big;lia,by show 1+number (gx xs (2+2*j)) big<=10^38;lia⟩
  ·exact ZG1 n (j+1) _ (by lia) (by lia) t h
theorem T9{p:Bool}:∀(m j:Nat)(b:Int),∀s∈ruF xs big yr p m j b,s.2.length<=3/\∀t∈s.2,Stp40 t
 |0,_,_,s,h=>nomatch h
 | m + 1,j,b,s,h=>by
  unfold ruF at h;split at h
  ·rcases zJ.mp h with rfl|h
   ·refine⟨?_,ZG1 _ _ _ (jx _) ?_⟩
    ·show(stF _ _ _ _ _ _).length<=3;rw[ZAt];lia
    ·have:((gx ((xs.drop (3+7*j)).take 7) 0%4).toNat:Int)<=3:=by lia
     generalize((gx ((xs.drop (3+7*j)).take 7) 0%4).toNat:Int)=q at this;lia
   ·exact T9 m _ _ s h
  ·exact T9 m _ _ s h
theorem ZGG:∀{st:List Stp},(∀t∈st,Stp40 t)->(pmps st).sum<=(st.length:Int)*10^38
 |[],_=>by show(0:Int)<=((0:Nat):Int)*10^38;decide
 |s::st,h=>by
  have ih:=ZGG λt ht=>h t (zZ _ ht)
  have hm:=(h s zy).2;have e:(((s::st).length:Nat):Int)*10^38=(st.length:Int)*10^38+10^38:=by rw[zD,Int.natCast_add,Int.add_mul];rfl
  rw[e];unfold pmps at ih⊢;rw[jy];split
  ·rw[zQ,List.sum_cons];lia
  ·lia
structure PlW (yr:Int) (k:Nat) (p:Pl):Prop where
 ub:match p.kd with
  |.mill a=>a<10^40
  |.town a b=>a<10^40/\b<10^40
  |.basin b r q=>b<10^40/\(r.length<=3/\∀s∈r,s.2.length<=3/\∀t∈s.2,Stp40 t)/\∀to dl m,q=xU (to,dl,m)->m<10^40
 mill:∀a,p.kd=.mill a->0<=a
 asc:∀b r q,p.kd=.basin b r q->Asc yr (-1) r/\(∃st r',r=(0,st)::r')/\(∀s∈r,s.2.length<=1000)
 pq:∀b r to dl m,p.kd=.basin b r (xU (to,dl,m))->to≠k/\0<=m/\∀s∈r,(pmps s.2).sum<=m
theorem ZFW:∀{st:List Stp}{t:Int},Good t st->0<=(pmps st).sum
 |[],_,_=>jx _
 |s::st,t,h=>by
  have ih:=ZFW h.2.2;unfold pmps at ih⊢;rw[jy];split
  ·rw[zQ,List.sum_cons];have:=h.2.1;lia
  ·exact ih
theorem Tw{p:Bool}:∀(m j:Nat)(b a:Int),a<b->(j=0->b<yr)->Asc yr a (ruF xs big yr p m j b)
 |0,_,_,_,_,_=>trivial
 | m+1,j,b,a,h,hj=>by
  unfold ruF;split
  ·rename_i hc;refine⟨h,?_,Tw m (j+1) _ _ ?_ (λz=>by lia)⟩
   ·rcases hc with z|z
    ·exact hj z
    ·exact z.2
   ·show b<b+1+gx xs j/3%9;lia
  ·exact Tw m (j+1) b a h λz=>by lia
theorem ZGv{p:Bool}:∃st r',ruF xs big yr p 3 0 0=(0,st)::r':=by unfold ruF;rw[if_pos (.inl rfl)];exact⟨_,_,rfl⟩
theorem ZKi{n:Nat}{g:Int}(hn:1<n)(hk:k<n){t:Nat}(e:((k:Int)+1+g%((n:Int)-1))%(n:Int)=t):t≠k:=λz=>by
 subst z;have h1:=qV g (show(n:Int)-1≠0 by lia);have h2:=qW g (show(0:Int)<(n:Int)-1 by lia);generalize g%((n:Int)-1)=q at*;by_cases hq:(t:Int)+1+q<n
 ·rw[Int.emod_eq_of_lt (by lia) hq]at e;lia
 ·have e2:((t:Int)+1+q)%n=(t:Int)+1+q-n:=by rw[<-Int.sub_emod_right,Int.emod_eq_of_lt (by lia) (by lia)]
  lia
theorem ZHS{xs:List Int}{big:Int}{p:Bool}:∀(n j:Nat)(top:Int),Good top (stF xs big p n j top)/\(p=vJ->∀t∈stF xs big p n j top,t.r=vZ)
 |0,_,_=>⟨trivial,λ_ t h=>nomatch h⟩
 | n+1,j,top=>by
  have ih:=ZHS (xs:=xs) (big:=big) (p:=p) n (j+1) (top+number (gx xs (1+2*j)) big+(1+number (gx xs (2+2*j)) big));have h1:=Jz (x:=gx xs (1+2*j)) (cell:=big);have h2:=Jz (x:=gx xs (2+2*j)) (cell:=big);refine⟨⟨?_,?_,ih.1⟩,λhp t ht=>?_⟩
  ·show top<=top+number (gx xs (1+2*j)) big;lia
  ·show 1<=1+number (gx xs (2+2*j)) big;lia
  ·rcases zJ.mp ht with rfl|ht
   ·rw[hp];rfl
   ·exact ih.2 hp t ht
theorem Vf{p:Bool}:∀(m j:Nat)(b:Int),∀s∈ruF xs big yr p m j b,Good 0 s.2/\(p=vJ->∀t∈s.2,t.r=vZ)
 |0,_,_,s,h=>nomatch h
 | m+1,j,b,s,h=>by
  unfold ruF at h;split at h
  ·rcases zJ.mp h with rfl|h
   ·exact ZHS _ _ _
   ·exact Vf m _ _ s h
  ·exact Vf m _ _ s h
theorem ZCa(h:i<nm.length):atI (nm.map D.str) (i:Int)=xU (.str nm[i]):=Gh rfl (by rw[zR,zY h];rfl)
theorem add3{t nm dn:Str}{dl:Int}(h:ds.length<=100)(G:DH):Ax (.tup [.str t]) (.tup [.str nm,.str dn,.int dl]) G=.ok (.tup [.str t,.str nm,.str dn,.int dl]) G/\Ax (.tup [.str t,.str nm,.str dn,.int dl]) (.tup ds) G=.ok (.tup (.str t:: .str nm:: .str dn:: .int dl::ds)) G:=by
 refine⟨rfl,?_⟩;rw[Nk,if_pos ⟨by simp,by simp;lia⟩]
 rfl
theorem ZOx(hnm:nm.length=12){n:Nat}(hn:n<=12)(hk:k<n)(hyr:0<yr):∃p:Pl,p.nm=(Hb nm k)/\(PlG n k p/\PlW yr k p)/\∀G,Lf [.fl (nm.map D.str),.int n,.int k,.int yr,.int cell] G=.ok (Jd nm p) G:=by
 have hst:∀G,freeze G (Ly [.int cell,.int (k:Int),.int 33] G)=.ok (.fl ((Hx cell k 33).map D.int)) G:=λG=>ZDF (cell:=cell) (k:=k) (n:=33) (by lia) (by lia) G
 have hxl:(Hx cell k 33).length=33:=ZEj;have hx:∀x∈Hx cell k 33,0<=x:=ZGN;generalize Hx cell k 33=xs at*;have a0:atI (xs.map D.int) 0=xU (.int (gx xs 0)):=Fe (i:=0) (by lia);have a1:atI (xs.map D.int) 1=xU (.int (gx xs 1)):=Fe (i:=1) (by lia);have a2:atI (xs.map D.int) 2=xU (.int (gx xs 2)):=Fe (i:=2) (by lia);have a3:atI (xs.map D.int) 3=xU (.int (gx xs 3)):=Fe (i:=3) (by lia);have a4:atI (xs.map D.int) 4=xU (.int (gx xs 4)):=Fe (i:=4) (by lia)
 have a5:atI (xs.map D.int) 5=xU (.int (gx xs 5)):=Fe (i:=5) (by lia);have a6:atI (xs.map D.int) 6=xU (.int (gx xs 6)):=Fe (i:=6) (by lia);have a7:atI (xs.map D.int) 7=xU (.int (gx xs 7)):=Fe (i:=7) (by lia);have n3:=λG=>N7 (cell:=cell) (G:=G) (Ow hx 3)
 have n4:=λG=>N7 (cell:=cell) (G:=G) (Ow hx 4)
 have hp:(0:Int)<(n:Int)-(k:Int):=by lia
 have hnk:atI (nm.map D.str) (k:Int)=xU (.str (nm[k]'(by lia))):=ZCa (by lia);obtain⟨s,es⟩:∃s:Nat,gx xs 0%((n:Int)-(k:Int))=s:=⟨(gx xs 0%((n:Int)-(k:Int))).toNat,by have:=qV (gx xs 0) (show(n:Int)-(k:Int)≠0 by lia);lia⟩
 have hs:k+s<n:=by have:=qW (gx xs 0) hp;lia
 have hns:atI (nm.map D.str) ((k:Int)+(s:Int))=xU (.str (nm[k+s]'(by lia))):=by have:=ZCa (nm:=nm) (i:=k+s) (by lia);rwa[show((k+s:Nat):Int)=(k:Int)+(s:Int) by lia]at this
 obtain⟨dn,o,eo,ho,hd⟩:∃(dn:Str)(o:Option Nat),Rq nm o=dn/\(∀d,o=xU d->k<d/\d<n)/\∀G,Lf [.fl (nm.map D.str),.int n,.int k,.int yr,.int cell] G=tidy G (Od [xU (.fl (nm.map D.str)),xU (.int n),xU (.int k),xU (.int yr),xU (.int cell),xU (.fl (xs.map D.int)),xU (.str dn),xU (.tup [.str (nm[k]'(by lia)),.str dn,.int (gx xs 1%6)]),vQ,vQ,vQ,vQ] G).ret:=by
  by_cases h0:0<s
  ·refine⟨nm[k+s]'(by lia),xU (k+s),(R6 (by lia)).symm,λd hd=>by cases hd;lia,λG=>?_⟩;have h0':(0:Int)<(s:Int):=by lia
   unfold Lf ZBO ZBb ZCE ZAp;rw[Be];simp[hk,hst,a0,hp,es,h0,h0',hns,hnk,a1]
  ·refine⟨"sea",vQ,rfl,λd hd=>(nomatch hd),λG=>?_⟩
   have h0':¬(0:Int)<(s:Int):=by lia
   unfold Lf ZBO ZBb ZCE ZAp;rw[Be];simp[hk,hst,a0,hp,es,h0,h0',hnk,a1]
 have emk:nm[k]'(by lia)=(Hb nm k):=R6 (by lia);rw[emk]at hnk;obtain⟨dl,edl⟩:∃dl:Nat,gx xs 1%6=dl:=⟨(gx xs 1%6).toNat,by lia⟩;have hdl:dl<=5:=by lia
 have hd:=hd;rw[emk]at hd;clear emk;generalize hmk:(Hb nm k)=mk at*;by_cases h2:gx xs 2%5=0
 ·refine⟨⟨mk,o,dl,.mill (number (gx xs 3) cell)⟩,rfl,⟨⟨ho,hdl,(λ_ _ _ _ _ z=>nomatch z),(λ_ _ _ z=>nomatch z),(λ_ _ z=>nomatch z),(λ_ _ z=>nomatch z)⟩,⟨j7 Mr (by decide),(λa z=>by cases z;exact Jz),(λ_ _ _ z=>nomatch z),(λ_ _ _ _ _ z=>nomatch z)⟩⟩,λG=>?_⟩
  have ad:=add3 (t:="mill") (nm:=mk) (dn:=dn) (dl:=gx xs 1%6) (ds:=[.int (number (gx xs 3) cell)]) (by simp);rw[hd];unfold Od;simp[-Nk,a2,h2,a3,n3,ad,Jd,eo,<-edl,Bh]
 ·by_cases h3:gx xs 2%5=1
  ·refine⟨⟨mk,o,dl,.town (number (gx xs 3) cell) (number (gx xs 4) cell)⟩,rfl,⟨⟨ho,hdl,(λ_ _ _ _ _ z=>nomatch z),(λ_ _ _ z=>nomatch z),(λa b z=>by cases z;exact⟨Jz,Jz⟩),(λ_ _ z=>nomatch z)⟩,⟨⟨j7 Mr (by decide),j7 Mr (by decide)⟩,(λ_ z=>nomatch z),(λ_ _ _ z=>nomatch z),(λ_ _ _ _ _ z=>nomatch z)⟩⟩,λG=>?_⟩
   have ad:=add3 (t:="town") (nm:=mk) (dn:=dn) (dl:=gx xs 1%6) (ds:=[.int (number (gx xs 3) cell),.int (number (gx xs 4) cell)]) (by simp);rw[hd];unfold Od Yb;simp[-Nk,a2,h2,h3,a3,a4,n3,n4,ad,Jd,eo,<-edl,Bh]
  ·have cu':cutD (xs.map D.int) (xU 8) (xU 32)=((xs.drop 8).take (32-8)).map D.int:=ZBW (xs:=xs) (a:=8) (b:=32) (by lia) (by lia);have hr:=λ(p:Bool)(G:DH)=>ZKA (xs:=(xs.drop 8).take (32-8)) (big:=cell) (yr:=yr) (p:=p) (λx h=>hx x (q9 (qq h))) (by simp;lia) G
   generalize(xs.drop 8).take (32-8)=ys at*;have fz:∀G:DH,freeze G (.ok (.ref G.length) (G++[.lst (ys.map D.int)]))=.ok (.fl (ys.map D.int)) G:=λG=>Ce Jj
   by_cases hpm:1<n/\0<gx xs 5%3
   ·have hn1:(1:Int)<(n:Int):=by lia
    have hrt:=hr vZ;have ln:=Wl (xs:=ys) (big:=cell) (yr:=yr) (p:=vZ) 3 0 0;obtain⟨v,⟨hvb,hvu⟩,hv⟩:=ZIN (r:=ruF ys cell yr vZ 3 0 0) (by lia) ln.2 ZHX;obtain⟨v2,hvn,hv2⟩:=ZOD (Ow hx 4);obtain⟨t,et⟩:∃t:Nat,((k:Int)+1+gx xs 6%((n:Int)-1))%(n:Int)=t:=⟨(((k:Int)+1+gx xs 6%((n:Int)-1))%(n:Int)).toNat,by have:=qV ((k:Int)+1+gx xs 6%((n:Int)-1)) (show(n:Int)≠0 by lia);lia⟩
    have ht:t<n:=by have:=qW ((k:Int)+1+gx xs 6%((n:Int)-1)) (show(0:Int)<(n:Int) by lia);lia
    have hnt:atI (nm.map D.str) (t:Int)=xU (.str (nm[t]'(by lia))):=ZCa (by lia);have hp1:(0:Int)<(n:Int)-1:=by lia
    have hp2:(0:Int)<(n:Int):=by lia
    have hp3:0<n:=by lia
    have emt:nm[t]'(by lia)=(Hb nm t):=R6 (by lia);rw[emt]at hnt;obtain⟨pd,epd⟩:∃pd:Nat,1+gx xs 7%5=pd:=⟨(1+gx xs 7%5).toNat,by lia⟩;have hrg:=Vf (xs:=ys) (big:=cell) (yr:=yr) (p:=vZ) 3 0 0;have has:=Tw (xs:=ys) (big:=cell) (yr:=yr) (p:=vZ) 3 0 0 (-1) (by lia) (λ_=>hyr);have hze:=ZGv (xs:=ys) (big:=cell) (yr:=yr) (p:=vZ);have hto:=ZKi hpm.1 hk et;have hub:=T9 (xs:=ys) (big:=cell) (yr:=yr) (p:=vZ) 3 0 0
    generalize ruF ys cell yr vZ 3 0 0=r at*
    refine⟨⟨mk,o,dl,.basin (number (gx xs 3) cell) r (xU (t,pd,v+v2))⟩,rfl,⟨⟨ho,hdl,(λb r' to d m z=>by cases z;lia),(λb r' q z=>by cases z;exact⟨Jz,λs hs=>(hrg s hs).1⟩),(λ_ _ z=>nomatch z),(λ_ _ z=>nomatch z)⟩,⟨⟨j7 Mr (by decide),⟨ln.1,hub⟩,λto dl m z=>by cases z;have hv3:=hvu (3*10^38) (λs hs=>by have h1:=ZGG (hub s hs).2;have h2:=(hub s hs).1;have h3:(s.2.length:Int)*10^38<=3*10^38:=Int.mul_le_mul_of_nonneg_right (by lia) (by decide);lia);lia⟩,(λ_ z=>nomatch z),(λb r' q z=>by cases z;exact⟨has,hze,ln.2⟩),(λb r' to d m z=>by cases z;obtain⟨st,r2,e0⟩:=hze;have h0:=hvb (0,st) (by rw[e0];exact zy);have h1:=ZFW (hrg (0,st) (by rw[e0];exact zy)).1;exact⟨hto,by lia,λs hs=>by have:=hvb s hs;lia⟩)⟩⟩,λG=>?_⟩
    have ad:=add3 (t:="basin") (nm:=mk) (dn:=dn) (dl:=gx xs 1%6) (ds:=[.int (number (gx xs 3) cell),.tup (r.map Ay),.tup [.str ((Hb nm t)),.int (1+gx xs 7%5),.int (v+v2)]]) (by simp);rw[hd];unfold Od Yb ZBR Zy ZAa ZBC ZCP;simp[-Nk,a2,h2,h3,hn1,hpm,a5,cu',fz,hrt,a6,hp1,hp2,hp3,et,hnt,a7,hv,a4,hv2,a3,n3,ad,Jd,Oz,eo,<-edl,<-epd,Bh]
   ·have hrt:=hr vJ;have hrg:=Vf (xs:=ys) (big:=cell) (yr:=yr) (p:=vJ) 3 0 0;have has:=Tw (xs:=ys) (big:=cell) (yr:=yr) (p:=vJ) 3 0 0 (-1) (by lia) (λ_=>hyr);have hze:=ZGv (xs:=ys) (big:=cell) (yr:=yr) (p:=vJ);have ln:=Wl (xs:=ys) (big:=cell) (yr:=yr) (p:=vJ) 3 0 0;have hub:=T9 (xs:=ys) (big:=cell) (yr:=yr) (p:=vJ) 3 0 0;generalize ruF ys cell yr vJ 3 0 0=r at*
    refine⟨⟨mk,o,dl,.basin (number (gx xs 3) cell) r vQ⟩,rfl,⟨⟨ho,hdl,(λb r' to d m z=>nomatch z),(λb r' q z=>by cases z;exact⟨Jz,λs hs=>(hrg s hs).1⟩),(λ_ _ z=>nomatch z),(λb r' z=>by cases z;exact λs hs=>(hrg s hs).2 rfl)⟩,⟨⟨j7 Mr (by decide),⟨ln.1,hub⟩,λto dl m z=>nomatch z⟩,(λ_ z=>nomatch z),(λb r' q z=>by cases z;exact⟨has,hze,ln.2⟩),(λb r' to d m z=>nomatch z)⟩⟩,λG=>?_⟩
    have ad:=add3 (t:="basin") (nm:=mk) (dn:=dn) (dl:=gx xs 1%6) (ds:=[.int (number (gx xs 3) cell),.tup (r.map Ay),.non]) (by simp);rw[hd];unfold Od Yb ZBR Zy ZAa ZBC ZCP;by_cases hn1:1<n
    ·have hn1':(1:Int)<(n:Int):=by lia
     have h5:¬0<gx xs 5%3:=λz=>hpm ⟨hn1,z⟩
     simp[-Nk,a2,h2,h3,hn1,hn1',h5,a5,cu',fz,hrt,a3,n3,ad,Jd,Oz,eo,<-edl,Bh]
    ·have hn1':¬(1:Int)<(n:Int):=by lia
     simp[-Nk,a2,h2,h3,hn1,hn1',cu',fz,hrt,a3,n3,ad,Jd,Oz,eo,<-edl,Bh]
theorem ZKj{at_:Nat}(hat:at_<=1000)(G:DH):∃h:Hs,GoodH h/\1<=h.n/\(∀k,k<h.n->PlG h.n k (h.pl k)/\PlW h.yr k (h.pl k))/\h.yr<=24/\(∃nm:List Str,nm.length=12/\NmOk nm/\(∀k,k<h.n->(h.pl k).nm=Hb nm k)/\∀G,Kl [.int (cellAt ns ((at_:Int)+2))] G=.ok (.ref G.length) (G++[.lst (nm.map D.str)]))/\K3 [.fl (ns.map D.int),.int at_] G=.ok h.enc G:=by
 have ca:=λ(k:Nat)(G:DH)=>Ur (ns:=ns) (k:=(k:Int)) (G:=G) (by lia)
 have c0:=ca at_;have c1:∀G,Jo [.fl (ns.map D.int),.int ((at_:Int)+1)] G=.ok (.int (cellAt ns ((at_:Int)+1))) G:=λG=>Ur (by lia)
 have c2:∀G,Jo [.fl (ns.map D.int),.int ((at_:Int)+2)] G=.ok (.int (cellAt ns ((at_:Int)+2))) G:=λG=>Ur (by lia)
 have c3:∀(k:Nat)G,Jo [.fl (ns.map D.int),.int ((at_:Int)+3+k)] G=.ok (.int (cellAt ns ((at_:Int)+3+k))) G:=λk G=>Ur (by lia)
 obtain⟨n,en⟩:∃n:Nat,1+cellAt ns (at_:Int)%12=n:=⟨(1+cellAt ns (at_:Int)%12).toNat,by lia⟩;have hn:n<=12/\1<=n:=by lia
 obtain⟨nm,hnm,nok,hc⟩:=ZOG (cell:=cellAt ns ((at_:Int)+2));obtain⟨y,ey⟩:∃y:Int,1+cellAt ns ((at_:Int)+1)%24=y:=⟨_,rfl⟩;have ex:∀k:Nat,∃p:Pl,k<n->(p.nm=(Hb nm k)/\(PlG n k p/\PlW y k p)/\∀G,Lf [.fl (nm.map D.str),.int n,.int k,.int y,.int (cellAt ns ((at_:Int)+3+k))] G=.ok (Jd nm p) G):=λk=>by
  by_cases hk:k<n
  ·obtain⟨p,hp⟩:=ZOx hnm hn.1 hk (yr:=y) (cell:=cellAt ns ((at_:Int)+3+k)) (by lia);exact⟨p,λ_=>hp⟩
  ·exact⟨noPl,λz=>absurd z hk⟩
 let P:Nat->Pl:=λk=>(ex k).choose
 have hP:∀k,k<n->((P k).nm=(Hb nm k)/\(PlG n k (P k)/\PlW y k (P k))/\∀G,Lf [.fl (nm.map D.str),.int n,.int k,.int y,.int (cellAt ns ((at_:Int)+3+k))] G=.ok (Jd nm (P k)) G):=λk hk=>(ex k).choose_spec hk
 clear_value P
 have hpl:∀k,k<n->(Hs.pl ⟨y,(zv n).map P⟩ k)=P k:=λk hk=>by unfold Hs.pl;simp[zF,hk]
 have hnn:Hs.n ⟨y,(zv n).map P⟩=n:=by simp[Hs.n]
 have nmk:∀k(hk:k<n),(Hb nm k)=nm[k]'(by lia):=λk hk=>(R6 (by lia)).symm
 have edn:∀(k:Nat)(o:Option Nat),(∀d,o=xU d->k<d/\d<n)->Hs.dnT ⟨y,(zv n).map P⟩ o=Rq nm o:=λk o ho=>by
  cases o with
  |none=>rfl
  |some d=>
   have:=(ho d rfl).2;show(Hs.pl _ d).nm=(Hb nm d);rw[hpl d this,(hP d this).1]
 have eenc:∀k,k<n->Hs.encP ⟨y,(zv n).map P⟩ (P k)=Jd nm (P k):=λk hk=>by
  have g:=(hP k hk).2.1.1;have e1:=edn k (P k).dn g.dn;unfold Hs.encP Jd;cases ek:(P k).kd with
  | basin b r q=>
   have e2:Hs.Dh ⟨y,(zv n).map P⟩ q=Oz nm q:=by
    cases q with
    |none=>rfl
    |some z=>
     obtain⟨to,dl,m⟩:=z;have ht:=(g.pump b r to dl m ek).1;show D.tup [.str (Hs.pl _ to).nm,.int dl,.int m]=_;rw[hpl to ht,(hP to ht).1]
     rfl
   simp only[e1,e2]
  |town a b=>simp only[e1]
  |mill a=>simp only[e1]
 refine⟨⟨y,(zv n).map P⟩,⟨?_,?_,?_,?_,?_,?_,?_,?_,?_⟩,?_,?_,?_,⟨nm,hnm,nok,?_,hc⟩,?_⟩
 ·show 0<y;lia
 ·rw[hnn];lia
 ·intro i j hi hj e;rw[hnn]at hi hj;rw[hpl i hi,hpl j hj,(hP i hi).1,(hP j hj).1,nmk i hi,nmk j hj]at e;exact ZMI nok.nd _ _ e
 ·intro i hi;rw[hnn]at hi;rw[hpl i hi,(hP i hi).1,nmk i hi];exact nok.sea _ (qJ _)
 ·intro k d hk e;rw[hnn]at hk⊢;rw[hpl k hk]at e;exact(hP k hk).2.1.1.dn d e
 ·intro k hk;rw[hnn]at hk;rw[hpl k hk];exact(hP k hk).2.1.1.dl
 ·intro k b r to dl m hk e;rw[hnn]at hk⊢;rw[hpl k hk]at e;exact(hP k hk).2.1.1.pump b r to dl m e
 ·intro k b r q hk e;rw[hnn]at hk;rw[hpl k hk]at e;exact(hP k hk).2.1.1.brim b r q e
 ·intro k a b hk e;rw[hnn]at hk;rw[hpl k hk]at e;exact(hP k hk).2.1.1.town a b e
 ·rw[hnn];lia
 ·intro k hk;rw[hnn]at hk⊢;rw[hpl k hk];exact(hP k hk).2.1
 ·show y<=24;lia
 ·intro k hk;rw[hnn]at hk;rw[hpl k hk];exact(hP k hk).1
 ·have fzn:∀G:DH,freeze G (.ok (.ref G.length) (G++[.lst (nm.map D.str)]))=.ok (.fl (nm.map D.str)) G:=λG=>Ce Dv
  have cp:Cj (gV 0) Bp Xe [vQ,xU (.fl (ns.map D.int)),xU (.int at_),xU (.int n),xU (.int y),xU (.fl (nm.map D.str))] (Do 0 n) G=.ok (((zv n).map P).map (Hs.encP ⟨y,(zv n).map P⟩)) G:=by
   rw[qk];exact ZBc (te:=Xe) (S:=[vQ,xU (.fl (ns.map D.int)),xU (.int at_),xU (.int n),xU (.int y),xU (.fl (nm.map D.str))]) λk hk=>by unfold Xe;simp[c3,(hP k hk).2.2,eenc k hk]
  have lp:((zv n).map P).length<=1000000:=by simp;lia
  clear nmk eenc edn hpl hnn hP;generalize(zv n).map P=ps at*;generalize hen:ps.map (Hs.encP ⟨y,ps⟩)=es at*;have les:es.length<=1000000:=by rw[<-hen];simpa using lp
  have bes:∀m,bels m es=vZ:=λm=>by rw[<-hen];exact Gs λ_ _=>Hs.R8
  have fzp:freeze G (.ok (.ref G.length) (G++[.lst (es)]))=.ok (.fl (es)) G:=Ce (bes _);have cs:∀a b c d e f':Option D,Bq 1 [0,1,2,3,4] [a,b,c,d,e,f']=[vQ,a,b,c,d,e]:=λ_ _ _ _ _ _=>rfl
  have hr:inR (n:Int):=J0 (by lia) (by lia);have bp:bels G.length (es)=vZ:=bes _;show K3 _ G=.ok (.tup [.int y,.tup (ps.map (Hs.encP ⟨y,ps⟩))]) G;rw[hen];unfold K3 ZHQ;rw[Be];simp[c0,en,c1,ey,c2,hc,fzn,hr,cs,cp,les,fzp,bp,Bh]
noncomputable def ZGA:List Nat:=("abcdefghijklmnopqrstuvwxyz":Str).cps.toList
theorem ZMY(c:Nat):c∈ZGA↔97<=c/\c<=122:=by
 have e:ZGA=qQ 97 26:=by decide +kernel
 rw[e,jK];lia
noncomputable def small(c:Nat):Bool:=decide (97<=c/\c<=122)
theorem ZEZ:Fx (sgn c) (.str "abcdefghijklmnopqrstuvwxyz") G=.ok (.bl (small c)) G:=by
 have h:=contains1 ("abcdefghijklmnopqrstuvwxyz":Str) c;unfold Fx inD sgn;simp only;rw[h];simp only[small]
 congr 3
 exact propext (ZMY c)
noncomputable def Qw:List Nat:=[115,101,97]
theorem ZHg:("sea":Str).cps.toList=Qw:=by decide +kernel
def isN(cs:List Nat):Bool:=decide (¬cs=Qw)&&decide (1<=cs.length/\cs.length<=8)&&cs.all small
theorem ZKV(hz:z.length<=1000):V6 [.str z] G=.ok (.bl (isN z.cps.toList)) G:=by
 have hl:(z.length:Int)=z.cps.toList.length:=by simp[Str.length]
 have hz':z.length<=1000000:=by lia
 have hc:Cj (gV 0) Bp Wc [vQ] (signs z) G=.ok ((z.cps.toList.map small).map D.bl) G:=by
  have:=Pn (g:=gV 0) (c:=Bp) (te:=Wc) (S:=[vQ]) (G:=G) (F:=λd=>match d with | .str x=>xU (.bl (small (x.cps.getD 0 0)))|_=>vQ) (xs:=signs z) (λx hx=>by obtain⟨c,_,rfl⟩:=zw.mp hx;refine⟨[xU (sgn c)],rfl,.inr ⟨rfl,.bl (small c),?_,rfl⟩⟩;unfold Wc;simp[ZEZ])
  rw[this]
  congr 1
  unfold signs
  induction z.cps.toList with
  |nil=>rfl
  |cons c r ih=>simp only[zQ,zS,sgn,ih];rfl
 have hlen:((z.cps.toList.map small).map D.bl).length<=1000000:=by simp;simpa[Str.length]using hz'
 have hb:bels G.length ((z.cps.toList.map small).map D.bl)=vZ:=ZCi;have ha:= @Ml G (z.cps.toList.map small);unfold V6 ZHT;rw[Be];have hs:decide (z=("sea":Str))=decide (z.cps.toList=Qw):=by rw[<-ZHg];exact decide_eq_decide.mpr ZKG
 generalize hA:((z.cps.toList.map small).map D.bl)=bs at*;by_cases h1:z.cps.toList=Qw
 ·simp[hs,h1,Bh,isN]
 ·by_cases h2:1<=z.length/\z.length<=8
  ·have h3:(1:Int)<=z.length/\(z.length:Int)<=8:=by lia
   have h4:1<=z.cps.toList.length/\z.cps.toList.length<=8:=by lia
   simp[hs,h1,hz',h3.1,h3.2,h2.1,h2.2,Bq,hc,hlen,Ce,hb,ha,Bh];simp only[isN,h1,h4,not_false_eq_true,decide_true,and_self,Bool.true_and,List.all_map];simp
  ·have h4:¬(1<=z.cps.toList.length/\z.cps.toList.length<=8):=by lia
   have hn:isN z.cps.toList=vJ:=by simp only[isN,h4,decide_false,Bool.and_false,Bool.false_and]
   rw[hn];by_cases h5:1<=z.length
   ·have h6:¬z.length<=8:=λh=>h2 ⟨h5,h⟩
    have h7:¬(z.length:Int)<=8:=by lia
    have h8:(1:Int)<=z.length:=by lia
    simp[hs,h1,hz',h5,h6,h7,h8,Bh]
   ·have h8:¬(1:Int)<=z.length:=by lia
    simp[hs,h1,hz',h5,h8,Bh]
theorem ZFG(h:Wd z)(hs:z≠"sea"):isN z.cps.toList=vZ/\z.length<=8/\1<=z.length:=by
 obtain⟨l,rfl,h1,h2,h3⟩:=h;have e:(Aa l).cps.toList=l:=by simp[Aa]
 have el:(Aa l).length=l.length:=by simp[Aa,Str.length]
 refine⟨?_,by lia,by lia⟩;rw[e];unfold isN;have n1:¬l=Qw:=λz=>hs (by rw[z];decide +kernel)
 have n2:l.all small=vZ:=qY.mpr λc hc=>by have:=h3 c hc;unfold small;exact decide_eq_true (by lia)
 simp[n1,h1,h2,n2]
theorem ZGk{h:Hs}{G:DH}:∀l:List Pl,Cj (gV 0) Bp T7 [vQ] (l.map h.encP) G=.ok ((l.map Pl.nm).map D.str) G
 |[]=>by rw[zH,Ru];rfl
 |p::l=>by
  have he:T7 [xU (h.encP p)] G=.ok (.str p.nm) G:=by unfold T7;simp
  have ih:=ZGk (h:=h) (G:=G) l;rw[zQ,Ew];simp[he,ih]
theorem ZE4{h:Hs}{G:DH}:∀l:List Pl,Cj (gV 0) Bp Yk [vQ] (l.map h.encP) G=.ok ((l.map Pl.nm).map D.str) G
 |[]=>by rw[zH,Ru];rfl
 |p::l=>by
  have he:Yk [xU (h.encP p)] G=.ok (.str p.nm) G:=by unfold Yk;simp
  have ih:=ZE4 (h:=h) (G:=G) l;rw[zQ,Ew];simp[he,ih]
theorem ZFI{l:List Str}:Fx (.str x) (.fl (l.map D.str)) G=.ok (.bl (decide (x∈l))) G:=by
 unfold Fx inD;dsimp only
 rw[show Cy (.fl (l.map D.str)) G=xU (l.map D.str)from rfl,show M9 (.str x)=xU (.str x)from rfl]
 dsimp only;rw[Us,j3,T6]
theorem ZKm{l:List Str}(h:G[i]?=xU (.lst (l.map D.str))):Fx (.str x) (.ref i) G=.ok (.bl (decide (x∈l))) G:=by
 unfold Fx inD;dsimp only
 rw[show Cy (.ref i) G=xU (l.map D.str) by simp[Cy,h],show M9 (.str x)=xU (.str x)from rfl]
 dsimp only;rw[Us,j3,T6]
theorem ZIl{l:List Str}(hd:p.dn=vQ∨∃d,p.dn=xU d/\(h.pl d).nm∈l/\(h.pl d).nm≠"sea")(hl:p.dl<=5)(G:DH):Uk [h.encP p,.fl (l.map D.str)] G=.ok (.bl vZ) G:=by
 have h5:(p.dl:Int)<=5:=by lia
 unfold Uk ZEl;rw[Be];rcases hd with e|⟨d,e,hm,hs⟩
 ·have es:h.dnT p.dn="sea":=by rw[e];rfl
  simp[es,h5,Bh]
 ·have es:h.dnT p.dn=(h.pl d).nm:=by rw[e];rfl
  have hi:=ZFI (x:=(h.pl d).nm) (l:=l) (G:=G);rw[decide_eq_true hm]at hi;generalize l.map D.str=L at*;simp[es,hs,hi,h5,Bh]
theorem ZDn{yr:Int}{s0:Option D}{G:DH}:∀(r:List Ssn)(a:Int)(x y:Option D),Asc yr a r->∃a' x' y',Dl (Cq 2 (Ar (gV 3) (Ar (gV 4) Cv))) Vc (r.map Ay) [s0,xU (.int yr),xU (.int a),x,y] G=.nx [s0,xU (.int yr),a',x',y'] G
 |[],a,x,y,_=>⟨xU (.int a),x,y,by rw[zH,Gm]⟩
 |s::r,a,x,y,h=>by
  obtain⟨a',x',y',ih⟩:=ZDn (yr:=yr) (s0:=s0) (G:=G) r s.1 (xU (.int s.1)) (xU (.tup (s.2.map Stp.enc))) h.2.2;refine⟨a',x',y',?_⟩;have hb:Vc [s0,xU (.int yr),xU (.int a),xU (.int s.1),xU (.tup (s.2.map Stp.enc))] G=.nx [s0,xU (.int yr),xU (.int s.1),xU (.int s.1),xU (.tup (s.2.map Stp.enc))] G:=by unfold Vc;simp[h.1,h.2.1]
  have es:Ay s=.tup [.int s.1,.tup (s.2.map Stp.enc)]:=rfl;rw[zQ,G7,es];generalize s.2.map Stp.enc=Z at*;simp[hb,ih]
theorem ZLG{r:List Ssn}(h:Asc yr (-1) r)(hz:∃st r',r=(0,st)::r')(G:DH):Qe [.tup (r.map Ay),.int yr] G=.ok (.bl vZ) G:=by
 obtain⟨a',x',y',hL⟩:=ZDn (yr:=yr) (s0:=xU (.tup (r.map Ay))) (G:=G) r (-1) vQ vQ h;obtain⟨st,r',e⟩:=hz;have hl:¬r.map Ay=[]:=by rw[e];simp
 have hl':¬(((r.map Ay).length:Int)=0):=by rw[e];simp;lia
 have h0:atI (r.map Ay) 0=xU (Ay (0,st)):=by rw[e];exact Gh (k:=0) rfl rfl
 have h1:∀G,Aj (Ay (0,st)) (.int 0) G=.ok (.int 0) G:=λG=>by unfold Ay;simp
 generalize Ay (0,st)=Z at*;generalize r.map Ay=R at*;unfold Qe ZDU;rw[Be];simp[hl,hl',h0,h1,hL,Bh]
theorem ZGK{s0:Option D}{G:DH}:∀(st:List Stp)(a:Int)(x y z:Option D),Good a st->∃a' x' y' z',Dl (Cq 3 (Ar (gV 2) (Ar (gV 3) (Ar (gV 4) Cv)))) Xw (st.map Stp.enc) [s0,xU (.int a),x,y,z] G=.nx [s0,a',x',y',z'] G
 |[],a,x,y,z,_=>⟨xU (.int a),x,y,z,by rw[zH,Gm]⟩
 |s::st,a,x,y,z,h=>by
  obtain⟨a',x',y',z',ih⟩:=ZGK (s0:=s0) (G:=G) st (s.h+s.m) (xU (.int s.h)) (xU (.int s.m)) (xU (.str (wy s.r))) h.2.2;refine⟨a',x',y',z',?_⟩;have h1:¬s.h<a:=by have:=h.1;lia
  have h2:¬s.m<1:=by have:=h.2.1;lia
  have hb:Xw [s0,xU (.int a),xU (.int s.h),xU (.int s.m),xU (.str (wy s.r))] G=.nx [s0,xU (.int (s.h+s.m)),xU (.int s.h),xU (.int s.m),xU (.str (wy s.r))] G:=by unfold Xw;simp[h1,h2]
  have es:Stp.enc s=.tup [.int s.h,.int s.m,.str (wy s.r)]:=rfl;rw[zQ,G7,es];generalize wy s.r=Z at*;simp[hb,ih]
theorem ZLU(h:Good 0 st)(G:DH):Og [.tup (st.map Stp.enc)] G=.ok (.bl vZ) G:=by obtain⟨a',x',y',z',hL⟩:=ZGK (s0:=xU (.tup (st.map Stp.enc))) (G:=G) st 0 vQ vQ vQ h;generalize st.map Stp.enc=Z at*;unfold Og ZGW;rw[Be];simp[hL,Bh]
theorem ZGi:Cj (Cq 3 (Ar (gV 0) (Ar (gV 1) (Ar (gV 2) Cv)))) ZBY ZCQ [vQ,vQ,vQ] (st.map Stp.enc) G=.ok ((pmps st).map D.int) G:=by
 rw[Pn (F:=λd=>match d with | .tup [_,m,.str w]=>if w="pump" then xU m else vQ|_=>vQ) λy hy=>?_]
 ·congr 1
  unfold pmps
  induction st with
  |nil=>rfl
  |cons s st ih=>
   rw[zQ,zS,ih,jy];have es:Stp.enc s=.tup [.int s.h,.int s.m,.str (wy s.r)]:=rfl;rw[es];cases hr:s.r with
   |true=>simp[wy,pr]
   |false=>simp[wy]
 ·obtain⟨s,_,rfl⟩:=zw.mp hy;have es:Stp.enc s=.tup [.int s.h,.int s.m,.str (wy s.r)]:=rfl;rw[es];refine⟨[xU (.int s.h),xU (.int s.m),xU (.str (wy s.r))],by simp,?_⟩;unfold ZBY ZCQ;cases hr:s.r with
  |true=>exact .inl ⟨by simp[wy,pr],by simp[wy,pr]⟩
  |false=>exact .inr ⟨by simp[wy],.int s.m,by simp,by simp[wy]⟩
theorem ZIW:(pmps st).length<=st.length:=by unfold pmps;rw[zK];exact jk _ _
theorem ZH4(hl:st.length<=1000)(hr:∀t∈st,t.r=vZ)(G:DH):Kw [.tup (st.map Stp.enc),.non] G=.ok (.bl vZ) G:=by
 have hc:=ZGi (st:=st) (G:=G);have e0:pmps st=[]:=by unfold pmps;rw[List.map_eq_nil_iff,List.filter_eq_nil_iff];intro t ht;rw[hr t ht];simp
 rw[e0]at hc;have hcs:∀S:DSt,Bq 3 [] S=[vQ,vQ,vQ]:=λ_=>rfl
 have fz:freeze G (.ok (.ref G.length) (G++[.lst []]))=.ok (.fl []) G:=Ce rfl;generalize st.map Stp.enc=Z at*;unfold Kw Zr;rw[Be];simp[hcs,hc,Bo,fz,Fi,Bh]
theorem ZNh{a b m:D}{v:Int}(hl:st.length<=1000)(hs:(pmps st).sum<=v)(G:DH):Kw [.tup (st.map Stp.enc),.tup [a,b,.int v]] G=.ok (.bl vZ) G:=by
 have hc:=ZGi (st:=st) (G:=G);have hcs:∀S:DSt,Bq 3 [] S=[vQ,vQ,vQ]:=λ_=>rfl
 have fz:freeze G (.ok (.ref G.length) (G++[.lst ((pmps st).map D.int)]))=.ok (.fl ((pmps st).map D.int)) G:=Ce Jj;have hle:((pmps st).map D.int).length<=1000000:=by have:=ZIW (st:=st);rw[zK];lia
 have hsm:M7 [.fl ((pmps st).map D.int)] G=.ok (.int (pmps st).sum) G:=ZLN;generalize(pmps st).map D.int=P at*;generalize st.map Stp.enc=Z at*;unfold Kw Zr;rw[Be];simp[hcs,hc,Bo,hle,fz,Fi,hsm,hs,Bh]
theorem ZDt{s0 s2:Option D}{q:D}{G:DH}:∀(r:List Ssn)(x y:Option D),(∀s∈r,(∀G,Og [.tup (s.2.map Stp.enc)] G=.ok (.bl vZ) G)/\∀G,Kw [.tup (s.2.map Stp.enc),q] G=.ok (.bl vZ) G)->∃x' y',Dl (Cq 2 (Ar (gV 3) (Ar (gV 4) Cv))) Te (r.map Ay) [s0,xU q,s2,x,y] G=.nx [s0,xU q,s2,x',y'] G
 |[],x,y,_=>⟨x,y,by rw[zH,Gm]⟩
 |s::r,x,y,h=>by
  obtain⟨x',y',ih⟩:=ZDt (s0:=s0) (s2:=s2) (q:=q) (G:=G) r (xU (.int s.1)) (xU (.tup (s.2.map Stp.enc))) λz hz=>h z (zZ _ hz)
  refine⟨x',y',?_⟩;obtain⟨h1,h2⟩:=h s zy;have hb:Te [s0,xU q,s2,xU (.int s.1),xU (.tup (s.2.map Stp.enc))] G=.nx [s0,xU q,s2,xU (.int s.1),xU (.tup (s.2.map Stp.enc))] G:=by generalize s.2.map Stp.enc=Z at*;unfold Te;simp[h1,h2]
  have es:Ay s=.tup [.int s.1,.tup (s.2.map Stp.enc)]:=rfl;rw[zQ,G7,es];generalize s.2.map Stp.enc=Z at*;simp[hb,ih]
theorem ZH8{r:List Ssn}{q:D}(h1:∀G,Qe [.tup (r.map Ay),.int yr] G=.ok (.bl vZ) G)(h2:∀s∈r,(∀G,Og [.tup (s.2.map Stp.enc)] G=.ok (.bl vZ) G)/\∀G,Kw [.tup (s.2.map Stp.enc),q] G=.ok (.bl vZ) G)(G:DH):Xu [.tup (r.map Ay),q,.int yr] G=.ok (.bl vZ) G:=by obtain⟨x',y',hL⟩:=ZDt (s0:=xU (.tup (r.map Ay))) (s2:=xU (.int yr)) (q:=q) (G:=G) r vQ vQ h2;generalize r.map Ay=R at*;unfold Xu ZHL;rw[Be];simp[h1,hL,Bh]
theorem Ra(hi:i<h.n):h.pl i=h.ps[i]'hi:=by
 unfold Hs.pl;rw[zF,zY hi]
 rfl
theorem ZFC:(x∈(h.ps.take k).map Pl.nm)↔∃i,i<k/\i<h.n/\(h.pl i).nm=x:=by
 rw[zw];constructor
 ·rintro⟨p,hp,rfl⟩;obtain⟨j,hj,rfl⟩:=List.mem_take_iff_getElem.mp hp;have h2:j<h.n:=zV hj (Nat.min_le_right _ _);exact⟨j,zV hj (Nat.min_le_left _ _),h2,by rw[Ra h2];rfl⟩
 ·rintro⟨i,h1,h2,rfl⟩;exact⟨h.pl i,List.mem_take_iff_getElem.mpr ⟨i,Nat.lt_min.mpr ⟨h1,h2⟩,(Ra h2).symm⟩,rfl⟩
theorem ZHf:(x∈(h.ps.drop k).map Pl.nm)↔∃i,k<=i/\i<h.n/\(h.pl i).nm=x:=by
 rw[zw];constructor
 ·rintro⟨p,hp,rfl⟩;obtain⟨j,hj,rfl⟩:=List.mem_drop_iff_getElem.mp hp;have h2:k+j<h.n:=by show k+j<h.ps.length;lia
  exact⟨k+j,by lia,h2,by rw[Ra h2];rfl⟩
 ·rintro⟨i,h1,h2,rfl⟩;have h3:i<h.ps.length:=h2;exact⟨h.pl i,List.mem_drop_iff_getElem.mpr ⟨i-k,by lia,by rw[Ra h2];congr 1;lia⟩,rfl⟩
theorem ZKW{n:Nat}(g:PlG n k p)(w:PlW yr k p):∃(a:Int)(as:List Int),0<=as.foldl min a/\as.length<=10/\∀G,Mx [h.encP p] G=.ok (.ref G.length) (G++[.lst ((a::as).map D.int)]):=by
 cases e:p.kd with
 |town a b=>
  obtain⟨h1,h2⟩:=g.town a b e;refine⟨a,[b],by simp only[qA,List.foldl_nil];lia,by simp,λG=>?_⟩;have e4:∀G,Aj (h.encP p) (.int 4) G=.ok (.int a) G:=λG=>by unfold Hs.encP;rw[e];simp
  have e5:∀G,Aj (h.encP p) (.int 5) G=.ok (.int b) G:=λG=>by unfold Hs.encP;rw[e];simp
  have et:p.kd.txt="town":=by rw[e];rfl
  have tn:tidy G (.ok (.ref G.length) (G++[.lst [.int a,.int b]]))=.ok (.ref G.length) (G++[.lst [.int a,.int b]]):=Fp (by simp);unfold Mx Qd;rw[Be];simp[et,e4,e5,Bo,tn]
 |mill a=>
  have h1:=w.mill a e;refine⟨a,[],by simpa using h1,by simp,λG=>?_⟩;have e4:∀G,Aj (h.encP p) (.int 4) G=.ok (.int a) G:=λG=>by unfold Hs.encP;rw[e];simp
  have et:p.kd.txt="mill":=by rw[e];rfl
  have nt:¬(("mill":Str)="town"):=by decide
  have tn:tidy G (.ok (.ref G.length) (G++[.lst [.int a]]))=.ok (.ref G.length) (G++[.lst [.int a]]):=Fp (by simp);unfold Mx Qd;rw[Be];simp[et,nt,e4,Bo,tn]
 | basin b r q=>
  have h1:=(g.brim b r q e).1;have e4:∀G,Aj (h.encP p) (.int 4) G=.ok (.int b) G:=λG=>by unfold Hs.encP;rw[e];simp
  have e6:∀G,Aj (h.encP p) (.int 6) G=.ok (h.Dh q) G:=λG=>by unfold Hs.encP;rw[e];simp
  have et:p.kd.txt="basin":=by rw[e];rfl
  have nt:¬(("basin":Str)="town"):=by decide
  have nm:¬(("basin":Str)="mill"):=by decide
  cases q with
  |none=>
   refine⟨b,[],by simpa using h1,by simp,λG=>?_⟩;have tn:tidy G (.ok (.ref G.length) (G++[.lst [.int b]]))=.ok (.ref G.length) (G++[.lst [.int b]]):=Fp (by simp);unfold Mx Qd;rw[Be];simp[et,nt,nm,e4,e6,Hs.Dh,Fi,Bo,tn]
  |some z=>
   obtain⟨to,dl,m⟩:=z;have h2:=(w.pq b r to dl m e).2.1;refine⟨b,[m],by simp only[qA,List.foldl_nil];lia,by simp,λG=>?_⟩;have tn:tidy G (.ok (.ref G.length) (G++[.lst [.int b,.int m]]))=.ok (.ref G.length) (G++[.lst [.int b,.int m]]):=Fp (by simp);unfold Mx Qd;rw[Be];simp[et,nt,nm,e4,e6,Hs.Dh,Fi,Bo,tn]
theorem ZI7{l:List Str}(hG:G[i]?=xU (.lst (l.map D.str)))(hq:∀to dl m,q=xU (to,dl,m)->(h.pl to).nm∈l/\1<=dl/\dl<=5):Yd [h.Dh q,.ref i] G=.ok (.bl vZ) G:=by
 unfold Yd ZGl;rw[Be];cases q with
 |none=>simp[Hs.Dh,Fi,Bh]
 |some z=>
  obtain⟨to,dl,m⟩:=z;obtain⟨h1,h2,h3⟩:=hq to dl m rfl;have hi:=ZKm (x:=(h.pl to).nm) hG;rw[decide_eq_true h1]at hi;have h4:(1:Int)<=(dl:Int):=by lia
  have h5:(dl:Int)<=5:=by lia
  simp[Hs.Dh,Fi,hi,h2,h4,h5,Bh]
theorem ZI2(g:GoodH h)(pw:∀k,k<h.n->PlG h.n k (h.pl k)/\PlW h.yr k (h.pl k))(wd:∀k,k<h.n->Wd (h.pl k).nm)(hk:k<h.n)(G:DH):Mw [h.enc,.int k] G=.ok .non G:=by
 have hn:=g.len;have hps:h.ps.length=h.n:=rfl;obtain⟨pg,pww⟩:=pw k hk;have ap:atI h.Dq (k:Int)=xU (h.encP (h.pl k)):=Hs.ZEQ hk;have c1:cutD h.Dq vQ (xU (k:Int))=(h.ps.take k).map h.encP:=by rw[Mj (by rw[Hs.Vd];lia)];unfold Hs.Dq;rw[List.map_take]
 have c2:cutD h.Dq (xU ((k:Int)+1)) vQ=(h.ps.drop (k+1)).map h.encP:=by rw[show(k:Int)+1=((k+1:Nat):Int) by lia,Ln (by rw[Hs.Vd];lia)];unfold Hs.Dq;rw[List.map_drop]
 have bE:∀(m:Nat)(l:List Pl),bels m (l.map h.encP)=vZ:=λm l=>Gs λ_ _=>Hs.R8
 have f1:freeze G (.ok (.tup ((h.ps.take k).map h.encP)) G)=.ok (.tup ((h.ps.take k).map h.encP)) G:=Lh (by rw[ZDf];exact bE _ _);have f2:freeze G (.ok (.tup ((h.ps.drop (k+1)).map h.encP)) G)=.ok (.tup ((h.ps.drop (k+1)).map h.encP)) G:=Lh (by rw[ZDf];exact bE _ _);have m1:=ZGk (h:=h) (G:=G) (h.ps.take k);have m2:=ZE4 (h:=h) (G:=G) (h.ps.drop (k+1));have hA:(h.pl k).nm∉(h.ps.take k).map Pl.nm:=λz=>by obtain⟨i,h1,h2,h3⟩:=ZFC.mp z;have:=g.inj i k h2 hk h3;lia
 have lA:((h.ps.take k).map Pl.nm).length<=12:=by rw[zK,qy];lia
 have lB:((h.ps.drop (k+1)).map Pl.nm).length<=12:=by rw[zK,qH];lia
 have hB:∀i,k<i->i<h.n->(h.pl i).nm∈(h.ps.drop (k+1)).map Pl.nm:=λi h1 h2=>ZHf.mpr ⟨i,h1,h2,rfl⟩
 have hAB:∀i,i≠k->i<h.n->(h.pl i).nm∈(h.ps.take k).map Pl.nm++(h.ps.drop (k+1)).map Pl.nm:=λi h1 h2=>by
  rw[zB];by_cases z:i<k
  ·exact .inl (ZFC.mpr ⟨i,z,h2,rfl⟩)
  ·exact .inr (hB i (by lia) h2)
 have cN:=ZKV (z:=(h.pl k).nm) (G:=G) (by have:=(ZFG (wd k hk) (g.sea k hk)).2.1;lia);rw[(ZFG (wd k hk) (g.sea k hk)).1]at cN;generalize(h.ps.take k).map h.encP=EA at*;generalize(h.ps.drop (k+1)).map h.encP=EB at*;generalize(h.ps.take k).map Pl.nm=A at*;generalize(h.ps.drop (k+1)).map Pl.nm=B at*;have nA:=ZFI (x:=(h.pl k).nm) (l:=A) (G:=G);rw[decide_eq_false hA]at nA;have cR:=ZIl (h:=h) (p:=h.pl k) (l:=B) (by
  cases ed:(h.pl k).dn with
  |none=>exact .inl rfl
  |some d=>
   obtain⟨d1,d2⟩:=g.dn k d hk ed;exact .inr ⟨d,rfl,hB d d1 d2,g.sea d d2⟩) (g.dl k hk) G
 obtain⟨a,as,n1,n2,cM⟩:=ZKW (h:=h) pg pww;have fA:freeze G (.ok (.ref G.length) (G++[.lst (A.map D.str)]))=.ok (.fl (A.map D.str)) G:=Ce Dv;have fB:freeze G (.ok (.ref G.length) (G++[.lst (B.map D.str)]))=.ok (.fl (B.map D.str)) G:=Ce Dv;have fM:freeze G (.ok (.ref G.length) (G++[.lst ((a::as).map D.int)]))=.ok (.fl ((a::as).map D.int)) G:=Ce Jj;have mn:O5 [.fl ((a::as).map D.int)] G=.ok (.int (as.foldl min a)) G:=ZLw rfl
 have n3:¬as.foldl min a<0:=by lia
 generalize(a::as).map D.int=MM at*;generalize as.foldl min a=mm at*;have lA':(A.map D.str).length<=1000000:=by rw[zK];lia
 have lB':(B.map D.str).length<=1000000:=by rw[zK];lia
 have lAB:(A.map D.str).length+(B.map D.str).length<=1000000:=by rw[zK,zK];lia
 have hcs:∀S:DSt,Bq 1 [] S=[vQ]:=λ_=>rfl
 have t0:Mw [h.enc,.int k] G=tidy G (Pk [xU h.enc,xU (.int k),xU (.tup h.Dq),xU (h.encP (h.pl k)),xU (.fl (A.map D.str)),xU (.fl (B.map D.str))] G).ret:=by generalize A.map D.str=DA' at*;generalize B.map D.str=DB' at*;unfold Mw ZEw ZFd ZGC ZEI ZGE ZDg ZEF;rw[Be];simp[Oo,ap,J6,c1,f1,hcs,m1,Bo,lA',fA,c2,f2,m2,lB',fB,cN,nA,cR,cM,fM,mn,n3]
 rw[t0];cases e:(h.pl k).kd with
 |town a b=>
  unfold Pk;simp[ZAr,e,Kd.isB,Bh]
 |mill a=>
  unfold Pk;simp[ZAr,e,Kd.isB,Bh]
 | basin b r q=>
  have e5:∀G,Aj (h.encP (h.pl k)) (.int 5) G=.ok (.tup (r.map Ay)) G:=λG=>by unfold Hs.encP;rw[e];simp
  have e6:∀G,Aj (h.encP (h.pl k)) (.int 6) G=.ok (h.Dh q) G:=λG=>by unfold Hs.encP;rw[e];simp
  obtain⟨w1,w2,w3⟩:=pww.asc b r q e;have gd:=(pg.brim b r q e).2;have hG:(G++[DO.lst ((A++B).map D.str)])[G.length]?=xU (.lst ((A++B).map D.str)):=by simp
  have cP:=ZI7 (h:=h) (q:=q) hG λto dl m eq=>by subst eq;obtain⟨p1,p2,p3⟩:=pg.pump b r to dl m e;exact⟨hAB to (pww.pq b r to dl m e).1 p1,p2,p3⟩
  have cU:=ZH8 (yr:=h.yr) (r:=r) (q:=h.Dh q) (ZLG w1 w2) λs hs=>⟨ZLU (gd s hs),by
   cases q with
   |none=>exact ZH4 (w3 s hs) (pg.nop b r e s hs)
   |some z=>
    obtain⟨to,dl,m⟩:=z;exact ZNh (m:=.non) (w3 s hs) ((pww.pq b r to dl m e).2.2 s hs)⟩
  have ad:Ax (.fl (A.map D.str)) (.fl (B.map D.str)) G=.ok (.ref G.length) (G++[.lst ((A++B).map D.str)]):=by rw[ZE1,if_pos lAB,j5]
  have tp:tidy G (.ok .non (G++[.lst ((A++B).map D.str)]))=.ok .non G:=Sg rfl;generalize G++[DO.lst ((A++B).map D.str)]=G2 at*;generalize A.map D.str=DA' at*;generalize B.map D.str=DB' at*;generalize r.map Ay=RR at*;unfold Pk;simp[-ZE1,ZAr,e,Kd.isB,e5,e6,ad,cP,Sh,cU,tp]
theorem ZDY{s1:Option D}(hc:∀k,k<h.n->∀G,Mw [h.enc,.int k] G=.ok .non G){G:DH}:∀(m k:Nat)(x:Option D),k+m=h.n->∃x',Dl (gV 2) Pg (Do k m) [xU h.enc,s1,x] G=.nx [xU h.enc,s1,x'] G
 |0,k,x,e=>⟨x,by rw[Lw,Gm]⟩
 |m+1,k,x,e=>by
  obtain⟨x',ih⟩:=ZDY (s1:=s1) hc (G:=G) m (k+1) (xU (.int k)) (by lia);refine⟨x',?_⟩;have hb:Pg [xU h.enc,s1,xU (.int k)] G=.nx [xU h.enc,s1,xU (.int k)] G:=by unfold Pg;simp[hc k (by lia) G]
  rw[K8,G7];simp only[El,R.H8,qX,hb,Ht];have e1:((k:Int)+1)=((k+1:Nat):Int):=by lia
  rw[e1,ih]
theorem ZJP(g:GoodH h)(h1:1<=h.n)(hy:h.yr<=24)(hc:∀k,k<h.n->∀G,Mw [h.enc,.int k] G=.ok .non G)(G:DH):Mu [h.enc] G=.ok h.enc G:=by
 obtain⟨x',hL⟩:=ZDY (s1:=xU (.tup h.Dq)) hc (G:=G) h.n 0 vQ (by lia);have hL':Dl (gV 2) Pg (Do 0 h.n) [xU h.enc,xU (.tup h.Dq),vQ] G=_:=hL;have hn:=g.len;have hy0:=g.yr;have y1:(1:Int)<=h.yr:=by lia
 have n1:(1:Int)<=(h.n:Int):=by lia
 have n2:(h.n:Int)<=12:=by lia
 have hr:inR (h.n:Int):=J0 (by lia) (by lia);unfold Mu ZE8;rw[Be];simp[Oo,Sh,Hs.Vd,y1,hy,n1,n2,h1,hn,hr,hL',Bh]
theorem ZGa(G:DH):∀l:List Nat,(∀c∈l,48<=c/\c<=57)->Cj (gV 0) Bp Vb [vQ] (l.map sgn) G=.ok ((l.map λ_=>vZ).map D.bl) G
 |[],_=>rfl
 |c::l,h=>by
  have ih:=ZGa G l λx hx=>h x (zZ _ hx)
  have hc:=h c (by simp);have he:Vb [xU (sgn c)] G=.ok (.bl vZ) G:=by have:=ZNa hc.1 hc.2 G;unfold Vb;generalize sgn c=z at*;generalize("0123456789":Str)=F at*;simp[this]
  rw[zQ,Ew];simp[he,ih]
theorem ZMG{n:Int}(h0:0<=n)(h1:n<10^40)(G:DH):Uv [.str (Aa (num n))] G=.ok (.bl vZ) G:=by
 have hl:=Fw h1;have hne:1<=(num n).length:=List.length_pos_iff.mpr ZDh;have hc:=ZGa G (num n) λc hc=>ZAC c hc
 have fz:freeze G (.ok (.ref G.length) (G++[.lst (((num n).map λ_=>vZ).map D.bl)]))=.ok (.fl (((num n).map λ_=>vZ).map D.bl)) G:=Ce (Gs λ_ _=>rfl);have al:Hj [.fl (((num n).map λ_=>vZ).map D.bl)] G=.ok (.bl vZ) G:=by rw[Ml];simp
 have ll:(((num n).map λ_=>vZ).map D.bl).length<=1000000:=by simp;lia
 have hs:Hg (.str (Aa (num n))) G=.ok (.pure ((num n).map sgn)) G:=by show R.ok (ItD.pure (signs (Aa (num n)))) G=_;unfold signs;rw[Ij]
 have i0:(Aa (num n)).length<=1000000:=by rw[Dp];lia
 have i1:(1:Int)<=((Aa (num n)).length:Int):=by rw[Dp];lia
 have i2:((Aa (num n)).length:Int)<=40:=by rw[Dp];lia
 have i3:(Aa (num n)).length<=40:=by rw[Dp];lia
 have i4:1<=(Aa (num n)).length:=by rw[Dp];lia
 have hz:Txt.startswith (Aa (num n)) ("0":Str)=vJ∨Aa (num n)=("0":Str):=by
  have e0:("0":Str)=Aa [48]:=by decide +kernel
  rcases ZOl h0 with rfl|⟨c,r,e,hc⟩
  ·refine .inr ?_;rw[e0]
   decide +kernel
  ·refine .inl ?_;rw[e,e0,ZF8];simp[hc]
 have hcs:∀S:DSt,Bq 1 [] S=[vQ]:=λ_=>rfl
 generalize((num n).map λ_=>vZ).map D.bl=Z at*;generalize Aa (num n)=X at*;unfold Uv ZGT;rw[Be];by_cases hz0:X=("0":Str)
 ·have hz':(X=("0":Str))=True:=by simp[hz0]
  simp[-Ml,-ZCG,i0,i1,i2,i3,i4,hs,hcs,hc,ll,fz,al,hz',Bh]
 ·have hz':(X=("0":Str))=False:=by simp[hz0]
  have hst:Txt.startswith X ("0":Str)=vJ:=by
   rcases hz with z|z
   ·exact z
   ·exact absurd z hz0
  simp[-Ml,-ZCG,i0,i1,i2,i3,i4,hs,hcs,hc,ll,fz,al,hst,hz',Bh]
theorem Jy{n:Int}(h0:0<=n)(h1:n<10^40)(G:DH):Im [.str (Aa (num n)),r] G=.ok (.int n) G:=by
 have hl:=Fw h1;have hr:=ZNU h0 h1;have hit:Q6 [.str (Aa (num n))] G=.ok (.int n) G:=by unfold Q6;simp only[hr];rw[if_pos (by rw[Dp];lia)]
 have hn:=ZMG h0 h1 G;generalize Aa (num n)=X at*;unfold Im ZGF;rw[Be];simp[hn,hit,Bh]
def wyL(r:Bool):List Nat:=if r then[114,105,118,101,114]else[112,117,109,112]
theorem ZCe{r:Bool}:wy r=Aa (wyL r):=by cases r<;>decide +kernel
def stL(s:Stp):List Nat:=num s.h++43::(num s.m++32::wyL s.r)
def Gd:List Stp->List Nat
 |[]=>[]
 |s::r=>32::Ai [44,32] ((s::r).map stL)
def snL(s:Ssn):List Nat:=num s.1++58::Gd s.2
def ruL(r:List Ssn):List Nat:=Ai [59,32] (r.map snL)
def StpOk(s:Stp):Prop:=(0<=s.h/\s.h<10^40)/\(0<=s.m/\s.m<10^40)
def SsnOk(s:Ssn):Prop:=(0<=s.1/\s.1<10^40)/\s.2.length<=4/\∀t∈s.2,StpOk t
structure RuOk (r:List Ssn):Prop where
 ne:r≠[]
 len:r.length<=5
 ok:∀s∈r,SsnOk s
theorem Ey{n:Int}(h:c<48∨57<c):c∉num n:=λhc=>by have:=ZAC c hc;lia
theorem Vn{r:Bool}:(wyL r).length<=5:=by cases r<;>decide
theorem ZFL{r:Bool}(h:c<97):c∉wyL r:=λhc=>by cases r<;>simp[wyL]at hc<;>lia
theorem ZA4{s:Stp}(h:StpOk s):(stL s).length<=87:=by have h1:=Fw h.1.2;have h2:=Fw h.2.2;have h3:=Vn (r:=s.r);simp[stL];lia
theorem ZGw{s:Stp}(h:c=44∨c=59):c∉stL s:=λhc=>by
 unfold stL at hc;rcases zB.mp hc with h1|h1
 ·exact Ey (by lia) h1
 ·rcases zJ.mp h1 with h1|h1
  ·lia
  ·rcases zB.mp h1 with h1|h1
   ·exact Ey (by lia) h1
   ·rcases zJ.mp h1 with h1|h1
    ·lia
    ·exact ZFL (by lia) h1
theorem O7{sep:List Nat}:∀(ls:List (List Nat)),c∈Ai sep ls->c∈sep∨∃l∈ls,c∈l
 |[],h=>by cases h
 |[x],h=>.inr ⟨x,by simp,h⟩
 | x::y::r,h=>by
  have h':c∈x++sep++Ai sep (y::r):=h;rcases zB.mp h' with h1|h1
  ·rcases zB.mp h1 with h1|h1
   ·exact .inr ⟨x,by simp,h1⟩
   ·exact .inl h1
  ·rcases O7 (sep:=sep) (y::r) h1 with h2|⟨l,hl,h2⟩
   ·exact .inl h2
   ·exact .inr ⟨l,zZ _ hl,h2⟩
theorem ZJS:59∉Gd st:=λhc=>by
 cases st with
 |nil=>cases hc
 | cons s r=>
  rcases zJ.mp hc with h|h
  ·lia
  ·rcases O7 _ h with h|⟨l,hl,h⟩
   ·simp at h
   ·obtain⟨t,_,rfl⟩:=zw.mp hl;exact ZGw (.inr rfl) h
theorem ZNI{s:Ssn}:59∉snL s:=λhc=>by
 unfold snL at hc;rcases zB.mp hc with h1|h1
 ·exact Ey (by lia) h1
 ·rcases zJ.mp h1 with h1|h1
  ·lia
  ·exact ZJS h1
theorem Vy(hl:st.length<=4)(h:∀t∈st,StpOk t):(Gd st).length<=400:=by
 cases st with
 |nil=>simp[Gd]
 |cons s r=>
  have:=Qf (sep:=[44,32]) (B:=87) ((s::r).map stL) λl hl=>by obtain⟨t,ht,rfl⟩:=zw.mp hl;exact ZA4 (h t ht)
  rw[zK]at this;have h2:(s::r).length*(87 + [44,32].length)<=4*(87 + [44,32].length):=zM _ hl;show(Ai [44,32] ((s::r).map stL)).length+1<=400;simp only[zD,jX]at h2 this;lia
theorem Zx{s:Ssn}(h:SsnOk s):(snL s).length<=450:=by have h1:=Fw h.1.2;have h2:=Vy h.2.1 h.2.2;simp[snL];lia
theorem ZBn{r:List Ssn}(h:RuOk r):(ruL r).length<=2260:=by
 have:=Qf (sep:=[59,32]) (B:=450) (r.map snL) λl hl=>by obtain⟨t,ht,rfl⟩:=zw.mp hl;exact Zx (h.ok t ht)
 rw[zK]at this;have h2:r.length*(450 + [59,32].length)<=5*(450 + [59,32].length):=zM _ h.len;unfold ruL;simp only[zD,jX]at h2 this;lia
theorem Oi{p q:List Nat}(hp:c∉p)(hl:(p++c::q).length<=1000000)(G:DH):Lq (.str (Aa (p++c::q))) [.str (Aa [c])] G=.ok (.tup [.str (Aa p),.str (Aa [c]),.str (Aa q)]) G:=by
 have e:Lq (.str (Aa (p++c::q))) [.str (Aa [c])] G=if(Aa [c]).length≠0/\(Aa (p++c::q)).length<=1000000 then .ok (.tup (part3 (Aa (p++c::q)) (Aa [c]))) G else .bad:=rfl
 rw[e,if_pos ⟨by simp,by rw[Dp];exact hl⟩];unfold part3;rw[ZLR hp]
theorem ZLi{r:Bool}(G:DH):Ld (.str (Aa (wyL r))) (.tup [.str "river",.str "pump"]) G=.ok (.bl vJ) G:=by
 have:∀r:Bool,inD (.str (Aa (wyL r))) (.tup [.str "river",.str "pump"]) []=xU vZ:=by decide +kernel
 have e:inD (.str (Aa (wyL r))) (.tup [.str "river",.str "pump"]) G=inD (.str (Aa (wyL r))) (.tup [.str "river",.str "pump"]) []:=rfl;unfold Ld;rw[e,this]
 rfl
theorem ZKf{s:Stp}(h:StpOk s)(G:DH):Xv [.str (Aa (stL s)),r] G=.ok s.enc G:=by
 have h1:=Fw h.1.2;have h2:=Fw h.2.2;have h3:=Vn (r:=s.r);have p1:=λG=>Oi (p:=num s.h) (q:=num s.m++32::wyL s.r) (c:=43) (Ey (by lia)) (by simp;lia) G
 have p2:=λG=>Oi (p:=num s.m) (q:=wyL s.r) (c:=32) (Ey (by lia)) (by simp;lia) G
 have e1:("+":Str)=Aa [43]:=by decide +kernel
 have e2:(" ":Str)=Aa [32]:=by decide +kernel
 rw[<-e1]at p1;rw[<-e2]at p2;have n1:=λG=>Jy h.1.1 h.1.2 (r:=r) G
 have n2:=λG=>Jy h.2.1 h.2.2 (r:=r) G
 have w:=λG=>ZLi (r:=s.r) G
 have es:stL s=num s.h++43::(num s.m++32::wyL s.r):=rfl;rw[es];unfold Stp.enc;rw[ZCe];generalize Aa (num s.h++43::(num s.m++32::wyL s.r))=X1 at*;generalize Aa (num s.m++32::wyL s.r)=X2 at*;generalize Aa (num s.h)=X3 at*;generalize Aa (num s.m)=X4 at*;generalize Aa (wyL s.r)=X5 at*;unfold Xv ZGX;rw[Be];simp[p1,p2,w,n1,n2,Bh]
theorem ZCv{r:D}(G:DH):∀st:List Stp,(∀s∈st,StpOk s)->Cj (gV 0) Bp Vk [vQ,xU r] ((st.map λs=>Aa (stL s)).map D.str) G=.ok (st.map Stp.enc) G
 |[],_=>rfl
 |s::st,h=>by
  have ih:=ZCv (r:=r) G st λx hx=>h x (zZ _ hx)
  have hs:=ZKf (h s (by simp)) (r:=r) G;have he:Vk [xU (.str (Aa (stL s))),xU r] G=.ok s.enc G:=by generalize Aa (stL s)=X at*;unfold Vk;simp[hs]
  rw[zQ,zQ,Ew];simp only[El,R.Gr,qX,Jk,if_true,he,ih]
  rfl
theorem ZGO(hc:∀x∈l::ls,c∉x)(hcd:c<256/\d<256)(hl:(Ai [c,d] (l::ls)).length<=1000000)(G:DH):Iv (.str (Aa (Ai [c,d] (l::ls)))) [.str (Aa [c,d])] G=.ok (.ref G.length) (G++[.lst (((l::ls).map Aa).map D.str)]):=by
 have e:Iv (.str (Aa (Ai [c,d] (l::ls)))) [.str (Aa [c,d])] G=if(Aa [c,d]).length≠0/\(Aa (Ai [c,d] (l::ls))).length<=1000000 then .ok (.ref G.length) (G++[.lst ((Txt.split (Aa (Ai [c,d] (l::ls))) (Aa [c,d])).map D.str)])else .bad:=rfl
 rw[e,if_pos ⟨by simp,by rw[Dp];exact hl⟩,ZL5 hc hcd]
theorem ZOp(hl:st.length<=4)(h:∀s∈st,StpOk s)(G:DH):Qg [.str (Aa (Gd st)),r] G=.ok (.tup (st.map Stp.enc)) G:=by
 have e0:("":Str)=Aa []:=by decide +kernel
 cases st with
 |nil=>
  have ht:Gd []=[]:=rfl;rw[ht,<-e0];unfold Qg ZAR;rw[Be];simp[Bh]
 | cons s st=>
  have htl:=Vy hl h;have ht:Gd (s::st)=32::Ai [44,32] ((s::st).map stL):=rfl;rw[ht]at htl⊢;have hne:¬Aa (32::Ai [44,32] ((s::st).map stL))=("":Str):=by rw[e0,ZN1];simp
  have e1:(" ":Str)=Aa [32]:=by decide +kernel
  have hst:Txt.startswith (Aa (32::Ai [44,32] ((s::st).map stL))) (" ":Str)=vZ:=by rw[e1,ZF8];simp
  have hsl:Jr (.str (Aa (32::Ai [44,32] ((s::st).map stL)))) (xU 1) vQ G=.ok (.str (Aa (Ai [44,32] ((s::st).map stL)))) G:=by
   rw[J8,if_pos (by rw[Dp];lia)];show R.ok (D.str (Aa (cutD (Aa (32::Ai [44,32] ((s::st).map stL))).cps.toList (xU 1) vQ))) G=_;rw[Ij];have:=Ln (xs:=32::Ai [44,32] ((s::st).map stL)) (a:=1) (by simp);have e:cutD (32::Ai [44,32] ((s::st).map stL)) (xU 1) vQ=(32::Ai [44,32] ((s::st).map stL)).drop 1:=this;rw[e]
   rfl
  have hsp:=ZGO (c:=44) (d:=32) (l:=stL s) (ls:=st.map stL) (λx hx=>by
   have hx':x∈(s::st).map stL:=hx;obtain⟨t,_,rfl⟩:=zw.mp hx';exact ZGw (.inl rfl)) (by decide) (by
   have:(32::Ai [44,32] ((s::st).map stL)).length<=400:=htl;simp only[zD]at this;have e:Ai [44,32] (stL s::st.map stL)=Ai [44,32] ((s::st).map stL):=rfl;rw[e];lia) G
  have e2:(", ":Str)=Aa [44,32]:=by decide +kernel
  rw[<-e2]at hsp;have e3:(stL s::st.map stL).map Aa=(s::st).map λs=>Aa (stL s):=by simp
  have e4:Ai [44,32] (stL s::st.map stL)=Ai [44,32] ((s::st).map stL):=rfl;rw[e3,e4]at hsp;have cc:=ZCv (r:=r) G (s::st) h;have fz:freeze G (.ok (.ref G.length) (G++[.lst (((s::st).map λs=>Aa (stL s)).map D.str)]))=.ok (.fl (((s::st).map λs=>Aa (stL s)).map D.str)) G:=Ce Dv;have fz2:freeze G (.ok (.ref G.length) (G++[.lst ((s::st).map Stp.enc)]))=.ok (.fl ((s::st).map Stp.enc)) G:=Ce ZBm;have ll:((s::st).map Stp.enc).length<=1000000:=by rw[zK];lia
  have fs:∀(x:Str)(G:DH),freeze G (.ok (.str x) G)=.ok (.str x) G:=λx G=>Lh rfl
  have be:bels G.length ((s::st).map Stp.enc)=vZ:=ZBm;have hcs:∀a b:Option D,Bq 1 [1] [a,b]=[vQ,b]:=λ_ _=>rfl
  generalize Aa (32::Ai [44,32] ((s::st).map stL))=X1 at*;generalize Aa (Ai [44,32] ((s::st).map stL))=X2 at*;generalize((s::st).map λs=>Aa (stL s)).map D.str=X3 at*;generalize(s::st).map Stp.enc=X4 at*;unfold Qg ZAR;rw[Be];simp[-J8,hne,hst,hsl,fs,hsp,fz,hcs,cc,ll,fz2,be,Bh]
theorem ZMs{s:Ssn}(h:SsnOk s)(G:DH):Tc [.str (Aa (snL s)),r] G=.ok (Ay s) G:=by
 have h1:=Fw h.1.2;have h2:=Vy h.2.1 h.2.2;have p1:=λG=>Oi (p:=num s.1) (q:=Gd s.2) (c:=58) (Ey (by lia)) (by simp;lia) G
 have e1:(":":Str)=Aa [58]:=by decide +kernel
 rw[<-e1]at p1;have n1:=λG=>Jy h.1.1 h.1.2 (r:=r) G
 have n2:=λG=>ZOp h.2.1 h.2.2 (r:=r) G
 have hne:¬(":":Str)=("":Str):=by decide +kernel
 have es:snL s=num s.1++58::Gd s.2:=rfl;rw[es];unfold Ay;have be:bels G.length (s.2.map Stp.enc)=vZ:=ZBm;generalize Aa (num s.1++58::Gd s.2)=X1 at*;generalize Aa (num s.1)=X2 at*;generalize Aa (Gd s.2)=X3 at*;generalize s.2.map Stp.enc=X4 at*;unfold Tc ZFu;rw[Be];simp[p1,hne,n1,n2,be,Bh]
theorem ZDZ{r:D}(G:DH):∀ss:List Ssn,(∀s∈ss,SsnOk s)->Cj (gV 0) Bp Y6 [vQ,xU r] ((ss.map λs=>Aa (snL s)).map D.str) G=.ok (ss.map Ay) G
 |[],_=>rfl
 |s::ss,h=>by
  have ih:=ZDZ (r:=r) G ss λx hx=>h x (zZ _ hx)
  have hs:=ZMs (h s (by simp)) (r:=r) G;have he:Y6 [xU (.str (Aa (snL s))),xU r] G=.ok (Ay s) G:=by generalize Aa (snL s)=X at*;unfold Y6;simp[hs]
  rw[zQ,zQ,Ew];simp only[El,R.Gr,qX,Jk,if_true,he,ih]
  rfl
theorem Ik(h:l.length+l'.length<=1000000)(G:DH):Ax (.str (Aa l)) (.str (Aa l')) G=.ok (.str (Aa (l++l'))) G:=by
 have e:Ax (.str (Aa l)) (.str (Aa l')) G=if(Aa l).length+(Aa l').length<=1000000 then .ok (.str (Aa l++Aa l')) G else .bad:=rfl
 rw[e,if_pos (by rw[Dp,Dp];exact h),Vh]
theorem Kr(h:(ls.map qj).sum+ls.length*sep.length<=1000000)(G:DH):Ez (.str (Aa sep)) [.fl ((ls.map Aa).map D.str)] G=.ok (.str (Aa (Ai sep ls))) G:=by
 have e:(ls.map Aa).map (·.length)=ls.map qj:=by rw[qk];exact qU λl _=>by simp
 rw[ZEO (by rw[e,zK,Dp];exact h),ZJ8]
theorem Q0{B:Nat}:∀(ls:List (List Nat)),(∀l∈ls,l.length<=B)->(ls.map qj).sum<=ls.length*B
 |[],_=>by simp
 |x::r,h=>by
  have h1:=h x (by simp);have ih:=Q0 r λl hl=>h l (zZ _ hl)
  rw[zQ,List.sum_cons,zD,Nat.succ_mul];lia
theorem e0L:(Str.empty:Str)=Aa []:=by decide +kernel
theorem jp1{out:List Nat}{t:DE}{r:List DE}(ht:t S G=.ok (.str (Aa l)) G)(h:out.length+l.length<=1000000):dJp (Aa out) (t::r) S G=dJp (Aa (out++l)) r S G:=by rw[U9,ht];show(if(Aa out++Aa l).length<=1000000 then _ else _)=_;rw[if_pos (by rw[Vh,Dp,zG];exact h),Vh]
theorem fv1{t:DE}{d:D}(ht:t S G=.ok d G)(hf:Hu d=xU (Aa l)):dFv t S G=.ok (.str (Aa l)) G:=by rw[ZNK,ht];simp only[R.Gr,hf]
theorem ZD9(G:DH):∀st:List Stp,(∀s∈st,StpOk s)->Cj (Cq 3 (Ar (gV 0) (Ar (gV 1) (Ar (gV 2) Cv)))) Bp Tu [vQ,vQ,vQ] (st.map Stp.enc) G=.ok (((st.map stL).map Aa).map D.str) G
 |[],_=>rfl
 | s::st,h=>by
  have ih:=ZD9 G st λx hx=>h x (zZ _ hx)
  have hs:=h s (by simp);have h1:=Fw hs.1.2;have h2:=Fw hs.2.2;have h3:=Vn (r:=s.r);have he:Tu [xU (.int s.h),xU (.int s.m),xU (.str (wy s.r))] G=.ok (.str (Aa (stL s))) G:=by
   have e1:("+":Str)=Aa [43]:=by decide +kernel
   have e2:(" ":Str)=Aa [32]:=by decide +kernel
   have es:stL s=[]++num s.h++[43]++num s.m++[32]++wyL s.r:=by simp[stL]
   rw[es,ZCe];unfold Tu;rw[e0L,e1,e2,jp1 (fv1 (d:=.int s.h) rfl (Ma hs.1.1 hs.1.2)) (by simp;lia),jp1 (l:=[43]) rfl (by simp;lia),jp1 (fv1 (d:=.int s.m) rfl (Ma hs.2.1 hs.2.2)) (by simp;lia),jp1 (l:=[32]) rfl (by simp;lia),jp1 (fv1 (d:=.str (Aa (wyL s.r))) rfl (Vu (by lia))) (by simp;lia),Qt]
  have e0:Stp.enc s=.tup [.int s.h,.int s.m,.str (wy s.r)]:=rfl;rw[zQ,zQ,zQ,zQ,Ew,e0];have hg:(Cq 3 (Ar (gV 0) (Ar (gV 1) (Ar (gV 2) Cv)))) (.tup [.int s.h,.int s.m,.str (wy s.r)]) [vQ,vQ,vQ] G=.ok [xU (.int s.h),xU (.int s.m),xU (.str (wy s.r))] G:=by simp
  simp only[hg,R.Gr,Jk,if_true,he,ih]
theorem ZKD{s:Ssn}(h:SsnOk s)(G:DH):Rz [.int s.1,.tup (s.2.map Stp.enc)] G=.ok (.str (Aa (snL s))) G:=by
 have h1:=Fw h.1.2;have e1:(":":Str)=Aa [58]:=by decide +kernel
 have e2:(": ":Str)=Aa [58,32]:=by decide +kernel
 have e3:(", ":Str)=Aa [44,32]:=by decide +kernel
 cases hst:s.2 with
 |nil=>
  have es:snL s=[]++num s.1++[58]:=by unfold snL;rw[hst];simp[Gd]
  have hj:∀(S:DSt),S[0]?=xU (xU (.int s.1))->∀G,dJp Str.empty [dFv (dV 0),dC (.str ":")] S G=.ok (.str (Aa (snL s))) G:=λS hS G=>by rw[es,e0L,e1,jp1 (fv1 (d:=.int s.1) (by rw[X7,hS]) (Ma h.1.1 h.1.2)) (by simp;lia),jp1 (l:=[58]) rfl (by simp;lia),Qt]
  unfold Rz ZCY;rw[Be];have hj1:=hj [xU (.int s.1),xU (.tup []),vQ] rfl;simp[-U9,hj1,Bh]
 |cons t r=>
  have hl:=h.2.1;have hok:=h.2.2;rw[hst]at hl hok;have htl:=Vy hl hok;have hc:=λG=>ZD9 G (t::r) hok
  have hB:∀l∈(t::r).map stL,l.length<=87:=λl hl=>by obtain⟨u,hu,rfl⟩:=zw.mp hl;exact ZA4 (hok u hu)
  have hjo:=λG=>Kr (sep:=[44,32]) (ls:=(t::r).map stL) (by have h5:=Q0 _ hB;rw[zK]at h5⊢;have h6:(t::r).length*87<=4*87:=zM _ hl;have h7:(t::r).length * [44,32].length<=4*2:=zM _ hl;lia) G
  rw[<-e3]at hjo;have htt:Gd (t::r)=32::Ai [44,32] ((t::r).map stL):=rfl;have hjl:(Ai [44,32] ((t::r).map stL)).length<=400:=by rw[htt]at htl;simp only[zD]at htl;lia
  have es:snL s=[]++num s.1++[58,32]++Ai [44,32] ((t::r).map stL):=by unfold snL;rw[hst,htt];simp
  have hj:∀(S:DSt),S[0]?=xU (xU (.int s.1))->S[2]?=xU (xU (.str (Aa (Ai [44,32] ((t::r).map stL)))))->∀G,dJp Str.empty [dFv (dV 0),dC (.str ": "),dFv (dV 2)] S G=.ok (.str (Aa (snL s))) G:=λS hS hS2 G=>by rw[es,e0L,e2,jp1 (fv1 (d:=.int s.1) (by rw[X7,hS]) (Ma h.1.1 h.1.2)) (by simp;lia),jp1 (l:=[58,32]) rfl (by simp;lia),jp1 (fv1 (d:=.str (Aa (Ai [44,32] ((t::r).map stL)))) (by rw[X7,hS2]) (Vu (by lia))) (by rw[zG,zG];simp only[jX,zD];lia),Qt]
  have fz:∀G:DH,freeze G (.ok (.ref G.length) (G++[.lst ((((t::r).map stL).map Aa).map D.str)]))=.ok (.fl ((((t::r).map stL).map Aa).map D.str)) G:=λG=>Ce Dv
  have ll:((((t::r).map stL).map Aa).map D.str).length<=1000000:=by rw[zK,zK,zK];lia
  have hcs:∀S:DSt,Bq 3 [] S=[vQ,vQ,vQ]:=λ_=>rfl
  have hlen:∀G,Dk [.tup ((t::r).map Stp.enc)] G=.ok (.int ((r.length:Int)+1)) G:=λG=>by simp
  have hnz:¬((r.length:Int)+1=0):=by lia
  have hj1:=hj [xU (.int s.1),xU (.tup ((t::r).map Stp.enc)),xU (.str (Aa (Ai [44,32] ((t::r).map stL))))] rfl rfl;generalize(((t::r).map stL).map Aa).map D.str=Z at*;generalize(t::r).map Stp.enc=Y at*;generalize Aa (Ai [44,32] ((t::r).map stL))=W at*;unfold Rz ZCY;rw[Be];simp[-U9,hlen,hnz,hcs,hc,ll,fz,hjo,hj1,Bh]
theorem ZFz(G:DH):∀ss:List Ssn,(∀s∈ss,SsnOk s)->Cj (Cq 2 (Ar (gV 0) (Ar (gV 1) Cv))) Bp Ub [vQ,vQ] (ss.map Ay) G=.ok (((ss.map snL).map Aa).map D.str) G
 |[],_=>rfl
 |s::ss,h=>by
  have ih:=ZFz G ss λx hx=>h x (zZ _ hx)
  have hs:=ZKD (h s (by simp)) G;have he:Ub [xU (.int s.1),xU (.tup (s.2.map Stp.enc))] G=.ok (.str (Aa (snL s))) G:=by generalize s.2.map Stp.enc=Y at*;unfold Ub;simp[hs]
  have e0:Ay s=.tup [.int s.1,.tup (s.2.map Stp.enc)]:=rfl;rw[zQ,zQ,zQ,zQ,Ew,e0];have hg:(Cq 2 (Ar (gV 0) (Ar (gV 1) Cv))) (.tup [.int s.1,.tup (s.2.map Stp.enc)]) [vQ,vQ] G=.ok [xU (.int s.1),xU (.tup (s.2.map Stp.enc))] G:=by simp
  simp only[hg,R.Gr,Jk,if_true,he,ih]
theorem ZDv(h:RuOk ss):((ss.map snL).map qj).sum+(ss.map snL).length * [59,32].length<=1000000:=by
 have h5:=Q0 (B:=450) (ss.map snL) λl hl=>by obtain⟨u,hu,rfl⟩:=zw.mp hl;exact Zx (h.ok u hu)
 rw[zK]at h5⊢;have h6:ss.length*450<=5*450:=zM _ h.len;have h7:ss.length * [59,32].length<=5*2:=zM _ h.len;lia
theorem ZKR(h:RuOk ss)(G:DH):Xm [.tup (ss.map Ay)] G=.ok (.str (Aa (ruL ss))) G:=by
 have hc:=ZFz G ss h.ok;have hjo:=Kr (sep:=[59,32]) (ls:=ss.map snL) (ZDv h) G;have e2:("; ":Str)=Aa [59,32]:=by decide +kernel
 rw[<-e2]at hjo;have er:Ai [59,32] (ss.map snL)=ruL ss:=rfl;rw[er]at hjo;have fz:freeze G (.ok (.ref G.length) (G++[.lst (((ss.map snL).map Aa).map D.str)]))=.ok (.fl (((ss.map snL).map Aa).map D.str)) G:=Ce Dv;have ll:(((ss.map snL).map Aa).map D.str).length<=1000000:=by rw[zK,zK,zK];have:=h.len;lia
 have hcs:∀S:DSt,Bq 2 [] S=[vQ,vQ]:=λ_=>rfl
 generalize((ss.map snL).map Aa).map D.str=Z at*;generalize ss.map Ay=Y at*;unfold Xm ZGn;rw[Be];simp[hcs,hc,ll,fz,hjo,Bh]
def mkL(first:Bool):List Nat:=if first then[32]else[44,32]
def goL:Bool->List Stp->List Nat
 |_,[]=>[]
 |b,s::r=>mkL b++stL s++goL vJ r
theorem ZEz:∀(s:Stp)(r:List Stp),stL s++goL vJ r=Ai [44,32] ((s::r).map stL)
 |s,[]=>by simp[goL,Ai]
 |s,t::r=>by have ih:=ZEz t r;show stL s++([44,32]++stL t++goL vJ r)=stL s++[44,32]++Ai [44,32] ((t::r).map stL);rw[<-ih];simp
theorem ZJg:goL vZ st=Gd st:=by
 cases st with
 |nil=>rfl
 |cons s r=>
  show[32]++stL s++goL vJ r=32::Ai [44,32] ((s::r).map stL);rw[<-ZEz];simp
def mkS(b:Bool):Str:=if b then " " else ", "
theorem ZNd{b:Bool}:mkS b=Aa (mkL b):=by cases b<;>decide +kernel
theorem ZDA{s0 s1 s2 s3:Option D}{G:DH}:∀(st:List Stp)(b:Bool)(T:List Nat)(x6 x7 x8:Option D),(∀s∈st,StpOk s)->T.length+st.length*89<=10000->∃y5 y6 y7 y8,
  Dl (Cq 3 (Ar (gV 6) (Ar (gV 7) (Ar (gV 8) Cv)))) Ww (st.map Stp.enc) [s0,s1,s2,s3,xU (.str (Aa T)),xU (.str (mkS b)),x6,x7,x8] G=
   .nx [s0,s1,s2,s3,xU (.str (Aa (T++goL b st))),y5,y6,y7,y8] G
 |[],b,T,x6,x7,x8,_,_=>⟨xU (.str (mkS b)),x6,x7,x8,by rw[zH,Gm];simp[goL]⟩
 | s::st,b,T,x6,x7,x8,h,hT=>by
  have hs:=h s (by simp);have h1:=Fw hs.1.2;have h2:=Fw hs.2.2;have h3:=Vn (r:=s.r)
  have h4:(mkL b).length<=2:=by cases b<;>decide
  simp only[zD]at hT;rw[Nat.succ_mul]at hT;have e1:("+":Str)=Aa [43]:=by decide +kernel
  have e2:(" ":Str)=Aa [32]:=by decide +kernel
  have hsl:=ZA4 hs;have es:T++mkL b++num s.h++[43]++num s.m++[32]++wyL s.r=T++(mkL b++stL s):=by simp[stL]
  obtain⟨y5,y6,y7,y8,ih⟩:=ZDA (s0:=s0) (s1:=s1) (s2:=s2) (s3:=s3) (G:=G) st vJ (T++(mkL b++stL s)) (xU (.int s.h)) (xU (.int s.m)) (xU (.str (wy s.r))) (λx hx=>h x (zZ _ hx)) (by simp;lia);refine⟨y5,y6,y7,y8,?_⟩;have hb:Ww [s0,s1,s2,s3,xU (.str (Aa T)),xU (.str (mkS b)),xU (.int s.h),xU (.int s.m),xU (.str (wy s.r))] G=.nx [s0,s1,s2,s3,xU (.str (Aa (T++(mkL b++stL s)))),xU (.str (mkS vJ)),xU (.int s.h),xU (.int s.m),xU (.str (wy s.r))] G:=by
   have a1:=λG=>Ik (l:=T) (l':=mkL b) (by lia) G
   have a2:=λG=>Ik (l:=T++mkL b) (l':=num s.h) (by simp;lia) G
   have a3:=λG=>Ik (l:=T++mkL b++num s.h) (l':=[43]) (by simp;lia) G
   have a4:=λG=>Ik (l:=T++mkL b++num s.h++[43]) (l':=num s.m) (by simp;lia) G
   have a5:=λG=>Ik (l:=T++mkL b++num s.h++[43]++num s.m) (l':=[32]) (by simp;lia) G
   have a6:=λG=>Ik (l:=T++mkL b++num s.h++[43]++num s.m++[32]) (l':=wyL s.r) (by simp;lia) G
   have c1:=λG=>Ib hs.1.1 hs.1.2 G
   have c2:=λG=>Ib hs.2.1 hs.2.2 G
   have em:mkS vJ=(", ":Str):=rfl;rw[es]at a6;rw[em,ZNd,ZCe];rw[<-e1]at a3;rw[<-e2]at a5;generalize Aa (T++(mkL b++stL s))=X6 at*;generalize Aa (T++mkL b++num s.h++[43]++num s.m++[32])=X5 at*;generalize Aa (T++mkL b++num s.h++[43]++num s.m)=X4 at*;generalize Aa (T++mkL b++num s.h++[43])=X3 at*;generalize Aa (T++mkL b++num s.h)=X2 at*;generalize Aa (T++mkL b)=X1 at*;generalize Aa T=X0 at*
   generalize Aa (mkL b)=Y1 at*;generalize Aa (num s.h)=Y2 at*;generalize Aa (num s.m)=Y3 at*;generalize Aa (wyL s.r)=Y4 at*;unfold Ww;simp[-J1,a1,a2,a3,a4,a5,a6,c1,c2]
  have e0:Stp.enc s=.tup [.int s.h,.int s.m,.str (wy s.r)]:=rfl;rw[zQ,G7,e0];simp only[ZFK,ZDE,ZDx,El,R.Gr,R.H8,qX,zD,jX,Nat.reduceAdd,if_true,hb,Ht];rw[ih];show SR.nx [s0,s1,s2,s3,xU (.str (Aa (T++(mkL b++stL s)++goL vJ st))),y5,y6,y7,y8] G=.nx [s0,s1,s2,s3,xU (.str (Aa (T++(mkL b++stL s++goL vJ st)))),y5,y6,y7,y8] G;rw[zT]
theorem ZFa{s0:Option D}{G:DH}:∀(ss:List Ssn)(acc:List (List Nat))(x2 x3 x4 x5 x6 x7 x8:Option D),(∀s∈ss,SsnOk s)->acc.length+ss.length<=100->∃y2 y3 y4 y5 y6 y7 y8,
  Dl (Cq 2 (Ar (gV 2) (Ar (gV 3) Cv))) Q5 (ss.map Ay) [s0,xU (.ref G.length),x2,x3,x4,x5,x6,x7,x8] (G++[.lst ((acc.map Aa).map D.str)])=
   .nx [s0,xU (.ref G.length),y2,y3,y4,y5,y6,y7,y8] (G++[.lst (((acc++ss.map snL).map Aa).map D.str)])
 |[],acc,x2,x3,x4,x5,x6,x7,x8,_,_=>⟨x2,x3,x4,x5,x6,x7,x8,by rw[zH,Gm];simp⟩
 | s::ss,acc,x2,x3,x4,x5,x6,x7,x8,h,hl=>by
  have hs:=h s (by simp);have h1:=Fw hs.1.2;simp only[zD]at hl;have hsl:=Zx hs;have h4:s.2.length*89<=4*89:=zM _ hs.2.1;obtain⟨z5,z6,z7,z8,hin⟩:=ZDA (s0:=s0) (s1:=xU (.ref G.length)) (s2:=xU (.int s.1)) (s3:=xU (.tup (s.2.map Stp.enc))) (G:=G++[.lst ((acc.map Aa).map D.str)]) s.2 vZ (num s.1++[58]) x6 x7 x8 hs.2.2 (by simp;lia);have es:num s.1++[58]++goL vZ s.2=snL s:=by rw[ZJg];simp[snL]
  rw[es]at hin;obtain⟨y2,y3,y4,y5,y6,y7,y8,ih⟩:=ZFa (s0:=s0) (G:=G) ss (acc++[snL s]) (xU (.int s.1)) (xU (.tup (s.2.map Stp.enc))) (xU (.str (Aa (snL s)))) z5 z6 z7 z8 (λx hx=>h x (zZ _ hx)) (by simp;lia);refine⟨y2,y3,y4,y5,y6,y7,y8,?_⟩;have hb:Q5 [s0,xU (.ref G.length),xU (.int s.1),xU (.tup (s.2.map Stp.enc)),x4,x5,x6,x7,x8] (G++[.lst ((acc.map Aa).map D.str)])=.nx [s0,xU (.ref G.length),xU (.int s.1),xU (.tup (s.2.map Stp.enc)),xU (.str (Aa (snL s))),z5,z6,z7,z8] (G++[.lst (((acc++[snL s]).map Aa).map D.str)]):=by
   have e1:(":":Str)=Aa [58]:=by decide +kernel
   have a1:=λG=>Ik (l:=num s.1) (l':=[58]) (by simp;lia) G
   rw[<-e1]at a1;have c1:=λG=>Ib hs.1.1 hs.1.2 G
   have em:mkS vZ=(" ":Str):=rfl;rw[em]at hin;have hal:((acc.map Aa).map D.str).length<1000000:=by simp;lia
   rw[j5,j5,zQ,zH,zQ,zH];generalize(acc.map Aa).map D.str=A at*;generalize s.2.map Stp.enc=B at*;generalize Aa (snL s)=X1 at*;generalize Aa (num s.1++[58])=X2 at*;generalize Aa (num s.1)=X3 at*;unfold Q5;simp[-J1,c1,a1,hin,Er,Hi,hal]
  have e0:Ay s=.tup [.int s.1,.tup (s.2.map Stp.enc)]:=rfl;rw[zQ,G7,e0];simp only[ZFK,ZDE,ZDx,El,R.Gr,R.H8,qX,zD,jX,Nat.reduceAdd,if_true,hb,Ht];rw[ih];show SR.nx _ (G++[.lst (((acc++[snL s]++ss.map snL).map Aa).map D.str)])=SR.nx _ (G++[.lst (((acc++(snL s::ss.map snL)).map Aa).map D.str)]);rw[zT]
  rfl
theorem ZOW(h:RuOk ss)(G:DH):Ul [.tup (ss.map Ay)] G=.ok (.str (Aa (ruL ss))) G:=by
 obtain⟨y2,y3,y4,y5,y6,y7,y8,hL⟩:=ZFa (s0:=xU (.tup (ss.map Ay))) (G:=G) ss [] vQ vQ vQ vQ vQ vQ vQ h.ok (by have:=h.len;simp;lia);have hL':Dl (Cq 2 (Ar (gV 2) (Ar (gV 3) Cv))) Q5 (ss.map Ay) [xU (.tup (ss.map Ay)),xU (.ref G.length),vQ,vQ,vQ,vQ,vQ,vQ,vQ] (G++[.lst []])=_:=hL;rw[List.nil_append]at hL';have hjo:=Kr (sep:=[59,32]) (ls:=ss.map snL) (ZDv h) (G++[.lst (((ss.map snL).map Aa).map D.str)])
 have e2:("; ":Str)=Aa [59,32]:=by decide +kernel
 have er:Ai [59,32] (ss.map snL)=ruL ss:=rfl;rw[<-e2,er]at hjo;have hjr:Ez (.str ("; ":Str)) [.ref G.length] (G++[.lst (((ss.map snL).map Aa).map D.str)])=.ok (.str (Aa (ruL ss))) (G++[.lst (((ss.map snL).map Aa).map D.str)]):=by
  rw[<-hjo];have hg:(G++[DO.lst (((ss.map snL).map Aa).map D.str)])[G.length]?=xU (.lst (((ss.map snL).map Aa).map D.str)):=by rw[Er];rfl
  simp only[Ez,Cy,hg]
 generalize((ss.map snL).map Aa).map D.str=Z at*;generalize ss.map Ay=Y at*;have td:∀L:DH,tidy G (.ok (.str (Aa (ruL ss))) (G++L))=.ok (.str (Aa (ruL ss))) G:=λL=>Sg rfl
 unfold Ul ZDV;rw[Be];simp[Bo,Fp,hL',hjr,td]
noncomputable def wl(s:Str):List Nat:=s.cps.toList
theorem Dt:Aa (wl s)=s:=ZMm.symm
structure LW (z:Str):Prop where
 ge:1<=(wl z).length
 le:(wl z).length<=8
 le':∀c∈wl z,97<=c/\c<=122
theorem LW.of(h:Wd z):LW z:=by
 obtain⟨l,rfl,h1,h2,h3⟩:=h;have e:wl (Aa l)=l:=by simp[wl]
 exact⟨by rw[e];exact h1,by rw[e];exact h2,λc hc=>by rw[e]at hc;have:=h3 c hc;lia⟩
theorem LW.sea:LW "sea":=⟨by decide +kernel,by decide +kernel,by decide +kernel⟩
theorem LW.no(h:LW z)(hc:c<97):c∉wl z:=λz=>by have:=h.le' c z;lia
theorem LW.len(h:LW z):z.length<=8/\1<=z.length:=by
 have:z.length=(wl z).length:=by simp[wl,Str.length]
 rw[this];exact⟨h.le,h.ge⟩
theorem Pb(h:LW z)(G:DH):Ls [.str z,r] G=.ok (.str z) G:=by
 have hz:z.length<=1000000:=by have:=h.len;lia
 have hne:¬z="":=λe=>by have:=h.len.2;rw[e]at this;exact absurd this (by decide)
 have hall:z.cps.toList.all small=vZ:=qY.mpr λc hc=>by have:=h.le' c hc;unfold small;exact decide_eq_true (by lia)
 have hc:Cj (gV 0) Bp V7 [vQ] (signs z) G=.ok ((z.cps.toList.map small).map D.bl) G:=by
  have:=Pn (g:=gV 0) (c:=Bp) (te:=V7) (S:=[vQ]) (G:=G) (F:=λd=>match d with | .str x=>xU (.bl (small (x.cps.getD 0 0)))|_=>vQ) (xs:=signs z) (λx hx=>by obtain⟨c,_,rfl⟩:=zw.mp hx;refine⟨[xU (sgn c)],rfl,.inr ⟨rfl,.bl (small c),?_,rfl⟩⟩;unfold V7;simp[ZEZ])
  rw[this]
  congr 1
  unfold signs
  induction z.cps.toList with
  |nil=>rfl
  |cons c r ih=>simp only[zQ,zS,sgn,ih];rfl
 have hlen:((z.cps.toList.map small).map D.bl).length<=1000000:=by simp;simpa[Str.length]using hz
 have hb:freeze G (.ok (.ref G.length) (G++[.lst ((z.cps.toList.map small).map D.bl)]))=.ok (.fl ((z.cps.toList.map small).map D.bl)) G:=Ce ZCi;have ha:Hj [.fl ((z.cps.toList.map small).map D.bl)] G=.ok (.bl vZ) G:=by
  rw[Ml]
  congr 2
  rw[List.all_map];exact hall
 have hcs:∀S:DSt,Bq 1 [] S=[vQ]:=λ_=>rfl
 generalize(z.cps.toList.map small).map D.bl=bs at*;unfold Ls ZC9;rw[Be];simp[hne,hz,hcs,hc,Bo,hlen,hb,ha,Bh]
def Di(h:Hs):Option (Nat×Nat×Int)->List Nat
 |none=>wl "none"
 |some (to,dl,m)=>Ai [44] [wl (h.pl to).nm,num dl,num m]
def Ci(h:Hs)(p:Pl):List (List Nat):=match p.kd with
 |.town a b=>[wl "town",wl p.nm,wl (h.dnT p.dn),num p.dl,num a,num b]
 |.mill a=>[wl "mill",wl p.nm,wl (h.dnT p.dn),num p.dl,num a]
 |.basin b r q=>[wl "basin",wl p.nm,wl (h.dnT p.dn),num p.dl,num b,Di h q,ruL r]
def Bl(h:Hs)(p:Pl):List Nat:=Ai [32] (Ci h p)
structure PO (h:Hs) (p:Pl):Prop where
 nm:LW p.nm
 dn:LW (h.dnT p.dn)
 dl:p.dl<=5
 town:∀a b,p.kd=.town a b->(0<=a/\a<10^40)/\0<=b/\b<10^40
 mill:∀a,p.kd=.mill a->0<=a/\a<10^40
 basin:∀b r q,p.kd=.basin b r q->(0<=b/\b<10^40)/\RuOk r
 pump:∀b r to dl m,p.kd=.basin b r (xU (to,dl,m))->LW (h.pl to).nm/\(1<=dl/\dl<=5)/\0<=m/\m<10^40
theorem Ec{n:Nat}(h:n<=5):(0:Int)<=(n:Int)/\(n:Int)<10^40:=by lia
theorem Fd{n:Int}(h:n<10^40):(num n).length<=40:=Fw h
theorem ZDw(hq:∀to dl m,q=xU (to,dl,m)->LW (h.pl to).nm/\(1<=dl/\dl<=5)/\0<=m/\m<10^40):(Di h q).length<=200:=by
 cases q with
 |none=>
  show(wl "none").length<=200
  decide +kernel
 |some z=>
  obtain⟨to,dl,m⟩:=z;obtain⟨h1,h2,h3⟩:=hq to dl m rfl;have a:=h1.le;have b:=Fd (Ec h2.2).2;have c:=Fd h3.2;show(Ai [44] [wl (h.pl to).nm,num dl,num m]).length<=200;have e:Ai [44] [wl (h.pl to).nm,num dl,num m]=wl (h.pl to).nm++[44]++(num dl++[44]++num m):=rfl;rw[e];simp;lia
theorem ZG9(hq:∀to dl m,q=xU (to,dl,m)->LW (h.pl to).nm/\(1<=dl/\dl<=5)/\0<=m/\m<10^40)(hc:c=32∨c=10):c∉Di h q:=by
 cases q with
 |none=>
  show c∉wl "none"
  rcases hc with rfl|rfl<;>decide +kernel
 | some z=>
  obtain⟨to,dl,m⟩:=z;obtain⟨h1,h2,h3⟩:=hq to dl m rfl;intro hm;rcases O7 _ hm with z|⟨l,hl,hc'⟩
  ·rw[qD]at z;lia
  ·simp only[zJ,z9,or_false]at hl;rcases hl with rfl|rfl|rfl
   ·exact h1.no (by lia) hc'
   ·exact Ey (by lia) hc'
   ·exact Ey (by lia) hc'
theorem ZL0 {r:List Ssn}:10∉ruL r:=λhm=>by
 rcases O7 _ hm with z|⟨l,hl,hc⟩
 ·simp at z
 ·obtain ⟨s,_,rfl⟩:=zw.mp hl;unfold snL at hc;rcases zB.mp hc with z|z
  ·exact Ey (by lia) z
  ·rcases zJ.mp z with z|z
   ·cases z
   ·unfold Gd at z;cases hs:s.2 with
    |nil=>rw[hs]at z;cases z
    | cons t ts=>
     rw[hs]at z;rcases zJ.mp z with z|z
     ·cases z
     ·rcases O7 _ z with z|⟨l,hl,hc⟩
      ·simp at z
      ·obtain⟨u,_,rfl⟩:=zw.mp hl;unfold stL at hc;rcases zB.mp hc with z|z
       ·exact Ey (by lia) z
       ·rcases zJ.mp z with z|z
        ·cases z
        ·rcases zB.mp z with z|z
         ·exact Ey (by lia) z
         ·rcases zJ.mp z with z|z
          ·cases z
          ·exact ZFL (by lia) z
theorem ZL9(o:PO h p):∀l∈Ci h p,10∉l:=λl hl=>by
 have hT:(10:Nat)∉wl "town":=by decide +kernel
 have hM:(10:Nat)∉wl "mill":=by decide +kernel
 have hB:(10:Nat)∉wl "basin":=by decide +kernel
 have n10:∀n:Int,10∉num n:=λn=>Ey (by lia)
 unfold Ci at hl;cases e:p.kd with
 |town a b=>
  rw[e]at hl;simp only[zJ,z9,or_false]at hl;rcases hl with rfl|rfl|rfl|rfl|rfl|rfl
  ·exact hT
  ·exact o.nm.no (by lia)
  ·exact o.dn.no (by lia)
  ·exact n10 _
  ·exact n10 _
  ·exact n10 _
 |mill a=>
  rw[e]at hl;simp only[zJ,z9,or_false]at hl;rcases hl with rfl|rfl|rfl|rfl|rfl
  ·exact hM
  ·exact o.nm.no (by lia)
  ·exact o.dn.no (by lia)
  ·exact n10 _
  ·exact n10 _
 |basin b r q=>
  rw[e]at hl;simp only[zJ,z9,or_false]at hl;rcases hl with rfl|rfl|rfl|rfl|rfl|rfl|rfl
  ·exact hB
  ·exact o.nm.no (by lia)
  ·exact o.dn.no (by lia)
  ·exact n10 _
  ·exact n10 _
  ·exact ZG9 (λto dl m eq=>o.pump b r to dl m (by rw[e,eq])) (.inr rfl)
  ·exact ZL0
theorem ZNV(o:PO h p):10∉Bl h p:=λhm=>by
 rcases O7 _ hm with z|⟨l,hl,hc⟩
 ·simp at z
 ·exact ZL9 o l hl hc
theorem Rj(o:PO h p):(∀l∈Ci h p,l.length<=2260)/\(Ci h p).length<=7:=by
 have hT:(wl "town").length<=2260:=by decide +kernel
 have hM:(wl "mill").length<=2260:=by decide +kernel
 have hB:(wl "basin").length<=2260:=by decide +kernel
 have h1:=o.nm.le;have h2:=o.dn.le;have h3:=Fd (Ec o.dl).2;unfold Ci;cases e:p.kd with
 |town a b=>
  obtain⟨h4,h5⟩:=o.town a b e;have h6:=Fd h4.2;have h7:=Fd h5.2;refine⟨λl hl=>?_,by simp⟩;simp only[zJ,z9,or_false]at hl
  rcases hl with rfl|rfl|rfl|rfl|rfl|rfl<;>lia
 |mill a=>
  have h6:=Fd (o.mill a e).2;refine⟨λl hl=>?_,by simp⟩;simp only[zJ,z9,or_false]at hl
  rcases hl with rfl|rfl|rfl|rfl|rfl<;>lia
 |basin b r q=>
  obtain⟨h4,h5⟩:=o.basin b r q e;have h6:=Fd h4.2;have h7:=ZBn h5;have h8:=ZDw (h:=h) (q:=q) (λto dl m eq=>o.pump b r to dl m (by rw[e,eq]));refine⟨λl hl=>?_,by simp⟩;simp only[zJ,z9,or_false]at hl
  rcases hl with rfl|rfl|rfl|rfl|rfl|rfl|rfl<;>lia
theorem ZCh(o:PO h p):(Bl h p).length<=16000:=by have h1:=Qf (sep:=[32]) (B:=2260) (Ci h p) (Rj o).1;have h2:=(Rj o).2;have h3:(Ci h p).length*(2260 + [32].length)<=7*(2260+1):=zM _ h2;unfold Bl;lia
theorem Qi(h:s.length<=1000000)(G:DH):Kg [.str s] G=.ok (.str s) G:=ZNS
theorem Nj{n:Int}(h0:0<=n)(h1:n<10^40)(G:DH):Kg [.int n] G=.ok (.str (Aa (num n))) G:=Ib h0 h1 G
theorem Vw(hte:te=dFn Kg (Ac (dV 0) Af)){G:DH}:∀(ds:List D)(ls:List (List Nat)),ds.length=ls.length->(∀i(h1:i<ds.length)(h2:i<ls.length),Kg [ds[i]] G=.ok (.str (Aa ls[i])) G)->Cj (gV 0) Bp te [vQ] ds G=.ok ((ls.map Aa).map D.str) G
 |[],[],_,_=>by rw[Ru];rfl
 |d::ds,l::ls,hl,h=>by
  have h0:=h 0 (by simp) (by simp);have ih:=Vw hte (G:=G) ds ls (by simpa using hl) λi h1 h2=>h (i+1) (by simpa using h1) (by simpa using h2)
  subst hte;simp only[List.getElem_cons_zero]at h0;rw[Ew];simp[h0,ih]
theorem sum7(o:PO h p):((Ci h p).map qj).sum+(Ci h p).length * [32].length<=1000000:=by have h1:=Q0 (B:=2260) (Ci h p) (Rj o).1;have h2:=(Rj o).2;have h3:(Ci h p).length*2260<=7*2260:=zM _ h2;simp only[jz];lia
theorem Lz:(" ":Str)=Aa [32]:=by decide +kernel
theorem W3:(",":Str)=Aa [44]:=by decide +kernel
theorem ZCS:("\n":Str)=Aa [10]:=by decide +kernel
theorem ZLX(hq:∀to dl m,q=xU (to,dl,m)->LW (h.pl to).nm/\(1<=dl/\dl<=5)/\0<=m/\m<10^40)(G:DH):Ot [h.Dh q] G=.ok (.str (Aa (Di h q))) G:=by
 cases q with
 |none=>
  have e:Aa (Di h vQ)="none":=Dt;rw[e];unfold Ot ZCc;rw[Be];simp[Hs.Dh,Fi,Bh]
 | some z=>
  obtain⟨to,dl,m⟩:=z;obtain⟨h1,h2,h3⟩:=hq to dl m rfl;have hc:=Vw (te:=ZFT) rfl (G:=G) [.str (h.pl to).nm,.int dl,.int m] [wl (h.pl to).nm,num dl,num m] rfl (λi i1 i2=>by
   have i3:i<3:=i1;rcases(by lia:i=0∨i=1∨i=2)with rfl|rfl|rfl
   ·have:=Qi (s:=(h.pl to).nm) (by have:=h1.len;lia) G;simpa[Dt]using this
   ·exact Nj (Ec h2.2).1 (Ec h2.2).2 G
   ·exact Nj h3.1 h3.2 G)
  have a:=h1.le;have b:=Fd (Ec h2.2).2;have c:=Fd h3.2;have hj:=Kr (sep:=[44]) (ls:=[wl (h.pl to).nm,num dl,num m]) (by simp;lia) G;rw[<-W3]at hj;have fz:freeze G (.ok (.ref G.length) (G++[.lst (([wl (h.pl to).nm,num dl,num m].map Aa).map D.str)]))=.ok (.fl (([wl (h.pl to).nm,num dl,num m].map Aa).map D.str)) G:=Ce Dv;have hl:(([wl (h.pl to).nm,num dl,num m].map Aa).map D.str).length<=1000000:=by simp
  have e:Di h (xU (to,dl,m))=Ai [44] [wl (h.pl to).nm,num dl,num m]:=rfl;rw[e];have hcs:∀S:DSt,Bq 1 [] S=[vQ]:=λ_=>rfl
  have ep:h.Dh (xU (to,dl,m))=.tup [.str (h.pl to).nm,.int dl,.int m]:=rfl;rw[ep];generalize([wl (h.pl to).nm,num dl,num m].map Aa).map D.str=Z at*;generalize Aa (Ai [44] [wl (h.pl to).nm,num dl,num m])=R at*;unfold Ot ZCc;rw[Be];simp[Fi,hcs,hc,Bo,hl,fz,hj,Bh]
theorem ZLW(o:PO h p)(G:DH):Oa [h.encP p] G=.ok (.str (Aa (Bl h p))) G:=by
 have hj:=Kr (sep:=[32]) (ls:=Ci h p) (sum7 o) G;rw[<-Lz]at hj;have fz:freeze G (.ok (.ref G.length) (G++[.lst (((Ci h p).map Aa).map D.str)]))=.ok (.fl (((Ci h p).map Aa).map D.str)) G:=Ce Dv;have hl:(((Ci h p).map Aa).map D.str).length<=1000000:=by have:=(Rj o).2;simp;lia
 have hcs:∀S:DSt,Bq 1 [] S=[vQ]:=λ_=>rfl
 have n1:=Qi (s:=p.nm) (by have:=o.nm.len;lia) G;have n2:=Qi (s:=h.dnT p.dn) (by have:=o.dn.len;lia) G;have n3:=Nj (Ec o.dl).1 (Ec o.dl).2 G;cases e:p.kd with
 | town a b=>
  obtain⟨h4,h5⟩:=o.town a b e;have ew:Ci h p=[wl "town",wl p.nm,wl (h.dnT p.dn),num p.dl,num a,num b]:=by unfold Ci;rw[e]
  have ee:h.encP p=.tup [.str "town",.str p.nm,.str (h.dnT p.dn),.int p.dl,.int a,.int b]:=by unfold Hs.encP;rw[e]
  have hc:=Vw (te:=ZCA) rfl (G:=G) [.str "town",.str p.nm,.str (h.dnT p.dn),.int p.dl,.int a,.int b] (Ci h p) (by rw[ew];rfl) (λi i1 i2=>by
   have i3:i<6:=i1;simp only[ew];rcases(by lia:i=0∨i=1∨i=2∨i=3∨i=4∨i=5)with rfl|rfl|rfl|rfl|rfl|rfl
   ·have:=Qi (s:="town") (by decide) G;simpa[Dt]using this
   ·simpa[Dt]using n1
   ·simpa[Dt]using n2
   ·exact n3
   ·exact Nj h4.1 h4.2 G
   ·exact Nj h5.1 h5.2 G)
  have nb:¬(("town":Str)="basin"):=by decide
  rw[ee];unfold Bl;generalize((Ci h p).map Aa).map D.str=Z at*;generalize Aa (Ai [32] (Ci h p))=R at*;unfold Oa Yg;rw[Be];simp[nb,hcs,hc,Bo,hl,fz,hj,Bh]
 | mill a=>
  have h4:=o.mill a e;have ew:Ci h p=[wl "mill",wl p.nm,wl (h.dnT p.dn),num p.dl,num a]:=by unfold Ci;rw[e]
  have ee:h.encP p=.tup [.str "mill",.str p.nm,.str (h.dnT p.dn),.int p.dl,.int a]:=by unfold Hs.encP;rw[e]
  have hc:=Vw (te:=ZCA) rfl (G:=G) [.str "mill",.str p.nm,.str (h.dnT p.dn),.int p.dl,.int a] (Ci h p) (by rw[ew];rfl) (λi i1 i2=>by
   have i3:i<5:=i1;simp only[ew];rcases(by lia:i=0∨i=1∨i=2∨i=3∨i=4)with rfl|rfl|rfl|rfl|rfl
   ·have:=Qi (s:="mill") (by decide) G;simpa[Dt]using this
   ·simpa[Dt]using n1
   ·simpa[Dt]using n2
   ·exact n3
   ·exact Nj h4.1 h4.2 G)
  have nb:¬(("mill":Str)="basin"):=by decide
  rw[ee];unfold Bl;generalize((Ci h p).map Aa).map D.str=Z at*;generalize Aa (Ai [32] (Ci h p))=R at*;unfold Oa Yg;rw[Be];simp[nb,hcs,hc,Bo,hl,fz,hj,Bh]
 | basin b r q=>
  obtain⟨h4,h5⟩:=o.basin b r q e;have hq:∀to dl m,q=xU (to,dl,m)->LW (h.pl to).nm/\(1<=dl/\dl<=5)/\0<=m/\m<10^40:=λto dl m eq=>o.pump b r to dl m (by rw[e,eq])
  have cp:=ZLX hq G;have cr:=ZKR h5 G;have ee:h.encP p=.tup [.str "basin",.str p.nm,.str (h.dnT p.dn),.int p.dl,.int b,.tup (r.map Ay),h.Dh q]:=by unfold Hs.encP;rw[e]
  have er:Bl h p=wl "basin"++[32]++(wl p.nm++[32]++(wl (h.dnT p.dn)++[32]++(num p.dl++[32]++(num b++[32]++(Di h q++[32]++ruL r))))):=by unfold Bl Ci;rw[e];rfl
  have l1:=o.nm.le;have l2:=o.dn.le;have l3:=Fd (Ec o.dl).2;have l4:=Fd h4.2;have l5:=ZDw hq;have l6:=ZBn h5;have l0:(wl "basin").length=5:=by decide +kernel
  have f0:Hu (.str "basin")=xU (Aa (wl "basin")):=by rw[Dt];rfl
  have f1:Hu (.str p.nm)=xU (Aa (wl p.nm)):=by rw[Dt];exact if_pos (by have:=o.nm.len;lia)
  have f2:Hu (.str (h.dnT p.dn))=xU (Aa (wl (h.dnT p.dn))):=by rw[Dt];exact if_pos (by have:=o.dn.len;lia)
  have f3:Hu (.int p.dl)=xU (Aa (num p.dl)):=Ma (Ec o.dl).1 (Ec o.dl).2;have f4:Hu (.int b)=xU (Aa (num b)):=Ma h4.1 h4.2;have f5:Hu (.str (Aa (Di h q)))=xU (Aa (Di h q)):=Vu (by lia);have f6:Hu (.str (Aa (ruL r)))=xU (Aa (ruL r)):=Vu (by lia);have t4:∀x0,ZAV [x0,xU (.str "basin"),xU (.str p.nm),xU (.str (h.dnT p.dn)),xU (.int p.dl),xU (.int b),xU (.tup (r.map Ay)),xU (h.Dh q),xU (.str (Aa (Di h q))),xU (.str (Aa (ruL r)))] G=.rt (.str (Aa (Bl h p))) G:=λx0=>by
   have sp:∀S,dC (.str " ") S G=.ok (.str (Aa [32])) G:=λS=>by rw[<-Lz];rfl
   unfold ZAV;rw[ZKU,e0L];generalize hS: [x0,xU (.str "basin"),xU (.str p.nm),xU (.str (h.dnT p.dn)),xU (.int p.dl),xU (.int b),xU (.tup (r.map Ay)),xU (h.Dh q),xU (.str (Aa (Di h q))),xU (.str (Aa (ruL r)))]=S;have v1:dV 1 S G=.ok (.str "basin") G:=by rw[<-hS];rfl
   have v2:dV 2 S G=.ok (.str p.nm) G:=by rw[<-hS];rfl
   have v3:dV 3 S G=.ok (.str (h.dnT p.dn)) G:=by rw[<-hS];rfl
   have v4:dV 4 S G=.ok (.int p.dl) G:=by rw[<-hS];rfl
   have v5:dV 5 S G=.ok (.int b) G:=by rw[<-hS];rfl
   have v8:dV 8 S G=.ok (.str (Aa (Di h q))) G:=by rw[<-hS];rfl
   have v9:dV 9 S G=.ok (.str (Aa (ruL r))) G:=by rw[<-hS];rfl
   rw[jp1 (fv1 v1 f0) (by simp;lia),jp1 (sp S) (by simp;lia),jp1 (fv1 v2 f1) (by simp;lia),jp1 (sp S) (by simp;lia),jp1 (fv1 v3 f2) (by simp;lia),jp1 (sp S) (by simp;lia),jp1 (fv1 v4 f3) (by simp;lia),jp1 (sp S) (by simp;lia),jp1 (fv1 v5 f4) (by simp;lia),jp1 (sp S) (by simp;lia),jp1 (fv1 v8 f5) (by simp;lia),jp1 (sp S) (by simp;lia),jp1 (fv1 v9 f6) (by simp;lia),Qt,R.H8]
   rw[er];simp
  rw[ee];generalize Aa (Bl h p)=R at*;generalize Aa (Di h q)=PL at*;generalize Aa (ruL r)=RL at*;generalize r.map Ay=RR at*;unfold Oa Yg ZEo ZEu ZF5;rw[Be];simp[cp,cr,t4,Bh]
theorem ZJX(h:RuOk ss)(G:DH):Vi [.str (Aa (ruL ss)),r] G=.ok (.tup (ss.map Ay)) G:=by
 have hl:=ZBn h;cases ss with
 |nil=>exact absurd rfl h.ne
 | cons s ss=>
  have hsp:=λG=>ZGO (c:=59) (d:=32) (l:=snL s) (ls:=ss.map snL) (λx hx=>by
   have hx':x∈(s::ss).map snL:=hx;obtain⟨t,_,rfl⟩:=zw.mp hx';exact ZNI) (by decide) (by
   have e:Ai [59,32] (snL s::ss.map snL)=ruL (s::ss):=rfl;rw[e];lia) G
  have e2:("; ":Str)=Aa [59,32]:=by decide +kernel
  have e3:(snL s::ss.map snL).map Aa=(s::ss).map λs=>Aa (snL s):=by simp
  have e4:Ai [59,32] (snL s::ss.map snL)=ruL (s::ss):=rfl;rw[<-e2,e3,e4]at hsp;have cc:=λG=>ZDZ (r:=r) G (s::ss) h.ok
  have fz:∀G:DH,freeze G (.ok (.ref G.length) (G++[.lst (((s::ss).map λs=>Aa (snL s)).map D.str)]))=.ok (.fl (((s::ss).map λs=>Aa (snL s)).map D.str)) G:=λG=>Ce Dv
  have fz2:∀G:DH,freeze G (.ok (.ref G.length) (G++[.lst ((s::ss).map Ay)]))=.ok (.fl ((s::ss).map Ay)) G:=λG=>Ce ZDN
  have ll:((s::ss).map Ay).length<=1000000:=by rw[zK];have:=h.len;lia
  have be:bels G.length ((s::ss).map Ay)=vZ:=ZDN;have hcs:∀a b:Option D,Bq 1 [1] [a,b]=[vQ,b]:=λ_ _=>rfl
  generalize Aa (ruL (s::ss))=X1 at*;generalize((s::ss).map λs=>Aa (snL s)).map D.str=X3 at*;generalize(s::ss).map Ay=X4 at*;unfold Vi ZD1;rw[Be];simp[hsp,fz,hcs,cc,ll,fz2,be,Bh]
theorem ZBa(hc:∀x∈l::ls,c∉x)(hcd:c<256)(hl:(Ai [c] (l::ls)).length<=1000000)(G:DH):freeze G (Iv (.str (Aa (Ai [c] (l::ls)))) [.str (Aa [c])] G)=.ok (.fl (((l::ls).map Aa).map D.str)) G:=by
 have e:Iv (.str (Aa (Ai [c] (l::ls)))) [.str (Aa [c])] G=if(Aa [c]).length≠0/\(Aa (Ai [c] (l::ls))).length<=1000000 then .ok (.ref G.length) (G++[.lst ((Txt.split (Aa (Ai [c] (l::ls))) (Aa [c])).map D.str)])else .bad:=rfl
 rw[e,if_pos ⟨by simp,by rw[Dp];exact hl⟩,ZMC hc hcd];exact Ce Dv
theorem ZKa{ws:List (List Nat)}{rest:List Nat}(hc:∀x∈ws,c∉x)(hcd:c<256)(hw:ws≠[])(hn:ws.length<=1000)(hl:(Ai [c] (ws++[rest])).length<=1000000)(G:DH):freeze G (Oq (.str (Aa (Ai [c] (ws++[rest])))) [.str (Aa [c]),.int (ws.length:Int)] G)=.ok (.fl (((ws++[rest]).map Aa).map D.str)) G:=by
 have e:Oq (.str (Aa (Ai [c] (ws++[rest])))) [.str (Aa [c]),.int (ws.length:Int)] G=if((Aa [c]).length≠0/\(Aa (Ai [c] (ws++[rest]))).length<=1000000)/\0<=(ws.length:Int)/\(ws.length:Int)<=1000 then .ok (.ref G.length) (G++[.lst ((Txt.splitMax (Aa (Ai [c] (ws++[rest]))) (Aa [c]) (ws.length:Int)).map D.str)])else .bad:=rfl
 rw[e,if_pos ⟨⟨by simp,by rw[Dp];exact hl⟩,by lia,by lia⟩,ZKg hc hcd hw];exact Ce Dv
theorem ne_L(h:c∈l)(hs:c∉wl s):¬Aa l=s:=λe=>by
 have:wl s=l:=by rw[<-e];simp[wl]
 rw[this]at hs;exact hs h
theorem ZLD(hq:∀to dl m,q=xU (to,dl,m)->LW (h.pl to).nm/\(1<=dl/\dl<=5)/\0<=m/\m<10^40)(G:DH):Qj [.str (Aa (Di h q)),r] G=.ok (h.Dh q) G:=by
 cases q with
 |none=>
  have e:Aa (Di h vQ)="none":=Dt;rw[e];unfold Qj ZAD;rw[Be];simp[Hs.Dh,Bh]
 | some z=>
  obtain⟨to,dl,m⟩:=z;obtain⟨h1,h2,h3⟩:=hq to dl m rfl;have a:=h1.le;have b:=Fd (Ec h2.2).2;have c:=Fd h3.2;have ew:Ai [44] [wl (h.pl to).nm,num dl,num m]=wl (h.pl to).nm++[44]++(num dl++[44]++num m):=rfl;have e:Di h (xU (to,dl,m))=Ai [44] [wl (h.pl to).nm,num dl,num m]:=rfl;have hne:¬Aa (Ai [44] [wl (h.pl to).nm,num dl,num m])="none":=ne_L (c:=44) (by rw[ew];simp) (by decide +kernel);have hs:=ZBa (c:=44) (l:=wl (h.pl to).nm) (ls:=[num dl,num m]) (λx hx=>by
   simp only[zJ,z9,or_false]at hx;rcases hx with rfl|rfl|rfl
   ·exact h1.no (by lia)
   ·exact Ey (by lia)
   ·exact Ey (by lia)) (by lia) (by rw[ew];simp;lia) G
  rw[<-W3,zQ,zQ,zQ,zQ,zQ,zQ,zH,zH,Dt]at hs;have w:=Pb h1 (r:=r) G;have n1:=Jy (Ec h2.2).1 (Ec h2.2).2 (r:=r) G;have n2:=Jy h3.1 h3.2 (r:=r) G;have ep:h.Dh (xU (to,dl,m))=.tup [.str (h.pl to).nm,.int dl,.int m]:=rfl;rw[e,ep];generalize Aa (Ai [44] [wl (h.pl to).nm,num dl,num m])=X at*;generalize Aa (num dl)=Y1 at*
  generalize Aa (num m)=Y2 at*;unfold Qj ZAD;rw[Be];simp[hne,hs,w,n1,n2,Bh]
theorem ZBQ(hc:∀x∈l::ls,32∉x)(hl:(Ai [32] (l::ls)).length<=1000000)(G:DH):Nx [.str (Aa (Ai [32] (l::ls))),.int ((ls.length:Int)+1),r] G=.ok (.fl (((l::ls).map Aa).map D.str)) G:=by
 have hs:=ZBa hc (by lia) hl G;rw[<-Lz]at hs;have hn:((((l::ls).map Aa).map D.str).length:Int)=(ls.length:Int)+1:=by simp
 have be:bels G.length (((l::ls).map Aa).map D.str)=vZ:=Dv;generalize Aa (Ai [32] (l::ls))=X at*;generalize((l::ls).map Aa).map D.str=Z at*;unfold Nx ZEW;rw[Be];simp[hs,hn,be,Bh]
theorem ZH3(h0:0<=y)(h1:y<10^40)(G:DH):Tj [.str (Aa (Ai [32] [wl "year",num y]))] G=.ok (.int y) G:=by
 have a:=Fd h1;have ew:Ai [32] [wl "year",num y]=wl "year"++[32]++num y:=rfl;have l0:(wl "year").length=4:=by decide +kernel
 have hw:=ZBQ (l:=wl "year") (ls:=[num y]) (r:=.int 0) (λx hx=>by
  simp only[zJ,z9,or_false]at hx;rcases hx with rfl|rfl
  ·decide +kernel
  ·exact Ey (by lia)) (by rw[ew];simp;lia) G
 have e2:(([num y].length:Int)+1)=2:=rfl;rw[e2,zQ,zQ,zQ,zQ,zH,zH,Dt]at hw;have n1:=Jy h0 h1 (r:=.int 0) G;generalize Aa (Ai [32] [wl "year",num y])=X at*;generalize Aa (num y)=Y at*;unfold Tj ZEb;rw[Be];simp[hw,Lh,n1,Bh]
theorem ZD4{r:D}(G:DH):∀ns:List Int,(∀n∈ns,0<=n/\n<10^40)->Cj (gV 0) Bp Wb [vQ,xU r] (ns.map λn=>D.str (Aa (num n))) G=.ok (ns.map D.int) G
 |[],_=>rfl
 |n::ns,h=>by
  have ih:=ZD4 (r:=r) G ns λx hx=>h x (zZ _ hx)
  have hn:=h n (by simp);have hs:=Jy hn.1 hn.2 (r:=r) G;have he:Wb [xU (.str (Aa (num n))),xU r] G=.ok (.int n) G:=by generalize Aa (num n)=X at*;unfold Wb;simp[hs]
  rw[zQ,zQ,Ew];simp only[El,R.Gr,qX,Jk,if_true,he,ih]
theorem c_tm{k nm dn:Str}(h1:LW nm)(h2:LW dn)(hn:∀n∈ns,0<=n/\n<10^40)(hl:ns.length<=10)(G:DH):Pu [.fl (.str k:: .str nm:: .str dn::ns.map λn=>D.str (Aa (num n))),r] G=.ok (.tup (.str k:: .str nm:: .str dn::ns.map D.int)) G:=by
 have w1:=λG=>Pb h1 (r:=r) G
 have w2:=λG=>Pb h2 (r:=r) G
 have hc:=λG=>ZD4 (r:=r) G ns hn
 have ct:cutD (.str k:: .str nm:: .str dn::ns.map λn=>D.str (Aa (num n))) (xU 3) vQ=ns.map λn=>D.str (Aa (num n)):=by have:=Ln (xs:=(.str k:: .str nm:: .str dn::ns.map λn=>D.str (Aa (num n)):List D)) (a:=3) (by simp);exact this
 have b1:∀m,bels m (ns.map λn=>D.str (Aa (num n)))=vZ:=λm=>Gs λ_ _=>rfl
 have b2:∀m,bels m (ns.map D.int)=vZ:=λm=>Gs λ_ _=>rfl
 have fz:∀G:DH,freeze G (.ok (.ref G.length) (G++[.lst (ns.map λn=>D.str (Aa (num n)))]))=.ok (.fl (ns.map λn=>D.str (Aa (num n)))) G:=λG=>Ce (b1 _)
 have fz2:∀G:DH,freeze G (.ok (.ref G.length) (G++[.lst (ns.map D.int)]))=.ok (.fl (ns.map D.int)) G:=λG=>Ce (b2 _)
 have ll:(ns.map D.int).length<=1000000:=by rw[zK];lia
 have l3:3+(ns.map D.int).length<=1000000:=by rw[zK];lia
 have hcs:∀a b c:Option D,Bq 1 [1] [a,b,c]=[vQ,b]:=λ_ _ _=>rfl
 generalize(ns.map λn=>D.str (Aa (num n)))=X at*;generalize ns.map D.int=Y at*;have be:=b2 G.length;unfold Pu ZDH;rw[Be];simp[w1,w2,ct,fz,hcs,hc,ll,fz2,l3,be,Bh,J6]
theorem ZIo(o:PO h p){b:Int}{rl:List Ssn}(e:p.kd=.basin b rl q)(G:DH):Wt [.str (Aa (Bl h p)),r] G=.ok (h.encP p) G:=by
 obtain⟨h4,h5⟩:=o.basin b rl q e;have hq:∀to dl m,q=xU (to,dl,m)->LW (h.pl to).nm/\(1<=dl/\dl<=5)/\0<=m/\m<10^40:=λto dl m eq=>o.pump b rl to dl m (by rw[e,eq])
 have hlen:=ZCh o;have er:Bl h p=Ai [32] ([wl "basin",wl p.nm,wl (h.dnT p.dn),num p.dl,num b,Di h q]++[ruL rl]):=by unfold Bl Ci;rw[e];rfl
 have hs:=ZKa (c:=32) (ws:=[wl "basin",wl p.nm,wl (h.dnT p.dn),num p.dl,num b,Di h q]) (rest:=ruL rl) (λx hx=>by
  simp only[zJ,z9,or_false]at hx;rcases hx with rfl|rfl|rfl|rfl|rfl|rfl
  ·decide +kernel
  ·exact o.nm.no (by lia)
  ·exact o.dn.no (by lia)
  ·exact Ey (by lia)
  ·exact Ey (by lia)
  ·exact ZG9 hq (.inl rfl)) (by lia) (by simp) (by simp) (by rw[<-er];lia) G
 have e6:(([wl "basin",wl p.nm,wl (h.dnT p.dn),num p.dl,num b,Di h q].length:Nat):Int)=6:=rfl;have e7:([wl "basin",wl p.nm,wl (h.dnT p.dn),num p.dl,num b,Di h q]++[ruL rl]).map Aa=[("basin":Str),p.nm,h.dnT p.dn,Aa (num p.dl),Aa (num b),Aa (Di h q),Aa (ruL rl)]:=by simp[Dt]
 rw[<-er,<-Lz,e6,e7]at hs;have w1:=λG=>Pb o.nm (r:=r) G
 have w2:=λG=>Pb o.dn (r:=r) G
 have n1:=λG=>Jy (Ec o.dl).1 (Ec o.dl).2 (r:=r) G
 have n2:=λG=>Jy h4.1 h4.2 (r:=r) G
 have cr:=λG=>ZJX h5 (r:=r) G
 have cp:=λG=>ZLD hq (r:=r) G
 have ee:h.encP p=.tup [.str "basin",.str p.nm,.str (h.dnT p.dn),.int p.dl,.int b,.tup (rl.map Ay),h.Dh q]:=by unfold Hs.encP;rw[e]
 have be:bel G.length (h.encP p)=vZ:=Hs.R8;rw[ee]at be⊢;generalize Aa (Bl h p)=X at*;generalize Aa (num p.dl)=Y1 at*;generalize Aa (num b)=Y2 at*;generalize Aa (Di h q)=Y3 at*;generalize Aa (ruL rl)=Y4 at*;generalize rl.map Ay=RR at*;generalize h.Dh q=QQ at*;unfold Wt ZGJ ZGj ZDB ZG7 ZEa;rw[Be];have t:=Bh (G:=G) be;simp only[zQ,zH]at hs;have m7:∀G,Lg (.int 7) (.int 1) G=.ok (.int 6) G:=λ_=>rfl
 simp[-ZLV,m7,hs,w1,w2,n1,n2,cr,cp,t]
theorem ZKO(o:PO h p)(G:DH):Nh [.str (Aa (Bl h p)),r] G=.ok (h.encP p) G:=by
 have hlen:=ZCh o;have be:bel G.length (h.encP p)=vZ:=Hs.R8;have t:=Bh (G:=G) be;have d32:∀n:Int,32∉num n:=λn=>Ey (by lia)
 cases e:p.kd with
 | town a b=>
  obtain⟨h4,h5⟩:=o.town a b e;have ew:Bl h p=Ai [32] (wl "town"::[wl p.nm,wl (h.dnT p.dn),num p.dl,num a,num b]):=by unfold Bl Ci;rw[e]
  have er:Bl h p=wl "town"++32::Ai [32] [wl p.nm,wl (h.dnT p.dn),num p.dl,num a,num b]:=by rw[ew];simp[Ai]
  have hp:=λG=>Oi (c:=32) (p:=wl "town") (q:=Ai [32] [wl p.nm,wl (h.dnT p.dn),num p.dl,num a,num b]) (by decide +kernel) (by rw[<-er];lia) G
  have hw:=λG=>ZBQ (l:=wl "town") (ls:=[wl p.nm,wl (h.dnT p.dn),num p.dl,num a,num b]) (r:=r) (λx hx=>by
   simp only[zJ,z9,or_false]at hx;rcases hx with rfl|rfl|rfl|rfl|rfl|rfl
   ·decide +kernel
   ·exact o.nm.no (by lia)
   ·exact o.dn.no (by lia)
   ·exact d32 _
   ·exact d32 _
   ·exact d32 _) (by rw[<-ew];lia) G
  have ct:=λG=>c_tm (k:="town") o.nm o.dn (ns:=[(p.dl:Int),a,b]) (λn hn=>by
   simp only[zJ,z9,or_false]at hn;rcases hn with rfl|rfl|rfl
   ·exact Ec o.dl
   ·exact h4
   ·exact h5) (by simp) (r:=r) G
  have e6:(([wl p.nm,wl (h.dnT p.dn),num p.dl,num a,num b].length:Int)+1)=6:=rfl;have e7:((wl "town"::[wl p.nm,wl (h.dnT p.dn),num p.dl,num a,num b]).map Aa).map D.str=.str "town":: .str p.nm:: .str (h.dnT p.dn)::[(p.dl:Int),a,b].map λn=>D.str (Aa (num n)):=by simp[Dt]
  rw[<-er,<-Lz,Dt]at hp;rw[<-ew,e6,e7]at hw;have ee:h.encP p=.tup (.str "town":: .str p.nm:: .str (h.dnT p.dn)::[(p.dl:Int),a,b].map D.int):=by unfold Hs.encP;rw[e];rfl
  have nb:¬(("town":Str)="basin"):=by decide
  have fs:∀(ds:List D)(G:DH),bels G.length ds=vZ->freeze G (.ok (.fl ds) G)=.ok (.fl ds) G:=λds G hb=>Lh hb
  have bq:∀m,bels m (.str "town":: .str p.nm:: .str (h.dnT p.dn)::[(p.dl:Int),a,b].map λn=>D.str (Aa (num n)))=vZ:=λm=>rfl
  rw[ee]at t⊢;generalize Aa (Bl h p)=X at*;generalize Aa (Ai [32] [wl p.nm,wl (h.dnT p.dn),num p.dl,num a,num b])=Y at*;generalize(.str "town":: .str p.nm:: .str (h.dnT p.dn)::[(p.dl:Int),a,b].map λn=>D.str (Aa (num n)))=Z at*;generalize(.str "town":: .str p.nm:: .str (h.dnT p.dn)::[(p.dl:Int),a,b].map D.int)=T at*;unfold Nh Ug;rw[Be];simp[hp,nb,hw,fs,bq,ct,t]
 | mill a=>
  have h4:=o.mill a e;have ew:Bl h p=Ai [32] (wl "mill"::[wl p.nm,wl (h.dnT p.dn),num p.dl,num a]):=by unfold Bl Ci;rw[e]
  have er:Bl h p=wl "mill"++32::Ai [32] [wl p.nm,wl (h.dnT p.dn),num p.dl,num a]:=by rw[ew];simp[Ai]
  have hp:=λG=>Oi (c:=32) (p:=wl "mill") (q:=Ai [32] [wl p.nm,wl (h.dnT p.dn),num p.dl,num a]) (by decide +kernel) (by rw[<-er];lia) G
  have hw:=λG=>ZBQ (l:=wl "mill") (ls:=[wl p.nm,wl (h.dnT p.dn),num p.dl,num a]) (r:=r) (λx hx=>by
   simp only[zJ,z9,or_false]at hx;rcases hx with rfl|rfl|rfl|rfl|rfl
   ·decide +kernel
   ·exact o.nm.no (by lia)
   ·exact o.dn.no (by lia)
   ·exact d32 _
   ·exact d32 _) (by rw[<-ew];lia) G
  have ct:=λG=>c_tm (k:="mill") o.nm o.dn (ns:=[(p.dl:Int),a]) (λn hn=>by
   simp only[zJ,z9,or_false]at hn;rcases hn with rfl|rfl
   ·exact Ec o.dl
   ·exact h4) (by simp) (r:=r) G
  have e6:(([wl p.nm,wl (h.dnT p.dn),num p.dl,num a].length:Int)+1)=5:=rfl;have e7:((wl "mill"::[wl p.nm,wl (h.dnT p.dn),num p.dl,num a]).map Aa).map D.str=.str "mill":: .str p.nm:: .str (h.dnT p.dn)::[(p.dl:Int),a].map λn=>D.str (Aa (num n)):=by simp[Dt]
  rw[<-er,<-Lz,Dt]at hp;rw[<-ew,e6,e7]at hw;have ee:h.encP p=.tup (.str "mill":: .str p.nm:: .str (h.dnT p.dn)::[(p.dl:Int),a].map D.int):=by unfold Hs.encP;rw[e];rfl
  have nb:¬(("mill":Str)="basin"):=by decide
  have nt:¬(("mill":Str)="town"):=by decide
  have fs:∀(ds:List D)(G:DH),bels G.length ds=vZ->freeze G (.ok (.fl ds) G)=.ok (.fl ds) G:=λds G hb=>Lh hb
  have bq:∀m,bels m (.str "mill":: .str p.nm:: .str (h.dnT p.dn)::[(p.dl:Int),a].map λn=>D.str (Aa (num n)))=vZ:=λm=>rfl
  rw[ee]at t⊢;generalize Aa (Bl h p)=X at*;generalize Aa (Ai [32] [wl p.nm,wl (h.dnT p.dn),num p.dl,num a])=Y at*;generalize(.str "mill":: .str p.nm:: .str (h.dnT p.dn)::[(p.dl:Int),a].map λn=>D.str (Aa (num n)))=Z at*;generalize(.str "mill":: .str p.nm:: .str (h.dnT p.dn)::[(p.dl:Int),a].map D.int)=T at*;unfold Nh Ug;rw[Be];simp[hp,nb,nt,hw,fs,bq,ct,t]
 |basin b rl q=>
  have er:Bl h p=wl "basin"++32::Ai [32] [wl p.nm,wl (h.dnT p.dn),num p.dl,num b,Di h q,ruL rl]:=by unfold Bl Ci;rw[e];simp[Ai]
  have hp:=λG=>Oi (c:=32) (p:=wl "basin") (q:=Ai [32] [wl p.nm,wl (h.dnT p.dn),num p.dl,num b,Di h q,ruL rl]) (by decide +kernel) (by rw[<-er];lia) G
  rw[<-er,<-Lz,Dt]at hp;have cb:=λG=>ZIo o e (r:=r) G
  generalize Aa (Bl h p)=X at*;generalize Aa (Ai [32] [wl p.nm,wl (h.dnT p.dn),num p.dl,num b,Di h q,ruL rl])=Y at*;generalize h.encP p=T at*;unfold Nh Ug;rw[Be];simp[hp,cb,t]
def Eu(y:Int):List Nat:=Ai [32] [wl "year",num y]
def Et(h:Hs):List (List Nat):=Eu h.yr::h.ps.map (Bl h)
def Jq(h:Hs):List Nat:=Ai [10] (Et h)
structure HO (h:Hs):Prop where
 yr:0<=h.yr/\h.yr<10^40
 len:h.ps.length<=12
 po:∀p∈h.ps,PO h p
theorem ZKX(h:y<10^40):(Eu y).length<=16000:=by
 have a:=Fd h;have e:Eu y=wl "year"++[32]++num y:=rfl;have l0:(wl "year").length=4:=by decide +kernel
 rw[e];simp;lia
theorem ZL4:10∉Eu y:=λhm=>by
 have e:Eu y=wl "year"++[32]++num y:=rfl;rw[e]at hm;simp only[zB,qD]at hm;rcases hm with(z|z)|z
 ·exact absurd z (by decide +kernel)
 ·lia
 ·exact Ey (by lia) z
theorem Ud(o:HO h):(∀l∈Et h,l.length<=16000)/\(Et h).length<=13:=by
 refine⟨λl hl=>?_,?_⟩
 ·rcases zJ.mp hl with rfl|hl
  ·exact ZKX o.yr.2
  ·obtain⟨p,hp,rfl⟩:=zw.mp hl;exact ZCh (o.po p hp)
 ·have:=o.len;simp[Et];lia
theorem ZMp(o:HO h):∀l∈Et h,10∉l:=λl hl=>by
 rcases zJ.mp hl with rfl|hl
 ·exact ZL4
 ·obtain⟨p,hp,rfl⟩:=zw.mp hl;exact ZNV (o.po p hp)
theorem ZNR(o:HO h):(Jq h).length<=210000:=by have h1:=Qf (sep:=[10]) (B:=16000) (Et h) (Ud o).1;have h2:=(Ud o).2;have h3:(Et h).length*(16000 + [10].length)<=13*(16000+1):=zM _ h2;unfold Jq;lia
theorem ZFh(o:HO h):((Et h).map qj).sum+(Et h).length * [10].length<=1000000:=by have h1:=Q0 (B:=16000) (Et h) (Ud o).1;have h2:=(Ud o).2;have h3:(Et h).length*16000<=13*16000:=zM _ h2;simp only[jz];lia
theorem ZDQ{ps:List Pl}(o:∀p∈ps,PO h p){G:DH}:∀(n j:Nat),j+n=ps.length->
  Eo (Mi 1 (.fl ((ps.map λp=>Aa (Bl h p)).map D.str))) (Cq 2 (Ar (gV 0) (Ar (gV 1) Cv))) Bp Uo [vQ,vQ] n j G=.ok ((ps.drop j).map h.encP) G
 | 0,j,hj=>by
  have e:Mi 1 (.fl ((ps.map λp=>Aa (Bl h p)).map D.str)) j G=xU vQ:=by
   show xU ((((ps.map λp=>Aa (Bl h p)).map D.str)[j]?).map _)=_;rw[zU (by simp;lia)]
   rfl
  unfold Eo;rw[e,qx (by lia)]
  rfl
 |n+1,j,hj=>by
  have hlt:j<ps.length:=by lia
  have ih:=ZDQ o (G:=G) n (j+1) (by lia);have e:Mi 1 (.fl ((ps.map λp=>Aa (Bl h p)).map D.str)) j G=xU (xU (.tup [.int (1+j),.str (Aa (Bl h ps[j]))])):=by show xU ((((ps.map λp=>Aa (Bl h p)).map D.str)[j]?).map _)=_;rw[zY (by simpa using hlt)];simp
  have cp:=ZKO (o ps[j] (qJ hlt)) (r:=.int (1+j)) G;have he:Uo [xU (.int (1+j)),xU (.str (Aa (Bl h ps[j])))] G=.ok (h.encP ps[j]) G:=by generalize Aa (Bl h ps[j])=X at*;generalize h.encP ps[j]=Y at*;unfold Uo;simp[cp]
  unfold Eo;rw[e,zI hlt,zQ];generalize Aa (Bl h ps[j])=X at*;generalize h.encP ps[j]=Y at*;have hg:(Cq 2 (Ar (gV 0) (Ar (gV 1) Cv))) (.tup [.int (1+j),.str X]) [vQ,vQ] G=.ok [xU (.int (1+j)),xU (.str X)] G:=by simp
  simp only[hg,R.Gr,Jk,if_true,he,ih]
theorem ZLs(o:HO h)(hc:∀G,Mu [h.enc] G=.ok h.enc G)(G:DH):Ws [.str (Aa (Jq h))] G=.ok h.enc G:=by
 have hl:=ZNR o;have hs:=ZBa (c:=10) (l:=Eu h.yr) (ls:=h.ps.map (Bl h)) (ZMp o) (by lia) (by have e:Ai [10] (Eu h.yr::h.ps.map (Bl h))=Jq h:=rfl;rw[e];lia) G
 have e1:Ai [10] (Eu h.yr::h.ps.map (Bl h))=Jq h:=rfl;have e2:((Eu h.yr::h.ps.map (Bl h)).map Aa).map D.str=.str (Aa (Eu h.yr))::(h.ps.map λp=>Aa (Bl h p)).map D.str:=by simp
 rw[e1,e2,<-ZCS]at hs;have hy:=λG=>ZH3 o.yr.1 o.yr.2 G
 have e3:Ai [32] [wl "year",num h.yr]=Eu h.yr:=rfl;rw[e3]at hy;have ct:cutD (.str (Aa (Eu h.yr))::(h.ps.map λp=>Aa (Bl h p)).map D.str) (xU 1) vQ=(h.ps.map λp=>Aa (Bl h p)).map D.str:=by have:=Ln (xs:=(.str (Aa (Eu h.yr))::(h.ps.map λp=>Aa (Bl h p)).map D.str:List D)) (a:=1) (by simp);exact this
 have fz:∀G:DH,freeze G (.ok (.ref G.length) (G++[.lst ((h.ps.map λp=>Aa (Bl h p)).map D.str)]))=.ok (.fl ((h.ps.map λp=>Aa (Bl h p)).map D.str)) G:=λG=>Ce Dv
 have hcomp:=λG=>ZDQ o.po (G:=G) h.ps.length 0 (by lia)
 have e4:(h.ps.drop 0).map h.encP=h.Dq:=rfl;rw[e4]at hcomp;have hll:((h.ps.map λp=>Aa (Bl h p)).map D.str).length=h.ps.length:=by simp
 rw[<-hll]at hcomp;have fz2:∀G:DH,freeze G (.ok (.ref G.length) (G++[.lst h.Dq]))=.ok (.fl h.Dq) G:=λG=>Ce Hs.ZIt
 have ll:h.Dq.length<=1000000:=by have:=o.len;simp[Hs.Dq];lia
 have hcs:∀S:DSt,Bq 2 [] S=[vQ,vQ]:=λ_=>rfl
 have t:tidy G (.ok h.enc G)=.ok h.enc G:=Bh Hs.ZJ3;unfold Hs.enc at t hc⊢;generalize Aa (Jq h)=X at*;generalize Aa (Eu h.yr)=Y at*;generalize(h.ps.map λp=>Aa (Bl h p)).map D.str=Z at*;generalize h.Dq=W at*;unfold Ws ZFH;rw[Be];simp[hs,hy,ct,fz,ZB8,Cy,hcs,hcomp,ll,fz2,hc,t,J6]
theorem ZIx(h:(ls.map qj).sum+ls.length*sep.length<=1000000)(G:DH):Ez (.str (Aa sep)) [.ref G.length] (G++[.lst ((ls.map Aa).map D.str)])=.ok (.str (Aa (Ai sep ls))) (G++[.lst ((ls.map Aa).map D.str)]):=by
 have hjo:=Kr (sep:=sep) (ls:=ls) h (G++[.lst ((ls.map Aa).map D.str)]);rw[<-hjo];have hg:(G++[DO.lst ((ls.map Aa).map D.str)])[G.length]?=xU (.lst ((ls.map Aa).map D.str)):=by rw[Er];rfl
 simp only[Ez,Cy,hg]
theorem ZIs(o:PO h p)(G:DH):M4 [h.encP p] G=.ok (.str (Aa (Bl h p))) G:=by
 have hj:=ZIx (sep:=[32]) (ls:=Ci h p) (sum7 o) G;have td:∀L:DH,tidy G (.ok (.str (Aa (Bl h p))) (G++L))=.ok (.str (Aa (Bl h p))) G:=λL=>Sg rfl
 have n3:=λG=>Ib (Ec o.dl).1 (Ec o.dl).2 G
 rw[<-Lz]at hj;cases e:p.kd with
 |town a b=>
  obtain⟨h4,h5⟩:=o.town a b e;have ew:((Ci h p).map Aa).map D.str=[.str "town",.str p.nm,.str (h.dnT p.dn),.str (Aa (num p.dl)),.str (Aa (num a)),.str (Aa (num b))]:=by unfold Ci;rw[e];simp[Dt]
  have ee:h.encP p=.tup [.str "town",.str p.nm,.str (h.dnT p.dn),.int p.dl,.int a,.int b]:=by unfold Hs.encP;rw[e]
  have n4:=λG=>Ib h4.1 h4.2 G
  have n5:=λG=>Ib h5.1 h5.2 G
  have nb:¬(("town":Str)="basin"):=by decide
  rw[ew]at hj;rw[ee];unfold Bl at td⊢;generalize Aa (Ai [32] (Ci h p))=R at*;generalize Aa (num p.dl)=Y1 at*;generalize Aa (num a)=Y2 at*;generalize Aa (num b)=Y3 at*;have tn:∀l:List D,bels G.length l=vZ->tidy G (.ok (.ref G.length) (G++[.lst l]))=.ok (.ref G.length) (G++[.lst l]):=λl hl=>Fp hl
  unfold M4 R5 P0 Q9 R0 R3 Ql;rw[Be];simp[Bo,n3,n4,n5,tn,nb,Er,Hi,hj,td]
 |mill a=>
  have h4:=o.mill a e;have ew:((Ci h p).map Aa).map D.str=[.str "mill",.str p.nm,.str (h.dnT p.dn),.str (Aa (num p.dl)),.str (Aa (num a))]:=by unfold Ci;rw[e];simp[Dt]
  have ee:h.encP p=.tup [.str "mill",.str p.nm,.str (h.dnT p.dn),.int p.dl,.int a]:=by unfold Hs.encP;rw[e]
  have n4:=λG=>Ib h4.1 h4.2 G
  have nb:¬(("mill":Str)="basin"):=by decide
  have nt:¬(("mill":Str)="town"):=by decide
  rw[ew]at hj;rw[ee];unfold Bl at td⊢;generalize Aa (Ai [32] (Ci h p))=R at*;generalize Aa (num p.dl)=Y1 at*;generalize Aa (num a)=Y2 at*;have tn:∀l:List D,bels G.length l=vZ->tidy G (.ok (.ref G.length) (G++[.lst l]))=.ok (.ref G.length) (G++[.lst l]):=λl hl=>Fp hl
  unfold M4 R5 P0 Q9 R0 R3 Ql;rw[Be];simp[Bo,n3,n4,tn,nb,nt,Er,Hi,hj,td]
 | basin b r q=>
  obtain⟨h4,h5⟩:=o.basin b r q e;have ew:((Ci h p).map Aa).map D.str=[.str "basin",.str p.nm,.str (h.dnT p.dn),.str (Aa (num p.dl)),.str (Aa (num b)),.str (Aa (Di h q)),.str (Aa (ruL r))]:=by unfold Ci;rw[e];simp[Dt]
  have ee:h.encP p=.tup [.str "basin",.str p.nm,.str (h.dnT p.dn),.int p.dl,.int b,.tup (r.map Ay),h.Dh q]:=by unfold Hs.encP;rw[e]
  have n4:=λG=>Ib h4.1 h4.2 G
  have nt:¬(("basin":Str)="town"):=by decide
  have cr:=λG=>ZOW h5 G
  rw[ew]at hj;rw[ee];unfold Bl at td⊢;generalize Aa (Ai [32] (Ci h p))=R at*;generalize Aa (num p.dl)=Y1 at*;generalize Aa (num b)=Y2 at*;generalize Aa (ruL r)=Y3 at*;generalize r.map Ay=RR at*;have tn:∀l:List D,bels G.length l=vZ->tidy G (.ok (.ref G.length) (G++[.lst l]))=.ok (.ref G.length) (G++[.lst l]):=λl hl=>Fp hl
  cases q with
  |none=>
   have ep:Aa (Di h vQ)="none":=Dt;rw[ep]at hj;have eq:h.Dh vQ=.non:=rfl;rw[eq];unfold M4 R5 P0 Q9 R0 R3 Ql;rw[Be];simp[Bo,n3,n4,tn,nt,Fi,cr,Er,Hi,hj,td]
  |some z=>
   obtain⟨to,dl,m⟩:=z;obtain⟨p1,p2,p3⟩:=o.pump b r to dl m e;have m1:=λG=>Ib (Ec p2.2).1 (Ec p2.2).2 G
   have m2:=λG=>Ib p3.1 p3.2 G
   have l1:=p1.le;have l2:=Fd (Ec p2.2).2;have l3:=Fd p3.2;have a1:=λG=>Ik (l:=wl (h.pl to).nm) (l':=[44]) (by simp;lia) G
   have a2:=λG=>Ik (l:=wl (h.pl to).nm++[44]) (l':=num dl) (by simp;lia) G
   have a3:=λG=>Ik (l:=wl (h.pl to).nm++[44]++num dl) (l':=[44]) (by simp;lia) G
   have a4:=λG=>Ik (l:=wl (h.pl to).nm++[44]++num dl++[44]) (l':=num m) (by simp;lia) G
   have ep:wl (h.pl to).nm++[44]++num dl++[44]++num m=Di h (xU (to,dl,m)):=by show _=wl (h.pl to).nm++[44]++(num dl++[44]++num m);simp
   rw[ep]at a4;rw[<-W3,Dt]at a1;rw[<-W3]at a3;have eq:h.Dh (xU (to,dl,m))=.tup [.str (h.pl to).nm,.int dl,.int m]:=rfl;rw[eq];generalize Aa (Di h (xU (to,dl,m)))=X4 at*;generalize Aa (wl (h.pl to).nm++[44]++num dl++[44])=X3 at*;generalize Aa (wl (h.pl to).nm++[44]++num dl)=X2 at*;generalize Aa (wl (h.pl to).nm++[44])=X1 at*;generalize Aa (num dl)=Z1 at*;generalize Aa (num m)=Z2 at*
   unfold M4 R5 P0 Q9 R0 R3 Ql;rw[Be];simp[-J1,Bo,n3,n4,m1,m2,a1,a2,a3,a4,tn,nt,Fi,cr,Er,Hi,hj,td]
theorem ZFB:("year ":Str)=Aa (wl "year"++[32]):=by decide +kernel
theorem ZGd{h:Hs}{G:DH}:∀ps:List Pl,(∀p∈ps,PO h p)->Cj (gV 0) Bp Pz [vQ] (ps.map h.encP) G=.ok (((ps.map (Bl h)).map Aa).map D.str) G
 |[],_=>rfl
 |p::ps,o=>by
  have ih:=ZGd (h:=h) (G:=G) ps λx hx=>o x (zZ _ hx)
  have hs:=ZIs (o p (by simp)) G;have he:Pz [xU (h.encP p)] G=.ok (.str (Aa (Bl h p))) G:=by generalize h.encP p=X at*;unfold Pz;simp[hs]
  rw[zQ,zQ,zQ,zQ,Ew];simp only[El,R.Gr,qX,Jk,if_true,he,ih]
theorem ZC2{h:Hs}{G:DH}:∀ps:List Pl,(∀p∈ps,PO h p)->Cj (gV 0) Bp Qq [vQ] (ps.map h.encP) G=.ok (((ps.map (Bl h)).map Aa).map D.str) G
 |[],_=>rfl
 |p::ps,o=>by
  have ih:=ZC2 (h:=h) (G:=G) ps λx hx=>o x (zZ _ hx)
  have hs:=ZLW (o p (by simp)) G;have he:Qq [xU (h.encP p)] G=.ok (.str (Aa (Bl h p))) G:=by generalize h.encP p=X at*;unfold Qq;simp[hs]
  rw[zQ,zQ,zQ,zQ,Ew];simp only[El,R.Gr,qX,Jk,if_true,he,ih]
theorem row1:((Et h).map Aa).map D.str=.str (Aa (Eu h.yr))::((h.ps.map (Bl h)).map Aa).map D.str:=rfl
theorem ZMH(o:HO h)(G:DH):Vo [h.enc] G=.ok (.ref G.length) (G++[.lst (((Et h).map Aa).map D.str)]):=by
 have hc:∀G,Cj (gV 0) Bp Pz [vQ] h.Dq G=.ok (((h.ps.map (Bl h)).map Aa).map D.str) G:=λG=>ZGd h.ps o.po
 have n1:=λG=>Ib o.yr.1 o.yr.2 G
 have hy:=Fd o.yr.2;have l0:(wl "year").length=4:=by decide +kernel
 have a1:=λG=>Ik (l:=wl "year"++[32]) (l':=num h.yr) (by simp;lia) G
 have ey:wl "year"++[32]++num h.yr=Eu h.yr:=rfl;rw[<-ZFB,ey]at a1;have hl:(((h.ps.map (Bl h)).map Aa).map D.str).length<=12:=by have:=o.len;simp;lia
 have b1:∀m,bels m (((h.ps.map (Bl h)).map Aa).map D.str)=vZ:=λm=>Dv
 rw[row1];generalize Aa (Eu h.yr)=Y at*;generalize Aa (num h.yr)=Y1 at*;generalize((h.ps.map (Bl h)).map Aa).map D.str=Z at*;have hl2:Z.length<=1000000:=by lia
 have hl3:Z.length+1<=1000000:=by lia
 have f1:∀G:DH,freeze G (.ok (.ref G.length) (G++[.lst [.str Y]]))=.ok (.fl [.str Y]) G:=λG=>Ce rfl
 have f2:∀G:DH,freeze G (.ok (.ref G.length) (G++[.lst Z]))=.ok (.fl Z) G:=λG=>Ce (b1 _)
 have tn:tidy G (.ok (.ref G.length) (G++[.lst (.str Y::Z)]))=.ok (.ref G.length) (G++[.lst (.str Y::Z)]):=Fp (by simp[b1]);have hcs:∀S:DSt,Bq 1 [] S=[vQ]:=λ_=>rfl
 unfold Vo ZEY;rw[Be];simp[-J1,Sh,Oo,n1,a1,Bo,f1,hcs,hc,hl2,f2,hl3,Nat.add_comm 1,tn]
theorem ZNC(o:HO h)(G:DH):S6 [h.enc] G=.ok (.str (Aa (Jq h))) G:=by
 have hc:∀G,Cj (gV 0) Bp Qq [vQ] h.Dq G=.ok (((h.ps.map (Bl h)).map Aa).map D.str) G:=λG=>ZC2 h.ps o.po
 have hy:=Fd o.yr.2;have l0:(wl "year").length=4:=by decide +kernel
 have hj:∀(S:DSt),S[1]?=xU (xU (.int h.yr))->∀G,dJp Str.empty [dC (.str "year "),dFv (dV 1)] S G=.ok (.str (Aa (Eu h.yr))) G:=λS hS G=>by have ey:Eu h.yr=[]++(wl "year"++[32])++num h.yr:=rfl;rw[ey,e0L,ZFB,jp1 (l:=wl "year"++[32]) rfl (by simp;lia),jp1 (fv1 (d:=.int h.yr) (by rw[X7,hS]) (Ma o.yr.1 o.yr.2)) (by simp;lia),Qt]
 have hjo:=λG=>Kr (sep:=[10]) (ls:=Et h) (ZFh o) G
 have hl:(((h.ps.map (Bl h)).map Aa).map D.str).length<=12:=by have:=o.len;simp;lia
 have b1:∀m,bels m (((h.ps.map (Bl h)).map Aa).map D.str)=vZ:=λm=>Dv
 have hj1:=hj [xU h.enc,xU (.int h.yr)] rfl;rw[<-ZCS,row1]at hjo;unfold Jq;generalize Aa (Ai [10] (Et h))=R at*;generalize Aa (Eu h.yr)=Y at*;generalize((h.ps.map (Bl h)).map Aa).map D.str=Z at*;have hl2:Z.length<=1000000:=by lia
 have hl3:Z.length+1<=1000000:=by lia
 have f1:∀G:DH,freeze G (.ok (.ref G.length) (G++[.lst [.str Y]]))=.ok (.fl [.str Y]) G:=λG=>Ce rfl
 have f2:∀G:DH,freeze G (.ok (.ref G.length) (G++[.lst Z]))=.ok (.fl Z) G:=λG=>Ce (b1 _)
 have f3:∀G:DH,freeze G (.ok (.ref G.length) (G++[.lst (.str Y::Z)]))=.ok (.fl (.str Y::Z)) G:=λG=>Ce (by simp[b1])
 have hcs:∀S:DSt,Bq 1 [] S=[vQ]:=λ_=>rfl
 unfold S6 ZCz;rw[Be];simp[-U9,Sh,Oo,hj1,Bo,f1,hcs,hc,hl2,f2,hl3,Nat.add_comm 1,f3,hjo,Bh]
theorem Qp{i:Int}(G:DH):Ha [.int i] G=.ok (.bl vZ) G:=by unfold Ha Ox;rw[Be];simp[Bh,tyD]
theorem ZFo{s0 s1 s2:Option D}{G:DH}:∀(st:List Stp)(x:Option D),∃x',Dl (gV 3) U6 (st.map Stp.enc) [s0,s1,s2,x] G=.nx [s0,s1,s2,x'] G
 |[],x=>⟨x,by rw[zH,Gm]⟩
 |s::st,x=>by
  obtain⟨x',ih⟩:=ZFo (s0:=s0) (s1:=s1) (s2:=s2) (G:=G) st (xU s.enc);refine⟨x',?_⟩;have hb:U6 [s0,s1,s2,xU s.enc] G=.nx [s0,s1,s2,xU s.enc] G:=by unfold Stp.enc U6;simp[tyD,Qp]
  rw[zQ,G7];simp only[El,R.H8,qX,hb,Ht];exact ih
theorem ZHH{s0 s1:Option D}{G:DH}:∀(ss:List Ssn)(x y:Option D),∃x' y',Dl (gV 2) U4 (ss.map Ay) [s0,s1,x,y] G=.nx [s0,s1,x',y'] G
 |[],x,y=>⟨x,y,by rw[zH,Gm]⟩
 |s::ss,x,y=>by
  obtain⟨z,hin⟩:=ZFo (s0:=s0) (s1:=s1) (s2:=xU (Ay s)) (G:=G) s.2 y;obtain⟨x',y',ih⟩:=ZHH (s0:=s0) (s1:=s1) (G:=G) ss (xU (Ay s)) z;refine⟨x',y',?_⟩;have hb:U4 [s0,s1,xU (Ay s),y] G=.nx [s0,s1,xU (Ay s),z] G:=by unfold Ay at hin⊢;unfold U4;simp[tyD,Qp,hin]
  rw[zQ,G7];simp only[El,R.H8,qX,hb,Ht];exact ih
theorem ZMc{n:Nat}:okD (n+3) (.tup (st.map Stp.enc))=vZ:=Xa (n:=n+2) λd hd=>by
 obtain⟨s,_,rfl⟩:=zw.mp hd
 rfl
theorem ZEs{n:Nat}{r:List Ssn}:okD (n+5) (.tup (r.map Ay))=vZ:=Xa (n:=n+4) λd hd=>by
 obtain⟨s,_,rfl⟩:=zw.mp hd;refine Xa (n:=n+3) λd hd=>?_
 simp only[zJ,z9,or_false]at hd;rcases hd with rfl|rfl
 ·rfl
 ·exact ZMc
theorem ZLd:okD 30 (h.encP p)=vZ:=by
 unfold Hs.encP;cases p.kd with
 | basin b r q=>
  refine Xa (n:=29) λd hd=>?_
  simp only[zJ,z9,or_false]at hd;rcases hd with rfl|rfl|rfl|rfl|rfl|rfl|rfl
  ·rfl
  ·rfl
  ·rfl
  ·rfl
  ·rfl
  ·exact ZEs (n:=24)
  ·cases q with
   |none=>rfl
   |some z=>obtain⟨a,b,c⟩:=z;rfl
 |town a b=>rfl
 |mill a=>rfl
theorem ZMw(G:DH):Yj [.tup (ss.map Ay),.tup (ss.map Ay)] G=.ok (.bl vZ) G:=by obtain⟨x',y',hL⟩:=ZHH (s0:=xU (.tup (ss.map Ay))) (s1:=xU (.tup (ss.map Ay))) (G:=G) ss vQ vQ;have ee:Bw (.tup (ss.map Ay)) (.tup (ss.map Ay)) G=.ok (.bl vZ) G:=ZC7 (ZEs (n:=25));generalize ss.map Ay=Z at*;unfold Yj ZG5;rw[Be];simp[tyD,hL,ee,Bh]
def Plain(d:D):Prop:=∃b c,(∀G,Ha [d] G=.ok (.bl b) G)/\∀G,Dm [d,.ty "str"] G=.ok (.bl c) G
theorem Mz{i:Int}:Plain (.int i):=⟨vZ,vJ,λG=>Qp G,λG=>by simp[tyD]⟩
theorem K1{i:Str}:Plain (.str i):=⟨vJ,vZ,λG=>by unfold Ha Ox;rw[Be];simp[Bh,tyD],λG=>by simp[tyD]⟩
theorem ZGh:Plain (.tup ds):=⟨vJ,vJ,λG=>by unfold Ha Ox;rw[Be];simp[Bh,tyD],λG=>by simp[tyD]⟩
theorem ZHo:Plain .non:=⟨vJ,vJ,λG=>by unfold Ha Ox;rw[Be];simp[Bh,tyD],λG=>by simp[tyD]⟩
theorem ZFD(hd:∀d∈ds,Plain d){G:DH}:∀(m k:Nat)(x:Option D),k+m=ds.length->∃x',Dl (gV 2) R1 (Do k m) [xU (.tup ds),xU (.tup ds),x] G=.nx [xU (.tup ds),xU (.tup ds),x'] G
 |0,k,x,e=>⟨x,by rw[Lw,Gm]⟩
 | m+1,k,x,e=>by
  have hk:k<ds.length:=by lia
  obtain⟨x',ih⟩:=ZFD hd (G:=G) m (k+1) (xU (.int k)) (by lia);refine⟨x',?_⟩;obtain⟨b,c,h1,h2⟩:=hd ds[k] (qJ hk);have a:atI ds (k:Int)=xU ds[k]:=Gh rfl (zY hk);have hb:R1 [xU (.tup ds),xU (.tup ds),xU (.int k)] G=.nx [xU (.tup ds),xU (.tup ds),xU (.int k)] G:=by
   generalize ds[k]=d at*;unfold R1
   cases b<;>cases c<;>simp[-ZI1,a,h1,h2]
  rw[K8,G7];simp only[El,R.H8,qX,hb,Ht];have e1:((k:Int)+1)=((k+1:Nat):Int):=by lia
  rw[e1,ih]
theorem ZJr:∃ds,h.encP p=.tup ds/\(∀d∈ds,Plain d)/\ds.length<=7:=by
 unfold Hs.encP;cases p.kd with
 | basin b r q=>
  refine⟨_,rfl,λd hd=>?_,by simp⟩;simp only[zJ,z9,or_false]at hd;rcases hd with rfl|rfl|rfl|rfl|rfl|rfl|rfl
  ·exact K1
  ·exact K1
  ·exact K1
  ·exact Mz
  ·exact Mz
  ·exact ZGh
  ·cases q with
   |none=>exact ZHo
   |some z=>obtain⟨a,b,c⟩:=z;exact ZGh
 |town a b=>
  refine⟨_,rfl,λd hd=>?_,by simp⟩;simp only[zJ,z9,or_false]at hd;rcases hd with rfl|rfl|rfl|rfl|rfl|rfl
  ·exact K1
  ·exact K1
  ·exact K1
  ·exact Mz
  ·exact Mz
  ·exact Mz
 |mill a=>
  refine⟨_,rfl,λd hd=>?_,by simp⟩;simp only[zJ,z9,or_false]at hd;rcases hd with rfl|rfl|rfl|rfl|rfl
  ·exact K1
  ·exact K1
  ·exact K1
  ·exact Mz
  ·exact Mz
theorem ZIC{d:D}(e:d=.tup ds)(hp:∀d∈ds,Plain d)(hl:ds.length<=7):∃x,Rv [d,d] G=tidy G (Nz [xU d,xU d,x] G).ret:=by obtain⟨x',hL⟩:=ZFD hp (G:=G) ds.length 0 vQ (by lia);have hL':Dl (gV 2) R1 (Do 0 ds.length) [xU (.tup ds),xU (.tup ds),vQ] G=_:=hL;have hr:inR (ds.length:Int):=J0 (by lia) (by lia);refine⟨x',?_⟩;subst e;unfold Rv ZEH ZGp;rw[Be];simp[tyD,hr,hL']
theorem ZOE{a b:Int}:Cj (gV 0) Bp Ve [vQ] [.int a,.int b] G=.ok [.bl vZ,.bl vZ] G:=by
 have he:∀i:Int,Ve [xU (.int i)] G=.ok (.bl vZ) G:=λi=>by unfold Ve;simp[Qp]
 simp only[Ew,Ru,El,R.Gr,qX,Jk,if_true,he]
theorem ZH9(G:DH):Rv [h.encP p,h.encP p] G=.ok (.bl vZ) G:=by
 obtain⟨ds,e0,hp,hl⟩:=ZJr (h:=h) (p:=p);obtain⟨x,hx⟩:=ZIC e0 hp hl (G:=G);rw[hx];have ee:∀G,Bw (h.encP p) (h.encP p) G=.ok (.bl vZ) G:=λG=>ZC7 ZLd
 cases e:p.kd with
 |town a b=>
  have ei:∀G,Aj (h.encP p) (.int 0) G=.ok (.str "town") G:=λG=>by unfold Hs.encP;rw[e];simp
  have nb:¬(("town":Str)="basin"):=by decide
  generalize h.encP p=X at*;unfold Nz;simp[ei,nb,ee,Bh]
 |mill a=>
  have ei:∀G,Aj (h.encP p) (.int 0) G=.ok (.str "mill") G:=λG=>by unfold Hs.encP;rw[e];simp
  have nb:¬(("mill":Str)="basin"):=by decide
  generalize h.encP p=X at*;unfold Nz;simp[ei,nb,ee,Bh]
 | basin b r q=>
  have ei:∀G,Aj (h.encP p) (.int 0) G=.ok (.str "basin") G:=λG=>by unfold Hs.encP;rw[e];simp
  have e5:∀G,Aj (h.encP p) (.int 5) G=.ok (.tup (r.map Ay)) G:=λG=>by unfold Hs.encP;rw[e];simp
  have e6:∀G,Aj (h.encP p) (.int 6) G=.ok (h.Dh q) G:=λG=>by unfold Hs.encP;rw[e];simp
  have cl:=λG=>ZMw (ss:=r) G
  generalize r.map Ay=RR at*;generalize h.encP p=X at*;cases q with
  |none=>
   have eq:h.Dh vQ=.non:=rfl;rw[eq]at e6;unfold Nz ZCJ ZCg ZA1;simp[ei,e6,Fi,e5,cl,ee,Bh]
  |some z=>
   obtain⟨to,dl,m⟩:=z;have eq:h.Dh (xU (to,dl,m))=.tup [.str (h.pl to).nm,.int dl,.int m]:=rfl;rw[eq]at e6;have ct:cutD [.str (h.pl to).nm,.int dl,.int m] (xU 1) vQ=[D.int dl,.int m]:=by have:=Ln (xs:=[D.str (h.pl to).nm,.int dl,.int m]) (a:=1) (by simp);exact this
   have fs:∀(a b:Int)(G:DH),freeze G (.ok (.tup [.int a,.int b]) G)=.ok (.tup [.int a,.int b]) G:=λa b G=>Lh rfl
   have f2:freeze G (.ok (.ref G.length) (G++[.lst [.bl vZ,.bl vZ]]))=.ok (.fl [.bl vZ,.bl vZ]) G:=Ce rfl;have fa:Hj [.fl [.bl vZ,.bl vZ]] G=.ok (.bl vZ) G:=Ml (ks:=[vZ,vZ]);have hcs:∀S:DSt,Bq 1 [] S=[vQ]:=λ_=>rfl
   unfold Nz ZCJ ZCg ZA1;simp[ei,e6,Fi,tyD,ct,fs,hcs,ZOE,f2,fa,J6,e5,cl,ee,Bh]
theorem ZEV{h:Hs}{G:DH}:∀(m k:Nat),k+m=h.n->Cj (gV 0) Bp Qa [vQ,xU h.enc,xU h.enc] (Do k m) G=.ok ((zN m vZ).map D.bl) G
 |0,k,e=>by rw[Lw,Ru];rfl
 |m+1,k,e=>by
  have ih:=ZEV (h:=h) (G:=G) m (k+1) (by lia);have a:=Hs.ZEQ (h:=h) (k:=k) (by lia);have cp:=ZH9 (h:=h) (p:=h.pl k) G;have he:Qa [xU (.int k),xU h.enc,xU h.enc] G=.ok (.bl vZ) G:=by unfold Qa;simp[Oo,a,cp]
  have e1:((k:Int)+1)=((k+1:Nat):Int):=by lia
  rw[K8,Ew];simp only[El,R.Gr,qX,Jk,if_true,he];rw[e1,ih]
  rfl
theorem ZMX(hn:h.n<=12)(G:DH):Y5 [h.enc,h.enc] G=.ok (.bl vZ) G:=by
 have hc:=ZEV (h:=h) (G:=G) h.n 0 (by lia);have hc':Cj (gV 0) Bp Qa [vQ,xU h.enc,xU h.enc] (Do 0 h.n) G=_:=hc;have hr:inR (h.n:Int):=J0 (by lia) (by lia);have hl:((zN h.n vZ).map D.bl).length<=1000000:=by simp;lia
 have f2:freeze G (.ok (.ref G.length) (G++[.lst ((zN h.n vZ).map D.bl)]))=.ok (.fl ((zN h.n vZ).map D.bl)) G:=Ce ZCi;have fa:Hj [.fl ((zN h.n vZ).map D.bl)] G=.ok (.bl vZ) G:=by
  rw[Ml]
  congr 2
  simp
 have hcs:∀a b:Option D,Bq 1 [0,1] [a,b]=[vQ,a,b]:=λ_ _=>rfl
 have ty:∀G,Dm [h.enc,.ty "tuple"] G=.ok (.bl vZ) G:=λG=>by unfold Hs.enc;simp[tyD]
 have t2:∀G,Dm [.tup h.Dq,.ty "tuple"] G=.ok (.bl vZ) G:=λG=>by simp[tyD]
 have ln:∀G,Dk [h.enc] G=.ok (.int 2) G:=λG=>by unfold Hs.enc;simp
 generalize(zN h.n vZ).map D.bl=Z at*;unfold Y5 ZGt ZEy ZGe;rw[Be];simp[-ZOk,ty,t2,ln,Sh,Oo,Qp,Hs.Vd,hr,hcs,hc',hl,f2,fa,Bh]
theorem ZFE:∀(r:List Ssn)(a:Int),-1<=a->Asc yr a r->∀s∈r,0<=s.1/\s.1<yr
 |[],_,_,_,s,hs=>by cases hs
 |t::r,a,ha,h,s,hs=>by
  obtain⟨h1,h2,h3⟩:=h;rcases zJ.mp hs with rfl|hs
  ·lia
  ·exact ZFE r t.1 (by lia) h3 s hs
theorem ZLt(hy:h.yr<=24)(wd:∀k,k<h.n->Wd (h.pl k).nm)(hk:k<h.n)(pg:PlG h.n k (h.pl k))(pw:PlW h.yr k (h.pl k)):PO h (h.pl k) where
 nm:=LW.of (wd k hk)
 dn:=by
  cases e:(h.pl k).dn with
  |none=>exact LW.sea
  |some d=>exact LW.of (wd d (pg.dn d e).2)
 dl:=pg.dl
 town:=λa b e=>by have u:=pw.ub;rw[e]at u;have g:=pg.town a b e;exact⟨⟨g.1,u.1⟩,g.2,u.2⟩
 mill:=λa e=>by have u:=pw.ub;rw[e]at u;exact⟨pw.mill a e,u⟩
 basin:=λb r q e=>by
  have u:=pw.ub;rw[e]at u;obtain⟨u1,⟨u2,u3⟩,_⟩:=u;obtain⟨a1,⟨st,r',a2⟩,_⟩:=pw.asc b r q e;refine⟨⟨(pg.brim b r q e).1,u1⟩,⟨by rw[a2];simp,by lia,λs hs=>?_⟩⟩;have h1:=ZFE r (-1) (by lia) a1 s hs;obtain⟨h2,h3⟩:=u3 s hs;have h24:(24:Int)<10^40:=by decide
  refine⟨⟨h1.1,by lia⟩,by lia,λt ht=>?_⟩;have h4:=h3 t ht;have h38:(10:Int)^38<10^40:=by decide
  exact⟨h4.1,h4.2.1,Int.lt_of_le_of_lt h4.2.2 h38⟩
 pump:=λb r to dl m e=>by have u:=pw.ub;rw[e]at u;obtain⟨p1,p2,p3⟩:=pg.pump b r to dl m e;exact⟨LW.of (wd to p1),⟨p2,p3⟩,(pw.pq b r to dl m e).2.1,u.2.2 to dl m rfl⟩
theorem ZE9(o:HO h)(hn:h.n<=12)(hc:∀G,Mu [h.enc] G=.ok h.enc G)(G:DH):Nr [h.enc] G=.ok (.bl vZ) G:=by
 have h1:=ZMH o G;have hj:=Kr (sep:=[10]) (ls:=Et h) (ZFh o) G;have h2:=ZNC o G;have h3:=ZLs o hc G;have h4:=ZMX hn G;have fz:freeze G (.ok (.ref G.length) (G++[.lst (((Et h).map Aa).map D.str)]))=.ok (.fl (((Et h).map Aa).map D.str)) G:=Ce Dv;have e:Ai [10] (Et h)=Jq h:=rfl;rw[<-ZCS,e]at hj;generalize((Et h).map Aa).map D.str=Z at*;generalize Aa (Jq h)=X at*;generalize h.enc=Y at*;unfold Nr ZDX
 rw[Be];simp[h1,fz,hj,h2,h3,h4,tyD,Bh]
theorem ZEd{at_:Nat}(hat:at_<=1000)(G:DH):∃h:Hs,HO h/\h.n<=12/\(∀G,Mu [h.enc] G=.ok h.enc G)/\K3 [.fl (ns.map D.int),.int at_] G=.ok h.enc G:=by
 obtain⟨h,g,n1,pw,hy,⟨nm,nl,no,hnm,_⟩,hh⟩:=ZKj (ns:=ns) hat G;have wd:∀k,k<h.n->Wd (h.pl k).nm:=λk hk=>by
  rw[hnm k hk];have hl:k<nm.length:=by have:=g.len;lia
  rw[<-R6 hl];exact no.wd _ (qJ hl)
 refine⟨h,⟨⟨by have:=g.yr;lia,Int.lt_of_le_of_lt hy (by decide)⟩,g.len,λp hp=>?_⟩,g.len,λG=>ZJP g n1 hy (λk hk G=>ZI2 g pw wd hk G) G,hh⟩;obtain⟨k,hk,rfl⟩:=qT hp;have:=ZLt hy wd (k:=k) hk (pw k hk).1 (pw k hk).2;rw[Ra hk]at this;exact this
theorem ZOv(G:DH):Mm [.fl (ns.map D.int)] G=.ok (.bl vZ) G:=by
 obtain⟨a,o1,n1,c1,h1⟩:=ZEd (ns:=ns) (at_:=0) (by lia) G;obtain⟨b,o2,n2,c2,h2⟩:=ZEd (ns:=ns) (at_:=15) (by lia) G;have h1':K3 [.fl (ns.map D.int),.int 0] G=.ok a.enc G:=h1;have h2':K3 [.fl (ns.map D.int),.int 15] G=.ok b.enc G:=h2;have t1:=ZE9 o1 n1 c1 G;have t2:=ZE9 o2 n2 c2 G;have be:∀m,bel m (.bl vZ)=vZ:=λ_=>rfl
 generalize a.enc=A at*;generalize b.enc=B at*;unfold Mm ZGV ZF6 ZDW ZDk;rw[Be];simp[h1',h2',t1,t2,Bh]
theorem holds:Holds:=λns _ _=>⟨[],ZOv []⟩
end _W
namespace _W
open PySem _L _D
seal QE QT QA QS QSs QG QGs QI QTs QW QO
structure Txt (K:PySem.W.Frag) (mg:Str->Option jI):Prop where
 Mp:FT K mg "_law_cell_at" ZCl ZBp
 Y0:FT K mg "_law_free_names" R7 ZCU
 Qh:FT K mg "_law_stream" ZCO Zc
 W6:FT K mg "_law_names" Mt ZCo
 Tv:FT K mg "_law_more" ZBh ZCb
 Ke:FT K mg "_law_number" ZBI ZAd
 Xf:FT K mg "_law_pumped" Wn ZB6
 Vj:FT K mg "_law_stairs" Zi ZAy
 Vp:FT K mg "_law_rule" ZAK Zw
 W0:FT K mg "_law_place" ZCV ZBS
 Py:FT K mg "_law_house" Vz ZBf
 Jp:FT K mg "_law_whole" ZAx ZAg
 Ss:FT K mg "_law_rule_like" ZBe ZAb
 V4:FT K mg "_law_place_like" Tq ZAM
 Ut:FT K mg "_law_house_like" V0 Yu
 Wh:FT K mg "_law_rule_text" Z5 ZBr
 Yc:FT K mg "_law_row" ZA3 Zo
 Td:FT K mg "_law_rows" Xc ZBt
 Up:FT K mg "is_name" V9 ZCT
 Yl:FT K mg "is_pump_good" ZBo ZAZ
 Yp:FT K mg "is_river_good" ZAf ZBB
 Wm:FT K mg "are_seasons_good" Z3 ZBz
 Vv:FT K mg "are_steps_good" ZCF ZAi
 Tg:FT K mg "can_pump" Su ZB1
 Ye:FT K mg "is_rule_good" ZAc Yw
 Uw:FT K mg "numbers_in" ZAe Zn
 Wv:FT K mg "check_place" Rh ZAO
 Va:FT K mg "checked" ZBu Z6
 U7:FT K mg "is_number" T8 ZBy
 Ih:FT K mg "number_in" ZAq Zf
 Ku:FT K mg "word_in" Yn ZBU
 Vr:FT K mg "pump_in" ZCC ZCH
 V5:FT K mg "step_in" ZAB Ze
 Xl:FT K mg "stairs_in" Tt ZA9
 W2:FT K mg "season_in" Zz ZBd
 Ua:FT K mg "rule_in" Sv ZCm
 Wy:FT K mg "basin_in" ZCf ZCk
 Qk:FT K mg "town_or_mill_in" Wi ZAo
 Oj:FT K mg "words_in" ZBE Yv
 Uh:FT K mg "place_in" Zj ZBw
 Wu:FT K mg "year_in" ZAl Yx
 T5:FT K mg "read_house" Th Yz
 Xx:FT K mg "shown_pump" Vs ZBL
 Xp:FT K mg "shown_season" Xh ZBV
 Wz:FT K mg "shown_rule" Yo ZAY
 V2:FT K mg "shown_place" Tn ZAF
 Sd:FT K mg "shown_house" Yh Zk
 Oc:FT K mg "_law_there_and_back" ZBv ZBi
 Qn:FT K mg "law" Ii ZAW
 Q8:mg "all"=vQ
 ZJl:mg "bool"=vQ
 ZJK:mg "enumerate"=vQ
 Yt:mg "int"=vQ
 Gu:mg "isinstance"=vQ
 Eg:mg "len"=vQ
 ZG4:mg "max"=vQ
 ZJx:mg "min"=vQ
 Iw:mg "range"=vQ
 Gn:mg "str"=vQ
 ZD5:mg "sum"=vQ
 Gb:mg "tuple"=vQ
 Uc:mg "BASIN_WORDS"=xU (.int 7 (Dg K "BASIN_WORDS"))
 Xg:mg "BRIM"=xU (.int 4 (Dg K "BRIM"))
 Zb:mg "DELAY"=xU (.int 3 (Dg K "DELAY"))
 Wx:mg "DOWN"=xU (.int 2 (Dg K "DOWN"))
 ZBZ:mg "FIGURES"=xU (.str "0123456789" (Dg K "FIGURES"))
 Ny:mg "KIND"=xU (.int 0 (Dg K "KIND"))
 Vq:mg "LETTERS"=xU (.str "abcdefghijklmnopqrstuvwxyz" (Dg K "LETTERS"))
 ZAu:mg "MILL_WORDS"=xU (.int 5 (Dg K "MILL_WORDS"))
 ZBK:mg "MOST"=xU (.int 4 (Dg K "MOST"))
 ZCZ:mg "MOST_FIGURES"=xU (.int 40 (Dg K "MOST_FIGURES"))
 Nb:mg "NAME"=xU (.int 1 (Dg K "NAME"))
 Zg:mg "NEED"=xU (.int 4 (Dg K "NEED"))
 V3:mg "NO_PUMP"=xU (.str "none" (Dg K "NO_PUMP"))
 Rm:mg "PLACES"=xU (.int 1 (Dg K "PLACES"))
 N5:mg "PUMP"=xU (.int 6 (Dg K "PUMP"))
 ZBk:mg "PUMP_DELAY"=xU (.int 1 (Dg K "PUMP_DELAY"))
 Vt:mg "PUMP_MOST"=xU (.int 2 (Dg K "PUMP_MOST"))
 ZCW:mg "PUMP_TO"=xU (.int 0 (Dg K "PUMP_TO"))
 ZAn:mg "RANK"=xU (.int 5 (Dg K "RANK"))
 ZA8:mg "RULE"=xU (.int 5 (Dg K "RULE"))
 Xi:mg "SEA"=xU (.str "sea" (Dg K "SEA"))
 ZAN:mg "TOWN_WORDS"=xU (.int 6 (Dg K "TOWN_WORDS"))
 Qx:mg "YEAR"=xU (.int 0 (Dg K "YEAR"))
 ZBX:TupG K mg "WAYS" ["river","pump"]
section
variable{P:jE}{w:jL}{K:PySem.W.Frag}{mg:Str->Option jI}{base:Heap}
theorem Xo(T:Txt K mg):FnO P w K mg base 1 "_law_cell_at" ZBp Jo:=by
 refine Bu T.Mp.F ZNq λcdv A outer s H E hr=>?_
 exact(Ak (Bg (Bk Lb (Ab 1) (Bx Eh rfl T.Eg Ef (Ad (Ab 0) Ag)) (nomark _)) (Ao (Av (An Am (Ab 0) (Ab 1)))) Bf) (Ao (Av Ae)))
theorem ZMK(T:Txt K mg):FnO P w K mg base 1 "_law_free_names" ZCU U0:=by
 refine Bu T.Y0.F Ju λcdv A outer s H E hr=>?_
 exact(Ak (Bb 1 Ju.nd Bc) (Ak (Bb 2 Ju.nd (Li (Fl Ag))) (Ak (Gq PassesOwn.never rfl (Df (Ab 0)) (Ba 3 Ju.nd) (Ak (Bb 4 Ju.nd Bc) (Ak (Bb 5 Ju.nd (Al Hv (Ab 3) Ae)) (Ak (Gq PassesOwn.never rfl (Ir rfl T.Iw (Ad (Al Bj Ae (Al Cg (Ab 3) Ae)) Ag)) (Ba 6 Ju.nd) (Ak (Bb 4 Ju.nd (Al Bj (Ab 4) (An Am (Ab 1) (Al Cg (Ab 5) Ae)))) (Ao (Bb 5 Ju.nd (Al Hv (Ab 5) Ae))))) (Ak (Bb 7 Ju.nd (Bm (Al Bj (Bm (Fl (Ad (Ab 4) Ag))) (Bm (Es rfl (Dn (dn:=(Aw R7).names) (N0:=Ue) (N:=["_law_letter"]) (nt:=1) (caps:=[])) (Df (Ab 1)) (λC s₀ H₀ ex=>(Ba 0 (show(["_law_letter"]:List Str).Nodup by decide +kernel))) (Cr (by decide)) (λC s₀ H₀ ex=>Dw) (λC s₀ H₀ ex=>(Al Bj Bc (Ab 0)))))))) (Ao (Io (Jc PySem.F.slot_list_append PySem.F.type_list_append Jh (Ab 2) (Ad (An Am (Bm (Es rfl (Dn (dn:=(Aw R7).names) (N0:=Ue) (N:=["_law_one","_law_names_here"]) (nt:=1) (caps:=[2])) (Df (Ab 7)) (λC s₀ H₀ ex=>(Ba 0 (show(["_law_one","_law_names_here"]:List Str).Nodup by decide +kernel))) (Cr (by decide)) (λC s₀ H₀ ex=>(ZCN (Dj (Je (Bk ZDj (Ab 0) (Ab 1) (by with_unfolding_all rfl)) (Js (Bk (Ga hr.units) (Ab 0) Bc (nomark _))))))) (λC s₀ H₀ ex=>(Ab 0)))) Ae) Ag))))))))) (Ao (Av (Ab 2))))))
theorem ZFy(T:Txt K mg):FnO P w K mg base 1 "_law_stream" Zc Ly:=by
 refine Bu T.Qh.F Le λcdv A outer s H E hr=>?_
 exact(Ak (Bb 3 Le.nd (Al Cg (Al Gw (Al Bj (Al Cg (Ab 0) Ae) Ae) (Al Bj (Al Gw (Al Gw Ae (Ab 1)) (Ab 1)) Ae)) Ae)) (Ak (Bb 4 Le.nd Ae) (Ak (Bg (Dj (Ea (Bk Lb (Ab 0) Ae (nomark _)) (Ex (Bk o_ge (Ab 0) (Al Oh Ae Ae) (nomark _))))) (Ao (Bb 4 Le.nd (Bx (ZLE rfl) rfl T.ZG4 ZGq (Ad (Ab 0) (Ad (Al Px Ae (Ab 0)) Ag))))) Bf) (Ak (Bb 5 Le.nd (Li (Fl Ag))) (Ak (Gq PassesOwn.never rfl (Ir rfl T.Iw (Ad (Ab 2) Ag)) (Ba 6 Le.nd) (Ak (Bb 3 Le.nd (Al Cg (Al Bj (Al Bj (Al Gw (Ab 3) (Ab 3)) (Al Gw Ae (Ab 6))) Ae) Ae)) (Ak (Io (Jc PySem.F.slot_list_append PySem.F.type_list_append Jh (Ab 5) (Ad (An Am (Bm (Fl (Ad (Ab 3) (Ad (Al Cg (Ab 4) (Al Oh Ae Ae)) Ag)))) (Em ZHJ rfl T.Yt Ym (Ad (Fj Ky (Ab 4) Ae (nomark _)) Ag))) Ag))) (Ao (Bb 4 Le.nd (Al Hv (Ab 4) (Al Oh Ae Ae))))))) (Ao (Av (Ab 5))))))))
theorem ZJL(T:Txt K mg):FnO P w K mg base 2 "_law_names" ZCo Kl:=by
 refine Bu T.W6.F Fq λcdv A outer s H E hr=>?_
 exact(Ak (Bb 1 Fq.nd Bc) (Ak (Bb 2 Fq.nd (Bm (Az (ZFy T) T.Qh hr (Ad (Ab 0) (Ad Ae (Ad Ae Ag)))))) (Ak (Bg (Bk Ky (An Am (Ab 2) Ae) Ae (nomark _)) (Ao (Av (Az (ZMK T) T.Y0 hr (Ad (Bm (Fb (Ab 2) (Eb Ae) (Eb Ae))) Ag)))) Bf) (Ak (Bb 3 Fq.nd (Ed PySem.F.slot_str_join PySem.F.type_str_join Ko Bc (Ad (Bm (Es rfl (Dn (dn:=(Aw Mt).names) (N0:=Ol) (N:=["_law_x","_law_letters"]) (nt:=1) (caps:=[1])) (Df (Bm (Fb (Ab 2) Gj (Eb Ae)))) (λC s₀ H₀ ex=>(Ba 0 (show(["_law_x","_law_letters"]:List Str).Nodup by decide +kernel))) (Cr (by decide)) (λC s₀ H₀ ex=>Dw) (λC s₀ H₀ ex=>(An Am (Ab 1) (Al Cg (Ab 0) Ae))))) Ag))) (Ak (Bg (Bk (Cm hr.units) (Al Cg (Al Hv (An Am (Ab 2) Ae) Ae) Ae) Ae (nomark _)) (Ao (Bb 3 Fq.nd (Bm (Fb (Bm (Al Bj (An Am (Bm (Fl (Ad Bc (Ad Bc Ag)))) (Al Cg (Al Hv (An Am (Ab 2) Ae) Ae) Ae)) (Bm (Fb (Ab 3) (Eb Ae) Gj)))) Gj (Eb Ae))))) Bf) (Ak (Bg (Bk (Cm hr.units) (Al Cg (An Am (Ab 2) Ae) Ae) Ae (nomark _)) (Ak (Bb 4 Fq.nd (Al Cg (Al Bj (Al Bj (Ed PySem.F.slot_str_find PySem.F.type_str_find m_find (Ab 1) (Ad (An Am (Ab 3) Ae) Ag)) Ae) (Al Cg (An Am (Ab 2) Ae) Ae)) Ae)) (Ak (Bb 5 Fq.nd (Bm (Al Bj (An Am (Ab 1) (Ab 4)) (Bm (Fb (Ab 3) (Eb Ae) Gj))))) (Ak (Mq 6 rfl Fq.nd (Dn (dn:=(Aw Mt).names) (N0:=Ol) (N:=["_law_k","_law_word"]) (nt:=1) (caps:=[3])) (Ir rfl T.Iw (Ad Ae Ag)) (λC s₀ H₀ ex=>(Ba 0 (show(["_law_k","_law_word"]:List Str).Nodup by decide +kernel))) (Cr (by decide)) (λC s₀ H₀ ex=>Dw) (λC s₀ H₀ ex=>(Bm (Fb (Ab 1) Gj (Eb (Al Bj (Ab 0) Ae)))))) (Ak (Bb 6 Fq.nd (Li (Al Bj (Ab 6) (Bm (Es rfl (Dn (dn:=(Aw Mt).names) (N0:=Ol) (N:=["_law_k","_law_other"]) (nt:=1) (caps:=[5])) (Ir rfl T.Iw (Ad Ae Ag)) (λC s₀ H₀ ex=>(Ba 0 (show(["_law_k","_law_other"]:List Str).Nodup by decide +kernel))) (Cr (by decide)) (λC s₀ H₀ ex=>Dw) (λC s₀ H₀ ex=>(Bm (Fb (Ab 1) Gj (Eb (Al Bj (Ab 0) Ae)))))))))) (Ak (Mq 6 rfl Fq.nd (Dn (dn:=(Aw Mt).names) (N0:=Ol) (N:=["_law_name"]) (nt:=1) (caps:=[])) (Df (Ab 6)) (λC s₀ H₀ ex=>(Ba 0 (show(["_law_name"]:List Str).Nodup by decide +kernel))) (Cr (by decide)) (λC s₀ H₀ ex=>Dw) (λC s₀ H₀ ex=>(An Am (Bm (Fl (Ad (Ab 0) (Ad Bc Ag)))) (Em ZHJ rfl T.Yt Ym (Ad (Fj (Cm hr.units) (Ab 0) Bc (nomark _)) Ag))))) (Ao (Av (Al Bj (Bm (Fb (Ab 6) (Eb (Al Cg (An Am (Ab 2) Ae) Ae)) Gj)) (Bm (Fb (Ab 6) Gj (Eb (Al Cg (An Am (Ab 2) Ae) Ae)))))))))))) Bf) (Ak (Bb 9 Fq.nd (Al Cg (Al Hv (An Am (Ab 2) Ae) Ae) Ae)) (Ak (Bb 10 Fq.nd (Al Cg (An Am (Ab 2) Ae) (Al Bj (Ab 9) Ae))) (Ak (Bb 6 Fq.nd (Li (Fl Ag))) (Ak (Gq PassesOwn.never rfl (Ir rfl T.Iw (Ad Ae Ag)) (Ba 7 Fq.nd) (Ak (Bb 11 Fq.nd (An Am (Ab 1) (Al Cg (Al Bj (An Am (Ab 2) Ae) (Al Gw Ae (Ab 7))) Ae))) (Ak (Bb 8 Fq.nd (Bm (Al Bj (Bm (Al Bj (Bm (Fb (Ab 3) Gj (Eb (Ab 10)))) (Ab 11))) (Bm (Fb (Ab 3) (Eb (Ab 10)) (Eb (Ab 9))))))) (Ak (Bg (Bk (Cm hr.units) (Ab 8) Bc (nomark _)) (Ao (Bb 8 Fq.nd Bc)) Bf) (Ao (Io (Jc PySem.F.slot_list_append PySem.F.type_list_append Jh (Ab 6) (Ad (Ab 8) Ag)))))))) (Ao (Av (Ab 6)))))))))))))
theorem ZLg(T:Txt K mg):FnO P w K mg base 1 "_law_more" ZCb Q7:=by
 refine Bu T.Tv.F ZM7 λcdv A outer s H E hr=>?_
 exact(Ak (Bg (Bk Ky (Ab 0) Ae (nomark _)) (Ao (Av (Al Gw (Al Cg (Al Hv (Ab 0) Ae) (Al Oh Ae Ae)) (Al Cg (Ab 0) Ae)))) Bf) (Ao (Av (Al Gw (Al Cg (Ab 0) Ae) (Al Cg (Al Hv (Ab 0) Ae) Ae)))))
theorem N6(T:Txt K mg):FnO P w K mg base 1 "_law_number" ZAd Km:=by
 refine Bu T.Ke.F ZNx λcdv A outer s H E hr=>?_
 exact(Ak (Bg (Bk (Cm hr.units) (Al Cg (Ab 0) Ae) Ae (nomark _)) (Ao (Av Ae)) Bf) (Ak (Bg (Dj (Je (Bk (Cm hr.units) (Al Cg (Ab 0) Ae) Ae (nomark _)) (Js (Bk Ky (Ab 0) Ae (nomark _))))) (Ao (Av (Al Cg (Al Hv (Ab 0) Ae) (Al Oh Ae Ae)))) Bf) (Ak (Bg (Bk (Cm hr.units) (Al Cg (Ab 0) Ae) Ae (nomark _)) (Ao (Av (Al Cg (Al Gw (Ab 1) (Al Bj (Al Hv (Ab 0) Ae) Ae)) (Al Oh Ae Ae)))) Bf) (Ao (Av (Al Cg (Al Hv (Ab 0) Ae) Ae))))))
theorem ZML(T:Txt K mg):FnO P w K mg base 1 "_law_pumped" ZB6 Y7:=by
 refine Bu T.Xf.F ZKx λcdv A outer s H E hr=>?_
 exact(Ao (Av (Bx (ZHa rfl) rfl T.ZG4 ZGq (Ad (Bm (Es rfl (Dn (dn:=(Aw Wn).names) (N0:=ZAU) (N:=["_law_begin","_law_stairs_here"]) (nt:=2) (caps:=[])) (Df (Ab 0)) (λC s₀ H₀ ex=>(Gp rfl (Bt (Ba 0 (show(["_law_begin","_law_stairs_here"]:List Str).Nodup by decide +kernel)) (Bt (Ba 1 (show(["_law_begin","_law_stairs_here"]:List Str).Nodup by decide +kernel)) G8)))) (Nf (Gi (Cr (by decide)) (Gi (Cr (by decide)) Np))) (λC s₀ H₀ ex=>Dw) (λC s₀ H₀ ex=>(Bx (ZFx rfl) rfl T.ZD5 ZD6 (Ad (Bm (Es rfl (ZNw (N:=["_law_height","_law_many","_law_way"]) (nt:=3)) (Df (Ab 1)) (λC s₀ H₀ ex=>(Gp rfl (Bt (Ba 0 (show(["_law_height","_law_many","_law_way"]:List Str).Nodup by decide +kernel)) (Bt (Ba 1 (show(["_law_height","_law_many","_law_way"]:List Str).Nodup by decide +kernel)) (Bt (Ba 2 (show(["_law_height","_law_many","_law_way"]:List Str).Nodup by decide +kernel)) G8))))) (Nf (Gi (Cr (by decide)) (Gi (Cr (by decide)) (Gi (Cr (by decide)) Np)))) (λC s₀ H₀ ex=>(ZCN (Bk (Cm hr.units) (Ab 2) Bc (nomark _)))) (λC s₀ H₀ ex=>(Ab 1)))) Ag))))) Ag))))
theorem ZJC(T:Txt K mg):FnO P w K mg base 2 "_law_stairs" ZAy V8:=by
 refine Bu T.Vj.F Kh λcdv A outer s H E hr=>?_
 exact(Ak (Bb 3 Kh.nd (Li (Fl Ag))) (Ak (Bb 4 Kh.nd Ae) (Ak (Gq PassesOwn.never rfl (Ir rfl T.Iw (Ad (Al Cg (An Am (Ab 0) Ae) Ae) Ag)) (Ba 5 Kh.nd) (Ak (Bb 6 Kh.nd (Al Bj (Ab 4) (Az (N6 T) T.Ke hr (Ad (An Am (Ab 0) (Al Bj Ae (Al Gw Ae (Ab 5)))) (Ad (Ab 1) Ag))))) (Ak (Bb 7 Kh.nd (Al Bj Ae (Az (N6 T) T.Ke hr (Ad (An Am (Ab 0) (Al Bj Ae (Al Gw Ae (Ab 5)))) (Ad (Ab 1) Ag))))) (Ak (Bb 8 Kh.nd Bc) (Ak (Bg (Dj (Je (Cw (Ab 2)) (Js (Bk (Cm hr.units) (Al Cg (Al Hv (An Am (Ab 0) (Al Bj Ae (Al Gw Ae (Ab 5)))) Ae) Ae) Ae (nomark _))))) (Ao (Bb 8 Kh.nd Bc)) Bf) (Ak (Io (Jc PySem.F.slot_list_append PySem.F.type_list_append Jh (Ab 3) (Ad (Ek (Ad (Ab 6) (Ad (Ab 7) (Ad (Ab 8) Ag)))) Ag))) (Ao (Bb 4 Kh.nd (Al Bj (Ab 6) (Ab 7)))))))))) (Ao (Av (Em Mg rfl T.Gb Gg (Ad (Ab 3) Ag)))))))
theorem ZM0(T:Txt K mg):FnO P w K mg base 3 "_law_rule" Zw Ui:=by
 refine Bu T.Vp.F Rx λcdv A outer s H E hr=>?_
 exact(Ak (Bb 4 Rx.nd (Li (Fl Ag))) (Ak (Bb 5 Rx.nd Ae) (Ak (Gq PassesOwn.never rfl (Ir rfl T.Iw (Ad Ae Ag)) (Ba 6 Rx.nd) (Ao (Bg (Dj (Ea (Bk (Cm hr.units) (Ab 6) Ae (nomark _)) (Ex (Dj (Je (Bk Ky (Al Cg (An Am (Ab 0) (Ab 6)) Ae) Ae (nomark _)) (Js (Bk Lb (Ab 5) (Ab 2) (nomark _)))))))) (Ak (Io (Jc PySem.F.slot_list_append PySem.F.type_list_append Jh (Ab 4) (Ad (Ek (Ad (Ab 5) (Ad (Az (ZJC T) T.Vj hr (Ad (Bm (Fb (Ab 0) (Eb (Al Bj Ae (Al Gw Ae (Ab 6)))) (Eb (Al Bj Ae (Al Gw Ae (Ab 6)))))) (Ad (Ab 1) (Ad (Ab 3) Ag)))) Ag))) Ag))) (Ao (Bb 5 Rx.nd (Al Bj (Al Bj (Ab 5) Ae) (Al Cg (Al Hv (An Am (Ab 0) (Ab 6)) Ae) Ae))))) Bf))) (Ao (Av (Em Mg rfl T.Gb Gg (Ad (Ab 4) Ag)))))))
theorem ZJv(T:Txt K mg):FnO P w K mg base 4 "_law_place" ZBS Lf:=by
 refine Bu T.W0.F Ji λcdv A outer s H E hr=>?_
 exact(Ak (Bb 5 Ji.nd (Bm (Az (ZFy T) T.Qh hr (Ad (Ab 4) (Ad (Ab 2) (Ad Ae Ag)))))) (Ak (Bb 6 Ji.nd Bc) (Ak (Bg (Bk Ky (Al Cg (An Am (Ab 5) Ae) (Al Px (Ab 1) (Ab 2))) Ae (nomark _)) (Ao (Bb 6 Ji.nd (An Am (Ab 0) (Al Bj (Ab 2) (Al Cg (An Am (Ab 5) Ae) (Al Px (Ab 1) (Ab 2))))))) Bf) (Ak (Bb 7 Ji.nd (Ek (Ad (An Am (Ab 0) (Ab 2)) (Ad (Ab 6) (Ad (Al Cg (An Am (Ab 5) Ae) Ae) Ag))))) (Ak (Bg (Bk (Cm hr.units) (Al Cg (An Am (Ab 5) Ae) Ae) Ae (nomark _)) (Ao (Av (Al Bj (Al Bj (Ek (Ad Bc Ag)) (Ab 7)) (Ek (Ad (Az (N6 T) T.Ke hr (Ad (An Am (Ab 5) Ae) (Ad (Ab 4) Ag))) Ag))))) Bf) (Ak (Bg (Bk (Cm hr.units) (Al Cg (An Am (Ab 5) Ae) Ae) Ae (nomark _)) (Ao (Av (Al Bj (Al Bj (Ek (Ad Bc Ag)) (Ab 7)) (Ek (Ad (Az (N6 T) T.Ke hr (Ad (An Am (Ab 5) Ae) (Ad (Ab 4) Ag))) (Ad (Az (N6 T) T.Ke hr (Ad (An Am (Ab 5) Ae) (Ad (Ab 4) Ag))) Ag)))))) Bf) (Ak (Bb 8 Ji.nd (Nu (Fj Ky (Ab 1) Ae (nomark _)) (Ks (Fj Ky (Al Cg (An Am (Ab 5) Ae) Ae) Ae (nomark _))))) (Ak (Bb 9 Ji.nd (Az (ZM0 T) T.Vp hr (Ad (Bm (Fb (Ab 5) (Eb Ae) (Eb Ae))) (Ad (Ab 4) (Ad (Ab 3) (Ad (Ab 8) Ag)))))) (Ak (Bb 10 Ji.nd J9) (Ak (Bg (Cw (Ab 8)) (Ak (Bb 11 Ji.nd (Al Cg (Al Bj (Al Bj (Ab 2) Ae) (Al Cg (An Am (Ab 5) Ae) (Al Px (Ab 1) Ae))) (Ab 1))) (Ao (Bb 10 Ji.nd (Ek (Ad (An Am (Ab 0) (Ab 11)) (Ad (Al Bj Ae (Al Cg (An Am (Ab 5) Ae) Ae)) (Ad (Al Bj (Az (ZML T) T.Xf hr (Ad (Ab 9) Ag)) (Az (ZLg T) T.Tv hr (Ad (An Am (Ab 5) Ae) Ag))) Ag))))))) Bf) (Ao (Av (Al Bj (Al Bj (Ek (Ad Bc Ag)) (Ab 7)) (Ek (Ad (Az (N6 T) T.Ke hr (Ad (An Am (Ab 5) Ae) (Ad (Ab 4) Ag))) (Ad (Ab 9) (Ad (Ab 10) Ag)))))))))))))))))
theorem ZES(T:Txt K mg):FnO P w K mg base 5 "_law_house" ZBf K3:=by
 refine Bu T.Py.F Rn λcdv A outer s H E hr=>?_
 exact(Ak (Bb 2 Rn.nd (Al Bj Ae (Al Cg (Az (Xo T) T.Mp hr (Ad (Ab 0) (Ad (Ab 1) Ag))) Ae))) (Ak (Bb 3 Rn.nd (Al Bj Ae (Al Cg (Az (Xo T) T.Mp hr (Ad (Ab 0) (Ad (Al Bj (Ab 1) Ae) Ag))) Ae))) (Ak (Bb 4 Rn.nd (Bm (Az (ZJL T) T.W6 hr (Ad (Az (Xo T) T.Mp hr (Ad (Ab 0) (Ad (Al Bj (Ab 1) Ae) Ag))) Ag)))) (Ak (Ry (Mq 5 rfl Rn.nd (Dn (dn:=(Aw Vz).names) (N0:=ZBl) (N:=["_law_k","_law_script","_law_at","_law_many","_law_year","_law_names_here"]) (nt:=1) (caps:=[0,1,2,3,4])) (Ir rfl T.Iw (Ad (Ab 2) Ag)) (λC s₀ H₀ ex=>(Ba 0 (show(["_law_k","_law_script","_law_at","_law_many","_law_year","_law_names_here"]:List Str).Nodup by decide +kernel))) (Cr (by decide)) (λC s₀ H₀ ex=>Dw) (λC s₀ H₀ ex=>(Az (ZJv T) T.W0 hr (Ad (Ab 5) (Ad (Ab 3) (Ad (Ab 0) (Ad (Ab 4) (Ad (Az (Xo T) T.Mp hr (Ad (Ab 1) (Ad (Al Bj (Al Bj (Ab 2) Ae) (Ab 0)) Ag))) Ag))))))))) (Ao (Av (Ek (Ad (Ab 3) (Ad (Em Mg rfl T.Gb Gg (Ad (Ab 5) Ag)) Ag)))))))))
theorem Mh(T:Txt K mg):FnO P w K mg base 1 "_law_whole" ZAg Ha:=by
 refine Bu T.Jp.F ZHu λcdv A outer s H E hr=>?_
 exact(Ao (Av (Nu (Bx Gx rfl T.Gu H9 (Ad (Ab 0) (Ad (Gz rfl T.Yt Ym) Ag))) (Ks (ZDD (Bx Gx rfl T.Gu H9 (Ad (Ab 0) (Ad (Gz rfl T.ZJl ZIJ) Ag))))))))
theorem ZJN(T:Txt K mg):FnO P w K mg base 2 "_law_rule_like" ZAb Yj:=by
 refine Bu T.Ss.F ZBP λcdv A outer s H E hr=>?_
 exact(Ak (Bg (Dj (Ea (Cu (Cw (Bx Gx rfl T.Gu H9 (Ad (Ab 0) (Ad (Gz rfl T.Gb Gg) Ag))))) (Ex (Bk (Ga hr.units) (Bx Eh rfl T.Eg Ef (Ad (Ab 0) Ag)) (Bx Eh rfl T.Eg Ef (Ad (Ab 1) Ag)) (nomark _))))) (Ao (Av Dr)) Bf) (Ak (Gq PassesOwn.never rfl (Df (Ab 0)) (Ba 2 ZBP.nd) (Ak (Bg (Dj (Ea (Cu (Cw (Bx Gx rfl T.Gu H9 (Ad (Ab 2) (Ad (Gz rfl T.Gb Gg) Ag))))) (Ea (Bk (Ga hr.units) (Bx Eh rfl T.Eg Ef (Ad (Ab 2) Ag)) Ae (nomark _)) (Ex (Cu (Cw (Az (Mh T) T.Jp hr (Ad (An Am (Ab 2) Ae) Ag)))))))) (Ao (Av Dr)) Bf) (Ak (Bg (Cu (Cw (Bx Gx rfl T.Gu H9 (Ad (An Am (Ab 2) Ae) (Ad (Gz rfl T.Gb Gg) Ag))))) (Ao (Av Dr)) Bf) (Ao (Gq PassesOwn.never rfl (Df (An Am (Ab 2) Ae)) (Ba 3 ZBP.nd) (Ak (Bg (Dj (Ea (Cu (Cw (Bx Gx rfl T.Gu H9 (Ad (Ab 3) (Ad (Gz rfl T.Gb Gg) Ag))))) (Ea (Bk (Ga hr.units) (Bx Eh rfl T.Eg Ef (Ad (Ab 3) Ag)) Ae (nomark _)) (Ex (Cu (Cw (Bx Gx rfl T.Gu H9 (Ad (An Am (Ab 3) Ae) (Ad (Gz rfl T.Gn Gf) Ag))))))))) (Ao (Av Dr)) Bf) (Ao (Bg (Dj (Ea (Cu (Cw (Az (Mh T) T.Jp hr (Ad (An Am (Ab 3) Ae) Ag)))) (Ex (Cu (Cw (Az (Mh T) T.Jp hr (Ad (An Am (Ab 3) Ae) Ag))))))) (Ao (Av Dr)) Bf)))))))) (Ao (Av (Fj (Cm hr.units) (Ab 0) (Ab 1) (nomark _))))))
theorem ZNp(T:Txt K mg):FnO P w K mg base 3 "_law_place_like" ZAM Rv:=by
 refine Bu T.V4.F ZD0 λcdv A outer s H E hr=>?_
 exact(Ak (Bg (Dj (Ea (Cu (Cw (Bx Gx rfl T.Gu H9 (Ad (Ab 0) (Ad (Gz rfl T.Gb Gg) Ag))))) (Ex (Bk (Ga hr.units) (Bx Eh rfl T.Eg Ef (Ad (Ab 0) Ag)) (Bx Eh rfl T.Eg Ef (Ad (Ab 1) Ag)) (nomark _))))) (Ao (Av Dr)) Bf) (Ak (Gq PassesOwn.never rfl (Ir rfl T.Iw (Ad (Bx Eh rfl T.Eg Ef (Ad (Ab 1) Ag)) Ag)) (Ba 2 ZD0.nd) (Ak (Bg (Dj (Je (Cw (Bx Gx rfl T.Gu H9 (Ad (An Am (Ab 1) (Ab 2)) (Ad (Gz rfl T.Gn Gf) Ag)))) (Js (Cu (Cw (Bx Gx rfl T.Gu H9 (Ad (An Am (Ab 0) (Ab 2)) (Ad (Gz rfl T.Gn Gf) Ag)))))))) (Ao (Av Dr)) Bf) (Ao (Bg (Dj (Je (Cw (Az (Mh T) T.Jp hr (Ad (An Am (Ab 1) (Ab 2)) Ag))) (Js (Cu (Cw (Az (Mh T) T.Jp hr (Ad (An Am (Ab 0) (Ab 2)) Ag))))))) (Ao (Av Dr)) Bf)))) (Ak (Bg (Bk (Ga hr.units) (An Am (Ab 1) Ae) Bc (nomark _)) (Ao (Av (Fj (Cm hr.units) (Ab 0) (Ab 1) (nomark _)))) Bf) (Ak (Bg (Dj (Je (Bk ZB7 (An Am (Ab 1) Ae) J9 (nomark _)) (Js (Cu (Cw (Bx Gx rfl T.Gu H9 (Ad (An Am (Ab 0) Ae) (Ad (Gz rfl T.Gb Gg) Ag)))))))) (Ao (Av Dr)) Bf) (Ak (Bg (Dj (Je (Bk ZB7 (An Am (Ab 1) Ae) J9 (nomark _)) (Js (Cu (Cw (Bx (Qz rfl) rfl T.Q8 Rp (Ad (Bm (Es rfl (Dn (dn:=(Aw Tq).names) (N0:=Zd) (N:=["_law_part"]) (nt:=1) (caps:=[])) (Df (Bm (Fb (An Am (Ab 0) Ae) (Eb Ae) Gj))) (λC s₀ H₀ ex=>(Ba 0 (show(["_law_part"]:List Str).Nodup by decide +kernel))) (Cr (by decide)) (λC s₀ H₀ ex=>Dw) (λC s₀ H₀ ex=>(Az (Mh T) T.Jp hr (Ad (Ab 0) Ag))))) Ag))))))) (Ao (Av Dr)) Bf) (Ao (Av (Nu (Az (ZJN T) T.Ss hr (Ad (An Am (Ab 0) Ae) (Ad (An Am (Ab 1) Ae) Ag))) (Ks (Fj (Cm hr.units) (Ab 0) (Ab 1) (nomark _)))))))))))
theorem ZId(T:Txt K mg):FnO P w K mg base 4 "_law_house_like" Yu Y5:=by
 refine Bu T.Ut.F ZK6 λcdv A outer s H E hr=>?_
 exact(Ak (Bg (Dj (Ea (Cu (Cw (Bx Gx rfl T.Gu H9 (Ad (Ab 0) (Ad (Gz rfl T.Gb Gg) Ag))))) (Ea (Bk (Ga hr.units) (Bx Eh rfl T.Eg Ef (Ad (Ab 0) Ag)) Ae (nomark _)) (Ea (Cu (Cw (Az (Mh T) T.Jp hr (Ad (An Am (Ab 0) Ae) Ag)))) (Ex (Bk (Ga hr.units) (An Am (Ab 0) Ae) (An Am (Ab 1) Ae) (nomark _))))))) (Ao (Av Dr)) Bf) (Ak (Bg (Dj (Ea (Cu (Cw (Bx Gx rfl T.Gu H9 (Ad (An Am (Ab 0) Ae) (Ad (Gz rfl T.Gb Gg) Ag))))) (Ex (Bk (Ga hr.units) (Bx Eh rfl T.Eg Ef (Ad (An Am (Ab 0) Ae) Ag)) (Bx Eh rfl T.Eg Ef (Ad (An Am (Ab 1) Ae) Ag)) (nomark _))))) (Ao (Av Dr)) Bf) (Ao (Av (Bx (Qz rfl) rfl T.Q8 Rp (Ad (Bm (Es rfl (Dn (dn:=(Aw V0).names) (N0:=ZCj) (N:=["_law_k","_law_found","_law_due"]) (nt:=1) (caps:=[0,1])) (Ir rfl T.Iw (Ad (Bx Eh rfl T.Eg Ef (Ad (An Am (Ab 1) Ae) Ag)) Ag)) (λC s₀ H₀ ex=>(Ba 0 (show(["_law_k","_law_found","_law_due"]:List Str).Nodup by decide +kernel))) (Cr (by decide)) (λC s₀ H₀ ex=>Dw) (λC s₀ H₀ ex=>(Az (ZNp T) T.V4 hr (Ad (An Am (An Am (Ab 1) Ae) (Ab 0)) (Ad (An Am (An Am (Ab 2) Ae) (Ab 0)) Ag)))))) Ag))))))
theorem ZLP(T:Txt K mg):FnO P w K mg base 1 "_law_rule_text" ZBr Ul:=by
 refine Bu T.Wh.F Iu λcdv A outer s H E hr=>?_
 exact(Ak (Bb 1 Iu.nd (Li (Fl Ag))) (Ak (Gq PassesOwn.never rfl (Df (Ab 0)) (Gp rfl (Bt (Ba 2 Iu.nd) (Bt (Ba 3 Iu.nd) G8))) (Ak (Bb 4 Iu.nd (Al Bj (Em Jw rfl T.Gn Gf (Ad (Ab 2) Ag)) Bc)) (Ak (Bb 5 Iu.nd Bc) (Ak (Gq PassesOwn.never rfl (Df (Ab 3)) (Gp rfl (Bt (Ba 6 Iu.nd) (Bt (Ba 7 Iu.nd) (Bt (Ba 8 Iu.nd) G8)))) (Ak (Bb 4 Iu.nd (Al Bj (Al Bj (Al Bj (Al Bj (Al Bj (Al Bj (Ab 4) (Ab 5)) (Em Jw rfl T.Gn Gf (Ad (Ab 6) Ag))) Bc) (Em Jw rfl T.Gn Gf (Ad (Ab 7) Ag))) Bc) (Ab 8))) (Ao (Bb 5 Iu.nd Bc)))) (Ao (Io (Jc PySem.F.slot_list_append PySem.F.type_list_append Jh (Ab 1) (Ad (Ab 4) Ag)))))))) (Ao (Av (Ed PySem.F.slot_str_join PySem.F.type_str_join Ko Bc (Ad (Ab 1) Ag))))))
theorem ZKK(T:Txt K mg):FnO P w K mg base 2 "_law_row" Zo M4:=by
 refine Bu T.Yc.F ZDq λcdv A outer s H E hr=>?_
 exact(Ak (Bb 1 ZDq.nd (Li (Fl (Ad (An Am (Ab 0) Ae) (Ad (An Am (Ab 0) Ae) (Ad (An Am (Ab 0) Ae) (Ad (Em Jw rfl T.Gn Gf (Ad (An Am (Ab 0) Ae) Ag)) (Ad (Em Jw rfl T.Gn Gf (Ad (An Am (Ab 0) Ae) Ag)) Ag)))))))) (Ak (Bg (Bk (Cm hr.units) (An Am (Ab 0) Ae) Bc (nomark _)) (Ao (Io (Jc PySem.F.slot_list_append PySem.F.type_list_append Jh (Ab 1) (Ad (Em Jw rfl T.Gn Gf (Ad (An Am (Ab 0) Ae) Ag)) Ag)))) Bf) (Ak (Bg (Dj (Je (Bk (Cm hr.units) (An Am (Ab 0) Ae) Bc (nomark _)) (Js (Bk Qo (An Am (Ab 0) Ae) J9 (nomark _))))) (Ao (Io (Jc PySem.F.slot_list_append PySem.F.type_list_append Jh (Ab 1) (Ad Bc Ag)))) Bf) (Ak (Bg (Dj (Je (Bk (Cm hr.units) (An Am (Ab 0) Ae) Bc (nomark _)) (Js (Bk ZB7 (An Am (Ab 0) Ae) J9 (nomark _))))) (Ao (Io (Jc PySem.F.slot_list_append PySem.F.type_list_append Jh (Ab 1) (Ad (Al Bj (Al Bj (Al Bj (Al Bj (An Am (An Am (Ab 0) Ae) Ae) Bc) (Em Jw rfl T.Gn Gf (Ad (An Am (An Am (Ab 0) Ae) Ae) Ag))) Bc) (Em Jw rfl T.Gn Gf (Ad (An Am (An Am (Ab 0) Ae) Ae) Ag))) Ag)))) Bf) (Ak (Bg (Bk (Cm hr.units) (An Am (Ab 0) Ae) Bc (nomark _)) (Ao (Io (Jc PySem.F.slot_list_append PySem.F.type_list_append Jh (Ab 1) (Ad (Az (ZLP T) T.Wh hr (Ad (An Am (Ab 0) Ae) Ag)) Ag)))) Bf) (Ao (Av (Ed PySem.F.slot_str_join PySem.F.type_str_join Ko Bc (Ad (Ab 1) Ag)))))))))
theorem ZJs(T:Txt K mg):FnO P w K mg base 3 "_law_rows" ZBt Vo:=by
 refine Bu T.Td.F ZNn λcdv A outer s H E hr=>?_
 exact(Ao (Av (Al Bj (Bm (Fl (Ad (Al Bj Bc (Em Jw rfl T.Gn Gf (Ad (An Am (Ab 0) Ae) Ag))) Ag))) (Bm (Es rfl (Dn (dn:=(Aw Xc).names) (N0:=ZCD) (N:=["_law_place_here"]) (nt:=1) (caps:=[])) (Df (An Am (Ab 0) Ae)) (λC s₀ H₀ ex=>(Ba 0 (show(["_law_place_here"]:List Str).Nodup by decide +kernel))) (Cr (by decide)) (λC s₀ H₀ ex=>Dw) (λC s₀ H₀ ex=>(Az (ZKK T) T.Yc hr (Ad (Ab 0) Ag))))))))
theorem ZOd(T:Txt K mg):FnO P w K mg base 1 "is_name" ZCT V6:=by
 refine Bu T.Up.F ZIU λcdv A outer s H E hr=>?_
 exact(Ak (Bg (Dj (Ea (Bk (Cm hr.units) (Ab 0) (Cd (v:=(.str "sea")) rfl T.Xi ⟨_,rfl⟩ (λ_ _=>rfl)) (nomark _)) (Ex (Cu (Qv Hw Hw Ae (Bx Eh rfl T.Eg Ef (Ad (Ab 0) Ag)) Ae))))) (Ao (Av Dr)) Bf) (Ao (Av (Bx (Qz rfl) rfl T.Q8 Rp (Ad (Bm (Es rfl (Dn (dn:=(Aw V9).names) (N0:=ZBq) (N:=["sign"]) (nt:=1) (caps:=[])) (Df (Ab 0)) (λC s₀ H₀ ex=>(Ba 0 (show(["sign"]:List Str).Nodup by decide +kernel))) (Cr (by decide)) (λC s₀ H₀ ex=>Dw) (λC s₀ H₀ ex=>(Fj Ng (Ab 0) (Cd (v:=(.str "abcdefghijklmnopqrstuvwxyz")) rfl T.Vq ⟨_,rfl⟩ (λ_ _=>rfl)) (by with_unfolding_all rfl))))) Ag)))))
theorem ZMT(T:Txt K mg):FnO P w K mg base 1 "is_pump_good" ZAZ Yd:=by
 refine Bu T.Yl.F ZNc λcdv A outer s H E hr=>?_
 exact(Ak (Bg (Bk Qo (Ab 0) J9 (nomark _)) (Ao (Av Dr)) Bf) (Ao (Av (Nu (Fj Ng (An Am (Ab 0) (Cd (v:=(.int 0)) rfl T.ZCW ⟨_,rfl⟩ (λ_ _=>rfl))) (Ab 1) (by with_unfolding_all rfl)) (Ks (ZFl Hw Hw Ae (An Am (Ab 0) (Cd (v:=(.int 1)) rfl T.ZBk ⟨_,rfl⟩ (λ_ _=>rfl))) Ae))))))
theorem ZLo(T:Txt K mg):FnO P w K mg base 1 "is_river_good" ZBB Uk:=by
 refine Bu T.Yp.F ZJk λcdv A outer s H E hr=>?_
 exact(Ao (Av (Nu (ZDM (Fj (Cm hr.units) (An Am (Ab 0) (Cd (v:=(.int 2)) rfl T.Wx ⟨_,rfl⟩ (λ_ _=>rfl))) (Cd (v:=(.str "sea")) rfl T.Xi ⟨_,rfl⟩ (λ_ _=>rfl)) (nomark _)) (Ks (Fj Ng (An Am (Ab 0) (Cd (v:=(.int 2)) rfl T.Wx ⟨_,rfl⟩ (λ_ _=>rfl))) (Ab 1) (by with_unfolding_all rfl)))) (Ks (ZFl Hw Hw Ae (An Am (Ab 0) (Cd (v:=(.int 3)) rfl T.Zb ⟨_,rfl⟩ (λ_ _=>rfl))) Ae)))))
theorem ZHc(T:Txt K mg):FnO P w K mg base 1 "are_seasons_good" ZBz Qe:=by
 refine Bu T.Wm.F S8 λcdv A outer s H E hr=>?_
 exact(Ak (Bg (Dj (Ea (Bk (Cm hr.units) (Bx Eh rfl T.Eg Ef (Ad (Ab 0) Ag)) Ae (nomark _)) (Ex (Bk (Ga hr.units) (An Am (An Am (Ab 0) Ae) Ae) Ae (nomark _))))) (Ao (Av Dr)) Bf) (Ak (Bb 2 S8.nd (ZMx ZJA Ae)) (Ak (Gq PassesOwn.never rfl (Df (Ab 0)) (Gp rfl (Bt (Ba 3 S8.nd) (Bt (Ba 4 S8.nd) G8))) (Ak (Bg (Cu (Qv Lb Lb (Ab 2) (Ab 3) (Ab 1))) (Ao (Av Dr)) Bf) (Ao (Bb 2 S8.nd (Ab 3))))) (Ao (Av Dr)))))
theorem ZKN(T:Txt K mg):FnO P w K mg base 1 "are_steps_good" ZAi Og:=by
 refine Bu T.Vv.F Ob λcdv A outer s H E hr=>?_
 exact(Ak (Bb 1 Ob.nd Ae) (Ak (Gq PassesOwn.never rfl (Df (Ab 0)) (Gp rfl (Bt (Ba 2 Ob.nd) (Bt (Ba 3 Ob.nd) (Bt (Ba 4 Ob.nd) G8)))) (Ak (Bg (Dj (Ea (Bk Lb (Ab 2) (Ab 1) (nomark _)) (Ex (Bk Lb (Ab 3) Ae (nomark _))))) (Ao (Av Dr)) Bf) (Ao (Bb 1 Ob.nd (Al Bj (Ab 2) (Ab 3)))))) (Ao (Av Dr))))
theorem ZNP(T:Txt K mg):FnO P w K mg base 1 "can_pump" ZB1 Kw:=by
 refine Bu T.Tg.F ZC8 λcdv A outer s H E hr=>?_
 exact(Ak (Ry (Mq 2 rfl ZC8.nd (Dn (dn:=(Aw Su).names) (N0:=ZCn) (N:=["height","many","way"]) (nt:=3) (caps:=[])) (Df (Ab 0)) (λC s₀ H₀ ex=>(Gp rfl (Bt (Ba 0 (show(["height","many","way"]:List Str).Nodup by decide +kernel)) (Bt (Ba 1 (show(["height","many","way"]:List Str).Nodup by decide +kernel)) (Bt (Ba 2 (show(["height","many","way"]:List Str).Nodup by decide +kernel)) G8))))) (Nf (Gi (Cr (by decide)) (Gi (Cr (by decide)) (Gi (Cr (by decide)) Np)))) (λC s₀ H₀ ex=>(ZCN (Bk (Cm hr.units) (Ab 2) Bc (nomark _)))) (λC s₀ H₀ ex=>(Ab 1)))) (Ak (Bg (Bk Qo (Ab 1) J9 (nomark _)) (Ao (Av (Fj (Cm hr.units) (Bx Eh rfl T.Eg Ef (Ad (Ab 2) Ag)) Ae (nomark _)))) Bf) (Ao (Av (Fj Hw (Bx (ZFx rfl) rfl T.ZD5 ZD6 (Ad (Ab 2) Ag)) (An Am (Ab 1) (Cd (v:=(.int 2)) rfl T.Vt ⟨_,rfl⟩ (λ_ _=>rfl))) (nomark _))))))
theorem ZMA(T:Txt K mg):FnO P w K mg base 2 "is_rule_good" Yw Xu:=by
 refine Bu T.Ye.F Yy λcdv A outer s H E hr=>?_
 exact(Ak (Bg (Cu (Cw (Az (ZHc T) T.Wm hr (Ad (Ab 0) (Ad (Ab 2) Ag))))) (Ao (Av Dr)) Bf) (Ak (Gq PassesOwn.never rfl (Df (Ab 0)) (Gp rfl (Bt (Ba 3 Yy.nd) (Bt (Ba 4 Yy.nd) G8))) (Ao (Bg (Dj (Ea (Cu (Cw (Az (ZKN T) T.Vv hr (Ad (Ab 4) Ag)))) (Ex (Cu (Cw (Az (ZNP T) T.Tg hr (Ad (Ab 4) (Ad (Ab 1) Ag)))))))) (Ao (Av Dr)) Bf))) (Ao (Av Dr))))
theorem ZMf(T:Txt K mg):FnO P w K mg base 1 "numbers_in" Zn Mx:=by
 refine Bu T.Uw.F ZH7 λcdv A outer s H E hr=>?_
 exact(Ak (Bg (Bk (Cm hr.units) (An Am (Ab 0) (Cd (v:=(.int 0)) rfl T.Ny ⟨_,rfl⟩ (λ_ _=>rfl))) Bc (nomark _)) (Ao (Av (Fl (Ad (An Am (Ab 0) (Cd (v:=(.int 4)) rfl T.Zg ⟨_,rfl⟩ (λ_ _=>rfl))) (Ad (An Am (Ab 0) (Cd (v:=(.int 5)) rfl T.ZAn ⟨_,rfl⟩ (λ_ _=>rfl))) Ag))))) Bf) (Ak (Bg (Bk (Cm hr.units) (An Am (Ab 0) (Cd (v:=(.int 0)) rfl T.Ny ⟨_,rfl⟩ (λ_ _=>rfl))) Bc (nomark _)) (Ao (Av (Fl (Ad (An Am (Ab 0) (Cd (v:=(.int 4)) rfl T.ZBK ⟨_,rfl⟩ (λ_ _=>rfl))) Ag)))) Bf) (Ak (Bg (Bk Qo (An Am (Ab 0) (Cd (v:=(.int 6)) rfl T.N5 ⟨_,rfl⟩ (λ_ _=>rfl))) J9 (nomark _)) (Ao (Av (Fl (Ad (An Am (Ab 0) (Cd (v:=(.int 4)) rfl T.Xg ⟨_,rfl⟩ (λ_ _=>rfl))) Ag)))) Bf) (Ao (Av (Fl (Ad (An Am (Ab 0) (Cd (v:=(.int 4)) rfl T.Xg ⟨_,rfl⟩ (λ_ _=>rfl))) (Ad (An Am (An Am (Ab 0) (Cd (v:=(.int 6)) rfl T.N5 ⟨_,rfl⟩ (λ_ _=>rfl))) (Cd (v:=(.int 2)) rfl T.Vt ⟨_,rfl⟩ (λ_ _=>rfl))) Ag))))))))
theorem ZHq(T:Txt K mg):FnO P w K mg base 3 "check_place" ZAO Mw:=by
 refine Bu T.Wv.F Ou λcdv A outer s H E hr=>?_
 exact(Ak (Bb 2 Ou.nd (An Am (Ab 0) (Cd (v:=(.int 1)) rfl T.Rm ⟨_,rfl⟩ (λ_ _=>rfl)))) (Ak (Bb 3 Ou.nd (An Am (Ab 2) (Ab 1))) (Ak (Ry (Mq 4 rfl Ou.nd (Dn (dn:=(Aw Rh).names) (N0:=U5) (N:=["other"]) (nt:=1) (caps:=[])) (Df (Bm (Fb (Ab 2) Gj (Eb (Ab 1))))) (λC s₀ H₀ ex=>(Ba 0 (show(["other"]:List Str).Nodup by decide +kernel))) (Cr (by decide)) (λC s₀ H₀ ex=>Dw) (λC s₀ H₀ ex=>(An Am (Ab 0) (Cd (v:=(.int 1)) rfl T.Nb ⟨_,rfl⟩ (λ_ _=>rfl)))))) (Ak (Ry (Mq 5 rfl Ou.nd (Dn (dn:=(Aw Rh).names) (N0:=U5) (N:=["other"]) (nt:=1) (caps:=[])) (Df (Bm (Fb (Ab 2) (Eb (Al Bj (Ab 1) Ae)) Gj))) (λC s₀ H₀ ex=>(Ba 0 (show(["other"]:List Str).Nodup by decide +kernel))) (Cr (by decide)) (λC s₀ H₀ ex=>Dw) (λC s₀ H₀ ex=>(An Am (Ab 0) (Cd (v:=(.int 1)) rfl T.Nb ⟨_,rfl⟩ (λ_ _=>rfl)))))) (Ak (Bg (Dj (Ea (Cu (Cw (Az (ZOd T) T.Up hr (Ad (An Am (Ab 3) (Cd (v:=(.int 1)) rfl T.Nb ⟨_,rfl⟩ (λ_ _=>rfl))) Ag)))) (Ex (Bk Ng (An Am (Ab 3) (Cd (v:=(.int 1)) rfl T.Nb ⟨_,rfl⟩ (λ_ _=>rfl))) (Ab 4) (by with_unfolding_all rfl))))) (Ao Fv) Bf) (Ak (Bg (Cu (Cw (Az (ZLo T) T.Yp hr (Ad (Ab 3) (Ad (Ab 5) Ag))))) (Ao Fv) Bf) (Ak (Bg (Bk Lb (Bx (ZJ9 rfl) rfl T.ZJx ZKy (Ad (Bm (Az (ZMf T) T.Uw hr (Ad (Ab 3) Ag))) Ag)) Ae (nomark _)) (Ao Fv) Bf) (Ao (Bg (Bk (Cm hr.units) (An Am (Ab 3) (Cd (v:=(.int 0)) rfl T.Ny ⟨_,rfl⟩ (λ_ _=>rfl))) Bc (nomark _)) (Ak (Bg (Cu (Cw (Az (ZMT T) T.Yl hr (Ad (An Am (Ab 3) (Cd (v:=(.int 6)) rfl T.N5 ⟨_,rfl⟩ (λ_ _=>rfl))) (Ad (Al Bj (Ab 4) (Ab 5)) Ag))))) (Ao Fv) Bf) (Ao (Bg (Cu (Cw (Az (ZMA T) T.Ye hr (Ad (An Am (Ab 3) (Cd (v:=(.int 5)) rfl T.ZA8 ⟨_,rfl⟩ (λ_ _=>rfl))) (Ad (An Am (Ab 3) (Cd (v:=(.int 6)) rfl T.N5 ⟨_,rfl⟩ (λ_ _=>rfl))) (Ad (An Am (Ab 0) (Cd (v:=(.int 0)) rfl T.Qx ⟨_,rfl⟩ (λ_ _=>rfl))) Ag)))))) (Ao Fv) Bf))) Bf)))))))))
theorem ZLa(T:Txt K mg):FnO P w K mg base 4 "checked" Z6 Mu:=by
 refine Bu T.Va.F ZB3 λcdv A outer s H E hr=>?_
 exact(Ak (Bb 1 ZB3.nd (An Am (Ab 0) (Cd (v:=(.int 1)) rfl T.Rm ⟨_,rfl⟩ (λ_ _=>rfl)))) (Ak (Bg (Dj (Ea (Cu (Qv Hw Hw Ae (An Am (Ab 0) (Cd (v:=(.int 0)) rfl T.Qx ⟨_,rfl⟩ (λ_ _=>rfl))) Ae)) (Ex (Cu (Qv Hw Hw Ae (Bx Eh rfl T.Eg Ef (Ad (Ab 1) Ag)) Ae))))) (Ao Fv) Bf) (Ak (Gq PassesOwn.never rfl (Ir rfl T.Iw (Ad (Bx Eh rfl T.Eg Ef (Ad (Ab 1) Ag)) Ag)) (Ba 2 ZB3.nd) (Ao (Io (Az (ZHq T) T.Wv hr (Ad (Ab 0) (Ad (Ab 2) Ag)))))) (Ao (Av (Ab 0))))))
theorem ZMi(T:Txt K mg):FnO P w K mg base 1 "is_number" ZBy Uv:=by
 refine Bu T.U7.F ZHt λcdv A outer s H E hr=>?_
 exact(Ak (Bg (Dj (Ea (Cu (Qv Hw Hw Ae (Bx Eh rfl T.Eg Ef (Ad (Ab 0) Ag)) (Cd (v:=(.int 40)) rfl T.ZCZ ⟨_,rfl⟩ (λ_ _=>rfl)))) (Ex (Cu (Cw (Bx (Qz rfl) rfl T.Q8 Rp (Ad (Bm (Es rfl (Dn (dn:=(Aw T8).names) (N0:=ZBD) (N:=["sign"]) (nt:=1) (caps:=[])) (Df (Ab 0)) (λC s₀ H₀ ex=>(Ba 0 (show(["sign"]:List Str).Nodup by decide +kernel))) (Cr (by decide)) (λC s₀ H₀ ex=>Dw) (λC s₀ H₀ ex=>(Fj Ng (Ab 0) (Cd (v:=(.str "0123456789")) rfl T.ZBZ ⟨_,rfl⟩ (λ_ _=>rfl)) (by with_unfolding_all rfl))))) Ag))))))) (Ao (Av Dr)) Bf) (Ao (Av (ZDM (Fj (Cm hr.units) (Ab 0) Bc (nomark _)) (Ks (ZDD (Ed PySem.F.slot_str_startswith PySem.F.type_str_startswith ZGr (Ab 0) (Ad Bc Ag))))))))
theorem K5(T:Txt K mg):FnO P w K mg base 2 "number_in" Zf Im:=by
 refine Bu T.Ih.F ZJc λcdv A outer s H E hr=>?_
 exact(Ak (Bg (Cu (Cw (Az (ZMi T) T.U7 hr (Ad (Ab 0) Ag)))) (Ao Fv) Bf) (Ao (Av (Em ZKL rfl T.Yt Ym (Ad (Ab 0) Ag)))))
theorem Rg(T:Txt K mg):FnO P w K mg base 1 "word_in" ZBU Ls:=by
 refine Bu T.Ku.F ZN2 λcdv A outer s H E hr=>?_
 exact(Ak (Bg (Dj (Ea (Bk (Cm hr.units) (Ab 0) Bc (nomark _)) (Ex (Cu (Cw (Bx (Qz rfl) rfl T.Q8 Rp (Ad (Bm (Es rfl (Dn (dn:=(Aw Yn).names) (N0:=ZCL) (N:=["sign"]) (nt:=1) (caps:=[])) (Df (Ab 0)) (λC s₀ H₀ ex=>(Ba 0 (show(["sign"]:List Str).Nodup by decide +kernel))) (Cr (by decide)) (λC s₀ H₀ ex=>Dw) (λC s₀ H₀ ex=>(Fj Ng (Ab 0) (Cd (v:=(.str "abcdefghijklmnopqrstuvwxyz")) rfl T.Vq ⟨_,rfl⟩ (λ_ _=>rfl)) (by with_unfolding_all rfl))))) Ag))))))) (Ao Fv) Bf) (Ao (Av (Ab 0))))
theorem ZNE(T:Txt K mg):FnO P w K mg base 3 "pump_in" ZCH Qj:=by
 refine Bu T.Vr.F ZEq λcdv A outer s H E hr=>?_
 exact(Ak (Bg (Bk (Cm hr.units) (Ab 0) (Cd (v:=(.str "none")) rfl T.V3 ⟨_,rfl⟩ (λ_ _=>rfl)) (nomark _)) (Ao (Av J9)) Bf) (Ak (Bb 2 ZEq.nd (Bm (Ed PySem.F.slot_str_split PySem.F.type_str_split m_split (Ab 0) (Ad Bc Ag)))) (Ak (Bg (Bk (Ga hr.units) (Bx Eh rfl T.Eg Ef (Ad (Ab 2) Ag)) Ae (nomark _)) (Ao Fv) Bf) (Ao (Av (Ek (Ad (Az (Rg T) T.Ku hr (Ad (An Am (Ab 2) Ae) (Ad (Ab 1) Ag))) (Ad (Az (K5 T) T.Ih hr (Ad (An Am (Ab 2) Ae) (Ad (Ab 1) Ag))) (Ad (Az (K5 T) T.Ih hr (Ad (An Am (Ab 2) Ae) (Ad (Ab 1) Ag))) Ag)))))))))
theorem ZNM(T:Txt K mg):FnO P w K mg base 3 "step_in" Ze Xv:=by
 refine Bu T.V5.F Mv λcdv A outer s H E hr=>?_
 exact(Ak (Ov (Ed PySem.F.slot_str_partition PySem.F.type_str_partition Wj (Ab 0) (Ad Bc Ag)) (Gp rfl (Bt (Ba 2 Mv.nd) (Bt (Ba 3 Mv.nd) (Bt (Ba 4 Mv.nd) G8))))) (Ak (Ov (Ed PySem.F.slot_str_partition PySem.F.type_str_partition Wj (Ab 4) (Ad Bc Ag)) (Gp rfl (Bt (Ba 5 Mv.nd) (Bt (Ba 6 Mv.nd) (Bt (Ba 7 Mv.nd) G8))))) (Ak (Bg (Bk ZDj (Ab 7) (ZNb (ss:=["river","pump"]) rfl T.ZBX) (by with_unfolding_all rfl)) (Ao Fv) Bf) (Ao (Av (Ek (Ad (Az (K5 T) T.Ih hr (Ad (Ab 2) (Ad (Ab 1) Ag))) (Ad (Az (K5 T) T.Ih hr (Ad (Ab 5) (Ad (Ab 1) Ag))) (Ad (Ab 7) Ag)))))))))
theorem ZJF(T:Txt K mg):FnO P w K mg base 4 "stairs_in" ZA9 Qg:=by
 refine Bu T.Xl.F ZMn λcdv A outer s H E hr=>?_
 exact(Ak (Bg (Bk (Cm hr.units) (Ab 0) Bc (nomark _)) (Ao (Av (Ek Ag))) Bf) (Ak (Bg (Cu (Cw (Ed PySem.F.slot_str_startswith PySem.F.type_str_startswith ZGr (Ab 0) (Ad Bc Ag)))) (Ao Fv) Bf) (Ao (Av (Em Mg rfl T.Gb Gg (Ad (Bm (Es rfl (Dn (dn:=(Aw Tt).names) (N0:=ZCB) (N:=["part","row"]) (nt:=1) (caps:=[1])) (Df (Bm (Ed PySem.F.slot_str_split PySem.F.type_str_split m_split (Bm (Fb (Ab 0) (Eb Ae) Gj)) (Ad Bc Ag)))) (λC s₀ H₀ ex=>(Ba 0 (show(["part","row"]:List Str).Nodup by decide +kernel))) (Cr (by decide)) (λC s₀ H₀ ex=>Dw) (λC s₀ H₀ ex=>(Az (ZNM T) T.V5 hr (Ad (Ab 0) (Ad (Ab 1) Ag)))))) Ag))))))
theorem ZJn(T:Txt K mg):FnO P w K mg base 5 "season_in" ZBd Tc:=by
 refine Bu T.W2.F Yi λcdv A outer s H E hr=>?_
 exact(Ak (Ov (Ed PySem.F.slot_str_partition PySem.F.type_str_partition Wj (Ab 0) (Ad Bc Ag)) (Gp rfl (Bt (Ba 2 Yi.nd) (Bt (Ba 3 Yi.nd) (Bt (Ba 4 Yi.nd) G8))))) (Ak (Bg (Bk (Cm hr.units) (Ab 3) Bc (nomark _)) (Ao Fv) Bf) (Ao (Av (Ek (Ad (Az (K5 T) T.Ih hr (Ad (Ab 2) (Ad (Ab 1) Ag))) (Ad (Az (ZJF T) T.Xl hr (Ad (Ab 4) (Ad (Ab 1) Ag))) Ag)))))))
theorem ZJz(T:Txt K mg):FnO P w K mg base 6 "rule_in" ZCm Vi:=by
 refine Bu T.Ua.F ZLj λcdv A outer s H E hr=>?_
 exact(Ao (Av (Em Mg rfl T.Gb Gg (Ad (Bm (Es rfl (Dn (dn:=(Aw Sv).names) (N0:=ZB9) (N:=["part","row"]) (nt:=1) (caps:=[1])) (Df (Bm (Ed PySem.F.slot_str_split PySem.F.type_str_split m_split (Ab 0) (Ad Bc Ag)))) (λC s₀ H₀ ex=>(Ba 0 (show(["part","row"]:List Str).Nodup by decide +kernel))) (Cr (by decide)) (λC s₀ H₀ ex=>Dw) (λC s₀ H₀ ex=>(Az (ZJn T) T.W2 hr (Ad (Ab 0) (Ad (Ab 1) Ag)))))) Ag))))
theorem ZMS(T:Txt K mg):FnO P w K mg base 7 "basin_in" ZCk Wt:=by
 refine Bu T.Wy.F Jb λcdv A outer s H E hr=>?_
 exact(Ak (Bb 2 Jb.nd (Bm (Ed PySem.F.slot_str_split PySem.F.type_str_split ZKz (Ab 0) (Ad Bc (Ad (Al Px (Cd (v:=(.int 7)) rfl T.Uc ⟨_,rfl⟩ (λ_ _=>rfl)) Ae) Ag))))) (Ak (Bg (Bk (Ga hr.units) (Bx Eh rfl T.Eg Ef (Ad (Ab 2) Ag)) (Cd (v:=(.int 7)) rfl T.Uc ⟨_,rfl⟩ (λ_ _=>rfl)) (nomark _)) (Ao Fv) Bf) (Ak (Ov (Ab 2) (ZIy rfl (Bt (Ba 3 Jb.nd) (Bt (Ba 4 Jb.nd) (Bt (Ba 5 Jb.nd) (Bt (Ba 6 Jb.nd) (Bt (Ba 7 Jb.nd) (Bt (Ba 8 Jb.nd) (Bt (Ba 9 Jb.nd) G8))))))))) (Ak (Bb 10 Jb.nd (Ek (Ad (Az (Rg T) T.Ku hr (Ad (Ab 4) (Ad (Ab 1) Ag))) (Ad (Az (Rg T) T.Ku hr (Ad (Ab 5) (Ad (Ab 1) Ag))) (Ad (Az (K5 T) T.Ih hr (Ad (Ab 6) (Ad (Ab 1) Ag))) Ag))))) (Ao (Av (Al Bj (Al Bj (Ek (Ad (Ab 3) Ag)) (Ab 10)) (Ek (Ad (Az (K5 T) T.Ih hr (Ad (Ab 7) (Ad (Ab 1) Ag))) (Ad (Az (ZJz T) T.Ua hr (Ad (Ab 9) (Ad (Ab 1) Ag))) (Ad (Az (ZNE T) T.Vr hr (Ad (Ab 8) (Ad (Ab 1) Ag))) Ag)))))))))))
theorem ZF0(T:Txt K mg):FnO P w K mg base 3 "town_or_mill_in" ZAo Pu:=by
 refine Bu T.Qk.F ZED λcdv A outer s H E hr=>?_
 exact(Ak (Bb 2 ZED.nd (Ek (Ad (Az (Rg T) T.Ku hr (Ad (An Am (Ab 0) Ae) (Ad (Ab 1) Ag))) (Ad (Az (Rg T) T.Ku hr (Ad (An Am (Ab 0) Ae) (Ad (Ab 1) Ag))) Ag)))) (Ao (Av (Al Bj (Al Bj (Ek (Ad (An Am (Ab 0) Ae) Ag)) (Ab 2)) (Em Mg rfl T.Gb Gg (Ad (Bm (Es rfl (Dn (dn:=(Aw Wi).names) (N0:=Z4) (N:=["word","row"]) (nt:=1) (caps:=[1])) (Df (Bm (Fb (Ab 0) (Eb Ae) Gj))) (λC s₀ H₀ ex=>(Ba 0 (show(["word","row"]:List Str).Nodup by decide +kernel))) (Cr (by decide)) (λC s₀ H₀ ex=>Dw) (λC s₀ H₀ ex=>(Az (K5 T) T.Ih hr (Ad (Ab 0) (Ad (Ab 1) Ag)))))) Ag))))))
theorem ZBM(T:Txt K mg):FnO P w K mg base 1 "words_in" Yv Nx:=by
 refine Bu T.Oj.F ZEx λcdv A outer s H E hr=>?_
 exact(Ak (Bb 3 ZEx.nd (Bm (Ed PySem.F.slot_str_split PySem.F.type_str_split m_split (Ab 0) (Ad Bc Ag)))) (Ak (Bg (Bk (Ga hr.units) (Bx Eh rfl T.Eg Ef (Ad (Ab 3) Ag)) (Ab 1) (nomark _)) (Ao Fv) Bf) (Ao (Av (Ab 3)))))
theorem ZL8(T:Txt K mg):FnO P w K mg base 8 "place_in" ZBw Nh:=by
 refine Bu T.Uh.F ZEm λcdv A outer s H E hr=>?_
 exact(Ak (Bb 2 ZEm.nd (An Am (Ed PySem.F.slot_str_partition PySem.F.type_str_partition Wj (Ab 0) (Ad Bc Ag)) Ae)) (Ak (Bg (Bk (Cm hr.units) (Ab 2) Bc (nomark _)) (Ao (Av (Az (ZMS T) T.Wy hr (Ad (Ab 0) (Ad (Ab 1) Ag))))) Bf) (Ak (Bg (Bk (Cm hr.units) (Ab 2) Bc (nomark _)) (Ao (Av (Az (ZF0 T) T.Qk hr (Ad (Bm (Az (ZBM T) T.Oj hr (Ad (Ab 0) (Ad (Cd (v:=(.int 6)) rfl T.ZAN ⟨_,rfl⟩ (λ_ _=>rfl)) (Ad (Ab 1) Ag))))) (Ad (Ab 1) Ag))))) Bf) (Ak (Bg (Bk (Cm hr.units) (Ab 2) Bc (nomark _)) (Ao (Av (Az (ZF0 T) T.Qk hr (Ad (Bm (Az (ZBM T) T.Oj hr (Ad (Ab 0) (Ad (Cd (v:=(.int 5)) rfl T.ZAu ⟨_,rfl⟩ (λ_ _=>rfl)) (Ad (Ab 1) Ag))))) (Ad (Ab 1) Ag))))) Bf) (Ao Fv)))))
theorem ZKc(T:Txt K mg):FnO P w K mg base 3 "year_in" Yx Tj:=by
 refine Bu T.Wu.F ZF4 λcdv A outer s H E hr=>?_
 exact(Ak (Bb 1 ZF4.nd (Bm (Az (ZBM T) T.Oj hr (Ad (Ab 0) (Ad Ae (Ad Ae Ag)))))) (Ak (Bg (Bk (Ga hr.units) (An Am (Ab 1) Ae) Bc (nomark _)) (Ao Fv) Bf) (Ao (Av (Az (K5 T) T.Ih hr (Ad (An Am (Ab 1) Ae) (Ad Ae Ag)))))))
theorem ZOC(T:Txt K mg):FnO P w K mg base 9 "read_house" Yz Ws:=by
 refine Bu T.T5.F W8 λcdv A outer s H E hr=>?_
 exact(Ak (Bb 1 W8.nd (Bm (Ed PySem.F.slot_str_split PySem.F.type_str_split m_split (Ab 0) (Ad Bc Ag)))) (Ak (Bb 2 W8.nd (Az (ZKc T) T.Wu hr (Ad (An Am (Ab 1) Ae) Ag))) (Ak (Ry (Mq 3 rfl W8.nd (Dn (dn:=(Aw Th).names) (N0:=ZB5) (N:=["number","row"]) (nt:=2) (caps:=[])) (ZK0 rfl T.ZJK (Ad (Bm (Fb (Ab 1) (Eb Ae) Gj)) Ag) Ae) (λC s₀ H₀ ex=>(Gp rfl (Bt (Ba 0 (show(["number","row"]:List Str).Nodup by decide +kernel)) (Bt (Ba 1 (show(["number","row"]:List Str).Nodup by decide +kernel)) G8)))) (Nf (Gi (Cr (by decide)) (Gi (Cr (by decide)) Np))) (λC s₀ H₀ ex=>Dw) (λC s₀ H₀ ex=>(Az (ZL8 T) T.Uh hr (Ad (Ab 1) (Ad (Ab 0) Ag)))))) (Ao (Av (Az (ZLa T) T.Va hr (Ad (Ek (Ad (Ab 2) (Ad (Em Mg rfl T.Gb Gg (Ad (Ab 3) Ag)) Ag))) Ag)))))))
theorem ZLm(T:Txt K mg):FnO P w K mg base 1 "shown_pump" ZBL Ot:=by
 refine Bu T.Xx.F ZK3 λcdv A outer s H E hr=>?_
 exact(Ak (Bg (Bk Qo (Ab 0) J9 (nomark _)) (Ao (Av (Cd (v:=(.str "none")) rfl T.V3 ⟨_,rfl⟩ (λ_ _=>rfl)))) Bf) (Ao (Av (Ed PySem.F.slot_str_join PySem.F.type_str_join Ko Bc (Ad (Bm (Es rfl (Dn (dn:=(Aw Vs).names) (N0:=ZAw) (N:=["part"]) (nt:=1) (caps:=[])) (Df (Ab 0)) (λC s₀ H₀ ex=>(Ba 0 (show(["part"]:List Str).Nodup by decide +kernel))) (Cr (by decide)) (λC s₀ H₀ ex=>Dw) (λC s₀ H₀ ex=>(Em ZEk rfl T.Gn Gf (Ad (Ab 0) Ag))))) Ag)))))
theorem ZOL(T:Txt K mg):FnO P w K mg base 1 "shown_season" ZBV Rz:=by
 refine Bu T.Xp.F ZET λcdv A outer s H E hr=>?_
 exact(Ak (Bg (Bk (Cm hr.units) (Bx Eh rfl T.Eg Ef (Ad (Ab 1) Ag)) Ae (nomark _)) (Ao (Av (Pj (Ds (Hd (Ab 0)) (Ds Bc S9))))) Bf) (Ak (Bb 2 ZET.nd (Ed PySem.F.slot_str_join PySem.F.type_str_join Ko Bc (Ad (Bm (Es rfl (Dn (dn:=(Aw Xh).names) (N0:=ZA6) (N:=["height","many","way"]) (nt:=3) (caps:=[])) (Df (Ab 1)) (λC s₀ H₀ ex=>(Gp rfl (Bt (Ba 0 (show(["height","many","way"]:List Str).Nodup by decide +kernel)) (Bt (Ba 1 (show(["height","many","way"]:List Str).Nodup by decide +kernel)) (Bt (Ba 2 (show(["height","many","way"]:List Str).Nodup by decide +kernel)) G8))))) (Nf (Gi (Cr (by decide)) (Gi (Cr (by decide)) (Gi (Cr (by decide)) Np)))) (λC s₀ H₀ ex=>Dw) (λC s₀ H₀ ex=>(Pj (Ds (Hd (Ab 0)) (Ds Bc (Ds (Hd (Ab 1)) (Ds Bc (Ds (Hd (Ab 2)) S9))))))))) Ag))) (Ao (Av (Pj (Ds (Hd (Ab 0)) (Ds Bc (Ds (Hd (Ab 2)) S9))))))))
theorem ZHr(T:Txt K mg):FnO P w K mg base 2 "shown_rule" ZAY Xm:=by
 refine Bu T.Wz.F ZLb λcdv A outer s H E hr=>?_
 exact(Ao (Av (Ed PySem.F.slot_str_join PySem.F.type_str_join Ko Bc (Ad (Bm (Es rfl (Dn (dn:=(Aw Yo).names) (N0:=ZAE) (N:=["first","stairs"]) (nt:=2) (caps:=[])) (Df (Ab 0)) (λC s₀ H₀ ex=>(Gp rfl (Bt (Ba 0 (show(["first","stairs"]:List Str).Nodup by decide +kernel)) (Bt (Ba 1 (show(["first","stairs"]:List Str).Nodup by decide +kernel)) G8)))) (Nf (Gi (Cr (by decide)) (Gi (Cr (by decide)) Np))) (λC s₀ H₀ ex=>Dw) (λC s₀ H₀ ex=>(Az (ZOL T) T.Xp hr (Ad (Ab 0) (Ad (Ab 1) Ag)))))) Ag))))
theorem ZKP(T:Txt K mg):FnO P w K mg base 3 "shown_place" ZAF Oa:=by
 refine Bu T.V2.F Ja λcdv A outer s H E hr=>?_
 exact(Ak (Bg (Bk (Ga hr.units) (An Am (Ab 0) (Cd (v:=(.int 0)) rfl T.Ny ⟨_,rfl⟩ (λ_ _=>rfl))) Bc (nomark _)) (Ao (Av (Ed PySem.F.slot_str_join PySem.F.type_str_join Ko Bc (Ad (Bm (Es rfl (Dn (dn:=(Aw Tn).names) (N0:=ZAz) (N:=["part"]) (nt:=1) (caps:=[])) (Df (Ab 0)) (λC s₀ H₀ ex=>(Ba 0 (show(["part"]:List Str).Nodup by decide +kernel))) (Cr (by decide)) (λC s₀ H₀ ex=>Dw) (λC s₀ H₀ ex=>(Em ZEk rfl T.Gn Gf (Ad (Ab 0) Ag))))) Ag)))) Bf) (Ak (Ov (Ab 0) (Gp rfl (Bt (Ba 1 Ja.nd) (Bt (Ba 2 Ja.nd) (Bt (Ba 3 Ja.nd) (Bt (Ba 4 Ja.nd) (Bt (Ba 5 Ja.nd) (Bt (Ba 6 Ja.nd) (Bt (Ba 7 Ja.nd) G8))))))))) (Ak (Bb 8 Ja.nd (Az (ZLm T) T.Xx hr (Ad (Ab 7) Ag))) (Ak (Bb 9 Ja.nd (Az (ZHr T) T.Wz hr (Ad (Ab 6) Ag))) (Ao (Av (Pj (Ds (Hd (Ab 1)) (Ds Bc (Ds (Hd (Ab 2)) (Ds Bc (Ds (Hd (Ab 3)) (Ds Bc (Ds (Hd (Ab 4)) (Ds Bc (Ds (Hd (Ab 5)) (Ds Bc (Ds (Hd (Ab 8)) (Ds Bc (Ds (Hd (Ab 9)) S9))))))))))))))))))))
theorem ZGR(T:Txt K mg):FnO P w K mg base 4 "shown_house" Zk S6:=by
 refine Bu T.Sd.F ZG8 λcdv A outer s H E hr=>?_
 exact(Ak (Bb 1 ZG8.nd (An Am (Ab 0) (Cd (v:=(.int 0)) rfl T.Qx ⟨_,rfl⟩ (λ_ _=>rfl)))) (Ao (Av (Ed PySem.F.slot_str_join PySem.F.type_str_join Ko Bc (Ad (Bm (Al Bj (Bm (Fl (Ad (Pj (Ds Bc (Ds (Hd (Ab 1)) S9))) Ag))) (Bm (Es rfl (Dn (dn:=(Aw Yh).names) (N0:=ZAh) (N:=["place"]) (nt:=1) (caps:=[])) (Df (An Am (Ab 0) (Cd (v:=(.int 1)) rfl T.Rm ⟨_,rfl⟩ (λ_ _=>rfl)))) (λC s₀ H₀ ex=>(Ba 0 (show(["place"]:List Str).Nodup by decide +kernel))) (Cr (by decide)) (λC s₀ H₀ ex=>Dw) (λC s₀ H₀ ex=>(Az (ZKP T) T.V2 hr (Ad (Ab 0) Ag))))))) Ag)))))
theorem Zt(T:Txt K mg):FnO P w K mg base 10 "_law_there_and_back" ZBi Nr:=by
 refine Bu T.Oc.F Xk λcdv A outer s H E hr=>?_
 exact(Ak (Bb 1 Xk.nd (Ed PySem.F.slot_str_join PySem.F.type_str_join Ko Bc (Ad (Bm (Az (ZJs T) T.Td hr (Ad (Ab 0) Ag))) Ag))) (Ak (Bb 2 Xk.nd (Az (ZGR T) T.Sd hr (Ad (Ab 0) Ag))) (Ak (Bg (Dj (Ea (Cu (Cw (Bx Gx rfl T.Gu H9 (Ad (Ab 2) (Ad (Gz rfl T.Gn Gf) Ag))))) (Ex (Bk (Ga hr.units) (Ab 2) (Ab 1) (nomark _))))) (Ao (Av Dr)) Bf) (Ak (Bb 3 Xk.nd (Az (ZOC T) T.T5 hr (Ad (Ab 1) Ag))) (Ao (Av (Nu (Az (ZId T) T.Ut hr (Ad (Ab 3) (Ad (Ab 0) Ag))) (Ks (Fj (Cm hr.units) (Az (ZGR T) T.Sd hr (Ad (Ab 3) Ag)) (Ab 1) (nomark _))))))))))
theorem ZI9(T:Txt K mg):FnO P w K mg base 11 "law" ZAW Mm:=by
 refine Bu T.Qn.F ZAj λcdv A outer s H E hr=>?_
 exact(Ak (Bb 1 ZAj.nd (Az (ZES T) T.Py hr (Ad (Ab 0) (Ad Ae Ag)))) (Ak (Bb 2 ZAj.nd (Az (ZES T) T.Py hr (Ad (Ab 0) (Ad Ae Ag)))) (Ak (Bg (Dj (Ea (Cu (Cw (Az (Zt T) T.Oc hr (Ad (Ab 1) Ag)))) (Ex (Cu (Cw (Az (Zt T) T.Oc hr (Ad (Ab 2) Ag))))))) (Ao (Av Dr)) Bf) (Ao (Av (Az (Zt T) T.Oc hr (Ad (Ab 1) Ag)))))))
end
theorem all_mk{l:PySem.W.OpenLaw}{w:jL}{K:PySem.W.Frag}{h:Heap}{mg:Str->Option jI}{fa:j9}(X:K.In h)(G:h.Ns xj mg)(hfa:mg "law"=xU (.ref fa))(S:AllSaid K asks):
  ∃fd:jC,(∀(s:jG)(v:jI),BindsTo s fd ⟨[v],[]⟩ [("_law_script",v)])/\∀base:Heap,K.In base->base.Ns xj mg->FnOk l.prog w K mg base CX0 11 fa fd ["_law_script"] (lF K Mm):=by
 obtain⟨Mp,Y0,Qh,W6,Tv,Ke,Xf,Vj,Vp,W0,Py,Jp,Ss,V4,Ut,Wh,Yc,Td,Up,Yl,Yp,Wm,Vv,Tg,Ye,Uw,Wv,Va,U7,Ih,Ku,Vr,V5,Xl,W2,Ua,Wy,Qk,Oj,Uh,Wu,T5,Xx,Xp,Wz,V2,Sd,Oc,Qn,ZOy,ZOz,ZO0,ZO1,ZO2,ZO3,ZO4,ZO5,ZO6,ZO7,ZO8,ZO9,Uc,Xg,Zb,Wx,ZBZ,Ny,Vq,ZAu,ZBK,ZCZ,Nb,Zg,V3,Rm,N5,ZBk,Vt,ZCW,ZAn,ZA8,Xi,ZAN,Qx,ZBX,_⟩:=S
 have T:Txt K mg:=⟨Bv X G Mp (λ_ _ _ _ _ _ us hl=>match us,hl with |[_,_],_=>rfl),
  Bv X G Y0 (λ_ _ _ _ _ _ us hl=>match us,hl with |[_],_=>rfl),
  Bv X G Qh (λ_ _ _ _ _ _ us hl=>match us,hl with |[_,_,_],_=>rfl),
  Bv X G W6 (λ_ _ _ _ _ _ us hl=>match us,hl with |[_],_=>rfl),
  Bv X G Tv (λ_ _ _ _ _ _ us hl=>match us,hl with |[_],_=>rfl),
  Bv X G Ke (λ_ _ _ _ _ _ us hl=>match us,hl with |[_,_],_=>rfl),
  Bv X G Xf (λ_ _ _ _ _ _ us hl=>match us,hl with |[_],_=>rfl),
  Bv X G Vj (λ_ _ _ _ _ _ us hl=>match us,hl with |[_,_,_],_=>rfl),
  Bv X G Vp (λ_ _ _ _ _ _ us hl=>match us,hl with |[_,_,_,_],_=>rfl),
  Bv X G W0 (λ_ _ _ _ _ _ us hl=>match us,hl with |[_,_,_,_,_],_=>rfl),
  Bv X G Py (λ_ _ _ _ _ _ us hl=>match us,hl with |[_,_],_=>rfl),
  Bv X G Jp (λ_ _ _ _ _ _ us hl=>match us,hl with |[_],_=>rfl),
  Bv X G Ss (λ_ _ _ _ _ _ us hl=>match us,hl with |[_,_],_=>rfl),
  Bv X G V4 (λ_ _ _ _ _ _ us hl=>match us,hl with |[_,_],_=>rfl),
  Bv X G Ut (λ_ _ _ _ _ _ us hl=>match us,hl with |[_,_],_=>rfl),
  Bv X G Wh (λ_ _ _ _ _ _ us hl=>match us,hl with |[_],_=>rfl),
  Bv X G Yc (λ_ _ _ _ _ _ us hl=>match us,hl with |[_],_=>rfl),
  Bv X G Td (λ_ _ _ _ _ _ us hl=>match us,hl with |[_],_=>rfl),
  Bv X G Up (λ_ _ _ _ _ _ us hl=>match us,hl with |[_],_=>rfl),
  Bv X G Yl (λ_ _ _ _ _ _ us hl=>match us,hl with |[_,_],_=>rfl),
  Bv X G Yp (λ_ _ _ _ _ _ us hl=>match us,hl with |[_,_],_=>rfl),
  Bv X G Wm (λ_ _ _ _ _ _ us hl=>match us,hl with |[_,_],_=>rfl),
  Bv X G Vv (λ_ _ _ _ _ _ us hl=>match us,hl with |[_],_=>rfl),
  Bv X G Tg (λ_ _ _ _ _ _ us hl=>match us,hl with |[_,_],_=>rfl),
  Bv X G Ye (λ_ _ _ _ _ _ us hl=>match us,hl with |[_,_,_],_=>rfl),
  Bv X G Uw (λ_ _ _ _ _ _ us hl=>match us,hl with |[_],_=>rfl),
  Bv X G Wv (λ_ _ _ _ _ _ us hl=>match us,hl with |[_,_],_=>rfl),
  Bv X G Va (λ_ _ _ _ _ _ us hl=>match us,hl with |[_],_=>rfl),
  Bv X G U7 (λ_ _ _ _ _ _ us hl=>match us,hl with |[_],_=>rfl),
  Bv X G Ih (λ_ _ _ _ _ _ us hl=>match us,hl with |[_,_],_=>rfl),
  Bv X G Ku (λ_ _ _ _ _ _ us hl=>match us,hl with |[_,_],_=>rfl),
  Bv X G Vr (λ_ _ _ _ _ _ us hl=>match us,hl with |[_,_],_=>rfl),
  Bv X G V5 (λ_ _ _ _ _ _ us hl=>match us,hl with |[_,_],_=>rfl),
  Bv X G Xl (λ_ _ _ _ _ _ us hl=>match us,hl with |[_,_],_=>rfl),
  Bv X G W2 (λ_ _ _ _ _ _ us hl=>match us,hl with |[_,_],_=>rfl),
  Bv X G Ua (λ_ _ _ _ _ _ us hl=>match us,hl with |[_,_],_=>rfl),
  Bv X G Wy (λ_ _ _ _ _ _ us hl=>match us,hl with |[_,_],_=>rfl),
  Bv X G Qk (λ_ _ _ _ _ _ us hl=>match us,hl with |[_,_],_=>rfl),
  Bv X G Oj (λ_ _ _ _ _ _ us hl=>match us,hl with |[_,_,_],_=>rfl),
  Bv X G Uh (λ_ _ _ _ _ _ us hl=>match us,hl with |[_,_],_=>rfl),
  Bv X G Wu (λ_ _ _ _ _ _ us hl=>match us,hl with |[_],_=>rfl),
  Bv X G T5 (λ_ _ _ _ _ _ us hl=>match us,hl with |[_],_=>rfl),
  Bv X G Xx (λ_ _ _ _ _ _ us hl=>match us,hl with |[_],_=>rfl),
  Bv X G Xp (λ_ _ _ _ _ _ us hl=>match us,hl with |[_,_],_=>rfl),
  Bv X G Wz (λ_ _ _ _ _ _ us hl=>match us,hl with |[_],_=>rfl),
  Bv X G V2 (λ_ _ _ _ _ _ us hl=>match us,hl with |[_],_=>rfl),
  Bv X G Sd (λ_ _ _ _ _ _ us hl=>match us,hl with |[_],_=>rfl),
  Bv X G Oc (λ_ _ _ _ _ _ us hl=>match us,hl with |[_],_=>rfl),
  Bv X G Qn (λ_ _ _ _ _ _ us hl=>match us,hl with |[_],_=>rfl),
  PySem.W.mg_none_of X G ZOy,
  PySem.W.mg_none_of X G ZOz,
  PySem.W.mg_none_of X G ZO0,
  PySem.W.mg_none_of X G ZO1,
  PySem.W.mg_none_of X G ZO2,
  PySem.W.mg_none_of X G ZO3,
  PySem.W.mg_none_of X G ZO4,
  PySem.W.mg_none_of X G ZO5,
  PySem.W.mg_none_of X G ZO6,
  PySem.W.mg_none_of X G ZO7,
  PySem.W.mg_none_of X G ZO8,
  PySem.W.mg_none_of X G ZO9,
  PySem.W.mg_of X G Uc,
  PySem.W.mg_of X G Xg,
  PySem.W.mg_of X G Zb,
  PySem.W.mg_of X G Wx,
  PySem.W.mg_of X G ZBZ,
  PySem.W.mg_of X G Ny,
  PySem.W.mg_of X G Vq,
  PySem.W.mg_of X G ZAu,
  PySem.W.mg_of X G ZBK,
  PySem.W.mg_of X G ZCZ,
  PySem.W.mg_of X G Nb,
  PySem.W.mg_of X G Zg,
  PySem.W.mg_of X G V3,
  PySem.W.mg_of X G Rm,
  PySem.W.mg_of X G N5,
  PySem.W.mg_of X G ZBk,
  PySem.W.mg_of X G Vt,
  PySem.W.mg_of X G ZCW,
  PySem.W.mg_of X G ZAn,
  PySem.W.mg_of X G ZA8,
  PySem.W.mg_of X G Xi,
  PySem.W.mg_of X G ZAN,
  PySem.W.mg_of X G Qx,
  ZI8 X G ZBX⟩
 have eL:mg "law"=xU (.ref (Ck K "law")):=PySem.W.mg_of X G Qn.1;obtain rfl:fa=Ck K "law":=by rw[hfa]at eL;cases eL;rfl
 exact⟨_,λs v=>ZNl (Z9 Qn.2),λbase _ _=>ZI9 T⟩
theorem walk{l:PySem.W.OpenLaw}{q:jE}{loose:List Str}{XP:(Str->Option jI)->Heap->Prop}{YP:jL->Heap->Prop}{d:DefRec}{K:jL->PySem.W.Frag}(hn:l.most=xU 63)(hdf:d.params.defaults=[])(HH:Holds)
  (hY:∀(w:jL)(h:Heap),YP w h->(K w).In h)
  (F:∀(w:jL)(mg:Str->Option jI)(fa:j9)(h:Heap),(K w).In h->h.Ns xj mg->mg d.name=xU (.ref fa)->
   ∃fd:jC,(∀(s:jG)(u:jI),BindsTo s fd ⟨[u],[]⟩ [("_law_script",u)])/\∀base:Heap,(K w).In base->base.Ns xj mg->FnOk l.prog w (K w) mg base CX0 11 fa fd ["_law_script"] (lF (K w) Mm)):
  PySem.W.WalkO q loose XP YP l.row.toRowW d [] (λf vs=>PySem.call f vs):=
 ZIz (n:=63) (k:=11) (x:="_law_script") (CX:=λ_=>CX0) (sp:=λw=>lF (K w) Mm) hn (by decide) hdf ⟨rfl,by decide,by decide⟩ hY F
  (λw H a ns hl hbt hO hS=>by
   obtain⟨G,hG⟩:=HH ns hl hbt;refine⟨⟨K w,0,λ_=>0,H⟩,[],[.fl (ns.map D.int)],rfl,rfl,⟨rfl,λi j h=>absurd h (Nat.not_lt_zero _),λi o h=>by simp at h,λi h=>absurd h (Nat.not_lt_zero _)⟩,Reps.cons ⟨a,ns.map V.int,rfl,?_,Reps.ints ns⟩ Reps.nil,?_⟩
   ·rcases hS with(hS|hS)|hS
    ·rcases hO a with z|⟨o,xs,z⟩
     ·rw[z]at hS;cases hS
     ·rw[z]at hS;cases hS
    ·exact .inl hS
    ·exact .inr hS
   ·rw[hG];exact λb v _ _ r=>r) λ_ _ _ _ _ z=>z
end _W
set_option maxRecDepth 100000
namespace _W
open PySem PySem.W _L _D
theorem ZG2:∀w,(openEnds xA pw w 100000).map (λs=>(openSeen vw [] (xZ pw.main.body) (XtOf rw_ vw) vZ s,ZA2 asks s.heap))=xU (openGood vw [],ZBj asks):=ZIA (by kernel_rfl) (λs=>rfl) ZJR
theorem well:rw_.wellSaid=vZ:=ZMa (by kernel_rfl)
theorem hdef:defOf vw rw_.row.name=xU (dOf Ii,[]):=by kernel_rfl
theorem hp:rw_.row.prog.theDef rw_.row.name=xU ((dOf Ii).params,(dOf Ii).body,(dOf Ii).scope):=by kernel_rfl
theorem hk:kwWritten? (dOf Ii).params.kwonlyargs (dOf Ii).params.kw_defaults=xU []:=by kernel_rfl
theorem hok:(chainsOk vw&&opensWell rw_.row.prog&&(frees rw_.row.toRowW&&rw_.row.within.isEmpty))=vZ:=by kernel_rfl
theorem hdf:(dOf Ii).params.defaults=[]:=by kernel_rfl
theorem hbare:rw_.row.prog.bare:=⟨rfl,rfl,rfl,rfl,rfl,by decide +kernel⟩
theorem hw:rw_.row.toRowW.promised:=by w_witness2
theorem walked:WalkO vw [] (XL vw []) (Stays rw_.prog 100000) rw_.row.toRowW (dOf Ii) [] λf vs=>PySem.call f vs:=
 walk (l:=rw_) (K:=λw=>Ph (Kf pw 100000 w)) rfl hdf holds (λw h Y=>Y.in) λw mg fa h KX G hmg=>all_mk KX G (show mg "law"=_ from hmg) (ZDc (ZOS ZG2 w))
end _W
open PySem PySem.W PyProof.Rows _D
theorem PySem.Challenge.cw_sluiceway_k15_whole_houses_written_holds : PySem.Challenge.rw_sluiceway_k15_whole_houses_written.Holds := by
 refine holds_top (l:=_W.rw_) (q:=_W.vw) (loose:=[]) (N:=100000) (see:=ZA2 _W.asks) (val:=ZBj _W.asks) (d:=dOf _W.Ii) ?_ ?_ ?_ ?_ ?_ ?_ ?_ ?_ ?_ ?_
 ·exact _W.well
 ·exact _W.ZG2
 ·exact _W.hdef
 ·exact _W.hp
 ·exact _W.hk
 ·rfl
 ·exact _W.hok
 ·exact _W.hbare
 ·exact _W.hw
 ·exact _W.walked
