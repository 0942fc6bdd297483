import PyProof.Rows.All
import Wide.All
import OpenK.AllK
import Wide.FinOn
import Lean
import PyProof.EqAt
import PyProof.EqKinds
import PyProof.TupleCall
import PyProof.NeKinds
import PyProof.IsInstanceH
import PyProof.SumWalkG
import PyProof.ConsumeWalk
import PyProof.IsiNone
import PyProof.WalksMore
import PyProof.PlainList
import PyProof.CompFree
import KE.KIntText
import PyProof.DictTable
import PyProof.ExcInit
import PyProof.ExcClass2
import PyProof.ExcBaseAll.ValueError
import OpenK.KOwn
import PyProof.RulesAs
import PyProof.NsDelKeeps
import OpenK.KMore
import PyProof.TupleOps
import PyProof.FactsAll.tuple_2
import PySem.Challenge.RW_sluiceway_k03_one_thing_amiss
set_option compiler.extract_closed false
set_option bootstrap.genMatcherCode false
set_option genSizeOf false
set_option Elab.async false
set_option linter.all false
set_option maxRecDepth 100000
open Option renaming some→vQ,none→vZ
open Bool renaming true→vJ,false→vX
open List renaming getElem?_eq_getElem→zQ,getElem?_eq_some_iff→zJ,length_map→zV,size_toArray→zK,replicate→zY,mem_cons_of_mem→zq,mem_cons→zz,getElem?_map→zv,map_cons→zk,range→zy,mem_map→z8,mem_append_right→z9,getD_eq_getElem?_getD→zA,mem_cons_self→zD,getElem?_append_right→zE,mem_append→zF,all_eq_true→zH,filterMap_cons→zO,getElem?_eq_none→zS,append_nil→zU,getElem?_append_left→qQ,drop_eq_getElem_cons→qZ,mem_of_getElem?→qJ,mem_of_mem_take→qX,getElem?_take_of_lt→qK,append_assoc→qY,range'→qz,length_append→qj,replicate_succ→qw,getElem?_set→qk,map_map→qy,eq_nil_of_length_eq_zero→q9,mem_singleton→qA,length_take→qB,length_drop→qC,mem_range→qD,getElem_of_mem→qE,map_append→qF,length_cons→qG,getElem_mem→qH,getElem?_set_ne→qI,mem_of_mem_drop→qL,getElem?_replicate→qM,drop_of_length_le→qN,lookup_cons→qO,length_replicate→qP,map_nil→qT,length_set→qU,nil_append→jQ,set→jZ,filterMap_map→jJ,all_cons→jX,foldl_cons→jV,map_take→jW,take_append_drop→jY,mem_append_left→jq,take_length→jz,map_congr_left→jx,map_drop→jv,mem_filter→jk,nodup_cons→jy,getElem?_set_self→j0,range_succ_eq_map→j1,lookup→j2,length_filter_le→j3,filter_cons→j4,not_mem_nil→j5,eq_nil_or_concat→j6,concat_eq_append→j7
open Nat renaming lt_of_lt_of_le→zW,le_refl→zx,le_trans→zC,ne_of_lt→zM,lt_irrefl→zR,lt_succ_self→qx,le_of_ble_eq_true→qR,le_succ→jK
open Int renaming emod_nonneg→zI,emod_lt_of_pos→zL,le_refl→jB
open Option renaming map_eq_some_iff→z0,map_some→j9
open Bool renaming and_eq_true→zZ,false_ne_true→zw,and_eq_true_iff→zP,not_eq_true→qW,and_eq_false_iff→qS
open Array renaming getElem?_eq_some_iff→zT,length_toList→jj
open PySem.Heap renaming get?_push_of_some→zX,lt_size→zj,get?_push_size→zG,get?_update_other→qV,get?_update_self→q8,get?_none_of_le→j8,size_push→jA
open PySem renaming Addr→jC,Around→jD,Expr→jE,FuncData→jF,NameKind→jG,Program→jH,Scope→jI,Shared→jL,Stmt→jM,Value→jN,World→jO,assignEach→jP,attributeBase→jR,backTo→jS,behindInMarks→jT,binaryOp→jU,bootBuiltins→xQ,call_isinstance→xZ,codeAny_mono→xJ,compareOp→xX,importedModules→xV,isSubtype→xW,isinstance_false_int→xK,isinstance_false_list→xY,isinstance_false_none→xq,isinstance_false_str→xz,isinstance_false_tuple→xj,letOwnedTupleGo→xk,mainGlobals→xy,model→x9,rawInt→xA,sizeLine_eq→xB,sliceBounds→xC,starEach→xD,treeTable→xE,wpAny→xF,wpAny_Call_Name_kw→xG,wpAny_bind→xH,wpAny_field→xI,wpAny_holding→xL,wpAny_mono→xM,wpAny_newObj_type→xN,wpAny_passesOwn→xO,wpAny_pure→xP,wpAny_truthy_bool→xR
open PySem.W renaming Frag→xS,boot_heap→xT
set_option maxHeartbeats 0
noncomputable section
namespace _L
open PySem PySem.Spec PyProof.Rows
noncomputable def Hy(s:jM):Arguments:=match s with
 |.FunctionDef _ a _ _ _ _ _ _ _ _=>a
 |_=>{posonlyargs:=[],args:=[],vararg:=vZ,kwonlyargs:=[],kw_defaults:=[],kwarg:=vZ,defaults:=[]}
noncomputable def Ep(s:jM):List jM:=match s with
 |.FunctionDef _ _ b _ _ _ _ _ _ _=>b
 |_=>[]
noncomputable def Bd(s:jM):jI:=match s with
 |.FunctionDef _ _ _ _ _ _ sc _ _ _=>sc
 |_=>{kind:=.function,names:=[],isGenerator:=vX,isCoroutine:=vX}
end _L
namespace _D
open PySem PySem.W _L
variable{h:Heap}{C:jC}{m x q:Str}{st:jM}{mg:Str->Option jN}
noncomputable def M7:List Obj->Nat->xS
 |[],_=>[]
 |o::r,n=>match o.cls,o.data with
  |.none,.fields _=>M7 r (n+1)
  |_,.freed=>M7 r (n+1)
  |_,_=>(n,o)::M7 r (n+1)
def Qz(h:Heap):xS:=M7 h.objs.toList 0
noncomputable abbrev XtOf(l:OpenLaw)(q:jH)(s:jL):Bool:=xlAt q [] s&&recOk l.row.toRowW.records s
noncomputable def Ab(K:xS)(n:Str):jC:=match nsIn K xy n with
 |some (vQ (.ref f))=>f
 |_=>0
noncomputable def gOk(K:xS)(n:Str):Bool:=match nsIn K xy n with
 |some (vQ (.ref _))=>vJ
 |_=>vX
noncomputable def Cz(K:xS)(C:jC)(m:Str):jC:=match findIn K (.ref C) m with
 |some (vQ (.ref f))=>f
 |_=>0
noncomputable def mOk(K:xS)(C:jC)(m:Str):Bool:=match findIn K (.ref C) m with
 |some (vQ (.ref f))=>isFn K (.ref f)
 |_=>vX
noncomputable def noF(K:xS)(C:jC)(m:Str):Bool:=match findIn K (.ref C) m with
 |some vZ=>vJ
 |_=>vX
noncomputable def zOk(K:xS)(n:Str):Bool:=match nsIn K xy n with
 |some vZ=>vJ
 |_=>vX
noncomputable def T8(K:xS)(C:jC):Bool:=match findIn K (.ref C) "__setattr__" with
 |some (vQ (.builtin s))=>s == "object.__setattr__"
 |_=>vX
noncomputable def iOk(K:xS)(n:Str)(v:Int):Bool:=match nsIn K xy n with
 |some (vQ (.int u _))=>decide (u=v)
 |_=>vX
noncomputable def sOk(K:xS)(n:Str)(v:Str):Bool:=match nsIn K xy n with
 |some (vQ (.str u _))=>decide (u=v)
 |_=>vX
noncomputable def Ht(K:xS)(f:jC):Obj:=match K.lookup f with
 |some o=>o
 |none=>⟨.none,vZ,.plain,#[]⟩
def Bv(K:xS)(f:jC):jF:=match(Ht K f).data with
 |.func fd=>fd
 |_=>default
noncomputable def ZII:jN->Bool
 |.none=>vJ
 |_=>vX
noncomputable def ZNX:FuncBody->Option (List jM)
 |.stmts b=>vQ b
 |_=>vZ
def V2(K:xS)(x q:Str)(f:jC):Bool:=match K.lookup f with
 |some ⟨_,_,.func fd,_⟩=>decide (fd.name=x)&&decide (fd.qualname=q)&&(fd.globals==xy&&fd.builtins==builtinsNs&&fd.closure.isEmpty&&ZII fd.defaults)&&(codeIn K fd.code q&&keepIn K (.ref f))
 |_=>vX
noncomputable abbrev DefTxt:=Arguments×Option (List jM)×jI
def My(K:xS)(f:jC):DefTxt:=((Bv K f).params,ZNX (Bv K f).body,(Bv K f).scope)
def Mf(st:jM):DefTxt:=(Hy st,vQ (Ep st),Bd st)
noncomputable def dfl(K:xS)(d:jN)(v:Int):Bool:=match d with
 | .ref T=>match K.lookup T with
  | some o=>(match o.data with
   |.seq a _=>(match a.toList with
    |[.int i _]=>decide (i=v)
    |_=>vX)
   |_=>vX)
  |none=>vX
 |_=>vX
def ZAM(K:xS)(x q:Str)(f:jC)(v:Int):Bool:=match K.lookup f with
 |some ⟨_,_,.func fd,_⟩=>decide (fd.name=x)&&decide (fd.qualname=q)&&(fd.globals==xy&&fd.builtins==builtinsNs&&fd.closure.isEmpty&&dfl K fd.defaults v)&&(codeIn K fd.code q&&keepIn K (.ref f))
 |_=>vX
noncomputable def strsOf:List jN->Option (List Str)
 |[]=>vQ []
 |.str s _::r=>(strsOf r).map (s::·)
 |_::_=>vZ
def ZCb(K:xS)(n:Str)(vs:List Str):Bool:=match nsIn K xy n with
 | some (vQ (.ref p))=>(match K.lookup p with
   |some ⟨.type t,_,.seq its _,_⟩=>t == "tuple"&&decide (strsOf its.toList=vQ vs)&&Nat.ble its.toList.length 1000
   |_=>vX)
 |_=>vX
def ZAa(K:xS)(n:Str)(kvs:List (Str×Str)):Bool:=match nsIn K xy n with
 | some (vQ (.ref p))=>(match K.lookup p with
   |some ⟨.type t,_,.dict es _,_⟩=>t == "dict" && !(p==sysModules)&&decide (strsOf (es.toList.map (·.key))=vQ (kvs.map (·.1)))&&decide (strsOf (es.toList.map (·.val))=vQ (kvs.map (·.2)))
   |_=>vX)
 |_=>vX
inductive Ask where
 |fn (n:Str) (st:jM)
 |mt (c m q:Str) (st:jM)
 |cl (c:Str)
 |no (c x:Str)
 |z (n:Str)
 |gi (n:Str) (v:Int)
 |gs (n v:Str)
 |gt (n:Str) (vs:List Str)
 |gd (n:Str) (kvs:List (Str×Str))
 |ck (φ:xS->Bool)
 |fd (n:Str) (st:jM) (v:Int)
def Ask.chk(K:xS):Ask->Bool
 |.fn n _=>gOk K n&&V2 K n n (Ab K n)
 |.mt c m q _=>mOk K (Ab K c) m&&V2 K m q (Cz K (Ab K c) m)
 |.cl c=>gOk K c&&(plainGet K (Ab K c) Str.empty&&hasDictIn K (Ab K c)&&plainOver K (Ab K c))&&(T8 K (Ab K c)&&makesIn K (Ab K c)&&keepIn K (.ref (Ab K c)))
 |.no c x=>noF K (Ab K c) x
 |.z n=>zOk K n
 |.gi n v=>iOk K n v
 |.gs n v=>sOk K n v
 |.gt n vs=>ZCb K n vs
 |.gd n kvs=>ZAa K n kvs
 |.ck φ=>φ K
 |.fd n _ v=>gOk K n&&ZAM K n n (Ab K n) v
def Ask.txt(K:xS):Ask->Option DefTxt
 |.fn n _=>vQ (My K (Ab K n))
 |.mt c m _ _=>vQ (My K (Cz K (Ab K c) m))
 |.fd n _ _=>vQ (My K (Ab K n))
 |_=>vZ
def Ask.want:Ask->Option DefTxt
 |.fn _ st=>vQ (Mf st)
 |.mt _ _ _ st=>vQ (Mf st)
 |.fd _ st _=>vQ (Mf st)
 |_=>vZ
def ZB9(l:List Ask)(h:Heap):Bool×List (Option DefTxt):=(l.all (Ask.chk (Qz h)),l.map (Ask.txt (Qz h)))
noncomputable abbrev ZBt(l:List Ask):Bool×List (Option DefTxt):=(vJ,l.map Ask.want)
noncomputable def Y5(p:jH)(w:jO)(n₀:Nat)(ann:Option jN):Nat->SharedT->Thread->Option SharedT
 |0,_,_=>vZ
 | n+1,s,t=>match through t with
  |true=>vQ s
  | false=>match PySem.W.Fast.tw6613529449190102663 n₀ ann t with
   |false=>vZ
   |true=>match PySem.W.Fast.tw10156331382660048174 (PySem.W.Fast.tw11892475500146522536 PySem.W.Fast.tw14364793385576792824) p w s t with
    |some (s',t')=>Y5 p w n₀ ann n s' t'
    |none=>vZ
noncomputable def ZHd:List Obj->Nat->BT->BT
 |[],_,t=>t
 |o::r,n,t=>ZHd r (n+1) (t.ins n o)
def ZEU(w:jO)(os:OsState):SharedT:=⟨ZHd (xT w.params).objs.toList 0 .nil,(xT w.params).objs.size,(xT w.params).life,Array.mk [],boot_drawn,boot_toks,os⟩
def ZDq(p:jH)(w:jO)(os:OsState):Option SharedT:=Y5 p w (xT w.params).objs.size (PySem.W.Fast.tw8920871248978507458 (xT w.params) xy "__annotations__") 100000 (ZEU w os) (topStub p)
noncomputable def ZAW(p:jH)(w:jO)(s:jL):Bool:=staticsOk (PySem.W.Fast.tw5923862056798008813 p.main.body) (xT w.params) s.heap&&namesBound p s.heap&&gensDone s&&laidKept (xT w.params) s.heap
noncomputable abbrev vmro:List jN:=[.type "ValueError",.type "Exception",.type "BaseException",.type "object"]
def Ge(K:PySem.W.Frag)(C:jC):Bool:=match K.lookup C with
 |some ⟨.type "type",_,.cls cd,sl⟩=>(match cd.mro,sl.toList with
  |.ref C'::bm,[_,_,_,_,vQ (.builtin n),_]=>C'==C&&n == "ValueError.__new__" && !cd.hasDel&&cd.hasDict&&PySem.W.tailIn K vmro bm&&PySem.W.nsOkIn K cd.ns
  |_,_=>vX)
 |_=>vX
noncomputable def Mu(K:PySem.W.Frag)(C f:jC):Bool:=match K.lookup C with
 |some ⟨_,_,.cls cd,_⟩=>PySem.W.nsIn K cd.ns "__init__"==vQ (vQ (.ref f))
 |_=>vX
noncomputable def Ov:List jN->Bool
 |[.type a,.type b,.type c,.type d]=>a == "ValueError"&&b == "Exception"&&c == "BaseException"&&d == "object"
 |.ref _::r=>Ov r
 |_=>vX
def Ww(K:PySem.W.Frag)(C:jC):Bool:=(PySem.W.clsIn K C).any λcd=>Ov cd.mro
noncomputable def isB(r:Option (Option jN))(n:String):Bool:=match r with
 |some (vQ (.builtin m))=>m==n
 |_=>vX
noncomputable def Aj(r:Option Bool)(b:Bool):Bool:=match r with
 |some c=>c==b
 |_=>vX
noncomputable def Nq{α:Type}(r:Option (Option α)):Bool:=match r with
 |some vZ=>vJ
 |_=>vX
noncomputable def ZAs(K:xS)(a:jC):Bool:=match K.lookup a with
 |some ⟨.type t,_,_,_⟩=>t == "function"
 |_=>vX
def M3(c f:Str)(K:xS):Bool:=gOk K c&&keepIn K (.ref (Ab K c))&&(Ge K (Ab K c)&&T8 K (Ab K c)&&Ww K (Ab K c)&&Nq (takerIn K (Ab K c) f)&&hasDictIn K (Ab K c))&&Mu K (Ab K c) (Cz K (Ab K c) "__init__")&&ZAs K (Cz K (Ab K c) "__init__") &&
 (isB (findIn K (.ref (Ab K c)) "__getattribute__") "BaseException.__getattribute__"&&Nq (findIn K (.ref (Ab K c)) "__getattr__")&&Aj (subIn K (.ref (Ab K c)) (.type "BaseException")) vJ&&isB (findIn K (.ref (Ab K c)) "__class__") "object.__class__" &&
  isB (specialIn K (.builtin "object.__class__") "__get__") "getset_descriptor.__get__"&&Aj (takesIn K (.builtin "object.__class__")) vJ&&Aj (mroIn K (Ab K c) (.type "object")) vJ&&Aj (kitCls K (.ref (Ab K c)) (.ref (Ab K c))) vJ)&&noF K (Ab K c) f
noncomputable def ZCa(r:Option CFound)(n:String):Bool:=match r with
 |some (.val (.builtin m))=>m==n
 |_=>vX
def ZCO(x:Str)(K:xS):Bool:=gOk K x&&isB (specialIn K (.ref (Ab K x)) "__getattribute__") "type.__getattribute__"&&readsIn K (Ab K x) (.type "type")&&ZCa (findCls K (.ref (Ab K x)) (.type "type") "__init__") "ValueError.__init__"
def En(K:PySem.W.Frag)(C W:jC)(b:Bool):Bool:=Ge K C&&Ge K W&&match K.lookup C with
 |some ⟨_,_,.cls cd,_⟩=>cd.mro.contains (.ref W)==b
 |_=>vX
def U3(K:xS)(C:jC):Bool:=match K.lookup C with
 |some ⟨_,_,.cls cd,_⟩=>Nq (nsIn K cd.ns "__init__")
 |_=>vX
def et0Ok(c:Str)(K:xS):Bool:=gOk K c&&keepIn K (.ref (Ab K c))&&(Ge K (Ab K c)&&hasDictIn K (Ab K c))&&U3 K (Ab K c) &&
 (isB (findIn K (.ref (Ab K c)) "__getattribute__") "BaseException.__getattribute__"&&Nq (findIn K (.ref (Ab K c)) "__getattr__")&&Aj (subIn K (.ref (Ab K c)) (.type "BaseException")) vJ&&isB (findIn K (.ref (Ab K c)) "__class__") "object.__class__" &&
  isB (specialIn K (.builtin "object.__class__") "__get__") "getset_descriptor.__get__"&&Aj (takesIn K (.builtin "object.__class__")) vJ&&Aj (mroIn K (Ab K c) (.type "object")) vJ&&Aj (kitCls K (.ref (Ab K c)) (.ref (Ab K c))) vJ)
end _D
namespace _W
open PySem PySem.W _L _D
noncomputable def top(i:Nat):jM:=PySem.Challenge.pw_sluiceway_k03_one_thing_amiss.main.body.getD i (.Pass ⟨0,0,0,0⟩)
noncomputable def inC(s:jM)(j:Nat):jM:=match s with
 |.ClassDef _ _ _ body _ _ _ _ _ _ _=>body.getD j (.Pass ⟨0,0,0,0⟩)
 |_=>.Pass ⟨0,0,0,0⟩
noncomputable abbrev ZAm:jM:=inC (top 3) 0
noncomputable abbrev Yr:jM:=inC (top 5) 0
noncomputable abbrev ZAh:jM:=inC (top 6) 0
noncomputable abbrev Yu:jM:=inC (top 4) 0
noncomputable abbrev ZDT:jM:=inC (top 7) 0
noncomputable abbrev ZCg:jM:=top 44
noncomputable abbrev Qe:jM:=top 47
noncomputable abbrev ZBG:jM:=top 46
noncomputable abbrev Mj:jM:=top 48
noncomputable abbrev ZA8:jM:=top 52
noncomputable abbrev ZDe:jM:=top 49
noncomputable abbrev Sx:jM:=top 53
noncomputable abbrev Zn:jM:=top 50
noncomputable abbrev ZBC:jM:=top 51
noncomputable abbrev ZBK:jM:=top 54
noncomputable abbrev Xo:jM:=top 55
noncomputable abbrev ZBL:jM:=top 61
noncomputable abbrev ZC2:jM:=top 45
noncomputable abbrev Wm:jM:=top 33
noncomputable abbrev ZB5:jM:=top 38
noncomputable abbrev ZCY:jM:=top 36
noncomputable abbrev ZAe:jM:=top 40
noncomputable abbrev ZCU:jM:=top 41
noncomputable abbrev Wn:jM:=top 42
noncomputable abbrev ZBk:jM:=top 39
noncomputable abbrev ZAQ:jM:=top 37
noncomputable abbrev Rv:jM:=top 35
noncomputable abbrev ZC3:jM:=top 34
noncomputable abbrev Wb:jM:=top 63
noncomputable abbrev ZBh:jM:=top 58
noncomputable abbrev ZBM:jM:=top 56
noncomputable abbrev Vf:jM:=top 59
noncomputable abbrev ZDD:jM:=top 60
noncomputable abbrev ZCz:jM:=top 57
noncomputable abbrev ZDn:jM:=top 62
noncomputable abbrev Hi:jM:=top 64
def asks:List Ask:=[.fn "_law_cell_at" ZCg,.fn "_law_free_names" Qe,.fn "_law_stream" ZBG,.fn "_law_names" Mj,.fn "_law_more" ZA8,.fn "_law_number" ZDe,.fn "_law_pumped" Sx,.fn "_law_stairs" Zn,.fn "_law_rule" ZBC,.fn "_law_place" ZBK,.fn "_law_house" Xo,.fn "_law_rank" ZBL,.fn "_law_whole" ZC2,.fn "is_name" Wm,.fn "is_pump_good" ZB5,.fn "is_river_good" ZCY,.fn "are_seasons_good" ZAe,.fn "are_steps_good" ZCU,.fn "can_pump" Wn,.fn "is_rule_good" ZBk,.fn "numbers_in" ZAQ,.fn "check_place" Rv,.fn "checked" ZC3,.fn "_law_refused" Wb,.fn "_law_no_name" ZBh,.fn "_law_put" ZBM,.fn "_law_rule_spoilt" Vf,.fn "_law_place_spoilt" ZDD,.fn "_law_renamed" ZCz,.fn "_law_spoilt" ZDn,.fn "law" Hi,.z "ValueError",.z "all",.z "bool",.z "int",.z "isinstance",.z "len",.z "max",.z "min",.z "range",.z "sum",.z "tuple",.gi "BRIM" 4,.gi "DELAY" 3,.gi "DOWN" 2,.gi "KIND" 0,.gs "LETTERS" "abcdefghijklmnopqrstuvwxyz",.gi "MOST" 4,.gi "NAME" 1,.gi "NEED" 4,.gi "PLACES" 1,.gi "PUMP" 6,.gi "PUMP_DELAY" 1,.gi "PUMP_MOST" 2,.gi "PUMP_TO" 0,.gi "RANK" 5,.gi "RULE" 5,.gs "SEA" "sea",.gi "YEAR" 0,.mt "NoName" "__init__" "NoName.__init__" ZAm,.mt "NoNumber" "__init__" "NoNumber.__init__" Yr,.mt "NoPump" "__init__" "NoPump.__init__" ZAh,.mt "NoRiver" "__init__" "NoRiver.__init__" Yu,.mt "NoRule" "__init__" "NoRule.__init__" ZDT,.ck (M3 "NoName" "place"),.ck (M3 "NoNumber" "place"),.ck (M3 "NoPump" "place"),.ck (M3 "NoRiver" "place"),.ck (M3 "NoRule" "place"),.ck (et0Ok "NoHouse"),.ck (ZCO "WaterError"),.ck (λK=>gOk K "NoAsk"),.ck (λK=>gOk K "NoBounds"),.ck (λK=>gOk K "NoHouse"),.ck (λK=>gOk K "NoLevel"),.ck (λK=>gOk K "NoName"),.ck (λK=>gOk K "NoNumber"),.ck (λK=>gOk K "NoPump"),.ck (λK=>gOk K "NoRiver"),.ck (λK=>gOk K "NoRow"),.ck (λK=>gOk K "NoRule"),.ck (λK=>gOk K "NoText"),.ck (λK=>gOk K "NoWay"),.ck (λK=>gOk K "TooLong"),.ck (λK=>gOk K "WaterError"),.ck (λK=>En K (Ab K "NoHouse") (Ab K "WaterError") vJ),.ck (λK=>En K (Ab K "NoName") (Ab K "WaterError") vJ),.ck (λK=>En K (Ab K "NoNumber") (Ab K "WaterError") vJ),.ck (λK=>En K (Ab K "NoPump") (Ab K "WaterError") vJ),.ck (λK=>En K (Ab K "NoRiver") (Ab K "WaterError") vJ),.ck (λK=>En K (Ab K "NoRule") (Ab K "WaterError") vJ),.ck (λK=>Aj (PySem.W.kitOne K (.ref (Ab K "NoHouse")) (.ref (Ab K "NoAsk"))) vX),.ck (λK=>Aj (PySem.W.kitOne K (.ref (Ab K "NoName")) (.ref (Ab K "NoAsk"))) vX),.ck (λK=>Aj (PySem.W.kitOne K (.ref (Ab K "NoNumber")) (.ref (Ab K "NoAsk"))) vX),.ck (λK=>Aj (PySem.W.kitOne K (.ref (Ab K "NoPump")) (.ref (Ab K "NoAsk"))) vX),.ck (λK=>Aj (PySem.W.kitOne K (.ref (Ab K "NoRiver")) (.ref (Ab K "NoAsk"))) vX),.ck (λK=>Aj (PySem.W.kitOne K (.ref (Ab K "NoRule")) (.ref (Ab K "NoAsk"))) vX),.ck (λK=>Aj (PySem.W.kitOne K (.ref (Ab K "NoHouse")) (.ref (Ab K "NoBounds"))) vX),.ck (λK=>Aj (PySem.W.kitOne K (.ref (Ab K "NoName")) (.ref (Ab K "NoBounds"))) vX),.ck (λK=>Aj (PySem.W.kitOne K (.ref (Ab K "NoNumber")) (.ref (Ab K "NoBounds"))) vX),.ck (λK=>Aj (PySem.W.kitOne K (.ref (Ab K "NoPump")) (.ref (Ab K "NoBounds"))) vX),.ck (λK=>Aj (PySem.W.kitOne K (.ref (Ab K "NoRiver")) (.ref (Ab K "NoBounds"))) vX),.ck (λK=>Aj (PySem.W.kitOne K (.ref (Ab K "NoRule")) (.ref (Ab K "NoBounds"))) vX),.ck (λK=>Aj (PySem.W.kitOne K (.ref (Ab K "NoHouse")) (.ref (Ab K "NoHouse"))) vJ),.ck (λK=>Aj (PySem.W.kitOne K (.ref (Ab K "NoName")) (.ref (Ab K "NoHouse"))) vX),.ck (λK=>Aj (PySem.W.kitOne K (.ref (Ab K "NoNumber")) (.ref (Ab K "NoHouse"))) vX),.ck (λK=>Aj (PySem.W.kitOne K (.ref (Ab K "NoPump")) (.ref (Ab K "NoHouse"))) vX),.ck (λK=>Aj (PySem.W.kitOne K (.ref (Ab K "NoRiver")) (.ref (Ab K "NoHouse"))) vX),.ck (λK=>Aj (PySem.W.kitOne K (.ref (Ab K "NoRule")) (.ref (Ab K "NoHouse"))) vX),.ck (λK=>Aj (PySem.W.kitOne K (.ref (Ab K "NoHouse")) (.ref (Ab K "NoLevel"))) vX),.ck (λK=>Aj (PySem.W.kitOne K (.ref (Ab K "NoName")) (.ref (Ab K "NoLevel"))) vX),.ck (λK=>Aj (PySem.W.kitOne K (.ref (Ab K "NoNumber")) (.ref (Ab K "NoLevel"))) vX),.ck (λK=>Aj (PySem.W.kitOne K (.ref (Ab K "NoPump")) (.ref (Ab K "NoLevel"))) vX),.ck (λK=>Aj (PySem.W.kitOne K (.ref (Ab K "NoRiver")) (.ref (Ab K "NoLevel"))) vX),.ck (λK=>Aj (PySem.W.kitOne K (.ref (Ab K "NoRule")) (.ref (Ab K "NoLevel"))) vX),.ck (λK=>Aj (PySem.W.kitOne K (.ref (Ab K "NoHouse")) (.ref (Ab K "NoName"))) vX),.ck (λK=>Aj (PySem.W.kitOne K (.ref (Ab K "NoName")) (.ref (Ab K "NoName"))) vJ),.ck (λK=>Aj (PySem.W.kitOne K (.ref (Ab K "NoNumber")) (.ref (Ab K "NoName"))) vX),.ck (λK=>Aj (PySem.W.kitOne K (.ref (Ab K "NoPump")) (.ref (Ab K "NoName"))) vX),.ck (λK=>Aj (PySem.W.kitOne K (.ref (Ab K "NoRiver")) (.ref (Ab K "NoName"))) vX),.ck (λK=>Aj (PySem.W.kitOne K (.ref (Ab K "NoRule")) (.ref (Ab K "NoName"))) vX),.ck (λK=>Aj (PySem.W.kitOne K (.ref (Ab K "NoHouse")) (.ref (Ab K "NoNumber"))) vX),.ck (λK=>Aj (PySem.W.kitOne K (.ref (Ab K "NoName")) (.ref (Ab K "NoNumber"))) vX),.ck (λK=>Aj (PySem.W.kitOne K (.ref (Ab K "NoNumber")) (.ref (Ab K "NoNumber"))) vJ),.ck (λK=>Aj (PySem.W.kitOne K (.ref (Ab K "NoPump")) (.ref (Ab K "NoNumber"))) vX),.ck (λK=>Aj (PySem.W.kitOne K (.ref (Ab K "NoRiver")) (.ref (Ab K "NoNumber"))) vX),.ck (λK=>Aj (PySem.W.kitOne K (.ref (Ab K "NoRule")) (.ref (Ab K "NoNumber"))) vX),.ck (λK=>Aj (PySem.W.kitOne K (.ref (Ab K "NoHouse")) (.ref (Ab K "NoPump"))) vX),.ck (λK=>Aj (PySem.W.kitOne K (.ref (Ab K "NoName")) (.ref (Ab K "NoPump"))) vX),.ck (λK=>Aj (PySem.W.kitOne K (.ref (Ab K "NoNumber")) (.ref (Ab K "NoPump"))) vX),.ck (λK=>Aj (PySem.W.kitOne K (.ref (Ab K "NoPump")) (.ref (Ab K "NoPump"))) vJ),.ck (λK=>Aj (PySem.W.kitOne K (.ref (Ab K "NoRiver")) (.ref (Ab K "NoPump"))) vX),.ck (λK=>Aj (PySem.W.kitOne K (.ref (Ab K "NoRule")) (.ref (Ab K "NoPump"))) vX),.ck (λK=>Aj (PySem.W.kitOne K (.ref (Ab K "NoHouse")) (.ref (Ab K "NoRiver"))) vX),.ck (λK=>Aj (PySem.W.kitOne K (.ref (Ab K "NoName")) (.ref (Ab K "NoRiver"))) vX),.ck (λK=>Aj (PySem.W.kitOne K (.ref (Ab K "NoNumber")) (.ref (Ab K "NoRiver"))) vX),.ck (λK=>Aj (PySem.W.kitOne K (.ref (Ab K "NoPump")) (.ref (Ab K "NoRiver"))) vX),.ck (λK=>Aj (PySem.W.kitOne K (.ref (Ab K "NoRiver")) (.ref (Ab K "NoRiver"))) vJ),.ck (λK=>Aj (PySem.W.kitOne K (.ref (Ab K "NoRule")) (.ref (Ab K "NoRiver"))) vX),.ck (λK=>Aj (PySem.W.kitOne K (.ref (Ab K "NoHouse")) (.ref (Ab K "NoRow"))) vX),.ck (λK=>Aj (PySem.W.kitOne K (.ref (Ab K "NoName")) (.ref (Ab K "NoRow"))) vX),.ck (λK=>Aj (PySem.W.kitOne K (.ref (Ab K "NoNumber")) (.ref (Ab K "NoRow"))) vX),.ck (λK=>Aj (PySem.W.kitOne K (.ref (Ab K "NoPump")) (.ref (Ab K "NoRow"))) vX),.ck (λK=>Aj (PySem.W.kitOne K (.ref (Ab K "NoRiver")) (.ref (Ab K "NoRow"))) vX),.ck (λK=>Aj (PySem.W.kitOne K (.ref (Ab K "NoRule")) (.ref (Ab K "NoRow"))) vX),.ck (λK=>Aj (PySem.W.kitOne K (.ref (Ab K "NoHouse")) (.ref (Ab K "NoRule"))) vX),.ck (λK=>Aj (PySem.W.kitOne K (.ref (Ab K "NoName")) (.ref (Ab K "NoRule"))) vX),.ck (λK=>Aj (PySem.W.kitOne K (.ref (Ab K "NoNumber")) (.ref (Ab K "NoRule"))) vX),.ck (λK=>Aj (PySem.W.kitOne K (.ref (Ab K "NoPump")) (.ref (Ab K "NoRule"))) vX),.ck (λK=>Aj (PySem.W.kitOne K (.ref (Ab K "NoRiver")) (.ref (Ab K "NoRule"))) vX),.ck (λK=>Aj (PySem.W.kitOne K (.ref (Ab K "NoRule")) (.ref (Ab K "NoRule"))) vJ),.ck (λK=>Aj (PySem.W.kitOne K (.ref (Ab K "NoHouse")) (.ref (Ab K "NoText"))) vX),.ck (λK=>Aj (PySem.W.kitOne K (.ref (Ab K "NoName")) (.ref (Ab K "NoText"))) vX),.ck (λK=>Aj (PySem.W.kitOne K (.ref (Ab K "NoNumber")) (.ref (Ab K "NoText"))) vX),.ck (λK=>Aj (PySem.W.kitOne K (.ref (Ab K "NoPump")) (.ref (Ab K "NoText"))) vX),.ck (λK=>Aj (PySem.W.kitOne K (.ref (Ab K "NoRiver")) (.ref (Ab K "NoText"))) vX),.ck (λK=>Aj (PySem.W.kitOne K (.ref (Ab K "NoRule")) (.ref (Ab K "NoText"))) vX),.ck (λK=>Aj (PySem.W.kitOne K (.ref (Ab K "NoHouse")) (.ref (Ab K "NoWay"))) vX),.ck (λK=>Aj (PySem.W.kitOne K (.ref (Ab K "NoName")) (.ref (Ab K "NoWay"))) vX),.ck (λK=>Aj (PySem.W.kitOne K (.ref (Ab K "NoNumber")) (.ref (Ab K "NoWay"))) vX),.ck (λK=>Aj (PySem.W.kitOne K (.ref (Ab K "NoPump")) (.ref (Ab K "NoWay"))) vX),.ck (λK=>Aj (PySem.W.kitOne K (.ref (Ab K "NoRiver")) (.ref (Ab K "NoWay"))) vX),.ck (λK=>Aj (PySem.W.kitOne K (.ref (Ab K "NoRule")) (.ref (Ab K "NoWay"))) vX),.ck (λK=>Aj (PySem.W.kitOne K (.ref (Ab K "NoHouse")) (.ref (Ab K "TooLong"))) vX),.ck (λK=>Aj (PySem.W.kitOne K (.ref (Ab K "NoName")) (.ref (Ab K "TooLong"))) vX),.ck (λK=>Aj (PySem.W.kitOne K (.ref (Ab K "NoNumber")) (.ref (Ab K "TooLong"))) vX),.ck (λK=>Aj (PySem.W.kitOne K (.ref (Ab K "NoPump")) (.ref (Ab K "TooLong"))) vX),.ck (λK=>Aj (PySem.W.kitOne K (.ref (Ab K "NoRiver")) (.ref (Ab K "TooLong"))) vX),.ck (λK=>Aj (PySem.W.kitOne K (.ref (Ab K "NoRule")) (.ref (Ab K "TooLong"))) vX),.ck (λK=>Aj (PySem.W.kitOne K (.ref (Ab K "NoHouse")) (.type "ValueError")) vJ),.ck (λK=>Aj (PySem.W.kitOne K (.ref (Ab K "NoName")) (.type "ValueError")) vJ),.ck (λK=>Aj (PySem.W.kitOne K (.ref (Ab K "NoNumber")) (.type "ValueError")) vJ),.ck (λK=>Aj (PySem.W.kitOne K (.ref (Ab K "NoPump")) (.type "ValueError")) vJ),.ck (λK=>Aj (PySem.W.kitOne K (.ref (Ab K "NoRiver")) (.type "ValueError")) vJ),.ck (λK=>Aj (PySem.W.kitOne K (.ref (Ab K "NoRule")) (.type "ValueError")) vJ)]
abbrev rw_:OpenLaw:=PySem.Challenge.rw_sluiceway_k03_one_thing_amiss
abbrev pw:jH:=OpenLaw.prog PySem.Challenge.rw_sluiceway_k03_one_thing_amiss
def vw:jH:=view pw (zy 65)
theorem ZKWb:∀w os,(ZDq pw w os).map (λs=>PySem.W.Fast.tw4187177175401517315 vw [] (PySem.W.Fast.tw5923862056798008813 pw.main.body) (XtOf rw_ vw) vJ s.abs)=vQ (openGood vw []):=λw os=>by kernel_rfl
theorem ZKWa:∀w os,(ZDq pw w os).map (λs=>(ZAW pw w s.abs,ZB9 asks s.abs.heap))=vQ (vJ,ZBt asks):=λw os=>by kernel_rfl
theorem ZKW:∀w os,(ZDq pw w os).map (λs=>(ZAW pw w s.abs,PySem.W.Fast.tw4187177175401517315 vw [] (PySem.W.Fast.tw5923862056798008813 pw.main.body) (XtOf rw_ vw) vJ s.abs,ZB9 asks s.abs.heap))=vQ (vJ,openGood vw [],ZBt asks):=λw os=>by
 have h1:=ZKWb w os
 have h2:=ZKWa w os
 revert h1 h2
 generalize ZDq pw w os=o
 intro h1 h2
 cases o with
 |none=>cases h2
 |some s=>exact congrArg some (Prod.ext (Prod.mk.inj (Option.some.inj h2)).1 (Prod.ext (Option.some.inj h1) (Prod.mk.inj (Option.some.inj h2)).2))
end _W
namespace _L
open PySem PySem.Spec PyProof.Rows
variable{us:List jN}{u:jN}{a b:jC}{P:jH}{w:jO}{h base:Heap}{t' i k:Nat}{ch fp:List jC}{x:Str}{Q:Unit->jL->Prop}{e tg:jE}{E:jN->jL->Prop}{s:jL}{xU:List (jC×Obj)}{K:PySem.W.Frag}{f:jN->jN->Sem jN}{op:CmpOp}{mg:Str->Option jN}{kindOf:Str->Option jG}
noncomputable abbrev Key:=Sum Int Str
def ZGS:Key->jN->Bool
 |.inl k,v=>Value.isInt k v
 |.inr x,v=>Value.isStrOf x v
def keyH(w:jO):Key->Int
 |.inl k=>hashInt k
 |.inr x=>hashStr w x
theorem Jw:∀{k:Key}{v:jN},ZGS k v=vJ->(∃i t,k=Sum.inl i/\v=Value.int i t)∨(∃x t,k=Sum.inr x/\v=Value.str x t)
 |.inl i,v,h=>by obtain⟨t,e⟩:=Value.isInt_shape (k:=i) (v:=v) h;exact .inl ⟨i,t,rfl,e⟩
 |.inr x,v,h=>by obtain⟨t,e⟩:=Value.isStrOf_shape (x:=x) (v:=v) h;exact .inr ⟨x,t,rfl,e⟩
theorem ZMD(a b:Int):decide ((Sum.inl a:Key)=Sum.inl b)=(a==b):=by
 by_cases e:a=b
 ·subst e;simp
 ·have h:¬(Sum.inl a:Key)=Sum.inl b:=λq=>e (Sum.inl.inj q)
  rw[decide_eq_false h];exact(beq_eq_false_iff_ne.mpr e).symm
theorem ZM5(a b:Str):decide ((Sum.inr a:Key)=Sum.inr b)=decide (a=b):=by
 by_cases e:a=b
 ·subst e;simp
 ·have h:¬(Sum.inr a:Key)=Sum.inr b:=λq=>e (Sum.inr.inj q)
  rw[decide_eq_false h,decide_eq_false e]
theorem ZKk(a:Int)(b:Str):decide ((Sum.inl a:Key)=Sum.inr b)=vX:=decide_eq_false (λq=>nomatch q)
theorem ZNF(a:Str)(b:Int):decide ((Sum.inr a:Key)=Sum.inl b)=vX:=decide_eq_false (λq=>nomatch q)
def ZEv(prog:jH)(w:jO):PySem.KeyKind prog w Key where
 is:=ZGS
 hash:=keyH w
 inj:=λv a b ha hb=>by
  rcases Jw ha with⟨i,t,rfl,rfl⟩|⟨x,t,rfl,rfl⟩
  ·rcases Jw hb with⟨j,u,rfl,e⟩|⟨y,u,rfl,e⟩
   ·injection e with e1 _;rw[e1]
   ·exact nomatch e
  ·rcases Jw hb with⟨j,u,rfl,e⟩|⟨y,u,rfl,e⟩
   ·exact nomatch e
   ·injection e with e1 _;rw[e1]
 byValue:=λk v h=>by rcases Jw h with⟨i,t,rfl,rfl⟩|⟨x,t,rfl,rfl⟩<;>rfl
 pyHash:=λhv h=>by
  rcases Jw hv with⟨i,t,rfl,rfl⟩|⟨x,t,rfl,rfl⟩
  ·exact wpAny_pyHash_int h
  ·exact wpAny_pyHash_str h
 eqBool:=λhu hv h=>by
  rcases Jw hu with⟨i,t,rfl,rfl⟩|⟨x,t,rfl,rfl⟩
  ·rcases Jw hv with⟨j,u,rfl,rfl⟩|⟨y,u,rfl,rfl⟩
   ·rw[ZMD]at h;exact wpAny_eqBool_int h
   ·rw[ZKk]at h;exact SeqAt.EqAt.int_str i t y u _ _ _ _ h
  ·rcases Jw hv with⟨j,u,rfl,rfl⟩|⟨y,u,rfl,rfl⟩
   ·rw[ZNF]at h;exact SeqAt.EqAt.str_int x t j u _ _ _ _ h
   ·rw[ZM5]at h;exact wpAny_eqBool_str h
 «strs»:=λk x t v h=>by
  rcases Jw h with⟨i,u,rfl,e⟩|⟨y,u,rfl,e⟩
  ·exact nomatch e
  ·injection e with e1 _
   subst e1
   cases v<;>rfl
inductive V where
 |non|bl (b:Bool)|int (i:Int)|str (x:Str)|byt (b:Array UInt8)|flt (b:UInt64)|ref (a:jC)|ty (n:String)
 deriving DecidableEq
variable{v:V}
def RelV:V->jN->Prop
 |.non,u=>u=Value.none
 |.bl b,u=>u=Value.bool b
 |.int i,u=>∃t,u=Value.int i t
 |.str x,u=>∃t,u=Value.str x t
 |.byt b,u=>∃t,u=Value.bytes b t
 |.flt b,u=>∃t,u=Value.float b t
 |.ref a,u=>u=Value.ref a
 |.ty n,u=>u=Value.type n
abbrev Vals:List V->List jN->Prop:=Paired RelV
theorem Vals.length{xs:List V}(r:Vals xs us):xs.length=us.length:=Paired.length r
theorem Vals.get:∀{xs:List V}{us:List jN}{i:Nat}{x:V},Vals xs us->xs[i]?=vQ x->∃u,us[i]?=vQ u/\RelV x u
 |_,_,_,_,.nil,e=>by simp at e
 |_,_,0,_,.cons r _,e=>by simp at e;subst e;exact⟨_,rfl,r⟩
 |_,_,i+1,x,.cons _ t,e=>by obtain⟨u,h1,h2⟩:=Vals.get (i:=i) (x:=x) t (by simpa using e);exact⟨u,by simpa using h1,h2⟩
theorem Vals.set{x:V}(r:RelV x u):∀{xs:List V}{us:List jN}(i:Nat),Vals xs us->Vals (xs.set i x) (us.set i u)
 |_,_,_,.nil=>.nil
 |_,_,0,.cons _ t=>.cons r t
 |_,_,i+1,.cons q t=>.cons q (Vals.set r i t)
theorem Vals.append:∀{xs ys:List V}{us ws:List jN},Vals xs us->Vals ys ws->Vals (xs++ys) (us++ws)
 |_,_,_,_,.nil,s=>s
 |_,_,_,_,.cons r t,s=>.cons r (Vals.append t s)
theorem Vals.take:∀{xs:List V}{us:List jN}(n:Nat),Vals xs us->Vals (xs.take n) (us.take n)
 |_,_,0,_=>.nil
 |_,_,_+1,.nil=>.nil
 |_,_,n+1,.cons r t=>.cons r (Vals.take n t)
theorem Vals.drop:∀{xs:List V}{us:List jN}(n:Nat),Vals xs us->Vals (xs.drop n) (us.drop n)
 |_,_,0,r=>r
 |_,_,_+1,.nil=>.nil
 |_,_,n+1,.cons _ t=>Vals.drop n t
def RelO:Option V->Option jN->Prop
 |some v,vQ u=>RelV v u
 |none,vZ=>True
 |_,_=>False
def KV{κ:Type}:List (κ×V)->List (κ×jN)->Prop:=Paired λ(p:κ×V)(q:κ×jN)=>p.1=q.1/\RelV p.2 q.2
def kV:Key->V
 |.inl i=>.int i
 |.inr x=>.str x
inductive HO where
 |lst (xs:List V)
 |tup (xs:List V)
 |dK (kvs:List (Key×V))|dT (kvs:List (List Key×V))
 |set (S:Int->Bool) (n:Nat)
 |ins (C dx:jC) (fs:List (Str×V))
 |own (x:jC)
 |xd (fs:List (Str×V))
 |met (f x:jC)
 |rng (lo hi:Int)
 |frz (o:Obj) (u:HO)
 |tbl (ps:Array jN)
 |ext (φ:Heap->Prop)
variable{o:HO}
noncomputable abbrev Hp:=jC->Option HO
variable{H:Hp}
noncomputable def upd(H:Hp)(a:jC)(o:HO):Hp:=λb=>if b=a then vQ o else H b
theorem Io:upd H a o a=vQ o:=by unfold upd;rw[if_pos rfl]
theorem Bq(h:b≠a):upd H a o b=H b:=by unfold upd;rw[if_neg h]
theorem Hb(h:H a=vQ o)(h':H b=vZ):a≠b:=by intro e;subst e;rw[h]at h';cases h'
section
variable(P:jH)(w:jO)
def ObjOk(H:Hp)(h:Heap)(a:jC):HO->Prop
 |.lst xs=>xs.length<=sizeLine/\∃(its:List jN)(n:Nat),Vals xs its/\h.get? a=vQ {cls:=.type "list",data:=.seq its.toArray n}
 |.tup xs=>xs.length<=sizeLine/\∃its:List jN,Vals xs its/\IsTup h a its.toArray
 |.dK kvs=>kvs.length<=sizeLine/\(a==sysModules)=vX/\∃vs,KV kvs vs/\h.DictOf (ZEv P w) a vs
 | .dT kvs=>kvs.length<=sizeLine/\(a==sysModules)=vX/\∃xs:List (List Key×jC×jN),
   Paired (λ(p:List Key×V)(q:List Key×jC×jN)=>p.1=q.1/\H q.2.1=vQ (.tup (p.1.map kV))/\RelV p.2 q.2.2) kvs xs/\
   ∃o es ep,h.get? a=vQ o/\o.ExactDict/\o.data=.dict es ep/\es.toList=xs.map (entryOfKey (tupleKind (ZEv P w)))/\(xs.map (·.1)).Nodup
 |.set S n=>h.SetOf (intKind P w) a S n
 | .ins C dx fs=>H dx=vQ (.own a)/\fs.length<=1000/\dx≠a/\h.get? a=vQ (PySem.W.instObj C dx)/\
   ∃mA,h.Ns1 dx mA/\(∀f,RelO (fs.lookup f) (mA f))/\PySem.Within mA (fs.map (·.1))
 |.own _=>∃o,h.get? a=vQ o
 |.xd fs=>∃mA,h.Ns1 a mA/\∀f,RelO (fs.lookup f) (mA f)
 |.rng lo hi=>∃t u v,h.get? a=vQ {cls:=.type "range",data:=.fields #[.int lo t,.int hi u,.int 1 v]}
 |.frz o u=>h.get? a=vQ o/\ObjOk H h a u
 |.tbl ps=>h.get? a=vQ {cls:=.none,data:=.fields ps}
 |.met f x=>h.get? a=vQ (PySem.W.methodObj (.ref f) (.ref x))
 |.ext φ=>φ h/\(∃o,h.get? a=vQ o)/\∀h1 h2:Heap,φ h1->(∀o,h1.get? a=vQ o->h2.get? a=vQ o)->φ h2
def HOk(H:Hp)(h:Heap):Prop:=∀a o,H a=vQ o->ObjOk P w H h a o
end
section
variable{P:jH}{w:jO}{H H':Hp}{h h':Heap}{a:jC}{o:HO}
theorem ObjOk.lt(x:ObjOk P w H h a o):a<h.objs.size:=by
 cases o with
 |lst xs=>obtain⟨_,_,_,_,e⟩:=x;exact zj e
 |tup xs=>obtain⟨_,_,_,p⟩:=x;exact p.lt
 |dK kvs=>obtain⟨_,_,_,_,o,_,_,e,_⟩:=x;exact zj e
 |dT kvs=>obtain⟨_,_,_,_,o,_,_,e,_⟩:=x;exact zj e
 |set S n=>obtain⟨o,_,_,_,e,_⟩:=x;exact zj e
 |ins C dx fs=>obtain⟨_,_,_,e,_⟩:=x;exact zj e
 |own y=>obtain⟨_,e⟩:=x;exact zj e
 |xd fs=>obtain⟨_,⟨_,_,_,e,_⟩,_⟩:=x;exact zj e
 |rng lo hi=>obtain⟨_,_,_,e⟩:=x;exact zj e
 |frz ob u=>obtain⟨e,_⟩:=x;exact zj e
 |tbl ps=>exact zj (show h.get? a=vQ _ from x)
 |met f y=>exact zj (show h.get? a=vQ _ from x)
 |ext φ=>obtain⟨_,⟨_,e⟩,_⟩:=x;exact zj e
theorem Paired.mapP{α β:Type}{F G:α->β->Prop}:∀{l₁:List α}{l₂:List β},Paired F l₁ l₂->(∀a b,F a b->G a b)->Paired G l₁ l₂
 |_,_,.nil,_=>.nil
 |_,_,.cons r t,f=>.cons (f _ _ r) (Paired.mapP t f)
theorem ObjOk.stay(x:ObjOk P w H h a o)(k:∀b u,(b=a∨H b=vQ (.own a))->h.get? b=vQ u->h'.get? b=vQ u)
  (ho:∀b,H b=vQ (.own a)->H' b=vQ (.own a)) (ht:∀b xs,H b=vQ (.tup xs)->H' b=vQ (.tup xs)):ObjOk P w H' h' a o:=by
 induction o with
 |lst xs=>obtain⟨z,its,n,r,e⟩:=x;exact⟨z,its,n,r,k _ _ (.inl rfl) e⟩
 |tup xs=>obtain⟨z,its,r,ob,e,c⟩:=x;exact⟨z,its,r,ob,k _ _ (.inl rfl) e,c⟩
 |dK kvs=>obtain⟨z,y,vs,r,ob,es,ep,e,c⟩:=x;exact⟨z,y,vs,r,ob,es,ep,k _ _ (.inl rfl) e,c⟩
 |dT kvs=>
  obtain⟨z,y,xs,r,ob,es,ep,e,c⟩:=x;exact⟨z,y,xs,Paired.mapP r λp q z=>⟨z.1,ht _ _ z.2.1,z.2.2⟩,ob,es,ep,k _ _ (.inl rfl) e,c⟩
 |set S n=>obtain⟨ob,es,ep,t,e,c⟩:=x;exact⟨ob,es,ep,t,k _ _ (.inl rfl) e,c⟩
 |ins C dx fs=>
  obtain⟨d,z,ne,e,mA,⟨od,es,ep,e2,c⟩,r⟩:=x;exact⟨ho _ d,z,ne,k _ _ (.inl rfl) e,mA,⟨od,es,ep,k _ _ (.inr d) e2,c⟩,r⟩
 |own y=>obtain⟨ob,e⟩:=x;exact⟨ob,k _ _ (.inl rfl) e⟩
 |xd fs=>obtain⟨mA,⟨od,es,ep,e,c⟩,r⟩:=x;exact⟨mA,⟨od,es,ep,k _ _ (.inl rfl) e,c⟩,r⟩
 |rng lo hi=>obtain⟨t,u,v,e⟩:=x;exact⟨t,u,v,k _ _ (.inl rfl) e⟩
 |frz ob u ih=>obtain⟨e,q⟩:=x;exact⟨k _ _ (.inl rfl) e,ih q⟩
 |tbl ps=>
  have e:h.get? a=vQ {cls:=.none,data:=.fields ps}:=x;show h'.get? a=vQ {cls:=.none,data:=.fields ps};exact k a _ (.inl rfl) e
 |met f y=>
  have e:h.get? a=vQ (PySem.W.methodObj (.ref f) (.ref y)):=x;show h'.get? a=vQ (PySem.W.methodObj (.ref f) (.ref y));exact k a _ (.inl rfl) e
 |ext φ=>obtain⟨p,⟨o,e⟩,st⟩:=x;exact⟨st _ _ p λo q=>k _ _ (.inl rfl) q,⟨o,k _ _ (.inl rfl) e⟩,st⟩
theorem HOk.lt(x:HOk P w H h)(e:H a=vQ o):a<h.objs.size:=(x a o e).lt
theorem HOk.fresh(x:HOk P w H h)(e:h.objs.size<=a):H a=vZ:=by
 cases q:H a with
 |none=>rfl
 |some u=>exact absurd (zW (x.lt q) e) (zR _)
theorem HOk.kept(x:HOk P w H h)(k:∀b u,h.get? b=vQ u->h'.get? b=vQ u):HOk P w H h':=λa o e=>
 (x a o e).stay (λb u _ q=>k b u q) (λ_ q=>q) λ_ _ q=>q
theorem HOk.laid(x:HOk P w H h)(k:∀b u,h.get? b=vQ u->h'.get? b=vQ u)(hp:h.objs.size<=a)(new:ObjOk P w (upd H a o) h' a o):HOk P w (upd H a o) h':=λb u e=>by
 have hn:=x.fresh hp;by_cases hb:b=a
 ·subst hb;rw[Io]at e;cases e;exact new
 ·rw[Bq hb]at e;exact(x b u e).stay (λc v _ q=>k c v q) (λc q=>by rw[Bq (Hb q hn)];exact q) λc xs q=>by rw[Bq (Hb q hn)];exact q
end
def Rd(H:Hp)(a:jC)(u:HO):Prop:=H a=vQ u∨∃o,H a=vQ (.frz o u)
theorem Rd.ok{u:HO}(r:Rd H a u)(x:HOk P w H h):ObjOk P w H h a u:=by
 rcases r with r|⟨o,r⟩
 ·exact x a u r
 ·obtain⟨_,q⟩:=x a _ r;exact q
def Mut:Option HO->Prop
 |some (.lst _)=>True
 |some (.dK _)=>True
 |some (.dT _)=>True
 |some (.set _ _)=>True
 |some (.ins _ _ _)=>True
 |some (.ext _)=>True
 |_=>False
section
variable{P:jH}{w:jO}{H:Hp}{h h':Heap}{x e:jC}{o':HO}
theorem HOk.write(ok:HOk P w H h)(mu:Mut (H x))(he:e=x∨H e=vQ (.own x))(k:∀b u,b≠e->h.get? b=vQ u->h'.get? b=vQ u)(heo:∃u,h'.get? e=vQ u)
  (new:ObjOk P w (upd H x o') h' x o'):HOk P w (upd H x o') h':=λb u q=>by
 have nown:∀c y,H c=vQ (.own y)->c≠x:=λc y r z=>by subst z;rw[r]at mu;exact mu
 have ntup:∀c xs,H c=vQ (.tup xs)->c≠x:=λc xs r z=>by subst z;rw[r]at mu;exact mu
 by_cases hb:b=x
 ·subst hb;rw[Io]at q;cases q;exact new
 ·rw[Bq hb]at q;by_cases hbe:b=e
  ·have q':H b=vQ (.own x):=by
    rcases he with z|z
    ·exact absurd (hbe.trans z) hb
    ·rw[hbe];exact z
   rw[q]at q';cases q';obtain⟨v,hv⟩:=heo;exact⟨v,by rw[hbe];exact hv⟩
  ·refine(ok b u q).stay (λc v hc r=>k c v ?_ r) (λc r=>by rw[Bq (nown c b r)];exact r) λc xs r=>by rw[Bq (ntup c xs r)];exact r
   rcases hc with rfl|hc
   ·exact hbe
   ·rintro rfl;rcases he with z|z
    ·exact nown c b hc z
    ·rw[hc]at z;cases z;exact hb rfl
end
structure Un (fs ex:List jC) (H H':Hp) (h h':Heap):Prop where
 keep:∀b o,h.get? b=vQ o->H b=vZ->b∉fs->b∉ex->h'.get? b=vQ o
 slot:∀b o,h.get? b=vQ o->H b=vZ->b∈fs->b∉ex->∃sl,h'.get? b=vQ {o with slots:=sl}
 free:∀b o,h.get? b=vQ o->H b=vZ->b∉ex->H' b=vZ
 there:∀b o,h.get? b=vQ o->b∉ex->∃o',h'.get? b=vQ o'
 tups:∀b xs,H b=vQ (.tup xs)->H' b=vQ (.tup xs)
 frzs:∀b o u,H b=vQ (.frz o u)->H' b=vQ (.frz o u)
 tbls:∀b ps,H b=vQ (.tbl ps)->∃more,H' b=vQ (.tbl (ps++more))
section
variable{fs fs' ex ex':List jC}{H H1 H2:Hp}{h h1 h2 h':Heap}{a x e:jC}{o:HO}
theorem Un.any(u:Un fs ex H H1 h h1){ob:Obj}(q:h.get? b=vQ ob)(n:H b=vZ)(hx:b∉ex):∃sl,h1.get? b=vQ {ob with slots:=sl}:=by
 by_cases hb:b∈fs
 ·exact u.slot b ob q n hb hx
 ·exact⟨ob.slots,u.keep b ob q n hb hx⟩
theorem Un.kept(k:∀b u,h.get? b=vQ u->h'.get? b=vQ u):Un fs ex H H h h':=
 ⟨λb ob q _ _ _=>k b ob q,λb ob q _ _ _=>⟨ob.slots,k b ob q⟩,λ_ _ _ n _=>n,λb ob q _=>⟨ob,k b ob q⟩,λ_ _ q=>q,λ_ _ _ q=>q,λ_ ps q=>⟨#[],by rw[q];simp⟩⟩
theorem Un.refl:Un fs ex H H h h:=Un.kept λ_ _ q=>q
theorem Un.laid(k:∀b u,h.get? b=vQ u->h'.get? b=vQ u)(hp:h.objs.size<=a)(hn:H a=vZ):Un fs ex H (upd H a o) h h' where
 keep:=λb u q _ _ _=>k b u q
 slot:=λb u q _ _ _=>⟨u.slots,k b u q⟩
 free:=λb u q n _=>by rw[Bq (zM (zW (zj q) hp))];exact n
 there:=λb u q _=>⟨u,k b u q⟩
 tups:=λb xs q=>by rw[Bq (Hb q hn)];exact q
 frzs:=λb u xs q=>by rw[Bq (Hb q hn)];exact q
 tbls:=λb ps q=>⟨#[],by rw[Bq (Hb q hn),q];simp⟩
theorem Un.write(mu:Mut (H x))(he:e=x∨H e=vQ (.own x))(k:∀b u,b≠e->h.get? b=vQ u->h'.get? b=vQ u)(heo:∃u,h'.get? e=vQ u):Un fs ex H (upd H x o) h h':=by
 have hx:∀b,H b=vZ->b≠x:=λb n z=>by subst z;rw[n]at mu;exact mu
 have hb:∀b,H b=vZ->b≠e:=λb n z=>by
  subst z;rcases he with r|r
  ·exact hx b n r
  ·rw[n]at r;cases r
 have hm:∀b u,H b=vQ u->¬Mut (vQ u)->b≠x:=λb u q nm z=>by subst z;rw[q]at mu;exact nm mu
 refine⟨λb u q n _ _=>k b u (hb b n) q,λb u q n _ _=>⟨u.slots,k b u (hb b n) q⟩,λb u q n _=>by rw[Bq (hx b n)];exact n,λb u q _=>?_,
  λb xs q=>by rw[Bq (hm b _ q λz=>z)];exact q,λb u xs q=>by rw[Bq (hm b _ q λz=>z)];exact q,λb ps q=>⟨#[],by rw[Bq (hm b _ q λz=>z),q];simp⟩⟩
 by_cases hbe:b=e
 ·subst hbe;exact heo
 ·exact⟨u,k b u hbe q⟩
end
noncomputable def trk(h:Heap)(H:Hp):List jC:=(zy h.objs.size).filter λa=>(H a).isSome
def K8(h:Heap)(H:Hp):Heap:=PySem.W.hideAll h (trk h H)
theorem ZMW(h:Heap)(H:Hp):(K8 h H).objs.size=h.objs.size:=PySem.W.hideAll_size _ _
theorem ZIF{o:Obj}(e:h.get? b=vQ o)(n:H b=vZ):(K8 h H).get? b=vQ o:=
 PySem.W.hideAll_get _ e λhm=>by have q:(H b).isSome=vJ:=(jk.mp hm).2;rw[n]at q;simp at q
theorem ZMF{o:Obj}(e:(K8 h H).get? b=vQ o):h.get? b=vQ o/\H b=vZ:=by
 have e':h.get? b=vQ o:=PySem.W.of_hideAll (trk h H) e;refine⟨e',?_⟩;cases q:H b with
 |none=>rfl
 |some x=>
  have hm:b∈trk h H:=jk.mpr ⟨qD.mpr (zj e'),by simp[q]⟩;have z:(K8 h H).get? b=vZ:=PySem.W.hideAll_none (trk h H) hm;rw[z]at e;cases e
noncomputable def ZLT(g h:Heap)(L:jC):List (jC×Obj):=(zy h.objs.size).filterMap λa=>if a=L∨(g.get? a).isSome=vJ then vZ else(h.get? a).map λo=>(a,o)
def rest(g h:Heap)(L d:jC):List (jC×Obj):=(ZLT g h L).filter λp=>decide (p.1≠d)
structure Mod (K:PySem.W.Frag) (mg:Str->Option jN) (base:Heap):Prop where
 kin:K.In base
 glob:base.Ns xy mg
 blt:∃mb,base.Ns builtinsNs mb/\∀x:Str,x≠"__name__"->mb x=xQ x
 nolimit:base.NoLimit
structure Cx where
 prog:jH
 w:jO
 K:PySem.W.Frag
 mg:Str->Option jN
 base:Heap
 A:jD
 N:List Str
 s₀:jL
 H₀:Hp
 env:Env
 outer:List Env
 stack:List Env
 ex:List jC
 fn:Str->Bool
 calm:Bool
 pn:List (jC×Obj)
 xe:jN->jL->Prop
variable{X:Cx}
noncomputable def frs(l:List Env):List jC:=l.filterMap (·.frame)
noncomputable abbrev Cx.fs(X:Cx):List jC:=frs X.outer
def Vis(sc:jI)(x:Str):Prop:=sc.names.lookup x=vQ .local∨sc.names.lookup x=vQ .cell∨sc.names.lookup x=vQ .free
def Loc(sc:jI)(x:Str):Prop:=sc.names.lookup x=vQ .local∨sc.names.lookup x=vQ .cell
def Look(env:Env)(h:Heap)(m:Str->Option jN)(x:Str)(u:jN):Prop:=
 (env.kindOf x=vQ .local/\m x=vQ u)∨((env.kindOf x=vQ .cell∨env.kindOf x=vQ .free)/\∃c,env.cells.lookup x=vQ c/\h.IsCell c (vQ u))
structure Cx.Ok (X:Cx):Prop where
 mod:Mod X.K X.mg X.base
 kind:X.env.scope.kind=.function
 glob:X.env.globals=xy
 blt:X.env.builtins=builtinsNs
 above:X.s₀.heap.objs.size<=X.env.locals
 inj:∀x y c,X.env.cells.lookup x=vQ c->X.env.cells.lookup y=vQ c->x=y
 has:∀x,(X.env.kindOf x=vQ .cell∨X.env.kindOf x=vQ .free)->∃c,X.env.cells.lookup x=vQ c
 cab:∀x c,X.fn x=vJ->X.env.cells.lookup x=vQ c->X.s₀.heap.objs.size<=c
 hd:X.calm=vJ->X.A.handled=vZ
 frames:X.A.frames=vQ X.stack
 stk:X.stack=X.outer∨(X.stack=X.env::X.outer/\X.env.frame=vQ X.env.locals)
 exf:∀b∈X.ex,b≠X.env.locals/\∀x c,X.env.cells.lookup x=vQ c->c≠b
 bs:∀b o,X.base.get? b=vQ o->X.s₀.heap.get? b=vQ o/\X.H₀ b=vZ
 bsz:X.base.objs.size<=X.s₀.heap.objs.size
 noex:∀b o,X.base.get? b=vQ o->b∉X.ex
 exfs:∀b∈X.ex,b∉X.fs
 funs:X.s₀.heap.FunFrames X.base X.outer
 frf:∀b∈X.fs,X.H₀ b=vZ
structure Inv (X:Cx) (xU:List (jC×Obj)) (σ:List (Option V)) (H:Hp) (s:jL):Prop where
 ok:X.Ok
 os:s.os=X.s₀.os
 bare:AllBare s.gens
 base:Un X.fs X.ex X.H₀ H X.s₀.heap s.heap
 loc:∃m,s.heap.Ns X.env.locals m/\∀(i:Nat)(x:Str)(v:V),X.N[i]?=vQ x->σ[i]?=vQ (vQ v)->Vis X.env.scope x->∃u,RelV v u/\Look X.env s.heap m x u
 cell:∀x c,X.env.cells.lookup x=vQ c->∃v,s.heap.IsCell c v
 free:H X.env.locals=vZ
 Gp:∀x c,X.env.cells.lookup x=vQ c->H c=vZ
 pin:∀p∈X.pn++xU,s.heap.get? p.1=vQ p.2/\H p.1=vZ/\p.1≠X.env.locals/\p.1∉X.fs/\∀v,p.2.data≠ .cell v
 hok:HOk X.prog X.w H s.heap
 len:σ.length=X.N.length
section
variable{X:Cx}{xU:List (jC×Obj)}{σ:List (Option V)}{H H':Hp}{s:jL}{h':Heap}
theorem Cx.Ok.nofr(ok:X.Ok){o:Obj}(e:X.base.get? b=vQ o):b∉X.fs:=λhb=>by have:=(ok.funs.mem hb).1;rw[e]at this;cases this
theorem Inv.bs(I:Inv X xU σ H s):∀b o,X.base.get? b=vQ o->s.heap.get? b=vQ o/\H b=vZ:=λb o e=>
 ⟨I.base.keep b o (I.ok.bs b o e).1 (I.ok.bs b o e).2 (I.ok.nofr e) (I.ok.noex b o e),I.base.free b o (I.ok.bs b o e).1 (I.ok.bs b o e).2 (I.ok.noex b o e)⟩
theorem Inv.bk(I:Inv X xU σ H s):∀b o,X.base.get? b=vQ o->s.heap.get? b=vQ o:=λb o e=>(I.bs b o e).1
theorem Inv.mod(I:Inv X xU σ H s):Mod X.K X.mg X.base:=I.ok.mod
theorem Inv.kIn(I:Inv X xU σ H s):X.K.In s.heap:=I.ok.mod.kin.keeps I.bk
theorem Inv.lt(I:Inv X xU σ H s):X.env.locals<s.heap.objs.size:=let⟨_,hn,_⟩:=I.loc;hn.lt
theorem Inv.sz(I:Inv X xU σ H s):X.s₀.heap.objs.size<=s.heap.objs.size:=zC I.ok.above (Nat.le_of_lt I.lt)
theorem Inv.nofs(I:Inv X xU σ H s)(h:s.heap.objs.size<=a):a∉X.fs:=λhb=>by obtain⟨_,o,ho,_⟩:=I.ok.funs.mem hb;exact absurd (zW (zj ho) (zC I.sz h)) (zR _)
theorem Inv.cne(I:Inv X xU σ H s):∀x c,X.env.cells.lookup x=vQ c->c≠X.env.locals:=λx c e z=>by obtain⟨v,o,ho,hd⟩:=I.cell x c e;obtain⟨m,⟨o',es,ep,ho',hd',_⟩,_⟩:=I.loc;rw[z,ho']at ho;cases ho;rw[hd']at hd;cases hd
theorem Inv.funs(I:Inv X xU σ H s):s.heap.FunFrames X.base X.outer:=by
 have all:∀(l:List Env),(∀b∈frs l,b∈X.fs)->X.s₀.heap.FunFrames X.base l->s.heap.FunFrames X.base l:=by
  intro l
  induction l with
  |nil=>intro _ _;trivial
  |cons env r ih=>
   intro hs hl;obtain⟨hk,⟨L,o,hf,hn,ho,hd⟩,hr⟩:=hl;have hL:L∈X.fs:=hs L (by unfold frs;rw[zO,hf];exact zD);obtain⟨sl,e⟩:=I.base.slot L o ho (I.ok.frf L hL) hL λz=>I.ok.exfs L z hL
   exact⟨hk,⟨L,_,hf,hn,e,hd⟩,ih (λb hb=>hs b (by unfold frs;rw[zO,hf];exact zq _ hb)) hr⟩
 exact all X.outer (λ_ hb=>hb) I.ok.funs
theorem Inv.stack(I:Inv X xU σ H s):s.heap.FunFrames X.base X.stack:=by
 rcases I.ok.stk with e|⟨e,hf⟩
 ·rw[e];exact I.funs
 ·rw[e];obtain⟨m,hn,_⟩:=I.loc;refine .cons (by rw[I.ok.kind];decide) hf hn ?_ I.funs;exact j8 (zC I.ok.bsz I.ok.above)
theorem Inv.X7(I:Inv X xU σ H s):∀b∈frs X.stack,b∈X.env.locals::X.fs:=λb hb=>by
 rcases I.ok.stk with e|⟨e,hf⟩
 ·rw[e]at hb;exact zq _ hb
 ·rw[e]at hb;unfold frs at hb;rw[zO,hf]at hb;exact hb
theorem Inv.Va(I:Inv X xU σ H s):∀b∈frs X.stack,H b=vZ:=λb hb=>by
 rcases zz.mp (I.X7 b hb)with e|hb
 ·rw[e];exact I.free
 ·obtain⟨_,o,ho,_⟩:=I.ok.funs.mem hb;exact I.base.free b o ho (I.ok.frf b hb) λz=>I.ok.exfs b z hb
theorem Inv.step{g':Array GenState}{d':Drawn}(I:Inv X xU σ H s)
  (hch:∀b∈ch,(b∈X.ex∨X.s₀.heap.objs.size<=b)/\b≠X.env.locals/\(∀x c,X.env.cells.lookup x=vQ c->c≠b)/\∀p∈X.pn++xU,p.1≠b)
  (keep:∀b o,b≠X.env.locals->b∉X.fs->b∉ch->s.heap.get? b=vQ o->H b=vZ->h'.get? b=vQ o)
  (slot:∀b o,b≠X.env.locals->b∈X.fs->b∉ch->s.heap.get? b=vQ o->H b=vZ->∃sl,h'.get? b=vQ {o with slots:=sl}) (free:∀b o,b∉ch->s.heap.get? b=vQ o->H b=vZ->H' b=vZ)
  (there:∀b o,b∉ch->s.heap.get? b=vQ o->∃o',h'.get? b=vQ o')
  (tups:∀b xs,H b=vQ (.tup xs)->H' b=vQ (.tup xs)) (frzs:∀b o u,H b=vQ (.frz o u)->H' b=vQ (.frz o u)) (tbls:∀b ps,H b=vQ (.tbl ps)->∃more,H' b=vQ (.tbl (ps++more)))
  (ns:∀m,s.heap.Ns X.env.locals m->h'.Ns X.env.locals m) (hok:HOk X.prog X.w H' h') (hg:AllBare g'):
  Inv X xU σ H' {s with heap:=h',gens:=g',drawn:=d',toks:=t'}:=by
 have neL:∀b o,X.s₀.heap.get? b=vQ o->b≠X.env.locals:=λb o e=>zM (zW (zj e) I.ok.above)
 have neC:∀b o,X.s₀.heap.get? b=vQ o->b∉X.ex->b∉ch:=λb o e hx hb=>by
  rcases(hch b hb).1 with z|z
  ·exact hx z
  ·exact absurd (zW (zj e) z) (zR _)
 have cellK:∀x c,X.env.cells.lookup x=vQ c->∀v,s.heap.IsCell c v->h'.IsCell c v:=λx c e v ⟨o,ho,hd⟩=>by
  have nch:c∉ch:=λz=>(hch c z).2.2.1 x c e rfl
  by_cases hc:c∈X.fs
  ·obtain⟨sl,q⟩:=slot c o (I.cne x c e) hc nch ho (I.Gp x c e);exact⟨_,q,hd⟩
  ·exact⟨o,keep c o (I.cne x c e) hc nch ho (I.Gp x c e),hd⟩
 refine⟨I.ok,I.os,hg,⟨λb o e n hb hx=>?_,λb o e n hb hx=>?_,λb o e n hx=>?_,λb o e hx=>?_,λb xs e=>tups b xs (I.base.tups b xs e),λb o xs e=>frzs b o xs (I.base.frzs b o xs e),λb ps e=>?_⟩,?_,λx c e=>?_,?_,λx c e=>?_,λp hp=>?_,hok,I.len⟩
 ·exact keep b o (neL b o e) hb (neC b o e hx) (I.base.keep b o e n hb hx) (I.base.free b o e n hx)
 ·obtain⟨sl,e1⟩:=I.base.slot b o e n hb hx;obtain⟨sl',e2⟩:=slot b _ (neL b o e) hb (neC b o e hx) e1 (I.base.free b o e n hx);exact⟨sl',e2⟩
 ·obtain⟨o',e1⟩:=I.base.there b o e hx;exact free b o' (neC b o e hx) e1 (I.base.free b o e n hx)
 ·obtain⟨o',e1⟩:=I.base.there b o e hx;exact there b o' (neC b o e hx) e1
 ·obtain⟨m1,e1⟩:=I.base.tbls b ps e;obtain⟨m2,e2⟩:=tbls b _ e1;exact⟨m1++m2,by rw[e2,Array.append_assoc]⟩
 ·obtain⟨m,hn,hl⟩:=I.loc;refine⟨m,ns m hn,λi x v e1 e2 e3=>?_⟩;obtain⟨u,r,l⟩:=hl i x v e1 e2 e3;refine⟨u,r,?_⟩;rcases l with l|⟨k,c,e,z⟩
  ·exact .inl l
  ·exact .inr ⟨k,c,e,cellK x c e _ z⟩
 ·obtain⟨v,z⟩:=I.cell x c e;exact⟨v,cellK x c e v z⟩
 ·obtain⟨m,⟨o,_,_,ho,_⟩,_⟩:=I.loc;exact free _ o (λz=>(hch _ z).2.1 rfl) ho I.free
 ·obtain⟨v,o,ho,hd⟩:=I.cell x c e;exact free c o (λz=>(hch c z).2.2.1 x c e rfl) ho (I.Gp x c e)
 ·obtain⟨e,n,ne,nf,d⟩:=I.pin p hp;have nch:p.1∉ch:=λz=>(hch p.1 z).2.2.2 p hp rfl
  exact⟨keep p.1 p.2 ne nf nch e n,free p.1 p.2 nch e n,ne,nf,d⟩
theorem Inv.un(I:Inv X xU σ H s)(u:Un X.fs [] H H' s.heap h')(hok:HOk X.prog X.w H' h'):Inv X xU σ H' {s with heap:=h',toks:=t'}:=by
 obtain⟨m,⟨o,es,ep,ho,r⟩,_⟩:=id I.loc;obtain⟨sl,hL⟩:=u.any ho I.free (by simp)
 exact I.step (g':=s.gens) (d':=s.drawn) (ch:=[]) (λ_ z=>nomatch z) (λb o _ hb _ e n=>u.keep b o e n hb (by simp)) (λb o _ hb _ e n=>u.slot b o e n hb (by simp)) (λb o _ e n=>u.free b o e n (by simp)) (λb o _ e=>u.there b o e (by simp)) u.tups u.frzs u.tbls (λm' hm=>by obtain⟨o',es',ep',ho',r'⟩:=hm;rw[ho]at ho';cases ho';exact⟨_,es',ep',hL,r'⟩) hok I.bare
theorem Inv.call{g':Array GenState}{d':Drawn}(I:Inv X xU σ H s)(u:Un (frs X.stack) ch H H' s.heap h')(hok:HOk X.prog X.w H' h')(hg:AllBare g')
  (hch:∀b∈ch,(b∈X.ex∨X.s₀.heap.objs.size<=b)/\b≠X.env.locals/\(∀x c,X.env.cells.lookup x=vQ c->c≠b)/\∀p∈X.pn++xU,p.1≠b):
  Inv X xU σ H' {s with heap:=h',gens:=g',drawn:=d',toks:=t'}:=by
 obtain⟨m,⟨o,es,ep,ho,r⟩,_⟩:=id I.loc;obtain⟨sl,hL⟩:=u.any ho I.free λz=>(hch _ z).2.1 rfl
 exact I.step (ch:=ch) hch (λb o hL hb hc e n=>u.keep b o e n (λz=>(zz.mp (I.X7 b z)).elim hL hb) hc) (λb o _ _ hc e n=>u.any e n hc) (λb o hc e n=>u.free b o e n hc) (λb o hc e=>u.there b o e hc) u.tups u.frzs u.tbls (λm' hm=>by obtain⟨o',es',ep',ho',r'⟩:=hm;rw[ho]at ho';cases ho';exact⟨_,es',ep',hL,r'⟩) hok hg
theorem Inv.turned{it:jC}(I:Inv X xU σ H s)(k:∀b o,b≠it->s.heap.get? b=vQ o->h'.get? b=vQ o)(hn:H it=vZ)(hL:it≠X.env.locals)
  (h1:it∈X.ex∨X.s₀.heap.objs.size<=it) (h2:∀x c,X.env.cells.lookup x=vQ c->c≠it) (h3:∀p∈X.pn++xU,p.1≠it):Inv X xU σ H {s with heap:=h',toks:=t'}:=by
 have nit:∀b u,H b=vQ u->b≠it:=λb u e z=>by rw[z,hn]at e;cases e
 refine I.step (g':=s.gens) (d':=s.drawn) (ch:=[it]) (λb hb=>?_) (λb o _ _ hc e _=>k b o (λz=>hc (by simp[z])) e) (λb o _ _ hc e _=>⟨o.slots,k b o (λz=>hc (by simp[z])) e⟩) (λ_ _ _ _ n=>n)
  (λb o hc e=>⟨o,k b o (λz=>hc (by simp[z])) e⟩) (λ_ _ e=>e) (λ_ _ _ e=>e) (λb ps e=>⟨#[],by rw[e];simp⟩) (λm hm=>?_) (λb u e=>?_) I.bare
 ·have e:b=it:=by simpa using hb
  subst e;exact⟨h1,hL,h2,h3⟩
 ·obtain⟨o,es,ep,ho,r⟩:=hm;exact⟨o,es,ep,k _ o (Ne.symm hL) ho,r⟩
 ·refine(I.hok b u e).stay (λc v hc q=>k c v ?_ q) (λ_ q=>q) λ_ _ q=>q
  rcases hc with z|z
  ·rw[z];exact nit b u e
  ·exact nit c _ z
theorem Inv.tok(I:Inv X xU σ H s)(t:Nat):Inv X xU σ H {s with toks:=t}:=I.un (h':=s.heap) (t':=t) Un.refl I.hok
theorem Inv.kept(I:Inv X xU σ H s)(k:∀b u,s.heap.get? b=vQ u->h'.get? b=vQ u):Inv X xU σ H {s with heap:=h',toks:=t'}:=I.un (Un.kept k) (I.hok.kept k)
theorem Inv.laid(I:Inv X xU σ H s)(k:∀b u,s.heap.get? b=vQ u->h'.get? b=vQ u)(hp:s.heap.objs.size<=a)(new:ObjOk X.prog X.w (upd H a o) h' a o):
  Inv X xU σ (upd H a o) {s with heap:=h',toks:=t'}:=I.un (Un.laid k hp (I.hok.fresh hp)) (I.hok.laid k hp new)
theorem Inv.write{x e:jC}(I:Inv X xU σ H s)(mu:Mut (H x))(he:e=x∨H e=vQ (.own x))(k:∀b u,b≠e->s.heap.get? b=vQ u->h'.get? b=vQ u)(heo:∃u,h'.get? e=vQ u)
  (new:ObjOk X.prog X.w (upd H x o) h' x o):Inv X xU σ (upd H x o) {s with heap:=h',toks:=t'}:=I.un (Un.write mu he k heo) (I.hok.write mu he k heo new)
theorem Inv.Lj{pins':List (jC×Obj)}(I:Inv X xU σ H s)(h:∀p∈pins',s.heap.get? p.1=vQ p.2/\H p.1=vZ/\p.1≠X.env.locals/\p.1∉X.fs/\∀v,p.2.data≠ .cell v):Inv X pins' σ H s:=
 ⟨I.ok,I.os,I.bare,I.base,I.loc,I.cell,I.free,I.Gp,λp hp=>(zF.mp hp).elim (λz=>I.pin p (jq _ z)) (h p),I.hok,I.len⟩
theorem ZDo{N:List Str}(hN:N.Nodup){j:Nat}(a:N[i]?=vQ x)(b:N[j]?=vQ x):i=j:=by obtain⟨h1,e1⟩:=zJ.mp a;obtain⟨h2,e2⟩:=zJ.mp b;exact(List.getElem_inj hN).mp (e1.trans e2.symm)
theorem ZFK{M:Model}{A:jD}{E:jN->jL->Prop}(I:Inv X xU σ H s)(hN:X.N.Nodup)(hi:X.N[i]?=vQ x)(hx:Loc X.env.scope x)(r:RelV v u)
  (h:∀s',Inv X xU (σ.set i (vQ v)) H s'->(∃a,Heap.SameBut a s.heap s'.heap/\(a=X.env.locals∨X.env.cells.lookup x=vQ a))->Q () s') (hf:X.fn x=vJ∨X.env.scope.names.lookup x=vQ .local:=by first|exact .inl rfl|exact .inr rfl|assumption):xF M A (storeName X.env x u) Q E s:=by
 obtain⟨m,hn,hl⟩:=id I.loc;have hcls:(X.env.scope.kind == .class||(X.env.scope.kind == .module&&X.env.locals != X.env.globals))=vX:=by rw[I.ok.kind];rfl
 have hiσ:i<σ.length:=by rw[I.len];exact(zJ.mp hi).1
 have cne:=I.cne;have tracked:∀{a:jC}{h':Heap},(∃o,s.heap.get? a=vQ o/\H a=vZ)->Heap.SameBut a s.heap h'->HOk X.prog X.w H h':=λ{a h'}ha hs b ob e=>by
  obtain⟨_,_,hfree⟩:=ha;refine(I.hok b ob e).stay (λc w' hc q=>(hs.2 c ?_).trans q) (λ_ q=>q) λ_ _ q=>q
  rintro rfl;rcases hc with rfl|hc
  ·rw[hfree]at e;cases e
  ·rw[hfree]at hc;cases hc
 rcases hx with hk|hk
 ·refine wpAny_storeName_local hk hn (λh' hn' hs=>?_) hcls;obtain⟨oL,_,_,hoL,_⟩:=id hn;refine h _ ⟨I.ok,I.os,I.bare,⟨λb o e n hb hx=>?_,λb o e n hb hx=>?_,I.base.free,λb o e hx=>?_,I.base.tups,I.base.frzs,I.base.tbls⟩,⟨_,hn',λj y v' e1 e2 e3=>?_⟩,λy c e=>?_,I.free,I.Gp,λp hp=>?_,tracked ⟨oL,hoL,I.free⟩ hs,by simpa using I.len⟩ ⟨_,hs,.inl rfl⟩
  ·exact(hs.2 b (zM (zW (zj e) I.ok.above))).trans (I.base.keep b o e n hb hx)
  ·obtain⟨sl,e1⟩:=I.base.slot b o e n hb hx;exact⟨sl,(hs.2 b (zM (zW (zj e) I.ok.above))).trans e1⟩
  ·obtain⟨o',e1⟩:=I.base.there b o e hx;exact⟨o',(hs.2 b (zM (zW (zj e) I.ok.above))).trans e1⟩
  ·by_cases hj:j=i
   ·subst hj;rw[hi]at e1;cases e1;rw[j0 hiσ]at e2;cases e2;exact⟨u,r,.inl ⟨hk,by simp⟩⟩
   ·rw[qI (Ne.symm hj)]at e2;obtain⟨u',r',q⟩:=hl j y v' e1 e2 e3;refine⟨u',r',?_⟩;rcases q with⟨k,e⟩|⟨k,c,e,z⟩
    ·refine .inl ⟨k,?_⟩;have:y≠x:=λe=>hj (ZDo hN e1 (e▸hi))
     simp[this,e]
    ·exact .inr ⟨k,c,e,z.sameBut hs (cne y c e)⟩
  ·obtain⟨w',z⟩:=I.cell y c e;exact⟨w',z.sameBut hs (cne y c e)⟩
  ·obtain⟨e,n,ne,nf,d⟩:=I.pin p hp;exact⟨(hs.2 p.1 ne).trans e,n,ne,nf,d⟩
 ·have hfn:X.fn x=vJ:=by
   rcases hf with z|z
   ·exact z
   ·rw[z]at hk;cases hk
  obtain⟨c,hc⟩:=I.ok.has x (.inl hk);obtain⟨w',z⟩:=I.cell x c hc;refine wpAny_storeName_cell I.ok.kind hk hc z (λh' hc' hs=>?_);obtain⟨oc,hoc,hocd⟩:=id z;refine h {s with heap:=h'} ⟨I.ok,I.os,I.bare,⟨λb o e n hb hx=>?_,λb o e n hb hx=>?_,I.base.free,λb o e hx=>?_,I.base.tups,I.base.frzs,I.base.tbls⟩,⟨m,hn.sameBut hs (Ne.symm (cne x c hc)),λj y v' e1 e2 e3=>?_⟩,λy c' e=>?_,I.free,I.Gp,λp hp=>?_,tracked ⟨oc,hoc,I.Gp x c hc⟩ hs,by simpa using I.len⟩ ⟨c,hs,.inr hc⟩
  ·exact(hs.2 b (zM (zW (zj e) (I.ok.cab x c hfn hc)))).trans (I.base.keep b o e n hb hx)
  ·obtain⟨sl,e1⟩:=I.base.slot b o e n hb hx;exact⟨sl,(hs.2 b (zM (zW (zj e) (I.ok.cab x c hfn hc)))).trans e1⟩
  ·obtain⟨o',e1⟩:=I.base.there b o e hx;exact⟨o',(hs.2 b (zM (zW (zj e) (I.ok.cab x c hfn hc)))).trans e1⟩
  ·by_cases hj:j=i
   ·subst hj;rw[hi]at e1;cases e1;rw[j0 hiσ]at e2;cases e2;exact⟨u,r,.inr ⟨.inl hk,c,hc,hc'⟩⟩
   ·rw[qI (Ne.symm hj)]at e2;obtain⟨u',r',q⟩:=hl j y v' e1 e2 e3;refine⟨u',r',?_⟩;rcases q with q|⟨k,c',e,z'⟩
    ·exact .inl q
    ·refine .inr ⟨k,c',e,z'.sameBut hs ?_⟩;rintro rfl;exact hj (ZDo hN e1 (I.ok.inj _ _ _ e hc▸hi))
  ·by_cases hcc:c'=c
   ·subst hcc;exact⟨_,hc'⟩
   ·obtain⟨w2,z2⟩:=I.cell y c' e;exact⟨w2,z2.sameBut hs hcc⟩
  ·obtain⟨e,n,ne,nf,d⟩:=I.pin p hp;refine⟨(hs.2 p.1 ?_).trans e,n,ne,nf,d⟩;intro q;rw[q,hoc]at e;have q':oc=p.2:=Option.some.inj e;exact d w' (by rw[<-q'];exact hocd)
theorem ZDl{M:Model}{A:jD}{E:jN->jL->Prop}(I:Inv X xU σ H s)(hN:X.N.Nodup)(hi:X.N[i]?=vQ x)(hx:Loc X.env.scope x)(r:RelV v u)
  (h:∀s',Inv X xU (σ.set i (vQ v)) H s'->Q () s') (hf:X.fn x=vJ∨X.env.scope.names.lookup x=vQ .local:=by first|exact .inl rfl|exact .inr rfl|assumption):xF M A (storeName X.env x u) Q E s:=
 ZFK I hN hi hx r (λs' I' _=>h s' I') hf
theorem Inv.call'{s':jL}(I:Inv X xU σ H s)(ho:s'.os=s.os)(u:Un (frs X.stack) ch H H' s.heap s'.heap)(hok:HOk X.prog X.w H' s'.heap)(hg:AllBare s'.gens)
  (hch:∀b∈ch,(b∈X.ex∨X.s₀.heap.objs.size<=b)/\b≠X.env.locals/\(∀x c,X.env.cells.lookup x=vQ c->c≠b)/\∀p∈X.pn++xU,p.1≠b):Inv X xU σ H' s':=by
 obtain⟨h',g',d',t',o'⟩:=s';have e:o'=s.os:=ho;subst e;exact I.call (g':=g') (t':=t') (d':=d') u hok hg hch
end
noncomputable abbrev XK:=jN->Option jC->Hp->Prop
noncomputable abbrev St:=List (Option V)
variable{σ:St}
noncomputable abbrev VK:=V->Hp->Prop
noncomputable abbrev TE:=St->Hp->VK->Prop
noncomputable abbrev TT:=St->Hp->(Bool->Hp->Prop)->Prop
noncomputable abbrev TA:=St->Hp->(List V->Hp->Prop)->Prop
structure Ends where
 nx:St->Hp->Prop
 rt:VK
 bk:St->Hp->Prop:=λ_ _=>False
 ct:St->Hp->Prop:=λ_ _=>False
noncomputable abbrev TS:=Ends->St->Hp->Prop
def EP(X:Cx)(xU:List (jC×Obj))(σ:St)(Q:VK)(u:jN)(s':jL):Prop:=∃v H',Inv X xU σ H' s'/\RelV v u/\Q v H'
def TP(X:Cx)(xU:List (jC×Obj))(σ:St)(Q:Bool->Hp->Prop)(b:Bool)(s':jL):Prop:=∃H',Inv X xU σ H' s'/\Q b H'
def AP(X:Cx)(xU:List (jC×Obj))(σ:St)(Q:List V->Hp->Prop)(us:List jN)(s':jL):Prop:=∃vs H',Inv X xU σ H' s'/\Vals vs us/\Q vs H'
def SP(X:Cx)(xU:List (jC×Obj))(D:Ends)(f:Flow)(s':jL):Prop:=
 match f with
 |.next=>∃σ' H',Inv X xU σ' H' s'/\D.nx σ' H'
 |.brk=>∃σ' H',Inv X xU σ' H' s'/\D.bk σ' H'
 |.cont=>∃σ' H',Inv X xU σ' H' s'/\D.ct σ' H'
 |.ret u=>∃v σ' H',Inv X xU σ' H' s'/\RelV v u/\D.rt v H'
def PE(X:Cx)(e:jE)(t:TE):Prop:=
 ∀(xU:List (jC×Obj))(s:jL)(σ:St)(H:Hp)(Q:VK),Inv X xU σ H s->t σ H Q->xF (x9 X.prog X.w) X.A (eval e X.env) (EP X xU σ Q) X.xe s
def PT(X:Cx)(e:jE)(t:TT):Prop:=
 ∀(xU:List (jC×Obj))(s:jL)(σ:St)(H:Hp)(Q:Bool->Hp->Prop),Inv X xU σ H s->t σ H Q->xF (x9 X.prog X.w) X.A (isTrue e X.env (eval e X.env)) (TP X xU σ Q) X.xe s
def PW(X:Cx)(e:jE)(t:TT):Prop:=
 ∀(whole:Sem jN)(xU:List (jC×Obj))(s:jL)(σ:St)(H:Hp)(Q:Bool->Hp->Prop),Inv X xU σ H s->t σ H Q->xF (x9 X.prog X.w) X.A (isTrue e X.env whole) (TP X xU σ Q) X.xe s
theorem PW.pt{t:TT}(h:PW X e t):PT X e t:=h _
def PA(X:Cx)(es:List jE)(t:TA):Prop:=
 ∀(pos:Pos)(xU:List (jC×Obj))(s:jL)(σ:St)(H:Hp)(Q:List V->Hp->Prop),Inv X xU σ H s->t σ H Q->xF (x9 X.prog X.w) X.A (spliced (jS pos (xD es X.env))) (AP X xU σ Q) X.xe s
def PS(X:Cx)(st:jM)(t:TS):Prop:=
 ∀(xU:List (jC×Obj))(s:jL)(σ:St)(H:Hp)(D:Ends),Inv X xU σ H s->t D σ H->xF (x9 X.prog X.w) X.A (exec st X.env) (SP X xU D) X.xe s
def PSs(X:Cx)(st:List jM)(t:TS):Prop:=
 ∀(xU:List (jC×Obj))(s:jL)(σ:St)(H:Hp)(D:Ends),Inv X xU σ H s->t D σ H->xF (x9 X.prog X.w) X.A (execs st X.env) (SP X xU D) X.xe s
theorem thn{α:Type}{t:Sem α}{Q Q':α->jL->Prop}{M:Model}{A:jD}(h:xF M A t Q E s)(hQ:∀a s,Q a s->Q' a s):xF M A t Q' E s:=xM h hQ λ_ _ x=>x
section
variable{X:Cx}
noncomputable def M8(i:Nat):TE:=λσ H Q=>∃v,σ[i]?=vQ (vQ v)/\Q v H
noncomputable def tC(v:V):TE:=λ_ H Q=>Q v H
theorem Pr{pos:Pos}(hN:X.N[i]?=vQ x)(hv:Vis X.env.scope x)(hd:(x==("__debug__":Str))=vX:=by decide)(hcd:(x==("__classdict__":Str))=vX:=by decide):PE X (.Name x pos) (M8 i):=by
 intro xU s σ H Q I h;obtain⟨v,e,h⟩:=h;obtain⟨m,hn,hl⟩:=I.loc;obtain⟨u,r,l⟩:=hl i x v hN e hv;have fin:EP X xU σ Q u s:=⟨v,H,I,r,h⟩;rcases l with⟨hk,hm⟩|⟨hk,c,hc,hcell⟩
 ·exact wpAny_Name (wpAny_loadName_local I.ok.kind hk hn hm fin) hd
 ·rcases hk with hk|hk
  ·exact wpAny_Name (wpAny_loadName_cell I.ok.kind hk hc hcell fin) hd
  ·exact wpAny_Name (wpAny_loadName_free I.ok.kind hk hc hcell fin hcd) hd
theorem ZKQ{i j pos}:PE X (.Constant (.int i) j pos) (tC (.int i)):=λ_ _ _ H _ I h=>wpAny_Constant_int ⟨.int i,H,I.tok _,⟨_,rfl⟩,h⟩
theorem ZJw{b j pos}:PE X (.Constant (.bool b) j pos) (tC (.bl b)):=λ_ _ _ H _ I h=>Constant_bool ⟨.bl b,H,I,rfl,h⟩
theorem ZK5{j pos}:PE X (.Constant .none j pos) (tC .non):=λ_ _ _ H _ I h=>Constant_none ⟨.non,H,I,rfl,h⟩
theorem Yg{x j pos}:PE X (.Constant (.str x) j pos) (tC (.str x)):=λ_ _ _ H _ I h=>Calls.Constant_str ⟨.str x,H,I.tok _,⟨_,rfl⟩,h⟩
def Gl(X:Cx)(x:Str):Prop:=X.env.kindOf x=vQ .globalImplicit
theorem Lz{E:jN->jL->Prop}{pos:Pos}{Q:jN->jL->Prop}(I:Inv X xU σ H s)(hg:Gl X x)(hm:X.mg x=vQ u)(h:Q u s)
  (hd:(x==("__debug__":Str))=vX:=by decide):xF (x9 X.prog X.w) X.A (eval (.Name x pos) X.env) Q E s:=
 Calls.Name_function_global I.ok.kind hg (Calls.loadGlobal_global (by rw[I.ok.glob];exact I.mod.glob.keeps I.bk) hm h) hd
theorem Vy{E:jN->jL->Prop}{pos:Pos}{Q:jN->jL->Prop}(I:Inv X xU σ H s)(hg:Gl X x)(hm:X.mg x=vZ)(hv:xQ x=vQ u)(h:Q u s)
  (hn:x≠"__name__":=by decide) (hd:(x==("__debug__":Str))=vX:=by decide):xF (x9 X.prog X.w) X.A (eval (.Name x pos) X.env) Q E s:=by
 obtain⟨mb,h1,h2⟩:=I.mod.blt;exact Calls.Name_function_global I.ok.kind hg (Calls.loadGlobal_builtin (by rw[I.ok.glob];exact I.mod.glob.keeps I.bk) hm (by rw[I.ok.blt];exact h1.keeps I.bk) ((h2 x hn).trans hv) h) hd
theorem ZGB{pos:Pos}(hg:Gl X x)(hm:X.mg x=vQ u)(r:RelV v u)(hd:(x==("__debug__":Str))=vX:=by decide):PE X (.Name x pos) (tC v):=
 λ_ _ _ H _ I h=>Lz I hg hm ⟨v,H,I,r,h⟩ hd
theorem ZGD{pos:Pos}(hg:Gl X x)(hm:X.mg x=vZ)(hv:xQ x=vQ u)(r:RelV v u)(hn:x≠"__name__":=by decide)(hd:(x==("__debug__":Str))=vX:=by decide):PE X (.Name x pos) (tC v):=
 λ_ _ _ H _ I h=>Vy I hg hm hv ⟨v,H,I,r,h⟩ hn hd
variable{a b:jE}{ta tb:TE}{pos:Pos}
noncomputable def tB(t:TE):TT:=λσ H Q=>t σ H λx H1=>∃c,x=.bl c/\Q c H1
theorem ZKK{t:TE}(h:PE X e t)(he:∀whole,isTrue e X.env whole=(do let v<-whole;standAt e.pos;holding [v] (truthy v)):=by intro _;rfl):PT X e (tB t):=by intro xU s σ H Q I hw;refine isTrue_plain (thn (h xU s σ H _ I hw) λv s1 ⟨x,H1,I1,r1,q1⟩=>?_) (he _);obtain⟨d,rfl,q⟩:=q1;cases r1;exact xR ⟨H1,I1,q⟩
variable{tA tB':TT}{rest:List jE}
noncomputable def tAnd(t u:TT):TT:=λσ H Q=>t σ H λc H1=>if c=vJ then u σ H1 Q else Q vX H1
noncomputable def tOr(t u:TT):TT:=λσ H Q=>t σ H λc H1=>if c=vJ then Q vJ H1 else u σ H1 Q
noncomputable def tNot(t:TT):TT:=λσ H Q=>t σ H λc H1=>Q (!c) H1
theorem pw_and1(ha:PT X a tA):PW X (.BoolOp .And [a] pos) tA:=by
 intro wh xU s σ H Q I h;refine isTrue_and (thn (ha xU s σ H Q I h) λc s1 e=>?_);cases c with
 |true=>exact isTrue_and_nil e
 |false=>exact e
theorem pw_or1(ha:PT X a tA):PW X (.BoolOp .Or [a] pos) tA:=by
 intro wh xU s σ H Q I h;refine isTrue_or (thn (ha xU s σ H Q I h) λc s1 e=>?_);cases c with
 |false=>exact isTrue_or_nil e
 |true=>exact e
theorem pw_and(ha:PT X a tA)(hb:PW X (.BoolOp .And (b::rest) pos) tB'):PW X (.BoolOp .And (a::b::rest) pos) (tAnd tA tB'):=by
 intro wh xU s σ H Q I h;refine isTrue_and (thn (ha xU s σ H _ I h) λc s1 ⟨H1,I1,q1⟩=>?_);cases c with
 |true=>exact hb wh xU s1 σ H1 Q I1 q1
 |false=>exact⟨H1,I1,q1⟩
theorem pw_or(ha:PT X a tA)(hb:PW X (.BoolOp .Or (b::rest) pos) tB'):PW X (.BoolOp .Or (a::b::rest) pos) (tOr tA tB'):=by
 intro wh xU s σ H Q I h;refine isTrue_or (thn (ha xU s σ H _ I h) λc s1 ⟨H1,I1,q1⟩=>?_);cases c with
 |true=>exact⟨H1,I1,q1⟩
 |false=>exact hb wh xU s1 σ H1 Q I1 q1
theorem ZOx(ha:PT X a tA):PT X (.UnaryOp .Not a pos) (tNot tA):=by intro xU s σ H Q I h;exact isTrue_not (ha xU s σ H (λc H1=>Q (!c) H1) I h)
noncomputable def ZK9(ta tb:TE):TE:=λσ H Q=>ta σ H λx H1=>∃c,x=.bl c/\if c=vJ then tb σ H1 Q else Q (.bl vX) H1
noncomputable def tOrV(ta tb:TE):TE:=λσ H Q=>ta σ H λx H1=>∃c,x=.bl c/\if c=vJ then Q (.bl vJ) H1 else tb σ H1 Q
noncomputable def ZJf(ta:TE):TE:=λσ H Q=>ta σ H λx H1=>∃c,x=.bl c/\Q (.bl (!c)) H1
theorem ZOi{op}{t:TE}(h:PE X a t):PE X (.BoolOp op [a] pos) t:=λxU s σ H Q I hw=>BoolOp_one (h xU s σ H Q I hw)
theorem ZL3(ha:PE X a ta)(hb:PE X (.BoolOp .And (b::rest) pos) tb):PE X (.BoolOp .And (a::b::rest) pos) (ZK9 ta tb):=by
 intro xU s σ H Q I h;refine BoolOp_and (thn (ha xU s σ H _ I h) λv s1 ⟨x,H1,I1,r1,q1⟩=>?_);obtain⟨c,rfl,q1⟩:=q1;cases r1;refine xR ?_;cases c with
 |true=>exact hb xU s1 σ H1 Q I1 q1
 |false=>exact⟨.bl vX,H1,I1,rfl,q1⟩
theorem ZJT(ha:PE X a ta)(hb:PE X (.BoolOp .Or (b::rest) pos) tb):PE X (.BoolOp .Or (a::b::rest) pos) (tOrV ta tb):=by
 intro xU s σ H Q I h;refine BoolOp_or (thn (ha xU s σ H _ I h) λv s1 ⟨x,H1,I1,r1,q1⟩=>?_);obtain⟨c,rfl,q1⟩:=q1;cases r1;refine xR ?_;cases c with
 |false=>exact hb xU s1 σ H1 Q I1 q1
 |true=>exact⟨.bl vJ,H1,I1,rfl,q1⟩
theorem ZIy(ha:PE X a ta):PE X (.UnaryOp .Not a pos) (ZJf ta):=by intro xU s σ H Q I h;refine UnaryOp_ (thn (ha xU s σ H _ I h) λv s1 ⟨x,H1,I1,r1,q1⟩=>?_);obtain⟨c,rfl,q1⟩:=q1;cases r1;exact not_of (xR ⟨.bl (!c),H1,I1,rfl,q1⟩)
end
def SqL(K:PySem.W.Frag)(H:Hp)(a:jC)(xs:List V):Prop:=
 Rd H a (.lst xs)∨
  ∃(o:Obj)(its:Array jN)(n:Nat),K.lookup a=vQ o/\o.cls=.type "list"/\o.dict=vZ/\o.data=.seq its n/\its.size<=sizeLine/\Vals xs its.toList
def SqT(K:PySem.W.Frag)(H:Hp)(a:jC)(xs:List V):Prop:=
 Rd H a (.tup xs)∨
  ∃(o:Obj)(its:Array jN)(n:Nat),K.lookup a=vQ o/\o.cls=.type "tuple"/\o.data=.seq its n/\its.size<=sizeLine/\Vals xs its.toList
noncomputable def absV:jN->Option V
 |.none=>vQ .non
 |.bool b=>vQ (.bl b)
 |.int i _=>vQ (.int i)
 |.str x _=>vQ (.str x)
 |.bytes b _=>vQ (.byt b)
 |.float b _=>vQ (.flt b)
 |.ref a=>vQ (.ref a)
 |.type n=>vQ (.ty n)
 |_=>vZ
theorem RelV.abs{x:V}(r:RelV x u):absV u=vQ x:=by
 cases x with
 |non=>cases r;rfl
 |bl _=>cases r;rfl
 |int _=>obtain⟨t,rfl⟩:=r;rfl
 |str _=>obtain⟨t,rfl⟩:=r;rfl
 |byt _=>obtain⟨t,rfl⟩:=r;rfl
 |flt _=>obtain⟨t,rfl⟩:=r;rfl
 |ref _=>cases r;rfl
 |ty _=>cases r;rfl
theorem RelV.inj{x y:V}(r:RelV x u)(q:RelV y u):x=y:=Option.some.inj (r.abs.symm.trans q.abs)
theorem Vals.inj:∀{xs ys:List V}{us:List jN},Vals xs us->Vals ys us->xs=ys
 |_,_,_,.nil,.nil=>rfl
 |_,_,_,.cons r t,.cons r' t'=>by rw[r.inj r',Vals.inj t t']
section
variable{X:Cx}{xU:List (jC×Obj)}{σ:St}{H:Hp}{s:jL}{a:jC}{xs ys:List V}
theorem SqL.of(h:H a=vQ (.lst xs)):SqL K H a xs:=.inl (.inl h)
theorem SqT.of(h:H a=vQ (.tup xs)):SqT K H a xs:=.inl (.inl h)
theorem Inv.list(I:Inv X xU σ H s)(h:SqL X.K H a xs):∃its:List jN,Vals xs its/\PlainL s.heap a its.toArray/\xs.length<=sizeLine:=by
 rcases h with h|⟨o,its,n,hk,hc,hd,hs,hz,r⟩
 ·obtain⟨z,its,n,r,e⟩:=h.ok I.hok;exact⟨its,r,⟨_,n,e,rfl,rfl,rfl⟩,z⟩
 ·refine⟨its.toList,r,⟨o,n,I.kIn a o hk,hc,hd,by simpa using hs⟩,?_⟩;have e:=r.length;simp only[jj]at e;lia
theorem Inv.tuple(I:Inv X xU σ H s)(h:SqT X.K H a xs):∃its:List jN,Vals xs its/\IsTup s.heap a its.toArray/\xs.length<=sizeLine:=by
 rcases h with h|⟨o,its,n,hk,hc,hs,hz,r⟩
 ·obtain⟨z,its,r,p⟩:=h.ok I.hok;exact⟨its,r,p,z⟩
 ·refine⟨its.toList,r,⟨o,I.kIn a o hk,hc,n,by simpa using hs⟩,?_⟩;have e:=r.length;simp only[jj]at e;lia
theorem Inv.ZFG(I:Inv X xU σ H s)(h:SqL X.K H a xs)(h':SqL X.K H a ys):xs=ys:=by
 obtain⟨its,r,⟨o,n,e,_,_,d⟩,_⟩:=I.list h;obtain⟨its',r',⟨o',n',e',_,_,d'⟩,_⟩:=I.list h';rw[e]at e';cases e';rw[d]at d';injection d' with d1 _
 have:its=its':=by simpa using congrArg Array.toList d1
 subst this;exact r.inj r'
theorem Inv.ZF4(I:Inv X xU σ H s)(h:SqT X.K H a xs)(h':SqT X.K H a ys):xs=ys:=by
 obtain⟨its,r,⟨o,e,_,n,d⟩,_⟩:=I.tuple h;obtain⟨its',r',⟨o',e',_,n',d'⟩,_⟩:=I.tuple h';rw[e]at e';cases e';rw[d]at d';injection d' with d1 _
 have:its=its':=by simpa using congrArg Array.toList d1
 subst this;exact r.inj r'
end
noncomputable abbrev Cx.wish(X:Cx)(E:jN->jL->Prop):Cx:={X with xe:=E}
noncomputable abbrev Cx.nox(X:Cx):Cx:=X.wish λ_ _=>False
theorem Cx.Ok.wish(ok:X.Ok)(E:jN->jL->Prop):(X.wish E).Ok:=
 ⟨ok.mod,ok.kind,ok.glob,ok.blt,ok.above,ok.inj,ok.has,ok.cab,ok.hd,ok.frames,ok.stk,ok.exf,ok.bs,ok.bsz,ok.noex,ok.exfs,ok.funs,ok.frf⟩
theorem Cx.Ok.unwish(ok:(X.wish E).Ok):X.Ok:=
 ⟨ok.mod,ok.kind,ok.glob,ok.blt,ok.above,ok.inj,ok.has,ok.cab,ok.hd,ok.frames,ok.stk,ok.exf,ok.bs,ok.bsz,ok.noex,ok.exfs,ok.funs,ok.frf⟩
section
variable{X:Cx}{xU:List (jC×Obj)}{σ:St}{H:Hp}{s:jL}{E:jN->jL->Prop}
theorem Inv.wish(I:Inv X xU σ H s)(E:jN->jL->Prop):Inv (X.wish E) xU σ H s:=⟨I.ok.wish E,I.os,I.bare,I.base,I.loc,I.cell,I.free,I.Gp,I.pin,I.hok,I.len⟩
theorem Inv.unwish(I:Inv (X.wish E) xU σ H s):Inv X xU σ H s:=⟨I.ok.unwish,I.os,I.bare,I.base,I.loc,I.cell,I.free,I.Gp,I.pin,I.hok,I.len⟩
theorem SP.unwish{D:Ends}{f:Flow}{s':jL}(h:SP (X.wish E) xU D f s'):SP X xU D f s':=by
 cases f with
 |next=>obtain⟨σ',H',I,q⟩:=h;exact⟨σ',H',I.unwish,q⟩
 |brk=>obtain⟨σ',H',I,q⟩:=h;exact⟨σ',H',I.unwish,q⟩
 |cont=>obtain⟨σ',H',I,q⟩:=h;exact⟨σ',H',I.unwish,q⟩
 |ret u=>obtain⟨v,σ',H',I,r,q⟩:=h;exact⟨v,σ',H',I.unwish,r,q⟩
theorem PSs.nox{st:List jM}{t:TS}(h:PSs X.nox st t):PSs X st t:=λxU s σ H D I hw=>
 xM (h xU s σ H D (I.wish _) hw) (λ_ _ q=>q.unwish) λ_ _ z=>False.elim z
end
section
variable{X:Cx}{st:jM}{rest:List jM}{t u:TS}{e:jE}{te:TE}{pos:Pos}
noncomputable def ZMV:TS:=λD σ H=>D.nx σ H
noncomputable def tSeq(t u:TS):TS:=λD σ H=>t {D with nx:=u D} σ H
theorem ZMi:PSs X [] ZMV:=λ_ _ σ H _ I h=>wpAny_execs_nil ⟨σ,H,I,h⟩
theorem ZF0(h1:PS X st t)(h2:PSs X rest u):PSs X (st::rest) (tSeq t u):=by
 intro xU s σ H D I h;refine wpAny_execs_cons (thn (h1 xU s σ H {D with nx:=u D} I h) λf s1 q=>?_);cases f with
 |next=>
  obtain⟨σ',H',I',q⟩:=q;exact h2 xU s1 σ' H' D I' q
 |ret v=>exact q
 |brk=>exact q
 |cont=>exact q
theorem ZG4(h1:PS X st t):PSs X [st] t:=by
 intro xU s σ H D I h;refine wpAny_execs_cons (thn (h1 xU s σ H D I h) λf s1 q=>?_);cases f with
 |next=>exact wpAny_execs_nil q
 |ret v=>exact q
 |brk=>exact q
 |cont=>exact q
theorem Inv.quiet(I:Inv X xU σ H s):interactive X.env=vX:=by simp[interactive,I.ok.kind]
noncomputable def ZLk(te:TE):TS:=λD σ H=>te σ H λ_ H1=>D.nx σ H1
theorem ZG3(he:PE X e te)(hs:swapsWith e vZ pos.line X.env=pure vX:=by rfl):PS X (.Expr e pos) (ZLk te):=by intro xU s σ H D I h;exact wpAny_Expr_any (thn (he xU s σ H _ I h) λv s1 ⟨x,H1,I1,r1,q1⟩=>⟨σ,H1,I1,q1⟩) I.quiet hs
noncomputable def tRet(te:TE):TS:=λD σ H=>te σ H D.rt
theorem ZKX(he:PE X e te):PS X (.Return (vQ e) pos) (tRet te):=by intro xU s σ H D I h;exact wpAny_Return_some (thn (he xU s σ H _ I h) λv s1 ⟨x,H1,I1,r1,q1⟩=>⟨x,σ,H1,I1,r1,q1⟩)
noncomputable def tIfS(c:TT)(t u:TS):TS:=λD σ H=>c σ H λb H1=>if b=vJ then t D σ H1 else u D σ H1
theorem ZNf{c:jE}{a b:List jM}{tc:TT}(hc:PT X c tc)(ha:PSs X a t)(hb:PSs X b u):PS X (.If c a b pos) (tIfS tc t u):=by
 intro xU s σ H D I h;refine wpAny_If (thn (hc xU s σ H _ I h) λd s1 ⟨H1,I1,q1⟩=>?_);cases d with
 |true=>exact ha xU s1 σ H1 D I1 q1
 |false=>exact hb xU s1 σ H1 D I1 q1
end
noncomputable abbrev TG:=V->St->Hp->(St->Hp->Prop)->Prop
noncomputable abbrev TGs:=List V->St->Hp->(St->Hp->Prop)->Prop
def PG(X:Cx)(target:jE)(t:TG):Prop:=
 ∀(xU:List (jC×Obj))(s:jL)(σ:St)(H:Hp)(v:V)(u:jN)(Q:St->Hp->Prop),Inv X xU σ H s->RelV v u->t v σ H Q->
  xF (x9 X.prog X.w) X.A (assign target X.env u) (λ_ s'=>∃σ' H',Inv X xU σ' H' s'/\Q σ' H') X.xe s
def PGs(X:Cx)(ts:List jE)(t:TGs):Prop:=
 ∀(xU:List (jC×Obj))(s:jL)(σ:St)(H:Hp)(vs:List V)(us:List jN)(Q:St->Hp->Prop),Inv X xU σ H s->Vals vs us->t vs σ H Q->
  xF (x9 X.prog X.w) X.A (assignInOrder ((jP ts X.env).map (·.2)) us) (λ_ s'=>∃σ' H',Inv X xU σ' H' s'/\Q σ' H') X.xe s
noncomputable abbrev TSet:=V->V->V->Hp->(Hp->Prop)->Prop
def PSet(X:Cx)(t:TSet):Prop:=
 ∀(xU:List (jC×Obj))(s:jL)(σ:St)(H:Hp)(o i v:V)(ov iv u:jN)(Q:Hp->Prop),Inv X xU σ H s->RelV o ov->RelV i iv->RelV v u->t o i v H Q->
  xF (x9 X.prog X.w) X.A (setItem ov iv u) (λ_ s'=>∃H',Inv X xU σ H' s'/\Q H') X.xe s
section
variable{X:Cx}{pos:Pos}
noncomputable def ZFk(i:Nat):TG:=λv σ H Q=>Q (σ.set i (vQ v)) H
theorem ZM9(hN:X.N.Nodup)(hi:X.N[i]?=vQ x)(hx:Loc X.env.scope x)(hf:X.fn x=vJ∨X.env.scope.names.lookup x=vQ .local:=by first|exact .inl rfl|exact .inr rfl|assumption):PG X (.Name x pos) (ZFk i):=by intro xU s σ H v u Q I r h;exact wpAny_assign_Name (ZDl I hN hi hx r (λs' I'=>⟨_,H,I',h⟩) hf)
noncomputable def gNil:TGs:=λvs σ H Q=>vs=[]/\Q σ H
noncomputable def ZOe(t:TG)(u:TGs):TGs:=λvs σ H Q=>∃v r,vs=v::r/\t v σ H λσ' H'=>u r σ' H' Q
theorem ZIR:PGs X [] gNil:=by intro xU s σ H vs us Q I r h;obtain⟨e,h⟩:=h;subst e;cases r;exact assignInOrder_nil ⟨σ,H,I,h⟩
theorem ZNv{es:List jE}{t:TG}{u:TGs}(h1:PG X e t)(h2:PGs X es u)
  (hs:(jP (e::es) X.env).map (·.2)=assign e X.env::(jP es X.env).map (·.2):=by rfl):PGs X (e::es) (ZOe t u):=by
 intro xU s σ H vs us Q I r h;obtain⟨v,vr,e1,h⟩:=h;subst e1;cases r with
 |cons r rr=>
  rw[hs];refine assignInOrder_cons (thn (h1 xU s σ H _ _ _ I r h) λ_ s1 ⟨σ1,H1,I1,q1⟩=>?_);exact h2 xU s1 σ1 H1 _ _ Q I1 rr q1
noncomputable def gTup(K:PySem.W.Frag)(n:Nat)(t:TGs):TG:=λv σ H Q=>∃a xs,v=.ref a/\SqT K H a xs/\xs.length=n/\t xs σ H Q
theorem ZMK{es:List jE}{k:Nat}{t:TGs}{n:Nat}(hc:X.calm=vJ)(h:PGs X es t)
  (hn:(jP es X.env).length=n:=by rfl) (hst:(jP es X.env).findIdx? (·.1)=vZ:=by rfl):PG X (.Tuple es k pos) (gTup X.K n t):=by
 intro xU s σ H v u Q I r hw;obtain⟨a,xs,e1,hq,hl,hw⟩:=hw;subst e1;cases r;obtain⟨its,rv,ht,hz⟩:=I.tuple hq;refine assign_Tuple_tuple (I.ok.hd hc) ht (by simp[hn,<-hl,rv.length]) hst λh' hx=>?_
 have I1:Inv X xU σ H {s with heap:=h'}:=I.kept (t':=s.toks) λb o e=>hx b o (zM (zj e)) e
 exact h xU _ σ H xs _ Q I1 (by simpa using rv) hw
noncomputable def gSub(to ti:TE)(t:TSet):TG:=λv σ H Q=>to σ H λo H1=>ti σ H1 λi H2=>t o i v H2 λH3=>Q σ H3
theorem ZNO{o i:jE}{to ti:TE}{t:TSet}(ho:PE X o to)(hi:PE X i ti)(hs:PSet X t)
  (ha:∀v,assign (.Subscript o i pos) X.env v=(do
   let ov<-holding [v] (eval o X.env);let iv<-holding [v,ov] (eval i X.env)
   standAt pos
   holding [v,ov,iv] (setItem ov iv v)
   release [v,ov,iv] []):=by intro _;rfl):PG X (.Subscript o i pos) (gSub to ti t):=by
 intro xU s σ H v u Q I r h;rw[ha];refine xH (xL (thn (ho xU s σ H _ I h) λov s1 ⟨x,H1,I1,r1,q1⟩=>?_));refine xH (xL (thn (hi xU s1 σ H1 _ I1 q1) λiv s2 ⟨y,H2,I2,r2,q2⟩=>?_));refine xH (wpAny_standAt (xH (xL (thn (hs xU s2 σ H2 x y v ov iv u _ I2 r1 r2 r q2) λ_ s3 ⟨H3,I3,q3⟩=>?_))));exact wpAny_release ⟨σ,H3,I3,q3⟩
noncomputable def ZAp(te:TE)(g:TG):TS:=λD σ H=>te σ H λx H1=>g x σ H1 D.nx
theorem ZJO{te:TE}{g:TG}(he:PE X e te)(hg:PG X tg g)(hs:swapsWithSole [tg] e pos.line X.env=pure vX:=by rfl)(hw:swappedStores [tg] e X.env=pure vZ:=by rfl)
  (h1:(jP [tg] X.env).map (·.2)=[assign tg X.env]:=by rfl):PS X (.Assign [tg] e pos) (ZAp te g):=by
 intro xU s σ H D I h;refine wpAny_Assign_stores (thn (he xU s σ H _ I h) λv s1 ⟨x,H1,I1,r1,q1⟩=>?_) hs hw;rw[h1];exact thn (hg xU s1 σ H1 x v _ I1 r1 q1) λ_ s2 q=>q
theorem ZMh{te:TE}{pos':Pos}(hN:X.N.Nodup)(hi:X.N[i]?=vQ x)(hx:Loc X.env.scope x)(he:PE X e te)(hs:swapsWith e (vQ (.Name x pos')) pos.line X.env=pure vX:=by rfl)(hf:X.fn x=vJ∨X.env.scope.names.lookup x=vQ .local:=by first|exact .inl rfl|exact .inr rfl|assumption):
  PS X (.Assign [.Name x pos'] e pos) (ZAp te (ZFk i)):=by
 intro xU s σ H D I h;refine wpAny_Assign_Name (thn (he xU s σ H _ I h) λv s1 ⟨y,H1,I1,r1,q1⟩=>?_) hs;exact ZDl I1 hN hi hx r1 (λs2 I2=>⟨_,H1,I2,q1⟩) hf
end
section
variable{X:Cx}{pos:Pos}
end
structure It where
 go:Nat->Hp->Prop
 yld:Nat->Hp->V->Hp->Prop
 stop:Nat->Hp->Prop
def FpOk(X:Cx)(xU:List (jC×Obj))(H:Hp)(b:jC):Prop:=
 H b=vZ/\b≠X.env.locals/\b∉X.fs/\(b∈X.ex∨X.s₀.heap.objs.size<=b)/\(∀x c,X.env.cells.lookup x=vQ c->c≠b)/\∀p∈X.pn++xU,p.1≠b
theorem Inv.Uj{H':Hp}(I:Inv X xU σ H s)(hb:s.heap.objs.size<=b)(hn:H' b=vZ):FpOk X xU H' b:=by
 refine⟨hn,Nat.ne_of_gt (zW I.lt hb),I.nofs hb,.inr (zC I.sz hb),λx c e z=>?_,λp hp z=>?_⟩
 ·obtain⟨v,q⟩:=I.cell x c e;exact absurd (zW q.lt (by rw[z];exact hb)) (zR _)
 ·exact absurd (zW (zj (I.pin p hp).1) (by rw[z];exact hb)) (zR _)
structure Turn (P:jH) (w:jO) (K:PySem.W.Frag) (tg:jE) (J:It) (fp:List jC) (it:jC) (tn:Nat->Heap->Prop):Prop where
 mem:it∈fp
 obj:∀i h,tn i h->∀b∈fp,∃o,h.get? b=vQ o/\∀v,o.data≠ .cell v
 keep:∀i h h',tn i h->(∀b∈fp,∀o,h.get? b=vQ o->h'.get? b=vQ o)->tn i h'
 item:∀(X:Cx),X.prog=P->X.w=w->X.K=K->X.calm=vJ->∀(i:Nat)(xU:List (jC×Obj))(s:jL)(σ:St)(H:Hp)(E:jN->jL->Prop),Inv X xU σ H s->(∀b∈fp,FpOk X xU H b)->tn i s.heap->J.go i H->
  xF (x9 P w) X.A (pyNext (.ref it)) (λr s1=>∃u,r=vQ u/\
   xF (x9 P w) X.A (xk tg (.ref it) u) (λ_ s2=>∃x H',Inv X xU σ H' s2/\RelV x u/\J.yld i H x H'/\tn (i+1) s2.heap/\∀b∈fp,H' b=vZ) E s1) E s
 done:∀(X:Cx),X.prog=P->X.w=w->X.K=K->X.calm=vJ->∀(i:Nat)(xU:List (jC×Obj))(s:jL)(σ:St)(H:Hp)(E:jN->jL->Prop),Inv X xU σ H s->(∀b∈fp,FpOk X xU H b)->tn i s.heap->J.stop i H->
  xF (x9 P w) X.A (pyNext (.ref it)) (λr s1=>r=vZ/\Inv X xU σ H s1) E s
 self:∀(A:jD)(i:Nat)(s:jL)(Q:jN->jL->Prop)(E:jN->jL->Prop),tn i s.heap->Q (.ref it) s->xF (x9 P w) A (pyIter (.ref it)) Q E s
noncomputable abbrev TI:=St->Hp->(It->Hp->Prop)->Prop
def PIE(X:Cx)(xU:List (jC×Obj))(σ:St)(tg:jE)(R:It->Hp->Prop)(itv:jN)(s2:jL):Prop:=
 ∃(it:jC)(fp:List jC)(tn:Nat->Heap->Prop)(J:It)(H':Hp),itv=.ref it/\Inv X xU σ H' s2/\Turn X.prog X.w X.K tg J fp it tn/\tn 0 s2.heap/\(∀b∈fp,FpOk X xU H' b)/\R J H'
def PI(X:Cx)(tg iter:jE)(wi:TI):Prop:=
 ∀(xU:List (jC×Obj))(s:jL)(σ:St)(H:Hp)(R:It->Hp->Prop),Inv X xU σ H s->wi σ H R->
  xF (x9 X.prog X.w) X.A (eval iter X.env) (λv s1=>xF (x9 X.prog X.w) X.A (pyIter v) (PIE X xU σ tg R) X.xe s1) X.xe s
theorem Qs{M:Model}{A:jD}{it:jC}{o:Obj}{n:String}{vs:Array jN}(ho:s.heap.get? it=vQ o)(hc:o.cls=.type n)(hd:o.data=.fields vs)
  (hn: ["enumerate","zip","dict_itemiterator","dict_reverseitemiterator","odict_iterator","itertools.zip_longest","itertools.pairwise"].contains n=vX) (hQ:Q () s):xF M A (xk tg (.ref it) u) Q E s:=by
 unfold xk
 cases tg<;>first
  |exact xP hQ
  | (cases u<;>first
    |exact xP hQ
    | (
      refine xH (wpAny_load ho ?_);rw[hc,hd];show xF M A (if(["enumerate","zip","dict_itemiterator","dict_reverseitemiterator","odict_iterator","itertools.zip_longest","itertools.pairwise"].contains n&&vs[0]?==vQ (xA _))=vJ then _ else _) Q E s;rw[if_neg (by intro h;rw[hn,Bool.false_and]at h;cases h)];exact xP hQ))
noncomputable def Itl(K:PySem.W.Frag)(a:jC):It:=
 ⟨λi H=>∃xs x,SqL K H a xs/\xs[i]?=vQ x,λi H x H'=>H'=H/\∀xs,SqL K H a xs->xs[i]?=vQ x,λi H=>∃xs,SqL K H a xs/\xs.length<=i⟩
noncomputable def Itt(K:PySem.W.Frag)(a:jC):It:=
 ⟨λi H=>∃xs x,SqT K H a xs/\xs[i]?=vQ x,λi H x H'=>H'=H/\∀xs,SqT K H a xs->xs[i]?=vQ x,λi H=>∃xs,SqT K H a xs/\xs.length<=i⟩
noncomputable def Itr(lo:Int)(n:Nat):It:=⟨λi _=>i<n,λi H x H'=>H'=H/\x=.int (lo+i),λi _=>n<=i⟩
theorem ZL0(a it:jC):Turn P w K tg (Itl K a) [it] it (λi h=>h.IsListIter it a i) where
 mem:=by simp
 obj:=λi h st b hb=>by
  have e:b=it:=by simpa using hb
  subst e;obtain⟨o,e,c,d⟩:=st;exact⟨o,e,λv z=>by rw[d]at z;cases z⟩
 keep:=λi h h' st k=>st.at λo e=>k it (by simp) o e
 item:=by
  intro X hP hw hK hc i xU s σ H E I hf st hg;subst hP hw hK;obtain⟨xs,x,hq,hx⟩:=hg;obtain⟨its,rv,p,hz⟩:=I.list hq;obtain⟨u,hu,ru⟩:=rv.get hx;obtain⟨f0,f1,f2,f3,f4,f5⟩:=hf it (by simp);refine wpAny_pyNext_list_item st p.isList (x:=u) (by simpa using hu) λh' st' sb=>?_
  have I1:Inv X xU σ H {s with heap:=h'}:=I.turned (t':=s.toks) (λb o hb e=>(sb.2 b hb).trans e) f0 f1 f3 f4 f5;obtain⟨o,e,c,d⟩:=id st';exact⟨u,rfl,Qs (s:={s with heap:=h'}) e c d (by decide) ⟨x,H,I1,ru,⟨rfl,λys hy=>by rw[I.ZFG hy hq];exact hx⟩,st',λb hb=>(hf b hb).1⟩⟩
 done:=by intro X hP hw hK hc i xU s σ H E I hf st hg;subst hP hw hK;obtain⟨xs,hq,hx⟩:=hg;obtain⟨its,rv,p,hz⟩:=I.list hq;obtain⟨f0,f1,f2,f3,f4,f5⟩:=hf it (by simp);have hl:=rv.length;exact wpAny_pyNext_list_end (I.ok.hd hc) st p.isList (by simp;lia) λh' eb=>⟨rfl,I.turned (t':=s.toks) (λb o hb e=>eb b o hb e) f0 f1 f3 f4 f5⟩
 self:=λ_ _ _ _ _ st h=>wpAny_pyIter_listiter st h
theorem ZOR(a it:jC):Turn P w K tg (Itt K a) [it] it (λi h=>h.IsTupleIter it a i) where
 mem:=by simp
 obj:=λi h st b hb=>by
  have e:b=it:=by simpa using hb
  subst e;obtain⟨o,e,c,d⟩:=st;exact⟨o,e,λv z=>by rw[d]at z;cases z⟩
 keep:=λi h h' st k=>st.at λo e=>k it (by simp) o e
 item:=by
  intro X hP hw hK hc i xU s σ H E I hf st hg;subst hP hw hK;obtain⟨xs,x,hq,hx⟩:=hg;obtain⟨its,rv,p,hz⟩:=I.tuple hq;obtain⟨u,hu,ru⟩:=rv.get hx;obtain⟨f0,f1,f2,f3,f4,f5⟩:=hf it (by simp)
  refine wpAny_pyNext_tuple_item st (show s.heap.IsTuple a its.toArray from p) (x:=u) (by simpa using hu) λh' st' sb=>?_
  have I1:Inv X xU σ H {s with heap:=h'}:=I.turned (t':=s.toks) (λb o hb e=>(sb.2 b hb).trans e) f0 f1 f3 f4 f5;obtain⟨o,e,c,d⟩:=id st';exact⟨u,rfl,Qs (s:={s with heap:=h'}) e c d (by decide) ⟨x,H,I1,ru,⟨rfl,λys hy=>by rw[I.ZF4 hy hq];exact hx⟩,st',λb hb=>(hf b hb).1⟩⟩
 done:=by
  intro X hP hw hK hc i xU s σ H E I hf st hg;subst hP hw hK;obtain⟨xs,hq,hx⟩:=hg;obtain⟨its,rv,p,hz⟩:=I.tuple hq;obtain⟨f0,f1,f2,f3,f4,f5⟩:=hf it (by simp);have hl:=rv.length
  exact wpAny_pyNext_tuple_end (I.ok.hd hc) st (show s.heap.IsTuple a its.toArray from p) (by simp;lia) λh' eb=>⟨rfl,I.turned (t':=s.toks) (λb o hb e=>eb b o hb e) f0 f1 f3 f4 f5⟩
 self:=λ_ _ _ _ _ st h=>wpAny_pyIter_tupleiter st h
theorem ZN9(it:jC)(lo:Int)(n:Nat):Turn P w K tg (Itr lo n) [it] it (λi h=>IsRangeIter h it (lo+(i:Nat)*1) ((n:Int)-(i:Nat)) 1) where
 mem:=by simp
 obj:=λi h st b hb=>by
  have e:b=it:=by simpa using hb
  subst e;exact⟨_,st,λv z=>by have z':Data.fields _=Data.cell v:=z;cases z'⟩
 keep:=λi h h' st k=>k it (by simp) _ st
 item:=by
  intro X hP hw hK hc i xU s σ H E I hf st hg;subst hP hw hK;obtain⟨f0,f1,f2,f3,f4,f5⟩:=hf it (by simp);have W:=Walks.range (prog:=X.prog) (w:=X.w) (I.ok.hd hc) it lo 1 n;refine W.item i s _ _ hg st λv h' tk hv st' kk=>?_
  obtain⟨t,rfl⟩:=hv;have I1:Inv X xU σ H {s with heap:=h',toks:=tk}:=I.turned (λb o hb e=>kk b o (by simpa using hb) e) f0 f1 f3 f4 f5;refine⟨_,rfl,Qs (s:={s with heap:=h',toks:=tk}) (n:="range_iterator") st' rfl rfl (by decide) ⟨.int (lo+i),H,I1,⟨t,?_⟩,⟨rfl,rfl⟩,st',λb hb=>(hf b hb).1⟩⟩;rw[Int.mul_one]
 done:=by intro X hP hw hK hc i xU s σ H E I hf st hg;subst hP hw hK;obtain⟨f0,f1,f2,f3,f4,f5⟩:=hf it (by simp);exact wpAny_pyNext_range_end (I.ok.hd hc) st (by have:n<=i:=hg;lia) λh' eb=>⟨rfl,I.turned (t':=s.toks) (λb o hb e=>eb b o hb e) f0 f1 f3 f4 f5⟩
 self:=λ_ _ _ _ _ st h=>wpAny_pyIter_rangeiter st h
section
variable{X:Cx}{tg:jE}
def ZH4(K:PySem.W.Frag)(tl:TE):TI:=λσ H R=>tl σ H λx H1=>∃a,x=.ref a/\(∃xs,SqL K H1 a xs)/\R (Itl K a) H1
def iTup(K:PySem.W.Frag)(tl:TE):TI:=λσ H R=>tl σ H λx H1=>∃a,x=.ref a/\(∃xs,SqT K H1 a xs)/\R (Itt K a) H1
theorem ZDd{l:jE}{tl:TE}(hl:PE X l tl):PI X tg l (ZH4 X.K tl):=by
 intro xU s σ H R I h;refine thn (hl xU s σ H _ I h) λv s1 ⟨x,H1,I1,r1,q1⟩=>?_
 obtain⟨a,e,⟨xs,hq⟩,q⟩:=q1;subst e;cases r1;obtain⟨its,rv,p,hz⟩:=I1.list hq;refine wpAny_pyIter_list p.isList ?_;refine⟨s1.heap.objs.size,[s1.heap.objs.size],_,_,H1,rfl,I1.kept (t':=s1.toks) λb o e=>zX _ e,ZL0 a _,⟨_,zG _ rfl,rfl,rfl⟩,λb hb=>?_,q⟩;have e:b=s1.heap.objs.size:=by simpa using hb
 subst e;exact I1.Uj (zx _) (I1.hok.fresh (zx _))
theorem ZJC{l:jE}{tl:TE}(hl:PE X l tl):PI X tg l (iTup X.K tl):=by
 intro xU s σ H R I h;refine thn (hl xU s σ H _ I h) λv s1 ⟨x,H1,I1,r1,q1⟩=>?_
 obtain⟨a,e,⟨xs,hq⟩,q⟩:=q1;subst e;cases r1;obtain⟨its,rv,p,hz⟩:=I1.tuple hq
 refine wpAny_pyIter_tuple (show s1.heap.IsTuple a its.toArray from p) ?_
 refine⟨s1.heap.objs.size,[s1.heap.objs.size],_,_,H1,rfl,I1.kept (t':=s1.toks) λb o e=>zX _ e,ZOR a _,⟨_,zG _ rfl,rfl,rfl⟩,λb hb=>?_,q⟩;have e:b=s1.heap.objs.size:=by simpa using hb
 subst e;exact I1.Uj (zx _) (I1.hok.fresh (zx _))
theorem ZMZ{R:It->Hp->Prop}{lo hi:Int}{t u v:Tok}{tk:Nat}(I:Inv X xU σ H s)(h1: -(2^62)<=lo)(h2:lo<2^62)(h3: -(2^62)<=hi)(h4:hi<2^62)
  (q:R (Itr lo (hi-lo).toNat) H):xF (x9 X.prog X.w) X.A (pyIter (.ref s.heap.objs.size)) (PIE X xU σ tg R) E {s with heap:=s.heap.push {cls:=.type "range",data:=.fields #[.int lo t,.int hi u,.int 1 v]},toks:=tk}:=by
 refine wpAny_pyIter_range (IsRange.new ..) (small_one h1 h2 h3 h4) ?_;have I1:Inv X xU σ H {s with heap:=s.heap.push {cls:=.type "range",data:=.fields #[.int lo t,.int hi u,.int 1 v]},toks:=tk}:=I.kept λb o e=>zX _ e
 refine⟨(s.heap.push {cls:=.type "range",data:=.fields #[.int lo t,.int hi u,.int 1 v]}).objs.size,[(s.heap.push {cls:=.type "range",data:=.fields #[.int lo t,.int hi u,.int 1 v]}).objs.size],_,_,H,rfl,
  I1.kept (t':=tk) λb o e=>zX _ e,ZN9 _ lo (hi-lo).toNat,?_,λb hb=>?_,q⟩
 ·have e1:lo+((0:Nat):Int)*1=lo:=by simp
  have e2:(((hi-lo).toNat:Nat):Int)-((0:Nat):Int)=Builtin.Range.rangeSize lo hi 1:=by rw[rangeSize_one];split <;> lia
  show IsRangeIter _ _ (lo+((0:Nat):Int)*1) ((((hi-lo).toNat:Nat):Int)-((0:Nat):Int)) 1;rw[e1,e2];exact zG _ rfl
 ·have e:b=(s.heap.push {cls:=.type "range",data:=.fields #[.int lo t,.int hi u,.int 1 v]}).objs.size:=by simpa using hb
  subst e;exact I1.Uj (zx _) (I1.hok.fresh (zx _))
def ZIK(ta:TA):TI:=λσ H R=>ta σ H λvs H1=>∃j:Int,vs=[.int j]/\ -(2^62)<=j/\j<2^62/\R (Itr 0 j.toNat) H1
theorem ZOE{a:jE}{ta:TA}{p pos:Pos}(hg:Gl X "range")(hm:X.mg "range"=vZ)(ha:PA X [a] ta)(hs:xD [a] X.env=[(vX,eval a X.env)]:=by rfl):PI X tg (.Call (.Name "range" p) [a] [] pos) (ZIK ta):=by
 intro xU s σ H R I h;refine Call_ (Vy I hg hm boot_range (PyProof.Rows.callWith_type1 (thn (ha pos xU s σ H _ I h) λus s1 ⟨vs,H1,I1,r1,q1⟩=>?_) hs rfl));obtain⟨j,e,q1,q2,q⟩:=q1;subst e;cases r1 with
 |cons r rr=>
  cases rr;obtain⟨t,rfl⟩:=r;exact call_range_1 (ZMZ I1 (by lia) (by lia) q1 q2 (by simpa using q))
def tFor(wi:TI)(g:TG)(tb:TS):TS:=λD σ H=>wi σ H λJ H1=>∃W:Nat->Nat->St->Hp->Prop,(∃m,W 0 m σ H1)/\∀i m σ H,W i m σ H->
 (J.stop i H/\D.nx σ H)∨(J.go i H/\∃N:St->Hp->Prop,(∀σ' H',N σ' H'->∃m',m'<m/\W (i+1) m' σ' H')/\∀x H',J.yld i H x H'->g x σ H' λσ2 H2=>tb {D with nx:=N,ct:=N,bk:=D.nx} σ2 H2)
noncomputable def Oq(fp:List jC)(h:Heap):List (jC×Obj):=fp.filterMap λb=>(h.get? b).map λo=>(b,o)
theorem U7{o:Obj}(hb:b∈fp)(e:h.get? b=vQ o):(b,o)∈Oq fp h:=List.mem_filterMap.mpr ⟨b,hb,by rw[e];rfl⟩
theorem ZGx{p:jC×Obj}(hp:p∈Oq fp h):p.1∈fp/\h.get? p.1=vQ p.2:=by
 obtain⟨b,hb,e⟩:=List.mem_filterMap.mp hp;cases q:h.get? b with
 |none=>rw[q]at e;cases e
 |some o=>
  rw[q]at e;have e':(b,o)=p:=Option.some.inj e;subst e';exact⟨hb,q⟩
theorem Inv.pinned(I:Inv X xU σ H s)(hf:∀b∈fp,FpOk X xU H b)(ho:∀b∈fp,∃o,s.heap.get? b=vQ o/\∀v,o.data≠ .cell v):Inv X (xU++Oq fp s.heap) σ H s:=
 I.Lj λp hp=>(zF.mp hp).elim (λz=>I.pin p (z9 _ z)) λz=>by obtain⟨hb,e⟩:=ZGx z;obtain⟨f0,f1,f2,_⟩:=hf p.1 hb;obtain⟨o,e',d⟩:=ho p.1 hb;rw[e]at e';cases e';exact⟨e,f0,f1,f2,d⟩
theorem Inv.unpinned{pl:List (jC×Obj)}(I:Inv X (xU++pl) σ H s):Inv X xU σ H s:=I.Lj λp hp=>I.pin p (z9 _ (jq _ hp))
theorem ZKp{iter:jE}{body:List jM}{wi:TI}{g:TG}{tb:TS}{pos:Pos}(hp:PassesOwn (x9 X.prog X.w) X.A X.env X.xe)(hc:X.calm=vJ)(hi:PI X tg iter wi)(hg:PG X tg g)(hb:PSs X body tb)
  (hs:∀x,foldedSetIterable iter X.env x=pure x:=by intro _;rfl):PS X (.For tg iter body [] pos) (tFor wi g tb):=by
 intro xU s σ H D I h;refine wpAny_For (thn (hi xU s σ H _ I h) λv s1 h1=>thn h1 λitv s2 h2=>?_) hs;obtain⟨it,fp,tn,J,H2,e,I2,T,st2,f2,W,⟨m0,w0⟩,turn⟩:=h2;subst e;have stat:∀{H':Hp},(∀b∈fp,H' b=vZ)->∀b∈fp,FpOk X xU H' b:=λhn b hb=>⟨hn b hb,(f2 b hb).2⟩
 refine codeAny_forLoop_any (λn s'=>∃i σ' H',Inv X xU σ' H' s'/\tn i s'.heap/\(∀b∈fp,H' b=vZ)/\W i n σ' H') ?_ m0 ⟨0,σ,H2,I2,st2,λb hb=>(f2 b hb).1,w0⟩;rintro n s3 ⟨i,σ3,H3,I3,st3,fr3,w3⟩;rcases turn i n σ3 H3 w3 with⟨stop,qn⟩|⟨go,N,hN,step⟩
 ·refine xO hp (thn (T.done X rfl rfl rfl hc i xU s3 σ3 H3 X.xe I3 (stat fr3) st3 stop) λr s4 ⟨hr,I4⟩=>?_);subst hr;exact wpAny_execs_nil ⟨σ3,H3,I4,qn⟩
 ·refine xO hp (thn (T.item X rfl rfl rfl hc i xU s3 σ3 H3 X.xe I3 (stat fr3) st3 go) λr s4 ⟨u,hr,h4⟩=>?_);subst hr;refine xO hp (thn h4 λ_ s5 ⟨x,H5,I5,r5,y5,st5,fr5⟩=>?_);have I5':=I5.pinned (stat fr5) (T.obj _ _ st5);refine xO hp (thn (hg _ s5 σ3 H5 x u _ I5' r5 (step x H5 y5)) λ_ s6 ⟨σ6,H6,I6,q6⟩=>?_);refine xO hp (thn (hb _ s6 σ6 H6 _ I6 q6) λf s7 q7=>?_)
  have again:∀{σ7:St}{H7:Hp},Inv X (xU++Oq fp s5.heap) σ7 H7 s7->N σ7 H7->∃m,m<n/\∃i σ' H',Inv X xU σ' H' s7/\tn i s7.heap/\(∀b∈fp,H' b=vZ)/\W i m σ' H':=λ{σ7 H7}I7 n7=>by obtain⟨m',hm,w7⟩:=hN σ7 H7 n7;refine⟨m',hm,i+1,σ7,H7,I7.unpinned,T.keep _ _ _ st5 λb hb o e=>(I7.pin (b,o) (z9 _ (z9 _ (U7 hb e)))).1,λb hb=>?_,w7⟩;obtain⟨o,e,d⟩:=T.obj _ _ st5 b hb;exact(I7.pin (b,o) (z9 _ (z9 _ (U7 hb e)))).2.1
  cases f with
  |next=>obtain⟨σ7,H7,I7,n7⟩:=q7;exact again I7 n7
  |cont=>obtain⟨σ7,H7,I7,n7⟩:=q7;exact again I7 n7
  |brk=>obtain⟨σ7,H7,I7,q7⟩:=q7;exact⟨σ7,H7,I7.unpinned,q7⟩
  |ret v=>obtain⟨x7,σ7,H7,I7,r7,q7⟩:=q7;exact⟨x7,σ7,H7,I7.unpinned,r7,q7⟩
end
noncomputable abbrev R2:=V->V->Hp->VK->Prop
variable{r r':R2}
def OpR(X:Cx)(f:jN->jN->Sem jN)(r:R2):Prop:=
 ∀(xU:List (jC×Obj))(s:jL)(σ:St)(H:Hp)(x y:V)(v u:jN)(Q:VK),Inv X xU σ H s->RelV x v->RelV y u->r x y H Q->
  xF (x9 X.prog X.w) X.A (f v u) (EP X xU σ Q) X.xe s
def UnR(X:Cx)(f:jN->Sem jN)(r:V->Hp->VK->Prop):Prop:=
 ∀(xU:List (jC×Obj))(s:jL)(σ:St)(H:Hp)(x:V)(v:jN)(Q:VK),Inv X xU σ H s->RelV x v->r x H Q->
  xF (x9 X.prog X.w) X.A (f v) (EP X xU σ Q) X.xe s
def CallR(X:Cx)(f:jN)(r:List V->Hp->VK->Prop):Prop:=
 ∀(xU:List (jC×Obj))(s:jL)(σ:St)(H:Hp)(xs:List V)(us:List jN)(Q:VK),Inv X xU σ H s->Vals xs us->r xs H Q->
  xF (x9 X.prog X.w) X.A (call f us) (EP X xU σ Q) X.xe s
noncomputable def tOp(r:R2)(ta tb:TE):TE:=λσ H Q=>ta σ H λx H1=>tb σ H1 λy H2=>r x y H2 Q
noncomputable def tUn(r:V->Hp->VK->Prop)(ta:TE):TE:=λσ H Q=>ta σ H λx H1=>r x H1 Q
noncomputable def rI(C:Int->Int->Prop)(g:Int->Int->V):R2:=λx y H Q=>∃i j,x=.int i/\y=.int j/\C i j/\Q (g i j) H
noncomputable def rI0(g:Int->Int->V):R2:=λx y H Q=>∃i j,x=.int i/\y=.int j/\Q (g i j) H
def rU(g:Int->V):V->Hp->VK->Prop:=λx H Q=>∃i,x=.int i/\Q (g i) H
section
variable{X:Cx}{a b c:jE}{ta tb tc:TE}{pos:Pos}
theorem ZCR(ha:PE X a ta)(hb:PE X b tb){R:V->V->Hp->Prop}(I:Inv X xU σ H s)
  (h:ta σ H λx H1=>tb σ H1 λy H2=>R x y H2) {Q:jN->jL->Prop} {f:jN->jN->Sem jN}
  (hf:∀v u s2 x y H2,Inv X xU σ H2 s2->RelV x v->RelV y u->R x y H2->xF (x9 X.prog X.w) X.A (f v u) Q X.xe s2):
  xF (x9 X.prog X.w) X.A (eval a X.env) (λv s₁=>xF (x9 X.prog X.w) X.A (eval b X.env) (λu s₂=>xF (x9 X.prog X.w) X.A (f v u) Q X.xe s₂) X.xe s₁) X.xe s:=by
 refine thn (ha xU s σ H _ I h) λv s1 ⟨x,H1,I1,r1,q1⟩=>?_
 refine thn (hb xU s1 σ H1 _ I1 q1) λu s2 ⟨y,H2,I2,r2,q2⟩=>?_
 exact hf v u s2 x y H2 I2 r1 r2 q2
theorem ZM6{op:Operator}(ho:OpR X (jU op) r)(ha:PE X a ta)(hb:PE X b tb):PE X (.BinOp a op b pos) (tOp r ta tb):=by intro xU s σ H Q I h;exact wpAny_BinOp (ZCR ha hb I h λv u s2 x y H2 I2 rx ry q=>ho xU s2 σ H2 x y v u Q I2 rx ry q)
theorem ZMn{op:UnaryOp}{r:V->Hp->VK->Prop}(ho:UnR X (unaryOp op) r)(ha:PE X a ta):PE X (.UnaryOp op a pos) (tUn r ta):=by intro xU s σ H Q I h;exact UnaryOp_ (thn (ha xU s σ H _ I h) λv s1 ⟨x,H1,I1,r1,q1⟩=>ho xU s1 σ H1 x v Q I1 r1 q1)
theorem opI{C:Int->Int->Prop}{g:Int->Int->Int}
  (rule:∀(i j:Int)(t u:Tok)(s:jL)(Q:jN->jL->Prop)(E:jN->jL->Prop),C i j->Q (.int (g i j) s.toks) {s with toks:=s.toks+1}->xF (x9 X.prog X.w) X.A (f (.int i t) (.int j u)) Q E s):
  OpR X f (rI C λi j=>.int (g i j)):=by
 intro xU s σ H x y v u Q I rx ry h;obtain⟨i,j,rfl,rfl,hc,q⟩:=h;obtain⟨t,rfl⟩:=rx;obtain⟨t',rfl⟩:=ry;exact rule i j t t' s _ _ hc ⟨.int (g i j),H,I.tok _,⟨_,rfl⟩,q⟩
theorem opI0{g:Int->Int->Int}
  (rule:∀(i j:Int)(t u:Tok)(s:jL)(Q:jN->jL->Prop)(E:jN->jL->Prop),Q (.int (g i j) s.toks) {s with toks:=s.toks+1}->xF (x9 X.prog X.w) X.A (f (.int i t) (.int j u)) Q E s):
  OpR X f (rI0 λi j=>.int (g i j)):=by
 intro xU s σ H x y v u Q I rx ry h;obtain⟨i,j,rfl,rfl,q⟩:=h;obtain⟨t,rfl⟩:=rx;obtain⟨t',rfl⟩:=ry;exact rule i j t t' s _ _ ⟨.int (g i j),H,I.tok _,⟨_,rfl⟩,q⟩
theorem Vl{g:Int->Int->Bool}
  (rule:∀(i j:Int)(t u:Tok)(s:jL)(Q:jN->jL->Prop)(E:jN->jL->Prop),Q (.bool (g i j)) s->xF (x9 X.prog X.w) X.A (f (.int i t) (.int j u)) Q E s):
  OpR X f (rI0 λi j=>.bl (g i j)):=by
 intro xU s σ H x y v u Q I rx ry h;obtain⟨i,j,rfl,rfl,q⟩:=h;obtain⟨t,rfl⟩:=rx;obtain⟨t',rfl⟩:=ry;exact rule i j t t' s _ _ ⟨.bl (g i j),H,I,rfl,q⟩
def CPow(i j:Int):Prop:=0<=j/\j<=1000000/\i.natAbs<2^64
def CMul(i j:Int):Prop:=(-(2^64)<i/\i<2^64)∨(-(2^64)<j/\j<2^64)
theorem CMul.ok{i j:Int}(h:CMul i j):IntMulOk i j:=by
 rcases h with⟨h1,h2⟩|⟨h1,h2⟩
 ·exact .of_left (intBits_le_64 h1 h2)
 ·exact .of_right (intBits_le_64 h1 h2)
theorem ZKn:OpR X (jU .Add) (rI0 λi j=>.int (i+j)):=opI0 λ_ _ _ _ _ _ _ q=>add_int q
theorem ZHo:OpR X (jU .Sub) (rI0 λi j=>.int (i-j)):=opI0 λ_ _ _ _ _ _ _ q=>sub_int q
theorem ZMz:OpR X (jU .Mod) (rI (λ_ j=>0<j) λi j=>.int (i%j)):=opI λi j _ _ _ _ _ hc q=>by have h1:(0:Int)<j:=hc;exact mod_int' (by lia) (by rw[Int.fmod_eq_emod_of_nonneg i (by lia)];exact q)
theorem ZNb:OpR X (jU .Pow) (rI CPow λi j=>.int (i^j.toNat)):=opI λ_ _ _ _ _ _ _ hc q=>pow_int_small hc.1 hc.2.1 hc.2.2 q
theorem unI{f:jN->Sem jN}{g:Int->Int}
  (rule:∀(i:Int)(t:Tok)(s:jL)(Q:jN->jL->Prop)(E:jN->jL->Prop),Q (.int (g i) s.toks) {s with toks:=s.toks+1}->xF (x9 X.prog X.w) X.A (f (.int i t)) Q E s):
  UnR X f (rU λi=>.int (g i)):=by
 intro xU s σ H x v Q I rx h;obtain⟨i,rfl,q⟩:=h;obtain⟨t,rfl⟩:=rx;exact rule i t s _ _ ⟨.int (g i),H,I.tok _,⟨_,rfl⟩,q⟩
theorem ZOj:UnR X (unaryOp .USub) (rU λi=>.int (-i)):=unI λ_ _ _ _ _ q=>neg_int q
end
section
variable{X:Cx}{a b c:jE}{ta tb tc:TE}{pos:Pos}
theorem Rg{Q:VK}{k k':Bool}(I:Inv X xU σ H s)(q:Q (.bl k) H)(e:k=k'):EP X xU σ Q (.bool k') s:=by subst e;exact⟨.bl k,H,I,rfl,q⟩
theorem ZLe:OpR X (xX .Lt) (rI0 λi j=>.bl (decide (i<j))):=Vl λ_ _ _ _ _ _ _ q=>lt_int q
theorem ZJl:OpR X (xX .LtE) (rI0 λi j=>.bl (decide (i<=j))):=Vl λ_ _ _ _ _ _ _ q=>le_int q
theorem ZOI:OpR X (xX .Gt) (rI0 λi j=>.bl (decide (j<i))):=Vl λ_ _ _ _ _ _ _ q=>gt_int q
theorem ZNd:OpR X (xX .GtE) (rI0 λi j=>.bl (decide (j<=i))):=Vl λ_ _ _ _ _ _ _ q=>ge_int q
theorem ZMG:OpR X (xX .Lt) (λx y H Q=>∃i j,x=.str i/\y=.str j/\Q (.bl (decide (i.cps.toList<j.cps.toList))) H):=by intro xU s σ H x y v u Q I rx ry h;obtain⟨i,j,rfl,rfl,q⟩:=h;obtain⟨t,rfl⟩:=rx;obtain⟨t',rfl⟩:=ry;exact lt_str (Rg I q rfl)
theorem ZNt:OpR X (xX .In) (λx y H Q=>∃i j,x=.str i/\y=.str j/\Q (.bl (!(Builtin.Str.occurrences j i 0 j.length 1).isEmpty)) H):=by intro xU s σ H x y v u Q I rx ry h;obtain⟨i,j,rfl,rfl,q⟩:=h;obtain⟨t,rfl⟩:=rx;obtain⟨t',rfl⟩:=ry;exact in_str (Rg I q rfl)
theorem ZMI:OpR X (xX .Is) (λx y H Q=>y=.non/\Q (.bl (decide (x=.non))) H):=by
 intro xU s σ H x y v u Q I rx ry h;obtain⟨rfl,q⟩:=h;cases ry;refine is_none_gen (Rg I q ?_)
 cases x<;>first
  |(cases rx;rfl)
  |(obtain⟨t,rfl⟩:=rx;rfl)
theorem ZMl:OpR X (xX .IsNot) (λx y H Q=>y=.non/\Q (.bl (!decide (x=.non))) H):=by
 intro xU s σ H x y v u Q I rx ry h;obtain⟨rfl,q⟩:=h;cases ry;refine isnot_none_gen (Rg I q ?_)
 cases x<;>first
  |(cases rx;rfl)
  |(obtain⟨t,rfl⟩:=rx;rfl)
theorem ZON:OpR X (xX .NotIn) (λx y H Q=>∃i j,x=.str i/\y=.str j/\Q (.bl (!(!(Builtin.Str.occurrences j i 0 j.length 1).isEmpty))) H):=by intro xU s σ H x y v u Q I rx ry h;obtain⟨i,j,rfl,rfl,q⟩:=h;obtain⟨t,rfl⟩:=rx;obtain⟨t',rfl⟩:=ry;exact notIn_str (Rg I q rfl)
theorem OpR.or(h:OpR X f r)(h':OpR X f r'):OpR X f (λx y H Q=>r x y H Q∨r' x y H Q):=by
 intro xU s σ H x y v u Q I rx ry q;rcases q with q|q
 ·exact h xU s σ H x y v u Q I rx ry q
 ·exact h' xU s σ H x y v u Q I rx ry q
theorem nomark(b:jE)(h:op≠ .In:=by decide)(h2:op≠ .NotIn:=by decide):jT op b=vX:=by
 have e1:(op==CmpOp.In)=vX:=by cases op<;>first|rfl|exact absurd rfl h
 have e2:(op==CmpOp.NotIn)=vX:=by cases op<;>first|rfl|exact absurd rfl h2
 cases b<;>simp[jT,e1,e2]
theorem ZMa(ho:OpR X (xX op) r)(ha:PE X a ta)(hb:PE X b tb)(hm:jT op b=vX):PE X (.Compare a [op] [b] pos) (tOp r ta tb):=by intro xU s σ H Q I h;exact wpAny_Compare1 (ZCR ha hb I h λv u s2 x y H2 I2 rx ry q=>ho xU s2 σ H2 x y v u Q I2 rx ry q) hm
noncomputable def Q0(t:TE):TT:=λσ H Q=>t σ H λx H'=>∃k,x=.bl k/\Q k H'
theorem ZNz(ho:OpR X (xX op) r)(ha:PE X a ta)(hb:PE X b tb)(hm:jT op b=vX):PT X (.Compare a [op] [b] pos) (Q0 (tOp r ta tb)):=by
 intro xU s σ H Q I h;refine wpAny_isTrue_Compare1 (thn (ha xU s σ H _ I h) λv s1 ⟨x,H1,I1,r1,q1⟩=>thn (hb xU s1 σ H1 _ I1 q1) λu s2 ⟨y,H2,I2,r2,q2⟩=>
  thn (ho xU s2 σ H2 x y v u _ I2 r1 r2 q2) λc s3 ⟨z,H3,I3,r3,k,e,q3⟩=>?_) hm
 subst e;cases r3;exact xR ⟨H3,I3,q3⟩
noncomputable def Yy(r r':R2)(ta tb tc:TE):TE:=λσ H Q=>ta σ H λx H1=>tb σ H1 λy H2=>r x y H2 λz H3=>∃k,z=.bl k/\
 (if k=vJ then tc σ H3 λw' H4=>r' y w' H4 Q else Q (.bl vX) H3)
theorem ZNW{op':CmpOp}(ho:OpR X (xX op) r)(ho':OpR X (xX op') r')(ha:PE X a ta)(hb:PE X b tb)(hc:PE X c tc)
  (hm:lastMarks [op,op'] [b,c]=vX:=by with_unfolding_all rfl):PE X (.Compare a [op,op'] [b,c] pos) (Yy r r' ta tb tc):=by
 intro xU s σ H Q I h;refine Compare_chain (thn (ha xU s σ H _ I h) λv s1 ⟨x,H1,I1,r1,q1⟩=>chain_link (thn (hb xU s1 σ H1 _ I1 q1) λu s2 ⟨y,H2,I2,r2,q2⟩=>
  thn (ho xU s2 σ H2 x y v u _ I2 r1 r2 q2) λd s3 ⟨z,H3,I3,r3,k,e,q3⟩=>?_)) hm
 subst e;cases r3;refine xR ?_;cases k with
 |false=>exact ite_ff ⟨.bl vX,H3,I3,rfl,q3⟩
 |true=>exact ite_tt (chain_last (thn (hc xU s3 σ H3 _ I3 q3) λw' s4 ⟨z',H4,I4,r4,q4⟩=>ho' xU s4 σ H4 y z' u w' Q I4 r2 r4 q4))
theorem ZIt{op':CmpOp}(ho:OpR X (xX op) r)(ho':OpR X (xX op') r')(ha:PE X a ta)(hb:PE X b tb)(hc:PE X c tc)
  (hm:lastMarks [op,op'] [b,c]=vX:=by with_unfolding_all rfl):PT X (.Compare a [op,op'] [b,c] pos) (Q0 (Yy r r' ta tb tc)):=by
 intro xU s σ H Q I h;refine isTrue_chain (thn (ha xU s σ H _ I h) λv s1 ⟨x,H1,I1,r1,q1⟩=>test_link (thn (hb xU s1 σ H1 _ I1 q1) λu s2 ⟨y,H2,I2,r2,q2⟩=>
  thn (ho xU s2 σ H2 x y v u _ I2 r1 r2 q2) λd s3 ⟨z,H3,I3,r3,k,e,q3⟩=>?_)) hm
 subst e;cases r3;refine xR ?_;cases k with
 |false=>
  obtain⟨k',e',q'⟩:=q3;cases e';exact ite_ff ⟨H3,I3,q'⟩
 |true=>
  refine ite_tt (test_last (thn (hc xU s3 σ H3 _ I3 q3) λw' s4 ⟨z',H4,I4,r4,q4⟩=>thn (ho' xU s4 σ H4 y z' u w' _ I4 r2 r4 q4) λd' s5 ⟨z2,H5,I5,r5,k2,e2,q5⟩=>?_));subst e2;cases r5;exact xR ⟨H5,I5,q5⟩
theorem line63:(sizeLine:Nat)<2^63:=by rw[xB];decide
theorem ZJg:OpR X (jU .Add) (λx y H Q=>∃i j,x=.str i/\y=.str j/\i.length+j.length<=sizeLine/\Q (.str (i++j)) H):=by intro xU s σ H x y v u Q I rx ry h;obtain⟨i,j,rfl,rfl,hz,q⟩:=h;obtain⟨t,rfl⟩:=rx;obtain⟨t',rfl⟩:=ry;exact add_str (λt' tk=>⟨.str (i++j),H,I.tok _,⟨_,rfl⟩,q⟩) hz
theorem vals1{x:V}(r:Vals [x] us):∃u,us=[u]/\RelV x u:=by
 cases r with
 |cons r1 r2=>cases r2;exact⟨_,rfl,r1⟩
theorem vals2{x y:V}(r:Vals [x,y] us):∃u w',us=[u,w']/\RelV x u/\RelV y w':=by
 cases r with
 |cons r1 r2=>
  cases r2 with
  |cons r3 r4=>cases r4;exact⟨_,_,rfl,r1,r3⟩
theorem ZOl(hc:X.calm=vJ):CallR X (.builtin "max") (λxs H Q=>∃i j,xs=[.int i,.int j]/\Q (.int (if j>i then j else i)) H):=by
 intro xU s σ H xs us Q I r h;obtain⟨i,j,rfl,q⟩:=h;obtain⟨u,w',rfl,⟨t,rfl⟩,⟨t',rfl⟩⟩:=vals2 r;refine max_two_ints (I.ok.hd hc) λh' tk k=>⟨_,H,I.kept k,?_,q⟩
 by_cases hj:j>i
 ·rw[if_pos hj,if_pos hj];exact⟨_,rfl⟩
 ·rw[if_neg hj,if_neg hj];exact⟨_,rfl⟩
theorem ZOp:CallR X (.type "int") (λxs H Q=>(∃i,xs=[.int i]/\Q (.int i) H)∨∃k,xs=[.bl k]/\Q (.int (if k then 1 else 0)) H):=by
 intro xU s σ H xs us Q I r h;rcases h with⟨i,rfl,q⟩|⟨k,rfl,q⟩
 ·obtain⟨u,rfl,t,rfl⟩:=vals1 r;exact call_int_int ⟨.int i,H,I,⟨_,rfl⟩,q⟩
 ·obtain⟨u,rfl,r1⟩:=vals1 r;cases r1;exact call_int_bool ⟨.int (if k then 1 else 0),H,I.tok _,⟨_,rfl⟩,q⟩
end
theorem ZGe{dx:jC}{mA:Str->Option jN}(n:h.Ns1 dx mA):∃od,h.get? dx=vQ od/\∀name,PySem.W.lookIn name od=vQ (mA name):=by
 obtain⟨o,es,ep,ho,hd,hk,_,hm⟩:=n;refine⟨o,ho,λname=>?_⟩;have e:=hm name;unfold nsFind findBy at e;rw[<-Array.find?_toList]at e;unfold PySem.W.lookIn;rw[hd];dsimp only;split
 ·rename_i y q;rw[q]at e;exact congrArg vQ e
 ·rename_i q;rw[q]at e
  have a:es.toList.any (·.refKey)=vX:=by rw[List.any_eq_false];intro y hy;obtain⟨z,t,hkey⟩:=hk y (Array.mem_toList_iff.mp hy);simp[DictEntry.refKey,hkey]
  have a':¬es.toList.any (·.refKey)=vJ:=by rw[a];exact zw
  rw[if_neg a'];exact congrArg vQ e
section
variable{prog:jH}{w:jO}{A:jD}{E:jN->jL->Prop}{s:jL}{K:PySem.W.Frag}{x dx C f:jC}{mA:Str->Option jN}{name:Str}{v:jN}
end
theorem RelO.some_of{o:Option jN}(r:RelO (vQ v) o):∃u,o=vQ u/\RelV v u:=by
 cases o with
 |none=>exact(show False from r).elim
 |some u=>exact⟨u,rfl,r⟩
theorem ZK6(r:RelV v u):PySem.W.handedIn u=vJ:=by
 cases v with
 |non=>cases(show u=Value.none from r);rfl
 |bl b=>cases(show u=Value.bool b from r);rfl
 |int i=>obtain⟨t,e⟩:=(show∃t,u=Value.int i t from r);cases e;rfl
 |str x=>obtain⟨t,e⟩:=(show∃t,u=Value.str x t from r);cases e;rfl
 |byt b=>obtain⟨t,e⟩:=(show∃t,u=Value.bytes b t from r);cases e;rfl
 |flt b=>obtain⟨t,e⟩:=(show∃t,u=Value.float b t from r);cases e;rfl
 |ref a=>cases(show u=Value.ref a from r);rfl
 |ty n=>cases(show u=Value.type n from r);rfl
section
variable{P:jH}{w:jO}{H H':Hp}{h h':Heap}{a C dx:jC}{fs fs':List (Str×V)}
end
def NoAttr(K:PySem.W.Frag)(C:jC)(f:Str):Prop:=PySem.W.findIn K (.ref C) f=vQ vZ
structure Meth (K:PySem.W.Frag) (C:jC) (m:Str) (f:jC):Prop where
 at_:PySem.W.findIn K (.ref C) m=vQ (vQ (.ref f))
 fn:PySem.W.isFn K (.ref f)=vJ
 kp:PySem.W.keepIn K (.ref f)=vJ
section
variable{X:Cx}{xU:List (jC×Obj)}{σ:St}{H:Hp}{s:jL}{a C dx:jC}{fs:List (Str×V)}{f:Str}{v:V}{A:jD}{E:jN->jL->Prop}
theorem ZJy{prog:jH}{env:Env}{f:Str}{pos:Pos}{Q:jN->jL->Prop}(hb:jR e f env (eval e env)=eval e env)
  (h:xF (x9 prog w) A (eval e env) (λo s₁=>xF (x9 prog w) A (getAttr o f vJ) Q E s₁) E s):xF (x9 prog w) A (eval (.Attribute e f pos) env) Q E s:=
 Attribute_any_ h (by rw[arm_eval_Attribute,hb])
end
section
variable{X:Cx}{o e value:jE}{f:Str}{pos pos' tpos:Pos}{ta tv:TE}
end
section
variable{X:Cx}{xU:List (jC×Obj)}{σ:St}{H:Hp}{s:jL}{A:jD}{E:jN->jL->Prop}{Q:jN->jL->Prop}{c:jN}{b:Bool}
end
structure Room (k:Nat) (A:jD):Prop where
 hd:A.handled=vZ
 dp:A.depth+3*k+5<recursionLimit
 un:A.units+16*k+200<cLine
theorem Room.mono{j:Nat}{A:jD}(r:Room k A)(h:j<=k):Room j A:=⟨r.hd,by have:=r.dp;lia,by have:=r.un;lia⟩
theorem Room.deeper{A:jD}(r:Room (k+1) A)(env:Env):Room k (A.deeper env):=
 ⟨r.hd,by have:=r.dp;show A.depth+1+3*k+5<_;lia,by have:=r.un;show A.units+3+16*k+200<_;lia⟩
theorem ZJv{A:jD}{C:jC}{kw:List (Str×jN)}:(A.under (.builtin "type.__call__" ⟨.ref C::us,kw⟩)).depth=A.depth+1:=by
 first|rfl|simp[Around.under,Code.weight,Code.isCreation,Code.isGuard,Code.isCaller,Code.frames,Code.isFrame,guardIds]
theorem ZIo{A:jD}{C:jC}{kw:List (Str×jN)}:(A.under (.builtin "type.__call__" ⟨.ref C::us,kw⟩)).units=A.units+1:=by
 first|rfl|simp[Around.under,Code.cUnits,Code.frames,Code.isFrame]
theorem Room.make{A:jD}(r:Room (k+1) A)(C:jC)(us:List jN)(kw:List (Str×jN)):Room k (A.under (.builtin "type.__call__" ⟨.ref C::us,kw⟩)):=
 ⟨r.hd,by have:=r.dp;rw[ZJv];lia,by have:=r.un;rw[ZIo];lia⟩
theorem Room.depth{A:jD}(r:Room k A):A.depth<recursionLimit:=by have:=r.dp;lia
theorem Room.units{A:jD}(r:Room k A):A.units+64<cLine:=by have:=r.un;lia
noncomputable def tNil:TA:=λ_ H Q=>Q [] H
noncomputable def ZAk(ta:TE)(tr:TA):TA:=λσ H Q=>ta σ H λx H1=>tr σ H1 λxs H2=>Q (x::xs) H2
section
variable{X:Cx}{e:jE}{es:List jE}{te:TE}{t:TA}{pos:Pos}
theorem Ys:PA X [] tNil:=λ_ _ _ _ H Q I h=>Calls.spliced_nil ⟨[],H,I,.nil,h⟩
theorem Qi(ha:PE X e te)(hr:PA X es t)(hs:xD (e::es) X.env=(vX,eval e X.env)::xD es X.env:=by rfl):PA X (e::es) (ZAk te t):=by intro pos xU s σ H Q I h;rw[hs];show xF _ _ (spliced ((vX,eval e X.env)::jS pos (xD es X.env))) _ _ s;refine Calls.spliced_cons (thn (ha xU s σ H _ I h) λu s1 ⟨x,H1,I1,r1,q1⟩=>?_);exact thn (hr pos xU s1 σ H1 _ I1 q1) λus s2 ⟨xs,H2,I2,r2,q2⟩=>⟨x::xs,H2,I2,.cons r1 r2,q2⟩
def tTup(t:TA):TE:=λσ H Q=>t σ H λxs H1=>xs.length<=sizeLine/\∀p,H1 p=vZ->Q (.ref p) (upd H1 p (.tup xs))
def tLst(t:TA):TE:=λσ H Q=>t σ H λxs H1=>xs.length<=sizeLine/\∀p,H1 p=vZ->Q (.ref p) (upd H1 p (.lst xs))
theorem ZOn{x1}(h:PA X es t):PE X (.Tuple es x1 pos) (tTup t):=by intro xU s σ H Q I hq;refine wpAny_Tuple_spliced (thn (h pos xU s σ H _ I hq) λus s1 ⟨xs,H1,I1,r,z,q⟩=>⟨by rw[<-r.length];exact z,?_⟩);have hf:H1 s1.heap.objs.size=vZ:=I1.hok.fresh (zx _);refine⟨.ref s1.heap.objs.size,upd H1 s1.heap.objs.size (.tup xs),I1.laid (t':=s1.toks) (λb u e=>zX _ e) (zx _) ?_,rfl,q _ hf⟩;exact⟨z,us,r,⟨_,zG _ rfl,rfl,_,rfl⟩⟩
theorem ZKw(h:PA X es t):PE X (.List es pos) (tLst t):=by intro xU s σ H Q I hq;refine wpAny_List_spliced (thn (h pos xU s σ H _ I hq) λus s1 ⟨xs,H1,I1,r,z,q⟩=>⟨by rw[<-r.length];exact z,?_⟩);have hf:H1 s1.heap.objs.size=vZ:=I1.hok.fresh (zx _);refine⟨.ref s1.heap.objs.size,upd H1 s1.heap.objs.size (.lst xs),I1.laid (t':=s1.toks) (λb u e=>zX _ e) (zx _) ?_,rfl,q _ hf⟩;exact⟨z,us,0,r,zG _ rfl⟩
end
noncomputable abbrev Sp:=List V->Hp->VK->XK->Prop
noncomputable abbrev CXT:=List Env->Hp->jL->XK->jN->jL->Prop
structure Env0 (P:jH) (w:jO) (K:PySem.W.Frag) (mg:Str->Option jN) (base:Heap) (A:jD) (outer:List Env) (s:jL) (H:Hp):Prop where
 frames:A.frames=vQ outer
 mod:Mod K mg base
 bs:∀b o,base.get? b=vQ o->s.heap.get? b=vQ o/\H b=vZ
 bsz:base.objs.size<=s.heap.objs.size
 funs:s.heap.FunFrames base outer
 frf:∀b∈frs outer,H b=vZ
 hok:HOk P w H s.heap
 bare:AllBare s.gens
def CE(outer:List Env)(P:jH)(w:jO)(H:Hp)(s:jL)(Q:VK)(u:jN)(s':jL):Prop:=
 ∃v H',s'.os=s.os/\AllBare s'.gens/\Un (frs outer) [] H H' s.heap s'.heap/\HOk P w H' s'.heap/\RelV v u/\Q v H'
def CR(CX:CXT)(outer:List Env)(P:jH)(w:jO)(H:Hp)(s:jL)(Q:VK)(E:XK)(r:Result)(s':jL):Prop:=
 match r with
 |.ok (.ret u)=>CE outer P w H s Q u s'
 |.ok _=>False
 |.error e=>CX outer H s E e s'
structure FnOk (P:jH) (w:jO) (K:PySem.W.Frag) (mg:Str->Option jN) (base:Heap) (CX:CXT) (k:Nat) (f:jC) (fd:jF) (ps:List Str) (sp:Sp):Prop where
 len:∀vs H Q E,sp vs H Q E->vs.length=ps.length
 run:∀(A:jD)(outer:List Env)(s:jL)(H:Hp)(args:Args)(us:List jN)(vs:List V)(Q:VK)(E:XK),Room k A->Env0 P w K mg base A outer s H->BindsTo s fd args (ps.zip us)->Vals vs us->sp vs H Q E->
  codeAny (x9 P w) A (.call (.ref f) args) (CR CX outer P w H s Q E) s
theorem Env0.make{A:jD}{outer:List Env}(e:Env0 P w K mg base A outer s H)(C:jC)(us:List jN)(kw:List (Str×jN)):
  Env0 P w K mg base (A.under (.builtin "type.__call__" ⟨.ref C::us,kw⟩)) outer s H:=⟨by first|exact e.frames|(simpa[Around.under,Code.envs,Code.isFrame,pushEnvs]using e.frames),e.mod,e.bs,e.bsz,e.funs,e.frf,e.hok,e.bare⟩
section
variable{X:Cx}{xU:List (jC×Obj)}{σ:St}{H:Hp}{s s':jL}
theorem Inv.env0(I:Inv X xU σ H s):Env0 X.prog X.w X.K X.mg X.base X.A X.stack s H:=
 ⟨I.ok.frames,I.ok.mod,I.bs,zC I.ok.bsz I.sz,I.stack,I.Va,I.hok,I.bare⟩
theorem Inv.after{Q:VK}(I:Inv X xU σ H s)(h:CE X.stack X.prog X.w H s Q u s'):EP X xU σ Q u s':=by obtain⟨v,H',os,bare,un,hok,r,q⟩:=h;obtain⟨hh,g,d,t,os'⟩:=s';obtain rfl:os'=s.os:=os;exact⟨v,H',I.call (h':=hh) (g':=g) (d':=d) (t':=t) (ch:=[]) un hok bare (λb z=>absurd z (by simp)),r,q⟩
end
noncomputable def ZMw(sp:Sp)(dvs:List V)(E:XK)(t:TA):TE:=λσ H Q=>t σ H λvs H1=>sp (vs++dvs) H1 Q E
def Binds(K:PySem.W.Frag)(fd:jF)(ps:List Str)(ds:List jN):Prop:=
 ∀(s:jL)(us:List jN),K.In s.heap->(us++ds).length=ps.length->BindsTo s fd ⟨us,[]⟩ (ps.zip (us++ds))
theorem Binds.all{fd:jF}{ps:List Str}(h:∀us:List jN,us.length=ps.length->bindArgs fd ⟨us,[]⟩=pure (ps.zip us)):Binds K fd ps []:=λs us _ hl=>by rw[zU]at hl⊢;exact .of_eq (h us hl)
def Passes(CX:CXT)(X:Cx)(E:XK):Prop:=∀(xU:List (jC×Obj))(σ:St)(H:Hp)(s:jL)(e:jN)(s':jL),Inv X xU σ H s->CX X.stack H s E e s'->X.xe e s'
section
variable{X:Cx}{CX:CXT}{k:Nat}{f C:jC}{fd:jF}{ps:List Str}{sp:Sp}{dvs:List V}{ds:List jN}{E:XK}{x m:Str}{p pos apos:Pos}{e o:jE}{es:List jE}{ta:TE}{t:TA}
theorem ZLO{Q:VK}{vs:List V}(F:FnOk X.prog X.w X.K X.mg X.base CX k f fd ps sp)(hr:Room k X.A)(hb:Binds X.K fd ps ds)(hd:Vals dvs ds)(hx:Passes CX X E)
  (I:Inv X xU σ H s) (r:Vals vs us) (h:sp (vs++dvs) H Q E):xF (x9 X.prog X.w) X.A (call (.ref f) us) (EP X xU σ Q) X.xe s:=by
 have r2:Vals (vs++dvs) (us++ds):=r.append hd;have hl:(us++ds).length=ps.length:=by rw[<-r2.length];exact F.len _ _ _ _ h
 refine wpAny_call (xJ (F.run X.A X.stack s H ⟨us,[]⟩ (us++ds) (vs++dvs) Q E hr I.env0 (hb s us I.kIn hl) r2 h) λr s' hq=>?_);cases r with
 |error e=>exact hx xU σ H s e s' I hq
 |ok fl=>
  cases fl with
  |ret u=>exact I.after hq
  |next=>exact False.elim hq
  |brk=>exact False.elim hq
  |cont=>exact False.elim hq
theorem ZCG(F:FnOk X.prog X.w X.K X.mg X.base CX k f fd ps sp)(hr:Room k X.A)(hg:Gl X x)(hm:X.mg x=vQ (.ref f))(hk:PySem.W.keepIn X.K (.ref f)=vJ)(hb:Binds X.K fd ps ds)(hd:Vals dvs ds)(hx:Passes CX X E)
  (ha:PA X (e::es) t) (hdb:(x==("__debug__":Str))=vX:=by decide) (he:xD (e::es) X.env=(vX,eval e X.env)::xD es X.env:=by rfl) (hpl:(jS pos (xD es X.env)).any (·.1)=vX:=by rfl):
  PE X (.Call (.Name x p) (e::es) [] pos) (ZMw sp dvs E t):=by
 intro xU s σ H Q I h;refine xG (Lz I hg hm ?_ hdb);refine PySem.W.callWith_K (h₀:=X.base) I.ok.mod.kin hk (thn (ha pos xU s σ H _ I h) λus s1 ⟨vs,H1,I1,r,q⟩=>⟨I1.kIn,?_⟩) he hpl;exact ZLO F hr hb hd hx I1 r q
end
section
variable{X:Cx}{CX:CXT}{k:Nat}{f C:jC}{fd:jF}{ps ks:List Str}{sp:Sp}{E:XK}{x m:Str}{p pos apos kpos:Pos}{e o:jE}{es:List jE}{kws:List Keyword}{te ta:TE}{t tk:TA}{nm:Option Str}
variable{g:List jN->List jN->List jN}{gV:List V->List V->List V}
end
structure FnScope (N P:List Str) (sc:jI):Prop where
 kind:sc.kind=.function
 co:sc.isCoroutine=vX
 gen:sc.isGenerator=vX
 nd:N.Nodup
 pre:N.take P.length=P
 par:∀x∈P,sc.names.lookup x=vQ .local∨sc.names.lookup x=vQ .cell
 nofree:∀y∈sc.names,y.2≠ .free
theorem ZFX:∀{binds:List (Str×jN)}{m:Str->Option jN},(∀v,(x,v)∉binds)->bindL kindOf binds m x=m x
 |[],_,_=>rfl
 | (n,v)::r,m,h=>by
  unfold bindL;rw[ZFX λw hw=>h w (zq _ hw)];split
  ·have:x≠n:=by rintro rfl;exact h v zD
   simp[this]
  ·rfl
theorem ZF6:∀{binds:List (Str×jN)}{m:Str->Option jN},(∀v,(x,v)∉binds)->bindC kindOf binds m x=m x
 |[],_,_=>rfl
 | (n,v)::r,m,h=>by
  unfold bindC;rw[ZF6 λw hw=>h w (zq _ hw)];split
  ·rfl
  ·have:x≠n:=by rintro rfl;exact h v zD
   simp[this]
theorem ZHB{v:jN}:∀{P:List Str}{vs:List jN}{i:Nat}{m:Str->Option jN},P.Nodup->P[i]?=vQ x->vs[i]?=vQ v->kindOf x=vQ .local->
  bindL kindOf (P.zip vs) m x=vQ v
 |[],_,_,_,_,h,_,_=>by simp at h
 |_::_,[],_,_,_,_,h,_=>by simp at h
 |p::P,w::vs,0,m,nd,h1,h2,hk=>by simp at h1 h2;subst h1;subst h2;show bindL kindOf ((p,w)::P.zip vs) m p=_;unfold bindL;rw[ZFX λv hv=>(jy.mp nd).1 (List.of_mem_zip hv).1,if_pos hk];simp
 |p::P,w::vs,i+1,m,nd,h1,h2,hk=>by show bindL kindOf ((p,w)::P.zip vs) m x=_;unfold bindL;exact ZHB (i:=i) (jy.mp nd).2 (by simpa using h1) (by simpa using h2) hk
theorem ZEI{v:jN}:∀{P:List Str}{vs:List jN}{i:Nat}{m:Str->Option jN},P.Nodup->P[i]?=vQ x->vs[i]?=vQ v->kindOf x≠vQ .local->
  bindC kindOf (P.zip vs) m x=vQ v
 |[],_,_,_,_,h,_,_=>by simp at h
 |_::_,[],_,_,_,_,h,_=>by simp at h
 |p::P,w::vs,0,m,nd,h1,h2,hk=>by simp at h1 h2;subst h1;subst h2;show bindC kindOf ((p,w)::P.zip vs) m p=_;unfold bindC;rw[ZF6 λv hv=>(jy.mp nd).1 (List.of_mem_zip hv).1,if_neg hk];simp
 |p::P,w::vs,i+1,m,nd,h1,h2,hk=>by show bindC kindOf ((p,w)::P.zip vs) m x=_;unfold bindC;exact ZEI (i:=i) (jy.mp nd).2 (by simpa using h1) (by simpa using h2) hk
noncomputable def start(N:List Str)(vs:List V):St:=vs.map vQ++zY (N.length-vs.length) vZ
noncomputable def Hc(CX:CXT)(P:jH)(w:jO)(K:PySem.W.Frag)(mg:Str->Option jN)(base:Heap)(N:List Str)(qual:Str)(scope:jI)(f:jC)(cd:jN)(A:jD)(outer:List Env)(s:jL)(H:Hp)(E:XK):Cx where
 prog:=P
 w:=w
 K:=K
 mg:=mg
 base:=base
 A:=A.deeper (envOfC qual scope s.heap.objs.size f cd)
 N:=N
 s₀:=s
 H₀:=H
 env:=envOfC qual scope s.heap.objs.size f cd
 outer:=outer
 stack:=envOfC qual scope s.heap.objs.size f cd::outer
 ex:=[]
 calm:=vJ
 fn:=λ_=>vJ
 pn:=[]
 xe:=λe s'=>xF (x9 P w) (A.deeper (envOfC qual scope s.heap.objs.size f cd)) (leaving (envOfC qual scope s.heap.objs.size f cd) e) (λ_ s''=>CX outer H s E e s'') (λe' s''=>CX outer H s E e' s'') s'
theorem ZGA{sc:jI}{n:Nat}(h:sc.names.lookup x=vQ .cell):∃c,(cellsFrom n sc.names []).lookup x=vQ c:=by have q:=PySem.W.cellsFrom_some sc.names n [] (.inl h);exact Option.isSome_iff_exists.mp q
theorem ZJp{CX:CXT}{N ps:List Str}{qual:Str}{scope:jI}{f:jC}{cd:jN}{A:jD}{outer:List Env}{s1:jL}{E:XK}{vs:List V}
  (S:FnScope N ps scope) (hd:A.handled=vZ) (e0:Env0 P w K mg base A outer s H) (hl:vs.length=ps.length) (r:Vals vs us)
  (x:InCallC s s.heap.objs.size (bindL (envOfC qual scope s.heap.objs.size f cd).kindOf (ps.zip us) λ_=>vZ) (cellsFrom (s.heap.objs.size+1) scope.names []) (bindC (envOfC qual scope s.heap.objs.size f cd).kindOf (ps.zip us) λ_=>vZ) s1):
  Inv (Hc CX P w K mg base N qual scope f cd A outer s H E) [] (start N vs) H s1:=by
 have hpl:ps.length<=N.length:=by have:=congrArg List.length S.pre;rw[qB]at this;lia
 obtain⟨h1,tk,rfl,hk⟩:=x.done
 have noA:∀b:jC,b∉(Hc CX P w K mg base N qual scope f cd A outer s H E).ex:=λb z=>absurd (show b∈([]:List jC)from z) (by simp)
 refine⟨⟨e0.mod,S.kind,rfl,rfl,zx _,λy z c h1 h2=>?_,λy hy=>?_,λy c _ h=>?_,λ_=>hd,Around.frames_deeper e0.frames,.inr ⟨rfl,rfl⟩,λb z=>absurd z (noA b),e0.bs,e0.bsz,λb _ _=>noA b,λb z=>absurd z (noA b),e0.funs,e0.frf⟩,
  rfl,e0.bare,Un.kept hk,⟨_,x.toInCall.ns,λi y v h1 h2 h3=>?_⟩,λy c h=>⟨_,x.cell y c h⟩,e0.hok.fresh (zx _),λy c h=>?_,λp hp=>absurd (show p∈([]:List (jC×Obj))from hp) (by simp),e0.hok.kept hk,?_⟩
 ·exact name_of_addr x.apart (PySem.mem_of_lookup h1) (PySem.mem_of_lookup h2)
 ·have hy:scope.names.lookup y=vQ .cell∨scope.names.lookup y=vQ .free:=hy;rcases hy with hy|hy
  ·exact ZGA hy
  ·exact absurd rfl (S.nofree _ (PySem.mem_of_lookup hy))
 ·exact Nat.le_of_lt (x.above y c (PySem.mem_of_lookup h))
 ·have hi:i<vs.length:=by
   unfold start at h2;by_cases hi:i<vs.length
   ·exact hi
   ·rw[zE (by simpa using hi)]at h2;rw[qM]at h2
    split at h2<;>cases h2
  have ha:vs[i]?=vQ v:=by
   unfold start at h2;rw[qQ (by simpa using hi),zv]at h2;cases e:vs[i]? with
   |none=>rw[e]at h2;cases h2
   |some a=>rw[e]at h2;cases h2;rfl
  obtain⟨u,hu,rv⟩:=r.get ha;have hp:ps[i]?=vQ y:=by rw[<-S.pre,qK (by lia)];exact h1
  have ndP:ps.Nodup:=by rw[<-S.pre];exact S.nd.sublist (List.take_sublist _ _)
  refine⟨u,rv,?_⟩;rcases S.par y (qJ hp)with k|k
  ·exact .inl ⟨k,ZHB ndP hp hu k⟩
  ·obtain⟨c,e⟩:=ZGA (n:=s.heap.objs.size+1) k;refine .inr ⟨.inl k,c,e,?_⟩;have q:=x.cell y c e;rw[ZEI ndP hp hu (by show scope.names.lookup y≠_;rw[k];decide)]at q;exact q
 ·exact e0.hok.fresh (Nat.le_of_lt (x.above y c (PySem.mem_of_lookup h)))
 ·unfold start;show _=N.length;rw[qj,zV,qP];lia
theorem ZHc{CX:CXT}{f:jC}{name qual:Str}{params:Arguments}{body:List jM}{scope:jI}{dV kV doc pm cdv ct oc:jN}{an od:Option jC}
  {osl:Array (Option jN)} {N ps:List Str} {sp:Sp} (lk:K.lookup f=vQ ⟨oc,od,.func (PySem.W.fnOf name qual params body scope dV kV doc pm an cdv ct),osl⟩) (hcd:PySem.W.codeIn K cdv qual=vJ) (S:FnScope N ps scope)
  (len:∀vs H Q E,sp vs H Q E->vs.length=ps.length)
  (hbody:∀(A:jD)(outer:List Env)(s:jL)(H:Hp)(vs:List V)(Q:VK)(E:XK),Room k (A.deeper (envOfC qual scope s.heap.objs.size f cdv))->sp vs H Q E->
   ∃t,PSs (Hc CX P w K mg base N qual scope f cdv A outer s H E) body t/\t {nx:=λ_ H'=>Q .non H',rt:=Q} (start N vs) H):
  FnOk P w K mg base CX (k+1) f (PySem.W.fnOf name qual params body scope dV kV doc pm an cdv ct) ps sp:=by
 refine⟨len,λA outer s H args us vs Q E hr e0 hb r hsp=>?_⟩;have hl:=len _ _ _ _ hsp;have KX:K.In s.heap:=e0.mod.kin.keeps λb o e=>(e0.bs b o e).1
 have lim:s.heap.NoLimit:=e0.mod.nolimit.keeps λb o e=>(e0.bs b o e).1
 have hkind:∀y∈ps.zip us,scope.names.lookup y.1=vQ .local∨(scope.names.lookup y.1=vQ .cell/\((cellsFrom (s.heap.objs.size+1) scope.names []).lookup y.1).isSome=vJ):=λ⟨n,v⟩ hy=>by
  rcases S.par n (List.of_mem_zip hy).1 with q|q
  ·exact .inl q
  ·exact .inr ⟨q,PySem.W.cellsFrom_some _ _ _ (.inl q)⟩
 refine codeAny_call_function hr.depth (KX _ _ lk) rfl S.co S.gen rfl (PySem.W.codeRec_of KX hcd) (hb _ _ _ _ ?_);refine wpAny_newFunctionEnv_cells S.kind hkind λenv he s1 x=>?_
 subst he;refine⟨lim.keeps x.toInCall.keep,codeAny_func ?_⟩;obtain⟨t,ht,hq⟩:=hbody A outer s H vs Q E (hr.deeper _) hsp;have I:Inv (Hc CX P w K mg base N qual scope f cdv A outer s H E) [] (start N vs) H s1:=ZJp S hr.hd e0 hl r x;refine xM (ht [] s1 (start N vs) H _ I hq) (λfl s' hs=>?_) λe s' hs=>hs
 have fin:∀{σ':St}{H':Hp}{v:V}{u:jN},Inv (Hc CX P w K mg base N qual scope f cdv A outer s H E) [] σ' H' s'->RelV v u->Q v H'->CE outer P w H s Q u s':=
  λ{σ' H' v u}J rv q=>⟨v,H',J.os,J.bare,J.base,J.hok,rv,q⟩
 cases fl with
 |ret u=>
  obtain⟨v,σ',H',J,rv,q⟩:=hs;exact fin J rv q
 |next=>
  obtain⟨σ',H',J,q⟩:=hs;exact fin (v:=V.non) (u:=Value.none) J rfl q
 |brk=>
  obtain⟨_,_,_,q⟩:=hs;exact False.elim q
 |cont=>
  obtain⟨_,_,_,q⟩:=hs;exact False.elim q
section
variable{X:Cx}{x:Str}{p pos:Pos}{e:jE}{es:List jE}{t:TA}{id T:String}{r:List V->Hp->VK->Prop}
noncomputable def tCB(r:List V->Hp->VK->Prop)(t:TA):TE:=λσ H Q=>t σ H λvs H1=>r vs H1 Q
theorem ZGi(hc:CallR X (.builtin id) r)(hg:Gl X x)(hm:X.mg x=vZ)(hv:xQ x=vQ (.builtin id))(ha:PA X (e::es) t)(hn:x≠"__name__":=by decide)(hdb:(x==("__debug__":Str))=vX:=by decide)
  (he:xD (e::es) X.env=(vX,eval e X.env)::xD es X.env:=by rfl) (hpl:(jS pos (xD es X.env)).any (·.1)=vX:=by rfl):PE X (.Call (.Name x p) (e::es) [] pos) (tCB r t):=by
 intro xU s σ H Q I h;refine xG (Vy I hg hm hv ?_ hn hdb);exact PyProof.Rows.callWith_builtin1 (thn (ha pos xU s σ H _ I h) λus s1 ⟨vs,H1,I1,r1,q1⟩=>hc xU s1 σ H1 vs us Q I1 r1 q1) he hpl
theorem ZKS(hc:CallR X (.type T) r)(hg:Gl X x)(hm:X.mg x=vZ)(hv:xQ x=vQ (.type T))(ha:PA X (e::es) t)(hn:x≠"__name__":=by decide)(hdb:(x==("__debug__":Str))=vX:=by decide)
  (he:xD (e::es) X.env=(vX,eval e X.env)::xD es X.env:=by rfl) (hpl:(jS pos (xD es X.env)).any (·.1)=vX:=by rfl):PE X (.Call (.Name x p) (e::es) [] pos) (tCB r t):=by
 intro xU s σ H Q I h;refine xG (Vy I hg hm hv ?_ hn hdb);exact PyProof.Rows.callWith_type1 (thn (ha pos xU s σ H _ I h) λus s1 ⟨vs,H1,I1,r1,q1⟩=>hc xU s1 σ H1 vs us Q I1 r1 q1) he hpl
end
end _L
namespace HT
open PySem PyProof.Rows
section
open PySem.SeqAt
open PySem.AutoSeq1 (wpAny_loadPart')
open PySem.MeetsSeq PySem.MeetsSeq2 PySem.MeetsSeq3
end
section
variable{prog:jH}{w:jO}{A:jD}{E:jN->jL->Prop}{s:jL}
theorem ZI0{t b:jC}{vs ws:List jN}{Q:jN->jL->Prop}(ht:IsTup s.heap t vs.toArray)(hb:IsTup s.heap b ws.toArray)(hv:vs≠[])
  (h1:ws=[]->Q (.ref t) s) (h2:ws≠[]->Q (.ref s.heap.objs.size) {s with heap:=s.heap.push {cls:=.type "tuple",data:=.seq (vs++ws).toArray}})
  (hsz:vs.length+ws.length<=sizeLine):xF (x9 prog w) A (jU .Add (.ref t) (.ref b)) Q E s:=by
 obtain⟨⟨cls,dd,data,sl⟩,ho,hc,n,hd⟩:=id ht;obtain⟨⟨cls2,dd2,data2,sl2⟩,ho2,hc2,n2,hd2⟩:=id hb;simp only at hc hd hc2 hd2;subst hc hd hc2 hd2;have e:vs.toArray++ws.toArray=(vs++ws).toArray:=by simp
 by_cases hw:ws=[]
 ·exact concat_meets ⟨_,ho,rfl⟩ ⟨_,ho2,rfl⟩ noFill_tuple_add seq_tuple_add PySem.F.slot_tuple_add PySem.F.entry_tuple_add (PySem.F.args_tuple_add_2 _ _)
   (tuple_addW1 t b vs.toArray ws.toArray n n2 dd dd2 sl sl2 (by simpa using hv) (by simp[hw])) ⟨ho,ho2,h1 hw⟩
 ·refine concat_meets ⟨_,ho,rfl⟩ ⟨_,ho2,rfl⟩ noFill_tuple_add seq_tuple_add PySem.F.slot_tuple_add PySem.F.entry_tuple_add (PySem.F.args_tuple_add_2 _ _)
   (tuple_addW2 t b vs.toArray ws.toArray n n2 dd dd2 sl sl2 (by simpa using hv) (by simpa using hw) (by rw[zK,zK];exact hsz)) ⟨ho,ho2,?_⟩
  rw[e];exact h2 hw
noncomputable def sIx(n d:Nat):Option Int->Nat
 |none=>d
 |some v=>if v<0 then(v+(n:Int)).toNat else min v.toNat n
theorem ZE0(n d:Nat)(hd:d<=n)(o:Option Int):sIx n d o<=n:=by
 cases o with
 |none=>exact hd
 |some v=>
  show(if v<0 then(v+(n:Int)).toNat else min v.toNat n)<=n;by_cases hv:v<0
  ·rw[if_pos hv];lia
  ·rw[if_neg hv];exact Nat.min_le_right _ _
theorem ZEJ(v:Int)(n d:Nat):(if v<0 then max (v+(n:Int)) 0 else min v (n:Int))=((sIx n d (vQ v):Nat):Int):=by
 show(if v<0 then max (v+(n:Int)) 0 else min v (n:Int))=(((if v<0 then(v+(n:Int)).toNat else min v.toNat n):Nat):Int);by_cases hv:v<0
 ·simp only[if_pos hv];lia
 ·simp only[if_neg hv];lia
theorem ZHq(lo hi:Option Int)(n:Nat):Builtin.Slice.sliceAdjust lo hi 1 (n:Int)=(((sIx n 0 lo:Nat):Int),((sIx n n hi:Nat):Int)):=by
 have h1:¬((1:Int)<0):=by lia
 unfold Builtin.Slice.sliceAdjust;simp only[h1,if_false];refine Prod.ext ?_ ?_
 ·cases lo with
  |none=>rfl
  |some v=>exact ZEJ v n 0
 ·cases hi with
  |none=>rfl
  |some v=>exact ZEJ v n n
theorem ZNx(i j:Nat):Builtin.Slice.slicePlaces (i:Int) (j:Int) 1=j-i:=by
 unfold Builtin.Slice.slicePlaces;have h1:(1:Int)>0:=by lia
 simp only[h1,if_true,Int.ediv_one]
 split <;> lia
theorem ZGq{v:jN}{o:Option Int}{Q:Option Int->jL->Prop}(p:IsPart v o)(h:Q o s):xF (x9 prog w) A (Builtin.Slice.slicePartIndex v) Q E s:=by
 cases p with
 |none=>exact slicePart_none h
 |int i t=>exact slicePart_int h
theorem ZFI{sl:jC}{vl vu:jN}{lo hi:Option Int}{n:Nat}{Q:Int×Int×Nat->jL->Prop}(hs:s.heap.IsSliceOf sl vl vu .none)(pl:IsPart vl lo)(pu:IsPart vu hi)
  (h:Q (((sIx n 0 lo:Nat):Int),1,sIx n n hi-sIx n 0 lo) s):xF (x9 prog w) A (Builtin.Slice.sliceApplied (.ref sl) (pure (n:Int))) Q E s:=by
 obtain⟨os,hos,hcs,hds⟩:=id hs;unfold Builtin.Slice.sliceApplied Builtin.Slice.sliceFields;refine xH (xH (xI hos hds (x:=vl) rfl (xH (xI hos hds (x:=vu) rfl (xH (xI hos hds (x:=.none) rfl (xP ?_)))))));refine xH (slicePart_none ?_);show xF _ _ (if((1:Int)==0)=vJ then _ else _) _ _ s;rw[if_neg (by decide)];refine xH (ZGq pl (xH (ZGq pu (xH (xP ?_)))))
 show xF _ _ (match Builtin.Slice.sliceAdjust lo hi 1 (n:Int)with |(lo,hi)=>pure (lo,(1:Int),Builtin.Slice.slicePlaces lo hi 1)) _ _ s
 rw[ZHq lo hi n];show xF _ _ (pure (((sIx n 0 lo:Nat):Int),(1:Int),Builtin.Slice.slicePlaces ((sIx n 0 lo:Nat):Int) ((sIx n n hi:Nat):Int) 1)) _ _ s;rw[ZNx];exact xP h
theorem ZOd(xs:Array jN)(i k:Nat):((zy k).filterMap λ(m:Nat)=>xs[((i:Int)+(m:Int)*1).toNat]?).toArray=((xs.toList.drop i).take k).toArray:=by
 have e:(λ(m:Nat)=>xs[((i:Int)+(m:Int)*1).toNat]?)=λm=>xs[i+m]? :=by
  funext m;have:((i:Int)+(m:Int)*1).toNat=i+m:=by lia
  rw[this]
 rw[e];have:=pick_run xs i k;rw[jJ]at this;have e2:((λx=>xs[x]?) ∘ λx=>i+x)=λm=>xs[i+m]? :=rfl
 rw[e2]at this;rw[this]
theorem ZOL{t sl:jC}{items:Array jN}{vl vu:jN}{lo hi:Option Int}{Q:jN->jL->Prop}(ht:IsTup s.heap t items)(hs:s.heap.IsSliceOf sl vl vu .none)(pl:IsPart vl lo)(pu:IsPart vu hi)
  (hw:¬(sIx items.size 0 lo=0/\sIx items.size items.size hi=items.size))
  (h:Q (.ref s.heap.objs.size) {s with heap:=s.heap.push {cls:=.type "tuple",data:=.seq ((items.toList.drop (sIx items.size 0 lo)).take (sIx items.size items.size hi-sIx items.size 0 lo)).toArray}})
  (hsz:items.size<=sizeLine):xF (x9 prog w) A (getItem (.ref t) (.ref sl)) Q E s:=by
 have htake:sizeOk (.seq ((items.toList.drop (sIx items.size 0 lo)).take (sIx items.size items.size hi-sIx items.size 0 lo)).toArray):=by show((items.toList.drop (sIx items.size 0 lo)).take (sIx items.size items.size hi-sIx items.size 0 lo)).toArray.size<=sizeLine;rw[zK,qB,qC,jj];lia
 have hj:sIx items.size items.size hi<=items.size:=ZE0 _ _ (zx _) hi;obtain⟨os,hos,hcs,hds⟩:=id hs;have hTs:s.TypeIs (.ref sl) "slice":=⟨os,hos,hcs⟩;unfold getItem
 try with_reducible refine xL ?_
 first|refine xH (xP ?_)|skip
 refine xH (wpAny_sequenceKey ht.typeIs (by decide) ?_);refine xH (wpAny_callSpecial?_slot (name:=Str.ofString "__getitem__") ht.typeIs PyProof.Rows.slot_tuple_getitem
  (wpAny_call_entry PyProof.Rows.slot_tuple_getitem ht.typeIs entry_tuple_getitem ?_ (args_tuple_getitem _ _)))
 show xF _ _ (Builtin.Tuple.tupleItemsOf (.ref t) >>=_) _ _ s;refine xH (tupleItemsOf_ ht ?_);refine xH (wpAny_typeOf hTs ?_);rw[if_pos (by decide)];refine xH (ZFI hs pl pu ?_);have hno:¬((((sIx items.size 0 lo:Nat):Int)==0&&(1:Int)==1&&(sIx items.size items.size hi-sIx items.size 0 lo)==items.size)=vJ):=by intro q;rw[zZ,zZ]at q;have q1:((sIx items.size 0 lo:Nat):Int)=0:=eq_of_beq q.1.1;have q2:sIx items.size items.size hi-sIx items.size 0 lo=items.size:=eq_of_beq q.2;exact hw ⟨by lia,by lia⟩
 show xF _ _ (if(((sIx items.size 0 lo:Nat):Int)==0&&(1:Int)==1&&(sIx items.size items.size hi-sIx items.size 0 lo)==items.size)=vJ then _ else _) _ _ s;rw[if_neg hno,ZOd]
 first
  |exact xH (m:=Builtin.Tuple.tupleExact _) (xN (xP ⟨_,rfl,xP h⟩) htake)
  |exact xH (m:=Builtin.Tuple.tupleExact _) (xN (xH (xP (xP ⟨_,rfl,xP h⟩))) htake)
  |exact xH (xH (m:=Builtin.Tuple.tupleExact _) (xN (xP (xP ⟨_,rfl,xP h⟩)) htake))
  |exact xH (xH (m:=Builtin.Tuple.tupleExact _) (xN (xP ⟨_,rfl,xP h⟩) htake))
end
end HT
namespace _L
open PySem PySem.Spec PyProof.Rows
variable{xs:List V}{xU:List (jC×Obj)}{σ:St}{H:Hp}{s:jL}{its:List jN}
noncomputable abbrev TO:=St->Hp->(Option Int->Hp->Prop)->Prop
def PO(X:Cx)(e:Option jE)(t:TO):Prop:=
 ∀(xU:List (jC×Obj))(s:jL)(σ:St)(H:Hp)(Q:Option Int->Hp->Prop),Inv X xU σ H s->t σ H Q->
  xF (x9 X.prog X.w) X.A (evalPart e X.env) (λu s'=>∃o H',Inv X xU σ H' s'/\IsPart u o/\Q o H') X.xe s
noncomputable def ZIZ:TO:=λ_ H Q=>Q vZ H
noncomputable def ZJh(t:TE):TO:=λσ H Q=>t σ H λx H1=>∃i,x=.int i/\Q (vQ i) H1
section
variable{X:Cx}{e:jE}{te:TE}{lo hi:Option jE}{tl th:TO}{pos p2:Pos}
theorem ZHp:PO X vZ ZIZ:=by intro xU s σ H Q I h;rw[evalPart_none];exact xP ⟨vZ,H,I,.none,h⟩
theorem ZKu(h:PE X e te):PO X (vQ e) (ZJh te):=by
 intro xU s σ H Q I hw;rw[evalPart_some];refine thn (h xU s σ H _ I hw) λu s1 ⟨x,H1,I1,r1,q1⟩=>?_
 obtain⟨i,rfl,q⟩:=q1;obtain⟨t,rfl⟩:=r1;exact⟨vQ i,H1,I1,.int i t,q⟩
def SlR(X:Cx)(r:V->Option Int->Option Int->Hp->VK->Prop):Prop:=
 ∀(xU:List (jC×Obj))(s:jL)(σ:St)(H:Hp)(x:V)(v vl vu:jN)(lo hi:Option Int)(sl:jC)(Q:VK),Inv X xU σ H s->RelV x v->s.heap.IsSliceOf sl vl vu .none->IsPart vl lo->IsPart vu hi->r x lo hi H Q->
  ∃T id,typeLookup (.type T) "__getitem__"=pure (vQ (.builtin id))/\s.TypeIs v T/\xF (x9 X.prog X.w) X.A (getItem v (.ref sl)) (EP X xU σ Q) X.xe s
theorem SlR.or{r r':V->Option Int->Option Int->Hp->VK->Prop}(h:SlR X r)(h':SlR X r'):SlR X (λx lo hi H Q=>r x lo hi H Q∨r' x lo hi H Q):=by
 intro xU s σ H x v vl vu lo hi sl Q I rx hs pl pu q;rcases q with q|q
 ·exact h xU s σ H x v vl vu lo hi sl Q I rx hs pl pu q
 ·exact h' xU s σ H x v vl vu lo hi sl Q I rx hs pl pu q
noncomputable def tSl(r:V->Option Int->Option Int->Hp->VK->Prop)(te:TE)(tl th:TO):TE:=λσ H Q=>te σ H λx H1=>tl σ H1 λl H2=>th σ H2 λu H3=>r x l u H3 Q
theorem ZOQ{r:V->Option Int->Option Int->Hp->VK->Prop}(hr:SlR X r)(he:PE X e te)(hl:PO X lo tl)(hu:PO X hi th):PE X (.Subscript e (.Slice lo hi vZ p2) pos) (tSl r te tl th):=by
 intro xU s σ H Q I h;refine Subscript_ (thn (he xU s σ H _ I h) λv s1 ⟨x,H1,I1,r1,q1⟩=>?_);refine wpAny_Slice (thn (hl xU s1 σ H1 _ I1 q1) λvl s2 ⟨l,H2,I2,pl,q2⟩=>thn (hu xU s2 σ H2 _ I2 q2) λvu s3 ⟨u,H3,I3,pu,q3⟩=>?_);rw[evalPart_none];refine xP ?_;have I4:Inv X xU σ H3 {s3 with heap:=s3.heap.push {cls:=.type "slice",data:=.fields #[vl,vu,.none]}}:=I3.kept (t':=s3.toks) λb ob q=>zX _ q
 obtain⟨T,id,hT,ht,hg⟩:=hr xU {s3 with heap:=s3.heap.push {cls:=.type "slice",data:=.fields #[vl,vu,.none]}} σ H3 x v vl vu l u s3.heap.objs.size Q I4 r1 (Heap.IsSliceOf.new ..) pl pu q3;show xF (x9 X.prog X.w) X.A (subscriptTail e (.Slice lo hi vZ p2) v (.ref s3.heap.objs.size)) (EP X xU σ Q) X.xe {s3 with heap:=s3.heap.push {cls:=.type "slice",data:=.fields #[vl,vu,.none]}}
 exact tail_any (ops:=[.ref s3.heap.objs.size,v]) ht hT hg (by with_unfolding_all rfl)
def Lf(xs:List V)(lo hi:Option Int):List V:=(xs.drop (HT.sIx xs.length 0 lo)).take (HT.sIx xs.length xs.length hi-HT.sIx xs.length 0 lo)
theorem ZEd(xs:List V)(lo hi:Option Int):(Lf xs lo hi).length<=xs.length:=by unfold Lf;rw[qB,qC];lia
def rSlT(K:PySem.W.Frag):V->Option Int->Option Int->Hp->VK->Prop:=λx lo hi H Q=>∃a xs,x=.ref a/\SqT K H a xs/\
 ¬(HT.sIx xs.length 0 lo=0/\HT.sIx xs.length xs.length hi=xs.length)/\∀p,H p=vZ->Q (.ref p) (upd H p (.tup (Lf xs lo hi)))
theorem ZMx:SlR X (rSlT X.K):=by
 intro xU s σ H x v vl vu lo hi sl Q I rx hs pl pu h;obtain⟨a,xs,rfl,hx,hw,q⟩:=h;cases rx;obtain⟨its,r,ht,hz⟩:=I.tuple hx;have hlen:its.toArray.size=xs.length:=by rw[zK];exact r.length.symm
 refine⟨"tuple",_,PyProof.Rows.slot_tuple_getitem.lookup,ht.typeIs,?_⟩;refine HT.ZOL ht hs pl pu (by rw[hlen];exact hw) ?_ (by rw[hlen];exact hz);rw[hlen];refine⟨.ref s.heap.objs.size,_,I.laid (t':=s.toks) (o:=.tup (Lf xs lo hi)) (λb ob q=>zX _ q) (zx _) ?_,rfl,q _ (I.hok.fresh (zx _))⟩;exact⟨zC (ZEd xs lo hi) hz,_,(r.drop (HT.sIx xs.length 0 lo)).take (HT.sIx xs.length xs.length hi-HT.sIx xs.length 0 lo),IsTup.new _ _⟩
def ZEt(K:PySem.W.Frag):R2:=λx y H Q=>∃a b xs ys,x=.ref a/\y=.ref b/\SqT K H a xs/\SqT K H b ys/\xs≠[]/\xs.length+ys.length<=sizeLine/\
 (ys=[]->Q (.ref a) H)/\(ys≠[]->∀p,H p=vZ->Q (.ref p) (upd H p (.tup (xs++ys))))
theorem Vals.ZBo{us:List jN}(r:Vals xs us):us=[]↔xs=[]:=by
 cases r with
 |nil=>simp
 |cons _ _=>simp
theorem ZKN:OpR X (jU .Add) (ZEt X.K):=by
 intro xU s σ H x y v u Q I rx ry h;obtain⟨a,b,xs,ys,rfl,rfl,ha,hb,hx,hz,q1,q2⟩:=h;cases rx;cases ry;obtain⟨its,r1,p1,_⟩:=I.tuple ha;obtain⟨its2,r2,p2,_⟩:=I.tuple hb;refine HT.ZI0 p1 p2 (λz=>hx (r1.ZBo.mp z)) (λz=>⟨.ref a,H,I,rfl,q1 (r2.ZBo.mp z)⟩) (λz=>?_) (by rw[<-r1.length,<-r2.length];exact hz);refine⟨.ref s.heap.objs.size,_,I.laid (t':=s.toks) (o:=.tup (xs++ys)) (λb ob q=>zX _ q) (zx _) ?_,rfl,q2 (λw=>z (r2.ZBo.mpr w)) _ (I.hok.fresh (zx _))⟩
 exact⟨by rw[qj];exact hz,_,r1.append r2,IsTup.new _ _⟩
end
noncomputable def ixN(n:Nat)(i:Int):Option Nat:=if 0<=i then(if i<n then vQ i.toNat else vZ)else if -(n:Int)<=i then vQ (i+n).toNat else vZ
def atI{α:Type}(xs:List α)(i:Int):Option α:=(ixN xs.length i).bind λj=>xs[j]?
theorem ZEK{n:Nat}{i:Int}{j:Nat}(h:ixN n i=vQ j):seqIndex? i n=vQ j/\j<n/\ -(n:Int)<=i/\i<n:=by
 unfold ixN at h;by_cases h0:0<=i
 ·rw[if_pos h0]at h;by_cases h1:i<n
  ·rw[if_pos h1]at h;have e:i.toNat=j:=Option.some.inj h;exact⟨by rw[seqIndex_of h0 h1,e],by lia,by lia,h1⟩
  ·rw[if_neg h1]at h;cases h
 ·rw[if_neg h0]at h;by_cases h1: -(n:Int)<=i
  ·rw[if_pos h1]at h;have e:(i+n).toNat=j:=Option.some.inj h;exact⟨by rw[seqIndex_neg (by lia) h1,e],by lia,h1,by lia⟩
  ·rw[if_neg h1]at h;cases h
theorem ZBq{α:Type}{xs:List α}{i:Int}{v:α}(h:atI xs i=vQ v):∃j,seqIndex? i xs.length=vQ j/\xs[j]?=vQ v/\j<xs.length/\ -(xs.length:Int)<=i/\i<xs.length:=by
 unfold atI at h;cases e:ixN xs.length i with
 |none=>rw[e]at h;cases h
 |some j=>
  rw[e]at h;obtain⟨h1,h2,h3,h4⟩:=ZEK e;exact⟨j,h1,h,h2,h3,h4⟩
def PlainIx(b:jE):Prop:=∀o i,subscripted b vX o i=operate [o,i] (getItem o i)
def IxR(X:Cx)(r:R2):Prop:=
 ∀(value slice:jE)(xU:List (jC×Obj))(s:jL)(σ:St)(H:Hp)(x y:V)(v u:jN)(Q:VK),Inv X xU σ H s->RelV x v->RelV y u->r x y H Q->
  subscripted slice vX v u=operate [v,u] (getItem v u)->xF (x9 X.prog X.w) X.A (subscriptTail value slice v u) (EP X xU σ Q) X.xe s
def MtR(X:Cx)(id:String)(r:V->List V->Hp->VK->Prop):Prop:=
 ∀(xU:List (jC×Obj))(s:jL)(σ:St)(H:Hp)(x:V)(xs:List V)(v:jN)(us:List jN)(Q:VK),Inv X xU σ H s->RelV x v->Vals xs us->r x xs H Q->
  xF (x9 X.prog X.w) X.A (call (.builtin id) (v::us)) (EP X xU σ Q) X.xe s
section
variable{X:Cx}{a b:jE}{ta tb:TE}{pos:Pos}
theorem IxR.or{r r':R2}(h:IxR X r)(h':IxR X r'):IxR X (λx y H Q=>r x y H Q∨r' x y H Q):=by
 intro value slice xU s σ H x y v u Q I rx ry q hs;rcases q with q|q
 ·exact h value slice xU s σ H x y v u Q I rx ry q hs
 ·exact h' value slice xU s σ H x y v u Q I rx ry q hs
theorem ZMY{r:R2}(hr:IxR X r)(ha:PE X a ta)(hb:PE X b tb)(hs:PlainIx b):PE X (.Subscript a b pos) (tOp r ta tb):=by intro xU s σ H Q I h;exact Subscript_ (ZCR ha hb I h λv u s2 x y H2 I2 rx ry q=>hr a b xU s2 σ H2 x y v u Q I2 rx ry q (hs _ _))
def rIxL(K:PySem.W.Frag):R2:=λx y H Q=>∃p xs i v,x=.ref p/\y=.int i/\SqL K H p xs/\atI xs i=vQ v/\Q v H
def rIxT(K:PySem.W.Frag):R2:=λx y H Q=>∃p xs i v,x=.ref p/\y=.int i/\SqT K H p xs/\atI xs i=vQ v/\Q v H
def rIxS:R2:=λx y H Q=>∃z i c,x=.str z/\y=.int i/\z.length<=sizeLine/\atI z.cps.toList i=vQ c/\Q (.str ⟨#[c]⟩) H
theorem ZOr:IxR X (rIxL X.K):=by
 intro value slice xU s σ H x y v u Q I rx ry h hs;obtain⟨p,xs,i,z,rfl,rfl,hq,he,q⟩:=h;cases rx;obtain⟨t,rfl⟩:=ry;obtain⟨its,r,pl,hz⟩:=I.list hq;obtain⟨j,h1,h2,h3,h4,h5⟩:=ZBq he;obtain⟨w,ew,rw'⟩:=r.get h2;have hl:=r.length;have hn:=line63;have fin:EP X xU σ Q w s:=⟨z,H,I,rw',q⟩;by_cases h0:0<=i
 ·have hj:i.toNat=j:=by rw[seqIndex_of h0 h5]at h1;exact Option.some.inj h1
  exact item_listR pl.isList h0 (by lia) (by rw[hj];simpa using ew) fin hs
 ·have hj:(i+(its.toArray.size:Int)).toNat=j:=by rw[seqIndex_neg (by lia) h4]at h1;rw[zK,<-hl];exact Option.some.inj h1
  exact subscriptTail_builtinR (x:=w) pl.isList.typeIs slot_list_getitem.lookup
   (wpAny_getItem_list_neg (Q:=λr s'=>r=w/\EP X xU σ Q r s') pl.isList (by lia) (by rw[zK]<;>lia) (by lia) (by rw[hj];simpa using ew) ⟨rfl,fin⟩) hs
theorem ZNu:IxR X (rIxT X.K):=by
 intro value slice xU s σ H x y v u Q I rx ry h hs;obtain⟨p,xs,i,z,rfl,rfl,hq,he,q⟩:=h;cases rx;obtain⟨t,rfl⟩:=ry;obtain⟨its,r,pl,hz⟩:=I.tuple hq;obtain⟨j,h1,h2,h3,h4,h5⟩:=ZBq he;obtain⟨w,ew,rw'⟩:=r.get h2;have hl:=r.length;have hn:=line63;have fin:EP X xU σ Q w s:=⟨z,H,I,rw',q⟩;exact subscriptTail_builtinR (x:=w) pl.typeIs slot_tuple_getitem.lookup
  (getItem_tuple (j:=j) (Q:=λr s'=>r=w/\EP X xU σ Q r s') pl (by lia) (by lia) (by rw[zK,<-hl];exact h1) (by simpa using ew) ⟨rfl,fin⟩) hs
theorem ZLP:IxR X rIxS:=by
 intro value slice xU s σ H x y v u Q I rx ry h hs;obtain⟨z,i,c,rfl,rfl,hz,he,q⟩:=h;obtain⟨t,rfl⟩:=rx;obtain⟨t',rfl⟩:=ry;obtain⟨j,h1,h2,h3,h4,h5⟩:=ZBq he;have hl:z.cps.toList.length=z.length:=by simp[Str.length]
 rw[hl]at h1 h4 h5;have hn:=line63;exact tail_any (typeIs_str s z t) slot_str_getitem.lookup (getItem_str (c:=c) (by have e1:decide (i < -(2^63:Int))=vX:=decide_eq_false (by lia);have e2:decide (i ≥ 2^63)=vX:=decide_eq_false (by lia);rw[e1,e2,Bool.or_false]) (by rw[h1];simpa using h2) ⟨.str ⟨#[c]⟩,H,I.tok _,⟨_,rfl⟩,q⟩) hs
def rIx(K:PySem.W.Frag):R2:=λx y H Q=>rIxL K x y H Q∨rIxT K x y H Q∨rIxS x y H Q
theorem ZKZ:IxR X (rIx X.K):=ZOr.or (ZNu.or ZLP)
theorem ZMo(its:List jN)(n j:Nat)(u:jN):Obj.mapSeq (·.setIfInBounds j u) {cls:=.type "list",data:=.seq its.toArray n}={cls:=.type "list",data:=.seq (its.set j u).toArray n}:=by simp[Obj.mapSeq]
theorem Inv.lst{p:jC}(I:Inv X xU σ H s)(h:H p=vQ (.lst xs)):
  ∃(its:List jN)(n:Nat),Vals xs its/\s.heap.get? p=vQ {cls:=.type "list",data:=.seq its.toArray n}/\xs.length<=sizeLine:=by
 obtain⟨z,its,n,r,e⟩:=I.hok p _ h;exact⟨its,n,r,e,z⟩
theorem Inv.ZMk{p:jC}{ys:List V}{its':List jN}{n n':Nat}{f:Obj->Obj}(I:Inv X xU σ H s)(h:H p=vQ (.lst xs))
  (ho:s.heap.get? p=vQ {cls:=.type "list",data:=.seq its.toArray n}) (hf:f {cls:=.type "list",data:=.seq its.toArray n}={cls:=.type "list",data:=.seq its'.toArray n'}) (r:Vals ys its') (hz:ys.length<=sizeLine) (t:Nat):
  Inv X xU σ (upd H p (.lst ys)) {s with heap:=s.heap.update p f,toks:=t}:=by
 have e:(s.heap.update p f).get? p=vQ {cls:=.type "list",data:=.seq its'.toArray n'}:=by rw[q8 f ho (by rw[hf]<;>rfl),hf]
 refine I.write (x:=p) (e:=p) (by rw[h];trivial) (.inl rfl) (λb u hb q=>(qV _ _ (Ne.symm hb)).trans q) ⟨_,e⟩ ?_;exact⟨hz,its',n',r,e⟩
def ZNs:V->V->V->Hp->(Hp->Prop)->Prop:=λo i v H Q=>∃p xs k j,o=.ref p/\i=.int k/\H p=vQ (.lst xs)/\ixN xs.length k=vQ j/\Q (upd H p (.lst (xs.set j v)))
theorem set_list:PSet X ZNs:=by
 intro xU s σ H o i v ov iv u Q I ro ri rv h;obtain⟨p,xs,k,j,rfl,rfl,hp,hj,q⟩:=h;cases ro;obtain⟨t,rfl⟩:=ri;obtain⟨its,n,r,ho,hz⟩:=I.lst hp;obtain⟨h1,h2,h3,h4⟩:=ZEK hj;have hl:=r.length;have hn:=line63
 have I':Inv X xU σ (upd H p (.lst (xs.set j v))) {s with heap:=s.heap.update p (Obj.mapSeq (·.setIfInBounds j u))}:=
  I.ZMk hp ho (ZMo its n j u) (r.set rv j) (by rw[qU];exact hz) s.toks
 by_cases h0:0<=k
 ·have hk:k.toNat=j:=by rw[seqIndex_of h0 h4]at h1;exact Option.some.inj h1
  exact PySem.W.ki_setAt ho h0 (by lia) (by rw[zK,<-hl];exact h4) (by rw[hk];exact⟨_,I',q⟩)
 ·have hk:(k+(its.toArray.size:Int)).toNat=j:=by rw[seqIndex_neg (by lia) h3]at h1;rw[zK,<-hl];exact Option.some.inj h1
  exact PySem.W.ki_setBack ho (by lia) (by rw[zK,<-hl];exact h3) (by lia) (by rw[hk];exact⟨_,I',q⟩)
theorem ZJb(lo hi:Option Int)(n:Nat):(xC lo hi vZ n).1=((HT.sIx n 0 lo:Nat):Int)/\(xC lo hi vZ n).2.1=((HT.sIx n n hi:Nat):Int)/\(xC lo hi vZ n).2.2=1:=by
 refine⟨?_,?_,rfl⟩
 ·cases lo with
  |none=>simp[xC,HT.sIx]
  |some i=>
   simp only[xC,HT.sIx,Option.getD_none,show(1:Int)>0 by decide,if_true];by_cases h:i<0
   ·simp only[h,if_true]<;>lia
   ·simp only[h,if_false]<;>lia
 ·cases hi with
  |none=>simp[xC,HT.sIx]
  |some i=>
   simp only[xC,HT.sIx,Option.getD_none,show(1:Int)>0 by decide,if_true];by_cases h:i<0
   ·simp only[h,if_true]<;>lia
   ·simp only[h,if_false]<;>lia
theorem ZHs(its:List jN)(lo hi:Option Int):slicePick its.toArray lo hi vZ=((its.drop (HT.sIx its.length 0 lo)).take (HT.sIx its.length its.length hi-HT.sIx its.length 0 lo)).toArray:=by
 obtain⟨h1,h2,h3⟩:=ZJb lo hi its.toArray.size;unfold slicePick;rw[h1,h2,h3]
 simp only[sliceRange_one,pick_run,zK]<;>rfl
def rSlL(K:PySem.W.Frag):V->Option Int->Option Int->Hp->VK->Prop:=λx lo hi H Q=>∃a xs,x=.ref a/\SqL K H a xs/\∀p,H p=vZ->Q (.ref p) (upd H p (.lst (Lf xs lo hi)))
theorem ZNe:SlR X (rSlL X.K):=by
 intro xU s σ H x v vl vu lo hi sl Q I rx hs pl pu h;obtain⟨a,xs,rfl,hx,q⟩:=h;cases rx;obtain⟨its,r,ht,hz⟩:=I.list hx;have hlen:=r.length;refine⟨"list",_,slot_list_getitem.lookup,ht.isList.typeIs,?_⟩
 refine wpAny_getItem_list_slice ht.isList hs pl pu .none (by simp) ?_ (by rw[zK]<;>lia)
 rw[ZHs,<-hlen];refine⟨.ref s.heap.objs.size,_,I.laid (t':=s.toks) (o:=.lst (Lf xs lo hi)) (λb ob q=>zX _ q) (zx _) ?_,rfl,q _ (I.hok.fresh (zx _))⟩;exact⟨zC (ZEd xs lo hi) hz,_,0,(r.drop (HT.sIx xs.length 0 lo)).take (HT.sIx xs.length xs.length hi-HT.sIx xs.length 0 lo),zG _ rfl⟩
noncomputable def Ec:V->Bool
 |.non=>vJ
 |.bl _=>vJ
 |.int _=>vJ
 |.str _=>vJ
 |_=>vX
noncomputable def eqV:V->V->Bool
 |.non,.non=>vJ
 |.bl a,.bl b=>a==b
 |.bl a,.int b=>(if a then 1 else 0)==b
 |.int a,.bl b=>a==(if b then 1 else 0)
 |.int a,.int b=>a==b
 |.str a,.str b=>a==b
 |_,_=>vX
theorem ZEi{A:jD}{y x:V}{u v:jN}(ry:RelV y u)(rx:RelV x v)(fy:Ec y=vJ)(fx:Ec x=vJ):SeqAt.EqAt A s u v (eqV y x):=by
 cases y with
 |non=>
  cases ry;cases x with
  |non=>cases rx;exact SeqAt.EqAt.same _
  |bl b=>cases rx;exact SeqAt.EqAt.none_bool b
  |int b=>obtain⟨t,rfl⟩:=rx;exact SeqAt.EqAt.none_int b t
  |str b=>obtain⟨t,rfl⟩:=rx;exact SeqAt.EqAt.none_str b t
  |_=>exact absurd (show vX=vJ from fx) zw
 |bl a=>
  cases ry;cases x with
  |non=>cases rx;exact SeqAt.EqAt.bool_none a
  |bl b=>cases rx;exact SeqAt.EqAt.bool_bool a b
  |int b=>obtain⟨t,rfl⟩:=rx;exact SeqAt.EqAt.bool_int a b t
  |str b=>obtain⟨t,rfl⟩:=rx;exact SeqAt.EqAt.bool_str a b t
  |_=>exact absurd (show vX=vJ from fx) zw
 |int a=>
  obtain⟨t',rfl⟩:=ry;cases x with
  |non=>cases rx;exact SeqAt.EqAt.int_none a t'
  |bl b=>cases rx;exact SeqAt.EqAt.int_bool a t' b
  |int b=>obtain⟨t,rfl⟩:=rx;exact SeqAt.EqAt.int_int a t' b t
  |str b=>obtain⟨t,rfl⟩:=rx;exact SeqAt.EqAt.int_str a t' b t
  |_=>exact absurd (show vX=vJ from fx) zw
 |str a=>
  obtain⟨t',rfl⟩:=ry;cases x with
  |non=>cases rx;exact SeqAt.EqAt.str_none a t'
  |bl b=>cases rx;exact SeqAt.EqAt.str_bool a t' b
  |int b=>obtain⟨t,rfl⟩:=rx;exact SeqAt.EqAt.str_int a t' b t
  |str b=>obtain⟨t,rfl⟩:=rx;exact SeqAt.EqAt.str_str a t' b t
  |_=>exact absurd (show vX=vJ from fx) zw
 |_=>exact absurd (show vX=vJ from fy) zw
def eqU(x:V)(u:jN):Bool:=match u with
 |.none=>eqV .non x
 |.bool b=>eqV (.bl b) x
 |.int i _=>eqV (.int i) x
 |.str z _=>eqV (.str z) x
 |_=>vX
theorem ZFU{x y:V}{u:jN}(r:RelV y u)(f:Ec y=vJ):eqU x u=eqV y x:=by
 cases y with
 |non=>cases r;rfl
 |bl b=>cases r;rfl
 |int i=>obtain⟨t,rfl⟩:=r;rfl
 |str z=>obtain⟨t,rfl⟩:=r;rfl
 |_=>exact absurd (show vX=vJ from f) zw
theorem Rr{x:V}:∀{xs:List V}{us:List jN},Vals xs us->xs.all Ec=vJ->us.any (eqU x)=xs.any λy=>eqV y x
 |_,_,.nil,_=>rfl
 |y::xs,u::us,.cons r t,f=>by rw[jX,zZ]at f;rw[List.any_cons,List.any_cons,ZFU r f.1,Rr t f.2]
theorem Pz{A:jD}{x:V}{v:jN}(rx:RelV x v)(fx:Ec x=vJ):∀{xs:List V}{us:List jN},Vals xs us->xs.all Ec=vJ->∀u∈us,SeqAt.EqAt A s u v (eqU x u)
 |_,_,.nil,_=>λu hu=>by cases hu
 |y::xs,u::us,.cons r t,f=>λu' hu=>by
  rw[jX,zZ]at f;rcases zz.mp hu with rfl|hu
  ·rw[ZFU r f.1];exact ZEi r rx f.1 fx
  ·exact Pz rx fx t f.2 u' hu
def inV(x:V)(xs:List V):Bool:=xs.any λy=>eqV y x
def rIn(K:PySem.W.Frag)(neg:Bool):R2:=λx y H Q=>∃p xs,y=.ref p/\(SqL K H p xs∨SqT K H p xs)/\Ec x=vJ/\xs.all Ec=vJ/\Q (.bl (if neg then !inV x xs else inV x xs)) H
theorem ZJk:OpR X (xX .In) (rIn X.K vX):=by
 intro xU s σ H x y v u Q I rx ry h;obtain⟨p,xs,rfl,hq,fx,fs,q⟩:=h;cases ry;rcases hq with hq|hq
 ·obtain⟨its,r,pl,hz⟩:=I.list hq;refine SeqAt.in_listAt (eqU x) pl.isList (λw hw=>Pz rx fx r fs w (by simpa using hw)) ⟨.bl _,H,I,rfl,?_⟩;rw[show its.toArray.any (eqU x)=its.any (eqU x) by simp,Rr r fs];exact q
 ·obtain⟨its,r,pl,hz⟩:=I.tuple hq;refine SeqAt.in_tupleAt (eqU x) pl (λw hw=>Pz rx fx r fs w (by simpa using hw)) ⟨.bl _,H,I,rfl,?_⟩;rw[show its.toArray.any (eqU x)=its.any (eqU x) by simp,Rr r fs];exact q
theorem ZKd:OpR X (xX .NotIn) (rIn X.K vJ):=by
 intro xU s σ H x y v u Q I rx ry h;obtain⟨p,xs,rfl,hq,fx,fs,q⟩:=h;cases ry;rcases hq with hq|hq
 ·obtain⟨its,r,pl,hz⟩:=I.list hq;refine SeqAt.notIn_listAt (eqU x) pl.isList (λw hw=>Pz rx fx r fs w (by simpa using hw)) ⟨.bl _,H,I,rfl,?_⟩;rw[show its.toArray.any (eqU x)=its.any (eqU x) by simp,Rr r fs];exact q
 ·obtain⟨its,r,pl,hz⟩:=I.tuple hq;refine SeqAt.notIn_tupleAt (eqU x) pl (λw hw=>Pz rx fx r fs w (by simpa using hw)) ⟨.bl _,H,I,rfl,?_⟩;rw[show its.toArray.any (eqU x)=its.any (eqU x) by simp,Rr r fs];exact q
theorem ZNG:CallR X (.builtin "len") (λxs H Q=>∃p ys,xs=[.ref p]/\(SqL X.K H p ys∨SqT X.K H p ys)/\Q (.int ys.length) H):=by
 intro xU s σ H xs us Q I r h;obtain⟨p,ys,rfl,hq,q⟩:=h;obtain⟨u,rfl,rx⟩:=vals1 r;cases rx;have hn:=line63;rcases hq with hq|hq
 ·obtain⟨its,r',pl,hz⟩:=I.list hq;have hlen:=r'.length
  exact Calls.call_len_list pl.isList (by simp only[zK]<;>lia) ⟨.int ys.length,H,I.tok _,⟨s.toks+1,by rw[zK,hlen]⟩,q⟩
 ·obtain⟨its,r',pl,hz⟩:=I.tuple hq;have hlen:=r'.length
  exact len_tuple pl (by simp only[zK]<;>lia) ⟨.int ys.length,H,I.tok _,⟨s.toks+1,by rw[zK,hlen]⟩,q⟩
theorem ZH3:CallR X (.builtin "len") (λxs H Q=>∃z,xs=[.str z]/\z.length<=sizeLine/\Q (.int z.length) H):=by intro xU s σ H xs us Q I r h;obtain⟨z,rfl,hz,q⟩:=h;obtain⟨u,rfl,t,rfl⟩:=vals1 r;have hn:=line63;exact len_str (by lia) ⟨.int z.length,H,I.tok _,⟨_,rfl⟩,q⟩
theorem CallR.or{f:jN}{r r':List V->Hp->VK->Prop}(h:CallR X f r)(h':CallR X f r'):CallR X f (λxs H Q=>r xs H Q∨r' xs H Q):=by
 intro xU s σ H xs us Q I rs q;rcases q with q|q
 ·exact h xU s σ H xs us Q I rs q
 ·exact h' xU s σ H xs us Q I rs q
theorem ZKt:CallR X (.type "tuple") (λxs H Q=>∃p ys,xs=[.ref p]/\((SqL X.K H p ys/\∀l,H l=vZ->Q (.ref l) (upd H l (.tup ys)))∨(SqT X.K H p ys/\Q (.ref p) H))):=by
 intro xU s σ H xs us Q I r h;obtain⟨p,ys,rfl,h⟩:=h;obtain⟨u,rfl,rx⟩:=vals1 r;cases rx;rcases h with⟨hq,q⟩|⟨hq,q⟩
 ·obtain⟨its,r',pl,hz⟩:=I.list hq;have hlen:=r'.length
  refine call_tuple_list pl.isList (λh' kp=>?_) (by simp only[zK]<;>lia)
  have I1:Inv X xU σ H {s with heap:=h'}:=I.kept (t':=s.toks) kp;have I2:Inv X xU σ (upd H h'.objs.size (.tup ys)) {s with heap:=h'.push {cls:=.type "tuple",data:=.seq its.toArray}}:=
   I1.laid (t':=s.toks) (λb o e=>zX _ e) (zx _) (show ObjOk X.prog X.w _ _ _ (.tup ys)from⟨hz,its,r',IsTup.new _ _⟩)
  exact⟨.ref h'.objs.size,_,I2,rfl,q _ (I1.hok.fresh (zx _))⟩
 ·obtain⟨its,r',pl,hz⟩:=I.tuple hq;exact call_tuple_same pl ⟨.ref p,H,I,rfl,q⟩
def tyV(K:PySem.W.Frag)(T:String)(x:V)(H:Hp):Prop:=match x with
 |.str _=>T="str"
 |.int _=>T="int"
 | .ref p=>(T="list"/\∃xs,SqL K H p xs)∨(T="tuple"/\∃o,K.lookup p=vQ o/\o.cls=.type "tuple"/\o.dict=vZ)∨
   (T="dict"/\((∃kvs,H p=vQ (.dK kvs))∨∃kvs,H p=vQ (.dT kvs)))∨(T="set"/\∃S n,H p=vQ (.set S n))
 |_=>False
theorem ZNZ{T:String}{x:V}{v:jN}(I:Inv X xU σ H s)(r:RelV x v)(ty:tyV X.K T x H):
  s.TypeIs v T/\∀a,v=.ref a->∃ob,s.heap.get? a=vQ ob/\ob.dict=vZ:=by
 cases x with
 |str z=>
  obtain⟨t,rfl⟩:=r
  cases(show T="str" from ty)
  exact⟨typeIs_str s z t,λ_ e=>nomatch e⟩
 |int i=>
  obtain⟨t,rfl⟩:=r
  cases(show T="int" from ty)
  exact⟨typeIs_int s i t,λ_ e=>nomatch e⟩
 | ref p=>
  cases r;rcases ty with⟨rfl,xs,hq⟩|⟨rfl,o,hk,hc,hd⟩|⟨rfl,hk⟩|⟨rfl,S,n,hk⟩
  ·obtain⟨its,_,pl,_⟩:=I.list hq;refine⟨pl.isList.typeIs,λa e=>?_⟩;cases e;obtain⟨o,n,e,c,hd,_⟩:=pl;exact⟨o,e,hd⟩
  ·refine⟨⟨o,I.kIn p o hk,hc⟩,λa e=>?_⟩;cases e;exact⟨o,I.kIn _ o hk,hd⟩
  ·have z:∃o,s.heap.get? p=vQ o/\o.ExactDict:=by
    rcases hk with⟨kvs,hk⟩|⟨kvs,hk⟩
    ·obtain⟨_,_,_,_,o,_,_,e,ex,_⟩:=I.hok p _ hk;exact⟨o,e,ex⟩
    ·obtain⟨_,_,_,_,o,_,_,e,ex,_⟩:=I.hok p _ hk;exact⟨o,e,ex⟩
   obtain⟨o,e,ex⟩:=z;refine⟨⟨o,e,ex.1⟩,λa e2=>?_⟩;cases e2;exact⟨o,e,ex.2.1⟩
  ·obtain⟨o,_,_,_,e,ex,_⟩:=I.hok p _ hk;refine⟨⟨o,e,ex.1⟩,λa e2=>?_⟩;cases e2;exact⟨o,e,ex.2.1⟩
 |_=>exact False.elim ty
noncomputable def tBM(K:PySem.W.Frag)(T:String)(r:V->List V->Hp->VK->Prop)(to:TE)(t:TA):TE:=λσ H Q=>to σ H λx H1=>tyV K T x H1/\t σ H1 λxs H2=>r x xs H2 Q
variable{o e:jE}{es:List jE}{to:TE}{t:TA}{name:Str}{apos cpos:Pos}{T id:String}{r:V->List V->Hp->VK->Prop}
theorem ZEk(pa:PlainAttrs T)(slot:Slot T name id)(hty:typeOf (.builtin id)=pure (.type "method_descriptor"))(hm:MtR X id r)(ho:PE X o to)(ha:PA X (e::es) t)
  (hbase:jR o name X.env (eval o X.env)=eval o X.env:=by rfl)
  (hfew:((jS cpos (xD (e::es) X.env)).all (λx=> !x.1)&&(backToKw cpos (keywordEach [] X.env)).all (λx=>x.1.isSome)
   && decide ((e::es).length+([]:List Keyword).length+(if([]:List Keyword).isEmpty then 0 else 1)<30))=vJ:=by rfl)
  (hline:(apos.endLine==cpos.line)=vJ:=by rfl) (hs:xD (e::es) X.env=(vX,eval e X.env)::xD es X.env:=by rfl) (hplain:(jS cpos (xD es X.env)).any (·.1)=vX:=by rfl):
  PE X (.Call (.Attribute o name apos) (e::es) [] cpos) (tBM X.K T r to t):=by
 intro xU s σ H Q I h;refine wpAny_Call_method_late hbase hfew hline rfl (thn (ho xU s σ H _ I h) λv s1 ⟨x,H1,I1,r1,ty,q1⟩=>?_);obtain⟨h1,h2⟩:=ZNZ I1 r1 ty;refine⟨T,id,pa,slot,hty,h1,h2,?_⟩;have hA:=ha cpos xU s1 σ H1 _ I1 q1;rw[hs]at hA⊢
 refine Calls.callWith_builtin (by show(vX||(jS cpos (xD es X.env)).any (·.1))=vX;rw[hplain]<;>rfl) (Calls.evalArgs_plain ?_)
 exact thn hA λus s2 ⟨vs,H2,I2,r2,q2⟩=>hm xU s2 σ H2 x vs v us Q I2 r1 r2 q2
end
def MtM(X:Cx)(id:String)(r:V->List V->Hp->VK->Prop):Prop:=
 ∀(xU:List (jC×Obj))(s:jL)(σ:St)(H:Hp)(x:V)(xs:List V)(v:jN)(us:List jN)(Q:VK),Inv X xU σ H s->RelV x v->Vals xs us->r x xs H Q->
  xF (x9 X.prog X.w) X.A (call (.builtin id) (v::us)) (EP X xU σ Q) X.xe s
theorem Vals.one:∀{x:V}{us:List jN},Vals [x] us->∃u,us=[u]/\RelV x u
 |_,_,.cons r .nil=>⟨_,rfl,r⟩
theorem foldl_rep(its:List jN):∀(k:Nat)(acc:List jN),
  List.foldl (λx1 x2=>x1++x2) acc.toArray (zY k its.toArray)=(acc++(zY k its).flatten).toArray
 |0,acc=>by simp
 |k+1,acc=>by
  have e:acc.toArray++its.toArray=(acc++its).toArray:=by simp
  have e2:(acc++its)++(zY k its).flatten=acc++(zY (k+1) its).flatten:=by rw[qw,List.flatten_cons,qY]
  rw[<-e2,<-foldl_rep its k (acc++its),<-e,qw,jV]
section
variable{X:Cx}{xU:List (jC×Obj)}{σ:St}{H:Hp}{s:jL}{l b:jC}{xs ys zs:List V}
theorem Inv.lset{its':List jN}{n:Nat}{f:Array jN->Array jN}{t':Nat}(I:Inv X xU σ H s)(hH:H l=vQ (.lst xs))
  (e:s.heap.get? l=vQ {cls:=.type "list",data:=.seq its.toArray n}) (hf:f its.toArray=its'.toArray) (hv:Vals ys its') (hz:ys.length<=sizeLine):
  Inv X xU σ (upd H l (.lst ys)) {s with heap:=s.heap.update l (Obj.mapSeq f),toks:=t'}:=by
 have q:=PySem.IsL.update e f;rw[hf]at q;refine I.write (x:=l) (e:=l) (by rw[hH];exact trivial) (.inl rfl) (λb' u hb hu=>(qV s.heap (Obj.mapSeq f) (Ne.symm hb)).trans hu) ⟨_,q⟩ ?_;exact⟨hz,its',_,hv,q⟩
theorem Inv.lnew{t':Nat}(I:Inv X xU σ H s)(hv:Vals ys its)(hz:ys.length<=sizeLine):
  Inv X xU σ (upd H s.heap.objs.size (.lst ys)) {s with heap:=s.heap.push {cls:=.type "list",data:=.seq its.toArray},toks:=t'}:=
 I.laid (λ_ _ q=>zX _ q) (zx _) ⟨hz,its,0,hv,zG _ rfl⟩
theorem Inv.fresh(I:Inv X xU σ H s):H s.heap.objs.size=vZ:=I.hok.fresh (zx _)
theorem Inv.lstM(I:Inv X xU σ H s)(hH:H l=vQ (.lst xs)):xs.length<=sizeLine/\∃(its:List jN)(n:Nat),Vals xs its/\xs.length=its.length/\s.heap.get? l=vQ {cls:=.type "list",data:=.seq its.toArray n}:=by obtain⟨z,its,n,r,e⟩:=I.hok l _ hH;exact⟨z,its,n,r,r.length,e⟩
end
section
variable{X:Cx}
def ZJA:V->List V->Hp->VK->Prop:=λx vs H Q=>∃l xs y,x=.ref l/\vs=[y]/\H l=vQ (.lst xs)/\xs.length<sizeLine/\Q .non (upd H l (.lst (xs++[y])))
theorem ZIu:MtM X "list.append" ZJA:=by
 intro xU s σ H x vs v us Q I rx rv h;obtain⟨l,xs,y,rfl,rfl,hH,hz,q⟩:=h;cases rx;obtain⟨u,rfl,ru⟩:=rv.one;obtain⟨z,its,n,r,hl,e⟩:=I.lstM hH;refine call_meets F.slot_list_append ⟨_,e,rfl⟩ F.entry_list_append (F.args_list_append_2 _ _) (PySem.list_append l its.toArray n u (by rw[zK];lia)) ⟨e,?_⟩;refine⟨.non,_,I.lset (its':=its++[u]) hH e (by simp) (r.append (.cons ru .nil)) ?_,rfl,q⟩
 rw[qj,List.length_singleton];lia
end
section
variable{prog:jH}{w:jO}{A:jD}{E:jN->jL->Prop}{s:jL}
end
section
variable{X:Cx}
end
end _L
namespace Att
open PySem PySem.W PySem.Calls PyProof.Rows
theorem ZJM{P:Params}{h:Heap}:∀(ns:List Int)(vs:List jN),WellAll P h vs (ns.map WData.int)->IntsAre vs ns:=by
 intro ns
 induction ns with
 |nil=>
  intro vs w;rw[qT]at w;cases w;exact .nil
 | cons n ns ih=>
  intro vs w;rw[zk]at w;cases w with
  |cons a b=>
   cases a;exact .cons _ _ (ih _ b)
theorem ZJW{l:OpenLaw}{n:Nat}(hn:l.most=vQ n){P:Params}{h:Heap}{args:List WData}{vals:List jN}
  (hpre:l.row.toRowW.claim.pre args=vJ) (hwl:WellAll P h vals args):
  ∃a vs ns,vals=[Value.ref a]/\args=[WData.list (ns.map WData.int)]/\h.get? a=vQ {cls:=.type "list",data:=.seq vs.toArray}/\IntsAre vs ns/\ns.length<=n:=by
 have hsh:WShape.hasAll [] args [.list .int]=vJ:=(pre_splitW hpre).1;have hc:l.pre.holds [] {args:=args}=vJ:=(pre_splitW hpre).2;obtain⟨d,r,rfl,h1,h2⟩:=hasAllW_cons hsh;obtain rfl:=hasAllW_nil h2;obtain⟨xs,rfl,h3⟩:=hasW_list h1;obtain⟨ns,rfl⟩:=items_int h3;have hlen:ns.length<=n:=by
  unfold OpenLaw.pre at hc;have h4:(WTm.not (.lt (.lit (.int (n:Int))) (.len (.arg 0)))).holds [] {args:=[.list (ns.map .int)]}=vJ:=by have h4:=(holds_andW hc).1;rw[hn]at h4;exact h4
  have h5:=condW_of h4 (w_not (w_lt w_lit (w_len_list (w_arg rfl))));rw[zV]at h5;refine Nat.le_of_not_lt λq=>?_
  have q':(n:Int)<((ns.length:Nat):Int):=by lia
  first
   |(rw[decide_eq_true q']at h5;exact absurd h5 (by decide))
   |(simp at h5;lia)
 cases hwl with
 |cons w1 w2=>
  cases w2;cases w1 with
  |list ho hall=>exact⟨_,_,ns,rfl,rfl,ho,ZJM ns _ hall,hlen⟩
theorem ZN5(l:OpenLaw)(args:List WData):l.row.toRowW.claim.post args (.bool vJ) args=vJ:=
 postW_of (r:=l.row.toRowW) (X:=(vJ==vJ))
  (show WShape.has [] (.bool vJ) .bool=vJ by first|rfl|decide|simp[WShape.has,WShape.arms,WShape.armsAll])
  (show(WTm.eq .res (.lit (.bool vJ))).value [] {args:=args,res:=vQ (.bool vJ),after:=args}=vQ (.bool (vJ==vJ))from w_eq_bool (w_res rfl) w_lit) rfl
section
variable{prog:jH}{w:jO}{A:jD}{E:jN->jL->Prop}{s:jL}{K:xS}
end
end Att
namespace _L
open PySem PySem.Spec PyProof.Rows
variable{fd:jF}{x:Str}
theorem Xj:∀{vs:List jN}{ns:List Int},IntsAre vs ns->Vals (ns.map V.int) vs
 |_,_,.nil=>.nil
 |_,_,.cons n t h=>.cons ⟨t,rfl⟩ (Xj h)
def Only(H:Hp):Prop:=∀b,H b=vZ∨∃o xs,H b=vQ (.frz o (.lst xs))
theorem ZKc{P:jH}{w:jO}{K:PySem.W.Frag}{mg mb:Str->Option jN}{CX:CXT}{k:Nat}{fa a:jC}{sp:Sp}{s₁:jL}{vs:List jN}{ns:List Int}
  (KX:K.In s₁.heap) (hns:s₁.heap.Ns xy mg) (hb:s₁.heap.Ns builtinsNs mb) (hbb:∀x:Str,x≠"__name__"->mb x=xQ x) (hlim:s₁.heap.NoLimit) (hg:s₁.gens= #[])
  (ha:s₁.heap.get? a=vQ {cls:=.type "list",data:=.seq vs.toArray}) (hi:IntsAre vs ns) (hl:ns.length<=sizeLine) (hr:Room k callerA)
  (F:∀base:Heap,K.In base->base.Ns xy mg->FnOk P w K mg base CX k fa fd [x] sp) (hbind:∀(s:jL)(u:jN),BindsTo s fd ⟨[u],[]⟩ [(x,u)])
  (hsp:∀H:Hp,Only H->SqL K H a (ns.map V.int)->sp [.ref a] H (λv _=>v=.bl vJ) λ_ _ _=>False)
  (hCX:∀H e s',CX [] H s₁ (λ_ _ _=>False) e s'->False):
  codeAny (x9 P w) callerA (.call (.ref fa) ⟨[.ref a],[]⟩) (λr s'=>r=.ok (.ret (.bool vJ))/\OldK s₁.heap s'.heap/\s'.os=s₁.os/\AllBare s'.gens) s₁:=by
 have rv:=Xj hi;have lenV:=hi.length;have core:∀H:Hp,Only H->SqL K H a (ns.map V.int)->HOk P w H s₁.heap->(∀b,H b≠vZ->b=a)->(H a≠vZ->K.lookup a=vZ)->
   codeAny (x9 P w) callerA (.call (.ref fa) ⟨[.ref a],[]⟩) (λr s'=>r=.ok (.ret (.bool vJ))/\OldK s₁.heap s'.heap/\s'.os=s₁.os/\AllBare s'.gens) s₁:=by
  intro H hO hS hok hA hK;have base_of:∀{b:jC}{o:Obj},s₁.heap.get? b=vQ o->H b=vZ->(K8 s₁.heap H).get? b=vQ o:=λe n=>ZIF e n
  have noA:∀{b:jC}{o:Obj}{es:Array DictEntry}{ep:Nat},s₁.heap.get? b=vQ o->o.data=.dict es ep->H b=vZ:=λ{b o es ep}e d=>by
   cases q:H b with
   |none=>rfl
   |some u=>
    have e':b=a:=hA b (by rw[q];simp);subst e';rw[ha]at e;cases e;have d':Data.seq vs.toArray _=Data.dict es ep:=d;cases d'
  have nsK:∀{b:jC}{m:Str->Option jN},s₁.heap.Ns b m->(K8 s₁.heap H).Ns b m:=λ{b m}⟨o,es,ep,e,d,r⟩=>⟨o,es,ep,base_of e (noA e d),d,r⟩
  have hKb:K.In (K8 s₁.heap H):=λb o e=>base_of (KX b o e) (by
   cases q:H b with
   |none=>rfl
   |some u=>
    have e':b=a:=hA b (by rw[q];simp);subst e';rw[hK (by rw[q];simp)]at e;cases e)
  have hM:Mod K mg (K8 s₁.heap H):=⟨hKb,nsK hns,⟨mb,nsK hb,hbb⟩,let⟨mc,h1,h2⟩:=hlim;⟨mc,nsK h1,h2⟩⟩
  have e0:Env0 P w K mg (K8 s₁.heap H) callerA [] s₁ H:=⟨rfl,hM,λb o e=>ZMF e,Nat.le_of_eq (ZMW _ _),trivial,λb hb=>absurd (show b∈([]:List jC)from hb) (by simp),hok,.of_eq hg⟩
  refine xJ ((F _ hKb (nsK hns)).run callerA [] s₁ H ⟨[.ref a],[]⟩ [.ref a] [.ref a] _ _ hr e0 (hbind s₁ (.ref a)) (.cons rfl .nil) (hsp H hO hS)) λr s' h=>?_
  cases r with
  |error e=>exact(hCX H e s' h).elim
  | ok fl=>
   cases fl with
   |next=>exact False.elim h
   |brk=>exact False.elim h
   |cont=>exact False.elim h
   | ret u=>
    obtain⟨v,H',os,bare,un,hok',r',q⟩:=h;have q':v=.bl vJ:=q;subst q';obtain rfl:u=Value.bool vJ:=r';refine⟨rfl,OldK.of_keep λb o e=>?_,os,bare⟩;cases q:H b with
    |none=>exact un.keep b o e q (by intro z;exact absurd (show b∈([]:List jC)from z) (by simp)) (by simp)
    |some u=>
     rcases hO b with z|⟨ob,xs,z⟩
     ·rw[q]at z;cases z
     ·have z2:=un.frzs b ob _ z;obtain⟨e1,_⟩:=hok b _ z;obtain⟨e2,_⟩:=hok' b _ z2;rw[e]at e1;cases e1;exact e2
 cases hk:K.lookup a with
 |some o=>
  have e:=KX a o hk;rw[ha]at e;cases e;refine core (λ_=>vZ) (λ_=>.inl rfl) (.inr ⟨_,vs.toArray,_,hk,rfl,rfl,rfl,by rw[zK,lenV];exact hl,by simpa using rv⟩) (λb u z=>by have z':(vZ:Option HO)=vQ u:=z;cases z') (λb z=>absurd rfl z) λz=>absurd rfl z
 | none=>
  refine core (λb=>if b=a then vQ (.frz {cls:=.type "list",data:=.seq vs.toArray} (.lst (ns.map V.int)))else vZ) (λb=>?_) (.inl (.inr ⟨{cls:=.type "list",data:=.seq vs.toArray},if_pos rfl⟩)) (λb u z=>?_) (λb z=>?_) λ_=>hk
  ·by_cases hb:b=a
   ·exact .inr ⟨_,_,if_pos hb⟩
   ·exact .inl (if_neg hb)
  ·by_cases hb:b=a
   ·have z':=(if_pos hb).symm.trans z;cases z';subst hb;exact⟨ha,by rw[zV];exact hl,vs,_,rv,ha⟩
   ·have z':=(if_neg hb).symm.trans z;cases z'
  ·by_cases hb:b=a
   ·exact hb
   ·exact absurd (if_neg hb) z
noncomputable abbrev CX0:CXT:=λ_ _ _ _ _ _=>False
noncomputable abbrev E0:XK:=λ_ _ _=>False
theorem pass0{X:Cx}:Passes CX0 X E0:=λ_ _ _ _ _ _ _ h=>h.elim
structure Fun (K:PySem.W.Frag) (x qual:Str) (st:jM) (f:jC) (fd:jF):Prop where
 ex:∃(oc:jN)(od:Option jC)(kV doc pm:jN)(an:Option jC)(cdv ct:jN)(osl:Array (Option jN)),
  fd=PySem.W.fnOf x qual (Hy st) (Ep st) (Bd st) .none kV doc pm an cdv ct/\K.lookup f=vQ ⟨oc,od,.func fd,osl⟩/\PySem.W.codeIn K cdv qual=vJ
 kp:PySem.W.keepIn K (.ref f)=vJ
section
variable{P:jH}{w:jO}{K:PySem.W.Frag}{mg:Str->Option jN}{base:Heap}
theorem Fun.ok{qual:Str}{st:jM}{f:jC}{N ps:List Str}{k:Nat}{sp:Sp}(F:Fun K x qual st f fd)(S:FnScope N ps (Bd st))(len:∀vs H Q E,sp vs H Q E->vs.length=ps.length)
  (hbody:∀(cdv:jN)(A:jD)(outer:List Env)(s:jL)(H:Hp)(vs:List V)(Q:VK)(E:XK),Room k (A.deeper (envOfC qual (Bd st) s.heap.objs.size f cdv))->sp vs H Q E->
   ∃t,PSs (Hc CX0 P w K mg base N qual (Bd st) f cdv A outer s H E).nox (Ep st) t/\t {nx:=λ_ H'=>Q .non H',rt:=Q} (start N vs) H):FnOk P w K mg base CX0 (k+1) f fd ps sp:=by
 obtain⟨oc,od,kV,doc,pm,an,cdv,ct,osl,rfl,lk,hcd⟩:=F.ex;refine ZHc lk hcd S len λA outer s H vs Q E hr hsp=>?_
 obtain⟨t,h,q⟩:=hbody cdv A outer s H vs Q E hr hsp;exact⟨t,h.nox,q⟩
theorem Fun.binds{qual:Str}{st:jM}{f:jC}{ps:List Str}(F:Fun K x qual st f fd)
  (h:∀(kV doc pm:jN)(an:Option jC)(cdv ct:jN)(us:List jN),us.length=ps.length->bindArgs (PySem.W.fnOf x qual (Hy st) (Ep st) (Bd st) .none kV doc pm an cdv ct) ⟨us,[]⟩=pure (ps.zip us)):Binds K fd ps []:=by
 obtain⟨oc,od,kV,doc,pm,an,cdv,ct,osl,rfl,lk,hcd⟩:=F.ex;exact .all (h kV doc pm an cdv ct)
end
section
variable{X:Cx}
theorem pv(i:Nat){pos:Pos}(hN:X.N[i]?=vQ x:=by rfl)(hv:Vis X.env.scope x:=by first|exact Or.inl rfl|exact Or.inr (Or.inl rfl)|exact Or.inr (Or.inr rfl))(hd:(x==("__debug__":Str))=vX:=by decide)
  (hcd:(x==("__classdict__":Str))=vX:=by decide):PE X (.Name x pos) (M8 i):=Pr hN hv hd hcd
end
section
variable{κ:Type}[DecidableEq κ]
end
section
variable{P:jH}{w:jO}{H:Hp}{h:Heap}{a:jC}
end
section
variable{X:Cx}{xU:List (jC×Obj)}{σ:St}{H:Hp}{s:jL}{a:jC}{y v:V}{u r:jN}{o:Option V}{A:jD}{E:jN->jL->Prop}
end
section
variable{X:Cx}{xU:List (jC×Obj)}{σ:St}{H:Hp}{s:jL}{a:jC}{kvs:List (Key×V)}{k:Key}{u:jN}{A:jD}{E:jN->jL->Prop}
end
section
variable{X:Cx}{o i e value:jE}{pos pos' tpos:Pos}{td ty tv:TE}
end
section
variable{X:Cx}{pos:Pos}
end
section
variable{X:Cx}{xU:List (jC×Obj)}{σ:St}{H:Hp}{s:jL}{a:jC}{y d:V}{u r:jN}{o:Option V}{A:jD}{E:jN->jL->Prop}
end
section
variable{X:Cx}{o e f:jE}{apos cpos:Pos}{td ty tx:TE}
end
section
variable{X:Cx}{xU:List (jC×Obj)}{σ:St}{H:Hp}{s:jL}{a:jC}{kvs:List (Key×V)}{A:jD}{E:jN->jL->Prop}
end
section
variable{X:Cx}{xU:List (jC×Obj)}{σ:St}{H:Hp}{s:jL}{a:jC}{y:V}{u:jN}{A:jD}{E:jN->jL->Prop}
end
section
variable{X:Cx}
end
end _L
namespace _L
section
variable{κ:Type}[DecidableEq κ]
end
end _L
namespace _D
open PySem PySem.Spec _L
open PyProof.Rows hiding St
variable{α β:Type}{H:Hp}{p:jC}{v:V}{vs:List V}{σ:St}{E:XK}{Q:VK}{W:Ends}{e tg:jE}{ho:HO}{i j k nt:Nat}{x:Str}{op:CmpOp}{s:jL}{P:jH}{w:jO}{scope:jI}{env:Env}{X:Cx}{lo hi:Option Int}
inductive D where
 |non|bl (b:Bool)|int (i:Int)|str (x:Str)|ty (n:String)
 |tup (xs:List D)
 |fl (xs:List D)
 |ref (i:Nat)
variable{d:D}{ds xs:List D}
inductive DO where
 |lst (xs:List D)
 |dct (kvs:List (Key×D))
 |ins (c:Str) (fs:List (Str×D))
 |tab (c m:Str)
 |exc (c:Str) (fs:List (Str×D))
 |gone
variable{o:DO}
noncomputable abbrev DH:=List DO
variable{G G' L:DH}
noncomputable abbrev DSt:=List (Option D)
variable{S:DSt}
structure Xn where
 cls:Str
 fs:List (Str×D)
inductive R (α:Type) where
 |ok (a:α) (G:DH)
 |err (x:Xn) (G:DH)
 |bad
variable{r:R D}
noncomputable def R.bind{α β:Type}(r:R α)(f:α->DH->R β):R β:=match r with
 |.ok a G=>f a G
 |.err x G=>.err x G
 |.bad=>.bad
@[simp]theorem R.ZBO(a:α)(G:DH)(f:α->DH->R β):(R.ok a G).bind f=f a G:=id rfl
@[simp]theorem R.ZPf(f:α->DH->R β):(R.bad:R α).bind f=.bad:=id rfl
inductive SR where
 |nx (S:DSt) (G:DH)
 |rt (d:D) (G:DH)
 |bk (S:DSt) (G:DH)
 |ct (S:DSt) (G:DH)
 |err (x:Xn) (G:DH)
 |bad
noncomputable abbrev DE:=DSt->DH->R D
variable{t te:DE}
noncomputable abbrev DB:=DSt->DH->R Bool
noncomputable abbrev DA:=DSt->DH->R (List D)
noncomputable abbrev DS:=DSt->DH->SR
variable{u:DS}
def FzL(K:PySem.W.Frag)(H:Hp)(a:jC)(xs:List V):Prop:=
 (∃o,H a=vQ (.frz o (.lst xs)))∨
  ∃(o:Obj)(its:Array jN)(n:Nat),K.lookup a=vQ o/\o.cls=.type "list"/\o.dict=vZ/\o.data=.seq its n/\its.size<=sizeLine/\Vals xs its.toList
theorem FzL.sq{K:PySem.W.Frag}{a:jC}{xs:List V}(h:FzL K H a xs):SqL K H a xs:=by
 rcases h with⟨o,h⟩|h
 ·exact .inl (.inr ⟨o,h⟩)
 ·exact .inr h
structure Wd where
 K:PySem.W.Frag
 n:Nat
 m:Nat->jC
 H:Hp
variable{a b c:Wd}
mutual
def Rep(a:Wd):D->V->Prop
 |.non,v=>v=.non
 |.bl b,v=>v=.bl b
 |.int i,v=>v=.int i
 |.str x,v=>v=.str x
 |.ty n,v=>v=.ty n
 |.tup ds,v=>∃p vs,v=.ref p/\SqT a.K a.H p vs/\Reps a ds vs
 |.fl ds,v=>∃p vs,v=.ref p/\FzL a.K a.H p vs/\Reps a ds vs
 |.ref i,v=>i<a.n/\v=.ref (a.m i)
def Reps(a:Wd):List D->List V->Prop
 |[],vs=>vs=[]
 |d::ds,vs=>∃v r,vs=v::r/\Rep a d v/\Reps a ds r
end
noncomputable def lamQ:Str:="Sending.send_by.<locals>.<lambda>"
def TabOk(H:Hp)(P:jC):Prop:=
 ∃ps:Array jN,H P=vQ (.tbl ps)/\TriplesOk ps.toList/\∀pos cv,codeAmong pos ps.toList=vQ cv->∃(c:jC)(oc:Obj)(vs:Array jN)(t:Tok),cv=.ref c/\H c=vQ (.frz oc (.own 0))/\oc.data=.fields vs/\vs[1]?=vQ (.str lamQ t)
theorem TabOk.mono{H':Hp}{P:jC}(h:TabOk H P)(ht:∀p ps,H p=vQ (.tbl ps)->H' p=vQ (.tbl ps))(hf:∀p o u,H p=vQ (.frz o u)->H' p=vQ (.frz o u)):TabOk H' P:=by obtain⟨ps,e,t,k⟩:=h;refine⟨ps,ht _ _ e,t,λpos cv hc=>?_⟩;obtain⟨c,oc,vs,tk,e1,e2,e3,e4⟩:=k pos cv hc;exact⟨c,oc,vs,tk,e1,hf _ _ _ e2,e3,e4⟩
def TabAt(K:PySem.W.Frag)(C m:Str)(c P:jC):Prop:=
 ∃(Ca f:jC)(oc:jN)(od:Option jC)(fd:jF)(sl:Array (Option jN)),PySem.W.nsIn K xy C=vQ (vQ (.ref Ca))/\PySem.W.findIn K (.ref Ca) m=vQ (vQ (.ref f))/\K.lookup f=vQ ⟨oc,od,.func fd,sl⟩/\fd.code=.ref c/\PySem.W.codeHdIn K c P=vJ
structure Ext (a b:Wd):Prop where
 k:b.K=a.K
 n:a.n<=b.n
 m:∀i,i<a.n->b.m i=a.m i
 tup:∀p xs,a.H p=vQ (.tup xs)->b.H p=vQ (.tup xs)
 frz:∀p o u,a.H p=vQ (.frz o u)->b.H p=vQ (.frz o u)
 tab:∀p,TabOk a.H p->TabOk b.H p
theorem Ext.refl(a:Wd):Ext a a:=⟨rfl,zx _,λ_ _=>rfl,λ_ _ h=>h,λ_ _ _ h=>h,λ_ h=>h⟩
theorem Ext.trans(x:Ext a b)(y:Ext b c):Ext a c:=
 ⟨y.k.trans x.k,zC x.n y.n,λi h=>(y.m i (zW h x.n)).trans (x.m i h),λp xs h=>y.tup p xs (x.tup p xs h),λp o u h=>y.frz p o u (x.frz p o u h),λp h=>y.tab p (x.tab p h)⟩
theorem Ext.sqT(x:Ext a b){xs:List V}(h:SqT a.K a.H p xs):SqT b.K b.H p xs:=by
 rcases h with(h|⟨o,h⟩)|h
 ·exact .inl (.inl (x.tup _ _ h))
 ·exact .inl (.inr ⟨o,x.frz _ _ _ h⟩)
 ·exact .inr (by rw[x.k];exact h)
theorem Ext.fzL(x:Ext a b){xs:List V}(h:FzL a.K a.H p xs):FzL b.K b.H p xs:=by
 rcases h with⟨o,h⟩|h
 ·exact .inl ⟨o,x.frz _ _ _ h⟩
 ·exact .inr (by rw[x.k];exact h)
mutual
theorem Rep.mono(x:Ext a b):∀{d:D}{v:V},Rep a d v->Rep b d v
 |.non,_,h=>h
 |.bl _,_,h=>h
 |.int _,_,h=>h
 |.str _,_,h=>h
 |.ty _,_,h=>h
 |.tup ds,v,h=>by obtain⟨p,vs,e,q,r⟩:=h;exact⟨p,vs,e,x.sqT q,Reps.mono x r⟩
 |.fl ds,v,h=>by obtain⟨p,vs,e,q,r⟩:=h;exact⟨p,vs,e,x.fzL q,Reps.mono x r⟩
 |.ref i,v,h=>by obtain⟨l,e⟩:=h;exact⟨zW l x.n,by rw[x.m i l];exact e⟩
theorem Reps.mono(x:Ext a b):∀{ds:List D}{vs:List V},Reps a ds vs->Reps b ds vs
 |[],_,h=>h
 |d::ds,vs,h=>by obtain⟨v,r,e,h1,h2⟩:=h;exact⟨v,r,e,Rep.mono x h1,Reps.mono x h2⟩
end
theorem Reps.length:∀{ds:List D}{vs:List V},Reps a ds vs->ds.length=vs.length
 |[],vs,h=>by cases(show vs=[]from h);rfl
 |d::ds,vs,h=>by obtain⟨v,r,e,h1,h2⟩:=h;subst e;show ds.length+1=r.length+1;rw[Reps.length h2]
theorem Reps.get:∀{ds:List D}{vs:List V}{i:Nat}{d:D},Reps a ds vs->ds[i]?=vQ d->∃v,vs[i]?=vQ v/\Rep a d v
 |[],vs,_,_,h,e=>by simp at e
 |d::ds,vs,0,d',h,e=>by obtain⟨v,r,e1,h1,h2⟩:=h;subst e1;simp at e;subst e;exact⟨v,rfl,h1⟩
 |d::ds,vs,i+1,d',h,e=>by obtain⟨v,r,e1,h1,h2⟩:=h;subst e1;obtain⟨w,e2,h3⟩:=Reps.get (i:=i) (d:=d') h2 (by simpa using e);exact⟨w,by simpa using e2,h3⟩
theorem Reps.get':∀{ds:List D}{vs:List V}{i:Nat}{v:V},Reps a ds vs->vs[i]?=vQ v->∃d,ds[i]?=vQ d/\Rep a d v
 |[],vs,_,_,h,e=>by cases(show vs=[]from h);simp at e
 |d::ds,vs,0,v',h,e=>by obtain⟨v,r,e1,h1,h2⟩:=h;subst e1;simp at e;subst e;exact⟨d,rfl,h1⟩
 |d::ds,vs,i+1,v',h,e=>by obtain⟨v,r,e1,h1,h2⟩:=h;subst e1;obtain⟨w,e2,h3⟩:=Reps.get' (i:=i) (v:=v') h2 (by simpa using e);exact⟨w,by simpa using e2,h3⟩
theorem Reps.append:∀{ds es:List D}{vs us:List V},Reps a ds vs->Reps a es us->Reps a (ds++es) (vs++us)
 |[],_,vs,_,h,h'=>by cases(show vs=[]from h);exact h'
 |d::ds,es,vs,us,h,h'=>by obtain⟨v,r,e1,h1,h2⟩:=h;subst e1;exact⟨v,r++us,rfl,h1,Reps.append h2 h'⟩
theorem Reps.cons(h:Rep a d v)(r:Reps a ds vs):Reps a (d::ds) (v::vs):=⟨v,vs,rfl,h,r⟩
theorem Reps.nil:Reps a [] []:=rfl
theorem Reps.set(h:Rep a d v):∀{ds:List D}{vs:List V}(i:Nat),Reps a ds vs->Reps a (ds.set i d) (vs.set i v)
 |[],vs,_,r=>by cases(show vs=[]from r);exact rfl
 |d'::ds,vs,0,r=>by obtain⟨v',r',e1,h1,h2⟩:=r;subst e1;exact⟨v,r',rfl,h,h2⟩
 |d'::ds,vs,i+1,r=>by obtain⟨v',r',e1,h1,h2⟩:=r;subst e1;exact⟨v',r'.set i v,rfl,h1,Reps.set h i h2⟩
theorem Reps.take:∀{ds:List D}{vs:List V}(i:Nat),Reps a ds vs->Reps a (ds.take i) (vs.take i)
 |_,_,0,_=>rfl
 |[],vs,_+1,r=>by cases(show vs=[]from r);exact rfl
 |d'::ds,vs,i+1,r=>by obtain⟨v',r',e1,h1,h2⟩:=r;subst e1;exact⟨v',r'.take i,rfl,h1,Reps.take i h2⟩
theorem Reps.drop:∀{ds:List D}{vs:List V}(i:Nat),Reps a ds vs->Reps a (ds.drop i) (vs.drop i)
 |_,_,0,r=>r
 |[],vs,_+1,r=>by cases(show vs=[]from r);exact rfl
 |d'::ds,vs,i+1,r=>by obtain⟨v',r',e1,h1,h2⟩:=r;subst e1;exact Reps.drop i h2
theorem Reps.ints:∀(ns:List Int),Reps a (ns.map D.int) (ns.map V.int)
 |[]=>rfl
 |n::ns=>⟨.int n,ns.map V.int,rfl,rfl,Reps.ints ns⟩
def RepKV(a:Wd)(kvs:List (Key×D))(us:List (Key×V)):Prop:=kvs.map (·.1)=us.map (·.1)/\Reps a (kvs.map (·.2)) (us.map (·.2))
def RepF(a:Wd)(fs:List (Str×D))(us:List (Str×V)):Prop:=fs.map (·.1)=us.map (·.1)/\Reps a (fs.map (·.2)) (us.map (·.2))
def XD(a:Wd)(od:Option jC)(fs:List (Str×D)):Prop:=(fs=[]/\od=vZ)∨∃dx o us,od=vQ dx/\a.H dx=vQ (.frz o (.xd us))/\RepF a fs us
def ORep(a:Wd):DO->Option HO->Prop
 |.lst ds,o=>∃vs,o=vQ (.lst vs)/\Reps a ds vs
 |.dct kvs,o=>∃us,o=vQ (.dK us)/\RepKV a kvs us
 |.ins c fs,o=>∃C dx us,PySem.W.nsIn a.K xy c=vQ (vQ (.ref C))/\o=vQ (.ins C dx us)/\RepF a fs us
 |.tab C m,_=>∃c P,TabAt a.K C m c P/\TabOk a.H P
 |.exc c fs,o=>∃C oe u vs,PySem.W.nsIn a.K xy c=vQ (vQ (.ref C))/\o=vQ (.frz oe u)/\oe.cls=.ref C/\oe.data=.fields vs/\XD a oe.dict fs
 |.gone,_=>True
structure Sim (a:Wd) (G:DH):Prop where
 len:G.length=a.n
 inj:∀i j,i<a.n->j<a.n->a.m i=a.m j->i=j
 obj:∀(i:Nat)(o:DO),G[i]?=vQ o->ORep a o (a.H (a.m i))
 tr:∀i,i<a.n->a.H (a.m i)≠vZ
structure RepS (a:Wd) (S:DSt) (σ:St):Prop where
 len:S.length=σ.length
 get:∀(i:Nat)(d:D),S[i]?=vQ (vQ d)->∃v,σ[i]?=vQ (vQ v)/\Rep a d v
theorem RepS.mono(x:Ext a b)(r:RepS a S σ):RepS b S σ:=⟨r.len,λi d h=>let⟨v,e,q⟩:=r.get i d h;⟨v,e,q.mono x⟩⟩
theorem RepS.set(r:RepS a S σ)(i:Nat)(h:Rep a d v):RepS a (S.set i (vQ d)) (σ.set i (vQ v)):=by
 refine⟨by simpa using r.len,λj e he=>?_⟩;rw[qk]at he⊢;by_cases hij:i=j
 ·subst hij;rw[if_pos rfl]at he⊢;by_cases hl:i<S.length
  ·rw[if_pos hl]at he;have e1:d=e:=by simpa using he
   subst e1;rw[if_pos (by rw[<-r.len];exact hl)];exact⟨v,rfl,h⟩
  ·rw[if_neg hl]at he;cases he
 ·rw[if_neg hij]at he⊢;exact r.get j e he
def XOk(E:XK)(a:Wd)(x:Xn)(G:DH):Prop:=E≠E0/\∀(b:Wd)(C:jC)(od:Option jC),Ext a b->Sim b G->PySem.W.nsIn b.K xy x.cls=vQ (vQ (.ref C))->XD b od x.fs->E (.ref C) od b.H
def out(E:XK)(a:Wd)(r:R D)(Q:VK):Prop:=match r with
 |.ok d G=>∀(b:Wd)(v:V),Ext a b->Sim b G->Rep b d v->Q v b.H
 |.err x G=>XOk E a x G
 |.bad=>False
def Fo(E:XK)(a:Wd)(r:R Bool)(Q:Bool->Hp->Prop):Prop:=match r with
 |.ok k G=>∀(b:Wd),Ext a b->Sim b G->Q k b.H
 |.err x G=>XOk E a x G
 |.bad=>False
def Fl(E:XK)(a:Wd)(r:R (List D))(Q:List V->Hp->Prop):Prop:=match r with
 |.ok ds G=>∀(b:Wd)(vs:List V),Ext a b->Sim b G->Reps b ds vs->Q vs b.H
 |.err x G=>XOk E a x G
 |.bad=>False
def Ck(E:XK)(a:Wd)(r:SR)(W:Ends):Prop:=match r with
 |.nx S G=>∀(b:Wd)(σ:St),Ext a b->Sim b G->RepS b S σ->W.nx σ b.H
 |.bk S G=>∀(b:Wd)(σ:St),Ext a b->Sim b G->RepS b S σ->W.bk σ b.H
 |.ct S G=>∀(b:Wd)(σ:St),Ext a b->Sim b G->RepS b S σ->W.ct σ b.H
 |.rt d G=>∀(b:Wd)(v:V),Ext a b->Sim b G->Rep b d v->W.rt v b.H
 |.err x G=>XOk E a x G
 |.bad=>False
theorem XOk.mono(x:Ext a b){e:Xn}(h:XOk E a e G):XOk E b e G:=⟨h.1,λc C od y s n q=>h.2 c C od (x.trans y) s n q⟩
theorem out.mono(x:Ext a b)(h:out E a r Q):out E b r Q:=by
 cases r with
 |ok d G=>exact λc v y s q=>h c v (x.trans y) s q
 |err e G=>exact XOk.mono (E:=E) (e:=e) (G:=G) x h
 |bad=>exact h
theorem Fo.mono(x:Ext a b){r:R Bool}{Q:Bool->Hp->Prop}(h:Fo E a r Q):Fo E b r Q:=by
 cases r with
 |ok d G=>exact λc y s=>h c (x.trans y) s
 |err e G=>exact XOk.mono (E:=E) (e:=e) (G:=G) x h
 |bad=>exact h
theorem Fl.mono(x:Ext a b){r:R (List D)}{Q:List V->Hp->Prop}(h:Fl E a r Q):Fl E b r Q:=by
 cases r with
 |ok d G=>exact λc vs y s q=>h c vs (x.trans y) s q
 |err e G=>exact XOk.mono (E:=E) (e:=e) (G:=G) x h
 |bad=>exact h
theorem Ck.mono(x:Ext a b){r:SR}(h:Ck E a r W):Ck E b r W:=by
 cases r with
 |nx d G=>exact λc vs y s q=>h c vs (x.trans y) s q
 |bk d G=>exact λc vs y s q=>h c vs (x.trans y) s q
 |ct d G=>exact λc vs y s q=>h c vs (x.trans y) s q
 |rt d G=>exact λc vs y s q=>h c vs (x.trans y) s q
 |err e G=>exact XOk.mono (E:=E) (e:=e) (G:=G) x h
 |bad=>exact h
def lE(K:PySem.W.Frag)(E:XK)(t:DE):TE:=λσ H Q=>∃(a:Wd)(S:DSt)(G:DH),a.K=K/\a.H=H/\Sim a G/\RepS a S σ/\out E a (t S G) Q
def lB(K:PySem.W.Frag)(E:XK)(t:DB):TT:=λσ H Q=>∃(a:Wd)(S:DSt)(G:DH),a.K=K/\a.H=H/\Sim a G/\RepS a S σ/\Fo E a (t S G) Q
def lA(K:PySem.W.Frag)(E:XK)(t:DA):TA:=λσ H Q=>∃(a:Wd)(S:DSt)(G:DH),a.K=K/\a.H=H/\Sim a G/\RepS a S σ/\Fl E a (t S G) Q
def lS(K:PySem.W.Frag)(E:XK)(t:DS):TS:=λW σ H=>∃(a:Wd)(S:DSt)(G:DH),a.K=K/\a.H=H/\Sim a G/\RepS a S σ/\Ck E a (t S G) W
def lR2(K:PySem.W.Frag)(E:XK)(f:D->D->DH->R D):R2:=λx y H Q=>∃(a:Wd)(G:DH)(d e:D),a.K=K/\a.H=H/\Sim a G/\Rep a d x/\Rep a e y/\out E a (f d e G) Q
def lR1(K:PySem.W.Frag)(E:XK)(f:D->DH->R D):V->Hp->VK->Prop:=λx H Q=>∃(a:Wd)(G:DH)(d:D),a.K=K/\a.H=H/\Sim a G/\Rep a d x/\out E a (f d G) Q
def lRn(K:PySem.W.Frag)(E:XK)(f:List D->DH->R D):List V->Hp->VK->Prop:=λxs H Q=>∃(a:Wd)(G:DH)(ds:List D),a.K=K/\a.H=H/\Sim a G/\Reps a ds xs/\out E a (f ds G) Q
def lF(K:PySem.W.Frag)(f:List D->DH->R D):Sp:=λxs H Q _=>∃(a:Wd)(G:DH)(ds:List D),a.K=K/\a.H=H/\Sim a G/\Reps a ds xs/\out E0 a (f ds G) Q
def lFx(K:PySem.W.Frag)(f:List D->DH->R D):Sp:=λxs H Q E=>∃(a:Wd)(G:DH)(ds:List D),a.K=K/\a.H=H/\Sim a G/\Reps a ds xs/\out E a (f ds G) Q
section
variable{X:Cx}{E:XK}
def QE(X:Cx)(E:XK)(e:jE)(t:DE):Prop:=PE X e (lE X.K E t)
def QT(X:Cx)(E:XK)(e:jE)(t:DB):Prop:=PT X e (lB X.K E t)
def QA(X:Cx)(E:XK)(es:List jE)(t:DA):Prop:=PA X es (lA X.K E t)
def QS(X:Cx)(E:XK)(st:jM)(t:DS):Prop:=PS X st (lS X.K E t)
def QSs(X:Cx)(E:XK)(st:List jM)(t:DS):Prop:=PSs X st (lS X.K E t)
theorem _root_._L.PE.mono{t t':TE}(h:PE X e t)(w:∀σ H Q,t' σ H Q->t σ H Q):PE X e t':=λxU s σ H Q I q=>h xU s σ H Q I (w σ H Q q)
theorem _root_._L.PT.mono{t t':TT}(h:PT X e t)(w:∀σ H Q,t' σ H Q->t σ H Q):PT X e t':=λxU s σ H Q I q=>h xU s σ H Q I (w σ H Q q)
theorem _root_._L.PA.mono{e:List jE}{t t':TA}(h:PA X e t)(w:∀σ H Q,t' σ H Q->t σ H Q):PA X e t':=λpos xU s σ H Q I q=>h pos xU s σ H Q I (w σ H Q q)
theorem _root_._L.PS.mono{e:jM}{t t':TS}(h:PS X e t)(w:∀W σ H,t' W σ H->t W σ H):PS X e t':=λxU s σ H W I q=>h xU s σ H W I (w W σ H q)
theorem _root_._L.PSs.mono{e:List jM}{t t':TS}(h:PSs X e t)(w:∀W σ H,t' W σ H->t W σ H):PSs X e t':=λxU s σ H W I q=>h xU s σ H W I (w W σ H q)
theorem _root_._L.OpR.mono{f:jN->jN->Sem jN}{r r':R2}(h:OpR X f r)(w:∀x y H Q,r' x y H Q->r x y H Q):OpR X f r':=λxU s σ H x y v u Q I rx ry q=>h xU s σ H x y v u Q I rx ry (w _ _ _ _ q)
end
theorem Fp{f:D->DH->R D}(h:out E a (r.bind f) Q):
  out E a r (λv H=>∃(b:Wd)(d:D)(G:DH),b.H=H/\Ext a b/\Sim b G/\Rep b d v/\r=.ok d G/\out E b (f d G) Q):=by
 cases r with
 |ok d G=>exact λb v x s q=>⟨b,d,G,rfl,x,s,q,rfl,out.mono x h⟩
 |err e G=>exact h
 |bad=>exact h
theorem Qx{r:R (List D)}{f:List D->DH->R D}(h:out E a (r.bind f) Q):
  Fl E a r (λvs H=>∃(b:Wd)(ds:List D)(G:DH),b.H=H/\Ext a b/\Sim b G/\Reps b ds vs/\r=.ok ds G/\out E b (f ds G) Q):=by
 cases r with
 |ok d G=>exact λb v x s q=>⟨b,d,G,rfl,x,s,q,rfl,out.mono x h⟩
 |err e G=>exact h
 |bad=>exact h
theorem ZIm{r:R Bool}{f:Bool->DH->R D}(h:out E a (r.bind f) Q):
  Fo E a r (λk H=>∃(b:Wd)(G:DH),b.H=H/\Ext a b/\Sim b G/\r=.ok k G/\out E b (f k G) Q):=by
 cases r with
 |ok d G=>exact λb x s=>⟨b,G,rfl,x,s,rfl,out.mono x h⟩
 |err e G=>exact h
 |bad=>exact h
theorem ZLU{f:D->DH->R Bool}{Q:Bool->Hp->Prop}(h:Fo E a (r.bind f) Q):
  out E a r (λv H=>∃(b:Wd)(d:D)(G:DH),b.H=H/\Ext a b/\Sim b G/\Rep b d v/\r=.ok d G/\Fo E b (f d G) Q):=by
 cases r with
 |ok d G=>exact λb v x s q=>⟨b,d,G,rfl,x,s,q,rfl,Fo.mono x h⟩
 |err e G=>exact h
 |bad=>exact h
theorem ZCr{r:R Bool}{f:Bool->DH->R Bool}{Q:Bool->Hp->Prop}(h:Fo E a (r.bind f) Q):
  Fo E a r (λk H=>∃(b:Wd)(G:DH),b.H=H/\Ext a b/\Sim b G/\r=.ok k G/\Fo E b (f k G) Q):=by
 cases r with
 |ok d G=>exact λb x s=>⟨b,G,rfl,x,s,rfl,Fo.mono x h⟩
 |err e G=>exact h
 |bad=>exact h
theorem ZOm{f:D->DH->R (List D)}{Q:List V->Hp->Prop}(h:Fl E a (r.bind f) Q):
  out E a r (λv H=>∃(b:Wd)(d:D)(G:DH),b.H=H/\Ext a b/\Sim b G/\Rep b d v/\r=.ok d G/\Fl E b (f d G) Q):=by
 cases r with
 |ok d G=>exact λb v x s q=>⟨b,d,G,rfl,x,s,q,rfl,Fl.mono x h⟩
 |err e G=>exact h
 |bad=>exact h
theorem ZKV{r:R (List D)}{f:List D->DH->R (List D)}{Q:List V->Hp->Prop}(h:Fl E a (r.bind f) Q):
  Fl E a r (λvs H=>∃(b:Wd)(ds:List D)(G:DH),b.H=H/\Ext a b/\Sim b G/\Reps b ds vs/\r=.ok ds G/\Fl E b (f ds G) Q):=by
 cases r with
 |ok d G=>exact λb v x s q=>⟨b,d,G,rfl,x,s,q,rfl,Fl.mono x h⟩
 |err e G=>exact h
 |bad=>exact h
noncomputable def R.toS{α:Type}(r:R α)(f:α->DH->SR):SR:=match r with
 |.ok a G=>f a G
 |.err x G=>.err x G
 |.bad=>.bad
@[simp]theorem R.J0(a:α)(G:DH)(f:α->DH->SR):(R.ok a G).toS f=f a G:=id rfl
@[simp]theorem R.ZPH(x:Xn)(G:DH)(f:α->DH->SR):(R.err x G:R α).toS f=.err x G:=id rfl
@[simp]theorem R.ZPM(f:α->DH->SR):(R.bad:R α).toS f=.bad:=id rfl
theorem Rp{f:D->DH->SR}(h:Ck E a (r.toS f) W):
  out E a r (λv H=>∃(b:Wd)(d:D)(G:DH),b.H=H/\Ext a b/\Sim b G/\Rep b d v/\r=.ok d G/\Ck E b (f d G) W):=by
 cases r with
 |ok d G=>exact λb v x s q=>⟨b,d,G,rfl,x,s,q,rfl,Ck.mono x h⟩
 |err e G=>exact h
 |bad=>exact h
theorem ZN0{r:R Bool}{f:Bool->DH->SR}(h:Ck E a (r.toS f) W):
  Fo E a r (λk H=>∃(b:Wd)(G:DH),b.H=H/\Ext a b/\Sim b G/\r=.ok k G/\Ck E b (f k G) W):=by
 cases r with
 |ok d G=>exact λb x s=>⟨b,G,rfl,x,s,rfl,Ck.mono x h⟩
 |err e G=>exact h
 |bad=>exact h
section
theorem out.imp{Q':VK}(h:out E a r Q)(w:∀v H,Q v H->Q' v H):out E a r Q':=by
 cases r with
 |ok d G=>exact λb v x s q=>w _ _ (h b v x s q)
 |err e G=>exact h
 |bad=>exact h
theorem Fl.imp{r:R (List D)}{Q Q':List V->Hp->Prop}(h:Fl E a r Q)(w:∀v H,Q v H->Q' v H):Fl E a r Q':=by
 cases r with
 |ok d G=>exact λb v x s q=>w _ _ (h b v x s q)
 |err e G=>exact h
 |bad=>exact h
theorem Fo.imp{r:R Bool}{Q Q':Bool->Hp->Prop}(h:Fo E a r Q)(w:∀v H,Q v H->Q' v H):Fo E a r Q':=by
 cases r with
 |ok d G=>exact λb x s=>w _ _ (h b x s)
 |err e G=>exact h
 |bad=>exact h
def Wd.push(a:Wd)(p:jC)(ho:HO):Wd:=⟨a.K,a.n+1,λk=>if k=a.n then p else a.m k,upd a.H p ho⟩
def Wd.put(a:Wd)(p:jC)(ho:HO):Wd:={a with H:=upd a.H p ho}
theorem Ext.put(h:a.H p=vZ):Ext a (a.put p ho):=
 ⟨rfl,zx _,λ_ _=>rfl,λq xs e=>by show upd a.H p ho q=_;rw[Bq (Hb e h)];exact e,λq o u e=>by show upd a.H p ho q=_;rw[Bq (Hb e h)];exact e,λ_ t=>t.mono (λq ps e=>by show upd a.H p ho q=_;rw[Bq (Hb e h)];exact e) (λq o u e=>by show upd a.H p ho q=_;rw[Bq (Hb e h)];exact e)⟩
theorem Ext.push(h:a.H p=vZ):Ext a (a.push p ho):=
 ⟨rfl,jK _,λi hi=>by show(if i=a.n then p else a.m i)=a.m i;rw[if_neg (zM hi)],λq xs e=>by show upd a.H p ho q=_;rw[Bq (Hb e h)];exact e,λq o u e=>by show upd a.H p ho q=_;rw[Bq (Hb e h)];exact e,λ_ t=>t.mono (λq ps e=>by show upd a.H p ho q=_;rw[Bq (Hb e h)];exact e) (λq o u e=>by show upd a.H p ho q=_;rw[Bq (Hb e h)];exact e)⟩
theorem XD.mono(x:Ext a b){od:Option jC}{fs:List (Str×D)}(h:XD a od fs):XD b od fs:=by
 rcases h with h|⟨dx,o,us,e,f,k,r⟩
 ·exact .inl h
 ·exact .inr ⟨dx,o,us,e,x.frz _ _ _ f,k,r.mono x⟩
theorem ORep.mono(x:Ext a b){q:Option HO}(h:ORep a o q):ORep b o q:=by
 cases o with
 |lst ds=>obtain⟨vs,e,r⟩:=h;exact⟨vs,e,r.mono x⟩
 |dct kvs=>obtain⟨us,e,k,r⟩:=h;exact⟨us,e,k,r.mono x⟩
 |ins c fs=>obtain⟨C,dx,us,n,e,k,r⟩:=h;exact⟨C,dx,us,by rw[x.k];exact n,e,k,r.mono x⟩
 |tab C m=>obtain⟨c,P,e,t⟩:=h;exact⟨c,P,by rw[x.k];exact e,x.tab _ t⟩
 |exc c fs=>obtain⟨C,oe,u,vs,n,e,k1,k2,z⟩:=h;exact⟨C,oe,u,vs,by rw[x.k];exact n,e,k1,k2,z.mono x⟩
 |gone=>trivial
theorem Sim.lt(s:Sim a G)(h:G[i]?=vQ o):i<a.n:=by rw[<-s.len];exact(zJ.mp h).1
theorem Sim.put(s:Sim a G)(h:a.H p=vZ):Sim (a.put p ho) G:=by
 refine⟨s.len,s.inj,λi o e=>?_,λi hi=>?_⟩
 ·have z:a.H (a.m i)≠vZ:=s.tr i (s.lt e);have ne:a.m i≠p:=λq=>z (by rw[q];exact h)
  show ORep _ o (upd a.H p ho (a.m i));rw[Bq ne];exact(s.obj i o e).mono (Ext.put h)
 ·have z:a.H (a.m i)≠vZ:=s.tr i hi;have ne:a.m i≠p:=λq=>z (by rw[q];exact h)
  show upd a.H p ho (a.m i)≠vZ;rw[Bq ne];exact z
theorem Sim.push(s:Sim a G)(h:a.H p=vZ)(r:ORep (a.push p ho) o (vQ ho)):Sim (a.push p ho) (G++[o]):=by
 have nep:∀i,i<a.n->a.m i≠p:=λi hi q=>s.tr i hi (by rw[q];exact h)
 have old:∀i,i<a.n->(a.push p ho).m i=a.m i:=λi hi=>by show(if i=a.n then p else a.m i)=_;rw[if_neg (zM hi)]
 have new:(a.push p ho).m a.n=p:=by show(if a.n=a.n then p else a.m a.n)=_;rw[if_pos rfl]
 refine⟨by simp[s.len,Wd.push],λi j hi hj e=>?_,λi u e=>?_,λi hi=>?_⟩
 ·have hi':i<a.n+1:=hi;have hj':j<a.n+1:=hj;by_cases h1:i<a.n
  ·by_cases h2:j<a.n
   ·rw[old i h1,old j h2]at e;exact s.inj i j h1 h2 e
   ·have:j=a.n:=by lia
    subst this;rw[old i h1,new]at e;exact absurd e (nep i h1)
  ·have:i=a.n:=by lia
   subst this;by_cases h2:j<a.n
   ·rw[old j h2,new]at e;exact absurd e.symm (nep j h2)
   ·lia
 ·by_cases h1:i<a.n
  ·rw[qQ (by rw[s.len];exact h1)]at e;rw[old i h1];show ORep _ u (upd a.H p ho (a.m i));rw[Bq (nep i h1)];exact(s.obj i u e).mono (Ext.push h)
  ·have hl:i<(G++[o]).length:=(zJ.mp e).1;have:i=a.n:=by rw[qj,s.len]at hl;simp at hl;lia
   subst this;rw[zE (by rw[s.len];exact zx _),s.len]at e;simp at e;subst e;rw[new];show ORep _ o (upd a.H p ho p);rw[Io];exact r
 ·have hi':i<a.n+1:=hi;by_cases h1:i<a.n
  ·rw[old i h1];show upd a.H p ho (a.m i)≠vZ;rw[Bq (nep i h1)];exact s.tr i h1
  ·have:i=a.n:=by lia
   subst this;rw[new];show upd a.H p ho p≠vZ;rw[Io];simp
theorem Ext.wr(h:a.H p=vQ (.lst vs)):Ext a (a.put p ho):=
 ⟨rfl,zx _,λ_ _=>rfl,λq xs e=>by
  show upd a.H p ho q=_;rw[Bq (λz=>by subst z;rw[h]at e;cases e)];exact e,λq o u e=>by
  show upd a.H p ho q=_;rw[Bq (λz=>by subst z;rw[h]at e;cases e)];exact e,λ_ t=>t.mono (λq ps e=>by show upd a.H p ho q=_;rw[Bq (λz=>by subst z;rw[h]at e;cases e)];exact e) (λq o u e=>by show upd a.H p ho q=_;rw[Bq (λz=>by subst z;rw[h]at e;cases e)];exact e)⟩
theorem Sim.wr(s:Sim a G)(hi:i<a.n){vs':List V}{ds':List D}(h:a.H (a.m i)=vQ (.lst vs))(r:Reps (a.put (a.m i) (.lst vs')) ds' vs'):Sim (a.put (a.m i) (.lst vs')) (G.set i (.lst ds')):=by
 refine⟨by rw[qU];exact s.len,s.inj,λj o e=>?_,λj hj=>?_⟩
 ·rw[qk]at e;show ORep _ o (upd a.H (a.m i) (.lst vs') (a.m j));by_cases hij:i=j
  ·subst hij;rw[if_pos rfl,if_pos (by rw[s.len];exact hi)]at e;cases e;rw[Io];exact⟨vs',rfl,r⟩
  ·rw[if_neg hij]at e;rw[Bq λz=>hij (s.inj _ _ (s.lt e) hi z).symm];exact(s.obj j o e).mono (Ext.wr h)
 ·show upd a.H (a.m i) (.lst vs') (a.m j)≠vZ;by_cases hij:a.m j=a.m i
  ·rw[hij,Io];simp
  ·rw[Bq hij];exact s.tr j hj
mutual
noncomputable def bel(n:Nat):D->Bool
 |.ref i=>decide (i<n)
 |.tup ds=>bels n ds
 |.fl ds=>bels n ds
 |_=>vJ
noncomputable def bels(n:Nat):List D->Bool
 |[]=>vJ
 |d::ds=>bel n d&&bels n ds
end
def Nb(n:Nat):DO->Bool
 |.lst ds=>bels n ds
 |.dct kvs=>bels n (kvs.map (·.2))
 |.ins _ fs=>bels n (fs.map (·.2))
 |.tab _ _=>vJ
 |.exc _ fs=>bels n (fs.map (·.2))
 |.gone=>vJ
mutual
theorem Rep.bel:∀{d:D}{v:V},Rep a d v->bel a.n d=vJ
 |.non,_,_=>by simp[_D.bel]
 |.bl _,_,_=>by simp[_D.bel]
 |.int _,_,_=>by simp[_D.bel]
 |.str _,_,_=>by simp[_D.bel]
 |.ty _,_,_=>by simp[_D.bel]
 |.tup ds,v,h=>by obtain⟨p,vs,e,q,r⟩:=h;simp only[_D.bel];exact Reps.bels r
 |.fl ds,v,h=>by obtain⟨p,vs,e,q,r⟩:=h;simp only[_D.bel];exact Reps.bels r
 |.ref i,v,h=>by obtain⟨l,e⟩:=h;simp only[_D.bel];exact decide_eq_true l
theorem Reps.bels:∀{ds:List D}{vs:List V},Reps a ds vs->bels a.n ds=vJ
 |[],_,_=>by simp[_D.bels]
 |d::ds,vs,h=>by
  obtain⟨v,r,e,h1,h2⟩:=h;simp only[_D.bels];rw[Rep.bel h1,Reps.bels h2]
  rfl
end
structure Cut (b c:Wd):Prop where
 k:c.K=b.K
 h:c.H=b.H
mutual
theorem Rep.cut(x:Cut b c){n:Nat}(hn:n<=c.n)(hm:∀i,i<n->c.m i=b.m i):∀{d:D}{v:V},Rep b d v->bel n d=vJ->Rep c d v
 |.non,_,h,_=>h
 |.bl _,_,h,_=>h
 |.int _,_,h,_=>h
 |.str _,_,h,_=>h
 |.ty _,_,h,_=>h
 |.tup ds,v,h,q=>by obtain⟨p,vs,e,t,r⟩:=h;simp only[_D.bel]at q;exact⟨p,vs,e,by rw[x.k,x.h];exact t,Reps.cut x hn hm r q⟩
 |.fl ds,v,h,q=>by obtain⟨p,vs,e,t,r⟩:=h;simp only[_D.bel]at q;exact⟨p,vs,e,by rw[x.k,x.h];exact t,Reps.cut x hn hm r q⟩
 |.ref i,v,h,q=>by obtain⟨l,e⟩:=h;simp only[_D.bel]at q;have q':=of_decide_eq_true q;exact⟨zW q' hn,by rw[hm i q'];exact e⟩
theorem Reps.cut(x:Cut b c){n:Nat}(hn:n<=c.n)(hm:∀i,i<n->c.m i=b.m i):∀{ds:List D}{vs:List V},Reps b ds vs->bels n ds=vJ->Reps c ds vs
 |[],_,h,_=>h
 |d::ds,vs,h,q=>by obtain⟨v,r,e,h1,h2⟩:=h;simp only[_D.bels,zZ]at q;exact⟨v,r,e,Rep.cut x hn hm h1 q.1,Reps.cut x hn hm h2 q.2⟩
end
theorem ORep.cut(x:Cut b c){n:Nat}(hn:n<=c.n)(hm:∀i,i<n->c.m i=b.m i){q:Option HO}(h:ORep b o q)(l:Nb n o=vJ):ORep c o q:=by
 cases o with
 |lst ds=>obtain⟨vs,e,r⟩:=h;exact⟨vs,e,Reps.cut x hn hm r l⟩
 |dct kvs=>obtain⟨us,e,k,r⟩:=h;exact⟨us,e,k,Reps.cut x hn hm r l⟩
 |ins c fs=>obtain⟨C,dx,us,n,e,k,r⟩:=h;exact⟨C,dx,us,by rw[x.k];exact n,e,k,Reps.cut x hn hm r l⟩
 |tab C m=>obtain⟨c,P,e,t⟩:=h;exact⟨c,P,by rw[x.k];exact e,by rw[x.h];exact t⟩
 |exc c fs=>
  obtain⟨C,oe,u,vs,n,e,k1,k2,z⟩:=h;refine⟨C,oe,u,vs,by rw[x.k];exact n,e,k1,k2,?_⟩;rcases z with z|⟨dx,o,us,e,f,k,r⟩
  ·exact .inl z
  ·exact .inr ⟨dx,o,us,e,by rw[x.h];exact f,k,Reps.cut x hn hm r l⟩
 |gone=>trivial
theorem ORep.Nb{q:Option HO}(h:ORep a o q):Nb a.n o=vJ:=by
 cases o with
 |lst ds=>obtain⟨vs,e,r⟩:=h;exact r.bels
 |dct kvs=>obtain⟨us,e,k,r⟩:=h;exact r.bels
 |ins c fs=>obtain⟨C,dx,us,n,e,k,r⟩:=h;exact r.bels
 |tab C m=>rfl
 |exc c fs=>
  obtain⟨C,oe,u,vs,n,e,k1,k2,z⟩:=h;rcases z with⟨z,_⟩|⟨dx,o,us,e,f,k,r⟩
  ·rw[z];rfl
  ·exact r.bels
 |gone=>rfl
open Classical in
def tidy (G:DH) (r:R D):R D:=match r with
 | .ok d G'=>if G'.take G.length=G then
   (if bel G.length d=vJ then .ok d G else match d with
    |.ref i=>match G'[i]? with
     |some o=>if Nb G.length o=vJ then .ok (.ref G.length) (G++[o])else .ok d G'
     |none=>.ok d G'
    |_=>.ok d G')else .ok d G'
 |r=>r
theorem ZBB (s:Sim a G) (h:out E a (tidy G r) Q):out E a r Q:=by
 cases r with
 |err e G'=>exact h
 |bad=>exact h
 | ok d G'=>
  intro b v x sb rb;unfold tidy at h;dsimp only at h;split at h
  ·rename_i hG;have hlen:∀i o,G[i]?=vQ o->G'[i]?=vQ o:=λi o e=>by have hi:i<G.length:=(zJ.mp e).1;rw[<-hG,qK hi]at e;exact e
   have base:∀(c:Wd),Cut b c->a.n<=c.n->(∀i,i<a.n->c.m i=b.m i)->∀i o,G[i]?=vQ o->ORep c o (c.H (c.m i)):=λc cc hn hm i o e=>by have q:=sb.obj i o (hlen i o e);rw[cc.h,hm i (s.lt e)];exact q.cut cc hn hm (s.obj i o e).Nb
   split at h
   ·rename_i hb;rw[s.len]at hb;let c:Wd:=⟨b.K,a.n,b.m,b.H⟩;have cc:Cut b c:=⟨rfl,rfl⟩;refine h c v ⟨x.k,zx _,x.m,x.tup,x.frz,x.tab⟩ ⟨s.len,λi j hi hj=>sb.inj i j (zW hi x.n) (zW hj x.n),base c cc (zx _) (λ_ _=>rfl),λi hi=>sb.tr i (zW hi x.n)⟩ ?_;exact rb.cut cc (zx _) (λ_ _=>rfl) hb
   ·rename_i hb;split at h
    ·rename_i i;obtain⟨il,iv⟩:=rb;split at h
     ·rename_i o ho;split at h
      ·rename_i hbo;rw[s.len]at hbo hb h;simp only[_D.bel,decide_eq_true_eq]at hb;let c:Wd:=⟨b.K,a.n+1,λk=>if k=a.n then b.m i else b.m k,b.H⟩;have cc:Cut b c:=⟨rfl,rfl⟩;have cm:∀j,j<a.n->c.m j=b.m j:=λj hj=>by show(if j=a.n then b.m i else b.m j)=_;rw[if_neg (zM hj)]
       have cn:c.m a.n=b.m i:=by show(if a.n=a.n then b.m i else b.m a.n)=_;rw[if_pos rfl]
       have lt':∀j,j<a.n->j<b.n:=λj hj=>zW hj x.n
       refine h c v ⟨x.k,jK _,λj hj=>(cm j hj).trans (x.m j hj),x.tup,x.frz,x.tab⟩ ⟨by simp[s.len,c],λj k hj hk e=>?_,λj u e=>?_,λj hj=>?_⟩ ⟨qx _,by rw[cn];exact iv⟩
       ·have hj':j<a.n+1:=hj;have hk':k<a.n+1:=hk;by_cases h1:j<a.n
        ·by_cases h2:k<a.n
         ·rw[cm j h1,cm k h2]at e;exact sb.inj j k (lt' j h1) (lt' k h2) e
         ·have:k=a.n:=by lia
          subst this;rw[cm j h1,cn]at e;have:=sb.inj j i (lt' j h1) il e;lia
        ·have:j=a.n:=by lia
         subst this;by_cases h2:k<a.n
         ·rw[cm k h2,cn]at e;have:=sb.inj i k il (lt' k h2) e;lia
         ·lia
       ·by_cases h1:j<a.n
        ·rw[qQ (by rw[s.len];exact h1)]at e;exact base c cc (jK _) cm j u e
        ·have hl:j<(G++[o]).length:=(zJ.mp e).1;have:j=a.n:=by rw[qj,s.len]at hl;simp at hl;lia
         subst this;rw[zE (by rw[s.len];exact zx _),s.len]at e;simp at e;subst e;rw[cn];exact(sb.obj i o ho).cut cc (jK _) cm hbo
       ·have hj':j<a.n+1:=hj;by_cases h1:j<a.n
        ·rw[cm j h1];exact sb.tr j (lt' j h1)
        ·have:j=a.n:=by lia
         subst this;rw[cn];exact sb.tr i il
      ·exact h b v x sb ⟨il,iv⟩
     ·exact h b v x sb ⟨il,iv⟩
    ·exact h b v x sb rb
  ·exact h b v x sb rb
end
noncomputable def dV(i:Nat):DE:=λS G=>match S[i]? with
 |some (vQ d)=>.ok d G
 |_=>.bad
noncomputable def dC(d:D):DE:=λ_ G=>.ok d G
def dOp(f:D->D->DH->R D)(a b:DE):DE:=λS G=>(a S G).bind λx G1=>(b S G1).bind λy G2=>f x y G2
def dUn(f:D->DH->R D)(a:DE):DE:=λS G=>(a S G).bind f
noncomputable def Ag:DA:=λ_ G=>.ok [] G
def Ad(a:DE)(r:DA):DA:=λS G=>(a S G).bind λx G1=>(r S G1).bind λxs G2=>.ok (x::xs) G2
def dFn(f:List D->DH->R D)(t:DA):DE:=λS G=>(t S G).bind f
def Jc(t:DE):DE:=λS G=>tidy G (t S G)
def asB:D->DH->R Bool
 |.bl k,G=>.ok k G
 |_,_=>.bad
def Ar(t:DE):DB:=λS G=>(t S G).bind asB
def Dm(t u:DB):DB:=λS G=>(t S G).bind λk G1=>if k=vJ then u S G1 else .ok vX G1
def dOr(t u:DB):DB:=λS G=>(t S G).bind λk G1=>if k=vJ then .ok vJ G1 else u S G1
def El(t:DB):DB:=λS G=>(t S G).bind λk G1=>.ok (!k) G1
def M6(t u:DE):DE:=λS G=>(t S G).bind λx G1=>(asB x G1).bind λk G2=>if k=vJ then u S G2 else .ok (.bl vX) G2
def W2(t u:DE):DE:=λS G=>(t S G).bind λx G1=>(asB x G1).bind λk G2=>if k=vJ then .ok (.bl vJ) G2 else u S G2
def ZDC(t:DE):DE:=λS G=>(t S G).bind λx G1=>(asB x G1).bind λk G2=>.ok (.bl (!k)) G2
def Jr(f g:D->D->DH->R D)(a b c:DE):DE:=λS G=>(a S G).bind λx G1=>(b S G1).bind λy G2=>(f x y G2).bind λz G3=>(asB z G3).bind λk G4=>
 if k=vJ then(c S G4).bind λw G5=>g y w G5 else .ok (.bl vX) G4
noncomputable def Bl(ds:List D)(G:DH):R D:=if ds.length<=1000000 then .ok (.tup ds) G else .bad
noncomputable def Ba(ds:List D)(G:DH):R D:=if ds.length<=1000000 then .ok (.ref G.length) (G++[.lst ds])else .bad
noncomputable def Dr(d:D)(G:DH):Option (List D):=match d with
 |.tup xs=>vQ xs
 |.fl xs=>vQ xs
 |.ref i=>match G[i]? with
  |some (.lst xs)=>vQ xs
  |_=>vZ
 |_=>vZ
theorem size6:(1000000:Nat)<=sizeLine:=by decide
section
variable{X:Cx}{E:XK}{a b c:jE}{ta tb tc:DE}{pos:Pos}
theorem two{K:PySem.W.Frag}{f:D->D->DH->R D}(h:lE K E (dOp f ta tb) σ H Q):tOp (lR2 K E f) (lE K E ta) (lE K E tb) σ H Q:=by obtain⟨a,S,G,hk,rfl,s,r,h⟩:=h;refine⟨a,S,G,hk,rfl,s,r,(Fp h).imp ?_⟩;rintro v _ ⟨b,d,G1,rfl,x,s1,q,_,h1⟩;refine⟨b,S,G1,x.k.trans hk,rfl,s1,r.mono x,(Fp h1).imp ?_⟩;rintro w _ ⟨c,e,G2,rfl,y,s2,q2,_,h2⟩;exact⟨c,G2,d,e,y.k.trans (x.k.trans hk),rfl,s2,q.mono y,q2,h2⟩
theorem Aa(i:Nat){pos:Pos}(hN:X.N[i]?=vQ x:=by rfl)(hv:Vis X.env.scope x:=by first|exact Or.inl rfl|exact Or.inr (Or.inl rfl)|exact Or.inr (Or.inr rfl))(hd:(x==("__debug__":Str))=vX:=by decide)
  (hcd:(x==("__classdict__":Str))=vX:=by decide):QE X E (.Name x pos) (dV i):=by
 refine(Pr hN hv hd hcd).mono λσ H Q h=>?_
 obtain⟨a,S,G,hk,rfl,s,r,h⟩:=h;unfold dV at h;split at h
 ·rename_i d e;obtain⟨v,e',q⟩:=r.get i d e;exact⟨v,e',h a v (Ext.refl a) s q⟩
 ·exact h.elim
theorem Np{K:PySem.W.Frag}(h:lE K E (dC d) σ H Q)(r:∀a:Wd,a.K=K->Rep a d v):Q v H:=by obtain⟨a,S,G,hk,rfl,s,_,h⟩:=h;exact h a v (Ext.refl a) s (r a hk)
theorem Ac{i:Int}:QE X E (.Constant (.int i) j pos) (dC (.int i)):=ZKQ.mono λσ H Q h=>Np h λ_ _=>rfl
theorem Ha{i:Bool}:QE X E (.Constant (.bool i) j pos) (dC (.bl i)):=ZJw.mono λσ H Q h=>Np h λ_ _=>rfl
theorem Ju:QE X E (.Constant .none j pos) (dC .non):=ZK5.mono λσ H Q h=>Np h λ_ _=>rfl
theorem Bt{i:Str}:QE X E (.Constant (.str i) j pos) (dC (.str i)):=Yg.mono λσ H Q h=>Np h λ_ _=>rfl
theorem Cu{u:jN}(hg:Gl X x)(hm:X.mg x=vQ u)(r:RelV v u)(rd:∀a:Wd,a.K=X.K->Rep a d v)(hd:(x==("__debug__":Str))=vX:=by decide):QE X E (.Name x pos) (dC d):=
 (ZGB hg hm r hd).mono λσ H Q h=>Np h rd
theorem Af{op:Operator}{f:D->D->DH->R D}(ho:OpR X (jU op) (lR2 X.K E f))(ha:QE X E a ta)(hb:QE X E b tb):QE X E (.BinOp a op b pos) (dOp f ta tb):=
 (ZM6 ho ha hb).mono λ_ _ _ h=>two h
theorem Gn{f:D->D->DH->R D}(ho:OpR X (xX op) (lR2 X.K E f))(ha:QE X E a ta)(hb:QE X E b tb)(hm:jT op b=vX):QE X E (.Compare a [op] [b] pos) (dOp f ta tb):=
 (ZMa ho ha hb hm).mono λ_ _ _ h=>two h
theorem ZDk{K:PySem.W.Frag}{Q:Bool->Hp->Prop}(h:lB K E (Ar t) σ H Q):Q0 (lE K E t) σ H Q:=by
 obtain⟨a,S,G,hk,rfl,s,r,h⟩:=h;refine⟨a,S,G,hk,rfl,s,r,(ZLU h).imp ?_⟩;rintro v _ ⟨b,d,G1,rfl,x,s1,q,_,h1⟩;cases d with
 |bl k=>exact⟨k,q,h1 b (Ext.refl b) s1⟩
 |_=>exact h1.elim
theorem ZF9{t t':TE}(w:∀σ H Q,t' σ H Q->t σ H Q)(σ:St)(H:Hp)(Q:Bool->Hp->Prop)(h:Q0 t' σ H Q):Q0 t σ H Q:=w _ _ _ h
theorem Az{f:D->D->DH->R D}(ho:OpR X (xX op) (lR2 X.K E f))(ha:QE X E a ta)(hb:QE X E b tb)(hm:jT op b=vX):QT X E (.Compare a [op] [b] pos) (Ar (dOp f ta tb)):=
 (ZNz ho ha hb hm).mono λσ H Q h=>ZF9 (λ_ _ _ z=>two z) σ H Q (ZDk h)
theorem chain{K:PySem.W.Frag}{f g:D->D->DH->R D}(h:lE K E (Jr f g ta tb tc) σ H Q):Yy (lR2 K E f) (lR2 K E g) (lE K E ta) (lE K E tb) (lE K E tc) σ H Q:=by
 obtain⟨a,S,G,hk,rfl,s,r,h⟩:=h;refine⟨a,S,G,hk,rfl,s,r,(Fp h).imp ?_⟩;rintro v _ ⟨b,d,G1,rfl,x,s1,q,_,h1⟩;refine⟨b,S,G1,x.k.trans hk,rfl,s1,r.mono x,(Fp h1).imp ?_⟩;rintro w _ ⟨c,e,G2,rfl,y,s2,q2,_,h2⟩;refine⟨c,G2,d,e,y.k.trans (x.k.trans hk),rfl,s2,q.mono y,q2,(Fp h2).imp ?_⟩;rintro z _ ⟨c3,e3,G3,rfl,y3,s3,q3,_,h3⟩;cases e3 with
 | bl k=>
  refine⟨k,q3,?_⟩;cases k with
  |false=>exact h3 c3 (.bl vX) (Ext.refl _) s3 rfl
  |true=>
   refine⟨c3,S,G3,(y3.k.trans (y.k.trans (x.k.trans hk))),rfl,s3,((r.mono x).mono y).mono y3,(Fp h3).imp ?_⟩;rintro z4 _ ⟨c4,e4,G4,rfl,y4,s4,q4,_,h4⟩;exact⟨c4,G4,e,e4,y4.k.trans (y3.k.trans (y.k.trans (x.k.trans hk))),rfl,s4,(q2.mono y3).mono y4,q4,h4⟩
 |_=>exact h3.elim
theorem ZD3{op':CmpOp}{f g:D->D->DH->R D}(ho:OpR X (xX op) (lR2 X.K E f))(ho':OpR X (xX op') (lR2 X.K E g))(ha:QE X E a ta)(hb:QE X E b tb)(hc:QE X E c tc)
  (hm:lastMarks [op,op'] [b,c]=vX:=by with_unfolding_all rfl):QE X E (.Compare a [op,op'] [b,c] pos) (Jr f g ta tb tc):=
 (ZNW ho ho' ha hb hc hm).mono λ_ _ _ h=>chain h
theorem Sv{op':CmpOp}{f g:D->D->DH->R D}(ho:OpR X (xX op) (lR2 X.K E f))(ho':OpR X (xX op') (lR2 X.K E g))(ha:QE X E a ta)(hb:QE X E b tb)(hc:QE X E c tc)
  (hm:lastMarks [op,op'] [b,c]=vX:=by with_unfolding_all rfl):QT X E (.Compare a [op,op'] [b,c] pos) (Ar (Jr f g ta tb tc)):=
 (ZIt ho ho' ha hb hc hm).mono λσ H Q h=>ZF9 (λ_ _ _ z=>chain z) σ H Q (ZDk h)
theorem Iz(ha:QE X E a ta)(he:∀whole,isTrue a X.env whole=(do let v<-whole;standAt a.pos;holding [v] (truthy v)):=by intro _;rfl):QT X E a (Ar ta):=
 (ZKK ha he).mono λσ H Q h=>ZDk h
theorem Lr(ha:QE X E a ta):QE X E a (Jc ta):=_L.PE.mono ha λσ H Q h=>by obtain⟨w,S,G,hk,rfl,s,r,h⟩:=h;exact⟨w,S,G,hk,rfl,s,r,ZBB s h⟩
def QW(X:Cx)(E:XK)(e:jE)(t:DB):Prop:=PW X e (lB X.K E t)
theorem _root_._L.PW.mono{t t':TT}(h:PW X e t)(w:∀σ H Q,t' σ H Q->t σ H Q):PW X e t':=λwh xU s σ H Q I q=>h wh xU s σ H Q I (w σ H Q q)
variable{u t:DB}{rest:List jE}
theorem ZOS{K:PySem.W.Frag}{Q:Bool->Hp->Prop}(h:lB K E (Dm t u) σ H Q):tAnd (lB K E t) (lB K E u) σ H Q:=by
 obtain⟨a,S,G,hk,rfl,s,r,h⟩:=h;refine⟨a,S,G,hk,rfl,s,r,(ZCr h).imp ?_⟩;rintro k _ ⟨b,G1,rfl,x,s1,_,h1⟩;cases k with
 |true=>exact⟨b,S,G1,x.k.trans hk,rfl,s1,r.mono x,h1⟩
 |false=>exact h1 b (Ext.refl b) s1
theorem ZIj{K:PySem.W.Frag}{Q:Bool->Hp->Prop}(h:lB K E (dOr t u) σ H Q):tOr (lB K E t) (lB K E u) σ H Q:=by
 obtain⟨a,S,G,hk,rfl,s,r,h⟩:=h;refine⟨a,S,G,hk,rfl,s,r,(ZCr h).imp ?_⟩;rintro k _ ⟨b,G1,rfl,x,s1,_,h1⟩;cases k with
 |true=>exact h1 b (Ext.refl b) s1
 |false=>exact⟨b,S,G1,x.k.trans hk,rfl,s1,r.mono x,h1⟩
theorem Em(ha:QT X E a t):QW X E (.BoolOp .And [a] pos) t:=pw_and1 ha
theorem Jh(ha:QT X E a t):QW X E (.BoolOp .Or [a] pos) t:=pw_or1 ha
theorem Dy(ha:QT X E a t)(hb:QW X E (.BoolOp .And (b::rest) pos) u):QW X E (.BoolOp .And (a::b::rest) pos) (Dm t u):=(pw_and ha hb).mono λ_ _ _ h=>ZOS h
theorem Ja(ha:QT X E a t)(hb:QW X E (.BoolOp .Or (b::rest) pos) u):QW X E (.BoolOp .Or (a::b::rest) pos) (dOr t u):=(pw_or ha hb).mono λ_ _ _ h=>ZIj h
theorem Dg(h:QW X E a t):QT X E a t:=_L.PW.pt h
theorem Gy(ha:QT X E a t):QT X E (.UnaryOp .Not a pos) (El t):=(ZOx ha).mono λσ H Q h=>by obtain⟨a,S,G,hk,rfl,s,r,h⟩:=h;refine⟨a,S,G,hk,rfl,s,r,(ZCr h).imp ?_⟩;rintro k _ ⟨b,G1,rfl,x,s1,_,h1⟩;exact h1 b (Ext.refl b) s1
theorem Mw{op}(h:QE X E a ta):QE X E (.BoolOp op [a] pos) ta:=ZOi h
theorem Sg(ha:QE X E a ta)(hb:QE X E (.BoolOp .And (b::rest) pos) tb):QE X E (.BoolOp .And (a::b::rest) pos) (M6 ta tb):=(ZL3 ha hb).mono λσ H Q h=>by
 obtain⟨a,S,G,hk,rfl,s,r,h⟩:=h;refine⟨a,S,G,hk,rfl,s,r,(Fp h).imp ?_⟩;rintro v _ ⟨b,d,G1,rfl,x,s1,q,_,h1⟩;cases d with
 |bl k=>
  refine⟨k,q,?_⟩;cases k with
  |true=>exact⟨b,S,G1,x.k.trans hk,rfl,s1,r.mono x,h1⟩
  |false=>exact h1 b _ (Ext.refl b) s1 rfl
 |_=>exact h1.elim
theorem ZE9(ha:QE X E a ta)(hb:QE X E (.BoolOp .Or (b::rest) pos) tb):QE X E (.BoolOp .Or (a::b::rest) pos) (W2 ta tb):=(ZJT ha hb).mono λσ H Q h=>by
 obtain⟨a,S,G,hk,rfl,s,r,h⟩:=h;refine⟨a,S,G,hk,rfl,s,r,(Fp h).imp ?_⟩;rintro v _ ⟨b,d,G1,rfl,x,s1,q,_,h1⟩;cases d with
 |bl k=>
  refine⟨k,q,?_⟩;cases k with
  |false=>exact⟨b,S,G1,x.k.trans hk,rfl,s1,r.mono x,h1⟩
  |true=>exact h1 b _ (Ext.refl b) s1 rfl
 |_=>exact h1.elim
theorem ZIc(ha:QE X E a ta):QE X E (.UnaryOp .Not a pos) (ZDC ta):=(ZIy ha).mono λσ H Q h=>by
 obtain⟨a,S,G,hk,rfl,s,r,h⟩:=h;refine⟨a,S,G,hk,rfl,s,r,(Fp h).imp ?_⟩;rintro v _ ⟨b,d,G1,rfl,x,s1,q,_,h1⟩;cases d with
 |bl k=>exact⟨k,q,h1 b _ (Ext.refl b) s1 rfl⟩
 |_=>exact h1.elim
variable{es:List jE}{tr:DA}
theorem Ai:QA X E [] Ag:=Ys.mono λσ H Q h=>by obtain⟨a,S,G,hk,rfl,s,r,h⟩:=h;exact h a [] (Ext.refl a) s rfl
noncomputable def notStar:jE->Bool
 |.Starred _ _=>vX
 |_=>vJ
theorem Hu(a:jE)(es:List jE)(env:Env)(h:notStar a=vJ):xD (a::es) env=(vX,eval a env)::xD es env:=by
 cases a<;>first
  |exact absurd h zw
  |rfl
theorem Mp(pos:Pos)(env:Env):∀es:List jE,es.all notStar=vJ->(jS pos (xD es env)).any (·.1)=vX
 |[],_=>rfl
 |a::es,h=>by
  rw[jX,zZ]at h;rw[Hu a es env h.1];have ih:=Mp pos env es h.2;unfold jS at ih⊢;rw[zk,List.any_cons,ih]
  rfl
theorem Ae(ha:QE X E a ta)(hr:QA X E es tr)(hs:notStar a=vJ:=by rfl):QA X E (a::es) (Ad ta tr):=(Qi ha hr (Hu a es X.env hs)).mono λσ H Q h=>by obtain⟨a,S,G,hk,rfl,s,r,h⟩:=h;refine⟨a,S,G,hk,rfl,s,r,(ZOm h).imp ?_⟩;rintro v _ ⟨b,d,G1,rfl,x,s1,q,_,h1⟩;refine⟨b,S,G1,x.k.trans hk,rfl,s1,r.mono x,(ZKV h1).imp ?_⟩;rintro vs _ ⟨c,ds,G2,rfl,y,s2,q2,_,h2⟩;exact h2 c _ (Ext.refl c) s2 (Reps.cons (q.mono y) q2)
theorem By{x1}(h:QA X E es tr):QE X E (.Tuple es x1 pos) (dFn Bl tr):=(ZOn h).mono λσ H Q h=>by
 obtain⟨a,S,G,hk,rfl,s,r,h⟩:=h;refine⟨a,S,G,hk,rfl,s,r,(Qx h).imp ?_⟩;rintro vs _ ⟨b,ds,G1,rfl,x,s1,q,_,h1⟩;unfold Bl at h1;split at h1
 ·rename_i hl;refine⟨by rw[<-q.length];exact zC hl size6,λp hp=>?_⟩;exact h1 (b.put p (.tup vs)) (.ref p) (Ext.put hp) (s1.put hp) ⟨p,vs,rfl,.of Io,q.mono (Ext.put hp)⟩
 ·exact h1.elim
theorem Di(h:QA X E es tr):QE X E (.List es pos) (dFn Ba tr):=(ZKw h).mono λσ H Q h=>by
 obtain⟨a,S,G,hk,rfl,s,r,h⟩:=h;refine⟨a,S,G,hk,rfl,s,r,(Qx h).imp ?_⟩;rintro vs _ ⟨b,ds,G1,rfl,x,s1,q,_,h1⟩;unfold Ba at h1;split at h1
 ·rename_i hl;refine⟨by rw[<-q.length];exact zC hl size6,λp hp=>?_⟩;refine h1 (b.push p (.lst vs)) (.ref p) (Ext.push hp) (s1.push hp ⟨vs,rfl,q.mono (Ext.push hp)⟩) ⟨?_,?_⟩
  ·rw[s1.len];exact qx _
  ·rw[s1.len];show V.ref p=.ref (if b.n=b.n then p else b.m b.n);rw[if_pos rfl]
 ·exact h1.elim
variable{e:jE}{x:Str}{p:Pos}
theorem Qc{K:PySem.W.Frag}{f:List D->DH->R D}(h:lE K E (dFn f tr) σ H Q):lA K E tr σ H (λvs H1=>lRn K E f vs H1 Q):=by obtain⟨a,S,G,hk,rfl,s,r,h⟩:=h;refine⟨a,S,G,hk,rfl,s,r,(Qx h).imp ?_⟩;rintro vs _ ⟨b,ds,G1,rfl,x,s1,q,_,h1⟩;exact⟨b,G1,ds,x.k.trans hk,rfl,s1,q,h1⟩
theorem Cw{id:String}{f:List D->DH->R D}(hc:CallR X (.builtin id) (lRn X.K E f))(hg:Gl X x)(hm:X.mg x=vZ)(hv:xQ x=vQ (.builtin id))(ha:QA X E (e::es) tr)(hn:x≠"__name__":=by decide)(hdb:(x==("__debug__":Str))=vX:=by decide)
  (he:notStar e=vJ:=by rfl) (hpl:es.all notStar=vJ:=by rfl):QE X E (.Call (.Name x p) (e::es) [] pos) (dFn f tr):=
 (ZGi hc hg hm hv ha hn hdb (Hu e es X.env he) (Mp pos X.env es hpl)).mono λσ H Q h=>Qc h
theorem Og{id:String}{f:List D->DH->R D}(hc:CallR X (.type id) (lRn X.K E f))(hg:Gl X x)(hm:X.mg x=vZ)(hv:xQ x=vQ (.type id))(ha:QA X E (e::es) tr)(hn:x≠"__name__":=by decide)(hdb:(x==("__debug__":Str))=vX:=by decide)
  (he:notStar e=vJ:=by rfl) (hpl:es.all notStar=vJ:=by rfl):QE X E (.Call (.Name x p) (e::es) [] pos) (dFn f tr):=
 (ZKS hc hg hm hv ha hn hdb (Hu e es X.env he) (Mp pos X.env es hpl)).mono λσ H Q h=>Qc h
theorem ZK2{CX:CXT}{f:jC}{fd:jF}{ps:List Str}{F:List D->DH->R D}(FF:FnOk X.prog X.w X.K X.mg X.base CX k f fd ps (lF X.K F))(hr:Room k X.A)(hg:Gl X x)(hm:X.mg x=vQ (.ref f))(hk:PySem.W.keepIn X.K (.ref f)=vJ)(hb:Binds X.K fd ps [])
  (hx:Passes CX X E0) (ha:QA X E0 (e::es) tr) (hdb:(x==("__debug__":Str))=vX:=by decide) (he:notStar e=vJ:=by rfl) (hpl:es.all notStar=vJ:=by rfl):
  QE X E0 (.Call (.Name x p) (e::es) [] pos) (dFn F tr):=
 (ZCG FF hr hg hm hk hb .nil hx ha hdb (Hu e es X.env he) (Mp pos X.env es hpl)).mono λσ H Q h=>by obtain⟨a,S,G,hk,rfl,s,r,h⟩:=Qc h;refine⟨a,S,G,hk,rfl,s,r,h.imp ?_⟩;rintro vs _ ⟨b,G1,ds,hk,rfl,s1,q,h1⟩;exact⟨b,G1,ds,hk,rfl,s1,by rw[zU];exact q,h1⟩
theorem Ao{f:D->D->DH->R D}(hr:IxR X (lR2 X.K E f))(ha:QE X E a ta)(hb:QE X E b tb)(hs:PlainIx b:=by intro _ _;rfl):QE X E (.Subscript a b pos) (dOp f ta tb):=
 (ZMY hr ha hb hs).mono λ_ _ _ h=>two h
end
noncomputable instance (i j:Int):Decidable (CMul i j):=by unfold CMul;infer_instance
noncomputable instance (i j:Int):Decidable (CPow i j):=by unfold CPow;infer_instance
def CDivL(j:Int):Prop:=0<j/\j.natAbs.log2<9000
noncomputable instance (j:Int):Decidable (CDivL j):=by unfold CDivL;infer_instance
def Fv:D->D->DH->R D
 |.int i,.int j,G=>.ok (.int (i-j)) G
 |_,_,_=>.bad
def Dj:D->D->DH->R D
 |.int i,.int j,G=>if CDivL j then .ok (.int (i/j)) G else .bad
 |_,_,_=>.bad
def Be:D->D->DH->R D
 |.int i,.int j,G=>if 0<j then .ok (.int (i%j)) G else .bad
 |_,_,_=>.bad
def Hh:D->D->DH->R D
 |.int i,.int j,G=>if CPow i j then .ok (.int (i^j.toNat)) G else .bad
 |_,_,_=>.bad
def Gq:D->D->DH->R D
 |.int i,.int j,G=>.ok (.bl (decide (i<j))) G
 |.str i,.str j,G=>.ok (.bl (decide (i.cps.toList<j.cps.toList))) G
 |_,_,_=>.bad
def Gw:D->D->DH->R D
 |.int i,.int j,G=>.ok (.bl (decide (i<=j))) G
 |.str i,.str j,G=>.ok (.bl (!decide (j.cps.toList<i.cps.toList))) G
 |_,_,_=>.bad
def Fj:D->D->DH->R D
 |.int i,.int j,G=>.ok (.bl (decide (j<i))) G
 |.str i,.str j,G=>.ok (.bl (decide (j.cps.toList<i.cps.toList))) G
 |_,_,_=>.bad
def ZBe:D->D->DH->R D
 |.int i,.int j,G=>.ok (.bl (decide (j<=i))) G
 |.str i,.str j,G=>.ok (.bl (!decide (i.cps.toList<j.cps.toList))) G
 |_,_,_=>.bad
noncomputable def Jd(d:D)(G:DH):Option (List D):=match d with
 |.fl xs=>vQ xs
 |.ref i=>match G[i]? with
  |some (.lst xs)=>vQ xs
  |_=>vZ
 |_=>vZ
def Bb:D->D->DH->R D
 |.int i,.int j,G=>.ok (.int (i+j)) G
 |.str i,.str j,G=>if i.length+j.length<=1000000 then .ok (.str (i++j)) G else .bad
 |.tup xs,.tup ys,G=>if xs≠[]/\xs.length+ys.length<=1000000 then .ok (.tup (xs++ys)) G else .bad
 |d,e,G=>match Jd d G,Jd e G with
  |some xs,vQ ys=>if xs.length+ys.length<=1000000 then .ok (.ref G.length) (G++[.lst (xs++ys)])else .bad
  |_,_=>.bad
section
variable{X:Cx}{E:XK}
theorem G8{f:jN->jN->Sem jN}{r:R2}{F:D->D->DH->R D}(ho:OpR X f r)
  (h:∀(a:Wd)(G:DH)(d e:D)(x y:V)(Q:VK),a.K=X.K->Sim a G->Rep a d x->Rep a e y->out E a (F d e G) Q->r x y a.H Q):OpR X f (lR2 X.K E F):=
 ho.mono λx y H Q ⟨a,G,d,e,hk,hH,s,rd,re,q⟩=>by subst hH;exact h a G d e x y Q hk s rd re q
theorem Gr:OpR X (jU .Sub) (lR2 X.K E Fv):=G8 ZHo λa G d e x y Q hk s rd re q=>by
 cases d<;>cases e<;>first
  |exact q.elim
  |exact⟨_,_,rd,re,q a _ (Ext.refl a) s rfl⟩
theorem ZKo:OpR X (jU .FloorDiv) (rI (λ_ j=>CDivL j) λi j=>.int (i/j)):=opI λi j _ _ _ _ _ hc q=>by have e:i.fdiv j=i/j:=Int.fdiv_eq_ediv_of_nonneg _ (Int.le_of_lt hc.1);refine floordiv_int (by have:=hc.1;lia) (by rw[e];exact q) (.inl (PyProof.noPylong_of_log2 hc.2))
theorem Do:OpR X (jU .FloorDiv) (lR2 X.K E Dj):=G8 ZKo λa G d e x y Q hk s rd re q=>by
 cases d<;>cases e<;>first
  |exact q.elim
  | (
    rename_i i j;unfold Dj at q;dsimp only at q;split at q
    ·exact⟨_,_,rd,re,by assumption,q a _ (Ext.refl a) s rfl⟩
    ·exact q.elim)
theorem Bg:OpR X (jU .Mod) (lR2 X.K E Be):=G8 ZMz λa G d e x y Q hk s rd re q=>by
 cases d<;>cases e<;>first
  |exact q.elim
  | (
    rename_i i j;unfold Be at q;dsimp only at q;split at q
    ·exact⟨_,_,rd,re,by assumption,q a _ (Ext.refl a) s rfl⟩
    ·exact q.elim)
theorem Ji:OpR X (jU .Pow) (lR2 X.K E Hh):=G8 ZNb λa G d e x y Q hk s rd re q=>by
 cases d<;>cases e<;>first
  |exact q.elim
  | (
    rename_i i j;unfold Hh at q;dsimp only at q;split at q
    ·exact⟨_,_,rd,re,by assumption,q a _ (Ext.refl a) s rfl⟩
    ·exact q.elim)
theorem Ho:OpR X (xX .Lt) (lR2 X.K E Gq):=G8 (ZLe.or ZMG) λa G d e x y Q hk s rd re q=>by
 cases d<;>cases e<;>first
  |exact q.elim
  |exact .inl ⟨_,_,rd,re,q a _ (Ext.refl a) s rfl⟩
  |exact .inr ⟨_,_,rd,re,q a _ (Ext.refl a) s rfl⟩
theorem ZOF:OpR X (xX .LtE) (λx y H Q=>∃i j,x=.str i/\y=.str j/\Q (.bl (!decide (j.cps.toList<i.cps.toList))) H):=by intro xU s σ H x y v u Q I rx ry h;obtain⟨i,j,rfl,rfl,q⟩:=h;obtain⟨t,rfl⟩:=rx;obtain⟨t',rfl⟩:=ry;exact PySem.P.le_str ⟨.bl _,H,I,rfl,q⟩
theorem ZKb:OpR X (xX .Gt) (λx y H Q=>∃i j,x=.str i/\y=.str j/\Q (.bl (decide (j.cps.toList<i.cps.toList))) H):=by intro xU s σ H x y v u Q I rx ry h;obtain⟨i,j,rfl,rfl,q⟩:=h;obtain⟨t,rfl⟩:=rx;obtain⟨t',rfl⟩:=ry;exact PySem.P.gt_str ⟨.bl _,H,I,rfl,q⟩
theorem ZJ4:OpR X (xX .GtE) (λx y H Q=>∃i j,x=.str i/\y=.str j/\Q (.bl (!decide (i.cps.toList<j.cps.toList))) H):=by intro xU s σ H x y v u Q I rx ry h;obtain⟨i,j,rfl,rfl,q⟩:=h;obtain⟨t,rfl⟩:=rx;obtain⟨t',rfl⟩:=ry;exact PySem.P.ge_str ⟨.bl _,H,I,rfl,q⟩
theorem Ig:OpR X (xX .LtE) (lR2 X.K E Gw):=G8 (ZJl.or ZOF) λa G d e x y Q hk s rd re q=>by
 cases d<;>cases e<;>first
  |exact q.elim
  |exact .inl ⟨_,_,rd,re,q a _ (Ext.refl a) s rfl⟩
  |exact .inr ⟨_,_,rd,re,q a _ (Ext.refl a) s rfl⟩
theorem Gh:OpR X (xX .Gt) (lR2 X.K E Fj):=G8 (ZOI.or ZKb) λa G d e x y Q hk s rd re q=>by
 cases d<;>cases e<;>first
  |exact q.elim
  |exact .inl ⟨_,_,rd,re,q a _ (Ext.refl a) s rfl⟩
  |exact .inr ⟨_,_,rd,re,q a _ (Ext.refl a) s rfl⟩
theorem o_ge:OpR X (xX .GtE) (lR2 X.K E ZBe):=G8 (ZNd.or ZJ4) λa G d e x y Q hk s rd re q=>by
 cases d<;>cases e<;>first
  |exact q.elim
  |exact .inl ⟨_,_,rd,re,q a _ (Ext.refl a) s rfl⟩
  |exact .inr ⟨_,_,rd,re,q a _ (Ext.refl a) s rfl⟩
theorem Sim.lst(s:Sim a G)(h:G[i]?=vQ (.lst xs)):∃vs,a.H (a.m i)=vQ (.lst vs)/\Reps a xs vs:=s.obj i _ h
theorem ZBn(s:Sim a G)(r:Reps a ds vs)(h:out E a (.ok (.ref G.length) (G++[.lst ds])) Q)(p:jC)(hp:a.H p=vZ):Q (.ref p) (upd a.H p (.lst vs)):=by
 refine h (a.push p (.lst vs)) (.ref p) (Ext.push hp) (s.push hp ⟨vs,rfl,r.mono (Ext.push hp)⟩) ⟨?_,?_⟩
 ·rw[s.len];exact qx _
 ·rw[s.len];show V.ref p=.ref (if a.n=a.n then p else a.m a.n);rw[if_pos rfl]
theorem Ui(s:Sim a G)(r:Reps a ds vs)(h:out E a (.ok (.tup ds) G) Q)(p:jC)(hp:a.H p=vZ):Q (.ref p) (upd a.H p (.tup vs)):=
 h (a.put p (.tup vs)) (.ref p) (Ext.put hp) (s.put hp) ⟨p,vs,rfl,.of Io,r.mono (Ext.put hp)⟩
theorem ZAY{x:V}(s:Sim a G)(r:Rep a d x)(h:Jd d G=vQ xs):∃p vs,x=.ref p/\SqL a.K a.H p vs/\Reps a xs vs:=by
 cases d with
 |fl ys=>
  have e:ys=xs:=Option.some.inj h;subst e;obtain⟨p,vs,e,q,rr⟩:=r;exact⟨p,vs,e,q.sq,rr⟩
 |ref i=>
  unfold Jd at h;dsimp only at h;split at h
  ·rename_i ys hi;have e:ys=xs:=Option.some.inj h;subst e;obtain⟨vs,e1,r1⟩:=s.lst hi;exact⟨a.m i,vs,r.2,.of e1,r1⟩
  ·cases h
 |_=>cases h
def ZEu(K:PySem.W.Frag):R2:=λx y H Q=>∃l b xs zs,x=.ref l/\y=.ref b/\SqL K H l xs/\SqL K H b zs/\xs.length+zs.length<=sizeLine/\∀p,H p=vZ->Q (.ref p) (upd H p (.lst (xs++zs)))
theorem ZJs:OpR X (jU .Add) (ZEu X.K):=by
 intro xU s σ H x y v u Q I rx ry h;obtain⟨l,b,xs,zs,rfl,rfl,hH,hB,hz,q⟩:=h;cases rx;cases ry;obtain⟨its,r,p1,_⟩:=I.list hH;obtain⟨its2,r2,p2,_⟩:=I.list hB;obtain⟨⟨cls,dd,data,sl⟩,n,ho,hc,_,hd⟩:=p1;obtain⟨⟨cls2,dd2,data2,sl2⟩,n2,ho2,hc2,_,hd2⟩:=p2;cases hc;cases hd;cases hc2;cases hd2;have hl:=r.length;have hl2:=r2.length;refine concat_meets ⟨_,ho,rfl⟩ ⟨_,ho2,rfl⟩ noFill_list_add seq_list_add PySem.F.slot_list_add PySem.F.entry_list_add (PySem.F.args_list_add_2 _ _) (list_addW l b its.toArray its2.toArray n n2 dd dd2 sl sl2 (by rw[zK,zK];lia)) ⟨ho,ho2,?_⟩
 have ea:its.toArray++its2.toArray=(its++its2).toArray:=by simp
 rw[ea];exact⟨.ref _,_,I.lnew (t':=s.toks) (r.append r2) (by rw[qj];lia),rfl,q _ I.fresh⟩
theorem Bm:OpR X (jU .Add) (lR2 X.K E Bb):=G8 (ZKn.or (ZJg.or (ZJs.or ZKN))) λa G d e x y Q hk s rd re q=>by
 have lst:out E a (match Jd d G,Jd e G with
  |some xs,vQ ys=>if xs.length+ys.length<=1000000 then .ok (.ref G.length) (G++[.lst (xs++ys)])else .bad
  |_,_=>.bad) Q->ZEu X.K x y a.H Q:=λq=>by
  split at q
  ·rename_i xs ys h1 h2;split at q
   ·rename_i hl;obtain⟨p,vs,e1,q1,r1⟩:=ZAY s rd h1;obtain⟨p',vs',e2,q2,r2⟩:=ZAY s re h2;rw[hk]at q1 q2;exact⟨p,p',vs,vs',e1,e2,q1,q2,by rw[<-r1.length,<-r2.length];exact zC hl size6,λp hp=>ZBn s (r1.append r2) q p hp⟩
   ·exact q.elim
  ·exact q.elim
 have L:=λq=>Or.inr (a:=rI0 (λi j=>V.int (i+j)) x y a.H Q) (Or.inr (a:=∃i j,x=.str i/\y=.str j/\i.length+j.length<=sizeLine/\Q (.str (i++j)) a.H) (Or.inl (b:=ZEt X.K x y a.H Q) (lst q)))
 cases d<;>cases e<;>first
  |exact .inl ⟨_,_,rd,re,q a _ (Ext.refl a) s rfl⟩
  |exact L q
  |skip
 ·rename_i i j;unfold Bb at q;dsimp only at q;split at q
  ·rename_i hl;exact .inr (.inl ⟨_,_,rd,re,zC hl size6,q a _ (Ext.refl a) s rfl⟩)
  ·exact q.elim
 ·rename_i xs ys;unfold Bb at q;dsimp only at q;split at q
  ·rename_i hl;obtain⟨p,vs,e1,h1,r1⟩:=rd;obtain⟨p',vs',e2,h2,r2⟩:=re;rw[hk]at h1 h2;refine .inr (.inr (.inr ⟨p,p',vs,vs',e1,e2,h1,h2,λz=>hl.1 (q9 (by rw[r1.length,z];rfl)),by rw[<-r1.length,<-r2.length];exact zC hl.2 size6,λz=>?_,λ_ p0 hp=>?_⟩))
   ·refine q a (.ref p) (Ext.refl a) s ⟨p,vs,rfl,by rw[hk];exact h1,?_⟩;have e3:ys=[]:=q9 (by rw[r2.length,z];rfl);rw[e3,zU];exact r1
   ·exact Ui s (r1.append r2) q p0 hp
  ·exact q.elim
inductive VD where
 |flat (v:V)
 |lst (xs:List D)
 |tup (xs:List D)
 |bad
def view(G:DH):D->VD
 |.non=>.flat .non
 |.bl b=>.flat (.bl b)
 |.int i=>.flat (.int i)
 |.str x=>.flat (.str x)
 |.ty _=>.bad
 |.tup xs=>.tup xs
 |.fl xs=>.lst xs
 |.ref i=>match G[i]? with
  |some (.lst xs)=>.lst xs
  |_=>.bad
noncomputable def eqZ(f:D->D->Option Bool):List D->List D->Option Bool
 |x::xs,y::ys=>match f x y,eqZ f xs ys with
  |some a,vQ b=>vQ (a&&b)
  |_,_=>vZ
 |_,_=>vQ vJ
def eqD:Nat->DH->D->D->Option Bool
 |0=>λ_ _ _=>vZ
 | n+1=>λG d e=>match view G d,view G e with
  |.flat a,.flat b=>vQ (eqV a b)
  |.lst xs,.lst ys=>if xs.length=ys.length then eqZ (eqD n G) xs ys else vQ vX
  |.tup xs,.tup ys=>match eqZ (eqD n G) xs ys with
   |some b=>vQ (b&&xs.length==ys.length)
   |none=>vZ
  |.bad,_=>vZ
  |_,.bad=>vZ
  |_,_=>vQ vX
theorem Yd{f:D->D->Option Bool}:∀{xs ys:List D}{k:Bool},eqZ f xs ys=vQ k->∃e:Nat->Bool,(∀(j:Nat)(x y:D),xs[j]?=vQ x->ys[j]?=vQ y->f x y=vQ (e j))/\k=(zy (min xs.length ys.length)).all e
 | [],ys,k,h=>⟨λ_=>vJ,λj x y e1 _=>by simp at e1,by
   have h':vQ vJ=vQ k:=by cases ys<;>exact h
   cases h';simp⟩
 |x::xs,[],k,h=>⟨λ_=>vJ,λj x y _ e1=>by simp at e1,by have h':vQ vJ=vQ k:=h;cases h';simp⟩
 | x::xs,y::ys,k,h=>by
  unfold eqZ at h;split at h
  ·rename_i a b h1 h2;obtain⟨e,he,hk⟩:=Yd h2;have h':(a&&b)=k:=Option.some.inj h
   refine⟨λj=>match j with |0=>a|j+1=>e j,λj x' y' e1 e2=>?_,?_⟩
   ·cases j with
    |zero=>simp at e1 e2;subst e1;subst e2;exact h1
    |succ j=>exact he j x' y' (by simpa using e1) (by simpa using e2)
   ·rw[<-h',hk];have:min (x::xs).length (y::ys).length=min xs.length ys.length+1:=by simp only[qG];lia
    rw[this,j1,jX,List.all_map]
    rfl
  ·cases h
theorem Wk(s:Sim a G){x:V}(r:Rep a d x):match view G d with
  |.flat v=>x=v/\Ec v=vJ
  |.lst xs=>∃p vs,x=.ref p/\SqL a.K a.H p vs/\Reps a xs vs
  |.tup xs=>∃p vs,x=.ref p/\SqT a.K a.H p vs/\Reps a xs vs
  |.bad=>True:=by
 cases d with
 |non=>exact⟨r,rfl⟩
 |bl b=>exact⟨r,rfl⟩
 |int b=>exact⟨r,rfl⟩
 |str b=>exact⟨r,rfl⟩
 |ty n=>trivial
 |tup xs=>
  obtain⟨p,vs,e,h,q⟩:=r;exact⟨p,vs,e,h,q⟩
 |fl xs=>
  obtain⟨p,vs,e,h,q⟩:=r;exact⟨p,vs,e,h.sq,q⟩
 | ref i=>
  unfold view;dsimp only;split
  ·rename_i v hv
   split at hv<;>cases hv
  ·rename_i xs hv;split at hv
   ·rename_i ys hi;cases hv;obtain⟨vs,e1,r1⟩:=s.lst hi;exact⟨a.m i,vs,r.2,.of e1,r1⟩
   ·cases hv
  ·rename_i xs hv
   split at hv<;>cases hv
  ·trivial
theorem ZKe{A:jD}{y x:V}{u v:jN}(ry:RelV y u)(rx:RelV x v)(fy:Ec y=vJ)(fx:Ec x=vJ):SeqAt.RcAt A s u v (eqV y x):=by
 cases y with
 |non=>
  cases ry;cases x with
  |non=>cases rx;exact SeqAt.RcAt.none_none
  |bl b=>cases rx;exact SeqAt.RcAt.none_bool b
  |int b=>obtain⟨t,rfl⟩:=rx;exact SeqAt.RcAt.none_int b t
  |str b=>obtain⟨t,rfl⟩:=rx;exact SeqAt.RcAt.none_str b t
  |_=>exact absurd (show vX=vJ from fx) zw
 |bl a=>
  cases ry;cases x with
  |non=>cases rx;exact SeqAt.RcAt.bool_none a
  |bl b=>cases rx;exact SeqAt.RcAt.bool_bool a b
  |int b=>obtain⟨t,rfl⟩:=rx;exact SeqAt.RcAt.bool_int a b t
  |str b=>obtain⟨t,rfl⟩:=rx;exact SeqAt.RcAt.bool_str a b t
  |_=>exact absurd (show vX=vJ from fx) zw
 |int a=>
  obtain⟨t',rfl⟩:=ry;cases x with
  |non=>cases rx;exact SeqAt.RcAt.int_none a t'
  |bl b=>cases rx;exact SeqAt.RcAt.int_bool a t' b
  |int b=>obtain⟨t,rfl⟩:=rx;exact SeqAt.RcAt.int_int a t' b t
  |str b=>obtain⟨t,rfl⟩:=rx;exact SeqAt.RcAt.int_str a t' b t
  |_=>exact absurd (show vX=vJ from fx) zw
 |str a=>
  obtain⟨t',rfl⟩:=ry;cases x with
  |non=>cases rx;exact SeqAt.RcAt.str_none a t'
  |bl b=>cases rx;exact SeqAt.RcAt.str_bool a t' b
  |int b=>obtain⟨t,rfl⟩:=rx;exact SeqAt.RcAt.str_int a t' b t
  |str b=>obtain⟨t,rfl⟩:=rx;exact SeqAt.RcAt.str_str a t' b t
  |_=>exact absurd (show vX=vJ from fx) zw
 |_=>exact absurd (show vX=vJ from fy) zw
theorem ZIl{A:jD}{y x:V}{u v:jN}(ry:RelV y u)(rx:RelV x v)(fy:Ec y=vJ)(fx:Ec x=vJ):SeqAt.RcNeAt A s u v (!eqV y x):=by
 cases y with
 |non=>
  cases ry;cases x with
  |non=>cases rx;exact SeqAt.RcNeAt.none_none
  |bl b=>cases rx;exact SeqAt.RcNeAt.none_bool b
  |int b=>obtain⟨t,rfl⟩:=rx;exact SeqAt.RcNeAt.none_int b t
  |str b=>obtain⟨t,rfl⟩:=rx;exact SeqAt.RcNeAt.none_str b t
  |_=>exact absurd (show vX=vJ from fx) zw
 |bl a=>
  cases ry;cases x with
  |non=>cases rx;exact SeqAt.RcNeAt.bool_none a
  |bl b=>cases rx;exact SeqAt.RcNeAt.bool_bool a b
  |int b=>obtain⟨t,rfl⟩:=rx;exact SeqAt.RcNeAt.bool_int a b t
  |str b=>obtain⟨t,rfl⟩:=rx;exact SeqAt.RcNeAt.bool_str a b t
  |_=>exact absurd (show vX=vJ from fx) zw
 |int a=>
  obtain⟨t',rfl⟩:=ry;cases x with
  |non=>cases rx;exact SeqAt.RcNeAt.int_none a t'
  |bl b=>cases rx;exact SeqAt.RcNeAt.int_bool a t' b
  |int b=>obtain⟨t,rfl⟩:=rx;exact SeqAt.RcNeAt.int_int a t' b t
  |str b=>obtain⟨t,rfl⟩:=rx;exact SeqAt.RcNeAt.int_str a t' b t
  |_=>exact absurd (show vX=vJ from fx) zw
 |str a=>
  obtain⟨t',rfl⟩:=ry;cases x with
  |non=>cases rx;exact SeqAt.RcNeAt.str_none a t'
  |bl b=>cases rx;exact SeqAt.RcNeAt.str_bool a t' b
  |int b=>obtain⟨t,rfl⟩:=rx;exact SeqAt.RcNeAt.str_int a t' b t
  |str b=>obtain⟨t,rfl⟩:=rx;exact SeqAt.RcNeAt.str_str a t' b t
  |_=>exact absurd (show vX=vJ from fx) zw
 |_=>exact absurd (show vX=vJ from fy) zw
end
section
variable{X:Cx}{E:XK}{xU:List (jC×Obj)}{σ:St}{s:jL}
theorem ZIL(v:V)(h:Ec v=vJ):eqV v v=vJ:=by cases v<;>first|rfl|exact absurd (show vX=vJ from h) zw|(simp[eqV])
theorem ZFE(I:Inv X xU σ a.H s)(hk:a.K=X.K)(sm:Sim a G):∀(n:Nat){d e:D}{x:V}{k:Bool},Rep a d x->Rep a e x->eqD n G d e=vQ k->k=vJ
 |0,_,_,_,_,_,_,h=>by cases h
 | n+1,d,e,x,k,rd,re,h=>by
  have vd:=Wk sm rd;have ve:=Wk sm re;have items:∀{xs ys:List D}{vs:List V}{b:Bool},Reps a xs vs->Reps a ys vs->eqZ (eqD n G) xs ys=vQ b->b=vJ:=λ{xs ys vs b}r1 r2 hz=>by obtain⟨f,hf,hb⟩:=Yd hz;rw[hb,zH];intro j hj;have hj':j<min xs.length ys.length:=qD.mp hj;have h1:xs[j]?=vQ (xs[j]'(by lia)):=zQ (by lia);have h2:ys[j]?=vQ (ys[j]'(by lia)):=zQ (by lia);obtain⟨v1,e1,q1⟩:=r1.get h1;obtain⟨v2,e2,q2⟩:=r2.get h2;rw[e1]at e2;cases e2;exact ZFE I hk sm n q1 q2 (hf j _ _ h1 h2)
  unfold eqD at h
  try dsimp only at h
  revert h vd ve
  cases view G d<;>cases view G e<;>intro vd ve h<;>dsimp only at h vd ve<;>first
   |cases h
   |skip
  ·
   rename_i v w;obtain⟨rfl,f1⟩:=vd;obtain⟨rfl,f2⟩:=ve;exact ZIL _ f1
  ·obtain⟨rfl,f1⟩:=vd;obtain⟨p,vs,e1,_⟩:=ve;subst e1;cases f1
  ·obtain⟨rfl,f1⟩:=vd;obtain⟨p,vs,e1,_⟩:=ve;subst e1;cases f1
  ·obtain⟨rfl,f1⟩:=ve;obtain⟨p,vs,e1,_⟩:=vd;subst e1;cases f1
  ·obtain⟨p,vs,e1,h1,r1⟩:=vd;obtain⟨p',vs',e2,h2,r2⟩:=ve;rw[e1]at e2;cases e2;rw[hk]at h1 h2;cases I.ZFG h1 h2;split at h
   ·exact items r1 r2 h
   ·rename_i hl;exact absurd (r1.length.trans r2.length.symm) hl
  ·obtain⟨p,vs,e1,h1,r1⟩:=vd;obtain⟨p',vs',e2,h2,r2⟩:=ve;rw[e1]at e2;cases e2;rw[hk]at h1 h2;obtain⟨_,_,pl,_⟩:=I.list h1;obtain⟨_,_,pt,_⟩:=I.tuple h2;exact absurd rfl (SeqAt.ne_of_list_tuple pl.isList pt)
  ·obtain⟨rfl,f1⟩:=ve;obtain⟨p,vs,e1,_⟩:=vd;subst e1;cases f1
  ·obtain⟨p,vs,e1,h1,r1⟩:=vd;obtain⟨p',vs',e2,h2,r2⟩:=ve;rw[e1]at e2;cases e2;rw[hk]at h1 h2;obtain⟨_,_,pl,_⟩:=I.list h2;obtain⟨_,_,pt,_⟩:=I.tuple h1;exact absurd rfl (SeqAt.ne_of_list_tuple pl.isList pt)
  ·obtain⟨p,vs,e1,h1,r1⟩:=vd;obtain⟨p',vs',e2,h2,r2⟩:=ve;rw[e1]at e2;cases e2;rw[hk]at h1 h2;cases I.ZF4 h1 h2;split at h
   ·rename_i b hz;have h':(b&&_)=k:=Option.some.inj h;rw[<-h',items r1 r2 hz,r1.length,r2.length];simp
   ·cases h
theorem Xh{its:List jN}(r:Reps a xs vs)(q:Vals vs its)(h:j<its.toArray.size):∃d v,xs[j]?=vQ d/\Rep a d v/\RelV v its.toArray[j]:=by
 have hl:j<its.length:=by simpa using h
 have h2:j<vs.length:=by rw[q.length];exact hl
 obtain⟨v,e1⟩:∃v,vs[j]?=vQ v:=⟨vs[j],zQ h2⟩;obtain⟨d,e2,rd⟩:=r.get' e1;obtain⟨u,e3,ru⟩:=q.get e1;have e4:u=its.toArray[j]:=by have:its[j]?=vQ its[j]:=zQ hl;rw[this]at e3;simpa using(Option.some.inj e3).symm
 exact⟨d,v,e2,rd,by rw[<-e4];exact ru⟩
theorem Vv(I:Inv X xU σ a.H s)(hk:a.K=X.K)(sm:Sim a G):∀(n:Nat){A:jD}{d e:D}{x y:V}{u w:jN}{k:Bool},A.units+n<cLine->Rep a d x->Rep a e y->RelV x u->RelV y w->eqD n G d e=vQ k->
  SeqAt.EqAt A s u w k/\SeqAt.RcAt A s u w k/\SeqAt.RcNeAt A s u w (!k)
 |0,_,_,_,_,_,_,_,_,_,_,_,_,_,h=>by cases h
 | n + 1,A,d,e,x,y,u,w,k,hu,rd,re,ru,rw',h=>by
  have vd:=Wk sm rd;have ve:=Wk sm re;have hu1:A.units<cLine:=by lia
  have hu2:A.in1.units+n<cLine:=by show A.units+1+n<cLine;lia
  have same:∀{z:V},Rep a d z->Rep a e z->eqD (n+1) G d e=vQ k->k=vJ:=λr1 r2 r3=>ZFE I hk sm (n+1) r1 r2 r3
  have h0:=h;unfold eqD at h
  try dsimp only at h
  have refs:∀{p q:jC}{k:Bool},(p=q->k=vJ)->SeqAt.RcAt A s (.ref p) (.ref q) k->SeqAt.EqAt A s (.ref p) (.ref q) k:=λ{p q k}hs hr=>by
   by_cases e:p=q
   ·rw[hs e,e];exact SeqAt.EqAt.same _
   ·exact SeqAt.EqAt.of_refs e hr
  revert h vd ve
  cases hvd:view G d<;>cases hve:view G e<;>intro vd ve h<;>dsimp only at h vd ve<;>first
   |cases h
   |skip
  ·
   obtain⟨rfl,f1⟩:=vd;obtain⟨rfl,f2⟩:=ve;exact⟨ZEi ru rw' f1 f2,ZKe ru rw' f1 f2,ZIl ru rw' f1 f2⟩
  ·
   obtain⟨rfl,f1⟩:=vd;obtain⟨q,vs,rfl,h2,r2⟩:=ve;cases rw';rw[hk]at h2;obtain⟨its,qv,pl,_⟩:=I.list h2;cases x with
   |non=>cases ru;exact⟨SeqAt.EqAt.none_list pl.isList hu1,SeqAt.RcAt.none_list pl.isList hu1,SeqAt.RcNeAt.none_list pl.isList hu1⟩
   |bl b=>cases ru;exact⟨SeqAt.EqAt.bool_list b pl.isList hu1,SeqAt.RcAt.bool_list b pl.isList hu1,SeqAt.RcNeAt.bool_list b pl.isList hu1⟩
   |int b=>obtain⟨t,rfl⟩:=ru;exact⟨SeqAt.EqAt.int_list b t pl.isList hu1,SeqAt.RcAt.int_list b t pl.isList hu1,SeqAt.RcNeAt.int_list b t pl.isList hu1⟩
   |str b=>obtain⟨t,rfl⟩:=ru;exact⟨SeqAt.EqAt.str_list b t pl.isList hu1,SeqAt.RcAt.str_list b t pl.isList hu1,SeqAt.RcNeAt.str_list b t pl.isList hu1⟩
   |_=>exact absurd (show vX=vJ from f1) zw
  ·
   obtain⟨rfl,f1⟩:=vd;obtain⟨q,vs,rfl,h2,r2⟩:=ve;cases rw';rw[hk]at h2;obtain⟨its,qv,pl,_⟩:=I.tuple h2;cases x with
   |non=>cases ru;exact⟨SeqAt.EqAt.none_tuple pl hu1,SeqAt.RcAt.none_tuple pl hu1,SeqAt.RcNeAt.none_tuple pl hu1⟩
   |bl b=>cases ru;exact⟨SeqAt.EqAt.bool_tuple b pl hu1,SeqAt.RcAt.bool_tuple b pl hu1,SeqAt.RcNeAt.bool_tuple b pl hu1⟩
   |int b=>obtain⟨t,rfl⟩:=ru;exact⟨SeqAt.EqAt.int_tuple b t pl hu1,SeqAt.RcAt.int_tuple b t pl hu1,SeqAt.RcNeAt.int_tuple b t pl hu1⟩
   |str b=>obtain⟨t,rfl⟩:=ru;exact⟨SeqAt.EqAt.str_tuple b t pl hu1,SeqAt.RcAt.str_tuple b t pl hu1,SeqAt.RcNeAt.str_tuple b t pl hu1⟩
   |_=>exact absurd (show vX=vJ from f1) zw
  ·
   obtain⟨rfl,f1⟩:=ve;obtain⟨q,vs,rfl,h2,r2⟩:=vd;cases ru;rw[hk]at h2;obtain⟨its,qv,pl,_⟩:=I.list h2;cases y with
   |non=>cases rw';exact⟨SeqAt.EqAt.list_none pl.isList hu1,SeqAt.RcAt.list_none pl.isList hu1,SeqAt.RcNeAt.list_none pl.isList hu1⟩
   |bl b=>cases rw';exact⟨SeqAt.EqAt.list_bool b pl.isList hu1,SeqAt.RcAt.list_bool b pl.isList hu1,SeqAt.RcNeAt.list_bool b pl.isList hu1⟩
   |int b=>obtain⟨t,rfl⟩:=rw';exact⟨SeqAt.EqAt.list_int b t pl.isList hu1,SeqAt.RcAt.list_int b t pl.isList hu1,SeqAt.RcNeAt.list_int b t pl.isList hu1⟩
   |str b=>obtain⟨t,rfl⟩:=rw';exact⟨SeqAt.EqAt.list_str b t pl.isList hu1,SeqAt.RcAt.list_str b t pl.isList hu1,SeqAt.RcNeAt.list_str b t pl.isList hu1⟩
   |_=>exact absurd (show vX=vJ from f1) zw
  ·
   obtain⟨p,vs,rfl,h1,r1⟩:=vd;obtain⟨q,vs',rfl,h2,r2⟩:=ve;cases ru;cases rw';rw[hk]at h1 h2;obtain⟨its,q1,p1,_⟩:=I.list h1;obtain⟨its',q2,p2,_⟩:=I.list h2;have sz1:its.toArray.size=vs.length:=by rw[zK];exact q1.length.symm
   have sz2:its'.toArray.size=vs'.length:=by rw[zK];exact q2.length.symm
   split at h
   ·rename_i hl;obtain⟨f,hf,hb⟩:=Yd h;have hsz:its.toArray.size=its'.toArray.size:=by rw[sz1,sz2,<-r1.length,<-r2.length];exact hl
    have he:∀j(g1:j<its.toArray.size)(g2:j<its'.toArray.size),SeqAt.EqAt A.in1 s its.toArray[j] its'.toArray[j] (f j):=λj g1 g2=>by obtain⟨d1,v1,e1,rd1,rv1⟩:=Xh r1 q1 g1;obtain⟨d2,v2,e2,rd2,rv2⟩:=Xh r2 q2 g2;exact(Vv I hk sm n hu2 rd1 rd2 rv1 rv2 (hf j d1 d2 e1 e2)).1
    have hk':k=(zy its.toArray.size).all f:=by
     rw[hb]
     congr 2
     rw[sz1,<-r1.length,hl];lia
    have rc:SeqAt.RcAt A s (.ref p) (.ref q) k:=by rw[hk'];exact SeqAt.RcAt.lists p1.isList p2.isList hsz hu1 he
    refine⟨refs (λe=>?_) rc,rc,by rw[hk'];exact SeqAt.RcNeAt.lists p1.isList p2.isList hsz hu1 he⟩;subst e;exact same rd re h0
   ·rename_i hl;have h':vX=k:=Option.some.inj h;subst h';have hsz:(its.toArray.size != its'.toArray.size)=vJ:=by rw[bne_iff_ne,sz1,sz2,<-r1.length,<-r2.length];exact hl
    refine⟨refs (λe=>?_) (SeqAt.RcAt.lists_lengths p1.isList p2.isList hsz hu1),SeqAt.RcAt.lists_lengths p1.isList p2.isList hsz hu1,SeqAt.RcNeAt.lists_lengths p1.isList p2.isList hsz hu1⟩;subst e;exact same rd re h0
  ·
   obtain⟨p,vs,rfl,h1,r1⟩:=vd;obtain⟨q,vs',rfl,h2,r2⟩:=ve;cases ru;cases rw';rw[hk]at h1 h2;obtain⟨its,q1,p1,_⟩:=I.list h1;obtain⟨its',q2,p2,_⟩:=I.tuple h2;exact⟨SeqAt.EqAt.list_tuple p1.isList p2 hu1,SeqAt.RcAt.list_tuple p1.isList p2 hu1,SeqAt.RcNeAt.list_tuple p1.isList p2 hu1⟩
  ·
   obtain⟨rfl,f1⟩:=ve;obtain⟨q,vs,rfl,h2,r2⟩:=vd;cases ru;rw[hk]at h2;obtain⟨its,qv,pl,_⟩:=I.tuple h2;cases y with
   |non=>cases rw';exact⟨SeqAt.EqAt.tuple_none pl hu1,SeqAt.RcAt.tuple_none pl hu1,SeqAt.RcNeAt.tuple_none pl hu1⟩
   |bl b=>cases rw';exact⟨SeqAt.EqAt.tuple_bool b pl hu1,SeqAt.RcAt.tuple_bool b pl hu1,SeqAt.RcNeAt.tuple_bool b pl hu1⟩
   |int b=>obtain⟨t,rfl⟩:=rw';exact⟨SeqAt.EqAt.tuple_int b t pl hu1,SeqAt.RcAt.tuple_int b t pl hu1,SeqAt.RcNeAt.tuple_int b t pl hu1⟩
   |str b=>obtain⟨t,rfl⟩:=rw';exact⟨SeqAt.EqAt.tuple_str b t pl hu1,SeqAt.RcAt.tuple_str b t pl hu1,SeqAt.RcNeAt.tuple_str b t pl hu1⟩
   |_=>exact absurd (show vX=vJ from f1) zw
  ·
   obtain⟨p,vs,rfl,h1,r1⟩:=vd;obtain⟨q,vs',rfl,h2,r2⟩:=ve;cases ru;cases rw';rw[hk]at h1 h2;obtain⟨its,q1,p1,_⟩:=I.tuple h1;obtain⟨its',q2,p2,_⟩:=I.list h2;exact⟨SeqAt.EqAt.tuple_list p1 p2.isList hu1,SeqAt.RcAt.tuple_list p1 p2.isList hu1,SeqAt.RcNeAt.tuple_list p1 p2.isList hu1⟩
  ·
   rename_i xs ys;obtain⟨p,vs,rfl,h1,r1⟩:=vd;obtain⟨q,vs',rfl,h2,r2⟩:=ve;cases ru;cases rw';rw[hk]at h1 h2;obtain⟨its,q1,p1,_⟩:=I.tuple h1;obtain⟨its',q2,p2,_⟩:=I.tuple h2;have sz1:its.toArray.size=xs.length:=by rw[zK,r1.length];exact q1.length.symm
   have sz2:its'.toArray.size=ys.length:=by rw[zK,r2.length];exact q2.length.symm
   split at h
   ·rename_i b hz;have h':(b&&xs.length==ys.length)=k:=Option.some.inj h;obtain⟨f,hf,hb⟩:=Yd hz;have he:∀j(g1:j<its.toArray.size)(g2:j<its'.toArray.size),SeqAt.EqAt A.in1 s its.toArray[j] its'.toArray[j] (f j):=λj g1 g2=>by obtain⟨d1,v1,e1,rd1,rv1⟩:=Xh r1 q1 g1;obtain⟨d2,v2,e2,rd2,rv2⟩:=Xh r2 q2 g2;exact(Vv I hk sm n hu2 rd1 rd2 rv1 rv2 (hf j d1 d2 e1 e2)).1
    have hk':k=((zy (min its.toArray.size its'.toArray.size)).all f&&its.toArray.size==its'.toArray.size):=by rw[<-h',hb,sz1,sz2]
    have rc:SeqAt.RcAt A s (.ref p) (.ref q) k:=by rw[hk'];exact SeqAt.RcAt.tuples p1 p2 hu1 he
    refine⟨refs (λe=>?_) rc,rc,by rw[hk'];exact SeqAt.RcNeAt.tuples p1 p2 hu1 he⟩;subst e;exact same rd re h0
   ·cases h
def Bk(d e:D)(G:DH):R D:=match eqD 30 G d e with
 |some k=>.ok (.bl k) G
 |none=>.bad
def Ga(d e:D)(G:DH):R D:=match eqD 30 G d e with
 |some k=>.ok (.bl (!k)) G
 |none=>.bad
theorem Bo(hu:X.A.units+64<cLine):OpR X (xX .Eq) (lR2 X.K E Bk):=by
 intro xU s σ H x y v u Q I rx ry ⟨a,G,d,e,hk,hH,sm,rd,re,q⟩;subst hH;unfold Bk at q;split at q
 ·rename_i k hd;exact(Vv I hk sm 30 (by lia) rd re rx ry hd).2.1 _ _ _ _ ⟨.bl k,a.H,I,rfl,q a _ (Ext.refl a) sm rfl⟩
 ·exact q.elim
theorem Nr(hu:X.A.units+64<cLine):OpR X (xX .NotEq) (lR2 X.K E Ga):=by
 intro xU s σ H x y v u Q I rx ry ⟨a,G,d,e,hk,hH,sm,rd,re,q⟩;subst hH;unfold Ga at q;split at q
 ·rename_i k hd;exact(Vv I hk sm 30 (by lia) rd re rx ry hd).2.2 _ _ _ _ ⟨.bl (!k),a.H,I,rfl,q a _ (Ext.refl a) sm rfl⟩
 ·exact q.elim
end
noncomputable abbrev DG:=D->DSt->DH->R DSt
variable{g:DG}
def Ff(E:XK)(a:Wd)(r:R DSt)(Q:St->Hp->Prop):Prop:=match r with
 |.ok S G=>∀(b:Wd)(σ:St),Ext a b->Sim b G->RepS b S σ->Q σ b.H
 |.err x G=>XOk E a x G
 |.bad=>False
def lG(K:PySem.W.Frag)(E:XK)(t:DG):TG:=λv σ H Q=>∃(a:Wd)(S:DSt)(G:DH)(d:D),a.K=K/\a.H=H/\Sim a G/\RepS a S σ/\Rep a d v/\Ff E a (t d S G) Q
def QG(X:Cx)(E:XK)(tg:jE)(t:DG):Prop:=PG X tg (lG X.K E t)
noncomputable abbrev DGs:=List D->DSt->DH->R DSt
def lGs(K:PySem.W.Frag)(E:XK)(t:DGs):TGs:=λvs σ H Q=>∃(a:Wd)(S:DSt)(G:DH)(ds:List D),a.K=K/\a.H=H/\Sim a G/\RepS a S σ/\Reps a ds vs/\Ff E a (t ds S G) Q
def QGs(X:Cx)(E:XK)(tg:List jE)(t:DGs):Prop:=PGs X tg (lGs X.K E t)
noncomputable def gV(i:Nat):DG:=λd S G=>.ok (S.set i (vQ d)) G
noncomputable def Ej:DGs:=λds S G=>match ds with
 |[]=>.ok S G
 |_=>.bad
def Bu(t:DG)(u:DGs):DGs:=λds S G=>match ds with
 |d::r=>(t d S G).bind λS1 G1=>u r S1 G1
 |[]=>.bad
noncomputable def Eb(n:Nat)(t:DGs):DG:=λd S G=>match d with
 |.tup ds=>if ds.length=n then t ds S G else .bad
 |_=>.bad
theorem Ff.imp{r:R DSt}{Q Q':St->Hp->Prop}(h:Ff E a r Q)(w:∀v H,Q v H->Q' v H):Ff E a r Q':=by
 cases r with
 |ok d G=>exact λb v x s q=>w _ _ (h b v x s q)
 |err e G=>exact h
 |bad=>exact h
theorem Ff.mono(x:Ext a b){r:R DSt}{Q:St->Hp->Prop}(h:Ff E a r Q):Ff E b r Q:=by
 cases r with
 |ok d G=>exact λc v y s q=>h c v (x.trans y) s q
 |err e G=>exact XOk.mono (E:=E) (e:=e) (G:=G) x h
 |bad=>exact h
theorem ZIM{r:R DSt}{f:DSt->DH->R DSt}{Q:St->Hp->Prop}(h:Ff E a (r.bind f) Q):
  Ff E a r (λσ H=>∃(b:Wd)(S:DSt)(G:DH),b.H=H/\Ext a b/\Sim b G/\RepS b S σ/\r=.ok S G/\Ff E b (f S G) Q):=by
 cases r with
 |ok d G=>exact λb v x s q=>⟨b,d,G,rfl,x,s,q,rfl,Ff.mono x h⟩
 |err e G=>exact h
 |bad=>exact h
theorem ZEw{f:D->DH->R DSt}{Q:St->Hp->Prop}(h:Ff E a (r.bind f) Q):
  out E a r (λv H=>∃(b:Wd)(d:D)(G:DH),b.H=H/\Ext a b/\Sim b G/\Rep b d v/\r=.ok d G/\Ff E b (f d G) Q):=by
 cases r with
 |ok d G=>exact λb v x s q=>⟨b,d,G,rfl,x,s,q,rfl,Ff.mono x h⟩
 |err e G=>exact h
 |bad=>exact h
theorem ZG8{r:R DSt}{f:DSt->DH->SR}(h:Ck E a (r.toS f) W):
  Ff E a r (λσ H=>∃(b:Wd)(S:DSt)(G:DH),b.H=H/\Ext a b/\Sim b G/\RepS b S σ/\r=.ok S G/\Ck E b (f S G) W):=by
 cases r with
 |ok d G=>exact λb v x s q=>⟨b,d,G,rfl,x,s,q,rfl,Ck.mono x h⟩
 |err e G=>exact h
 |bad=>exact h
section
variable{X:Cx}{E:XK}
theorem _root_._L.PG.mono{t t':TG}(h:PG X e t)(w:∀v σ H Q,t' v σ H Q->t v σ H Q):PG X e t':=λxU s σ H v u Q I r q=>h xU s σ H v u Q I r (w v σ H Q q)
theorem _root_._L.PGs.mono{e:List jE}{t t':TGs}(h:PGs X e t)(w:∀v σ H Q,t' v σ H Q->t v σ H Q):PGs X e t':=λxU s σ H v u Q I r q=>h xU s σ H v u Q I r (w v σ H Q q)
theorem Cd(i:Nat){pos:Pos}(hN:X.N.Nodup)(hi:X.N[i]?=vQ x:=by rfl)(hx:Loc X.env.scope x:=by first|exact Or.inl rfl|exact Or.inr rfl)
  (hf:X.fn x=vJ∨X.env.scope.names.lookup x=vQ .local:=by first|exact .inl rfl|exact .inr rfl|assumption):QG X E (.Name x pos) (gV i):=
 (ZM9 hN hi hx hf).mono λv σ H Q h=>by obtain⟨a,S,G,d,hk,rfl,s,r,q,h⟩:=h;exact h a _ (Ext.refl a) s (r.set i q)
theorem Km:QGs X E [] Ej:=ZIR.mono λvs σ H Q h=>by
 obtain⟨a,S,G,ds,hk,rfl,s,r,q,h⟩:=h;cases ds with
 |nil=>exact⟨q,h a σ (Ext.refl a) s r⟩
 |cons d ds=>exact h.elim
theorem Ea{es:List jE}{t:DG}{u:DGs}(h1:QG X E e t)(h2:QGs X E es u)
  (hs:(jP (e::es) X.env).map (·.2)=assign e X.env::(jP es X.env).map (·.2):=by rfl):QGs X E (e::es) (Bu t u):=(ZNv h1 h2 hs).mono λvs σ H Q h=>by
 obtain⟨a,S,G,ds,hk,rfl,s,r,q,h⟩:=h;cases ds with
 |nil=>exact h.elim
 |cons d ds=>
  obtain⟨v,rest,e1,q1,q2⟩:=q;refine⟨v,rest,e1,a,S,G,d,hk,rfl,s,r,q1,(ZIM h).imp ?_⟩;rintro σ' _ ⟨b,S1,G1,rfl,x,s1,r1,_,h1⟩;exact⟨b,S1,G1,ds,x.k.trans hk,rfl,s1,r1,q2.mono x,h1⟩
theorem K9{es:List jE}{k:Nat}{t:DGs}{n:Nat}{pos:Pos}(hc:X.calm=vJ)(h:QGs X E es t)
  (hn:(jP es X.env).length=n:=by rfl) (hst:(jP es X.env).findIdx? (·.1)=vZ:=by rfl):QG X E (.Tuple es k pos) (Eb n t):=(ZMK hc h hn hst).mono λv σ H Q h=>by
 obtain⟨a,S,G,d,hk,rfl,s,r,q,h⟩:=h;cases d with
 |tup ds=>
  obtain⟨p,vs,e,h1,r1⟩:=q;unfold Eb at h;dsimp only at h;split at h
  ·rename_i hl;exact⟨p,vs,e,by rw[<-hk];exact h1,by rw[<-r1.length];exact hl,a,S,G,ds,hk,rfl,s,r,r1,h⟩
  ·exact h.elim
 |_=>exact h.elim
def T9(o i v:D)(G:DH):R D:=match o,i with
 | .ref p,.int k=>match G[p]? with
  |some (.lst xs)=>match ixN xs.length k with
   |some j=>.ok .non (G.set p (.lst (xs.set j v)))
   |none=>.bad
  |_=>.bad
 |_,_=>.bad
def gIx(to ti:DE):DG:=λv S G=>(to S G).bind λo G1=>(ti S G1).bind λi G2=>(T9 o i v G2).bind λ_ G3=>.ok S G3
theorem ZFs{vs':List V}{ds':List D}(s:Sim a G)(hi:i<a.n)(h:a.H (a.m i)=vQ (.lst vs))(r:Reps a ds' vs'):
  Ext a (a.put (a.m i) (.lst vs'))/\Sim (a.put (a.m i) (.lst vs')) (G.set i (.lst ds')):=⟨Ext.wr h,s.wr hi h (r.mono (Ext.wr h))⟩
theorem ZFR{o i:jE}{to ti:DE}{pos:Pos}(ho:QE X E o to)(hi:QE X E i ti)
  (ha:∀v,assign (.Subscript o i pos) X.env v=(do
   let ov<-holding [v] (eval o X.env);let iv<-holding [v,ov] (eval i X.env)
   standAt pos
   holding [v,ov,iv] (setItem ov iv v)
   release [v,ov,iv] []):=by intro _;rfl):QG X E (.Subscript o i pos) (gIx to ti):=(ZNO ho hi set_list ha).mono λv σ H Q h=>by
 obtain⟨a,S,G,d,hk,rfl,s,r,q,h⟩:=h;refine⟨a,S,G,hk,rfl,s,r,(ZEw h).imp ?_⟩;rintro ov _ ⟨b,e,G1,rfl,x,s1,q1,_,h1⟩;refine⟨b,S,G1,x.k.trans hk,rfl,s1,r.mono x,(ZEw h1).imp ?_⟩;rintro iv _ ⟨c,f,G2,rfl,y,s2,q2,_,h2⟩;cases e with
 | ref p=>
  cases f with
  | int k=>
   unfold T9 at h2;dsimp only at h2;split at h2
   ·rename_i xs hx;split at h2
    ·rename_i j hj;obtain⟨vs,e1,r1⟩:=s2.lst hx;have q1':=q1.mono y;have rv:=(q.mono x).mono y;obtain⟨x3,s3⟩:=ZFs s2 q1'.1 e1 (r1.set rv j);refine⟨c.m p,vs,k,j,q1'.2,q2,e1,by rw[<-r1.length];exact hj,?_⟩;exact h2 _ σ x3 s3 (((r.mono x).mono y).mono x3)
    ·exact h2.elim
   ·exact h2.elim
  |_=>exact h2.elim
 |_=>exact h2.elim
variable{st:jM}{rest:List jM}{t u:DS}{e:jE}{te:DE}{pos:Pos}
noncomputable def sNx:DS:=λS G=>.nx S G
noncomputable def Ak(t u:DS):DS:=λS G=>match t S G with
 |.nx S1 G1=>u S1 G1
 |r=>r
def sEx(te:DE):DS:=λS G=>(te S G).toS λ_ G1=>.nx S G1
def sRt(te:DE):DS:=λS G=>(te S G).toS λd G1=>.rt d G1
def sIf(c:DB)(t u:DS):DS:=λS G=>(c S G).toS λk G1=>if k=vJ then t S G1 else u S G1
def sAs(te:DE)(g:DG):DS:=λS G=>(te S G).toS λd G1=>(g d S G1).toS λS2 G2=>.nx S2 G2
theorem Bh:QSs X E [] sNx:=ZMi.mono λW σ H h=>by obtain⟨a,S,G,hk,rfl,s,r,h⟩:=h;exact h a σ (Ext.refl a) s r
theorem Ck.nxOf{t:DS}{K:PySem.W.Frag}(hk:a.K=K)(h:Ck E a (Ak t u S G) W):Ck E a (t S G) {W with nx:=lS K E u W}:=by
 unfold Ak at h
 revert h
 cases t S G<;>intro h
 ·exact λb σ x s r=>⟨b,_,_,x.k.trans hk,rfl,s,r,Ck.mono x h⟩
 all_goals exact h
theorem Al(h1:QS X E st t)(h2:QSs X E rest u):QSs X E (st::rest) (Ak t u):=(ZF0 h1 h2).mono λW σ H h=>by obtain⟨a,S,G,hk,rfl,s,r,h⟩:=h;exact⟨a,S,G,hk,rfl,s,r,h.nxOf hk⟩
theorem Av(h1:QS X E st t):QSs X E [st] t:=ZG4 h1
theorem Ma(he:QE X E e te)(hs:swapsWith e vZ pos.line X.env=pure vX:=by rfl):QS X E (.Expr e pos) (sEx te):=(ZG3 he hs).mono λW σ H h=>by obtain⟨a,S,G,hk,rfl,s,r,h⟩:=h;refine⟨a,S,G,hk,rfl,s,r,(Rp h).imp ?_⟩;rintro v _ ⟨b,d,G1,rfl,x,s1,q,_,h1⟩;exact h1 b σ (Ext.refl b) s1 (r.mono x)
theorem Bf(he:QE X E e te):QS X E (.Return (vQ e) pos) (sRt te):=(ZKX he).mono λW σ H h=>by obtain⟨a,S,G,hk,rfl,s,r,h⟩:=h;refine⟨a,S,G,hk,rfl,s,r,(Rp h).imp ?_⟩;rintro v _ ⟨b,d,G1,rfl,x,s1,q,_,h1⟩;exact h1 b v (Ext.refl b) s1 q
theorem Bj{c:jE}{tc:DB}{a b:List jM}(hc:QT X E c tc)(ha:QSs X E a t)(hb:QSs X E b u):QS X E (.If c a b pos) (sIf tc t u):=(ZNf hc ha hb).mono λW σ H h=>by
 obtain⟨a,S,G,hk,rfl,s,r,h⟩:=h;refine⟨a,S,G,hk,rfl,s,r,(ZN0 h).imp ?_⟩;rintro k _ ⟨b,G1,rfl,x,s1,_,h1⟩;cases k with
 |true=>exact⟨b,S,G1,x.k.trans hk,rfl,s1,r.mono x,h1⟩
 |false=>exact⟨b,S,G1,x.k.trans hk,rfl,s1,r.mono x,h1⟩
theorem ZMu{K:PySem.W.Frag}(h:lS K E (sAs te g) W σ H):ZAp (lE K E te) (lG K E g) W σ H:=by obtain⟨a,S,G,hk,rfl,s,r,h⟩:=h;refine⟨a,S,G,hk,rfl,s,r,(Rp h).imp ?_⟩;rintro v _ ⟨b,d,G1,rfl,x,s1,q,_,h1⟩;refine⟨b,S,G1,d,x.k.trans hk,rfl,s1,r.mono x,q,(ZG8 h1).imp ?_⟩;rintro σ' _ ⟨c,S2,G2,rfl,y,s2,r2,_,h2⟩;exact h2 c σ' (Ext.refl c) s2 r2
theorem Th(he:QE X E e te)(hg:QG X E tg g)(hs:swapsWithSole [tg] e pos.line X.env=pure vX:=by rfl)(hw:swappedStores [tg] e X.env=pure vZ:=by rfl)
  (h1:(jP [tg] X.env).map (·.2)=[assign tg X.env]:=by rfl):QS X E (.Assign [tg] e pos) (sAs te g):=(ZJO he hg hs hw h1).mono λ_ _ _ h=>ZMu h
theorem Ay(i:Nat){pos':Pos}(hN:X.N.Nodup)(he:QE X E e te)(hi:X.N[i]?=vQ x:=by rfl)(hx:Loc X.env.scope x:=by first|exact Or.inl rfl|exact Or.inr rfl)(hs:swapsWith e (vQ (.Name x pos')) pos.line X.env=pure vX:=by rfl)
  (hf:X.fn x=vJ∨X.env.scope.names.lookup x=vQ .local:=by first|exact .inl rfl|exact .inr rfl|assumption):QS X E (.Assign [.Name x pos'] e pos) (sAs te (gV i)):=
 (ZMh hN hi hx he hs hf).mono λW σ H h=>by obtain⟨a,S,G,hk,rfl,s,r,h⟩:=h;refine⟨a,S,G,hk,rfl,s,r,(Rp h).imp ?_⟩;rintro v _ ⟨b,d,G1,rfl,x,s1,q,_,h1⟩;exact h1 b _ (Ext.refl b) s1 ((r.mono x).set i q)
end
noncomputable def aft(r:SR)(k:DSt->DH->SR):SR:=match r with
 |.nx S G=>k S G
 |.ct S G=>k S G
 |.bk S G=>.nx S G
 |r=>r
def Dp(g:DG)(b:DS):List D->DS
 |[],S,G=>.nx S G
 |x::xs,S,G=>(g x S G).toS λS1 G1=>aft (b S1 G1) (Dp g b xs)
def forM(i:Nat)(g:DG)(b:DS):Nat->Nat->DS
 |0,j,S,G=>match G[i]? with
  |some (.lst xs)=>if xs.length<=j then .nx S G else .bad
  |_=>.bad
 | k+1,j,S,G=>match G[i]? with
  |some (.lst xs)=>match xs[j]? with
   |some x=>(g x S G).toS λS1 G1=>aft (b S1 G1) (forM i g b k (j+1))
   |none=>.nx S G
  |_=>.bad
def Gx(f:Nat->DH->Option (Option D))(g:DG)(b:DS):Nat->Nat->DS
 |0,j,S,G=>match f j G with
  |some vZ=>.nx S G
  |_=>.bad
 |k+1,j,S,G=>match f j G with
  |some (vQ x)=>(g x S G).toS λS1 G1=>aft (b S1 G1) (Gx f g b k (j+1))
  |some vZ=>.nx S G
  |none=>.bad
inductive ItD where
 |pure (xs:List D)
 |mt (i:Nat)
 |fn (n:Nat) (f:Nat->DH->Option (Option D))
noncomputable abbrev DI:=DSt->DH->R ItD
def Gj(it:DI)(g:DG)(b:DS):DS:=λS G=>(it S G).toS λJ G1=>match J with
 |.pure xs=>Dp g b xs S G1
 |.mt i=>match G1[i]? with
  |some (.lst xs)=>forM i g b xs.length 0 S G1
  |_=>.bad
 |.fn n f=>Gx f g b n 0 S G1
def RepI(a:Wd):ItD->It->Prop
 |.pure xs,J=>∃vs:List V,Reps a xs vs/\∀b:Wd,Ext a b->∀i,(∀v,vs[i]?=vQ v->J.go i b.H/\∀x H',J.yld i b.H x H'->x=v/\H'=b.H)/\(vs.length<=i->J.stop i b.H)
 |.mt k,J=>k<a.n/\∀b:Wd,Ext a b->∀vs,b.H (b.m k)=vQ (.lst vs)->∀i,(∀v,vs[i]?=vQ v->J.go i b.H/\∀x H',J.yld i b.H x H'->x=v/\H'=b.H)/\(vs.length<=i->J.stop i b.H)
 |.fn _ f,J=>∀b:Wd,Ext a b->∀G,Sim b G->∀i,(∀d,f i G=vQ (vQ d)->J.go i b.H/\∀x H',J.yld i b.H x H'->∃c:Wd,c.H=H'/\Ext b c/\Sim c G/\Rep c d x)/\(f i G=vQ vZ->J.stop i b.H)
def outI(E:XK)(a:Wd)(r:R ItD)(Q:It->Hp->Prop):Prop:=match r with
 |.ok J G=>∀(b:Wd)(JJ:It),Ext a b->Sim b G->RepI b J JJ->Q JJ b.H
 |.err x G=>XOk E a x G
 |.bad=>False
def lI(K:PySem.W.Frag)(E:XK)(t:DI):TI:=λσ H Q=>∃(a:Wd)(S:DSt)(G:DH),a.K=K/\a.H=H/\Sim a G/\RepS a S σ/\outI E a (t S G) Q
def QI(X:Cx)(E:XK)(tg iter:jE)(t:DI):Prop:=PI X tg iter (lI X.K E t)
theorem outI.imp{r:R ItD}{Q Q':It->Hp->Prop}(h:outI E a r Q)(w:∀v H,Q v H->Q' v H):outI E a r Q':=by
 cases r with
 |ok d G=>exact λb v x s q=>w _ _ (h b v x s q)
 |err e G=>exact h
 |bad=>exact h
theorem ZHz{r:R ItD}{f:ItD->DH->SR}(h:Ck E a (r.toS f) W):
  outI E a r (λJ H=>∃(b:Wd)(d:ItD)(G:DH),b.H=H/\Ext a b/\Sim b G/\RepI b d J/\r=.ok d G/\Ck E b (f d G) W):=by
 cases r with
 |ok d G=>exact λb v x s q=>⟨b,d,G,rfl,x,s,q,rfl,Ck.mono x h⟩
 |err e G=>exact h
 |bad=>exact h
theorem ZMP {r:SR} {k:DSt->DH->SR} (h:Ck E a (aft r k) W):
  Ck E a r {W with
            nx:=λσ H=>∃(b:Wd)(S:DSt)(G:DH),b.H=H/\Ext a b/\Sim b G/\RepS b S σ/\Ck E b (k S G) W,
            ct:=λσ H=>∃(b:Wd)(S:DSt)(G:DH),b.H=H/\Ext a b/\Sim b G/\RepS b S σ/\Ck E b (k S G) W,bk:=W.nx}:=by
 cases r with
 |nx S G=>exact λb σ x s q=>⟨b,S,G,rfl,x,s,q,Ck.mono x h⟩
 |ct S G=>exact λb σ x s q=>⟨b,S,G,rfl,x,s,q,Ck.mono x h⟩
 |bk S G=>exact h
 |rt d G=>exact h
 |err x G=>exact h
 |bad=>exact h
noncomputable def mtF(i j:Nat)(G:DH):Option (Option D):=match G[i]? with
 |some (.lst xs)=>vQ xs[j]?
 |_=>vZ
theorem ZHG{J:It}{n:Nat}(r:RepI a (.pure xs) J):RepI a (.fn n λj _=>vQ xs[j]?) J:=by
 obtain⟨vs,rv,h⟩:=r;refine λb x G sm i=>⟨λd e=>?_,λe=>?_⟩
 ·obtain⟨v,ev,q⟩:=rv.get (Option.some.inj e);obtain⟨h1,h2⟩:=(h b x i).1 v ev;refine⟨h1,λy H' hy=>?_⟩;obtain⟨rfl,rfl⟩:=h2 y H' hy;exact⟨b,rfl,Ext.refl b,sm,q.mono x⟩
 ·exact(h b x i).2 (by rw[<-rv.length];exact List.getElem?_eq_none_iff.mp (Option.some.inj e))
theorem ZDw{J:It}{n:Nat}(r:RepI a (.mt k) J):RepI a (.fn n (mtF k)) J:=by
 obtain⟨hk,h⟩:=r;refine λb x G sm i=>?_
 unfold mtF;cases hG:G[k]? with
 |none=>exact⟨λd e=>(by cases e),λe=>(by cases e)⟩
 | some o=>
  cases o with
  |lst xs=>
   obtain⟨vs,e1,rv⟩:=sm.lst hG;refine⟨λd e=>?_,λe=>?_⟩
   ·obtain⟨v,ev,q⟩:=rv.get (Option.some.inj e);obtain⟨h1,h2⟩:=(h b x vs e1 i).1 v ev;refine⟨h1,λy H' hy=>?_⟩;obtain⟨rfl,rfl⟩:=h2 y H' hy;exact⟨b,rfl,Ext.refl b,sm,q⟩
   ·exact(h b x vs e1 i).2 (by rw[<-rv.length];exact List.getElem?_eq_none_iff.mp (Option.some.inj e))
  |_=>exact⟨λd e=>(by cases e),λe=>(by cases e)⟩
theorem ZFA{b:DS}:∀(n j:Nat),j+n=xs.length->Dp g b (xs.drop j)=Gx (λj _=>vQ xs[j]?) g b n j
 |0,j,h=>by
  funext S G;rw[qN (by lia)]
  show SR.nx S G=(match vQ xs[j]? with |some vZ=>SR.nx S G|_=>.bad)
  rw[zS (by lia)]
 |n+1,j,h=>by
  funext S G;have hj:j<xs.length:=by lia
  rw[qZ hj]
  show(g xs[j] S G).toS (λS1 G1=>aft (b S1 G1) (Dp g b (xs.drop (j+1))))=(match vQ xs[j]? with |some (vQ x)=>(g x S G).toS (λS1 G1=>aft (b S1 G1) (Gx (λj _=>vQ xs[j]?) g b n (j+1)))|some vZ=>SR.nx S G|none=>.bad)
  rw[zQ hj,ZFA n (j+1) (by lia)]
theorem ZD5{b:DS}:∀(n j:Nat),forM i g b n j=Gx (mtF i) g b n j
 | 0,j=>by
  funext S G;unfold forM Gx mtF;cases G[i]? with
  |none=>rfl
  | some o=>
   cases o with
   |lst xs=>
    dsimp only;by_cases hj:j<xs.length
    ·rw[if_neg (by lia),zQ hj]
    ·rw[if_pos (by lia),zS (by lia)]
   |_=>rfl
 | n+1,j=>by
  funext S G;unfold forM Gx;rw[ZD5 n (j+1)];unfold mtF;cases G[i]? with
  |none=>rfl
  | some o=>
   cases o with
   |lst xs=>
    dsimp only
    cases xs[j]?<;>rfl
   |_=>rfl
section
variable{X:Cx}{E:XK}{tg iter:jE}{pos:Pos}
theorem ZNr{K:PySem.W.Frag}{it:DI}{b:DS}(h:lS K E (Gj it g b) W σ H):tFor (lI K E it) (lG K E g) (lS K E b) W σ H:=by
 obtain⟨a,S,G,hk,rfl,s,r,h⟩:=h;refine⟨a,S,G,hk,rfl,s,r,(ZHz h).imp ?_⟩;rintro J _ ⟨a1,d,G1,rfl,x1,s1,q1,_,h1⟩;have k1:a1.K=K:=x1.k.trans hk
 suffices fnc:∃n f,RepI a1 (.fn n f) J/\Ck E a1 (Gx f g b n 0 S G1) W by
  obtain⟨n,f,q1,h1⟩:=fnc;have walk:∀b:Wd,Ext a1 b->∀G,Sim b G->∀i,(∀d,f i G=vQ (vQ d)->J.go i b.H/\∀x H',J.yld i b.H x H'->∃c:Wd,c.H=H'/\Ext b c/\Sim c G/\Rep c d x)/\(f i G=vQ vZ->J.stop i b.H):=q1;refine⟨λi m σ H=>∃(c:Wd)(S:DSt)(G:DH),c.H=H/\Ext a1 c/\Sim c G/\RepS c S σ/\Ck E c (Gx f g b m i S G) W,⟨_,a1,S,G1,rfl,Ext.refl _,s1,r.mono x1,h1⟩,?_⟩;rintro i m σ2 _ ⟨c,S2,G2,rfl,x2,s2,r2,h2⟩
  cases m with
  |zero=>
   unfold Gx at h2;split at h2
   ·rename_i hf;exact .inl ⟨(walk c x2 G2 s2 i).2 hf,h2 c σ2 (Ext.refl c) s2 r2⟩
   ·exact h2.elim
  | succ m=>
   unfold Gx at h2;split at h2
   ·rename_i d hf;obtain⟨go,yl⟩:=(walk c x2 G2 s2 i).1 d hf;refine .inr ⟨go,λσ' H'=>∃(c:Wd)(S:DSt)(G:DH),c.H=H'/\Ext a1 c/\Sim c G/\RepS c S σ'/\Ck E c (Gx f g b m (i+1) S G) W,λσ' H' z=>⟨m,qx _,z⟩,λw H' y=>?_⟩;obtain⟨cc,rfl,xx,ss,rd⟩:=yl w H' y;refine⟨cc,S2,G2,d,xx.k.trans (x2.k.trans k1),rfl,ss,r2.mono xx,rd,(ZG8 (Ck.mono xx h2)).imp ?_⟩;rintro σ3 _ ⟨c3,S3,G3,rfl,x3,s3,r3,_,h3⟩
    have fin:=ZMP h3;refine⟨c3,S3,G3,x3.k.trans (xx.k.trans (x2.k.trans k1)),rfl,s3,r3,?_⟩
    revert fin
    cases b S3 G3 with
    | nx S4 G4=>
      intro fin c4 σ4 x4 s4 q4;obtain⟨c5,S5,G5,hh,x5,s5,r5,h5⟩:=fin c4 σ4 x4 s4 q4;exact⟨c5,S5,G5,hh,x2.trans (xx.trans (x3.trans x5)),s5,r5,h5⟩
    | ct S4 G4=>
      intro fin c4 σ4 x4 s4 q4;obtain⟨c5,S5,G5,hh,x5,s5,r5,h5⟩:=fin c4 σ4 x4 s4 q4;exact⟨c5,S5,G5,hh,x2.trans (xx.trans (x3.trans x5)),s5,r5,h5⟩
    |bk S4 G4=>exact λfin=>fin
    |rt S4 G4=>exact λfin=>fin
    |err S4 G4=>exact λfin=>fin
    |bad=>exact λfin=>fin
   ·rename_i hf;exact .inl ⟨(walk c x2 G2 s2 i).2 hf,h2 c σ2 (Ext.refl c) s2 r2⟩
   ·exact h2.elim
 cases d with
 |pure xs=>
  have h1':Ck E a1 (Dp g b (xs.drop 0) S G1) W:=h1;rw[ZFA xs.length 0 (by lia)]at h1';exact⟨_,_,ZHG q1,h1'⟩
 |mt k=>
  dsimp only at h1;split at h1
  ·rw[ZD5]at h1;exact⟨_,_,ZDw q1,h1⟩
  ·exact h1.elim
 |fn n f=>exact⟨n,f,q1,h1⟩
theorem Ip{body:List jM}{it:DI}{b:DS}(hp:PassesOwn (x9 X.prog X.w) X.A X.env X.xe)(hc:X.calm=vJ)(hi:QI X E tg iter it)(hg:QG X E tg g)(hb:QSs X E body b)
  (hs:∀x,foldedSetIterable iter X.env x=pure x:=by intro _;rfl):QS X E (.For tg iter body [] pos) (Gj it g b):=(ZKp hp hc hi hg hb hs).mono λ_ _ _ h=>ZNr h
theorem _root_._L.PI.mono{t t':TI}(h:PI X tg iter t)(w:∀σ H Q,t' σ H Q->t σ H Q):PI X tg iter t':=λxU s σ H Q I q=>h xU s σ H Q I (w σ H Q q)
noncomputable def sgn(c:Nat):D:=.str ⟨#[c]⟩
def signs(x:Str):List D:=x.cps.toList.map sgn
noncomputable def Its(x:Str):It:=⟨λi _=>i<x.cps.size,λi H v H'=>H'=H/\∃c,x.cps[i]?=vQ c/\v=.str ⟨#[c]⟩,λi _=>x.cps.size<=i⟩
theorem ZH0{K:PySem.W.Frag}(it:jC)(x:Str)(t:Tok):Turn P w K tg (Its x) [it] it (λi h=>h.IsStrIter it "str_ascii_iterator" x t i) where
 mem:=by simp
 obj:=λi h st b hb=>by
  have e:b=it:=by simpa using hb
  subst e;obtain⟨o,e,c,d⟩:=st;exact⟨o,e,λv z=>by rw[d]at z;cases z⟩
 keep:=λi h h' st k=>let⟨o,ho,r⟩:=st;⟨o,k it (by simp) o ho,r⟩
 item:=by
  intro X hP hw hK hc i xU s σ H E I hf st hg;subst hP hw hK;obtain⟨f0,f1,f2,f3,f4,f5⟩:=hf it (by simp);have hi:i<x.cps.size:=hg;refine wpAny_pyNext_ascii_item st (c:=x.cps[i]) (by simp[hi]) λh' st' sb=>?_
  have I1:Inv X xU σ H {s with heap:=h',toks:=s.toks+1}:=I.turned (λb o hb e=>(sb.2 b hb).trans e) f0 f1 f3 f4 f5;obtain⟨o,e,c,d⟩:=id st';exact⟨_,rfl,Qs (s:={s with heap:=h',toks:=s.toks+1}) e c d (by decide) ⟨.str ⟨#[x.cps[i]]⟩,H,I1,⟨_,rfl⟩,⟨rfl,_,by simp[hi],rfl⟩,st',λb hb=>(hf b hb).1⟩⟩
 done:=by intro X hP hw hK hc i xU s σ H E I hf st hg;subst hP hw hK;obtain⟨f0,f1,f2,f3,f4,f5⟩:=hf it (by simp);have hi:x.cps.size<=i:=hg;exact wpAny_pyNext_ascii_end (I.ok.hd hc) st (by simp[hi]) λh' eb=>⟨rfl,I.turned (t':=s.toks) (λb o hb e=>eb b o hb e) f0 f1 f3 f4 f5⟩
 self:=λ_ _ _ _ _ st h=>wpAny_pyIter_striter_ascii st h
theorem ZOo{K:PySem.W.Frag}(it:jC)(x:Str)(t:Tok):Turn P w K tg (Its x) [it] it (λi h=>h.IsStrIter it "str_iterator" x t i) where
 mem:=by simp
 obj:=λi h st b hb=>by
  have e:b=it:=by simpa using hb
  subst e;obtain⟨o,e,c,d⟩:=st;exact⟨o,e,λv z=>by rw[d]at z;cases z⟩
 keep:=λi h h' st k=>let⟨o,ho,r⟩:=st;⟨o,k it (by simp) o ho,r⟩
 item:=by
  intro X hP hw hK hc i xU s σ H E I hf st hg;subst hP hw hK;obtain⟨f0,f1,f2,f3,f4,f5⟩:=hf it (by simp);have hi:i<x.cps.size:=hg;refine wpAny_pyNext_wide_item st (c:=x.cps[i]) (by simp[hi]) λh' st' sb=>?_
  have I1:Inv X xU σ H {s with heap:=h',toks:=s.toks+1}:=I.turned (λb o hb e=>(sb.2 b hb).trans e) f0 f1 f3 f4 f5;obtain⟨o,e,c,d⟩:=id st';exact⟨_,rfl,Qs (s:={s with heap:=h',toks:=s.toks+1}) e c d (by decide) ⟨.str ⟨#[x.cps[i]]⟩,H,I1,⟨_,rfl⟩,⟨rfl,_,by simp[hi],rfl⟩,st',λb hb=>(hf b hb).1⟩⟩
 done:=by intro X hP hw hK hc i xU s σ H E I hf st hg;subst hP hw hK;obtain⟨f0,f1,f2,f3,f4,f5⟩:=hf it (by simp);have hi:x.cps.size<=i:=hg;exact wpAny_pyNext_wide_end (I.ok.hd hc) st (by simp[hi]) λh' eb=>⟨rfl,I.turned (t':=s.toks) (λb o hb e=>eb b o hb e) f0 f1 f3 f4 f5⟩
 self:=λ_ _ _ _ _ st h=>wpAny_pyIter_striter_wide st h
def iStr(tl:TE):TI:=λσ H R=>tl σ H λx H1=>∃z,x=.str z/\R (Its z) H1
theorem ZIr{l:jE}{tl:TE}(hl:PE X l tl):PI X tg l (iStr tl):=by
 intro xU s σ H R I h;refine thn (hl xU s σ H _ I h) λv s1 ⟨x,H1,I1,r1,q1⟩=>?_
 obtain⟨z,e,q⟩:=q1;subst e;obtain⟨t,rfl⟩:=r1;have fp:∀b∈[s1.heap.objs.size],FpOk X xU H1 b:=λb hb=>by
  have e:b=s1.heap.objs.size:=by simpa using hb
  subst e;exact I1.Uj (zx _) (I1.hok.fresh (zx _))
 cases ha:z.cps.all (· < 128)
 ·refine wpAny_pyIter_wide ha ?_;exact⟨s1.heap.objs.size,[s1.heap.objs.size],_,_,H1,rfl,I1.kept (t':=s1.toks) λb o e=>zX _ e,ZOo _ z t,⟨_,zG _ rfl,rfl,rfl⟩,fp,q⟩
 ·refine wpAny_pyIter_ascii ha ?_;exact⟨s1.heap.objs.size,[s1.heap.objs.size],_,_,H1,rfl,I1.kept (t':=s1.toks) λb o e=>zX _ e,ZH0 _ z t,⟨_,zG _ rfl,rfl,rfl⟩,fp,q⟩
theorem Reps.signs(x:Str):Reps a (signs x) (x.cps.toList.map λc=>V.str ⟨#[c]⟩):=by
 unfold _D.signs
 induction x.cps.toList with
 |nil=>exact rfl
 |cons c r ih=>exact⟨_,_,rfl,rfl,ih⟩
def Hk:D->DH->R ItD
 |.tup xs,G=>.ok (.pure xs) G
 |.str x,G=>.ok (.pure (signs x)) G
 |.fl xs,G=>.ok (.pure xs) G
 |.ref i,G=>match G[i]? with
  |some (.lst _)=>.ok (.mt i) G
  |_=>.bad
 |_,_=>.bad
def Ez(te:DE):DI:=λS G=>(te S G).bind Hk
theorem Gb(he:QE X E iter te):QI X E tg iter (Ez te):=by
 intro xU s σ H R I h;obtain⟨a,S,G,hk,rfl,sm,r,h⟩:=h;cases ht:te S G with
 |bad=>
  have h':outI E a ((te S G).bind Hk) R:=h;rw[ht]at h';exact h'.elim
 |err e G1=>
  have h':outI E a ((te S G).bind Hk) R:=h;rw[ht]at h';refine ZDd (tg:=tg) he xU s σ a.H R I ⟨a,S,G,hk,rfl,sm,r,?_⟩;rw[ht];exact h'
 | ok d G1=>
  have h':outI E a ((te S G).bind Hk) R:=h;rw[ht]at h';cases d with
  |tup xs=>
   refine ZJC (tg:=tg) he xU s σ a.H R I ⟨a,S,G,hk,rfl,sm,r,?_⟩;rw[ht];rintro b v x sb ⟨p,vs,rfl,hq,rv⟩;have hq':SqT X.K b.H p vs:=by rw[<-hk,<-x.k];exact hq
   refine⟨p,rfl,⟨vs,hq'⟩,h' b _ x sb ⟨vs,rv,λc y i=>⟨λv hv=>⟨⟨vs,v,?_,hv⟩,λw H' z=>?_⟩,λhl=>⟨vs,?_,hl⟩⟩⟩⟩
   ·have:=y.sqT hq;rw[y.k,x.k,hk]at this;exact this
   ·have:=y.sqT hq;rw[y.k,x.k,hk]at this;exact⟨Option.some.inj ((z.2 vs this).symm.trans hv),z.1⟩
   ·have:=y.sqT hq;rw[y.k,x.k,hk]at this;exact this
  |fl xs=>
   refine ZDd (tg:=tg) he xU s σ a.H R I ⟨a,S,G,hk,rfl,sm,r,?_⟩;rw[ht];rintro b v x sb ⟨p,vs,rfl,hq,rv⟩;have hq':SqL X.K b.H p vs:=by rw[<-hk,<-x.k];exact hq.sq
   refine⟨p,rfl,⟨vs,hq'⟩,h' b _ x sb ⟨vs,rv,λc y i=>⟨λv hv=>⟨⟨vs,v,?_,hv⟩,λw H' z=>?_⟩,λhl=>⟨vs,?_,hl⟩⟩⟩⟩
   ·have:=(y.fzL hq).sq;rw[y.k,x.k,hk]at this;exact this
   ·have:=(y.fzL hq).sq;rw[y.k,x.k,hk]at this;exact⟨Option.some.inj ((z.2 vs this).symm.trans hv),z.1⟩
   ·have:=(y.fzL hq).sq;rw[y.k,x.k,hk]at this;exact this
  |ref k=>
   have h2:outI E a (Hk (.ref k) G1) R:=h';unfold Hk at h2;dsimp only at h2;split at h2
   ·rename_i xs hx;refine ZDd (tg:=tg) he xU s σ a.H R I ⟨a,S,G,hk,rfl,sm,r,?_⟩;rw[ht];rintro b v x sb ⟨hkn,rfl⟩;obtain⟨vs,hx,_⟩:=sb.lst hx;refine⟨b.m k,rfl,⟨vs,.of hx⟩,h2 b _ x sb ⟨hkn,λc y us hu i=>?_⟩⟩;rw[y.m k hkn]at hu;exact⟨λv hv=>⟨⟨us,v,.of hu,hv⟩,λw H' z=>⟨Option.some.inj ((z.2 us (.of hu)).symm.trans hv),z.1⟩⟩,λhl=>⟨us,.of hu,hl⟩⟩
   ·exact h2.elim
  | str z=>
   refine ZIr (tg:=tg) he xU s σ a.H R I ⟨a,S,G,hk,rfl,sm,r,?_⟩;rw[ht];intro b v x sb rv
   cases(show v=V.str z from rv)
   refine⟨z,rfl,h' b _ x sb ⟨_,Reps.signs z,λc y i=>⟨λv hv=>?_,λhl=>?_⟩⟩⟩
   ·rw[zv,z0]at hv;obtain⟨k,hk1,rfl⟩:=hv;have hk2:z.cps[i]?=vQ k:=by rw[<-Array.getElem?_toList];exact hk1
    refine⟨(zT.mp hk2).1,λw H' q=>?_⟩;obtain⟨e1,k',e2,e3⟩:=q;rw[hk2]at e2;cases e2;exact⟨e3,e1⟩
   ·rw[zV,jj]at hl;exact hl
  |_=>exact h'.elim
end
noncomputable def Cv(lo:Int)(n:Nat):List D:=(zy n).map λ(k:Nat)=>D.int (lo+(k:Int))
def inR(j:Int):Prop:= -(2^62)<=j/\j<2^62
noncomputable instance (j:Int):Decidable (inR j):=by unfold inR;infer_instance
def rng1(ds:List D)(G:DH):R ItD:=match ds with
 |[.int j]=>if inR j then .ok (.pure (Cv 0 j.toNat)) G else .bad
 |_=>.bad
def Gk(f:List D->DH->R ItD)(ta:DA):DI:=λS G=>(ta S G).bind f
def Ce(np nl:Nat)(b:DS):List D->DH->R D:=λds G=>if ds.length=np then tidy G (match b (ds.map vQ++zY nl vZ) G with
 |.nx _ G'=>.ok .non G'
 |.rt d G'=>.ok d G'
 |.err x G'=>.err x G'
 |_=>.bad)else .bad
theorem outI.mono(x:Ext a b){r:R ItD}{Q:It->Hp->Prop}(h:outI E a r Q):outI E b r Q:=by
 cases r with
 |ok d G=>exact λc v y s q=>h c v (x.trans y) s q
 |err e G=>exact XOk.mono (E:=E) (e:=e) (G:=G) x h
 |bad=>exact h
theorem ZLo{r:R (List D)}{f:List D->DH->R ItD}{Q:It->Hp->Prop}(h:outI E a (r.bind f) Q):
  Fl E a r (λvs H=>∃(b:Wd)(ds:List D)(G:DH),b.H=H/\Ext a b/\Sim b G/\Reps b ds vs/\r=.ok ds G/\outI E b (f ds G) Q):=by
 cases r with
 |ok d G=>exact λb v x s q=>⟨b,d,G,rfl,x,s,q,rfl,outI.mono x h⟩
 |err e G=>exact h
 |bad=>exact h
section
variable{X:Cx}{E:XK}{tg iter:jE}{pos:Pos}
theorem ZMm(lo:Int)(n:Nat):RepI a (.pure (Cv lo n)) (Itr lo n):=by
 refine⟨(zy n).map λ(k:Nat)=>V.int (lo+(k:Int)),?_,λb x i=>⟨λv hv=>?_,λhl=>?_⟩⟩
 ·unfold Cv;generalize zy n=l
  induction l with
  |nil=>exact rfl
  |cons k l ih=>exact⟨_,_,rfl,rfl,ih⟩
 ·rw[zv]at hv;by_cases hi:i<n
  ·rw[List.getElem?_range hi]at hv;have hv':V.int (lo+(i:Int))=v:=by simpa using hv
   exact⟨hi,λw H' y=>⟨y.2.trans hv',y.1⟩⟩
  ·rw[zS (by simpa using hi)]at hv;cases hv
 ·show n<=i;simpa using hl
theorem I9{ta:DA}{p pos:Pos}(hg:Gl X "range")(hm:X.mg "range"=vZ)(ha:QA X E [e] ta)(hs:xD [e] X.env=[(vX,eval e X.env)]:=by rfl):QI X E tg (.Call (.Name "range" p) [e] [] pos) (Gk rng1 ta):=
 (ZOE hg hm ha hs).mono λσ H Q h=>by
  obtain⟨a,S,G,hk,rfl,s,r,h⟩:=h;refine⟨a,S,G,hk,rfl,s,r,(ZLo h).imp ?_⟩;rintro vs _ ⟨b,ds,G1,rfl,x,s1,q,-,h1⟩;unfold rng1 at h1;split at h1
  ·rename_i j;split at h1
   ·rename_i hj;obtain⟨v,r,e1,q1,q2⟩:=q
    cases(show v=V.int j from q1)
    cases(show r=[]from q2)
    exact⟨j,e1,hj.1,hj.2,h1 b _ (Ext.refl b) s1 (ZMm 0 j.toNat)⟩
   ·exact h1.elim
  ·exact h1.elim
end
theorem ZFL(r:Reps a ds vs)(n m:Nat)(h:n=m):RepS a (ds.map vQ++zY n vZ) (vs.map vQ++zY m vZ):=by
 subst h;refine⟨by simp[r.length],λi d hd=>?_⟩;by_cases hi:i<ds.length
 ·rw[qQ (by simpa using hi),zv]at hd;cases e:ds[i]? with
  |none=>rw[e]at hd;cases hd
  |some d'=>
   rw[e]at hd;have hd':d'=d:=by simpa using hd
   subst hd';obtain⟨v,ev,q⟩:=r.get e;exact⟨v,by rw[qQ (by rw[zV,<-r.length];exact hi),zv,ev];rfl,q⟩
 ·rw[zE (by simpa using hi),qM]at hd
  split at hd<;>cases hd
theorem Dh{K:PySem.W.Frag}{mg:Str->Option jN}{base:Heap}{qual:Str}{st:jM}{f:jC}{fd:jF}{N ps:List Str}{b:DS}(F:Fun K x qual st f fd)(S:FnScope N ps (Bd st))
  (hbody:∀(cdv:jN)(A:jD)(outer:List Env)(s:jL)(H:Hp)(E:XK),Room k (A.deeper (envOfC qual (Bd st) s.heap.objs.size f cdv))->QSs (Hc CX0 P w K mg base N qual (Bd st) f cdv A outer s H E).nox E0 (Ep st) b):
  FnOk P w K mg base CX0 (k+1) f fd ps (lF K (Ce ps.length (N.length-ps.length) b)):=by
 have hlen:∀vs H Q E,lF K (Ce ps.length (N.length-ps.length) b) vs H Q E->vs.length=ps.length:=λvs H Q E h=>by
  obtain⟨a,G,ds,hk,rfl,sm,r,h⟩:=h;unfold Ce at h;split at h
  ·rename_i hl;rw[<-r.length];exact hl
  ·exact h.elim
 refine F.ok S hlen (λcdv A outer s H vs Q E hr h=>?_);refine⟨lS K E0 b,hbody cdv A outer s H E hr,?_⟩;have hl:=hlen vs H Q E h;obtain⟨a,G,ds,hk,rfl,sm,r,h⟩:=h;unfold Ce at h;split at h
 ·have h2:=ZBB sm h;refine⟨a,ds.map vQ++zY (N.length-ps.length) vZ,G,hk,rfl,sm,ZFL r _ _ (by rw[hl]),?_⟩
  revert h2
  cases b (ds.map vQ++zY (N.length-ps.length) vZ) G with
  |nx S1 G1=>exact λh2 c σ x s1 _=>h2 c .non x s1 rfl
  |rt d G1=>exact λh2=>h2
  |err e G1=>exact λh2=>h2
  |bk S1 G1=>exact λh2=>h2.elim
  |ct S1 G1=>exact λh2=>h2.elim
  |bad=>exact λh2=>h2
 ·exact h.elim
theorem Kv{x:V}(s:Sim a G)(r:Rep a d x)(h:Dr d G=vQ xs):∃p vs,x=.ref p/\(SqL a.K a.H p vs∨SqT a.K a.H p vs)/\Reps a xs vs:=by
 cases d with
 |tup ys=>
  have e:ys=xs:=Option.some.inj h;subst e;obtain⟨p,vs,e,q,rr⟩:=r;exact⟨p,vs,e,.inr q,rr⟩
 |fl ys=>
  have e:ys=xs:=Option.some.inj h;subst e;obtain⟨p,vs,e,q,rr⟩:=r;exact⟨p,vs,e,.inl q.sq,rr⟩
 |ref i=>
  unfold Dr at h;dsimp only at h;split at h
  ·rename_i ys hi;have e:ys=xs:=Option.some.inj h;subst e;obtain⟨vs,e1,r1⟩:=s.lst hi;exact⟨a.m i,vs,r.2,.inl (.of e1),r1⟩
  ·cases h
 |_=>cases h
def Ah (d e:D) (G:DH):R D:=match e with
 | .int i=>match d with
  | .str z=>if z.length<=1000000 then(match atI z.cps.toList i with
    |some c=>.ok (.str ⟨#[c]⟩) G
    |none=>.bad)else .bad
  | d=>match Dr d G with
   |some xs=>match atI xs i with
    |some v=>.ok v G
    |none=>.bad
   |none=>.bad
 |_=>.bad
theorem ZKf{i:Int}(r:Reps a xs vs)(h:atI xs i=vQ d):∃v,atI vs i=vQ v/\Rep a d v:=by
 unfold atI at h⊢;rw[<-r.length];cases e:ixN xs.length i with
 |none=>rw[e]at h;cases h
 |some j=>
  rw[e]at h
  obtain⟨v,ev,q⟩:=r.get (show xs[j]?=vQ d from h)
  exact⟨v,ev,q⟩
section
variable{X:Cx}{E:XK}
theorem _root_._L.IxR.mono{r r':R2}(h:IxR X r)(w:∀x y H Q,r' x y H Q->r x y H Q):IxR X r':=λvalue slice xU s σ H x y v u Q I rx ry q hs=>h value slice xU s σ H x y v u Q I rx ry (w _ _ _ _ q) hs
theorem _root_._L.CallR.mono{f:jN}{r r':List V->Hp->VK->Prop}(h:CallR X f r)(w:∀xs H Q,r' xs H Q->r xs H Q):CallR X f r':=λxU s σ H xs us Q I rs q=>h xU s σ H xs us Q I rs (w _ _ _ q)
theorem _root_._L.MtM.mono{id:String}{r r':V->List V->Hp->VK->Prop}(h:MtM X id r)(w:∀x xs H Q,r' x xs H Q->r x xs H Q):MtM X id r':=λxU s σ H x xs v us Q I rx rs q=>h xU s σ H x xs v us Q I rx rs (w _ _ _ _ q)
theorem Aq:IxR X (lR2 X.K E Ah):=ZKZ.mono λx y H Q h=>by
 obtain⟨a,G,d,e,hk,rfl,s,rd,re,q⟩:=h;cases e with
 | int i=>
  have fin:∀{xs:List D},Dr d G=vQ xs->out E a (match atI xs i with |some v=>.ok v G|none=>.bad) Q->rIx X.K x y a.H Q:=λ{xs}hs q=>by
   obtain⟨p,vs,e1,h1,r1⟩:=Kv s rd hs;rw[hk]at h1;split at q
   ·rename_i v hv;obtain⟨u,hu,ru⟩:=ZKf r1 hv;have z:=q a u (Ext.refl a) s ru;rcases h1 with h1|h1
    ·exact .inl ⟨p,vs,i,u,e1,re,h1,hu,z⟩
    ·exact .inr (.inl ⟨p,vs,i,u,e1,re,h1,hu,z⟩)
   ·exact q.elim
  have fin':out E a (match Dr d G with |some xs=>(match atI xs i with |some v=>.ok v G|none=>.bad)|none=>.bad) Q->rIx X.K x y a.H Q:=λq=>by
   cases hs:Dr d G with
   |none=>rw[hs]at q;exact q.elim
   |some xs=>rw[hs]at q;exact fin hs q
  cases d with
  | str z=>
   unfold Ah at q;dsimp only at q;split at q
   ·rename_i hl;split at q
    ·rename_i c hc;exact .inr (.inr ⟨z,i,c,rd,re,zC hl size6,hc,q a _ (Ext.refl a) s rfl⟩)
    ·exact q.elim
   ·exact q.elim
  |tup ys=>exact fin' q
  |fl ys=>exact fin' q
  |ref j=>exact fin' q
  |_=>exact fin' q
 |_=>exact q.elim
def Dw(ds:List D)(G:DH):R D:=match ds with
 |[.str z]=>if z.length<=1000000 then .ok (.int z.length) G else .bad
 |[d]=>match Dr d G with
  |some xs=>.ok (.int xs.length) G
  |none=>.bad
 |_=>.bad
theorem reps1(r:Reps a [d] vs):∃v,vs=[v]/\Rep a d v:=by
 obtain⟨v,r',e,q,z⟩:=r
 cases(show r'=[]from z)
 exact⟨v,e,q⟩
theorem reps2{d':D}(r:Reps a [d,d'] vs):∃v v',vs=[v,v']/\Rep a d v/\Rep a d' v':=by obtain⟨v,r',e,q,z⟩:=r;obtain⟨v',e',q'⟩:=reps1 z;subst e';exact⟨v,v',e,q,q'⟩
theorem Ex:CallR X (.builtin "len") (lRn X.K E Dw):=(ZNG.or ZH3).mono λvs H Q h=>by
 obtain⟨a,G,ds,hk,rfl,s,r,q⟩:=h;unfold Dw at q;split at q
 ·rename_i z;split at q
  ·rename_i hl;obtain⟨v,rfl,rv⟩:=reps1 r
   cases(show v=V.str z from rv)
   exact .inr ⟨z,rfl,zC hl size6,q a _ (Ext.refl a) s rfl⟩
  ·exact q.elim
 ·rename_i d _;split at q
  ·rename_i xs hs;obtain⟨v,rfl,rv⟩:=reps1 r;obtain⟨p,us,rfl,h1,r1⟩:=Kv s rv hs;rw[hk]at h1;exact .inl ⟨p,us,rfl,h1,q a _ (Ext.refl a) s (by rw[<-r1.length];exact rfl)⟩
  ·exact q.elim
 ·exact q.elim
def Kf(ds:List D)(G:DH):R D:=match ds with
 |[d]=>match Dr d G with
  |some xs=>.ok (.tup xs) G
  |none=>.bad
 |_=>.bad
theorem U8:CallR X (.type "tuple") (lRn X.K E Kf):=ZKt.mono λvs H Q h=>by
 obtain⟨a,G,ds,hk,rfl,s,r,q⟩:=h;unfold Kf at q;split at q
 ·rename_i d;split at q
  ·rename_i xs hs;obtain⟨v,rfl,rv⟩:=reps1 r;obtain⟨p,us,rfl,h1,r1⟩:=Kv s rv hs;refine⟨p,us,rfl,?_⟩;rcases h1 with h1|h1
   ·exact .inl ⟨by rw[<-hk];exact h1,λl hl=>Ui s r1 q l hl⟩
   ·exact .inr ⟨by rw[<-hk];exact h1,q a _ (Ext.refl a) s ⟨p,us,rfl,h1,r1⟩⟩
  ·exact q.elim
 ·exact q.elim
noncomputable def N8(ds:List D)(G:DH):R D:=match ds with
 |[.int i,.int j]=>.ok (.int (if j>i then j else i)) G
 |_=>.bad
theorem Vr(hc:X.calm=vJ):CallR X (.builtin "max") (lRn X.K E N8):=(ZOl hc).mono λvs H Q h=>by
 obtain⟨a,G,ds,hk,rfl,s,r,q⟩:=h;unfold N8 at q;split at q
 ·obtain⟨v,v',rfl,h1,h2⟩:=reps2 r
  cases(show v=V.int _ from h1)
  cases(show v'=V.int _ from h2)
  exact⟨_,_,rfl,q a _ (Ext.refl a) s rfl⟩
 ·exact q.elim
noncomputable def Ss(ds:List D)(G:DH):R D:=match ds with
 |[.int i]=>.ok (.int i) G
 |[.bl k]=>.ok (.int (if k then 1 else 0)) G
 |_=>.bad
theorem ZHg:CallR X (.type "int") (lRn X.K E Ss):=ZOp.mono λvs H Q h=>by
 obtain⟨a,G,ds,hk,rfl,s,r,q⟩:=h;unfold Ss at q;split at q
 ·obtain⟨v,rfl,h1⟩:=reps1 r
  cases(show v=V.int _ from h1)
  exact .inl ⟨_,rfl,q a _ (Ext.refl a) s rfl⟩
 ·obtain⟨v,rfl,h1⟩:=reps1 r
  cases(show v=V.bl _ from h1)
  exact .inr ⟨_,rfl,q a _ (Ext.refl a) s rfl⟩
 ·exact q.elim
noncomputable def K6(o:D)(ds:List D)(G:DH):R D:=match o,ds with
 |.ref i,[d]=>match G[i]? with
  |some (.lst xs)=>if xs.length<1000000 then .ok .non (G.set i (.lst (xs++[d])))else .bad
  |_=>.bad
 |_,_=>.bad
def lRm(K:PySem.W.Frag)(E:XK)(f:D->List D->DH->R D):V->List V->Hp->VK->Prop:=λx xs H Q=>∃(a:Wd)(G:DH)(d:D)(ds:List D),a.K=K/\a.H=H/\Sim a G/\Rep a d x/\Reps a ds xs/\out E a (f d ds G) Q
theorem Sim.isList(s:Sim a G)(h:G[i]?=vQ (.lst xs)):∃vs,SqL a.K a.H (a.m i) vs:=let⟨vs,e,_⟩:=s.lst h;⟨vs,.of e⟩
theorem Ox:MtM X "list.append" (lRm X.K E K6):=ZIu.mono λx xs H Q h=>by
 obtain⟨a,G,d,ds,hk,rfl,s,rd,r,q⟩:=h;unfold K6 at q;split at q
 ·rename_i i d;obtain⟨v,rfl,rv⟩:=reps1 r;split at q
  ·rename_i ys hy;split at q
   ·rename_i hl;obtain⟨vs,e1,r1⟩:=s.lst hy;obtain⟨x3,s3⟩:=ZFs s rd.1 e1 (r1.append (Reps.cons rv Reps.nil));refine⟨a.m i,vs,v,rd.2,rfl,e1,by rw[<-r1.length];exact zW hl size6,?_⟩;exact q _ .non x3 s3 rfl
   ·exact q.elim
  ·exact q.elim
 ·exact q.elim
variable{o e:jE}{es:List jE}{to:DE}{t:DA}{name:Str}{apos cpos:Pos}{T id:String}{f:D->List D->DH->R D}
noncomputable def isL(d:D)(G:DH):Bool:=match d with
 |.ref i=>match G[i]? with
  |some (.lst _)=>vJ
  |_=>vX
 |.fl _=>vJ
 |_=>vX
def Kw(f:D->List D->DH->R D)(o:DE)(t:DA):DE:=λS G=>(o S G).bind λx G1=>if isL x G1=vJ then(t S G1).bind λxs G2=>f x xs G2 else .bad
theorem ZNQ{x:V}(s:Sim a G)(r:Rep a d x)(h:isL d G=vJ):tyV a.K "list" x a.H:=by
 cases d with
 |ref i=>
  unfold isL at h;dsimp only at h;split at h
  ·rename_i xs hx;cases r.2;exact .inl ⟨rfl,s.isList hx⟩
  ·cases h
 |fl xs=>
  obtain⟨p,vs,rfl,q,_⟩:=r;exact .inl ⟨rfl,vs,q.sq⟩
 |_=>cases h
theorem Om(slot:Slot "list" name id)(hty:typeOf (.builtin id)=pure (.type "method_descriptor"))(hm:MtM X id (lRm X.K E f))(ho:QE X E o to)(ha:QA X E (e::es) t)
  (hbase:jR o name X.env (eval o X.env)=eval o X.env:=by rfl)
  (hfew:((jS cpos (xD (e::es) X.env)).all (λx=> !x.1)&&(backToKw cpos (keywordEach [] X.env)).all (λx=>x.1.isSome)
   && decide ((e::es).length+([]:List Keyword).length+(if([]:List Keyword).isEmpty then 0 else 1)<30))=vJ:=by rfl)
  (hline:(apos.endLine==cpos.line)=vJ:=by rfl) (hs:xD (e::es) X.env=(vX,eval e X.env)::xD es X.env:=by rfl) (hplain:(jS cpos (xD es X.env)).any (·.1)=vX:=by rfl):
  QE X E (.Call (.Attribute o name apos) (e::es) [] cpos) (Kw f to t):=(ZEk PySem.F.plainAttrs_list slot hty hm ho ha hbase hfew hline hs hplain).mono λσ H Q h=>by
 obtain⟨a,S,G,hk,rfl,s,r,h⟩:=h;refine⟨a,S,G,hk,rfl,s,r,(Fp h).imp ?_⟩;rintro v _ ⟨b,d,G1,rfl,x,s1,q,-,h1⟩;split at h1
 ·rename_i hl;have ty:=ZNQ s1 q hl;rw[x.k,hk]at ty;refine⟨ty,b,S,G1,x.k.trans hk,rfl,s1,r.mono x,(Qx h1).imp ?_⟩;rintro vs _ ⟨c,ds,G2,rfl,y,s2,q2,-,h2⟩;exact⟨c,G2,d,ds,y.k.trans (x.k.trans hk),rfl,s2,q.mono y,q2,h2⟩
 ·exact h1.elim
end
inductive Ty where|non|bl|int|str|tup|lst
def tyD(G:DH):D->Option Ty
 |.non=>vQ .non
 |.bl _=>vQ .bl
 |.int _=>vQ .int
 |.str _=>vQ .str
 |.tup _=>vQ .tup
 |.fl _=>vQ .lst
 |.ref i=>match G[i]? with
  |some (.lst _)=>vQ .lst
  |_=>vZ
 |.ty _=>vZ
noncomputable def Ty.sub(t:Ty):String->Option Bool
 |"int"=>vQ (match t with | .int=>vJ | .bl=>vJ|_=>vX)
 |"bool"=>vQ (match t with | .bl=>vJ|_=>vX)
 |"str"=>vQ (match t with | .str=>vJ|_=>vX)
 |"tuple"=>vQ (match t with | .tup=>vJ|_=>vX)
 |"list"=>vQ (match t with | .lst=>vJ|_=>vX)
 |_=>vZ
def Ky(ds:List D)(G:DH):R D:=match ds with
 | [d,.ty T]=>match tyD G d with
  |some t=>match t.sub T with
   |some k=>.ok (.bl k) G
   |none=>.bad
  |none=>.bad
 |_=>.bad
section
variable{prog:jH}{w:jO}{A:jD}{E:jN->jL->Prop}{s:jL}
theorem Ml{x:jN}{Tx T:String}{Q:jN->jL->Prop}(hx:s.TypeIs x Tx)(hty:typeOf (.type T)=pure (.type "type"))(hsub:xW (.type Tx) (.type T)=pure vJ)(h:Q (.bool vJ) s):
  xF (x9 prog w) A (call (.builtin "isinstance") [x,.type T]) Q E s:=xZ (isinstance_true hty hsub) ⟨hx,h⟩
end
theorem ty_int:typeOf (.type "int")=pure (.type "type"):=by with_unfolding_all rfl
theorem ty_bool:typeOf (.type "bool")=pure (.type "type"):=by with_unfolding_all rfl
theorem ty_str:typeOf (.type "str")=pure (.type "type"):=by with_unfolding_all rfl
theorem ty_tuple:typeOf (.type "tuple")=pure (.type "type"):=by with_unfolding_all rfl
theorem ty_list:typeOf (.type "list")=pure (.type "type"):=by with_unfolding_all rfl
theorem ZMq:xW (.type "NoneType") (.type "int")=pure vX:=by with_unfolding_all rfl
theorem ZOu:xW (.type "NoneType") (.type "bool")=pure vX:=by with_unfolding_all rfl
theorem ZLZ:xW (.type "NoneType") (.type "str")=pure vX:=by with_unfolding_all rfl
theorem ZMg:xW (.type "NoneType") (.type "tuple")=pure vX:=by with_unfolding_all rfl
theorem ZKR:xW (.type "NoneType") (.type "list")=pure vX:=by with_unfolding_all rfl
theorem ZHk:xW (.type "bool") (.type "int")=pure vJ:=by with_unfolding_all rfl
theorem ZNU:xW (.type "bool") (.type "bool")=pure vJ:=by with_unfolding_all rfl
theorem ZOJ:xW (.type "bool") (.type "str")=pure vX:=by with_unfolding_all rfl
theorem ZNg:xW (.type "bool") (.type "tuple")=pure vX:=by with_unfolding_all rfl
theorem ZO2:xW (.type "bool") (.type "list")=pure vX:=by with_unfolding_all rfl
theorem ZJ3:xW (.type "int") (.type "int")=pure vJ:=by with_unfolding_all rfl
theorem ZNR:xW (.type "int") (.type "bool")=pure vX:=by with_unfolding_all rfl
theorem ZLX:xW (.type "int") (.type "str")=pure vX:=by with_unfolding_all rfl
theorem ZKF:xW (.type "int") (.type "tuple")=pure vX:=by with_unfolding_all rfl
theorem ZOs:xW (.type "int") (.type "list")=pure vX:=by with_unfolding_all rfl
theorem ZOK:xW (.type "str") (.type "int")=pure vX:=by with_unfolding_all rfl
theorem ZNE:xW (.type "str") (.type "bool")=pure vX:=by with_unfolding_all rfl
theorem ZLB:xW (.type "str") (.type "str")=pure vJ:=by with_unfolding_all rfl
theorem ZLY:xW (.type "str") (.type "tuple")=pure vX:=by with_unfolding_all rfl
theorem ZLj:xW (.type "str") (.type "list")=pure vX:=by with_unfolding_all rfl
theorem ZJZ:xW (.type "tuple") (.type "int")=pure vX:=by with_unfolding_all rfl
theorem ZKO:xW (.type "tuple") (.type "bool")=pure vX:=by with_unfolding_all rfl
theorem ZJ1:xW (.type "tuple") (.type "str")=pure vX:=by with_unfolding_all rfl
theorem ZJ8:xW (.type "tuple") (.type "tuple")=pure vJ:=by with_unfolding_all rfl
theorem ZIQ:xW (.type "tuple") (.type "list")=pure vX:=by with_unfolding_all rfl
theorem ZHH:xW (.type "list") (.type "int")=pure vX:=by with_unfolding_all rfl
theorem ZEG:xW (.type "list") (.type "bool")=pure vX:=by with_unfolding_all rfl
theorem ZFQ:xW (.type "list") (.type "str")=pure vX:=by with_unfolding_all rfl
theorem ZES:xW (.type "list") (.type "tuple")=pure vX:=by with_unfolding_all rfl
theorem ZHe:xW (.type "list") (.type "list")=pure vJ:=by with_unfolding_all rfl
section
variable{X:Cx}{E:XK}
theorem ZG1:CallR X (.builtin "isinstance") (lRn X.K E Ky):=by
 intro xU s σ H vs us Q I rs h;obtain⟨a,G,ds,hk,rfl,sm,r,q⟩:=h;unfold Ky at q;split at q
 ·rename_i d T;obtain⟨v,v',rfl,h1,h2⟩:=reps2 r
  cases(show v'=V.ty T from h2)
  obtain⟨u,u',rfl,ru,ru'⟩:∃u u',us=[u,u']/\RelV v u/\RelV (.ty T) u':=by
   cases rs with
   |cons p q=>cases q with
    |cons p' q'=>cases q';exact⟨_,_,rfl,p,p'⟩
  cases(show u'=Value.type T from ru')
  split at q
  ·rename_i t ht;split at q
   ·rename_i k hk';have fin:∀{n:Nat},EP X xU σ Q (.bool k) {s with toks:=n}:=λ{n}=>⟨.bl k,a.H,I.tok _,rfl,q a _ (Ext.refl a) sm rfl⟩
    have fin0:EP X xU σ Q (.bool k) s:=⟨.bl k,a.H,I,rfl,q a _ (Ext.refl a) sm rfl⟩;unfold Ty.sub at hk';split at hk'
    ·cases d with
     |non=>
      cases ht;cases hk'
      cases(show v=_ from h1)
      cases ru;exact xZ (xq (by decide) ty_int ZMq) fin
     |bl b=>
      cases ht;cases hk'
      cases(show v=_ from h1)
      cases ru;exact Ml (Tx:="bool") rfl ty_int ZHk fin0
     |int b=>
      cases ht;cases hk'
      cases(show v=_ from h1)
      obtain⟨tk,rfl⟩:=ru;exact Ml (Tx:="int") (typeIs_int s _ _) ty_int ZJ3 fin0
     |str b=>
      cases ht;cases hk'
      cases(show v=_ from h1)
      obtain⟨tk,rfl⟩:=ru;exact xZ (xz (by decide) ty_int ZOK) fin
     |tup b=>
      cases ht;cases hk';obtain⟨p,ws,rfl,hq,_⟩:=h1;cases ru;rw[hk]at hq;obtain⟨its,_,pl,_⟩:=I.tuple hq;exact xZ (xj (by decide) ty_int ZJZ) ⟨(let⟨o,e,c,_⟩:=pl;⟨o,e,c⟩),fin⟩
     |fl b=>
      cases ht;cases hk';obtain⟨p,ws,rfl,hq,_⟩:=h1;cases ru;have hq:=hq.sq;rw[hk]at hq;obtain⟨its,_,pl,_⟩:=I.list hq;exact xZ (xY (by decide) ty_int ZHH) ⟨(let⟨o,e,c,_⟩:=pl.isList;⟨o,e,c⟩),fin⟩
     |ref b=>
      unfold tyD at ht;dsimp only at ht;split at ht
      ·rename_i xs hx;cases ht;cases hk';obtain⟨ws,e1,_⟩:=sm.lst hx;cases h1.2;cases ru;obtain⟨its,_,pl,_⟩:=I.list (.of e1);exact xZ (xY (by decide) ty_int ZHH) ⟨(let⟨o,e,c,_⟩:=pl.isList;⟨o,e,c⟩),fin⟩
      ·cases ht
     |ty n=>cases ht
    ·cases d with
     |non=>
      cases ht;cases hk'
      cases(show v=_ from h1)
      cases ru;exact xZ (xq (by decide) ty_bool ZOu) fin
     |bl b=>
      cases ht;cases hk'
      cases(show v=_ from h1)
      cases ru;exact Ml (Tx:="bool") rfl ty_bool ZNU fin0
     |int b=>
      cases ht;cases hk'
      cases(show v=_ from h1)
      obtain⟨tk,rfl⟩:=ru;exact xZ (xK (by decide) ty_bool ZNR) fin
     |str b=>
      cases ht;cases hk'
      cases(show v=_ from h1)
      obtain⟨tk,rfl⟩:=ru;exact xZ (xz (by decide) ty_bool ZNE) fin
     |tup b=>
      cases ht;cases hk';obtain⟨p,ws,rfl,hq,_⟩:=h1;cases ru;rw[hk]at hq;obtain⟨its,_,pl,_⟩:=I.tuple hq;exact xZ (xj (by decide) ty_bool ZKO) ⟨(let⟨o,e,c,_⟩:=pl;⟨o,e,c⟩),fin⟩
     |fl b=>
      cases ht;cases hk';obtain⟨p,ws,rfl,hq,_⟩:=h1;cases ru;have hq:=hq.sq;rw[hk]at hq;obtain⟨its,_,pl,_⟩:=I.list hq;exact xZ (xY (by decide) ty_bool ZEG) ⟨(let⟨o,e,c,_⟩:=pl.isList;⟨o,e,c⟩),fin⟩
     |ref b=>
      unfold tyD at ht;dsimp only at ht;split at ht
      ·rename_i xs hx;cases ht;cases hk';obtain⟨ws,e1,_⟩:=sm.lst hx;cases h1.2;cases ru;obtain⟨its,_,pl,_⟩:=I.list (.of e1);exact xZ (xY (by decide) ty_bool ZEG) ⟨(let⟨o,e,c,_⟩:=pl.isList;⟨o,e,c⟩),fin⟩
      ·cases ht
     |ty n=>cases ht
    ·cases d with
     |non=>
      cases ht;cases hk'
      cases(show v=_ from h1)
      cases ru;exact xZ (xq (by decide) ty_str ZLZ) fin
     |bl b=>
      cases ht;cases hk'
      cases(show v=_ from h1)
      cases ru;exact xZ (isinstance_false_bool (by decide) ty_str ZOJ) fin
     |int b=>
      cases ht;cases hk'
      cases(show v=_ from h1)
      obtain⟨tk,rfl⟩:=ru;exact xZ (xK (by decide) ty_str ZLX) fin
     |str b=>
      cases ht;cases hk'
      cases(show v=_ from h1)
      obtain⟨tk,rfl⟩:=ru;exact Ml (Tx:="str") (typeIs_str s _ _) ty_str ZLB fin0
     |tup b=>
      cases ht;cases hk';obtain⟨p,ws,rfl,hq,_⟩:=h1;cases ru;rw[hk]at hq;obtain⟨its,_,pl,_⟩:=I.tuple hq;exact xZ (xj (by decide) ty_str ZJ1) ⟨(let⟨o,e,c,_⟩:=pl;⟨o,e,c⟩),fin⟩
     |fl b=>
      cases ht;cases hk';obtain⟨p,ws,rfl,hq,_⟩:=h1;cases ru;have hq:=hq.sq;rw[hk]at hq;obtain⟨its,_,pl,_⟩:=I.list hq;exact xZ (xY (by decide) ty_str ZFQ) ⟨(let⟨o,e,c,_⟩:=pl.isList;⟨o,e,c⟩),fin⟩
     |ref b=>
      unfold tyD at ht;dsimp only at ht;split at ht
      ·rename_i xs hx;cases ht;cases hk';obtain⟨ws,e1,_⟩:=sm.lst hx;cases h1.2;cases ru;obtain⟨its,_,pl,_⟩:=I.list (.of e1);exact xZ (xY (by decide) ty_str ZFQ) ⟨(let⟨o,e,c,_⟩:=pl.isList;⟨o,e,c⟩),fin⟩
      ·cases ht
     |ty n=>cases ht
    ·cases d with
     |non=>
      cases ht;cases hk'
      cases(show v=_ from h1)
      cases ru;exact xZ (xq (by decide) ty_tuple ZMg) fin
     |bl b=>
      cases ht;cases hk'
      cases(show v=_ from h1)
      cases ru;exact xZ (isinstance_false_bool (by decide) ty_tuple ZNg) fin
     |int b=>
      cases ht;cases hk'
      cases(show v=_ from h1)
      obtain⟨tk,rfl⟩:=ru;exact xZ (xK (by decide) ty_tuple ZKF) fin
     |str b=>
      cases ht;cases hk'
      cases(show v=_ from h1)
      obtain⟨tk,rfl⟩:=ru;exact xZ (xz (by decide) ty_tuple ZLY) fin
     |tup b=>
      cases ht;cases hk';obtain⟨p,ws,rfl,hq,_⟩:=h1;cases ru;rw[hk]at hq;obtain⟨its,_,pl,_⟩:=I.tuple hq;exact Ml (Tx:="tuple") pl.typeIs ty_tuple ZJ8 fin0
     |fl b=>
      cases ht;cases hk';obtain⟨p,ws,rfl,hq,_⟩:=h1;cases ru;have hq:=hq.sq;rw[hk]at hq;obtain⟨its,_,pl,_⟩:=I.list hq;exact xZ (xY (by decide) ty_tuple ZES) ⟨(let⟨o,e,c,_⟩:=pl.isList;⟨o,e,c⟩),fin⟩
     |ref b=>
      unfold tyD at ht;dsimp only at ht;split at ht
      ·rename_i xs hx;cases ht;cases hk';obtain⟨ws,e1,_⟩:=sm.lst hx;cases h1.2;cases ru;obtain⟨its,_,pl,_⟩:=I.list (.of e1);exact xZ (xY (by decide) ty_tuple ZES) ⟨(let⟨o,e,c,_⟩:=pl.isList;⟨o,e,c⟩),fin⟩
      ·cases ht
     |ty n=>cases ht
    ·cases d with
     |non=>
      cases ht;cases hk'
      cases(show v=_ from h1)
      cases ru;exact xZ (xq (by decide) ty_list ZKR) fin
     |bl b=>
      cases ht;cases hk'
      cases(show v=_ from h1)
      cases ru;exact xZ (isinstance_false_bool (by decide) ty_list ZO2) fin
     |int b=>
      cases ht;cases hk'
      cases(show v=_ from h1)
      obtain⟨tk,rfl⟩:=ru;exact xZ (xK (by decide) ty_list ZOs) fin
     |str b=>
      cases ht;cases hk'
      cases(show v=_ from h1)
      obtain⟨tk,rfl⟩:=ru;exact xZ (xz (by decide) ty_list ZLj) fin
     |tup b=>
      cases ht;cases hk';obtain⟨p,ws,rfl,hq,_⟩:=h1;cases ru;rw[hk]at hq;obtain⟨its,_,pl,_⟩:=I.tuple hq;exact xZ (xj (by decide) ty_list ZIQ) ⟨(let⟨o,e,c,_⟩:=pl;⟨o,e,c⟩),fin⟩
     |fl b=>
      cases ht;cases hk';obtain⟨p,ws,rfl,hq,_⟩:=h1;cases ru;have hq:=hq.sq;rw[hk]at hq;obtain⟨its,_,pl,_⟩:=I.list hq;exact Ml (Tx:="list") pl.isList.typeIs ty_list ZHe fin0
     |ref b=>
      unfold tyD at ht;dsimp only at ht;split at ht
      ·rename_i xs hx;cases ht;cases hk';obtain⟨ws,e1,_⟩:=sm.lst hx;cases h1.2;cases ru;obtain⟨its,_,pl,_⟩:=I.list (.of e1);exact Ml (Tx:="list") pl.isList.typeIs ty_list ZHe fin0
      ·cases ht
     |ty n=>cases ht
    ·cases hk'
   ·exact q.elim
  ·exact q.elim
 ·exact q.elim
end
noncomputable def Gd:List D->Option (List Int)
 |[]=>vQ []
 |.int i::r=>(Gd r).map (i::·)
 |_=>vZ
noncomputable def H8:List D->Option (List Bool)
 |[]=>vQ []
 |.bl i::r=>(H8 r).map (i::·)
 |_=>vZ
@[simp]theorem ZD1(ns:List Int):Gd (ns.map D.int)=vQ ns:=by
 induction ns with
 |nil=>rfl
 |cons n ns ih=>simp[Gd,ih]
@[simp]theorem ZPR(ns:List Bool):H8 (ns.map D.bl)=vQ ns:=by
 induction ns with
 |nil=>rfl
 |cons n ns ih=>simp[H8,ih]
theorem Tg:∀{xs:List D}{ns:List Int},Gd xs=vQ ns->xs=ns.map D.int
 |[],ns,h=>by cases h;rfl
 |.int i::r,ns,h=>by simp only[Gd,z0]at h;obtain⟨ms,h1,rfl⟩:=h;rw[zk,Tg h1]
 |.non::r,ns,h=>by simp[Gd]at h
 |.bl _::r,ns,h=>by simp[Gd]at h
 |.str _::r,ns,h=>by simp[Gd]at h
 |.ty _::r,ns,h=>by simp[Gd]at h
 |.tup _::r,ns,h=>by simp[Gd]at h
 |.fl _::r,ns,h=>by simp[Gd]at h
 |.ref _::r,ns,h=>by simp[Gd]at h
theorem ZEY:∀{xs:List D}{ns:List Bool},H8 xs=vQ ns->xs=ns.map D.bl
 |[],ns,h=>by cases h;rfl
 |.bl i::r,ns,h=>by simp only[H8,z0]at h;obtain⟨ms,h1,rfl⟩:=h;rw[zk,ZEY h1]
 |.non::r,ns,h=>by simp[H8]at h
 |.int _::r,ns,h=>by simp[H8]at h
 |.str _::r,ns,h=>by simp[H8]at h
 |.ty _::r,ns,h=>by simp[H8]at h
 |.tup _::r,ns,h=>by simp[H8]at h
 |.fl _::r,ns,h=>by simp[H8]at h
 |.ref _::r,ns,h=>by simp[H8]at h
def Jt(ds:List D)(G:DH):R D:=match ds with
 | [d]=>match Dr d G with
  |some xs=>match Gd xs with
   |some ns=>.ok (.int ns.sum) G
   |none=>.bad
  |none=>.bad
 |_=>.bad
def Sq(ds:List D)(G:DH):R D:=match ds with
 | [d]=>match Dr d G with
  |some xs=>match H8 xs with
   |some ns=>.ok (.bl (ns.all id)) G
   |none=>.bad
  |none=>.bad
 |_=>.bad
section
variable{X:Cx}{E:XK}{xU:List (jC×Obj)}{σ:St}{s:jL}{H:Hp}
theorem Vt(I:Inv X xU σ H s)(hc:X.calm=vJ)(h:SqL X.K H p vs∨SqT X.K H p vs){E':jN->jL->Prop}{Q:jN->jL->Prop}
  (hQ:∀(it:jC)(fp wr:List jC)(its:List jN)(St:Nat->Heap->Prop)(s₂:jL),Vals vs its->Walks X.prog X.w X.A.in1 it fp wr its.toArray.size (λi v=>its.toArray[i]?=vQ v) St->St 0 s₂.heap->(∀b∈fp,b<s₂.heap.objs.size)->
   (∀h' tk,(∀b o,b∉wr->s₂.heap.get? b=vQ o->h'.get? b=vQ o)->Inv X xU σ H {s₂ with heap:=h',toks:=tk})->Q (.ref it) s₂):
  xF (x9 X.prog X.w) X.A.in1 (pyIter (.ref p)) Q E' s:=by
 have hh:X.A.in1.handled=vZ:=I.ok.hd hc;rcases h with h|h
 ·obtain⟨its,r,pl,hz⟩:=I.list h;refine wpAny_pyIter_list pl.isList ?_;have hp:p<s.heap.objs.size:=by obtain⟨o,e,_⟩:=pl.isList;exact zj e
  refine hQ _ _ _ its _ _ r (Walks.list hh _ p (zM hp) its.toArray) ⟨⟨_,zG _ rfl,rfl,rfl⟩,?_⟩ (λb hb=>?_) λh' tk kk=>?_
  ·obtain⟨o,e,c⟩:=pl.isList;exact⟨o,zX _ e,c⟩
  ·show b<(s.heap.push _).objs.size;rw[jA];rcases zz.mp hb with rfl|hb
   ·exact qx _
   ·have e:b=p:=by simpa using hb
    subst e;exact Nat.lt_succ_of_lt hp
  ·refine I.kept λb o e=>kk b o (λhb=>?_) (zX _ e)
   have e2:b=s.heap.objs.size:=by simpa using hb
   subst e2;exact absurd (zj e) (zR _)
 ·obtain⟨its,r,pl,hz⟩:=I.tuple h
  refine wpAny_pyIter_tuple (show s.heap.IsTuple p its.toArray from pl) ?_
  have hp:p<s.heap.objs.size:=by obtain⟨o,e,_⟩:=pl;exact zj e
  refine hQ _ _ _ its _ _ r (Walks.tuple hh _ p (zM hp) its.toArray) ⟨⟨_,zG _ rfl,rfl,rfl⟩,?_⟩ (λb hb=>?_) λh' tk kk=>?_
  ·obtain⟨o,e,c⟩:=pl;exact⟨o,zX _ e,c⟩
  ·show b<(s.heap.push _).objs.size;rw[jA];rcases zz.mp hb with rfl|hb
   ·exact qx _
   ·have e:b=p:=by simpa using hb
    subst e;exact Nat.lt_succ_of_lt hp
  ·refine I.kept λb o e=>kk b o (λhb=>?_) (zX _ e)
   have e2:b=s.heap.objs.size:=by simpa using hb
   subst e2;exact absurd (zj e) (zR _)
theorem ZEM(ns:List Int):∀n,n<=ns.length->preSum (λi=>ns.getD i 0) n=(ns.take n).sum
 |0,_=>by simp[preSum]
 |n+1,h=>by have hn:n<ns.length:=h;rw[preSum,ZEM ns n (by lia),List.take_succ_eq_append_getElem hn,List.sum_append];simp[hn]
theorem Xc:∀{ns:List Int}{vs:List V},Reps a (ns.map D.int) vs->vs=ns.map V.int
 |[],vs,h=>h
 |n::ns,vs,h=>by
  obtain⟨v,r,e,h1,h2⟩:=h
  cases(show v=V.int n from h1)
  rw[e,Xc h2]
  rfl
theorem ZFz:∀{ns:List Bool}{vs:List V},Reps a (ns.map D.bl) vs->vs=ns.map V.bl
 |[],vs,h=>h
 |n::ns,vs,h=>by
  obtain⟨v,r,e,h1,h2⟩:=h
  cases(show v=V.bl n from h1)
  rw[e,ZFz h2]
  rfl
theorem ZDG(hc:X.calm=vJ):CallR X (.builtin "sum") (lRn X.K E Jt):=by
 intro xU s σ H vs us Q I rs h;obtain⟨a,G,ds,hk,rfl,sm,r,q⟩:=h;unfold Jt at q;split at q
 ·rename_i d;obtain⟨v,rfl,rv⟩:=reps1 r;split at q
  ·rename_i xs hs;split at q
   ·rename_i ns hn;cases Tg hn;obtain⟨p,ws,rfl,h1,r1⟩:=Kv sm rv hs;cases Xc r1;rw[hk]at h1;obtain⟨u,rfl,ru⟩:=vals1 rs;cases ru;refine call_sum_walkG (Vt I hc h1 λit fp wr its St s₂ hv W st hfp fin=>⟨it,fp,wr,its.toArray.size,_,St,λi=>ns.getD i 0,rfl,W,st,hfp,λi w hw=>?_,λh' tk t' kk=>?_⟩)
    ·have hw':its[i]?=vQ w:=by simpa using hw
     have hl:i<(ns.map V.int).length:=by rw[hv.length];exact(zJ.mp hw').1
     have hl':i<ns.length:=by simpa using hl
     obtain⟨u,hu,ru⟩:=hv.get (i:=i) (x:=V.int ns[i]) (by simp[hl']);rw[hw']at hu;cases hu;obtain⟨t,rfl⟩:=ru;exact⟨t,by simp[hl']⟩
    ·refine⟨.int ns.sum,a.H,fin h' tk kk,⟨t',?_⟩,q a _ (Ext.refl a) sm rfl⟩;have hl:its.toArray.size=ns.length:=by rw[zK,<-hv.length];simp
     rw[hl,ZEM ns ns.length (zx _),jz]
   ·exact q.elim
  ·exact q.elim
 ·exact q.elim
theorem all_range(ns:List Bool):(zy ns.length).all (λi=>ns.getD i vJ)=ns.all id:=by
 rw[Bool.eq_iff_iff,zH,zH];constructor
 ·intro h b hb;obtain⟨i,hi,rfl⟩:=qE hb;simpa[hi]using h i (qD.mpr hi)
 ·intro h i hi;have hi':i<ns.length:=qD.mp hi;simpa[hi']using h ns[i] (qH hi')
theorem ZLD(hc:X.calm=vJ):CallR X (.builtin "all") (lRn X.K E Sq):=by
 intro xU s σ H vs us Q I rs h;obtain⟨a,G,ds,hk,rfl,sm,r,q⟩:=h;unfold Sq at q;split at q
 ·rename_i d;obtain⟨v,rfl,rv⟩:=reps1 r;split at q
  ·rename_i xs hs;split at q
   ·rename_i ns hn;cases ZEY hn;obtain⟨p,ws,rfl,h1,r1⟩:=Kv sm rv hs;cases ZFz r1;rw[hk]at h1;obtain⟨u,rfl,ru⟩:=vals1 rs;cases ru;refine call_all_walk (Vt I hc h1 λit fp wr its St s₂ hv W st hfp fin=>⟨it,fp,wr,its.toArray.size,_,St,λi=>ns.getD i vJ,rfl,W,st,λi w s' Q' E' hw hQ'=>?_,λh' tk kk=>?_⟩)
    ·have hw':its[i]?=vQ w:=by simpa using hw
     have hl:i<(ns.map V.bl).length:=by rw[hv.length];exact(zJ.mp hw').1
     have hl':i<ns.length:=by simpa using hl
     obtain⟨u,hu,ru⟩:=hv.get (i:=i) (x:=V.bl ns[i]) (by simp[hl']);rw[hw']at hu;cases hu;cases ru;refine xR ?_;simpa[hl']using hQ'
    ·refine⟨.bl (ns.all id),a.H,fin h' tk kk,?_,q a _ (Ext.refl a) sm rfl⟩;have hl:its.toArray.size=ns.length:=by rw[zK,<-hv.length];simp
     rw[hl,all_range]
     rfl
   ·exact q.elim
  ·exact q.elim
 ·exact q.elim
end
section
variable{X:Cx}{xU:List (jC×Obj)}{σ:St}{H:Hp}{s:jL}
theorem ZOw{a:jC}{o:HO}(I:Inv X xU σ H s)(hn:H a=vZ)(hy:X.s₀.heap.objs.size<=a)(hL:a≠X.env.locals)(hc:∀x c,X.env.cells.lookup x=vQ c->c≠a)(hp:∀p∈X.pn++xU,p.1≠a)
  (new:ObjOk X.prog X.w (upd H a o) s.heap a o):Inv X xU σ (upd H a o) s:=by
 have ne:∀b u,H b=vQ u->b≠a:=λb u e z=>by rw[z,hn]at e;cases e
 refine⟨I.ok,I.os,I.bare,⟨I.base.keep,I.base.slot,λb ob q n hx=>?_,I.base.there,λb xs q=>?_,λb ob u q=>?_,λb ps q=>?_⟩,I.loc,I.cell,?_,λx c e=>?_,λp hp'=>?_,λb u e=>?_,I.len⟩
 ·rw[Bq (zM (zW (zj q) hy))];exact I.base.free b ob q n hx
 ·have:=I.base.tups b xs q;rw[Bq (ne _ _ this)];exact this
 ·have:=I.base.frzs b ob u q;rw[Bq (ne _ _ this)];exact this
 ·obtain⟨more,this⟩:=I.base.tbls b ps q;exact⟨more,by rw[Bq (ne _ _ this)];exact this⟩
 ·rw[Bq (Ne.symm hL)];exact I.free
 ·rw[Bq (hc x c e)];exact I.Gp x c e
 ·obtain⟨e1,e2,e3⟩:=I.pin p hp';exact⟨e1,by rw[Bq (hp p hp')];exact e2,e3⟩
 ·by_cases hb:b=a
  ·subst hb;rw[Io]at e;cases e;exact new
  ·rw[Bq hb]at e;exact(I.hok b u e).stay (λ_ _ _ q=>q) (λc q=>by rw[Bq (ne _ _ q)];exact q) λc xs q=>by rw[Bq (ne _ _ q)];exact q
end
noncomputable def Er(env:Env):List (Str×jG)->List (Str×jC)->List (Str×jC)
 |[],cs=>cs
 |(n,k)::r,cs=>if(k==NameKind.free)=vJ then Er env r ((n,(env.cells.lookup n).getD 0)::cs)else Er env r cs
theorem ZGP(h:∀y∈scope.names,y.2=.free->∃c,env.cells.lookup y.1=vQ c):closureFor scope env=pure (Er env scope.names []):=by
 unfold closureFor;obtain⟨kind,names,g1,g2⟩:=scope;have key:∀(names:List (Str×jG))(cs:List (Str×jC)),(∀y∈names,y.2=.free->∃c,env.cells.lookup y.1=vQ c)->
   (forIn names cs (λx r=>match x with
    |(name,kind)=>if(kind==NameKind.free)=vJ then(do let c<-cellOf env name;pure (ForInStep.yield ((name,c)::r)))else pure (ForInStep.yield r)):Sem (List (Str×jC)))=pure (Er env names cs):=by
  intro names
  induction names with
  |nil=>intro cs _;rfl
  | cons y r ih=>
   intro cs hy;obtain⟨n,k⟩:=y;rw[List.forIn_cons];by_cases hk:(k==NameKind.free)=vJ
   ·obtain⟨c,hc⟩:=hy (n,k) zD (by simpa using hk)
    have e1:cellOf env n=pure c:=by unfold cellOf;rw[show env.cells.lookup n=vQ c from hc]
    have e2:Er env ((n,k)::r) cs=Er env r ((n,c)::cs):=by rw[Er,if_pos hk,show env.cells.lookup n=vQ c from hc];rfl
    rw[e2,<-ih ((n,c)::cs) λy' hy'=>hy y' (zq _ hy')];simp only[hk,if_true,e1]
    rfl
   ·have e2:Er env ((n,k)::r) cs=Er env r cs:=by rw[Er,if_neg hk]
    rw[e2,<-ih cs λy' hy'=>hy y' (zq _ hy')];simp only[hk]
    rfl
 have:=key names [] h;exact congrArg (λm:Sem (List (Str×jC))=>m >>=λr=>pure r) this
theorem ZDi:∀{names:List (Str×jG)}{cs:List (Str×jC)},(∀y∈names,y.2=.free->∃c,env.cells.lookup y.1=vQ c)->(∀p∈cs,env.cells.lookup p.1=vQ p.2)->∀p∈Er env names cs,env.cells.lookup p.1=vQ p.2
 |[],cs,_,hc,p,hp=>hc p hp
 | (n,k)::r,cs,hn,hc,p,hp=>by
  rw[Er]at hp;split at hp
  ·rename_i hk;obtain⟨c,e⟩:=hn (n,k) zD (by simpa using hk);refine ZDi (λy hy=>hn y (zq _ hy)) (λq hq=>?_) p hp;rcases zz.mp hq with rfl|hq
   ·rw[show env.cells.lookup n=vQ c from e];rfl
   ·exact hc q hq
  ·exact ZDi (λy hy=>hn y (zq _ hy)) hc p hp
theorem U4:∀{names:List (Str×jG)}{cs:List (Str×jC)},((x,.free)∈names∨∃c,(x,c)∈cs)->∃c,(x,c)∈Er env names cs
 |[],cs,h=>by
  rcases h with h|h
  ·cases h
  ·exact h
 | (n,k)::r,cs,h=>by
  rw[Er];split
  ·refine U4 ?_;rcases h with h|⟨c,h⟩
   ·rcases zz.mp h with e|h
    ·cases e;exact .inr ⟨_,zD⟩
    ·exact .inl h
   ·exact .inr ⟨c,zq _ h⟩
  ·rename_i hk;refine U4 ?_;rcases h with h|h
   ·rcases zz.mp h with e|h
    ·cases e;exact absurd rfl hk
    ·exact .inl h
   ·exact .inr h
theorem Yn{c:jC}:∀{l:List (Str×jC)},(x,c)∈l->∃d,l.lookup x=vQ d
 |[],h=>by cases h
 | (y,d)::l,h=>by
  by_cases e:x=y
  ·subst e;exact⟨d,by simp⟩
  ·rcases zz.mp h with z|h
   ·cases z;exact absurd rfl e
   ·obtain⟨d',q⟩:=Yn h;exact⟨d',by rw[qO,beq_eq_false_iff_ne.mpr e];exact q⟩
theorem ZEm(x:Str):(relabel scope env).names.lookup x=(scope.names.lookup x).map λk=>if(k==NameKind.free&&env.scope.kind == .function&&env.kindOf x==vQ .cell)=vJ then .cell else k:=by
 unfold relabel;generalize scope.names=l
 induction l with
 |nil=>rfl
 | cons y r ih=>
  obtain⟨n,k⟩:=y;by_cases e:x=n
  ·subst e;simp only[zk]
   cases hc:(k==NameKind.free&&env.scope.kind==ScopeKind.function&&env.kindOf x==vQ NameKind.cell) <;>
    simp only[hc,if_true,qO,beq_self_eq_true,j9,Bool.false_eq_true,if_false]
  ·have hb:(x==n)=vX:=beq_eq_false_iff_ne.mpr e;simp only[zk];split
   ·rw[qO,qO,hb];exact ih
   ·rw[qO,qO,hb];exact ih
def blk(X:Cx)(N:List Str)(scope:jI)(C:jC)(s₀:jL)(H₀:Hp)(ex:List jC):Cx where
 prog:=X.prog
 w:=X.w
 K:=X.K
 mg:=X.mg
 base:=X.base
 A:=X.A
 N:=N
 s₀:=s₀
 H₀:=H₀
 env:=compEnvC scope (Er X.env scope.names []) C X.env
 outer:=X.stack
 stack:=X.stack
 ex:=ex
 fn:=λ_=>vX
 calm:=X.calm
 pn:=[]
 xe:=λ_ _=>False
structure CompSc (X:Cx) (N:List Str) (scope:jI) (nt:Nat) (caps:List Nat):Prop where
 kind:scope.kind=.function
 names:∀y∈scope.names,y.2=.local->scope.names.lookup y.1=vQ .local
 nocell:∀y∈scope.names,y.2≠ .cell
 free:∀y∈scope.names,y.2=.free->X.env.kindOf y.1=vQ .cell∨X.env.kindOf y.1=vQ .free
 nd:N.Nodup
 len:N.length=nt+caps.length
 cap:∀(k j:Nat),caps[k]?=vQ j->∃x,X.N[j]?=vQ x/\N[nt+k]?=vQ x/\scope.names.lookup x=vQ .free
section
variable{X:Cx}{xU:List (jC×Obj)}{σ:St}{H:Hp}{s:jL}{N:List Str}{scope:jI}{nt:Nat}{caps:List Nat}
theorem CompSc.cells(c:CompSc X N scope nt caps)(ok:X.Ok):∀y∈scope.names,y.2=.free->∃c,X.env.cells.lookup y.1=vQ c:=λy hy hk=>ok.has y.1 (c.free y hy hk)
theorem CompSc.cl(c:CompSc X N scope nt caps)(ok:X.Ok){d:jC}(h:(Er X.env scope.names []).lookup x=vQ d):X.env.cells.lookup x=vQ d:=
 ZDi (c.cells ok) (λp hp=>by cases hp) (x,d) (PySem.mem_of_lookup h)
theorem ZLl(c:CompSc X N scope nt caps)(I:Inv X xU σ H s){fp:List jC}(hf:∀b∈fp,FpOk X xU H b){C:jC}(hC:s.heap.objs.size<=C)(hCf:C∉fp):(blk X N scope C s H fp).Ok where
 mod:=I.ok.mod
 kind:=c.kind
 glob:=I.ok.glob
 blt:=I.ok.blt
 above:=hC
 inj:=λx y d h1 h2=>I.ok.inj x y d (c.cl I.ok h1) (c.cl I.ok h2)
 has:=λx h=>by
  have h':(relabel scope X.env).names.lookup x=vQ .cell∨(relabel scope X.env).names.lookup x=vQ .free:=h;rw[ZEm]at h';have hfree:scope.names.lookup x=vQ .free:=by
   cases e:scope.names.lookup x with
   |none=>rw[e]at h';rcases h' with h'|h'<;>cases h'
   |some k=>
    rw[e]at h';cases k with
    |free=>rfl
    |cell=>exact absurd rfl (c.nocell _ (PySem.mem_of_lookup e))
    |_=>rcases h' with h'|h'<;>(simp at h')
  obtain⟨d,hd⟩:=U4 (env:=X.env) (x:=x) (names:=scope.names) (cs:=[]) (.inl (PySem.mem_of_lookup hfree));exact Yn hd
 cab:=λx d h=>by cases h
 hd:=I.ok.hd
 frames:=I.ok.frames
 stk:=.inl rfl
 exf:=λb hb=>⟨λz=>hCf (by rw[<-show b=C from z];exact hb),λx d h=>(hf b hb).2.2.2.2.1 x d (c.cl I.ok h)⟩
 bs:=I.bs
 bsz:=zC I.ok.bsz I.sz
 noex:=λb o e hb=>by
  rcases(hf b hb).2.2.2.1 with h|h
  ·exact I.ok.noex b o e h
  ·exact absurd (zW (zj (I.ok.bs b o e).1) h) (zR _)
 exfs:=λb hb hz=>by
  rcases zz.mp (I.X7 b hz)with z|z
  ·exact(hf b hb).2.1 z
  ·exact(hf b hb).2.2.1 z
 funs:=I.stack
 frf:=I.Va
end
def Cp(g:DG)(c:DB)(te:DE)(S:DSt):List D->DH->R (List D)
 |[],G=>.ok [] G
 | x::xs,G=>(g x S G).bind λS1 G1=>(c S1 G1).bind λk G2=>
   if k=vJ then(te S1 G2).bind λd G3=>(Cp g c te S xs G3).bind λds G4=>.ok (d::ds) G4 else Cp g c te S xs G2
def Gm(i:Nat)(g:DG)(c:DB)(te:DE)(S:DSt):Nat->Nat->DH->R (List D)
 |0,j,G=>match G[i]? with
  |some (.lst xs)=>if xs.length<=j then .ok [] G else .bad
  |_=>.bad
 | n + 1,j,G=>match G[i]? with
  |some (.lst xs)=>match xs[j]? with
   | some x=>(g x S G).bind λS1 G1=>(c S1 G1).bind λk G2=>
     if k=vJ then(te S1 G2).bind λd G3=>(Gm i g c te S n (j+1) G3).bind λds G4=>.ok (d::ds) G4 else Gm i g c te S n (j+1) G2
   |none=>.ok [] G
  |_=>.bad
def Fe(f:Nat->DH->Option (Option D))(g:DG)(c:DB)(te:DE)(S:DSt):Nat->Nat->DH->R (List D)
 |0,j,G=>match f j G with
  |some vZ=>.ok [] G
  |_=>.bad
 | n + 1,j,G=>match f j G with
  |some (vQ x)=>(g x S G).bind λS1 G1=>(c S1 G1).bind λk G2=>
     if k=vJ then(te S1 G2).bind λd G3=>(Fe f g c te S n (j+1) G3).bind λds G4=>.ok (d::ds) G4 else Fe f g c te S n (j+1) G2
  |some vZ=>.ok [] G
  |none=>.bad
noncomputable def Bx(nt:Nat)(caps:List Nat)(S:DSt):DSt:=zY nt vZ++caps.map λj=>(S[j]?).join
def Ek(it:DI)(nt:Nat)(caps:List Nat)(g:DG)(c:DB)(te:DE):DE:=λS G=>(it S G).bind λJ G1=>(match J with
 |.pure xs=>Cp g c te (Bx nt caps S) xs G1
 |.mt i=>match G1[i]? with
  |some (.lst xs)=>Gm i g c te (Bx nt caps S) xs.length 0 G1
  |_=>.bad
 |.fn n f=>Fe f g c te (Bx nt caps S) n 0 G1).bind Ba
noncomputable def De:DB:=λ_ G=>.ok vJ G
def GK(nt:Nat)(g:DG):Prop:=∀d S G S1 G1,g d S G=.ok S1 G1->∀i e,nt<=i->S[i]?=vQ (vQ e)->S1[i]?=vQ (vQ e)
def GKs(nt:Nat)(g:DGs):Prop:=∀d S G S1 G1,g d S G=.ok S1 G1->∀i e,nt<=i->S[i]?=vQ (vQ e)->S1[i]?=vQ (vQ e)
theorem Dv(h:i<nt):GK nt (gV i):=λd S G S1 G1 e j x hj hx=>by cases e;rw[qI (by lia)];exact hx
theorem Vj:GKs nt Ej:=λd S G S1 G1 e j x hj hx=>by
 cases d with
 |nil=>cases e;exact hx
 |cons _ _=>cases e
theorem Iw{t:DG}{u:DGs}(h1:GK nt t)(h2:GKs nt u):GKs nt (Bu t u):=λd S G S1 G1 e j x hj hx=>by
 cases d with
 |nil=>cases e
 |cons a r=>
  have e':(t a S G).bind (λS1 G1=>u r S1 G1)=.ok S1 G1:=e;cases ht:t a S G with
  |ok S2 G2=>rw[ht]at e';exact h2 _ _ _ _ _ e' j x hj (h1 _ _ _ _ _ ht j x hj hx)
  |err _ _=>rw[ht]at e';cases e'
  |bad=>rw[ht]at e';cases e'
theorem Wo{n:Nat}{t:DGs}(h:GKs nt t):GK nt (Eb n t):=λd S G S1 G1 e j x hj hx=>by
 cases d with
 |tup ds=>
  unfold Eb at e;dsimp only at e;split at e
  ·exact h _ _ _ _ _ e j x hj hx
  ·cases e
 |_=>cases e
theorem ZJS{r:R DSt}{f:DSt->DH->R D}(h:out E a (r.bind f) Q):
  Ff E a r (λσ H=>∃(b:Wd)(S:DSt)(G:DH),b.H=H/\Ext a b/\Sim b G/\RepS b S σ/\r=.ok S G/\out E b (f S G) Q):=by
 cases r with
 |ok d G=>exact λb v x s q=>⟨b,d,G,rfl,x,s,q,rfl,out.mono x h⟩
 |err e G=>exact h
 |bad=>exact h
theorem R.bind_assoc{γ:Type}(r:R α)(f:α->DH->R β)(g:β->DH->R γ):(r.bind f).bind g=r.bind λa G=>(f a G).bind g:=by cases r<;>rfl
theorem ZD7{r:R ItD}{f:ItD->DH->R D}(h:out E a (r.bind f) Q):
  outI E a r (λJ H=>∃(b:Wd)(d:ItD)(G:DH),b.H=H/\Ext a b/\Sim b G/\RepI b d J/\r=.ok d G/\out E b (f d G) Q):=by
 cases r with
 |ok d G=>exact λb v x s q=>⟨b,d,G,rfl,x,s,q,rfl,out.mono x h⟩
 |err e G=>exact h
 |bad=>exact h
section
variable{prog:jH}{w:jO}{A:jD}{R':Result->jL->Prop}{s:jL}
theorem ZJF{elt target iter:jE}{ifs:List jE}{scope:jI}{pos:Pos}{it acc:jN}{env:Env}(I:Nat->jL->Prop)
  (turn:∀n s,I n s->xF (x9 prog w) A (pyNext it) (λr s₁=>match r with
   |none=>R' (.ok .next) s₁
   | some v=>xF (x9 prog w) A (xk target it v) (λ_ s₁=>xF (x9 prog w) A (assign target env v) (λ_ s₂=>
     xF (x9 prog w) A (forIn ifs vJ λc r=>if r=vJ then do let ok<-isTrue c env (eval c env);pure (ForInStep.yield ok)else pure (ForInStep.yield r)) (λok s₃=>
      if ok=vJ then xF (x9 prog w) A (eval elt env) (λx s₄=>
       xF (x9 prog w) A (call (.builtin "list.append") [acc,x]) (λ_ s₅=>∃m,m<n/\I m s₅) (λ_ _=>False) s₄) (λ_ _=>False) s₃
      else∃m,m<n/\I m s₃) (λ_ _=>False) s₂) (λ_ _=>False) s₁) (λ_ _=>False) s₁) (λ_ _=>False) s)
  (n:Nat) (h:I n s):
  codeAny (x9 prog w) A (.compLoop (.ListComp elt [⟨target,iter,ifs,0⟩] scope pos) 0 it acc env) R' s:=by
 refine codeAny_loop rfl I (λn s hI=>?_) n h
 show xF _ A ((compTurn (.ListComp elt [⟨target,iter,ifs,0⟩] scope pos) 0 it acc env).onRaise (λx=>do noteFrame x env;theTreesLotGoes x)) _ _ s
 refine wpAny_noted ?_;rw[compTurn_list];refine xM ?_ (λ_ _ q=>q) (λ_ _(f:False)=>f.elim);refine xH (wpAny_standAt (xH (xM (turn n s hI) (λr s₁ h₁=>?_) λ_ _ h'=>h')));cases r with
 |none=>exact xP h₁
 | some v=>
  refine xH (xM h₁ (λ_ s₂' h₁=>?_) λ_ _ h'=>h');refine xH (xM h₁ (λ_ s₂ h₂=>xH (xM h₂ (λok s₃ h₃=>?_) λ_ _ h'=>h')) λ_ _ h'=>h');cases ok with
  |false=>exact xP ⟨rfl,h₃⟩
  |true=>
   exact xH (xH (xM h₃ (λx s₄ h₄=>xH (xM h₄ (λ_ s₅ h₅=>xP (xP ⟨rfl,h₅⟩)) λ_ _ h'=>h')) λ_ _ h'=>h'))
end
def QTs(X:Cx)(E:XK)(ifs:List jE)(t:DB):Prop:=
 ∀(xU:List (jC×Obj))(s:jL)(σ:St)(H:Hp)(Q:Bool->Hp->Prop),Inv X xU σ H s->lB X.K E t σ H Q->
  xF (x9 X.prog X.w) X.A (forIn ifs vJ λc r=>if r=vJ then do let ok<-isTrue c X.env (eval c X.env);pure (ForInStep.yield ok)else pure (ForInStep.yield r)) (TP X xU σ Q) X.xe s
theorem Il:QTs X E [] De:=λxU s σ H Q I h=>by obtain⟨a,S,G,hk,rfl,sm,r,h⟩:=h;exact wpAny_tests_nil ⟨a.H,I,h a (Ext.refl a) sm⟩
theorem Rq{c:jE}{t:DB}(hc:QT X E c t):QTs X E [c] t:=λxU s σ H Q I h=>wpAny_tests_one (hc xU s σ H Q I h)
section
variable{X:Cx}{E:XK}{N:List Str}{scope:jI}{nt:Nat}{caps:List Nat}{tg elt iter:jE}{ifs:List jE}{pos:Pos}{it:DI}{g:DG}{c:DB}{te:DE}
theorem ZKh(r:RepS a S σ):RepS a (Bx nt caps S) (zY nt vZ++caps.map λj=>(σ[j]?).join):=by
 refine⟨by simp[Bx],λi d h=>?_⟩;unfold Bx at h;by_cases hi:i<nt
 ·rw[qQ (by simpa using hi),qM]at h
  split at h<;>cases h
 ·rw [zE (by simpa using hi),zv]at h;rw[zE (by simpa using hi),zv];rw[qP]at h⊢;cases e:caps[i-nt]? with
  |none=>rw[e]at h;cases h
  | some j=>
   rw[e]at h;have h1:(S[j]?).join=vQ d:=by simpa using h
   have h2:S[j]?=vQ (vQ d):=by
    cases q:S[j]? with
    |none=>rw[q]at h1;cases h1
    |some o=>
     rw[q]at h1;have h1':o=vQ d:=h1;rw[h1']
   obtain⟨v,ev,rv⟩:=r.get j d h2;exact⟨v,by simp[ev],rv⟩
theorem ZMp(h:(Bx nt caps S)[i]?=vQ (vQ d)):nt<=i:=by
 unfold Bx at h;by_cases hi:i<nt
 ·rw[qQ (by simpa using hi),qM]at h
  split at h<;>cases h
 ·lia
theorem Zj (hc:X.calm=vJ) (cs:CompSc X N scope nt caps)
  (hg:∀C s₀ H₀ ex,QG (blk X N scope C s₀ H₀ ex) E0 tg g) (gk:GK nt g) (hts:∀C s₀ H₀ ex,QTs (blk X N scope C s₀ H₀ ex) E0 ifs c) (he:∀C s₀ H₀ ex,QE (blk X N scope C s₀ H₀ ex) E0 elt te)
  {xU:List (jC×Obj)} {σ:St} {s:jL} {a:Wd} {S:DSt} {G:DH} {J:It} {n0:Nat} {f:Nat->DH->Option (Option D)} {i0:jC} {fp:List jC} {tn:Nat->Heap->Prop} (I:Inv X xU σ a.H s) (hk:a.K=X.K) (sm:Sim a G) (rS:RepS a S σ)
  (T:Turn X.prog X.w X.K tg J fp i0 tn) (t0:tn 0 s.heap) (hf:∀b∈fp,FpOk X xU a.H b) (rJ:RepI a (.fn n0 f) J) {Q:VK}
  (h:out E0 a ((Fe f g c te (Bx nt caps S) n0 0 G).bind Ba) Q)
  {RR:jN->jC->Result->jL->Prop} {E':jN->jL->Prop}
  (hRR:∀(D C:jC)(s':jL)(b:Wd)(vs:List V),Inv X xU σ (upd b.H D (.lst vs)) s'->b.H D=vZ->s.heap.objs.size<=C->D≠C->(∃m,s'.heap.Ns C m)->b.H C=vZ->Q (.ref D) (upd b.H D (.lst vs))->RR (.ref D) C (.ok .next) s'):
  xF (x9 X.prog X.w) X.A (newList []) (λacc s₃=>xF (x9 X.prog X.w) X.A (newFunctionEnv scope X.env.globals (Er X.env scope.names []) [] X.env.qual vZ .none (vQ X.env)) (λcenv s₄=>
   codeAny (x9 X.prog X.w) X.A (.compStart (.ListComp elt [⟨tg,iter,ifs,0⟩] scope pos) 0 (.ref i0) acc {cenv with scope:=relabel scope X.env}) (RR acc cenv.locals) s₄) E' s₃) E' s:=by
 refine xN (wpAny_newFunctionEnv cs.nocell (by intro y hy;simp at hy) (λh₁ hns₁ hsb₁=>?_) cs.kind);dsimp only at hns₁ hsb₁⊢;generalize hH2:s.heap.push {cls:=.type "list",dict:=vZ,data:=.seq ([]:List jN).toArray}=H2 at hns₁ hsb₁⊢;have hC:H2.objs.size=s.heap.objs.size+1:=by rw[<-hH2,jA]
 have hDC:s.heap.objs.size≠H2.objs.size:=by rw[hC];exact zM (qx _)
 have hCle:s.heap.objs.size<=H2.objs.size:=by rw[hC];exact jK _
 have fpOld:∀b∈fp,b<s.heap.objs.size:=λb hb=>by obtain⟨o,e,_⟩:=T.obj 0 _ t0 b hb;exact zj e
 have hDf:s.heap.objs.size∉fp:=λhm=>zR _ (fpOld _ hm)
 have hCf:H2.objs.size∉fp:=λhm=>by have:=fpOld _ hm;rw[hC]at this;exact zR _ (Nat.lt_of_succ_lt this)
 have old:∀b o,s.heap.get? b=vQ o->h₁.get? b=vQ o:=λb o e=>
  hsb₁.extBut b o (by rw[hC];exact zM (Nat.lt_succ_of_lt (zj e))) (zX _ (hH2▸zX _ e))
 have hacc:h₁.PlainList s.heap.objs.size ([]:List jN).toArray:=⟨_,hsb₁.extBut _ _ hDC (zX _ (hH2▸zG _ rfl))⟩;generalize hCe:H2.objs.size=C at*;generalize hDe:s.heap.objs.size=Dd at*;let B:=blk X N scope C s a.H fp;have okB:B.Ok:=ZLl cs I hf (by rw[hDe];exact hCle) hCf;let σ0:St:=zY nt vZ++caps.map λj=>(σ[j]?).join
 have start:∀tk,Inv B [] σ0 a.H {s with heap:=h₁,toks:=tk}:=λtk=>by
  refine⟨okB,rfl,I.bare,Un.kept old,⟨_,hns₁,λi x v e1 e2 e3=>?_⟩,λx d' e=>?_,I.hok.fresh (by rw[hDe];exact hCle),λx d' e=>?_,λp hp=>?_,I.hok.kept old,?_⟩
  ·have hi:nt<=i:=by
    by_cases hi:i<nt
    ·have e2':σ0[i]?=vQ (vQ v):=e2;rw[qQ (by simpa using hi),qM]at e2'
     split at e2'<;>cases e2'
    ·lia
   have e2':σ0[i]?=vQ (vQ v):=e2;rw[zE (by simpa using hi),zv,qP]at e2';cases ej:caps[i-nt]? with
   |none=>rw[ej]at e2';cases e2'
   | some j=>
    rw[ej]at e2';have h1:(σ[j]?).join=vQ v:=by simpa using e2'
    have h2:σ[j]?=vQ (vQ v):=by
     cases q:σ[j]? with
     |none=>rw[q]at h1;cases h1
     |some o=>
      rw[q]at h1;have h1':o=vQ v:=h1;rw[h1']
    obtain⟨y,ey,en,ek⟩:=cs.cap (i-nt) j ej;have exy:x=y:=by
     have:nt+(i-nt)=i:=by lia
     rw[this]at en;have e1':N[i]?=vQ x:=e1;rw[e1']at en;exact Option.some.inj en
    subst exy;have kx:=cs.free (x,.free) (PySem.mem_of_lookup ek) rfl;have vis:Vis X.env.scope x:=by
     rcases kx with kx|kx
     ·exact .inr (.inl kx)
     ·exact .inr (.inr kx)
    obtain⟨m,hn,hl⟩:=I.loc;obtain⟨u,ru,lk⟩:=hl j x v ey h2 vis;refine⟨u,ru,?_⟩;rcases lk with⟨k1,_⟩|⟨k1,c1,ec,hcell⟩
    ·rcases kx with kx|kx
     ·rw[k1]at kx;cases kx
     ·rw[k1]at kx;cases kx
    ·refine .inr ⟨?_,c1,?_,?_⟩
     ·show(relabel scope X.env).names.lookup x=vQ .cell∨(relabel scope X.env).names.lookup x=vQ .free;rw[ZEm,ek];simp only[j9];split
      ·exact .inl rfl
      ·exact .inr rfl
     ·obtain⟨d1,hd1⟩:=U4 (env:=X.env) (x:=x) (names:=scope.names) (cs:=[]) (.inl (PySem.mem_of_lookup ek));obtain⟨d2,hd2⟩:=Yn hd1;have:=cs.cl I.ok hd2;rw[ec]at this;cases this;exact hd2
     ·obtain⟨o,e,dd⟩:=hcell;exact⟨o,old _ _ e,dd⟩
  ·obtain⟨v,o,e',dd⟩:=I.cell x d' (cs.cl I.ok e);exact⟨v,o,old _ _ e',dd⟩
  ·exact I.Gp x d' (cs.cl I.ok e)
  ·exact absurd hp (by simp[B,blk])
  ·show σ0.length=N.length;rw[cs.len];simp[σ0]
 have rS0:RepS a (Bx nt caps S) σ0:=ZKh rS;have aD:a.H Dd=vZ:=I.hok.fresh (by rw[hDe];exact zx _);have young:∀b∈fp,b≠C:=λb hb z=>hCf (z▸hb)
 have fpB:∀{H':Hp}{ps:List (jC×Obj)},(∀b∈fp,H' b=vZ)->(∀p∈ps,p.1∉fp)->∀b∈fp,FpOk B ps H' b:=λ{H' ps}hn hps b hb=>
  ⟨hn b hb,young b hb,okB.exfs b hb,.inl hb,λx d' e=>(hf b hb).2.2.2.2.1 x d' (cs.cl I.ok e),λp hp z=>by
   have hp':p∈ps:=by simpa[B,blk]using hp
   exact hps p hp' (z▸hb)⟩
 have nstk:Dd∉frs X.stack:=λz=>by
  rcases zz.mp (I.X7 Dd z)with z|z
  ·have:=I.lt;rw[hDe,<-z]at this;exact zR _ this
  ·exact I.nofs (by rw[hDe];exact zx _) z
 have pinD:∀{σ':St}{H':Hp}{s':jL}{its:List jN}{nD:Nat},Inv B [] σ' H' s'->s'.heap.get? Dd=vQ {cls:=.type "list",data:=.seq its.toArray nD}->H' Dd=vZ->Inv B [(Dd,{cls:=.type "list",data:=.seq its.toArray nD})] σ' H' s':=λ{σ' H' s' its nD}J e n=>
  J.Lj λp hp=>by
   have ep:p=(Dd,{cls:=.type "list",data:=.seq its.toArray nD}):=by simpa using hp
   subst ep;exact⟨e,n,hDC,nstk,λv' z=>by cases z⟩
 have fin:∀(s':jL)(b:Wd)(σ':St)(its:List jN)(ds:List D)(G':DH),Inv B [] σ' b.H s'->Ext a b->Sim b G'->s'.heap.PlainList Dd its.toArray->b.H Dd=vZ->(∃vs,Vals vs its/\Reps b ds vs)->out E0 b (Ba ds G') Q->RR (.ref Dd) C (.ok .next) s':=by
  intro s' b σ' its ds G' IB x sb pl hD ⟨vs,hv,rv⟩ hq;have hz:ds.length<=1000000:=by
   unfold Ba at hq;split at hq
   ·assumption
   ·exact hq.elim
  have Ix:Inv X xU σ b.H s':=I.call' IB.os IB.base IB.hok IB.bare λb hb=>⟨(hf b hb).2.2.2.1,(hf b hb).2.1,(hf b hb).2.2.2.2.1,(hf b hb).2.2.2.2.2⟩
  obtain⟨n,eD⟩:=pl;have ylt:∀{q:jC}{o:Obj},s.heap.get? q=vQ o->q≠Dd:=λe z=>by rw[z,<-hDe]at e;exact absurd (zj e) (zR _)
  have Ia:Inv X xU σ (upd b.H Dd (.lst vs)) s':=by
   refine ZOw Ix hD (by rw[<-hDe];exact I.sz) ?_ (λy c' ec=>?_) (λp hp=>?_) ⟨?_,its,n,hv,eD⟩
   ·rw[<-hDe];exact Nat.ne_of_gt I.lt
   ·obtain⟨v,o,e,_⟩:=I.cell y c' ec;exact ylt e
   ·exact ylt (I.pin p hp).1
   ·rw[<-rv.length];exact zC hz size6
  refine hRR Dd C s' b vs Ia hD hCle hDC (let⟨m,hn,_⟩:=IB.loc;⟨m,hn⟩) IB.free ?_;unfold Ba at hq;rw[if_pos hz]at hq;exact ZBn sb rv hq Dd hD
 have turnX:∀(n:Nat)(P:Nat->jL->Prop)(rest:DH->R (List D))(s1:jL)(b:Wd)(G1:DH)(σ1:St)(its:List jN)(acc:List D)(u:jN)(v:V)(x:D)(i:Nat),Inv B [] σ1 b.H s1->Ext a b->Sim b G1->RepS b (Bx nt caps S) σ1->tn i s1.heap->(∀q∈fp,b.H q=vZ)->
   s1.heap.PlainList Dd its.toArray->b.H Dd=vZ->(∃vs,Vals vs its/\Reps b acc vs)->RelV v u->Rep b x v->
   out E0 b (((g x (Bx nt caps S) G1).bind λS1 G1=>(c S1 G1).bind λk G2=>if k=vJ then(te S1 G2).bind λd G3=>(rest G3).bind λds G4=>.ok (d::ds) G4 else rest G2).bind λds G=>Ba (acc++ds) G) Q->
   (∀(s2:jL)(b2:Wd)(G2:DH)(σ2:St)(its2:List jN)(acc2:List D),Inv B [] σ2 b2.H s2->Ext a b2->Sim b2 G2->RepS b2 (Bx nt caps S) σ2->tn i s2.heap->(∀q∈fp,b2.H q=vZ)->
    s2.heap.PlainList Dd its2.toArray->b2.H Dd=vZ->(∃vs,Vals vs its2/\Reps b2 acc2 vs)->out E0 b2 ((rest G2).bind λds G=>Ba (acc2++ds) G) Q->∃m,m<n/\P m s2)->
   xF (x9 X.prog X.w) X.A (assign tg B.env u) (λ_ s₂=>
     xF (x9 X.prog X.w) X.A (forIn ifs vJ λc r=>if r=vJ then do let ok<-isTrue c B.env (eval c B.env);pure (ForInStep.yield ok)else pure (ForInStep.yield r)) (λok s₃=>
      if ok=vJ then xF (x9 X.prog X.w) X.A (eval elt B.env) (λx s₄=>
       xF (x9 X.prog X.w) X.A (call (.builtin "list.append") [.ref Dd,x]) (λ_ s₅=>∃m,m<n/\P m s₅) (λ_ _=>False) s₄) (λ_ _=>False) s₃
      else∃m,m<n/\P m s₃) (λ_ _=>False) s₂) (λ_ _=>False) s1:=by
  intro n P rest s1 b G1 σ1 its acc u v x i I1 x1 sb rSb t1 hfp pl hD hacc' ru rx hq next
  rw[R.bind_assoc]at hq;obtain⟨nD,eD⟩:=id pl;let pinD:List (jC×Obj):=[(Dd,{cls:=.type "list",data:=.seq its.toArray nD})];have pinOk:∀{σ':St}{H':Hp}{s':jL},Inv B (pinD++Oq fp s1.heap) σ' H' s'->s'.heap.PlainList Dd its.toArray/\H' Dd=vZ/\tn i s'.heap/\∀q∈fp,H' q=vZ:=λ{σ' H' s'}J=>by
   have p1:=J.pin (Dd,{cls:=.type "list",data:=.seq its.toArray nD}) (z9 _ (jq _ (by simp[pinD])));refine⟨⟨nD,p1.1⟩,p1.2.1,T.keep _ _ _ t1 λq hq' o e=>(J.pin (q,o) (z9 _ (z9 _ (U7 hq' e)))).1,λq hq'=>?_⟩;obtain⟨o,e,_⟩:=T.obj _ _ t1 q hq';exact(J.pin (q,o) (z9 _ (z9 _ (U7 hq' e)))).2.1
  have I2:Inv B (pinD++Oq fp s1.heap) σ1 b.H s1:=I1.Lj λp hp=>by
   rcases zF.mp hp with hp|hp
   ·have e:p=(Dd,{cls:=.type "list",data:=.seq its.toArray nD}):=by simpa[pinD]using hp
    subst e;refine⟨eD,hD,hDC,λz=>?_,λv' z=>by cases z⟩;exact nstk z
   ·obtain⟨hb,e⟩:=ZGx hp;obtain⟨f0,f1,f2,_⟩:=fpB (ps:=[]) hfp (λp hp=>by cases hp) p.1 hb;obtain⟨o,e',dd⟩:=T.obj _ _ t1 p.1 hb;rw[e]at e';cases e';exact⟨e,f0,f1,f2,dd⟩
  refine thn (hg C s a.H fp _ s1 σ1 b.H v u _ I2 ru ⟨b,Bx nt caps S,G1,x,x1.k.trans hk,rfl,sb,rSb,rx,(ZJS hq).imp λ_ _ z=>z⟩) ?_;rintro _ s2 ⟨σ2,H2',J2,b2,S2,G2,rfl,y2,sb2,rS2,eg,hq2⟩;rw[R.bind_assoc]at hq2;have rS2':RepS b2 (Bx nt caps S) σ2:=⟨by have h1:=J2.len;have h2:σ1.length=N.length:=I1.len;rw[rSb.len,h2];exact h1.symm,λj e' hj=>rS2.get j e' (gk _ _ _ _ _ eg j e' (ZMp hj) hj)⟩
  refine thn (hts C s a.H fp _ s2 σ2 b2.H _ J2 ⟨b2,S2,G2,y2.k.trans (x1.k.trans hk),rfl,sb2,rS2,(ZIm hq2).imp λ_ _ z=>z⟩) ?_;rintro k s3 ⟨H3,J3,b3,G3,rfl,y3,sb3,_,hq3⟩;cases k with
  |false=>
   obtain⟨p1,p2,p3,p4⟩:=pinOk J3;have Jn:Inv B [] σ2 b3.H s3:=J3.Lj λp hp=>by cases hp
   obtain⟨vs,hv,rv⟩:=hacc'
   exact next s3 b3 G3 σ2 its acc Jn (x1.trans (y2.trans y3)) sb3 (rS2'.mono y3) p3 p4 p1 p2 ⟨vs,hv,(rv.mono y2).mono y3⟩ hq3
  | true=>
   have hq3':out E0 b3 (((te S2 G3).bind λd G3=>(rest G3).bind λds G4=>.ok (d::ds) G4).bind λds G=>Ba (acc++ds) G) Q:=hq3;rw[R.bind_assoc]at hq3';refine thn (he C s a.H fp _ s3 σ2 b3.H _ J3 ⟨b3,S2,G3,y3.k.trans (y2.k.trans (x1.k.trans hk)),rfl,sb3,rS2.mono y3,(Fp hq3').imp λ_ _ z=>z⟩) ?_;rintro w s4 ⟨vw,H4,J4,rw',b4,d4,G4,rfl,y4,sb4,q4,_,hq4⟩;obtain⟨p1,p2,p3,p4⟩:=pinOk J4;rw[R.bind_assoc]at hq4
   have hq4':out E0 b4 ((rest G4).bind λds G=>Ba ((acc++[d4])++ds) G) Q:=by
    have e:(λ(ds:List D)(G:DH)=>(R.ok (d4::ds) G).bind λds G=>Ba (acc++ds) G)=λds G=>Ba ((acc++[d4])++ds) G:=by funext ds G;simp
    rw[<-e];exact hq4
   obtain⟨vs,hv,rv⟩:=hacc';have hsz:its.toArray.size<=sizeLine:=by
    have:acc.length<=1000000:=by
     cases hr:rest G4 with
     |ok ds G5=>
      rw[hr]at hq4';have hq5:out E0 b4 (Ba ((acc++[d4])++ds) G5) Q:=hq4';unfold Ba at hq5;split at hq5
      ·rename_i hl;simp at hl;lia
      ·exact hq5.elim
     |err e' G5=>rw[hr]at hq4';exact(hq4'.1 rfl).elim
     |bad=>rw[hr]at hq4';exact hq4'.elim
    rw[zK,<-hv.length,<-rv.length];exact zC this size6
   refine wpAny_list_append_plain p1 (λh' hpl hsb=>?_) hsz;have Jn:Inv B [] σ2 b4.H s4:=J4.Lj λp hp=>by cases hp
   have J5:Inv B [] σ2 b4.H {s4 with heap:=h'}:=by refine Jn.turned (it:=Dd) (t':=s4.toks) (λq o hq' e=>(hsb.2 q hq').trans e) p2 hDC (.inr (by show s.heap.objs.size<=Dd;rw[hDe];exact zx _)) (λy c' ec=>?_) (λp hp=>absurd hp (by simp[B,blk]));obtain⟨v',o,e,_⟩:=I.cell y c' (cs.cl I.ok ec);intro z;rw[z,<-hDe]at e;exact absurd (zj e) (zR _)
   refine next _ b4 G4 σ2 (its++[w]) (acc++[d4]) J5 (x1.trans (y2.trans (y3.trans y4))) sb4 ((rS2'.mono y3).mono y4) (T.keep _ _ _ p3 λq hq' o e=>(hsb.2 q (λz=>hDf (z▸hq'))).trans e) p4 (by simpa using hpl) p2 ⟨vs++[vw],hv.append (.cons rw' .nil),(((rv.mono y2).mono y3).mono y4).append (Reps.cons q4 Reps.nil)⟩ hq4'
 have loop:∀s₃:jL,s₃={s with heap:=h₁,toks:=s.toks+([]:List (Str×jN)).length}->
   codeAny (x9 X.prog X.w) X.A (.compLoop (.ListComp elt [⟨tg,iter,ifs,0⟩] scope pos) 0 (.ref i0) (.ref Dd) B.env) (RR (.ref Dd) C) s₃:=by
  rintro s₃ rfl;have t1:tn 0 h₁:=T.keep _ _ _ t0 λq _ o e=>old q o e
  have fp0:∀q∈fp,a.H q=vZ:=λq hq=>(hf q hq).1
  have walk:∀b:Wd,Ext a b->∀G,Sim b G->∀i,(∀d,f i G=vQ (vQ d)->J.go i b.H/\∀x H',J.yld i b.H x H'->∃c:Wd,c.H=H'/\Ext b c/\Sim c G/\Rep c d x)/\(f i G=vQ vZ->J.stop i b.H):=rJ;refine ZJF (λm s'=>∃(i:Nat)(b:Wd)(G':DH)(σ':St)(its:List jN)(acc:List D),Inv B [] σ' b.H s'/\Ext a b/\Sim b G'/\RepS b (Bx nt caps S) σ'/\tn i s'.heap/\(∀q∈fp,b.H q=vZ)/\s'.heap.PlainList Dd its.toArray/\b.H Dd=vZ/\(∃vs,Vals vs its/\Reps b acc vs)/\
   out E0 b ((Fe f g c te (Bx nt caps S) m i G').bind λds G=>Ba (acc++ds) G) Q) ?_ n0 ⟨0,a,G,σ0,[],[],start _,Ext.refl a,sm,rS0,t1,fp0,hacc,aD,⟨[],.nil,rfl⟩,by simpa using h⟩
  rintro m s' ⟨i,b,G',σ',its,acc,IB,x,sb,rSb,ti,hfp,pl,hD,hac,hq⟩;obtain⟨nD,eD⟩:=pl;have I0:=pinD IB eD hD;have f0:=fpB (ps:=[(Dd,{cls:=.type "list",data:=.seq its.toArray nD})]) hfp (λp hp=>by
   have ep:p=(Dd,{cls:=.type "list",data:=.seq its.toArray nD}):=by simpa using hp
   subst ep;exact hDf)
  have stop:J.stop i b.H->out E0 b (Ba acc G') Q->xF (x9 X.prog X.w) X.A (pyNext (.ref i0)) (λr s₁=>match r with
    |none=>RR (.ref Dd) C (.ok .next) s₁
    | some v=>xF (x9 X.prog X.w) X.A (xk tg (.ref i0) v) (λ_ s₁=>xF (x9 X.prog X.w) X.A (assign tg B.env v) (λ_ s₂=>
     xF (x9 X.prog X.w) X.A (forIn ifs vJ λc r=>if r=vJ then do let ok<-isTrue c B.env (eval c B.env);pure (ForInStep.yield ok)else pure (ForInStep.yield r)) (λok s₃=>
      if ok=vJ then xF (x9 X.prog X.w) X.A (eval elt B.env) (λx s₄=>
       xF (x9 X.prog X.w) X.A (call (.builtin "list.append") [.ref Dd,x]) (λ_ s₅=>∃m',m'<m/\∃(i:Nat)(b:Wd)(G':DH)(σ':St)(its:List jN)(acc:List D),Inv B [] σ' b.H s₅/\Ext a b/\Sim b G'/\RepS b (Bx nt caps S) σ'/\tn i s₅.heap/\(∀q∈fp,b.H q=vZ)/\s₅.heap.PlainList Dd its.toArray/\b.H Dd=vZ/\(∃vs,Vals vs its/\Reps b acc vs)/\
        out E0 b ((Fe f g c te (Bx nt caps S) m' i G').bind λds G=>Ba (acc++ds) G) Q) (λ_ _=>False) s₄) (λ_ _=>False) s₃
      else∃m',m'<m/\∃(i:Nat)(b:Wd)(G':DH)(σ':St)(its:List jN)(acc:List D),Inv B [] σ' b.H s₃/\Ext a b/\Sim b G'/\RepS b (Bx nt caps S) σ'/\tn i s₃.heap/\(∀q∈fp,b.H q=vZ)/\s₃.heap.PlainList Dd its.toArray/\b.H Dd=vZ/\(∃vs,Vals vs its/\Reps b acc vs)/\
        out E0 b ((Fe f g c te (Bx nt caps S) m' i G').bind λds G=>Ba (acc++ds) G) Q) (λ_ _=>False) s₂) (λ_ _=>False) s₁) (λ_ _=>False) s₁) (λ_ _=>False) s':=by
   intro st hq';refine thn (T.done B rfl rfl rfl hc i _ s' σ' b.H _ I0 f0 ti st) ?_;rintro r s1 ⟨rfl,I2⟩;have pD:=(I2.pin (Dd,{cls:=.type "list",data:=.seq its.toArray nD}) (z9 _ (by simp))).1;exact fin s1 b σ' its acc G' (I2.Lj λp hp=>by cases hp) x sb ⟨nD,pD⟩ hD hac hq'
  cases m with
  |zero=>
   unfold Fe at hq;split at hq
   ·rename_i hf;exact stop ((walk b x G' sb i).2 hf) (by have hq':out E0 b (Ba (acc++[]) G') Q:=hq;rw[zU]at hq';exact hq')
   ·exact hq.elim
  | succ m=>
   unfold Fe at hq;split at hq
   ·rename_i d1 hf;obtain⟨go,yl⟩:=(walk b x G' sb i).1 d1 hf;refine thn (T.item B rfl rfl rfl hc i _ s' σ' b.H _ I0 f0 ti go) ?_;rintro r s1 ⟨u,rfl,hgo⟩;refine thn hgo ?_;rintro _ s2 ⟨v,H',I2,ru,y,t2,hfp2⟩;obtain⟨cc,rfl,xx,ss,rd⟩:=yl v H' y;have pD:=I2.pin (Dd,{cls:=.type "list",data:=.seq its.toArray nD}) (z9 _ (by simp));obtain⟨vs1,hv1,rv1⟩:=hac;refine turnX _ _ (λG3=>Fe f g c te (Bx nt caps S) m (i+1) G3) s2 cc G' σ' its acc u _ d1 (i+1) (I2.Lj λp hp=>by cases hp) (x.trans xx) ss (rSb.mono xx) t2 hfp2 ⟨nD,pD.1⟩ pD.2.1 ⟨vs1,hv1,rv1.mono xx⟩ ru rd (out.mono xx hq) ?_
    intro s3 b3 G3 σ3 its3 acc3 a1 a2 a3 a4 a5 a6 a7 a8 a9 a10;exact⟨m,qx _,i+1,b3,G3,σ3,its3,acc3,a1,a2,a3,a4,a5,a6,a7,a8,a9,a10⟩
   ·rename_i hf;exact stop ((walk b x G' sb i).2 hf) (by have hq':out E0 b (Ba (acc++[]) G') Q:=hq;rw[zU]at hq';exact hq')
   ·exact hq.elim
 exact codeAny_compStart_list (loop _ rfl) (T.self _ 0 _ _ _ (T.keep _ _ _ t0 λq _ o e=>old q o e) (loop _ rfl))
theorem Za{c:DB}:∀(n j:Nat)(G:DH),j+n=xs.length->Cp g c te S (xs.drop j) G=Fe (λj _=>vQ xs[j]?) g c te S n j G
 |0,j,G,h=>by
  rw[qN (by lia)]
  show _=(match vQ xs[j]? with |some vZ=>R.ok [] G|_=>.bad)
  rw[zS (by lia)]
  rfl
 |n+1,j,G,h=>by
  have hj:j<xs.length:=by lia
  rw[qZ hj]
  show(g xs[j] S G).bind _=(match vQ xs[j]? with |some (vQ x)=>_|some vZ=>R.ok [] G|none=>.bad)
  rw[zQ hj];dsimp only
  congr 1
  funext S1 G1
  congr 1
  funext k G2;rw[Za n (j+1) G2 (by lia)]
  congr 1
  congr 1
  funext d G3;rw[Za n (j+1) G3 (by lia)]
theorem ZEO{c:DB}:∀(n j:Nat)(G:DH),Gm i g c te S n j G=Fe (mtF i) g c te S n j G
 | 0,j,G=>by
  unfold Gm Fe mtF;cases G[i]? with
  |none=>rfl
  | some o=>
   cases o with
   |lst xs=>
    dsimp only;by_cases hj:j<xs.length
    ·rw[if_neg (by lia),zQ hj]
    ·rw[if_pos (by lia),zS (by lia)]
   |_=>rfl
 | n+1,j,G=>by
  have ih:(Gm i g c te S n (j+1))=Fe (mtF i) g c te S n (j+1):=funext λG=>ZEO n (j+1) G
  unfold Gm Fe;rw[ih];unfold mtF;cases G[i]? with
  |none=>rfl
  | some o=>
   cases o with
   |lst xs=>
    dsimp only
    cases xs[j]?<;>rfl
   |_=>rfl
theorem ZFv(hc:X.calm=vJ)(cs:CompSc X N scope nt caps)
  (hg:∀C s₀ H₀ ex,QG (blk X N scope C s₀ H₀ ex) E0 tg g) (gk:GK nt g) (hts:∀C s₀ H₀ ex,QTs (blk X N scope C s₀ H₀ ex) E0 ifs c) (he:∀C s₀ H₀ ex,QE (blk X N scope C s₀ H₀ ex) E0 elt te)
  {xU:List (jC×Obj)} {σ:St} {s:jL} {a:Wd} {S:DSt} {G:DH} {J:It} {d:ItD} {i0:jC} {fp:List jC} {tn:Nat->Heap->Prop} (I:Inv X xU σ a.H s) (hk:a.K=X.K) (sm:Sim a G) (rS:RepS a S σ)
  (T:Turn X.prog X.w X.K tg J fp i0 tn) (t0:tn 0 s.heap) (hf:∀b∈fp,FpOk X xU a.H b) (rJ:RepI a d J) {Q:VK}
  (h:out E0 a ((match d with
   |.pure xs=>Cp g c te (Bx nt caps S) xs G
   |.mt i=>match G[i]? with
    |some (.lst xs)=>Gm i g c te (Bx nt caps S) xs.length 0 G
    |_=>.bad
   |.fn n f=>Fe f g c te (Bx nt caps S) n 0 G).bind Ba) Q)
  {RR:jN->jC->Result->jL->Prop} {E':jN->jL->Prop}
  (hRR:∀(D C:jC)(s':jL)(b:Wd)(vs:List V),Inv X xU σ (upd b.H D (.lst vs)) s'->b.H D=vZ->s.heap.objs.size<=C->D≠C->(∃m,s'.heap.Ns C m)->b.H C=vZ->Q (.ref D) (upd b.H D (.lst vs))->RR (.ref D) C (.ok .next) s'):
  xF (x9 X.prog X.w) X.A (newList []) (λacc s₃=>xF (x9 X.prog X.w) X.A (newFunctionEnv scope X.env.globals (Er X.env scope.names []) [] X.env.qual vZ .none (vQ X.env)) (λcenv s₄=>
   codeAny (x9 X.prog X.w) X.A (.compStart (.ListComp elt [⟨tg,iter,ifs,0⟩] scope pos) 0 (.ref i0) acc {cenv with scope:=relabel scope X.env}) (RR acc cenv.locals) s₄) E' s₃) E' s:=by
 cases d with
 |pure xs=>
  have h':out E0 a ((Cp g c te (Bx nt caps S) (xs.drop 0) G).bind Ba) Q:=h;rw[Za xs.length 0 G (by lia)]at h';exact Zj hc cs hg gk hts he I hk sm rS T t0 hf (ZHG rJ) h' hRR
 |mt k=>
  dsimp only at h;split at h
  ·rename_i xs hx;rw[ZEO]at h;exact Zj hc cs hg gk hts he I hk sm rS T t0 hf (ZDw rJ) h hRR
  ·exact h.elim
 |fn n0 f=>exact Zj hc cs hg gk hts he I hk sm rS T t0 hf rJ h hRR
end
section
variable{X:Cx}{N:List Str}{scope:jI}{nt:Nat}{caps:List Nat}{tg elt iter:jE}{ifs:List jE}{pos:Pos}{it:DI}{g:DG}{c:DB}{te:DE}
theorem letGo{xU:List (jC×Obj)}{s2 s':jL}{h':Heap}{C:jC}{t':Nat}{σ2:St}{H2:Hp}(I2:Inv X xU σ2 H2 s2)(Ia:Inv X xU σ H s')(hC:s2.heap.objs.size<=C)(hn:H C=vZ)(hsb:Heap.SameBut C s'.heap h'):Inv X xU σ H {s' with heap:=h',toks:=t'}:=by
 have young:∀{b:jC}{o:Obj},s2.heap.get? b=vQ o->b≠C:=λe z=>by rw[z]at e;exact absurd (zW (zj e) hC) (zR _)
 refine Ia.turned (it:=C) (λb o hb e=>(hsb.2 b hb).trans e) hn (Nat.ne_of_gt (zW I2.lt hC)) (.inr (zC I2.sz hC)) (λx c' e=>?_) λp hp=>?_
 ·obtain⟨v,o,e',_⟩:=I2.cell x c' e;exact young e'
 ·exact young (I2.pin p hp).1
theorem Jx(hc:X.calm=vJ)(cs:CompSc X N scope nt caps)(hi:QI X E0 tg iter it)
  (hg:∀C s₀ H₀ ex,QG (blk X N scope C s₀ H₀ ex) E0 tg g) (gk:GK nt g) (hts:∀C s₀ H₀ ex,QTs (blk X N scope C s₀ H₀ ex) E0 ifs c) (he:∀C s₀ H₀ ex,QE (blk X N scope C s₀ H₀ ex) E0 elt te)
  (hs:∀x,foldedSetIterable iter X.env x=pure x:=by intro _;rfl):QE X E0 (.ListComp elt [⟨tg,iter,ifs,0⟩] scope pos) (Ek it nt caps g c te):=by
 intro xU s σ H Q I h;obtain⟨a,S,G,hk,rfl,sm,r,h⟩:=h;rw[eval_ListComp];refine wpAny_comprehension_free (use:=vZ) rfl hs (ZGP (cs.cells I.ok)) cs.kind cs.names (thn (hi xU s σ a.H _ I ⟨a,S,G,hk,rfl,sm,r,(ZD7 h).imp λ_ _ z=>z⟩) λxv s1 h1=>thn h1 λitv s2 h2=>?_);obtain⟨i0,fp,tn,J,H2,rfl,I2,T,t0,f2,b,d,G1,rfl,x,sb,rJ,_,h1⟩:=h2;refine ZFv hc cs hg gk hts he I2 (x.k.trans hk) sb (r.mono x) T t0 f2 rJ h1 (RR:=λacc C=>compPost (x9 X.prog X.w) X.A X.xe vZ (EP X xU σ Q) acc C) ?_
 intro D C s' b vs Ia hD hCle hDC ⟨m,hn⟩ hCn hq;refine⟨m,hn,λh' hsb=>⟨.ref D,_,letGo I2 Ia hCle ?_ hsb,rfl,hq⟩⟩;rw[Bq (Ne.symm hDC)];exact hCn
theorem N5(i:Nat){y:Str}{py spos:Pos}(hc:X.calm=vJ)(hN:X.N.Nodup)(cs:CompSc X N scope nt caps)(hi:QI X E0 tg iter it)
  (hg:∀C s₀ H₀ ex,QG (blk X N scope C s₀ H₀ ex) E0 tg g) (gk:GK nt g) (hts:∀C s₀ H₀ ex,QTs (blk X N scope C s₀ H₀ ex) E0 ifs c) (he:∀C s₀ H₀ ex,QE (blk X N scope C s₀ H₀ ex) E0 elt te)
  (hy:X.N[i]?=vQ y:=by rfl) (hx:Loc X.env.scope y:=by first|exact Or.inl rfl|exact Or.inr rfl) (hf:X.fn y=vJ∨X.env.scope.names.lookup y=vQ .local:=by first|exact .inl rfl|exact .inr rfl|assumption)
  (hsw:swapsWith (.ListComp elt [⟨tg,iter,ifs,0⟩] scope pos) (vQ (.Name y py)) spos.line X.env=pure vJ:=by rfl)
  (hs:∀x,foldedSetIterable iter X.env x=pure x:=by intro _;rfl):QS X E0 (.Assign [.Name y py] (.ListComp elt [⟨tg,iter,ifs,0⟩] scope pos) spos) (sAs (Ek it nt caps g c te) (gV i)):=by
 intro xU s σ H W I h;obtain⟨a,S,G,hk,rfl,sm,r,h⟩:=h;have h0:=Rp h;rw[exec_Assign_Name_used _ _ _ _ hsw];refine xH (wpAny_standAt (xH ?_))
 show xF _ X.A (do let _<-comprehension (.ListComp elt [⟨tg,iter,ifs,0⟩] scope pos) scope X.env _ (newList []) vX (eval iter X.env) (vQ (assign (.Name y py) X.env))) _ _ s
 refine xH (xM (wpAny_comprehension_free (use:=vQ (assign (.Name y py) X.env)) (Q:=λ_ s'=>SP X xU W .next s') rfl hs (ZGP (cs.cells I.ok)) cs.kind cs.names
  (thn (hi xU s σ a.H _ I ⟨a,S,G,hk,rfl,sm,r,(ZD7 h0).imp λ_ _ z=>z⟩) λxv s1 h1=>thn h1 λitv s2 h2=>?_)) (λ_ s' hq=>xP (xP hq)) λ_ _ e=>e)
 obtain⟨i0,fp,tn,J,H2,rfl,I2,T,t0,f2,b,d,G1,rfl,x,sb,rJ,_,h1⟩:=h2
 refine ZFv hc cs hg gk hts he I2 (x.k.trans hk) sb (r.mono x) T t0 f2 rJ h1 (RR:=λacc C=>compPost (x9 X.prog X.w) X.A X.xe (vQ (assign (.Name y py) X.env)) (λ_ s'=>SP X xU W .next s') acc C) ?_
 intro D C s' b' vs Ia hD hCle hDC ⟨m,hn⟩ hCn hq;show xF _ X.A (assign (.Name y py) X.env (.ref D)) _ _ _;refine wpAny_assign_Name (ZFK Ia hN hy hx (v:=.ref D) rfl (λs'' I'' hch=>?_) hf);obtain⟨a',hsb',ha'⟩:=hch;have hCa:C≠a':=by
  rintro rfl;rcases ha' with rfl|ha'
  ·exact absurd (zW I2.lt hCle) (zR _)
  ·obtain⟨v,o,e',_⟩:=I2.cell _ _ ha';exact absurd (zW (zj e') hCle) (zR _)
 refine⟨m,hn.sameBut hsb' hCa,λh' hsb=>⟨_,_,letGo I2 I'' hCle ?_ hsb,?_⟩⟩
 ·rw[Bq (Ne.symm hDC)];exact hCn
 ·obtain⟨b3,d3,G3,e3,x3,s3,q3,_,h3⟩:=hq;rw[<-e3];exact h3 b3 _ (Ext.refl b3) s3 ((r.mono x3).set i q3)
end
def Gs:D->DH->R D
 |.int i,G=>.ok (.int (-i)) G
 |_,_=>.bad
noncomputable def Ds:D->Bool
 |.non=>vJ
 |_=>vX
def Oz:D->D->DH->R D
 |d,.non,G=>.ok (.bl (Ds d)) G
 |_,_,_=>.bad
def Rc:D->D->DH->R D
 |d,.non,G=>.ok (.bl (!Ds d)) G
 |_,_,_=>.bad
noncomputable def Mr:D->Option V
 |.non=>vQ .non
 |.bl b=>vQ (.bl b)
 |.int i=>vQ (.int i)
 |.str x=>vQ (.str x)
 |_=>vZ
def Ku:List D->Option (List V)
 |[]=>vQ []
 |d::r=>match Mr d,Ku r with
  |some v,vQ vs=>vQ (v::vs)
  |_,_=>vZ
def inD(d e:D)(G:DH):Option Bool:=match e with
 |.str j=>match d with
  |.str i=>vQ (!(Builtin.Str.occurrences j i 0 j.length 1).isEmpty)
  |_=>vZ
 |e=>match Dr e G,Mr d with
  |some xs,vQ v=>(Ku xs).map λvs=>inV v vs
  |_,_=>vZ
def Hv(d e:D)(G:DH):R D:=match inD d e G with
 |some k=>.ok (.bl k) G
 |none=>.bad
def Ro(d e:D)(G:DH):R D:=match inD d e G with
 |some k=>.ok (.bl (!k)) G
 |none=>.bad
section
variable{X:Cx}{E:XK}{a b:jE}{ta tb:DE}{pos:Pos}
theorem Jz:UnR X (unaryOp .USub) (lR1 X.K E Gs):=λxU s σ H x v Q I rx h=>by
 obtain⟨a,G,d,hk,rfl,sm,rd,q⟩:=h;cases d with
 |int i=>exact ZOj xU s σ a.H x v Q I rx ⟨i,rd,q a _ (Ext.refl a) sm rfl⟩
 |_=>exact q.elim
theorem Kl{op:UnaryOp}{f:D->DH->R D}(ho:UnR X (unaryOp op) (lR1 X.K E f))(ha:QE X E a ta):QE X E (.UnaryOp op a pos) (dUn f ta):=(ZMn ho ha).mono λσ H Q h=>by obtain⟨a,S,G,hk,rfl,s,r,h⟩:=h;refine⟨a,S,G,hk,rfl,s,r,(Fp h).imp ?_⟩;rintro v _ ⟨b,d,G1,rfl,x,s1,q,-,h1⟩;exact⟨b,G1,d,x.k.trans hk,rfl,s1,q,h1⟩
theorem ZED{n:String}(hg:Gl X x)(hm:X.mg x=vZ)(hv:xQ x=vQ (.type n))(hn:x≠"__name__":=by decide)(hd:(x==("__debug__":Str))=vX:=by decide):QE X E (.Name x pos) (dC (.ty n)):=
 (ZGD (v:=.ty n) hg hm hv rfl hn hd).mono λσ H Q h=>Np h λ_ _=>rfl
theorem ZEl{a:Wd}{x:V}(rd:Rep a d x):decide (x=V.non)=Ds d:=by
 cases d with
 |non=>rw[show x=V.non from rd];rfl
 |bl _=>rw[show x=V.bl _ from rd];rfl
 |int _=>rw[show x=V.int _ from rd];rfl
 |str _=>rw[show x=V.str _ from rd];rfl
 |ty _=>rw[show x=V.ty _ from rd];rfl
 |tup _=>obtain⟨p,vs,rfl,_⟩:=rd;rfl
 |fl _=>obtain⟨p,vs,rfl,_⟩:=rd;rfl
 |ref _=>rw[rd.2];rfl
theorem V4:OpR X (xX .Is) (lR2 X.K E Oz):=G8 ZMI λa G d e x y Q hk s rd re q=>by
 cases e with
 |non=>exact⟨re,by rw[ZEl rd];cases d<;>exact q a _ (Ext.refl a) s rfl⟩
 |_=>cases d<;>exact q.elim
theorem ZCV:OpR X (xX .IsNot) (lR2 X.K E Rc):=G8 ZMl λa G d e x y Q hk s rd re q=>by
 cases e with
 |non=>exact⟨re,by rw[ZEl rd];cases d<;>exact q a _ (Ext.refl a) s rfl⟩
 |_=>cases d<;>exact q.elim
theorem ZEV{a:Wd}{x:V}(r:Rep a d x)(h:Mr d=vQ v):x=v/\Ec v=vJ:=by
 cases d<;>first
  |(cases h;exact⟨r,rfl⟩)
  |cases h
theorem ZHN{a:Wd}:∀{ds:List D}{xs vs:List V},Reps a ds xs->Ku ds=vQ vs->xs=vs/\vs.all Ec=vJ
 |[],xs,vs,r,h=>by cases h;exact⟨r,rfl⟩
 |d::ds,xs,vs,r,h=>by
  obtain⟨x,r',rfl,r1,r2⟩:=r;unfold Ku at h;split at h
  ·rename_i v ws h1 h2;cases h;obtain⟨e1,f1⟩:=ZEV r1 h1;obtain⟨e2,f2⟩:=ZHN r2 h2;subst e1;subst e2;exact⟨rfl,by rw[jX,f1,f2];rfl⟩
  ·cases h
theorem ZER{a:Wd}{e:D}{x y:V}{k:Bool}(s:Sim a G)(rd:Rep a d x)(re:Rep a e y)(h:inD d e G=vQ k):
  (∃i j,x=.str i/\y=.str j/\k= !(Builtin.Str.occurrences j i 0 j.length 1).isEmpty)∨(∃p xs,y=.ref p/\(SqL a.K a.H p xs∨SqT a.K a.H p xs)/\Ec x=vJ/\xs.all Ec=vJ/\k=inV x xs):=by
 have seq:(match Dr e G,Mr d with |some xs,vQ v=>(Ku xs).map λvs=>inV v vs|_,_=>vZ)=vQ k->(∃p xs,y=.ref p/\(SqL a.K a.H p xs∨SqT a.K a.H p xs)/\Ec x=vJ/\xs.all Ec=vJ/\k=inV x xs):=λh=>by
  split at h
  ·rename_i xs v h1 h2;obtain⟨p,ws,e1,q,r1⟩:=Kv s re h1;obtain⟨e2,f2⟩:=ZEV rd h2;subst e2;rw[z0]at h;obtain⟨us,h3,h4⟩:=h;obtain⟨e3,f3⟩:=ZHN r1 h3;subst e3;exact⟨p,ws,e1,q,f2,f3,h4.symm⟩
  ·cases h
 cases e with
 |str j=>
  cases d with
  |str i=>exact .inl ⟨i,j,rd,re,(Option.some.inj h).symm⟩
  |_=>cases h
 |tup xs=>exact .inr (seq h)
 |fl xs=>exact .inr (seq h)
 |ref i=>exact .inr (seq h)
 |_=>exact .inr (seq h)
theorem W8:OpR X (xX .In) (lR2 X.K E Hv):=G8 (ZNt.or ZJk) λa G d e x y Q hk s rd re q=>by
 unfold Hv at q;split at q
 ·rename_i k h;have z:=q a _ (Ext.refl a) s rfl;rcases ZER s rd re h with⟨i,j,e1,e2,rfl⟩|⟨p,xs,e1,hq,f1,f2,rfl⟩
  ·exact .inl ⟨i,j,e1,e2,z⟩
  ·exact .inr ⟨p,xs,e1,by rw[<-hk];exact hq,f1,f2,z⟩
 ·exact q.elim
theorem ZKv:OpR X (xX .NotIn) (lR2 X.K E Ro):=G8 (ZON.or ZKd) λa G d e x y Q hk s rd re q=>by
 unfold Ro at q;split at q
 ·rename_i k h;have z:=q a _ (Ext.refl a) s rfl;rcases ZER s rd re h with⟨i,j,e1,e2,rfl⟩|⟨p,xs,e1,hq,f1,f2,rfl⟩
  ·exact .inl ⟨i,j,e1,e2,z⟩
  ·exact .inr ⟨p,xs,e1,by rw[<-hk];exact hq,f1,f2,z⟩
 ·exact q.elim
end
theorem ZBJ:xQ "isinstance"=vQ (.builtin "isinstance"):=by decide +kernel
theorem ZN1:xQ "all"=vQ (.builtin "all"):=by decide +kernel
theorem ZCj:xQ "sum"=vQ (.builtin "sum"):=by decide +kernel
theorem R4:xQ "max"=vQ (.builtin "max"):=by decide +kernel
theorem ZKH:xQ "min"=vQ (.builtin "min"):=by decide +kernel
theorem Eo:xQ "len"=vQ (.builtin "len"):=by decide +kernel
theorem ZBS:xQ "int"=vQ (.type "int"):=by decide +kernel
theorem ZHj:xQ "bool"=vQ (.type "bool"):=by decide +kernel
theorem Xu:xQ "tuple"=vQ (.type "tuple"):=by decide +kernel
noncomputable def Gv:jG->Bool | .local=>vJ|_=>vX
noncomputable def Kq:jG->Bool | .cell=>vJ|_=>vX
noncomputable def Jj:jG->Bool | .free=>vJ|_=>vX
noncomputable def isK(p:jG->Bool):Option jG->Bool|some k=>p k|none=>vX
theorem ZHK{k:jG}(h:Gv k=vJ):k=.local:=by cases k<;>first|rfl|cases h
theorem ZOb{k:jG}(h:Kq k=vJ):k=.cell:=by cases k<;>first|rfl|cases h
theorem ZGw{k:jG}(h:Jj k=vJ):k=.free:=by cases k<;>first|rfl|cases h
theorem Qg{p:jG->Bool}{k:jG}(hp:∀k',p k'=vJ->k'=k){o:Option jG}(h:isK p o=vJ):o=vQ k:=by
 cases o with
 |none=>cases h
 |some k'=>rw[hp _ h]
def ZG9(dn:List (Str×jG))(N0 N:List Str)(names:List (Str×jG))(nt:Nat)(caps:List Nat):Bool:=
 names.all (λy=>(!Gv y.2||isK Gv (names.lookup y.1)) && !Kq y.2&&(!Jj y.2||isK Kq (dn.lookup y.1)||isK Jj (dn.lookup y.1)))&&decide N.Nodup&&decide (N.length=nt+caps.length) &&
 (zy caps.length).all λk=>match caps[k]? with
  |some j=>match N0[j]? with
   |some x=>decide (N[nt+k]?=vQ x)&&isK Jj (names.lookup x)
   |none=>vX
  |none=>vJ
theorem G9{X:Cx}{N0 N:List Str}{nt:Nat}{caps:List Nat}{dn:List (Str×jG)}(hk:scope.kind=.function:=by rfl)(hdn:∀x,X.env.kindOf x=dn.lookup x:=by intro _;rfl)(hN:X.N=N0:=by rfl)
  (h:ZG9 dn N0 N scope.names nt caps=vJ:=by decide +kernel):CompSc X N scope nt caps:=by
 unfold ZG9 at h;rw[zZ,zZ,zZ]at h;obtain⟨⟨⟨h1,h2⟩,h3⟩,h4⟩:=h;rw[zH]at h1 h4;have key:=λ(y:Str×jG)(hy:y∈scope.names)=>(by have:=h1 y hy;rw[zZ,zZ]at this;exact this:((!Gv y.2||isK Gv (scope.names.lookup y.1))=vJ/\(!Kq y.2)=vJ)/\(!Jj y.2||isK Kq (dn.lookup y.1)||isK Jj (dn.lookup y.1))=vJ)
 refine⟨hk,λy hy hl=>?_,λy hy hl=>?_,λy hy hl=>?_,of_decide_eq_true h2,of_decide_eq_true h3,λk j hj=>?_⟩
 ·have:=(key y hy).1.1;rw[hl]at this;exact Qg (p:=Gv) (λ_ h=>ZHK h) (by have t:(vX||isK Gv (scope.names.lookup y.1))=vJ:=this;simpa using t)
 ·have:=(key y hy).1.2;rw[hl]at this;exact absurd this (by decide)
 ·have:=(key y hy).2;rw[hl,Bool.or_eq_true]at this;rw[hdn];rcases this with h|h
  ·exact .inl (Qg (p:=Kq) (λ_ h=>ZOb h) (by have t:(vX||isK Kq (dn.lookup y.1))=vJ:=h;simpa using t))
  ·exact .inr (Qg (p:=Jj) (λ_ h=>ZGw h) h)
 ·have hk':k<caps.length:=(zJ.mp hj).1;have:=h4 k (qD.mpr hk');rw[hj]at this;dsimp only at this;cases e:N0[j]? with
  |none=>rw[e]at this;cases this
  |some x=>
   rw[e]at this;dsimp only at this;rw[zZ]at this;exact⟨x,by rw[hN];exact e,of_decide_eq_true this.1,Qg (p:=Jj) (λ_ h=>ZGw h) this.2⟩
section
section
variable{X:Cx}{xU:List (jC×Obj)}{σ:St}{H:Hp}{s:jL}
theorem ZH7{xs:List V}(I:Inv X xU σ H s)(h:H p=vQ (.lst xs)):∃o,Inv X xU σ (upd H p (.frz o (.lst xs))) s:=by
 obtain⟨hl,its,n,r,e⟩:=I.hok p _ h;have nt:∀b(u:HO),H b=vQ u->u≠ .lst xs->b≠p:=λb u q d z=>by subst z;rw[h]at q;exact d (Option.some.inj q).symm
 refine⟨_,I.un (t':=s.toks) (H':=upd H p (.frz {cls:=.type "list",data:=.seq its.toArray n} (.lst xs))) ⟨λb o q _ _ _=>q,λb o q _ _ _=>⟨o.slots,q⟩,λb o q z _=>?_,λb o q _=>⟨o,q⟩,λb ys q=>?_,λb o u q=>?_,λb ps q=>⟨#[],?_⟩⟩ ?_⟩
 ·rw[Bq (λz'=>by subst z';rw[h]at z;cases z)];exact z
 ·rw[Bq (nt b _ q (by intro z;cases z))];exact q
 ·rw[Bq (nt b _ q (by intro z;cases z))];exact q
 ·rw[Bq (nt b _ q (by intro z;cases z)),Array.append_empty];exact q
 ·intro b u q;by_cases hb:b=p
  ·subst hb;rw[Io]at q;cases q;exact⟨e,hl,its,n,r,e⟩
  ·rw[Bq hb]at q;exact(I.hok b u q).stay (λc v _ z=>z) (λc z=>by rw[Bq (nt c _ z (by intro z;cases z))];exact z) λc ys z=>by rw[Bq (nt c _ z (by intro z;cases z))];exact z
def Fz(P:jC->Prop)(H H':Hp):Prop:=∀p,(H' p=H p/\(∀vs,H p=vQ (.lst vs)->¬P p))∨∃o vs,P p/\H p=vQ (.lst vs)/\H' p=vQ (.frz o (.lst vs))
theorem ZFb(I:Inv X xU σ H s)(m:Nat->jC)(n:Nat):∀k:Nat,∃H',Inv X xU σ H' s/\Fz (λp=>∃i,n<=i/\i<n+k/\p=m i) H H'
 |0=>⟨H,I,λp=>.inl ⟨rfl,λ_ _ ⟨i,h1,h2,_⟩=>by lia⟩⟩
 | k + 1=>by
  obtain⟨H',I',F⟩:=ZFb I m n k;have keep:(∀vs,H' (m (n+k))≠vQ (.lst vs))->Fz (λp=>∃i,n<=i/\i<n+(k+1)/\p=m i) H H':=λno p=>by
   rcases F p with⟨e,z⟩|⟨o,vs,⟨i,h1,h2,h3⟩,e1,e2⟩
   ·refine .inl ⟨e,λvs e1 ⟨i,h1,h2,h3⟩=>?_⟩;by_cases hi:i<n+k
    ·exact z vs e1 ⟨i,h1,hi,h3⟩
    ·have:i=n+k:=by lia
     subst this;subst h3;exact no vs (e.trans e1)
   ·exact .inr ⟨o,vs,⟨i,h1,by lia,h3⟩,e1,e2⟩
  cases hH:H' (m (n+k))with
  |none=>exact⟨H',I',keep λvs z=>by rw[hH]at z;cases z⟩
  | some u=>
   cases u with
   | lst vs=>
    obtain⟨o,I2⟩:=ZH7 I' hH;refine⟨_,I2,λp=>?_⟩;by_cases hp:p=m (n+k)
    ·subst hp;rcases F (m (n+k))with⟨e,z⟩|⟨o',vs',_,e1,e2⟩
     ·exact .inr ⟨o,vs,⟨n+k,by lia,by lia,rfl⟩,e.symm.trans hH,Io⟩
     ·rw[hH]at e2;cases e2
    ·rcases F p with⟨e,z⟩|⟨o',vs',⟨i,h1,h2,h3⟩,e1,e2⟩
     ·refine .inl ⟨by rw[Bq hp];exact e,λvs' e1 ⟨i,h1,h2,h3⟩=>?_⟩;by_cases hi:i<n+k
      ·exact z vs' e1 ⟨i,h1,hi,h3⟩
      ·have:i=n+k:=by lia
       subst this;exact hp h3
     ·exact .inr ⟨o',vs',⟨i,h1,by lia,h3⟩,e1,by rw[Bq hp];exact e2⟩
   |_=>exact⟨H',I',keep λvs z=>by rw[hH]at z;cases z⟩
end
noncomputable def Lb(f:D->Option D):List D->Option (List D)
 |[]=>vQ []
 |d::r=>match f d,Lb f r with
  |some d',vQ r'=>vQ (d'::r')
  |_,_=>vZ
def Ib(G:DH)(n:Nat):Nat->D->Option D
 |0,_=>vZ
 | k+1,d=>if bel n d=vJ then vQ d else match d with
  |.ref i=>match G[i]? with
   |some (.lst xs)=>(Lb (Ib G n k) xs).map .fl
   |_=>vZ
  |.tup xs=>(Lb (Ib G n k) xs).map .tup
  |.fl xs=>(Lb (Ib G n k) xs).map .fl
  |_=>vZ
open Classical in
def freeze(G:DH)(r:R D):R D:=match r with
 | .ok d G'=>if G'.take G.length=G then(match Ib G' G.length 9 d with
   |some d'=>.ok d' G
   |none=>.ok d G')else .ok d G'
 |r=>r
def Aw(t:DE):DE:=λS G=>freeze G (t S G)
structure CutF (b c:Wd) (n:Nat):Prop where
 k:c.K=b.K
 n:c.n=n
 m:c.m=b.m
 tup:∀p xs,b.H p=vQ (.tup xs)->c.H p=vQ (.tup xs)
 frz:∀p o u,b.H p=vQ (.frz o u)->c.H p=vQ (.frz o u)
theorem CutF.sqT{n:Nat}(x:CutF b c n){xs:List V}(h:SqT b.K b.H p xs):SqT c.K c.H p xs:=by
 rcases h with(h|⟨o,h⟩)|h
 ·exact .inl (.inl (x.tup _ _ h))
 ·exact .inl (.inr ⟨o,x.frz _ _ _ h⟩)
 ·exact .inr (by rw[x.k];exact h)
theorem CutF.fzL{n:Nat}(x:CutF b c n){xs:List V}(h:FzL b.K b.H p xs):FzL c.K c.H p xs:=by
 rcases h with⟨o,h⟩|h
 ·exact .inl ⟨o,x.frz _ _ _ h⟩
 ·exact .inr (by rw[x.k];exact h)
mutual
theorem Rep.Iv{n:Nat}(x:CutF b c n):∀{d:D}{v:V},Rep b d v->bel n d=vJ->Rep c d v
 |.non,_,h,_=>h
 |.bl _,_,h,_=>h
 |.int _,_,h,_=>h
 |.str _,_,h,_=>h
 |.ty _,_,h,_=>h
 |.tup ds,v,h,q=>by obtain⟨p,vs,e,t,r⟩:=h;simp only[_D.bel]at q;exact⟨p,vs,e,x.sqT t,Reps.Iv x r q⟩
 |.fl ds,v,h,q=>by obtain⟨p,vs,e,t,r⟩:=h;simp only[_D.bel]at q;exact⟨p,vs,e,x.fzL t,Reps.Iv x r q⟩
 |.ref i,v,h,q=>by obtain⟨l,e⟩:=h;simp only[_D.bel]at q;have q':=of_decide_eq_true q;exact⟨by rw[x.n];exact q',by rw[x.m];exact e⟩
theorem Reps.Iv{n:Nat}(x:CutF b c n):∀{ds:List D}{vs:List V},Reps b ds vs->bels n ds=vJ->Reps c ds vs
 |[],_,h,_=>h
 |d::ds,vs,h,q=>by obtain⟨v,r,e,h1,h2⟩:=h;simp only[_D.bels,zZ]at q;exact⟨v,r,e,Rep.Iv x h1 q.1,Reps.Iv x h2 q.2⟩
end
theorem Wz{f:D->Option D}(hf:∀d d' v,f d=vQ d'->Rep b d v->Rep c d' v):∀{ds ds':List D}{vs:List V},Lb f ds=vQ ds'->Reps b ds vs->Reps c ds' vs
 |[],ds',vs,e,h=>by cases e;exact h
 |d::ds,ds',vs,e,h=>by
  obtain⟨v,r,rfl,h1,h2⟩:=h;unfold Lb at e;split at e
  ·rename_i d' r' e1 e2;cases e;exact⟨v,r,rfl,hf _ _ _ e1 h1,Wz hf e2 h2⟩
  ·cases e
theorem ZD2{n:Nat}(s:Sim b G')(x:CutF b c n)(hz:∀i,n<=i->i<b.n->∀vs,b.H (b.m i)=vQ (.lst vs)->∃o,c.H (b.m i)=vQ (.frz o (.lst vs))):∀(k:Nat)(d d':D)(v:V),Ib G' n k d=vQ d'->Rep b d v->Rep c d' v
 |0,d,d',v,e,h=>by cases e
 | k + 1,d,d',v,e,h=>by
  have ih:=ZD2 s x hz k;unfold Ib at e;split at e
  ·rename_i hb;cases e;exact h.Iv x hb
  ·rename_i hb;cases d with
   | ref i=>
    dsimp only at e;split at e
    ·rename_i xs hx;rw[z0]at e;obtain⟨ys,e1,rfl⟩:=e;obtain⟨vs,e2,r2⟩:=s.obj i _ hx;obtain⟨il,rfl⟩:=h;have hi:n<=i:=by simp only[_D.bel,decide_eq_true_eq]at hb;lia
     obtain⟨o,e3⟩:=hz i hi il vs e2;exact⟨_,vs,rfl,.inl ⟨o,e3⟩,Wz ih e1 r2⟩
    ·cases e
   |tup xs=>
    dsimp only at e;rw[z0]at e;obtain⟨ys,e1,rfl⟩:=e;obtain⟨p,vs,rfl,t,r⟩:=h;exact⟨p,vs,rfl,x.sqT t,Wz ih e1 r⟩
   |fl xs=>
    dsimp only at e;rw[z0]at e;obtain⟨ys,e1,rfl⟩:=e;obtain⟨p,vs,rfl,t,r⟩:=h;exact⟨p,vs,rfl,x.fzL t,Wz ih e1 r⟩
   |_=>cases e
theorem ZGv{xU:List (jC×Obj)}{sh:jL}(s:Sim a G)(hG:G'.take G.length=G)(x:Ext a b)(sb:Sim b G')(I:Inv X xU σ b.H sh):
  ∃c:Wd,Inv X xU σ c.H sh/\Ext a c/\Sim c G/\CutF b c a.n/\∀(k:Nat)(d d':D)(v:V),Ib G' G.length k d=vQ d'->Rep b d v->Rep c d' v:=by
 have hlen:∀i o,G[i]?=vQ o->G'[i]?=vQ o:=λi o e=>by have hi:i<G.length:=(zJ.mp e).1;rw[<-hG,qK hi]at e;exact e
 obtain⟨H',I',F⟩:=ZFb I b.m a.n (b.n-a.n);have hbn:a.n+(b.n-a.n)=b.n:=by have:=x.n;lia
 rw[hbn]at F;have ct:∀p(u:HO),(∀vs,u≠ .lst vs)->b.H p=vQ u->H' p=vQ u:=λp u nu e=>by
  rcases F p with⟨e1,_⟩|⟨o,vs,_,e1,_⟩
  ·exact e1.trans e
  ·rw[e]at e1;exact absurd (Option.some.inj e1) (nu vs)
 have tabs:∀p,TabOk b.H p->TabOk H' p:=λp t=>t.mono (λp ps e=>ct p _ (by intro _ z;cases z) e) λp o u e=>ct p _ (by intro _ z;cases z) e
 have cc:CutF b ⟨b.K,a.n,b.m,H'⟩ a.n:=⟨rfl,rfl,rfl,λp xs e=>ct p _ (by intro _ z;cases z) e,λp o u e=>ct p _ (by intro _ z;cases z) e⟩;have old:∀i,i<a.n->H' (b.m i)=b.H (b.m i):=λi hi=>by
  rcases F (b.m i)with⟨e1,_⟩|⟨o,vs,⟨j,h1,h2,h3⟩,e1,e2⟩
  ·exact e1
  ·have:=sb.inj i j (zW hi x.n) h2 h3;lia
 refine⟨⟨b.K,a.n,b.m,H'⟩,I',⟨x.k,zx _,x.m,λp xs e=>cc.tup p xs (x.tup p xs e),λp o u e=>cc.frz p o u (x.frz p o u e),λp t=>tabs p (x.tab p t)⟩,⟨s.len,λi j hi hj=>sb.inj i j (zW hi x.n) (zW hj x.n),λi o e=>?_,λi hi=>?_⟩,cc,λk d d' v hd rb=>?_⟩
 ·show ORep ⟨b.K,a.n,b.m,H'⟩ o (H' (b.m i));rw[old i (s.lt e)];have q:=sb.obj i o (hlen i o e);have lb:=(s.obj i o e).Nb;cases o with
  |lst ds=>obtain⟨vs,e1,r1⟩:=q;exact⟨vs,e1,r1.Iv cc lb⟩
  |dct kvs=>obtain⟨us,e1,k1,r1⟩:=q;exact⟨us,e1,k1,r1.Iv cc lb⟩
  |ins c fs=>obtain⟨C,dx,us,n1,e1,k1,r1⟩:=q;exact⟨C,dx,us,n1,e1,k1,r1.Iv cc lb⟩
  |tab C m=>obtain⟨c1,P1,e1,t1⟩:=q;exact⟨c1,P1,e1,tabs _ t1⟩
  |exc c fs=>
   obtain⟨C,oe,u,vs,n1,e1,k1,k2,z⟩:=q;refine⟨C,oe,u,vs,n1,e1,k1,k2,?_⟩;rcases z with z|⟨dx,o,us,e2,f2,k3,r1⟩
   ·exact .inl z
   ·exact .inr ⟨dx,o,us,e2,cc.frz _ _ _ f2,k3,r1.Iv cc lb⟩
  |gone=>trivial
 ·show H' (b.m i)≠vZ;rw[old i hi];exact sb.tr i (zW hi x.n)
 ·rw[s.len]at hd;refine ZD2 sb cc (λi h1 h2 vs e=>?_) k d d' v hd rb;rcases F (b.m i)with⟨e1,z⟩|⟨o,vs',_,e1,e2⟩
  ·exact absurd ⟨i,h1,h2,rfl⟩ (z vs e)
  ·rw[e]at e1;cases e1;exact⟨o,e2⟩
theorem ZNL(s:Sim a G)(h:out E a (freeze G r) Q):
  out E a r λv H=>∀(xU:List (jC×Obj))(σ:St)(sh:jL),Inv X xU σ H sh->∃H',Inv X xU σ H' sh/\Q v H':=by
 cases r with
 |err e G'=>exact h
 |bad=>exact h
 | ok d G'=>
  intro b v x sb rb xU σ sh I;unfold freeze at h;dsimp only at h;split at h
  ·rename_i hG;split at h
   ·rename_i d' hd;obtain⟨c,Ic,xc,sc,cc,hr⟩:=ZGv s hG x sb I;exact⟨c.H,Ic,h c v xc sc (hr _ _ _ _ hd rb)⟩
   ·exact⟨_,I,h b v x sb rb⟩
  ·exact⟨_,I,h b v x sb rb⟩
theorem Ax(ha:QE X E e t):QE X E e (Aw t):=λxU s σ H Q I h=>by
 obtain⟨a,S,G,hk,rfl,sm,r,h⟩:=h;refine thn (ha xU s σ a.H _ I ⟨a,S,G,hk,rfl,sm,r,ZNL (X:=X) sm h⟩) λu s' ⟨v,H',I',rv,q⟩=>?_
 obtain⟨H2,I2,q2⟩:=q xU σ s' I';exact⟨v,H2,I2,rv,q2⟩
theorem Rn {st:jM} (ha:QS X E st (sAs t (gV i))):QS X E st (sAs (Aw t) (gV i)):=λxU s σ H W I h=>by
 obtain ⟨a,S,G,hk,rfl,sm,r,h⟩:=h;have h2:Ck E a (sAs t (gV i) S G) {W with nx:=λσ H=>∀(xU:List (jC×Obj))(sh:jL),Inv X xU σ H sh->∃H',Inv X xU σ H' sh/\W.nx σ H'}:=by
  unfold sAs Aw at h;unfold sAs;cases ht:t S G with
  |err e G'=>rw[ht]at h;exact h
  |bad=>rw[ht]at h;exact h
  | ok d G'=>
   rw[ht]at h;intro b σ' x sb rb xU sh I;unfold freeze at h;dsimp only at h;split at h
   ·rename_i hG;split at h
    ·rename_i d' hd;obtain⟨c,Ic,xc,sc,cc,hr⟩:=ZGv sm hG x sb I;refine⟨c.H,Ic,h c σ' xc sc ⟨?_,λj e he=>?_⟩⟩
     ·rw[qU,<-rb.len,qU]
     ·rw[qk]at he;by_cases hij:i=j
      ·subst hij;rw[if_pos rfl]at he;by_cases hl:i<S.length
       ·rw[if_pos hl]at he;have e1:d'=e:=by simpa using he
        subst e1;obtain⟨v,e2,rv⟩:=rb.get i d (by rw[qk,if_pos rfl,if_pos hl]);exact⟨v,e2,hr _ _ _ _ hd rv⟩
       ·rw[if_neg hl]at he;cases he
      ·rw[if_neg hij]at he;obtain⟨v,e2,rv⟩:=rb.get j e (by rw[qk,if_neg hij];exact he);obtain⟨v',_,rv'⟩:=r.get j e he;exact⟨v,e2,rv.Iv cc rv'.bel⟩
    ·exact⟨_,I,h b σ' x sb rb⟩
   ·exact⟨_,I,h b σ' x sb rb⟩
 refine thn (ha xU s σ a.H _ I ⟨a,S,G,hk,rfl,sm,r,h2⟩) λf s' hf=>?_
 cases f with
 |next=>
  obtain⟨σ',H',I',q⟩:=hf;obtain⟨H2,I2,q2⟩:=q xU s' I';exact⟨σ',H2,I2,q2⟩
 |brk=>exact hf
 |cont=>exact hf
 |ret u=>exact hf
end
section
variable{S:DSt}{G:DH}
@[simp]theorem ev_V:dV i S G=(match S[i]? with |some (vQ d)=>.ok d G|_=>.bad):=id rfl
@[simp]theorem ev_C:dC d S G=.ok d G:=id rfl
@[simp]theorem ev_Op{f:D->D->DH->R D}{a b:DE}:dOp f a b S G=(a S G).bind λx G1=>(b S G1).bind λy G2=>f x y G2:=id rfl
@[simp]theorem ev_Un{f:D->DH->R D}{a:DE}:dUn f a S G=(a S G).bind f:=id rfl
@[simp]theorem ev_Nil:Ag S G=.ok [] G:=id rfl
@[simp]theorem ZPv{a:DE}{r:DA}:Ad a r S G=(a S G).bind λx G1=>(r S G1).bind λxs G2=>.ok (x::xs) G2:=id rfl
@[simp]theorem ev_Fn{f:List D->DH->R D}{t:DA}:dFn f t S G=(t S G).bind f:=id rfl
@[simp]theorem ZPT:Jc t S G=tidy G (t S G):=id rfl
@[simp]theorem ev_Frz:Aw t S G=freeze G (t S G):=id rfl
@[simp]theorem ev_asB{k:Bool}:asB (.bl k) G=.ok k G:=id rfl
@[simp]theorem ev_Tst:Ar t S G=(t S G).bind asB:=id rfl
@[simp]theorem ev_And{t u:DB}:Dm t u S G=(t S G).bind λk G1=>if k=vJ then u S G1 else .ok vX G1:=id rfl
@[simp]theorem ev_Or{t u:DB}:dOr t u S G=(t S G).bind λk G1=>if k=vJ then .ok vJ G1 else u S G1:=id rfl
@[simp]theorem ev_Not{t:DB}:El t S G=(t S G).bind λk G1=>.ok (!k) G1:=id rfl
@[simp]theorem ZPI{u:DE}:M6 t u S G=(t S G).bind λx G1=>(asB x G1).bind λk G2=>if k=vJ then u S G2 else .ok (.bl vX) G2:=id rfl
@[simp]theorem ev_OrV{u:DE}:W2 t u S G=(t S G).bind λx G1=>(asB x G1).bind λk G2=>if k=vJ then .ok (.bl vJ) G2 else u S G2:=id rfl
@[simp]theorem ZPX:ZDC t S G=(t S G).bind λx G1=>(asB x G1).bind λk G2=>.ok (.bl (!k)) G2:=id rfl
@[simp]theorem ZPQ{f g:D->D->DH->R D}{a b c:DE}:Jr f g a b c S G=(a S G).bind λx G1=>(b S G1).bind λy G2=>(f x y G2).bind λz G3=>(asB z G3).bind λk G4=>
 if k=vJ then(c S G4).bind λw G5=>g y w G5 else .ok (.bl vX) G4:=id rfl
@[simp]theorem ev_sNx:sNx S G=.nx S G:=id rfl
noncomputable def SR.then(r:SR)(u:DS):SR:=match r with
 |.nx S1 G1=>u S1 G1
 |r=>r
@[simp]theorem ZPs{t:DS}:Ak t u S G=(t S G).then u:=id rfl
@[simp]theorem ZPF:(SR.nx S G).then u=u S G:=id rfl
@[simp]theorem ZPj:(SR.rt d G).then u=.rt d G:=id rfl
@[simp]theorem ZPJ{x:Xn}:(SR.err x G).then u=.err x G:=id rfl
@[simp]theorem ev_sEx:sEx t S G=(t S G).toS λ_ G1=>.nx S G1:=id rfl
@[simp]theorem ev_sRt:sRt t S G=(t S G).toS λd G1=>.rt d G1:=id rfl
@[simp]theorem ev_sIf{c:DB}{t:DS}:sIf c t u S G=(c S G).toS λk G1=>if k=vJ then t S G1 else u S G1:=id rfl
@[simp]theorem ev_sAs:sAs t g S G=(t S G).toS λd G1=>(g d S G1).toS λS2 G2=>.nx S2 G2:=id rfl
@[simp]theorem ZPi{it:DI}{b:DS}:Gj it g b S G=(it S G).toS λJ G1=>(match J with
 |.pure xs=>Dp g b xs S G1
 |.mt i=>match G1[i]? with
  |some (.lst xs)=>forM i g b xs.length 0 S G1
  |_=>.bad
 |.fn n f=>Gx f g b n 0 S G1):=id rfl
@[simp]theorem ZPl:Ez t S G=(t S G).bind Hk:=id rfl
@[simp]theorem ZPz{f:List D->DH->R ItD}{t:DA}:Gk f t S G=(t S G).bind f:=id rfl
@[simp]theorem Hd:gV i d S G=.ok (S.set i (vQ d)) G:=id rfl
@[simp]theorem ZPd:Ej [] S G=.ok S G:=id rfl
@[simp]theorem ZPp{t:DG}{u:DGs}{r:List D}:Bu t u (d::r) S G=(t d S G).bind λS1 G1=>u r S1 G1:=id rfl
@[simp]theorem ZPm{n:Nat}{t:DGs}:Eb n t (.tup ds) S G=if ds.length=n then t ds S G else .bad:=id rfl
@[simp]theorem ev_gIx{o i:DE}{v:D}:gIx o i v S G=(o S G).bind λo G1=>(i S G1).bind λi G2=>(T9 o i v G2).bind λ_ G3=>.ok S G3:=id rfl
@[simp]theorem ev_MtL{f:D->List D->DH->R D}{o:DE}{t:DA}:Kw f o t S G=(o S G).bind λx G1=>if isL x G1=vJ then(t S G1).bind λxs G2=>f x xs G2 else .bad:=id rfl
@[simp]theorem ZPN{it:DI}{caps:List Nat}{c:DB}:Ek it nt caps g c te S G=(it S G).bind λJ G1=>(match J with
 |.pure xs=>Cp g c te (Bx nt caps S) xs G1
 |.mt i=>match G1[i]? with
  |some (.lst xs)=>Gm i g c te (Bx nt caps S) xs.length 0 G1
  |_=>.bad
 |.fn n f=>Fe f g c te (Bx nt caps S) n 0 G1).bind Ba:=id rfl
@[simp]theorem ZOy:De S G=.ok vJ G:=id rfl
@[simp]theorem Jf{k:DSt->DH->SR}:aft (.nx S G) k=k S G:=id rfl
@[simp]theorem aft_rt{k:DSt->DH->SR}:aft (.rt d G) k=.rt d G:=id rfl
@[simp]theorem ZK1{k:DSt->DH->SR}{x:Xn}:aft (.err x G) k=.err x G:=id rfl
theorem Ik{b:DS}:Dp g b [] S G=.nx S G:=id rfl
theorem H9{b:DS}{x:D}:Dp g b (x::xs) S G=(g x S G).toS λS1 G1=>aft (b S1 G1) (Dp g b xs):=id rfl
theorem Ut{c:DB}:Cp g c te S [] G=.ok [] G:=id rfl
theorem Jg{c:DB}{x:D}:Cp g c te S (x::xs) G=(g x S G).bind λS1 G1=>(c S1 G1).bind λk G2=>
   if k=vJ then(te S1 G2).bind λd G3=>(Cp g c te S xs G3).bind λds G4=>.ok (d::ds) G4 else Cp g c te S xs G2:=id rfl
noncomputable def SR.ret(r:SR):R D:=match r with
 |.nx _ G'=>.ok .non G'
 |.rt d G'=>.ok d G'
 |.err x G'=>.err x G'
 |_=>.bad
@[simp]theorem ret_nx:(SR.nx S G).ret=.ok .non G:=id rfl
@[simp]theorem ret_rt:(SR.rt d G).ret=.ok d G:=id rfl
@[simp]theorem ZPY{x:Xn}:(SR.err x G).ret=.err x G:=id rfl
theorem Br{np nl:Nat}{b:DS}:Ce np nl b ds G=if ds.length=np then tidy G (b (ds.map vQ++zY nl vZ) G).ret else .bad:=id rfl
end
section
variable{n:Nat}{G:DH}
@[simp]theorem ZPx:bel n .non=vJ:=by simp[_D.bel]
@[simp]theorem ZN2{b:Bool}:bel n (.bl b)=vJ:=by simp[_D.bel]
@[simp]theorem ZH9{b:Int}:bel n (.int b)=vJ:=by simp[_D.bel]
@[simp]theorem ZIh{b:Str}:bel n (.str b)=vJ:=by simp[_D.bel]
@[simp]theorem Ld{b:List D}:bel n (.tup b)=bels n b:=by simp[_D.bel]
@[simp]theorem ZPW{b:Nat}:bel n (.ref b)=decide (b<n):=by simp[_D.bel]
@[simp]theorem ZP1:bels n []=vJ:=by simp[_D.bels]
@[simp]theorem ZOY:bels n (d::ds)=(bel n d&&bels n ds):=by simp[_D.bels]
theorem ZJt:bels n ds=vJ↔∀d∈ds,bel n d=vJ:=by
 induction ds with
 |nil=>simp
 |cons d ds ih=>simp[ih]
@[simp]theorem Lw{es:List D}:bels n (ds++es)=(bels n ds&&bels n es):=by
 induction ds with
 |nil=>simp
 |cons d ds ih=>simp[ih,Bool.and_assoc]
theorem Hw{f:α->D}{xs:List α}(h:∀x∈xs,bel n (f x)=vJ):bels n (xs.map f)=vJ:=by rw[ZJt];intro d hd;obtain⟨x,hx,rfl⟩:=z8.mp hd;exact h x hx
@[simp]theorem Hm{xs:List Int}:bels n (xs.map D.int)=vJ:=Hw λ_ _=>ZH9
@[simp]theorem ZNM{xs:List Bool}:bels n (xs.map D.bl)=vJ:=Hw λ_ _=>ZN2
@[simp]theorem G6{xs:List Str}:bels n (xs.map D.str)=vJ:=Hw λ_ _=>ZIh
theorem Bp(h:bel G.length d=vJ):tidy G (.ok d G)=.ok d G:=by unfold tidy;simp[h]
theorem Nv(h:bel G.length d=vJ):tidy G (.ok d (G++L))=.ok d G:=by unfold tidy;simp[h]
theorem ZHR(L:DH)(hk:L[k]?=vQ (.lst ds))(h:bels G.length ds=vJ):tidy G (.ok (.ref (G.length+k)) (G++L))=.ok (.ref G.length) (G++[.lst ds]):=by
 unfold tidy;have e:(G++L)[G.length+k]?=vQ (.lst ds):=by rw[zE (by lia)];simpa using hk
 simp[e,Nb,h]
theorem Im(h:bels G.length ds=vJ):tidy G (.ok (.ref G.length) (G++ .lst ds::L))=.ok (.ref G.length) (G++[.lst ds]):=ZHR (.lst ds::L) (k:=0) rfl h
@[simp]theorem ZPV{x:Xn}:tidy G (.err x G')=.err x G':=id rfl
theorem Hj(h:bel G.length d=vJ):freeze G (.ok d G)=.ok d G:=by unfold freeze;simp[h,Ib]
theorem ZGb{n:Nat}:∀{ds:List D},bels n ds=vJ->Lb (Ib G' n (k+1)) ds=vQ ds
 |[],_=>rfl
 |d::ds,h=>by simp only[ZOY,zZ]at h;unfold Lb;rw[ZGb h.2];simp[Ib,h.1]
theorem ZId(L:DH)(hk:L[k]?=vQ (.lst ds))(h:bels G.length ds=vJ):freeze G (.ok (.ref (G.length+k)) (G++L))=.ok (.fl ds) G:=by
 unfold freeze;have e:(G++L)[G.length+k]?=vQ (.lst ds):=by rw[zE (by lia)];simpa using hk
 have m:Ib (G++L) G.length 9 (.ref (G.length+k))=vQ (.fl ds):=by unfold Ib;simp[e,ZGb h]
 simp[m]
theorem Cr(h:bels G.length ds=vJ):freeze G (.ok (.ref G.length) (G++ .lst ds::L))=.ok (.fl ds) G:=ZId (.lst ds::L) (k:=0) rfl h
theorem ZKx(L:DH)(k:Nat):(G++L)[G.length+k]?=L[k]? :=by rw[zE (by lia)];simp
theorem Hl(L:DH):(G++L)[G.length]?=L[0]? :=ZKx L 0
theorem ZNc(L:DH)(k:Nat)(o:DO):(G++L).set (G.length+k) o=G++L.set k o:=by rw[List.set_append_right _ _ (by lia)];simp
theorem Jv(L:DH)(o:DO):(G++L).set G.length o=G++L.set 0 o:=ZNc L 0 o
theorem Ko{lo:Int}:Cv lo 0=[]:=id rfl
theorem Ir{lo:Int}{n:Nat}:Cv lo (n+1)=.int lo::Cv (lo+1) n:=by
 unfold Cv;rw[j1,zk,qy]
 congr 1
 ·simp
 ·apply jx;intro k _;simp only[Function.comp]
  congr 1
  lia
end
section
variable{G:DH}{i j:Int}{x y:Str}{k l:Bool}
@[simp]theorem ev_add:Bb (.int i) (.int j) G=.ok (.int (i+j)) G:=id rfl
@[simp]theorem K1:Bb (.str x) (.str y) G=if x.length+y.length<=1000000 then .ok (.str (x++y)) G else .bad:=id rfl
@[simp]theorem Lg{ys:List D}:Bb (.tup xs) (.tup ys) G=if xs≠[]/\xs.length+ys.length<=1000000 then .ok (.tup (xs++ys)) G else .bad:=id rfl
@[simp]theorem ev_sub:Fv (.int i) (.int j) G=.ok (.int (i-j)) G:=id rfl
theorem log2_small{n:Nat}(h:n<10^100):n.log2<9000:=by
 by_cases hn:n=0
 ·subst hn;decide
 ·rw[Nat.log2_lt hn];exact Nat.lt_trans h (by decide)
@[simp]theorem ZPP{n:Nat}[NeZero n](h:n<10^100):Dj (.int i) (.int (no_index (OfNat.ofNat n))) G=.ok (.int (i/OfNat.ofNat n)) G:=
 if_pos ⟨Int.ofNat_lt.mpr (Nat.pos_of_ne_zero (NeZero.ne n)),log2_small h⟩
@[simp]theorem ev_mod:Be (.int i) (.int j) G=if 0<j then .ok (.int (i%j)) G else .bad:=id rfl
@[simp]theorem ev_pow:Hh (.int i) (.int j) G=if 0<=j/\j<=1000000/\i.natAbs<18446744073709551616 then .ok (.int (i^j.toNat)) G else .bad:=id rfl
@[simp]theorem ev_lt:Gq (.int i) (.int j) G=.ok (.bl (decide (i<j))) G:=id rfl
@[simp]theorem ev_le:Gw (.int i) (.int j) G=.ok (.bl (decide (i<=j))) G:=id rfl
@[simp]theorem ev_gt:Fj (.int i) (.int j) G=.ok (.bl (decide (j<i))) G:=id rfl
@[simp]theorem ev_ge:ZBe (.int i) (.int j) G=.ok (.bl (decide (j<=i))) G:=id rfl
@[simp]theorem ev_eq:Bk (.int i) (.int j) G=.ok (.bl (decide (i=j))) G:=id rfl
@[simp]theorem ev_ne:Ga (.int i) (.int j) G=.ok (.bl (!decide (i=j))) G:=id rfl
@[simp]theorem ev_eqS:Bk (.str x) (.str y) G=.ok (.bl (decide (x=y))) G:=id rfl
@[simp]theorem ev_neS:Ga (.str x) (.str y) G=.ok (.bl (!decide (x=y))) G:=id rfl
@[simp]theorem ev_neg:Gs (.int i) G=.ok (.int (-i)) G:=id rfl
@[simp]theorem ev_is:Oz d .non G=.ok (.bl (Ds d)) G:=by cases d<;>exact id rfl
@[simp]theorem ZPL:Rc d .non G=.ok (.bl (!Ds d)) G:=by cases d<;>exact id rfl
@[simp]theorem ev_max:N8 [.int i,.int j] G=.ok (.int (max i j)) G:=by
 show R.ok (D.int (if j>i then j else i)) G=_
 congr 2
 split <;> lia
@[simp]theorem ZPu:Ss [.bl k] G=.ok (.int (if k then 1 else 0)) G:=id rfl
@[simp]theorem ZPq:Dr (.fl ds) G=vQ ds:=id rfl
@[simp]theorem ZF7{n:Nat}:Dr (.ref n) G=(match G[n]? with |some (.lst xs)=>vQ xs|_=>vZ):=id rfl
@[simp]theorem ZPo:Dw [.str x] G=if x.length<=1000000 then .ok (.int x.length) G else .bad:=id rfl
@[simp]theorem ZPw:Dw [.tup ds] G=.ok (.int ds.length) G:=id rfl
@[simp]theorem ZPb:Dw [.fl ds] G=.ok (.int ds.length) G:=id rfl
@[simp]theorem ev_ixT:Ah (.tup ds) (.int i) G=(match atI ds i with |some v=>.ok v G|none=>.bad):=id rfl
@[simp]theorem ev_ixF:Ah (.fl ds) (.int i) G=(match atI ds i with |some v=>.ok v G|none=>.bad):=id rfl
@[simp]theorem ev_ixR{n:Nat}:Ah (.ref n) (.int i) G=(match G[n]? with |some (.lst xs)=>(match atI xs i with |some v=>.ok v G|none=>.bad)|_=>.bad):=by
 unfold Ah;simp only[ZF7];cases G[n]? with
 |none=>rfl
 |some o=>cases o<;>rfl
theorem ZNV{n k:Nat}(h:k<n):ixN n (k:Int)=vQ k:=by unfold ixN;rw[if_pos (by lia),if_pos (by lia)];simp
theorem ZK4{xs:List α}{k:Nat}{d:α}(h:xs[k]?=vQ d):atI xs (k:Int)=vQ d:=by unfold atI;rw[ZNV (zJ.mp h).1];exact h
theorem Dq{xs:List α}{j:Int}{k:Nat}{d:α}(e:j=k)(h:xs[k]?=vQ d):atI xs j=vQ d:=by subst e;exact ZK4 h
theorem ZLz{xs:List α}{j:Int}(h0:j<0)(h: -(xs.length:Int)<=j):atI xs j=vQ (xs[(j+xs.length).toNat]'(by lia)):=by unfold atI ixN;rw[if_neg (by lia),if_pos h];exact zQ (by lia)
@[simp]theorem atI_0{a:α}{xs:List α}:atI (a::xs) 0=vQ a:=Dq (k:=0) rfl rfl
@[simp]theorem atI_1{a b:α}{xs:List α}:atI (a::b::xs) 1=vQ b:=Dq (k:=1) rfl rfl
@[simp]theorem atI_2{a b c:α}{xs:List α}:atI (a::b::c::xs) 2=vQ c:=Dq (k:=2) rfl rfl
@[simp]theorem atI_3{a b c d:α}{xs:List α}:atI (a::b::c::d::xs) 3=vQ d:=Dq (k:=3) rfl rfl
@[simp]theorem atI_4{a b c d e:α}{xs:List α}:atI (a::b::c::d::e::xs) 4=vQ e:=Dq (k:=4) rfl rfl
@[simp]theorem atI_5{a b c d e f:α}{xs:List α}:atI (a::b::c::d::e::f::xs) 5=vQ f:=Dq (k:=5) rfl rfl
@[simp]theorem atI_6{a b c d e f g:α}{xs:List α}:atI (a::b::c::d::e::f::g::xs) 6=vQ g:=Dq (k:=6) rfl rfl
@[simp]theorem ZPg:Bl ds G=if ds.length<=1000000 then .ok (.tup ds) G else .bad:=id rfl
@[simp]theorem ZPe:Ba ds G=if ds.length<=1000000 then .ok (.ref G.length) (G++[.lst ds])else .bad:=id rfl
@[simp]theorem ZPy:Kf [.fl ds] G=.ok (.tup ds) G:=id rfl
@[simp]theorem ZPU{n:Nat}:Kf [.ref n] G=(match G[n]? with |some (.lst xs)=>.ok (.tup xs) G|_=>.bad):=by
 unfold Kf;simp only[ZF7];cases G[n]? with
 |none=>rfl
 |some o=>cases o<;>rfl
@[simp]theorem ev_itT:Hk (.tup ds) G=.ok (.pure ds) G:=id rfl
@[simp]theorem ev_itF:Hk (.fl ds) G=.ok (.pure ds) G:=id rfl
@[simp]theorem ZPK:rng1 [.int j] G=if inR j then .ok (.pure (Cv 0 j.toNat)) G else .bad:=id rfl
theorem Gz(h0: -1000000000<=i)(h:i<=1000000000):inR i:=⟨by lia,by lia⟩
@[simp]theorem ZPn{n:Nat}:isL (.ref n) G=(match G[n]? with |some (.lst _)=>vJ|_=>vX):=id rfl
@[simp]theorem ev_app{n:Nat}:K6 (.ref n) [d] G=(match G[n]? with |some (.lst xs)=>if xs.length<1000000 then .ok .non (G.set n (.lst (xs++[d])))else .bad|_=>.bad):=id rfl
@[simp]theorem ZPc{n:Nat}:T9 (.ref n) (.int i) d G=(match G[n]? with |some (.lst xs)=>(match ixN xs.length i with |some j=>.ok .non (G.set n (.lst (xs.set j d)))|none=>.bad)|_=>.bad):=id rfl
@[simp]theorem ZKP{ks:List Bool}:Sq [.fl (ks.map D.bl)] G=.ok (.bl (ks.all id)) G:=by simp[Sq]
@[simp]theorem ZE5{ks:List Int}:Jt [.fl (ks.map D.int)] G=.ok (.int ks.sum) G:=by simp[Jt]
@[simp]theorem ZPr:Ky [d,.ty "int"] G=(match tyD G d with |some .int=>.ok (.bl vJ) G|some .bl=>.ok (.bl vJ) G|some _=>.ok (.bl vX) G|none=>.bad):=by
 unfold Ky;dsimp only;cases tyD G d with
 |none=>rfl
 |some t=>cases t<;>rfl
@[simp]theorem ZPa:Ky [d,.ty "bool"] G=(match tyD G d with |some .bl=>.ok (.bl vJ) G|some _=>.ok (.bl vX) G|none=>.bad):=by
 unfold Ky;dsimp only;cases tyD G d with
 |none=>rfl
 |some t=>cases t<;>rfl
end
section
variable{c:Prop}[Decidable c]
@[simp]theorem ite_ok{a b:α}:(if c then R.ok a G else R.ok b G)=R.ok (if c then a else b) G:=by split <;> rfl
theorem ZKr{S':DSt}:(if c then SR.nx S G else SR.nx S' G')=SR.nx (if c then S else S') (if c then G else G'):=by split <;> rfl
theorem ZOH{a b:α}{l m:List α}:(if c then a::l else b::m)=(if c then a else b)::(if c then l else m):=by split <;> rfl
theorem ZOD{a b:α}:(if c then vQ a else vQ b)=vQ (if c then a else b):=by split <;> rfl
theorem ite_int{a b:Int}:(if c then D.int a else D.int b)=D.int (if c then a else b):=by split <;> rfl
end
section
variable{X:Cx}{E:XK}
end
section
variable{S:DSt}{G:DH}{n:Nat}{kvs:List (Key×D)}
end
section
noncomputable def okD:Nat->D->Bool
 |0,_=>vX
 |_+1,.non=>vJ
 |_+1,.int _=>vJ
 |_+1,.str _=>vJ
 |n+1,.tup ds=>ds.all (okD n)
 |n+1,.fl ds=>ds.all (okD n)
 |_+1,_=>vX
theorem Tc:∀{n m:Nat}{d:D},okD n d=vJ->n<=m->okD m d=vJ
 |0,_,_,h,_=>by cases h
 |n+1,0,_,_,h=>by lia
 | n+1,m+1,d,h,hm=>by
  cases d with
  |tup ds=>
   simp only[okD,zH]at h⊢;exact λx hx=>Tc (h x hx) (by lia)
  |fl ds=>
   simp only[okD,zH]at h⊢;exact λx hx=>Tc (h x hx) (by lia)
  |_=>first|rfl|(simp[okD]at h)
theorem ZAq{f:D->D->Option Bool}{P:D->Prop}(hf:∀x y,P x->P y->∃b,f x y=vQ b/\(b=vJ↔x=y)):∀{xs ys:List D},(∀x∈xs,P x)->(∀y∈ys,P y)->
  ∃b,eqZ f xs ys=vQ b/\(b=vJ↔xs.take ys.length=ys.take xs.length)
 |[],ys,_,_=>⟨vJ,by cases ys<;>rfl,by simp⟩
 |x::xs,[],_,_=>⟨vJ,rfl,by simp⟩
 |x::xs,y::ys,hx,hy=>by obtain⟨b,e1,h1⟩:=hf x y (hx x (by simp)) (hy y (by simp));obtain⟨c,e2,h2⟩:=ZAq hf (λz hz=>hx z (zq _ hz)) (λz hz=>hy z (zq _ hz));refine⟨b&&c,by simp[eqZ,e1,e2],?_⟩;simp[h1,h2]
theorem ZAB{G:DH}:∀(n:Nat)(d e:D),okD n d=vJ->okD n e=vJ->∃b,eqD n G d e=vQ b/\(b=vJ↔d=e)
 |0,d,e,h,_=>by cases h
 | n+1,d,e,h1,h2=>by
  have ih:=ZAB (G:=G) n;cases d with
  |bl _=>simp[okD]at h1
  |ty _=>simp[okD]at h1
  |ref _=>simp[okD]at h1
  | tup xs=>
   cases e with
   |bl _=>simp[okD]at h2
   |ty _=>simp[okD]at h2
   |ref _=>simp[okD]at h2
   |tup ys=>
    simp only[okD,zH]at h1 h2;obtain⟨b,e1,h3⟩:=ZAq ih (λx hx=>h1 x hx) (λx hx=>h2 x hx);refine⟨b&&xs.length==ys.length,by simp[eqD,view,e1],?_⟩;simp only[zZ,h3,beq_iff_eq,D.tup.injEq];constructor
    ·rintro⟨e,hl⟩;rw[<-hl,jz]at e;rw[e,hl,jz]
    ·rintro rfl;exact⟨rfl,rfl⟩
   |_=>exact⟨vX,by simp[eqD,view],by simp⟩
  | fl xs=>
   cases e with
   |bl _=>simp[okD]at h2
   |ty _=>simp[okD]at h2
   |ref _=>simp[okD]at h2
   |fl ys=>
    simp only[okD,zH]at h1 h2;by_cases hl:xs.length=ys.length
    ·obtain⟨b,e1,h3⟩:=ZAq ih (λx hx=>h1 x hx) (λx hx=>h2 x hx);refine⟨b,by simp[eqD,view,hl,e1],?_⟩;rw[h3,<-hl,jz,hl,jz];simp
    ·exact⟨vX,by simp[eqD,view,hl],by simp;rintro rfl;exact hl rfl⟩
   |_=>exact⟨vX,by simp[eqD,view],by simp⟩
  |non=>cases e<;>first|(simp[okD]at h2;done)|exact⟨_,rfl,by simp[eqV]⟩
  |int i=>cases e<;>first|(simp[okD]at h2;done)|exact⟨_,rfl,by simp[eqV]⟩
  |str i=>cases e<;>first|(simp[okD]at h2;done)|exact⟨_,rfl,by simp[eqV]⟩
open Classical in
theorem ZLa{e:D}(h1:okD 30 d=vJ)(h2:okD 30 e=vJ):Bk d e G=.ok (.bl (decide (d=e))) G:=by
 obtain⟨b,e1,h⟩:=ZAB (G:=G) 30 d e h1 h2;unfold Bk;rw[e1];cases b with
 |true=>simp[h.mp rfl]
 |false=>simp[show¬d=e from λz=>zw (h.mpr z)]
open Classical in
theorem ZKz{e:D}(h1:okD 30 d=vJ)(h2:okD 30 e=vJ):Ga d e G=.ok (.bl (!decide (d=e))) G:=by
 obtain⟨b,e1,h⟩:=ZAB (G:=G) 30 d e h1 h2;unfold Ga;rw[e1];cases b with
 |true=>simp[h.mp rfl]
 |false=>simp[show¬d=e from λz=>zw (h.mpr z)]
theorem ZNA(h1:okD 30 d=vJ):Bk d d G=.ok (.bl vJ) G:=by rw[ZLa h1 h1];simp
theorem ZHv(h1:okD 30 d=vJ):Ga d d G=.ok (.bl vX) G:=by rw[ZKz h1 h1];simp
theorem Pq{n:Nat}(h:∀d∈ds,okD n d=vJ):okD (n+1) (.tup ds)=vJ:=by simpa[okD]using h
end
def cutD{α:Type}(xs:List α)(lo hi:Option Int):List α:=(xs.drop (HT.sIx xs.length 0 lo)).take (HT.sIx xs.length xs.length hi-HT.sIx xs.length 0 lo)
def Nu(z:Str)(lo hi:Option Int):Str:=⟨(cutD z.cps.toList lo hi).toArray⟩
theorem Ka(xs:List α)(lo hi:Option Int):(cutD xs lo hi).length<=xs.length:=by unfold cutD;rw[qB,qC];lia
def Dn(t:Option DE)(S:DSt)(G:DH):R (Option Int):=match t with
 |none=>.ok vZ G
 |some t=>(t S G).bind λd G1=>match d with
  |.int i=>.ok (vQ i) G1
  |_=>.bad
def Kc(d:D)(lo hi:Option Int)(G:DH):R D:=match d with
 |.str z=>if z.length<=1000000 then .ok (.str (Nu z lo hi)) G else .bad
 |.tup xs=>.ok (.tup (cutD xs lo hi)) G
 |d=>match Jd d G with
  |some xs=>.ok (.ref G.length) (G++[.lst (cutD xs lo hi)])
  |none=>.bad
def dSl(e:DE)(lo hi:Option DE):DE:=λS G=>(e S G).bind λd G1=>(Dn lo S G1).bind λl G2=>(Dn hi S G2).bind λh G3=>Kc d l h G3
theorem Jq(n:Nat)(v:Int):((HT.sIx n n (vQ v):Nat):Int)=max 0 (min (if v<0 then v+(n:Int)else v) n)/\((HT.sIx n 0 (vQ v):Nat):Int)=max 0 (min (if v<0 then v+(n:Int)else v) n):=by
 unfold HT.sIx;by_cases hv:v<0
 ·simp only[if_pos hv];lia
 ·simp only[if_neg hv];lia
theorem ZHt(xs:Array Nat)(i k:Nat):(zy k).filterMap (λm=>xs[i+m]?)=(xs.toList.drop i).take k:=by
 induction k generalizing i with
 |zero=>simp
 | succ k ih=>
  rw[j1,zO];have e:(List.map Nat.succ (zy k)).filterMap (λm=>xs[i+m]?)=(zy k).filterMap (λm=>xs[i+1+m]?):=by
   rw[jJ]
   congr 1
   funext m;simp only[Function.comp]
   congr 1
   lia
  rw[e,ih (i+1)];by_cases hi:i<xs.size
  ·have h1:xs[i+0]?=vQ xs[i]:=by simp[hi]
   rw[h1];have h2:xs.toList.drop i=xs[i]::xs.toList.drop (i+1):=by rw[qZ (by simpa using hi)];simp
   rw[h2];simp
  ·have h1:xs[i+0]?=vZ:=by simp;lia
   rw[h1];simp only;rw[qN (by simp;lia),qN (by simp;lia)];simp
theorem ZJI(x:Str)(lo hi:Option Int):Txt.slice x lo hi=Nu x lo hi:=by
 have hlen:x.length=x.cps.toList.length:=by simp[Str.length]
 have key:(Builtin.Str.strSliceIndices lo hi 1 x.length).filterMap (x.cps[·]?)=cutD x.cps.toList lo hi:=by
  have e1:∀(v:Option Int),(match v with |none=>(0:Int)|some i=>max 0 (min (if i<0 then i+(x.length:Int)else i) x.length))=((HT.sIx x.length 0 v:Nat):Int):=λv=>by
   cases v with
   |none=>rfl
   |some i=>exact(Jq x.length i).2.symm
  have e2:∀(v:Option Int),(match v with |none=>(x.length:Int)|some i=>max 0 (min (if i<0 then i+(x.length:Int)else i) x.length))=((HT.sIx x.length x.length v:Nat):Int):=λv=>by
   cases v with
   |none=>rfl
   |some i=>exact(Jq x.length i).1.symm
  have e3:Builtin.Str.strSliceIndices lo hi 1 x.length=sliceRange ((HT.sIx x.length 0 lo:Nat):Int) ((HT.sIx x.length x.length hi:Nat):Int) 1:=by
   rw[<-e1 lo,<-e2 hi];unfold Builtin.Str.strSliceIndices
   cases lo<;>cases hi<;>simp
  rw[e3];unfold sliceRange cutD;rw[jJ,<-hlen];generalize HT.sIx x.length 0 lo=i;generalize HT.sIx x.length x.length hi=j;have e4:((λa=>x.cps[a]?) ∘ λ(k:Nat)=>((i:Int)+1*(k:Int)).toNat)=λk=>x.cps[i+k]? :=by
   funext k;simp only[Function.comp]
   congr 1
   lia
  have e5:(if(1:Int)>0 then if(i:Int)<(j:Int)then((j:Int)-i+1-1)/1 else 0 else if(i:Int)>(j:Int)then((i:Int)-j-1-1) / -1 else 0).toNat=j-i:=by
   rw[if_pos (by lia)];split
   ·rw[Int.ediv_one];lia
   ·lia
  rw[e4,e5];exact ZHt x.cps i (j-i)
 unfold Txt.slice Nu;split
 ·rename_i h;have h':(Builtin.Str.strSliceIndices lo hi 1 x.length).length=x.length:=by simpa using h
  have hsz:(cutD x.cps.toList lo hi).length=x.cps.toList.length∨(cutD x.cps.toList lo hi).length<x.cps.toList.length:=by have:=Ka x.cps.toList lo hi;lia
  have hall:(cutD x.cps.toList lo hi).length=x.cps.toList.length:=by
   have e3:(Builtin.Str.strSliceIndices lo hi 1 x.length).length=HT.sIx x.length x.length hi-HT.sIx x.length 0 lo:=by
    have e1:∀(v:Option Int),(match v with |none=>(0:Int)|some i=>max 0 (min (if i<0 then i+(x.length:Int)else i) x.length))=((HT.sIx x.length 0 v:Nat):Int):=λv=>by
     cases v with
     |none=>rfl
     |some i=>exact(Jq x.length i).2.symm
    have e2:∀(v:Option Int),(match v with |none=>(x.length:Int)|some i=>max 0 (min (if i<0 then i+(x.length:Int)else i) x.length))=((HT.sIx x.length x.length v:Nat):Int):=λv=>by
     cases v with
     |none=>rfl
     |some i=>exact(Jq x.length i).1.symm
    have e3:Builtin.Str.strSliceIndices lo hi 1 x.length=sliceRange ((HT.sIx x.length 0 lo:Nat):Int) ((HT.sIx x.length x.length hi:Nat):Int) 1:=by
     rw[<-e1 lo,<-e2 hi];unfold Builtin.Str.strSliceIndices
     cases lo<;>cases hi<;>simp
    rw[e3];unfold sliceRange;rw[zV,List.length_range];generalize HT.sIx x.length 0 lo=i;generalize HT.sIx x.length x.length hi=j;rw[if_pos (by lia)];split
    ·rw[Int.ediv_one];lia
    ·lia
   have hj:HT.sIx x.length x.length hi<=x.length:=HT.ZE0 _ _ (zx _) hi;unfold cutD;rw[qB,qC,<-hlen];lia
  have hs:(cutD x.cps.toList lo hi).Sublist x.cps.toList:=(List.take_sublist _ _).trans (List.drop_sublist _ _);rw[hs.eq_of_length hall]
 ·rw[key]
section
variable{X:Cx}{E:XK}
theorem Gg:SlR X (λx lo hi H Q=>∃z:Str,x=.str z/\z.length<=sizeLine/\Q (.str (Nu z lo hi)) H):=by
 intro xU s σ H x v vl vu lo hi sl Q I rx hs pl pu h;obtain⟨z,rfl,hz,q⟩:=h;obtain⟨t,rfl⟩:=rx;refine⟨"str",_,PySem.F.slot_str_getitem.lookup,typeIs_str _ _ _,?_⟩
 have fin:∀(l u:Option (Int×Tok)),vl=partValue l->vu=partValue u->l.map (·.1)=lo->u.map (·.1)=hi->xF (x9 X.prog X.w) X.A (getItem (.str z t) (.ref sl)) (EP X xU σ Q) X.xe s:=by
  rintro l u rfl rfl rfl rfl
  refine wpAny_getItem_str_slice (l:=l) (u:=u) (st:=vZ) (show s.heap.IsSlice sl l u vZ from hs) rfl ?_
  have e:∀Q',(Txt.slice z (l.map (·.1)) (u.map (·.1))).length<=sizeLine/\(∀t' k,Q' (.str (Txt.slice z (l.map (·.1)) (u.map (·.1))) t') {s with toks:=k})->(sliceMade z t l u vZ).post Q' s:=λQ' hq=>post_val_or_str hq
  refine e _ ⟨zC (Txt.slice_le z _ _) hz,λt' k=>?_⟩;rw[ZJI];exact⟨.str _,H,I.tok k,⟨t',rfl⟩,q⟩
 cases pl with
 |none=>cases pu with
  |none=>exact fin vZ vZ rfl rfl rfl rfl
  |int j tj=>exact fin vZ (vQ (j,tj)) rfl rfl rfl rfl
 |int i ti=>cases pu with
  |none=>exact fin (vQ (i,ti)) vZ rfl rfl rfl rfl
  |int j tj=>exact fin (vQ (i,ti)) (vQ (j,tj)) rfl rfl rfl rfl
theorem ZI5{prog:jH}{A:jD}{E:jN->jL->Prop}{t sl:jC}{items:Array jN}{vl vu:jN}{Q:jN->jL->Prop}(ht:IsTup s.heap t items)(hs:s.heap.IsSliceOf sl vl vu .none)(pl:IsPart vl lo)(pu:IsPart vu hi)
  (hw:HT.sIx items.size 0 lo=0/\HT.sIx items.size items.size hi=items.size) (h:Q (.ref t) s):xF (x9 prog w) A (getItem (.ref t) (.ref sl)) Q E s:=by
 obtain⟨os,hos,hcs,hds⟩:=id hs;have hTs:s.TypeIs (.ref sl) "slice":=⟨os,hos,hcs⟩;unfold getItem
 try with_reducible refine xL ?_
 first|refine xH (xP ?_)|skip
 refine xH (wpAny_sequenceKey ht.typeIs (by decide) ?_);refine xH (wpAny_callSpecial?_slot (name:=Str.ofString "__getitem__") ht.typeIs PyProof.Rows.slot_tuple_getitem
  (wpAny_call_entry PyProof.Rows.slot_tuple_getitem ht.typeIs entry_tuple_getitem ?_ (args_tuple_getitem _ _)))
 show xF _ _ (Builtin.Tuple.tupleItemsOf (.ref t) >>=_) _ _ s;refine xH (tupleItemsOf_ ht ?_);refine xH (wpAny_typeOf hTs ?_);rw[if_pos (by decide)];refine xH (HT.ZFI hs pl pu ?_);have hyes:(((HT.sIx items.size 0 lo:Nat):Int)==0&&(1:Int)==1&&(HT.sIx items.size items.size hi-HT.sIx items.size 0 lo)==items.size)=vJ:=by rw[hw.1,hw.2];simp
 show xF _ _ (if(((HT.sIx items.size 0 lo:Nat):Int)==0&&(1:Int)==1&&(HT.sIx items.size items.size hi-HT.sIx items.size 0 lo)==items.size)=vJ then _ else _) _ _ s;rw[if_pos hyes];refine xH ?_;unfold Builtin.Tuple.tupleIsExact;refine xH (wpAny_typeOf ht.typeIs (xP ?_));rw[if_pos (by decide)];exact xH (wpAny_rule (xP ⟨_,rfl,xP h⟩))
theorem ZKa:SlR X (λx lo hi H Q=>∃a xs,x=.ref a/\SqT X.K H a xs/\(HT.sIx xs.length 0 lo=0/\HT.sIx xs.length xs.length hi=xs.length)/\Q (.ref a) H):=by
 intro xU s σ H x v vl vu lo hi sl Q I rx hs pl pu h;obtain⟨a,xs,rfl,hx,hw,q⟩:=h;cases rx;obtain⟨its,r,ht,hz⟩:=I.tuple hx;have hlen:its.toArray.size=xs.length:=by rw[zK];exact r.length.symm
 exact⟨"tuple",_,PyProof.Rows.slot_tuple_getitem.lookup,ht.typeIs,ZI5 ht hs pl pu (by rw[hlen];exact hw) ⟨.ref a,H,I,rfl,q⟩⟩
def Ol(E:XK)(a:Wd)(r:R (Option Int))(Q:Option Int->Hp->Prop):Prop:=match r with
 |.ok k G=>∀(b:Wd),Ext a b->Sim b G->Q k b.H
 |.err x G=>XOk E a x G
 |.bad=>False
def QO(X:Cx)(E:XK)(e:Option jE)(t:Option DE):Prop:=PO X e (λσ H Q=>∃(a:Wd)(S:DSt)(G:DH),a.K=X.K/\a.H=H/\Sim a G/\RepS a S σ/\Ol E a (Dn t S G) Q)
theorem _root_._L.PO.mono{e:Option jE}{t t':TO}(h:PO X e t)(w:∀σ H Q,t' σ H Q->t σ H Q):PO X e t':=λxU s σ H Q I q=>h xU s σ H Q I (w σ H Q q)
theorem Df:QO X E vZ vZ:=ZHp.mono λσ H Q h=>by obtain⟨a,S,G,hk,rfl,s,r,h⟩:=h;exact h a (Ext.refl a) s
theorem Cg(he:QE X E e t):QO X E (vQ e) (vQ t):=(ZKu he).mono λσ H Q h=>by
 obtain⟨a,S,G,hk,rfl,s,r,h⟩:=h;refine⟨a,S,G,hk,rfl,s,r,?_⟩
 have h':Ol E a ((t S G).bind λd G1=>match d with | .int i=>.ok (vQ i) G1|_=>.bad) Q:=h
 cases ht:t S G with
 |ok d G1=>
  rw[ht]at h';intro b v x sb rv;cases d with
  |int i=>exact⟨i,rv,h' b x sb⟩
  |_=>exact h'.elim
 |err x G1=>rw[ht]at h';exact h'
 |bad=>rw[ht]at h';exact h'
theorem Reps.cutD(r:Reps a ds vs)(lo hi:Option Int):Reps a (_D.cutD ds lo hi) (Lf vs lo hi):=by unfold _D.cutD Lf;rw[r.length];exact(r.drop _).take _
theorem Ol.imp{r:R (Option Int)}{Q Q':Option Int->Hp->Prop}(h:Ol E a r Q)(w:∀v H,Q v H->Q' v H):Ol E a r Q':=by
 cases r with
 |ok d G=>exact λb x s=>w _ _ (h b x s)
 |err e G=>exact h
 |bad=>exact h
theorem ZFa{r:R (Option Int)}{f:Option Int->DH->R D}(h:out E a (r.bind f) Q):
  Ol E a r (λk H=>∃(b:Wd)(G:DH),b.H=H/\Ext a b/\Sim b G/\r=.ok k G/\out E b (f k G) Q):=by
 cases r with
 |ok d G=>exact λb x s=>⟨b,G,rfl,x,s,rfl,out.mono x h⟩
 |err e G=>exact h
 |bad=>exact h
theorem Cm{lo hi:Option jE}{tl th:Option DE}{p2 pos:Pos}(he:QE X E e te)(hl:QO X E lo tl)(hu:QO X E hi th):QE X E (.Subscript e (.Slice lo hi vZ p2) pos) (dSl te tl th):=
 (ZOQ (ZNe.or (ZMx.or (ZKa.or Gg))) he hl hu).mono λσ H Q h=>by
 obtain⟨a,S,G,hk,rfl,s,r,h⟩:=h;refine⟨a,S,G,hk,rfl,s,r,(Fp h).imp ?_⟩;rintro v _ ⟨b,d,G1,rfl,x,s1,q,_,h1⟩;refine⟨b,S,G1,x.k.trans hk,rfl,s1,r.mono x,(ZFa h1).imp ?_⟩;rintro l _ ⟨c,G2,rfl,y,s2,_,h2⟩;refine⟨c,S,G2,y.k.trans (x.k.trans hk),rfl,s2,(r.mono x).mono y,(ZFa h2).imp ?_⟩;rintro u _ ⟨c3,G3,rfl,y3,s3,_,h3⟩;have hk3:=y3.k.trans (y.k.trans (x.k.trans hk));have q3:=(q.mono y).mono y3
 have lst:out E c3 (match Jd d G3 with |some xs=>.ok (.ref G3.length) (G3++[.lst (cutD xs l u)])|none=>.bad) Q->rSlL X.K v l u c3.H Q:=λh3=>by
  split at h3
  ·rename_i xs hx;obtain⟨p,vs,e1,q1,r1⟩:=ZAY s3 q3 hx;exact⟨p,vs,e1,by rw[<-hk3];exact q1,λp hp=>ZBn s3 (Reps.cutD r1 l u) h3 p hp⟩
  ·exact h3.elim
 cases d with
 | str z=>
  have h4:out E c3 (if z.length<=1000000 then .ok (.str (Nu z l u)) G3 else .bad) Q:=h3;split at h4
  ·rename_i hl
   cases(show v=V.str z from q3)
   exact .inr (.inr (.inr ⟨z,rfl,zC hl size6,h4 c3 _ (Ext.refl _) s3 rfl⟩))
  ·exact h4.elim
 | tup xs=>
  have h4:out E c3 (.ok (.tup (cutD xs l u)) G3) Q:=h3;obtain⟨p,vs,e1,q1,r1⟩:=q3;by_cases hw:HT.sIx vs.length 0 l=0/\HT.sIx vs.length vs.length u=vs.length
  ·refine .inr (.inr (.inl ⟨p,vs,e1,by rw[<-hk3];exact q1,hw,h4 c3 _ (Ext.refl _) s3 ⟨p,vs,rfl,q1,?_⟩⟩));have:cutD xs l u=xs:=by unfold cutD;rw[r1.length,hw.1,hw.2,<-r1.length];simp
   rw[this];exact r1
  ·exact .inr (.inl ⟨p,vs,e1,by rw[<-hk3];exact q1,hw,λp hp=>Ui s3 (Reps.cutD r1 l u) h4 p hp⟩)
 |fl xs=>exact .inl (lst h3)
 |ref i=>exact .inl (lst h3)
 |non=>exact(show False from h3).elim
 |bl _=>exact(show False from h3).elim
 |int _=>exact(show False from h3).elim
 |ty _=>exact(show False from h3).elim
noncomputable def isS:D->Bool
 |.str _=>vJ
 |_=>vX
def V9(f:D->List D->DH->R D)(o:DE)(t:DA):DE:=λS G=>(o S G).bind λx G1=>if isS x=vJ then(t S G1).bind λxs G2=>f x xs G2 else .bad
section
variable{name:Str}{id:String}{f:D->List D->DH->R D}{o e:jE}{es:List jE}{to:DE}{t:DA}{apos cpos:Pos}
theorem ZHa(slot:Slot "str" name id)(hty:typeOf (.builtin id)=pure (.type "method_descriptor"))(hm:MtM X id (lRm X.K E f))(ho:QE X E o to)(ha:QA X E (e::es) t)
  (hbase:jR o name X.env (eval o X.env)=eval o X.env:=by rfl)
  (hfew:((jS cpos (xD (e::es) X.env)).all (λx=> !x.1)&&(backToKw cpos (keywordEach [] X.env)).all (λx=>x.1.isSome)
   && decide ((e::es).length+([]:List Keyword).length+(if([]:List Keyword).isEmpty then 0 else 1)<30))=vJ:=by rfl)
  (hline:(apos.endLine==cpos.line)=vJ:=by rfl) (hs:xD (e::es) X.env=(vX,eval e X.env)::xD es X.env:=by rfl) (hplain:(jS cpos (xD es X.env)).any (·.1)=vX:=by rfl):
  QE X E (.Call (.Attribute o name apos) (e::es) [] cpos) (V9 f to t):=(ZEk PySem.F.plainAttrs_str slot hty hm ho ha hbase hfew hline hs hplain).mono λσ H Q h=>by
 obtain⟨a,S,G,hk,rfl,s,r,h⟩:=h;refine⟨a,S,G,hk,rfl,s,r,(Fp h).imp ?_⟩;rintro v _ ⟨b,d,G1,rfl,x,s1,q,-,h1⟩;split at h1
 ·rename_i hl;have ty:tyV X.K "str" v b.H:=by
   cases d with
   |str z=>cases(show v=V.str z from q);exact rfl
   |_=>cases hl
  refine⟨ty,b,S,G1,x.k.trans hk,rfl,s1,r.mono x,(Qx h1).imp ?_⟩;rintro vs _ ⟨c,ds,G2,rfl,y,s2,q2,-,h2⟩;exact⟨c,G2,d,ds,y.k.trans (x.k.trans hk),rfl,s2,q.mono y,q2,h2⟩
 ·exact h1.elim
end
noncomputable def Pn:List D->Option (List Str)
 |[]=>vQ []
 |.str x::r=>(Pn r).map (x::·)
 |_=>vZ
@[simp]theorem ZPG(ns:List Str):Pn (ns.map D.str)=vQ ns:=by
 induction ns with
 |nil=>rfl
 |cons n ns ih=>simp[Pn,ih]
theorem ZGF:∀{xs:List D}{ns:List Str},Pn xs=vQ ns->xs=ns.map D.str
 |[],ns,h=>by cases h;rfl
 |.str i::r,ns,h=>by
  unfold Pn at h;rw[z0]at h;obtain⟨m,e,rfl⟩:=h;rw[ZGF e]
  rfl
 |.non::_,_,h=>by cases h
 |.bl _::_,_,h=>by cases h
 |.int _::_,_,h=>by cases h
 |.ty _::_,_,h=>by cases h
 |.tup _::_,_,h=>by cases h
 |.fl _::_,_,h=>by cases h
 |.ref _::_,_,h=>by cases h
noncomputable def K7(sep:List Nat):List (List Nat)->List Nat
 |[]=>[]
 |[x]=>x
 |x::y::r=>x++sep++K7 sep (y::r)
def Ot(o:D)(ds:List D)(G:DH):R D:=match o,ds with
 | .str sep,[d]=>match Dr d G with
  |some xs=>match Pn xs with
   |some ys=>if(ys.map (·.length)).sum+ys.length*sep.length<=1000000 then .ok (.str (Txt.join sep ys)) G else .bad
   |none=>.bad
  |none=>.bad
 |_,_=>.bad
theorem ZCD:∀{ys:List Str}{us:List jN},Vals (ys.map V.str) us->StrsAre us ys
 |[],us,r=>by cases r;exact .nil
 | y::ys,us,r=>by
  cases r with
  |cons h t=>
   obtain⟨tk,rfl⟩:=h;exact .cons _ _ (ZCD t)
theorem ZF1:∀{ys:List Str}{vs:List V},Reps a (ys.map D.str) vs->vs=ys.map V.str
 |[],vs,r=>r
 |y::ys,vs,r=>by
  obtain⟨v,w,rfl,h1,h2⟩:=r
  cases(show v=V.str y from h1)
  rw[ZF1 h2]
  rfl
theorem ZMT:MtM X "str.join" (lRm X.K E Ot):=λxU s σ H x xs v us Q I rx rs h=>by
 obtain⟨a,G,d,ds,hk,rfl,sm,rd,r,q⟩:=h;unfold Ot at q;split at q
 ·rename_i sep e;obtain⟨w,rfl,rw'⟩:=reps1 r
  cases(show x=V.str sep from rd)
  obtain⟨t,rfl⟩:=rx;split at q
  ·rename_i ys hs;split at q
   ·rename_i zs hz;split at q
    ·rename_i hl;obtain⟨p,vs,rfl,h1,r1⟩:=Kv sm rw' hs;rw[ZGF hz]at r1;have ev:=ZF1 r1;subst ev;obtain⟨u,rfl,ru⟩:=vals1 rs;cases ru;rw[hk]at h1;rcases h1 with h1|h1
     ·obtain⟨its,r2,pl,_⟩:=I.list h1;exact join_list pl.isList (by simpa using ZCD r2) (zC hl (by decide)) λt' k=>⟨.str _,a.H,I.tok k,⟨t',rfl⟩,q a _ (Ext.refl a) sm rfl⟩
     ·obtain⟨its,r2,pl,_⟩:=I.tuple h1;exact join_tuple pl (by simpa using ZCD r2) (zC hl (by decide)) λt' k=>⟨.str _,a.H,I.tok k,⟨t',rfl⟩,q a _ (Ext.refl a) sm rfl⟩
    ·exact q.elim
   ·exact q.elim
  ·exact q.elim
 ·exact q.elim
noncomputable def V0(o:D)(ds:List D)(G:DH):R D:=match o,ds with
 |.str x,[.str y]=>.ok (.int (Txt.find x y)) G
 |_,_=>.bad
theorem m_find:MtM X "str.find" (lRm X.K E V0):=λxU s σ H x xs v us Q I rx rs h=>by
 obtain⟨a,G,d,ds,hk,rfl,sm,rd,r,q⟩:=h;unfold V0 at q;split at q
 ·rename_i x' y;obtain⟨w,rfl,rw'⟩:=reps1 r
  cases(show x=V.str x' from rd)
  cases(show w=V.str y from rw')
  obtain⟨t,rfl⟩:=rx;obtain⟨u,rfl,u',rfl⟩:=vals1 rs;exact SC.find ⟨.int _,a.H,I.tok _,⟨_,rfl⟩,q a _ (Ext.refl a) sm rfl⟩
 ·exact q.elim
end
section
variable{S:DSt}{G:DH}
@[simp]theorem ev_Sl{e:DE}{lo hi:Option DE}:dSl e lo hi S G=(e S G).bind λd G1=>(Dn lo S G1).bind λl G2=>(Dn hi S G2).bind λh G3=>Kc d l h G3:=id rfl
@[simp]theorem ZPS:Dn vZ S G=.ok vZ G:=id rfl
@[simp]theorem ZPO:Dn (vQ t) S G=(t S G).bind λd G1=>match d with | .int i=>.ok (vQ i) G1|_=>.bad:=id rfl
@[simp]theorem J6{z:Str}:Kc (.str z) lo hi G=if z.length<=1000000 then .ok (.str (Nu z lo hi)) G else .bad:=id rfl
@[simp]theorem ev_slT:Kc (.tup xs) lo hi G=.ok (.tup (cutD xs lo hi)) G:=id rfl
@[simp]theorem ev_slF:Kc (.fl xs) lo hi G=.ok (.ref G.length) (G++[.lst (cutD xs lo hi)]):=id rfl
@[simp]theorem ev_MtS{f:D->List D->DH->R D}{o:DE}{t:DA}:V9 f o t S G=(o S G).bind λx G1=>if isS x=vJ then(t S G1).bind λxs G2=>f x xs G2 else .bad:=id rfl
@[simp]theorem ev_isS:isS (.str x)=vJ:=id rfl
@[simp]theorem ZPt{y:Str}:V0 (.str x) [.str y] G=.ok (.int (Txt.find x y)) G:=id rfl
@[simp]theorem ZOk:Hk (.str x) G=.ok (.pure (signs x)) G:=id rfl
@[simp]theorem Ms{ys:List D}:Bb (.fl xs) (.fl ys) G=if xs.length+ys.length<=1000000 then .ok (.ref G.length) (G++[.lst (xs++ys)])else .bad:=id rfl
@[simp]theorem Ln{z:Str}{i:Int}:Ah (.str z) (.int i) G=if z.length<=1000000 then(match atI z.cps.toList i with |some c=>.ok (sgn c) G|none=>.bad)else .bad:=id rfl
theorem ZH6{sep:Str}{ys:List Str}(h:(ys.map (·.length)).sum+ys.length*sep.length<=1000000):Ot (.str sep) [.fl (ys.map D.str)] G=.ok (.str (Txt.join sep ys)) G:=by simp[Ot,h]
end
end _D
namespace _D
open PySem PySem.Spec _L
open PyProof.Rows hiding St
open Builtin.Str
variable{g:DG}{te:DE}{S:DSt}{G:DH}
section
variable(p:Nat->Bool)(m:Nat)
def J1(i:Nat)(st:Array Nat×Nat):Id (ForInStep (Array Nat×Nat)):=
 if(decide (st.1.size<1)&&decide (st.2<=i)&&p i)=vJ then pure (ForInStep.yield (st.1.push i,i+m))else pure (ForInStep.yield (st.1,st.2))
theorem ZGu:∀(l:List Nat)(st:Array Nat×Nat),st.1.size=1->(forIn l st (J1 p m):Id _)=pure st
 |[],st,_=>rfl
 |i::l,st,h=>by
  rw[List.forIn_cons];have:J1 p m i st=pure (ForInStep.yield st):=by unfold J1;rw[if_neg (by simp[h])]
  rw[this];exact ZGu l st h
theorem occ_first(lo:Nat):∀(l:List Nat),(∀i∈l,lo<=i)->((forIn l (#[],lo) (J1 p m):Id (Array Nat×Nat))).run.1.toList=(l.find? p).toList
 |[],_=>rfl
 | i::l,h=>by
  rw[List.forIn_cons];by_cases hp:p i=vJ
  ·have:J1 p m i (#[],lo)=pure (ForInStep.yield (#[i],i+m)):=by
    unfold J1;rw[if_pos (by simp[hp,h i (by simp)])]
    rfl
   rw[this];have e:=ZGu p m l (#[i],i+m) rfl;show(Id.run (forIn l (#[i],i+m) (J1 p m))).1.toList=_;rw[e];simp[List.find?_cons,hp]
  ·have:J1 p m i (#[],lo)=pure (ForInStep.yield (#[],lo)):=by unfold J1;rw[if_neg (by simp[hp])]
   rw[this];have:=occ_first lo l (λj hj=>h j (zq _ hj));rw[List.find?_cons_of_neg hp];exact this
end
theorem occ1(s sub:Str)(lo hi:Nat):occurrences s sub lo hi 1=((qz lo (hi+1-lo)).find? (λi=>decide (i+sub.length<=hi)&&subAt s sub i)).toList:=by
 unfold occurrences;simp only[Std.Legacy.Range.forIn_eq_forIn_range',Std.Legacy.Range.size,Nat.sub_one_add_one,Nat.add_one_sub_one,Nat.div_one];have:=occ_first (λi=>decide (i+sub.length<=hi)&&subAt s sub i) sub.length lo (qz lo (hi+1-lo)) (λi hi'=>by rw[List.mem_range'_1]at hi';exact hi'.1);rw[<-this];unfold J1;simp only[<-Bool.and_assoc]
 rfl
theorem ZGt(s sub:Str)(i:Nat)(h:i+sub.length<=s.length):subAt s sub i=vJ↔(s.cps.toList.drop i).take sub.length=sub.cps.toList:=by unfold subAt;rw[beq_iff_eq,<-Array.toList_inj];rw[Array.toList_extract];simp[List.extract_eq_take_drop]
theorem contains1(s:Str)(c:Nat):(!(occurrences s ⟨#[c]⟩ 0 s.length 1).isEmpty)=decide (c∈s.cps.toList):=by
 rw[occ1];have hl:(⟨#[c]⟩:Str).length=1:=rfl;rw[hl];by_cases h:c∈s.cps.toList
 ·obtain⟨i,hi,e⟩:=List.mem_iff_getElem.mp h;have hi':i<s.length:=by simpa[Str.length]using hi
  have hf:((qz 0 (s.length+1-0)).find? (λi=>decide (i+1<=s.length)&&subAt s ⟨#[c]⟩ i)).isSome=vJ:=by rw[List.find?_isSome];refine⟨i,by rw[List.mem_range'_1];lia,?_⟩;rw[zZ];refine⟨decide_eq_true (by lia),?_⟩;rw[ZGt s ⟨#[c]⟩ i (by rw[hl];lia),hl,qZ hi,e];simp
  cases hc:(qz 0 (s.length+1-0)).find? (λi=>decide (i+1<=s.length)&&subAt s ⟨#[c]⟩ i)with
  |none=>rw[hc]at hf;cases hf
  |some j=>simp[h]
 ·have hf:(qz 0 (s.length+1-0)).find? (λi=>decide (i+1<=s.length)&&subAt s ⟨#[c]⟩ i)=vZ:=by
   rw[List.find?_eq_none];intro i hi hp;rw[zZ]at hp;have h1:i+1<=s.length:=by simpa using hp.1
   have h2:=(ZGt s ⟨#[c]⟩ i (by rw[hl];lia)).mp hp.2
   rw[hl,qZ (show i<s.cps.toList.length from zW (qx i) (by simpa[Str.length]using h1))]at h2
   simp at h2;exact h (by rw[<-h2];simp)
  rw[hf];simp[h]
theorem ZI9(sep:Str):∀(xs:List Str),(Txt.join sep xs).cps.toList=K7 sep.cps.toList (xs.map (·.cps.toList))
 |[]=>rfl
 |[x]=>by simp[Txt.join,glued,K7]
 | x::y::r=>by
  have key:∀(r:List Str)(acc:Array Nat),(r.foldl (λacc p=>acc++sep.cps++p.cps) acc).toList=acc.toList++(r.map λp=>sep.cps.toList++p.cps.toList).flatten:=by
   intro r
   induction r with
   |nil=>intro acc;simp
   |cons p r ih=>intro acc;rw[jV,ih];simp
  have j:∀(x:Str)(r:List Str),K7 sep.cps.toList ((x::r).map (·.cps.toList))=x.cps.toList++(r.map λp=>sep.cps.toList++p.cps.toList).flatten:=by
   intro x r
   induction r generalizing x with
   |nil=>simp[K7]
   |cons p r ih=>
    have:=ih p;simp only[zk]at this⊢;rw[K7,this];simp
  rw[j];show(glued sep (x::y::r)).cps.toList=_;unfold glued;simp only[List.drop_one,List.tail_cons,List.headD_cons];rw[key]
def CStep(g:DG)(c:DB)(te:DE)(S:DSt)(G:DH)(x:D)(r:Option D):Prop:=
 ∃S1,g x S G=.ok S1 G/\((c S1 G=.ok vX G/\r=vZ)∨(c S1 G=.ok vJ G/\∃d,te S1 G=.ok d G/\r=vQ d))
theorem Qu{c:DB}{F:D->Option D}:∀{xs:List D},(∀x∈xs,CStep g c te S G x (F x))->Cp g c te S xs G=.ok (xs.filterMap F) G
 |[],_=>rfl
 |x::xs,h=>by
  obtain⟨S1,h1,h2⟩:=h x (by simp);have ih:=Qu (λy hy=>h y (zq _ hy));rw[Jg,h1];rcases h2 with⟨h2,h3⟩|⟨h2,d,h3,h4⟩
  ·simp[h2,h3,ih,zO]
  ·simp[h2,h3,h4,ih,zO]
theorem ZEo{i:Nat}{c:DB}{F:D->Option D}{xs:List D}(hG:G[i]?=vQ (.lst xs))(h:∀x∈xs,CStep g c te S G x (F x)):
  ∀(n j:Nat),j+n=xs.length->Gm i g c te S n j G=.ok ((xs.drop j).filterMap F) G
 |0,j,hj=>by
  unfold Gm;rw[hG];simp only;rw[if_pos (by lia),qN (by lia)]
  rfl
 |n+1,j,hj=>by
  have hlt:j<xs.length:=by lia
  have ih:=ZEo hG h n (j+1) (by lia);obtain⟨S1,h1,h2⟩:=h xs[j] (qH hlt);unfold Gm;rw[hG];simp only;rw[zQ hlt];simp only[h1,R.ZBO];rw[qZ hlt,zO];rcases h2 with⟨h2,h3⟩|⟨h2,d,h3,h4⟩
  ·simp[h2,h3,ih]
  ·simp[h2,h3,h4,ih]
theorem ZLS{i:Nat}{c:DB}{F:D->Option D}{xs:List D}(hG:G[i]?=vQ (.lst xs))(h:∀x∈xs,CStep g c te S G x (F x)):
  Gm i g c te S xs.length 0 G=.ok (xs.filterMap F) G:=ZEo hG h xs.length 0 (by lia)
theorem ZGT:∀xs:List (List Nat),K7 [] xs=xs.flatten
 |[]=>rfl
 |[x]=>by simp[K7]
 |x::y::r=>by rw[K7,ZGT (y::r)];simp
theorem ZL5(cs:List Nat):Txt.join ("":Str) (cs.map λc=>(⟨#[c]⟩:Str))=⟨cs.toArray⟩:=by
 have h:=ZI9 ("":Str) (cs.map λc=>(⟨#[c]⟩:Str));have e:("":Str).cps.toList=[]:=by decide +kernel
 rw[e,ZGT,qy]at h;have e2:(cs.map ((λx:Str=>x.cps.toList) ∘ λc=>(⟨#[c]⟩:Str))).flatten=cs:=by
  clear h
  induction cs with
  |nil=>rfl
  |cons c cs ih=>simp only[zk,List.flatten_cons,ih];rfl
 rw[e2]at h;generalize Txt.join ("":Str) (cs.map λc=>(⟨#[c]⟩:Str))=z at h;obtain⟨a⟩:=z;simp only at h;rw[<-h]
theorem ZJD{x y:Str}(h:x.cps.toList=y.cps.toList):x=y:=by obtain⟨a⟩:=x;obtain⟨b⟩:=y;simp only at h;rw[Array.toList_inj.mp h]
theorem ZIN{x y:Str}:x=y↔x.cps.toList=y.cps.toList:=⟨λh=>by rw[h],ZJD⟩
end _D
namespace _D
open PySem PySem.Spec _L
open PyProof.Rows hiding St
section
variable{prog:jH}{w:jO}{A:jD}{E:jN->jL->Prop}{s:jL}
end
section
variable{prog:jH}{w:jO}{A:jD}{E:jN->jL->Prop}{s:jL}
end
section
variable{prog:jH}{w:jO}{A:jD}{E:jN->jL->Prop}{s:jL}
end
section
variable{prog:jH}{w:jO}{A:jD}{E:jN->jL->Prop}{s:jL}
end
end _D
namespace _D
open PySem PySem.W PyProof.Rows
section
variable{lt:Nat->Nat->Bool}
noncomputable abbrev pt(p:Array Nat)(j:Nat):Nat:=p.getD j 0
end
end _D
namespace _D
open PySem PySem.Spec _L
open PyProof.Rows hiding St
section
variable{X:Cx}{xU:List (jC×Obj)}{σ:St}{H:Hp}{s:jL}{h':Heap}
end
section
variable{X:Cx}{E:XK}
end
section
variable{X:Cx}{xU:List (jC×Obj)}{σ:St}{H:Hp}{s:jL}
end
section
variable{X:Cx}{E:XK}
end
section
variable{X:Cx}{E:XK}
end
def Oj(ds:List D)(G:DH):R D:=match ds with
 | [d]=>match Dr d G with
  |some xs=>match Gd xs with
   |some (n::ns)=>.ok (.int (ns.foldl min n)) G
   |_=>.bad
  |none=>.bad
 |_=>.bad
def Pa(ds:List D)(G:DH):R D:=match ds with
 | [d]=>match Dr d G with
  |some xs=>match Gd xs with
   |some (n::ns)=>.ok (.int (ns.foldl max n)) G
   |_=>.bad
  |none=>.bad
 |_=>.bad
theorem ZET:∀(ns:List Int)(n:Int),ns.foldl min n<=n/\(∀x∈ns,ns.foldl min n<=x)/\(ns.foldl min n=n∨ns.foldl min n∈ns)
 |[],n=>⟨jB _,λx h=>(by cases h),.inl rfl⟩
 | m::ns,n=>by
  obtain⟨h1,h2,h3⟩:=ZET ns (min n m);rw[jV];refine⟨by lia,λx hx=>?_,?_⟩
  ·rcases zz.mp hx with rfl|hx
   ·lia
   ·exact h2 x hx
  ·rcases h3 with h|h
   ·by_cases e:n<=m
    ·exact .inl (by rw[h];lia)
    ·exact .inr (by rw[h];rw[show min n m=m by lia];exact zD)
   ·exact .inr (zq _ h)
theorem ZE1:∀(ns:List Int)(n:Int),n<=ns.foldl max n/\(∀x∈ns,x<=ns.foldl max n)/\(ns.foldl max n=n∨ns.foldl max n∈ns)
 |[],n=>⟨jB _,λx h=>(by cases h),.inl rfl⟩
 | m::ns,n=>by
  obtain⟨h1,h2,h3⟩:=ZE1 ns (max n m);rw[jV];refine⟨by lia,λx hx=>?_,?_⟩
  ·rcases zz.mp hx with rfl|hx
   ·lia
   ·exact h2 x hx
  ·rcases h3 with h|h
   ·by_cases e:m<=n
    ·exact .inl (by rw[h];lia)
    ·exact .inr (by rw[h];rw[show max n m=m by lia];exact zD)
   ·exact .inr (zq _ h)
section
variable{X:Cx}{E:XK}
theorem intAt{ns:List Int}{its:List jN}{i:Nat}{w:jN}(hv:Vals (ns.map V.int) its)(hw:its.toArray[i]?=vQ w):i<ns.length/\∃t,w=.int (ns.getD i 0) t:=by
 have hw':its[i]?=vQ w:=by simpa using hw
 have hl:i<(ns.map V.int).length:=by rw[hv.length];exact(zJ.mp hw').1
 have hl':i<ns.length:=by simpa using hl
 obtain⟨u,hu,ru⟩:=hv.get (i:=i) (x:=V.int ns[i]) (by simp[hl']);rw[hw']at hu;cases hu;obtain⟨t,rfl⟩:=ru;exact⟨hl',t,by simp[hl']⟩
theorem ZJL(hc:X.calm=vJ):CallR X (.builtin "min") (lRn X.K E Oj):=by
 intro xU s σ H vs us Q I rs h;obtain⟨a,G,ds,hk,rfl,sm,r,q⟩:=h;unfold Oj at q;split at q
 ·rename_i d;obtain⟨v,rfl,rv⟩:=reps1 r;split at q
  ·rename_i xs hs;split at q
   ·rename_i n ns hn;cases Tg hn;obtain⟨p,ws,rfl,h1,r1⟩:=Kv sm rv hs;cases Xc r1;rw[hk]at h1;obtain⟨u,rfl,ru⟩:=vals1 rs;cases ru;refine call_min_walk (Vt I hc h1 λit fp wr its St s₂ hv W st hfp fin=>⟨it,fp,wr,its.toArray.size,_,St,_,rfl,W,st,hfp,?_,CmpOf.ints_lt (λi=>(n::ns).getD i 0) (λi w hw=>(intAt hv hw).2),λw h' tk hw kk=>?_⟩)
    ·rw[zK,<-hv.length];simp
    ·obtain⟨hl,t,rfl⟩:=intAt hv hw;obtain⟨b1,b2⟩:=argBest_lt (λi=>(n::ns).getD i 0) (its.toArray.size-1);refine⟨.int (ns.foldl min n),a.H,fin h' tk kk,⟨t,?_⟩,q a _ (Ext.refl a) sm rfl⟩;have hsz:its.toArray.size=ns.length+1:=by rw[zK,<-hv.length];simp
     obtain⟨m1,m2,m3⟩:=ZET ns n;have hle:∀x∈n::ns,ns.foldl min n<=x:=λx hx=>by
      rcases zz.mp hx with rfl|hx
      ·exact m1
      ·exact m2 x hx
     have hin:ns.foldl min n∈n::ns:=by
      rcases m3 with h|h
      ·rw[h];exact zD
      ·exact zq _ h
     obtain⟨j,hj,ej⟩:=qE hin;have c1:=b2 j (by simp at hj;lia);have c2:=hle _ (qH hl);have e1:(n::ns).getD j 0=ns.foldl min n:=by rw[zA,zQ hj];exact ej
     have e2:(n::ns).getD (argBest (λi j=>decide ((λi=>(n::ns).getD i 0) i<(λi=>(n::ns).getD i 0) j)) (its.toArray.size-1)) 0=(n::ns)[argBest (λi j=>decide ((λi=>(n::ns).getD i 0) i<(λi=>(n::ns).getD i 0) j)) (its.toArray.size-1)]:=by rw[zA,zQ hl];rfl
     have c1':=c1;rw[e1]at c1';rw[<-e2]at c2
     congr 1
     exact Int.le_antisymm c1' c2
   ·exact q.elim
  ·exact q.elim
 ·exact q.elim
theorem ZNH(hc:X.calm=vJ):CallR X (.builtin "max") (lRn X.K E Pa):=by
 intro xU s σ H vs us Q I rs h;obtain⟨a,G,ds,hk,rfl,sm,r,q⟩:=h;unfold Pa at q;split at q
 ·rename_i d;obtain⟨v,rfl,rv⟩:=reps1 r;split at q
  ·rename_i xs hs;split at q
   ·rename_i n ns hn;cases Tg hn;obtain⟨p,ws,rfl,h1,r1⟩:=Kv sm rv hs;cases Xc r1;rw[hk]at h1;obtain⟨u,rfl,ru⟩:=vals1 rs;cases ru;refine call_max_walk (Vt I hc h1 λit fp wr its St s₂ hv W st hfp fin=>⟨it,fp,wr,its.toArray.size,_,St,_,rfl,W,st,hfp,?_,CmpOf.ints_gt (λi=>(n::ns).getD i 0) (λi w hw=>(intAt hv hw).2),λw h' tk hw kk=>?_⟩)
    ·rw[zK,<-hv.length];simp
    ·obtain⟨hl,t,rfl⟩:=intAt hv hw;obtain⟨b1,b2⟩:=argBest_gt (λi=>(n::ns).getD i 0) (its.toArray.size-1);refine⟨.int (ns.foldl max n),a.H,fin h' tk kk,⟨t,?_⟩,q a _ (Ext.refl a) sm rfl⟩;have hsz:its.toArray.size=ns.length+1:=by rw[zK,<-hv.length];simp
     obtain⟨m1,m2,m3⟩:=ZE1 ns n;have hle:∀x∈n::ns,x<=ns.foldl max n:=λx hx=>by
      rcases zz.mp hx with rfl|hx
      ·exact m1
      ·exact m2 x hx
     have hin:ns.foldl max n∈n::ns:=by
      rcases m3 with h|h
      ·rw[h];exact zD
      ·exact zq _ h
     obtain⟨j,hj,ej⟩:=qE hin;have c1:=b2 j (by simp at hj;lia);have c2:=hle _ (qH hl);have e1:(n::ns).getD j 0=ns.foldl max n:=by rw[zA,zQ hj];exact ej
     have e2:(n::ns).getD (argBest (λi j=>decide ((λi=>(n::ns).getD i 0) i>(λi=>(n::ns).getD i 0) j)) (its.toArray.size-1)) 0=(n::ns)[argBest (λi j=>decide ((λi=>(n::ns).getD i 0) i>(λi=>(n::ns).getD i 0) j)) (its.toArray.size-1)]:=by rw[zA,zQ hl];rfl
     have c1':=c1;rw[e1]at c1';rw[<-e2]at c2
     congr 1
     exact Int.le_antisymm c2 c1'
   ·exact q.elim
  ·exact q.elim
 ·exact q.elim
end
end _D
namespace _D
open PySem PySem.W PyProof.Rows
end _D
namespace _D
open PySem PySem.Spec _L
open PyProof.Rows hiding St
variable{d:D}
section
variable{prog:jH}{w:jO}{A:jD}{s:jL}
end
section
variable{X:Cx}{E:XK}{xU:List (jC×Obj)}{σ:St}{s:jL}{H:Hp}{h':Heap}
end
section
variable{prog:jH}{w:jO}{A:jD}{E:jN->jL->Prop}{s:jL}
end
section
variable{X:Cx}{E:XK}{xU:List (jC×Obj)}{σ:St}{s:jL}{H:Hp}
end
section
variable{X:Cx}{E:XK}
end
section
variable{S:DSt}{G:DH}
theorem ZK3{n:Int}{ns:List Int}(h:Dr d G=vQ ((n::ns).map D.int)):Oj [d] G=.ok (.int (ns.foldl min n)) G:=by simp only[Oj,h,ZD1]
theorem ZMO{n:Int}{ns:List Int}(h:Dr d G=vQ ((n::ns).map D.int)):Pa [d] G=.ok (.int (ns.foldl max n)) G:=by simp only[Pa,h,ZD1]
end
def Bts(i:Int):Prop:=i.natAbs.log2<33554432
def MulB(i j:Int):Prop:=CMul i j∨(Bts i/\Bts j)
noncomputable instance (i:Int):Decidable (Bts i):=by unfold Bts;infer_instance
noncomputable instance (i j:Int):Decidable (MulB i j):=by unfold MulB;infer_instance
theorem MulB.ok{i j:Int}(h:MulB i j):IntMulOk i j:=by
 rcases h with h|⟨h1,h2⟩
 ·exact h.ok
 ·have b:∀k:Int,Bts k->Builtin.Int.intBits k<=33554432:=λk hk=>by
   unfold Builtin.Int.intBits;split
   ·exact Nat.zero_le _
   ·exact hk
  have c1:=b i h1;have c2:=b j h2;have h:Builtin.Int.intTooBig (Builtin.Int.intBits i+Builtin.Int.intBits j)=vX:=by unfold Builtin.Int.intTooBig bitsLine;exact decide_eq_false (by lia)
  unfold IntMulOk;rw[h];simp
def Dl:D->D->DH->R D
 |.int i,.int j,G=>if MulB i j then .ok (.int (i*j)) G else .bad
 |_,_,_=>.bad
section
variable{X:Cx}{E:XK}
theorem ZN3:OpR X (jU .Mult) (rI MulB λi j=>.int (i*j)):=opI λ_ _ _ _ _ _ _ hc q=>mul_int q hc.ok
theorem Fq:OpR X (jU .Mult) (lR2 X.K E Dl):=G8 ZN3 λa G d e x y Q hk s rd re q=>by
 cases d<;>cases e<;>first
  |exact q.elim
  | (
    rename_i i j;unfold Dl at q;dsimp only at q;split at q
    ·exact⟨_,_,rd,re,by assumption,q a _ (Ext.refl a) s rfl⟩
    ·exact q.elim)
end
section
variable{i j:Int}{G:DH}
theorem Lk(h1: -(2^64)<i)(h2:i<2^64):Dl (.int i) (.int j) G=.ok (.int (i*j)) G:=if_pos (.inl (.inl ⟨h1,h2⟩))
theorem W9(h1: -(2^64)<j)(h2:j<2^64):Dl (.int i) (.int j) G=.ok (.int (i*j)) G:=if_pos (.inl (.inr ⟨h1,h2⟩))
@[simp]theorem ZPk{n:Nat}(h:n<18446744073709551616):Dl (.int (no_index (OfNat.ofNat n))) (.int j) G=.ok (.int (OfNat.ofNat n*j)) G:=
 Lk (by have:(0:Int)<=(OfNat.ofNat n:Int):=Int.natCast_nonneg n;lia) (by have:(OfNat.ofNat n:Int)<18446744073709551616:=Int.ofNat_lt.mpr h;lia)
end
theorem ZGL:∀{ns:List Int},PySem.W.WData.weightAll (ns.map PySem.W.WData.int)<=2^20->∀n∈ns,n.natAbs.log2<1048576
 |[],_,n,h=>nomatch h
 | m::ns,hw,n,h=>by
  rw[zk,PySem.W.WData.weightAll,PySem.W.WData.weight]at hw;rcases zz.mp h with rfl|h
  ·split at hw
   ·rename_i hz;have:n=0:=by simpa using hz
    rw[this];decide
   ·lia
  ·exact ZGL (by lia) n h
theorem ZI7{l:PySem.W.OpenLaw}{n k:Nat}{q:jH}{loose:List Str}{XP:(Str->Option jN)->Heap->Prop}{YP:jO->Heap->Prop}{d:DefRec}{K:jO->PySem.W.Frag}{CX:jO->CXT}{sp:jO->Sp}{x:Str}
  (hn:l.most=vQ n) (hn2:n<=sizeLine) (hdf:d.params.defaults=[]) (hr:Room k callerA) (hY:∀(w:jO)(h:Heap),YP w h->(K w).In h)
  (F:∀(w:jO)(mg:Str->Option jN)(fa:jC)(h:Heap),(K w).In h->h.Ns xy mg->mg d.name=vQ (.ref fa)->
   ∃fd:jF,(∀(s:jL)(u:jN),BindsTo s fd ⟨[u],[]⟩ [(x,u)])/\∀base:Heap,(K w).In base->base.Ns xy mg->FnOk l.prog w (K w) mg base (CX w) k fa fd [x] (sp w))
  (hsp:∀(w:jO)(H:Hp)(a:jC)(ns:List Int),ns.length<=n->(∀m∈ns,m.natAbs.log2<1048576)->Only H->SqL (K w) H a (ns.map V.int)->sp w [.ref a] H (λv _=>v=.bl vJ) λ_ _ _=>False)
  (hCX:∀(w:jO)(H:Hp)(s:jL)(e:jN)(s':jL),CX w [] H s (λ_ _ _=>False) e s'->False):PySem.W.WalkO q loose XP YP l.row.toRowW d [] (λf vs=>PySem.call f vs):=by
 intro w s₀ s₁ mg mb G Y fa o pm cd doc dV kV ho hd hcd hD hmg hg args vals as hpre hlay hrd hwl hlo;obtain rfl:dV=.none:=PySem.W.Dflts.none hD hdf;obtain rfl:kV=.none:=PySem.W.Dflts.noKw hD;obtain⟨a,vs,ns,rfl,rfl,hobj,hints,hlen⟩:=Att.ZJW hn hpre hwl;have KX:=hY w _ Y;obtain⟨fd,hb,hF⟩:=F w mg fa _ KX G.T.g hmg;have hw:PySem.W.WData.weightAll (ns.map PySem.W.WData.int)<=2^20:=by
  have h1:PySem.W.WData.layable (.list (ns.map PySem.W.WData.int))=vJ:=by have:=hlay;simpa[PySem.W.WData.layableAll]using this
  have h2:=of_decide_eq_true (zP.mp h1).2;simpa only[PySem.W.WData.weight]using h2
 refine PySem.W.enter_call (xJ (ZKc KX G.T.g G.T.b G.T.builtins G.T.nolimit hg hobj hints (zC hlen hn2) hr hF hb (λH hO hS=>hsp w H a ns hlen (ZGL hw) hO hS) λH e s'=>hCX w H s₁ e s') λr s' hq=>?_);obtain⟨rfl,h2,h3,h4⟩:=hq
 exact⟨.inl ⟨.bool vJ,.bool vJ,[],rfl,λ_=>rfl,.bool vJ,Att.ZN5 l _,λ_=>⟨List.Pairwise.nil,λ_ hm=>(nomatch hm)⟩⟩,h2,h3,h4⟩
section
variable{X:Cx}{E:XK}
end
theorem RepF.uncons{a:Wd}{g:Str}{fs:List (Str×D)}{us:List (Str×V)}(h:RepF a ((g,d)::fs) us):∃v us',us=(g,v)::us'/\Rep a d v/\RepF a fs us':=by
 obtain⟨h1,h2⟩:=h;cases us with
 |nil=>simp at h1
 |cons q us=>
  obtain⟨g',y⟩:=q;simp only[zk,List.cons.injEq]at h1;obtain⟨rfl,h1⟩:=h1;obtain⟨v,r,e1,r1,r2⟩:=h2;simp only[zk,List.cons.injEq]at e1;obtain⟨rfl,rfl⟩:=e1;exact⟨y,us,rfl,r1,h1,r2⟩
theorem lkc{α:Type}{f g:Str}{x:α}{fs:List (Str×α)}:j2 f ((g,x)::fs)=if(f==g)=vJ then vQ x else fs.lookup f:=by
 show(match f==g with
  |true=>vQ x
  |false=>j2 f fs)=_
 cases f==g<;>rfl
theorem RepF.look{a:Wd}{f:Str}:∀{fs:List (Str×D)}{us:List (Str×V)},RepF a fs us->fs.lookup f=vQ d->∃u,us.lookup f=vQ u/\Rep a d u
 |[],us,h,e=>by simp at e
 |(g,x)::fs,us,h,e=>by
  obtain⟨v,us',rfl,hv,hr⟩:=h.uncons;rw[lkc]at e⊢;by_cases q:(f==g)=vJ
  ·rw[if_pos q]at e⊢;cases e;exact⟨v,rfl,hv⟩
  ·rw[if_neg q]at e⊢;exact RepF.look hr e
section
variable{X:Cx}{E:XK}{c f m:Str}{C:jC}{e o:jE}{es:List jE}{t ta tv:DE}{tr:DA}{pos apos pos':Pos}
end
theorem Xj:∀{ns:List Int}{us:List jN},Vals (ns.map V.int) us->us.length=ns.length/\∀(j:Nat)(u:jN),us[j]?=vQ u->∃t,∃h:j<ns.length,u=.int ns[j] t
 |[],us,h=>by cases h;exact⟨rfl,λj u e=>by simp at e⟩
 | n::ns,us,h=>by
  cases h with
  | cons r rr=>
   obtain⟨h1,h2⟩:=Xj rr;obtain⟨t,rfl⟩:=r;refine⟨by simp[h1],λj u e=>?_⟩;cases j with
   |zero=>simp at e;exact⟨t,by simp,by simpa using e.symm⟩
   |succ j=>
    obtain⟨t',hj,e'⟩:=h2 j u (by simpa using e);exact⟨t',by simpa using hj,by simpa using e'⟩
section
variable{X:Cx}{E:XK}
end
section
variable{prog:jH}{w:jO}{A:jD}{E:jN->jL->Prop}{s:jL}
end
section
variable{X:Cx}{E:XK}
end
end _D
namespace _D
open PySem PySem.Spec _L
section
variable{S:DSt}{G:DH}{c f m:Str}{t to tv:DE}{ta:DA}{F:List D->DH->R D}{i:Nat}{fs:List (Str×D)}{v d:D}
end
end _D
namespace _D
open PySem PySem.Spec _L
open PyProof.Rows hiding St
section
variable{X:Cx}{E:XK}
end
section
variable{i j:Int}{G:DH}
end
def comp0(N:List Str)(names:List (Str×jG))(nt:Nat):Bool:=
 names.all (λy=>(!Gv y.2||isK Gv (names.lookup y.1)) && !Kq y.2 && !Jj y.2)&&decide N.Nodup&&decide (N.length=nt)
theorem ZKY{X:Cx}{N:List Str}{scope:jI}{nt:Nat}(hk:scope.kind=.function:=by rfl)(h:comp0 N scope.names nt=vJ:=by decide +kernel):CompSc X N scope nt []:=by
 unfold comp0 at h;rw[zZ,zZ]at h;obtain⟨⟨h1,h2⟩,h3⟩:=h;rw[zH]at h1;have key:=λ(y:Str×jG)(hy:y∈scope.names)=>(by have:=h1 y hy;rw[zZ,zZ]at this;exact this:((!Gv y.2||isK Gv (scope.names.lookup y.1))=vJ/\(!Kq y.2)=vJ)/\(!Jj y.2)=vJ)
 refine⟨hk,λy hy hl=>?_,λy hy hl=>?_,λy hy hl=>?_,of_decide_eq_true h2,by rw[of_decide_eq_true h3];rfl,λk j hj=>?_⟩
 ·have:=(key y hy).1.1;rw[hl]at this;exact Qg (p:=Gv) (λ_ h=>ZHK h) (by have t:(vX||isK Gv (scope.names.lookup y.1))=vJ:=this;simpa using t)
 ·have:=(key y hy).1.2;rw[hl]at this;exact absurd this (by decide)
 ·have:=(key y hy).2;rw[hl]at this;exact absurd this (by decide)
 ·cases hj
section
variable{X:Cx}{E:XK}{e st:jE}{te:TE}{ts:TO}{p2 pos:Pos}
end
section
variable{S:DSt}{G:DH}
end
section
variable{X:Cx}{E:XK}
end
section
variable{S:DSt}{G:DH}
end
section
variable{X:Cx}{xU:List (jC×Obj)}{σ:St}{H:Hp}{s:jL}{N:List Str}{scope:jI}{caps:List Nat}{x qual:Str}{f:jC}{cd:jN}{A:jD}
end
section
variable{X:Cx}{xU:List (jC×Obj)}{σ:St}{s:jL}{scope:jI}{a:Wd}
end
section
variable{prog:jH}{w:jO}{A:jD}{E:jN->jL->Prop}{s:jL}
end
section
variable{X:Cx}{xU:List (jC×Obj)}{σ:St}{H:Hp}{s:jL}{h':Heap}{m:Str->Option jN}
end
section
variable{X:Cx}{xU:List (jC×Obj)}{σ:St}{N:List Str}{scope:jI}{caps:List Nat}{x:Str}{f:jC}{A:jD}{a:Wd}{S:DSt}{body:jE}{te:DE}{params:Arguments}{pm ctv:jN}{c':jC}{ob oc:Obj}{vs0:Array jN}{t0:Tok}{E:XK}
 {Dd kS:jC} {e1:Nat} {m:Str->Option jN} {h₀:Heap} {Q:VK}
end
end _D
namespace _D
open PySem PySem.Spec _L
open PyProof.Rows hiding St
open PySem.W (KatKeys KatFin katRev KatBack)
section
variable{prog:jH}{w:jO}{A:jD}{E:jN->jL->Prop}{s:jL}{h₀:Heap}{L a kS:jC}{m:Str->Option jN}{P:PySem.Fin->jL->Prop}
end
end _D
namespace _D
open PySem PySem.Spec _L
open PyProof.Rows hiding St
section
variable{X:Cx}{xU:List (jC×Obj)}{σ:St}{N:List Str}{scope:jI}{caps:List Nat}{x:Str}{f:jC}{A:jD}{a:Wd}{S:DSt}{body:jE}{te:DE}{params:Arguments}{pm ctv:jN}{c':jC}{ob oc:Obj}{vs0:Array jN}{t0:Tok}
 {Dd kS:jC} {e1:Nat} {m:Str->Option jN} {h₀:Heap} {Q:VK}
end
section
variable{X:Cx}{xU:List (jC×Obj)}{σ:St}{N:List Str}{scope:jI}{caps:List Nat}{x:Str}{f:jC}{A:jD}{a:Wd}{S:DSt}{body:jE}{te:DE}{params:Arguments}{pm ctv:jN}{c':jC}{ob oc:Obj}{vs0:Array jN}{t0:Tok}{Q:VK}
end
section
variable{X:Cx}{N:List Str}{scope:jI}{caps:List Nat}{x:Str}{body:jE}{te:DE}{params:Arguments}{e:jE}{tn:DA}{p p' pos pos' lp kp kp' cp:Pos}{C m:Str}{cj:Nat}
end
end _D
namespace _D
open PySem PySem.W _L
variable{K:xS}{C f:jC}{m x q:Str}{st:jM}
theorem ZEp{a:jC}{o:Obj}:∀{l:List Obj}{n:Nat},(M7 l n).lookup a=vQ o->n<=a/\l[a-n]?=vQ o/\∀x y z,o≠⟨x,y,.freed,z⟩
 |[],n,h=>by cases h
 | p::r,n,h=>by
  have next:(M7 r (n+1)).lookup a=vQ o->n<=a/\(p::r)[a-n]?=vQ o/\∀x y z,o≠⟨x,y,.freed,z⟩:=λh=>by obtain⟨h1,h2,h3⟩:=ZEp h;obtain⟨k,rfl⟩:=Nat.exists_eq_add_of_le h1;rw[Nat.add_sub_cancel_left]at h2;refine⟨zC (jK n) h1,?_,h3⟩;rw[show n+1+k-n=k+1 by rw[Nat.add_assoc,Nat.add_sub_cancel_left,Nat.add_comm],List.getElem?_cons_succ];exact h2
  unfold M7 at h;split at h
  ·exact next h
  ·exact next h
  ·rename_i hz hf;rw[qO]at h;split at h
   ·rename_i e;have e':a=n:=by simpa using e
    subst e';cases h;refine⟨zx _,by simp,λx y z q=>?_⟩;subst q;exact hz rfl
   ·exact next h
theorem ZJr(h:Heap):(Qz h).In h:=λa o e=>by
 obtain⟨_,h2,h3⟩:=ZEp e;have h4:h.objs[a]?=vQ o:=by simpa using h2
 unfold Heap.get?;rw[h4];split
 ·rename_i q;cases q;exact absurd rfl (h3 _ _ _)
 ·rfl
noncomputable def Js(p:jH)(N:Nat)(w:jO):Heap:=match openEnds xE p w N with
 |some s=>s.heap
 |none=>default
def Stays(p:jH)(N:Nat)(w:jO)(h:Heap):Prop:=∀b o,(Js p N w).get? b=vQ o->h.get? b=vQ o
theorem Stays.in{p:jH}{N:Nat}{w:jO}{h:Heap}(x:Stays p N w h):(Qz (Js p N w)).In h:=λa o e=>x a o (ZJr _ a o e)
def W0(p:jH)(N:Nat):Hook:=
 ⟨Heap,λs=>s.heap,Js p N,Stays p N,λw s e b o q=>by rw[show s.heap=Js p N w from e];exact q,λw h h' x k b o q=>k b o (x b o q)⟩
section
variable{p q:jH}{loose:List Str}{Xt:jL->Bool}{N:Nat}{β:Type}{see:Heap->β}{val:β}
theorem ZLy(E:∀w,(openEnds xE p w N).map (λs=>(openSeen q loose (xV p.main.body) Xt vJ s,see s.heap))=vQ (openGood q loose,val)):
  LeftO p q loose Xt (W0 p N).obs (W0 p N).val N:=λw=>by
 obtain⟨s,h1,h2⟩:=z0.mp (E w);show Option.map _ _=vQ (openGood q loose,Js p N w);unfold Js;rw[h1];show vQ (openSeen q loose (xV p.main.body) Xt vJ s,s.heap)=_;rw[(Prod.mk.inj h2).1]
theorem ZOC(E:∀w,(openEnds xE p w N).map (λs=>(openSeen q loose (xV p.main.body) Xt vJ s,see s.heap))=vQ (openGood q loose,val))(w:jO):see (Js p N w)=val:=by obtain⟨s,h1,h2⟩:=z0.mp (E w);unfold Js;rw[h1];exact(Prod.mk.inj h2).2
end
noncomputable def dOf(s:jM):DefRec:=match s with
 |Stmt.FunctionDef n a b _ _ _ s _ _ p=>⟨n,a,b,s,p⟩
 |_=>⟨Str.empty,⟨[],[],vZ,[],[],vZ,[]⟩,[],{kind:=.module,names:=[],isGenerator:=vX,isCoroutine:=vX,more:=[]},⟨0,0,0,0⟩⟩
theorem holds_top{l:OpenLaw}{q:jH}{loose:List Str}{N:Nat}{β:Type}{see:Heap->β}{val:β}{d:DefRec}(well:l.wellSaid=vJ)
  (E:∀w,(openEnds xE l.prog w N).map (λs=>(openSeen q loose (xV l.prog.main.body) (XtOf l q) vJ s,see s.heap))=vQ (openGood q loose,val))
  (hdef:defOf q l.row.name=vQ (d,[])) (hp:l.row.prog.theDef l.row.name=vQ (d.params,d.body,d.scope)) (hk:kwWritten? d.params.kwonlyargs d.params.kw_defaults=vQ []) (hwr:(!l.row.writes||l.row.records.isEmpty)=vJ)
  (ok:(chainsOk q&&opensWell l.row.prog&&(frees l.row.toRowW&&l.row.within.isEmpty))=vJ) (hb:l.row.prog.bare) (hw:l.row.toRowW.promised)
  (call:WalkO q loose (XL q []) (Stays l.prog N) l.row.toRowW d [] λf vs=>PySem.call f vs):l.Holds:=
 holds_law well λsaid=>holds_open (r:=l.row) (q:=q) (loose:=loose) (Xt:=XtOf l q) (XP:=XL q []) (YP:=Stays l.prog N) (N:=N) (ZLy E) (W0 l.prog N).of (W0 l.prog N).keeps
  (λs e=>xl_of s (zP.mp e).1) XL.keeps hdef hp hk (λs e=>recFacts_of (zP.mp e).2) hwr said ok hb hw call
theorem Ke{n:Str}(h:gOk K n=vJ):nsIn K xy n=vQ (vQ (.ref (Ab K n))):=by
 unfold gOk at h;unfold Ab;split at h
 ·rename_i e;rw[e]
 ·cases h
theorem ZFt(h:mOk K C m=vJ):findIn K (.ref C) m=vQ (vQ (.ref (Cz K C m)))/\isFn K (.ref (Cz K C m))=vJ:=by
 unfold mOk at h;unfold Cz;split at h
 ·rename_i e;rw[e];exact⟨rfl,h⟩
 ·cases h
theorem ZDv(h:noF K C m=vJ):findIn K (.ref C) m=vQ vZ:=by
 unfold noF at h;split at h
 ·assumption
 ·cases h
theorem ZIn{n:Str}(h:zOk K n=vJ):nsIn K xy n=vQ vZ:=by
 unfold zOk at h;split at h
 ·assumption
 ·cases h
theorem ZFD(h:T8 K C=vJ):findIn K (.ref C) "__setattr__"=vQ (vQ (.builtin "object.__setattr__")):=by
 unfold T8 at h;split at h
 ·rename_i e;rw[e,beq_iff_eq.mp h]
 ·cases h
noncomputable def Du(K:xS)(n:Str):Tok:=match nsIn K xy n with
 |some (vQ (.int _ t))=>t
 |some (vQ (.str _ t))=>t
 |_=>0
theorem ZMU{n:Str}{v:Int}(h:iOk K n v=vJ):nsIn K xy n=vQ (vQ (.int v (Du K n))):=by
 unfold iOk at h;unfold Du;split at h
 ·rename_i e;rw[e,of_decide_eq_true h]
 ·cases h
theorem ZL8{n:Str}{v:Str}(h:sOk K n v=vJ):nsIn K xy n=vQ (vQ (.str v (Du K n))):=by
 unfold sOk at h;unfold Du;split at h
 ·rename_i e;rw[e,of_decide_eq_true h]
 ·cases h
abbrev FnSaid(K:xS)(x q:Str)(st:jM)(f:jC):Prop:=
 K.lookup f=vQ ⟨(Ht K f).cls,(Ht K f).dict,.func (fnOf x q (Hy st) (Ep st) (Bd st) .none (Bv K f).kwdefaults (Bv K f).doc (Bv K f).pyModule (Bv K f).annotations (Bv K f).code (Bv K f).closureTuple),(Ht K f).slots⟩/\
  codeIn K (Bv K f).code q=vJ/\keepIn K (.ref f)=vJ
theorem ZHC(h:V2 K x q f=vJ)(t:My K f=Mf st):FnSaid K x q st f:=by
 unfold V2 at h;split at h
 ·rename_i oc od fd sl e;have eo:Ht K f=⟨oc,od,.func fd,sl⟩:=by unfold Ht;rw[e]
  have ef:Bv K f=fd:=by unfold Bv;rw[eo]
  unfold My Mf at t;rw[ef]at t;obtain⟨t1,t2⟩:=Prod.mk.inj t;obtain⟨t2,t3⟩:=Prod.mk.inj t2;simp only[zZ,decide_eq_true_eq,beq_iff_eq,List.isEmpty_iff]at h;obtain⟨⟨⟨h1,h2⟩,⟨⟨h3,h4⟩,h5⟩,h6⟩,h7,h8⟩:=h;unfold FnSaid;rw[ef,eo,e];refine⟨?_,h7,h8⟩;have h6':fd.defaults=.none:=by
   revert h6
   generalize fd.defaults=df;intro h6
   cases df<;>first|rfl|cases h6
  have h9:fd.body=.stmts (Ep st):=by
   revert t2
   generalize fd.body=bd;intro t2
   cases bd<;>first|(cases t2;rfl)|(cases t2)
  have ef':fd=fnOf x q (Hy st) (Ep st) (Bd st) .none fd.kwdefaults fd.doc fd.pyModule fd.annotations fd.code fd.closureTuple:=by show FuncData.mk fd.name fd.qualname fd.params fd.body fd.scope fd.globals fd.closure fd.defaults fd.kwdefaults fd.doc fd.pyModule fd.annotations fd.code fd.closureTuple fd.builtins=_;rw[h1,h2,t1,h9,t3,h3,h5,h6',h4]
  exact congrArg (λz=>vQ (Obj.mk oc od (.func z) sl)) ef'
 ·cases h
abbrev DfSaid(K:xS)(d:jN)(v:Int):Prop:=∃T o t n,d=.ref T/\K.lookup T=vQ o/\o.data=.seq #[.int v t] n
theorem ZIU{d:jN}{v:Int}(h:dfl K d v=vJ):DfSaid K d v:=by
 unfold dfl at h;split at h
 ·rename_i T;split at h
  ·rename_i o e;split at h
   ·rename_i a n e2;split at h
    ·rename_i i t e3;cases of_decide_eq_true h;refine⟨T,o,t,n,rfl,e,?_⟩;rw[e2]
     congr 1
     rw[<-Array.toList_inj,e3]
    ·cases h
   ·cases h
  ·cases h
 ·cases h
abbrev FnSaidD(K:xS)(x q:Str)(st:jM)(f:jC)(v:Int):Prop:=
 K.lookup f=vQ ⟨(Ht K f).cls,(Ht K f).dict,.func (fnOf x q (Hy st) (Ep st) (Bd st) (Bv K f).defaults (Bv K f).kwdefaults (Bv K f).doc (Bv K f).pyModule (Bv K f).annotations (Bv K f).code (Bv K f).closureTuple),(Ht K f).slots⟩/\
  codeIn K (Bv K f).code q=vJ/\keepIn K (.ref f)=vJ/\DfSaid K (Bv K f).defaults v
theorem ZLC{v:Int}(h:ZAM K x q f v=vJ)(t:My K f=Mf st):FnSaidD K x q st f v:=by
 unfold ZAM at h;split at h
 ·rename_i oc od fd sl e;have eo:Ht K f=⟨oc,od,.func fd,sl⟩:=by unfold Ht;rw[e]
  have ef:Bv K f=fd:=by unfold Bv;rw[eo]
  unfold My Mf at t;rw[ef]at t;obtain⟨t1,t2⟩:=Prod.mk.inj t;obtain⟨t2,t3⟩:=Prod.mk.inj t2;simp only[zZ,decide_eq_true_eq,beq_iff_eq,List.isEmpty_iff]at h;obtain⟨⟨⟨h1,h2⟩,⟨⟨h3,h4⟩,h5⟩,h6⟩,h7,h8⟩:=h;unfold FnSaidD;rw[ef,eo,e];refine⟨?_,h7,h8,ZIU h6⟩;have h9:fd.body=.stmts (Ep st):=by
   revert t2
   generalize fd.body=bd;intro t2
   cases bd<;>first|(cases t2;rfl)|(cases t2)
  have ef':fd=fnOf x q (Hy st) (Ep st) (Bd st) fd.defaults fd.kwdefaults fd.doc fd.pyModule fd.annotations fd.code fd.closureTuple:=by show FuncData.mk fd.name fd.qualname fd.params fd.body fd.scope fd.globals fd.closure fd.defaults fd.kwdefaults fd.doc fd.pyModule fd.annotations fd.code fd.closureTuple fd.builtins=_;rw[h1,h2,t1,h9,t3,h3,h5,h4]
  exact congrArg (λz=>vQ (Obj.mk oc od (.func z) sl)) ef'
 ·cases h
theorem Vx:∀{l:List jN}{ss:List Str},strsOf l=vQ ss->Vals (ss.map V.str) l
 |[],ss,h=>by cases h;exact .nil
 |v::r,ss,h=>by
  unfold strsOf at h;split at h
  ·rename_i q;cases q
  ·rename_i s t r' q;cases q;obtain⟨ss',h1,rfl⟩:=z0.mp h;exact .cons ⟨_,rfl⟩ (Vx h1)
  ·cases h
abbrev GtSaid(K:xS)(n:Str)(vs:List Str):Prop:=∃(p:jC)(od:Option jC)(sl:Array (Option jN))(k:Nat)(its:List jN),nsIn K xy n=vQ (vQ (.ref p))/\K.lookup p=vQ ⟨.type "tuple",od,.seq its.toArray k,sl⟩/\its.length<=1000/\Vals (vs.map V.str) its
theorem ZOh{n:Str}{vs:List Str}(h:ZCb K n vs=vJ):GtSaid K n vs:=by
 unfold ZCb at h;split at h
 ·rename_i p e;split at h
  ·rename_i t od its k sl e2;simp only[zZ,beq_iff_eq,decide_eq_true_eq]at h;obtain⟨⟨rfl,h2⟩,h3⟩:=h;exact⟨p,od,sl,k,its.toList,e,by rw[e2],qR h3,Vx h2⟩
  ·cases h
 ·cases h
abbrev GdSaid(K:xS)(n:Str)(kvs:List (Str×Str)):Prop:=∃(p:jC)(od:Option jC)(sl:Array (Option jN))(k:Nat)(es:Array DictEntry),nsIn K xy n=vQ (vQ (.ref p))/\K.lookup p=vQ ⟨.type "dict",od,.dict es k,sl⟩/\(p==sysModules)=vX/\Vals ((kvs.map (·.1)).map V.str) (es.toList.map (·.key))/\Vals ((kvs.map (·.2)).map V.str) (es.toList.map (·.val))
theorem ZN4{n:Str}{kvs:List (Str×Str)}(h:ZAa K n kvs=vJ):GdSaid K n kvs:=by
 unfold ZAa at h;split at h
 ·rename_i p e;split at h
  ·rename_i t od es k sl e2;simp only[zZ,beq_iff_eq,decide_eq_true_eq,Bool.not_eq_true']at h;obtain⟨⟨⟨rfl,h2⟩,h3⟩,h4⟩:=h;exact⟨p,od,sl,k,es,e,by rw[e2],h2,Vx h3,Vx h4⟩
  ·cases h
 ·cases h
def Ask.Said(K:xS):Ask->Prop
 |.fn n st=>nsIn K xy n=vQ (vQ (.ref (Ab K n)))/\FnSaid K n n st (Ab K n)
 |.mt c m q st=>findIn K (.ref (Ab K c)) m=vQ (vQ (.ref (Cz K (Ab K c) m)))/\isFn K (.ref (Cz K (Ab K c) m))=vJ/\FnSaid K m q st (Cz K (Ab K c) m)
 | .cl c=>nsIn K xy c=vQ (vQ (.ref (Ab K c)))/\plainGet K (Ab K c) Str.empty=vJ/\hasDictIn K (Ab K c)=vJ/\plainOver K (Ab K c)=vJ/\
   findIn K (.ref (Ab K c)) "__setattr__"=vQ (vQ (.builtin "object.__setattr__"))/\makesIn K (Ab K c)=vJ/\keepIn K (.ref (Ab K c))=vJ
 |.no c x=>findIn K (.ref (Ab K c)) x=vQ vZ
 |.z n=>nsIn K xy n=vQ vZ
 |.gi n v=>nsIn K xy n=vQ (vQ (.int v (Du K n)))
 |.gs n v=>nsIn K xy n=vQ (vQ (.str v (Du K n)))
 |.gt n vs=>GtSaid K n vs
 |.gd n kvs=>GdSaid K n kvs
 |.ck φ=>φ K=vJ
 |.fd n st v=>nsIn K xy n=vQ (vQ (.ref (Ab K n)))/\FnSaidD K n n st (Ab K n) v
theorem Ask.said:∀{a:Ask},a.chk K=vJ->a.txt K=a.want->a.Said K
 |.fn n st,h,t=>by obtain⟨h1,h2⟩:=zP.mp h;exact⟨Ke h1,ZHC h2 (Option.some.inj t)⟩
 |.mt c m q st,h,t=>by obtain⟨h1,h2⟩:=zP.mp h;exact⟨(ZFt h1).1,(ZFt h1).2,ZHC h2 (Option.some.inj t)⟩
 |.cl c,h,_=>by simp only[Ask.chk,zZ]at h;obtain⟨⟨h1,⟨h2,h3⟩,h4⟩,⟨h5,h6⟩,h7⟩:=h;exact⟨Ke h1,h2,h3,h4,ZFD h5,h6,h7⟩
 |.no c x,h,_=>ZDv h
 |.z n,h,_=>ZIn h
 |.gi n v,h,_=>ZMU h
 |.gs n v,h,_=>ZL8 h
 |.gt n vs,h,_=>ZOh h
 |.gd n kvs,h,_=>ZN4 h
 |.ck _,h,_=>h
 |.fd n st v,h,t=>by obtain⟨h1,h2⟩:=zP.mp h;exact⟨Ke h1,ZLC h2 (Option.some.inj t)⟩
def AllSaid(K:xS):List Ask->Prop
 |[]=>True
 |a::r=>a.Said K/\AllSaid K r
theorem ZFu:∀{l:List Ask},(l.all (Ask.chk K),l.map (Ask.txt K))=(vJ,l.map Ask.want)->AllSaid K l
 |[],_=>trivial
 |a::r,h=>by obtain⟨h1,h2⟩:=Prod.mk.inj h;rw[jX]at h1;obtain⟨h3,h4⟩:=zP.mp h1;rw[zk,zk]at h2;obtain⟨h5,h6⟩:=List.cons.inj h2;exact⟨Ask.said h3 h5,ZFu (by rw[h4,h6])⟩
theorem ZKi{a:Str}{fd:jF}{s:jL}{v:jN}(F:Fun K x q st f fd)
  (h:∀(kV doc pm:jN)(an:Option jC)(cdv ct:jN)(u:jN),bindArgs (fnOf x q (Hy st) (Ep st) (Bd st) .none kV doc pm an cdv ct) ⟨[u],[]⟩=pure [(a,u)]):BindsTo s fd ⟨[v],[]⟩ [(a,v)]:=by
 obtain⟨oc,od,kV,doc,pm,an,cdv,ct,osl,rfl,lk,hcd⟩:=F.ex;exact .of_eq (h kV doc pm an cdv ct v)
theorem ZG7{p:jH}{w:jO}{n₀:Nat}{ann:Option jN}:∀{n:Nat}{s s':SharedT}{t:Thread},Y5 p w n₀ ann n s t=vQ s'->topRun xE p w n₀ ann n s.abs t=vQ s'.abs
 |0,_,_,_,h=>by cases h
 | n+1,s,s',t,h=>by
  unfold Y5 at h;unfold topRun;rw[<-PySem.W.Fast.te6613529449190102663,<-PySem.W.Fast.te10156331382660048174,<-PySem.W.Fast.te11892475500146522536,<-PySem.W.Fast.te14364793385576792824]at h;cases ht:through t with
  |true=>
   rw[ht]at h;cases h
   rfl
  | false=>
   rw[ht]at h;dsimp only at h⊢;cases ho:stepOk n₀ ann t with
   |false=>rw[ho]at h;cases h
   |true=>
    rw[ho]at h;dsimp only at h⊢;split at h
    ·rename_i s2 t2 e;rw[stepT_spec e];exact ZG7 h
    ·cases h
theorem boot_abs:∀w os,(ZEU w os).abs=⟨xT w.params,Array.mk [],boot_drawn,boot_toks,os⟩:=λw os=>by kernel_rfl
theorem ZME:∀w:jO,((xT w.params).isNs xy&&(Array.mk []:Array GenState).size==0)=vJ:=λw=>by kernel_rfl
theorem ZIO{p q:jH}{loose:List Str}{Xt:jL->Bool}{β:Type}{see:Heap->β}{val:β}(e:opening p=plainProg p.main.scope.names)(f:∀s,fenceModules? p s=vQ s)
  (R:∀w os,(ZDq p w os).map (λs=>(ZAW p w s.abs,PySem.W.Fast.tw4187177175401517315 q loose (PySem.W.Fast.tw5923862056798008813 p.main.body) Xt vJ s.abs,see s.abs.heap))=vQ (vJ,openGood q loose,val)):
  ∀w,(openEnds xE p w 100000).map (λs=>(openSeen q loose (xV p.main.body) Xt vJ s,see s.heap))=vQ (openGood q loose,val):=λw=>by
 obtain⟨⟨h,gs,d,k,os⟩,h0,e0⟩:=z0.mp (boot_open (N:=100000) e rfl f w);obtain⟨rfl,rfl,rfl,rfl⟩:h=xT w.params/\gs=Array.mk []/\d=boot_drawn/\k=boot_toks:=by simpa using e0
 obtain⟨s,h1,h2⟩:=z0.mp (R w os);obtain⟨h3,h4⟩:=Prod.mk.inj h2;obtain⟨h4,h5⟩:=Prod.mk.inj h4;unfold ZDq at h1;have r:=ZG7 h1;rw[boot_abs,<-PySem.W.Fast.te8920871248978507458]at r;rw[<-PySem.W.Fast.te4187177175401517315,<-PySem.W.Fast.te5923862056798008813]at h4;unfold ZAW at h3;rw[<-PySem.W.Fast.te5923862056798008813]at h3;have t:topFrom xE p w 100000 ⟨xT w.params,Array.mk [],boot_drawn,boot_toks,os⟩=vQ s.abs:=by
  unfold topFrom;dsimp only;rw[ZME,r]
  show(match staticsOk (xV p.main.body) (xT w.params) s.abs.heap&&namesBound p s.abs.heap&&gensDone s.abs&&laidKept (xT w.params) s.abs.heap with |true=>_|false=>_)=_
  rw[h3]
 unfold openEnds;rw[h0];show(topFrom xE p w 100000 _).map _=_;rw[t];exact congrArg vQ (Prod.ext h4 h5)
theorem ZI6{l:OpenLaw}(h:PySem.W.Fast.tw9446332074065402090 l=vJ):l.wellSaid=vJ:=by rw[PySem.W.Fast.te9446332074065402090];exact h
structure FT (K:xS) (mg:Str->Option jN) (n:Str) (st:jM) (ps:List Str):Prop where
 F:Fun K n n st (Ab K n) (Bv K (Ab K n))
 b:Binds K (Bv K (Ab K n)) ps []
 m:mg n=vQ (.ref (Ab K n))
 k:keepIn K (.ref (Ab K n))=vJ
structure MT (K:xS) (c m q:Str) (st:jM) (ps:List Str):Prop where
 F:Fun K m q st (Cz K (Ab K c) m) (Bv K (Cz K (Ab K c) m))
 b:Binds K (Bv K (Cz K (Ab K c) m)) ps []
 me:Meth K (Ab K c) m (Cz K (Ab K c) m)
theorem Ql(s:FnSaid K x q st f):Fun K x q st f (Bv K f):=by
 have e:Bv K f=fnOf x q (Hy st) (Ep st) (Bd st) .none (Bv K f).kwdefaults (Bv K f).doc (Bv K f).pyModule (Bv K f).annotations (Bv K f).code (Bv K f).closureTuple:=by
  have h:=s.1
  conv=>lhs;unfold Bv Ht;rw[h]
 exact⟨⟨_,_,_,_,_,_,_,_,_,e,by rw[e];exact s.1,s.2.1⟩,s.2.2⟩
theorem Cq{h:Heap}{mg:Str->Option jN}{n:Str}{ps:List Str}(X:K.In h)(G:h.Ns xy mg)(s:Ask.Said K (.fn n st))
  (hb:∀(kV doc pm:jN)(an:Option jC)(cdv ct:jN)(us:List jN),us.length=ps.length->bindArgs (fnOf n n (Hy st) (Ep st) (Bd st) .none kV doc pm an cdv ct) ⟨us,[]⟩=pure (ps.zip us)):FT K mg n st ps:=
 ⟨Ql s.2,(Ql s.2).binds hb,mg_of X G s.1,s.2.2.2⟩
theorem Ry{c:Str}{ps:List Str}(s:Ask.Said K (.mt c m q st))
  (hb:∀(kV doc pm:jN)(an:Option jC)(cdv ct:jN)(us:List jN),us.length=ps.length->bindArgs (fnOf m q (Hy st) (Ep st) (Bd st) .none kV doc pm an cdv ct) ⟨us,[]⟩=pure (ps.zip us)):MT K c m q st ps:=
 ⟨Ql s.2.2,(Ql s.2.2).binds hb,s.1,s.2.1,s.2.2.2.2⟩
abbrev FnO(P:jH)(w:jO)(K:xS)(mg:Str->Option jN)(base:Heap)(k:Nat)(n:Str)(ps:List Str)(F:List D->DH->R D):Prop:=FnOk P w K mg base CX0 k (Ab K n) (Bv K (Ab K n)) ps (lF K F)
theorem ZOt{fd:jF}{s:jL}{v:jN}{a:Str}(F:Fun K x q st f fd)
  (h:∀(kV doc pm:jN)(an:Option jC)(cdv ct:jN)(u:jN),bindArgs (fnOf x q (Hy st) (Ep st) (Bd st) .none kV doc pm an cdv ct) ⟨[u],[]⟩=pure [(a,u)]:=by intros;rfl):BindsTo s fd ⟨[v],[]⟩ [(a,v)]:=ZKi F h
end _D
namespace _D
open PySem PySem.Spec _L
open PyProof.Rows hiding St
variable{k i:Nat}{st:jM}{ps N:List Str}{F:List D->DH->R D}{cls:jN}{od:Option jC}{P:jH}{w:jO}{h base:Heap}{C f:jC}{H:Hp}{mg:Str->Option jN}{qual:Str}{fd:jF}{s:jL}{b:Wd}{G:DH}{fill expr:Bool}
section
variable{prog:jH}{w:jO}{A:jD}{E:jN->jL->Prop}{s:jL}
end
section
variable{X:Cx}{E:XK}{p:jC}{kvs:List (Str×Str)}{x:Str}{a:jE}{ta:DE}{np pos:Pos}
end
noncomputable def Ec:D->Option V
 |.int i=>vQ (.int i)
 |.str x=>vQ (.str x)
 |_=>vZ
section
variable{X:Cx}{E:XK}{pos:Pos}
end
section
variable{S:DSt}{G:DH}
end
theorem Bs{X:Cx}{j:Nat}{n:Str}{p pos:Pos}{e:jE}{es:List jE}{tr:DA}(FF:FnO X.prog X.w X.K X.mg X.base k n ps F)(T:FT X.K X.mg n st ps)(hr:Room j X.A)(ha:QA X E0 (e::es) tr)
  (hj:k<=j:=by decide) (hg:Gl X n:=by exact rfl) (hd:(n==("__debug__":Str))=vX:=by decide) (he:notStar e=vJ:=by exact rfl) (hp:es.all notStar=vJ:=by exact rfl):QE X E0 (.Call (.Name n p) (e::es) [] pos) (dFn F tr):=
 ZK2 FF (hr.mono hj) hg T.m T.k T.b pass0 ha hd he hp
theorem ZO3{f:Array jN->Array jN}{o:Obj}:(Obj.mapFields f o).dict=o.dict:=by
 obtain⟨c,d,dt,sl⟩:=o;unfold Obj.mapFields
 cases dt<;>rfl
def Trc(h B:Heap)(e:jC)(cls:jN)(od:Option jC)(fl:jN):Prop:=
 ∃oe vs T oT ts,h.get? e=vQ oe/\(oe.cls=cls/\oe.dict=od)/\oe.data=.fields vs/\vs[1]?=vQ (.ref T)/\(B.get? T=vZ/\T≠e)/\h.get? T=vQ oT/\oT.data=.fields ts/\ts[3]?=vQ fl
structure Noted (B:Heap) (l:List Env) (e:jC) (cls:jN) (od:Option jC) (fl:jN) (h h':Heap):Prop where
 st:B.StaysIn h'
 fr:h'.FunFrames B l
 tr:Trc h' B e cls od fl
 up:∀b o,h.get? b=vQ o->(∀vs,o.data≠ .fields vs)->∃sl,h'.get? b=vQ {o with slots:=sl}
 th:∀b o,h.get? b=vQ o->∃o',h'.get? b=vQ o'
section
variable{M:Model}{A:jD}{E:jN->jL->Prop}{s:jL}{B:Heap}{env:Env}{outer:List Env}{L e:jC}{oe:Obj}{vs:Array jN}{head:jN}{hn:Bool}{Q:Unit->jL->Prop}
theorem ZGG(fr:A.frames=vQ (env::outer))(hl:s.heap.FunFrames B (env::outer))(hf:env.frame=vQ L)(he:s.heap.get? e=vQ oe)(hk:B.StaysIn s.heap)(hb:B.get? e=vZ)(hd:oe.data=.fields vs)(hz:1<vs.size)
  (q:∀h',Noted B (env::outer) e oe.cls oe.dict (xA L) s.heap h'->Q () {s with heap:=h'}):
  xF M A (do let a<-frameOf env;let pl<-entryPlaceOf L hn;let b<-EntryCells.newEntry head a .none (xA L) .none pl;setField (.ref e) 1 b) Q E s:=by
 have ne:e∉(env::outer).filterMap (·.frame):=λhm=>by obtain⟨_,o,ho,nf⟩:=hl.mem hm;rw[he]at ho;cases ho;exact nf vs hd
 refine xH (wpAny_frameOf_fun fr hl hf λh1 k1=>?_);refine xH (wpAny_entryPlaceOf λpl hp=>?_);unfold EntryCells.newEntry newFields;refine xH (xN ?_ (hp.sizeOk5 _ _ _ _ _));generalize hO:({cls:=.type "traceback",dict:=vZ,data:=.fields ([head,.ref L,.none,xA L,.none]++(if pl.isEmpty then zY 6 Value.none else pl)).toArray}:Obj)=O;have hOd:O.data=.fields ([head,.ref L,.none,xA L,.none]++(if pl.isEmpty then zY 6 Value.none else pl)).toArray:=by rw[<-hO]
 have e1:h1.get? e=vQ oe:=(k1.2.1 e ne).trans he;have b1:B.StaysIn h1:=λb o hbo=>(k1.2.1 b λhm=>by rw[(hl.mem hm).1]at hbo;cases hbo).trans (hk b o hbo)
 have e2:(h1.push O).get? e=vQ oe:=zX O e1;refine wpAny_setField e2 hd hz (q _ ?_);have nTe:h1.objs.size≠e:=Nat.ne_of_gt (zj e1)
 have d3:=Obj.data_mapFields hd (·.setIfInBounds 1 (Value.ref h1.objs.size))
 have e3:=q8 (Obj.mapFields (·.setIfInBounds 1 (Value.ref h1.objs.size))) e2 (Obj.isFreed_of_fields d3)
 have t3:=(qV (h1.push O) (Obj.mapFields (·.setIfInBounds 1 (Value.ref h1.objs.size))) (Ne.symm nTe)).trans (zG h1 (by rw[<-hO];rfl))
 have keep:∀b o,b≠e->h1.get? b=vQ o->((h1.push O).update e (Obj.mapFields (·.setIfInBounds 1 (Value.ref h1.objs.size)))).get? b=vQ o:=λb o n hb'=>by rw[qV _ _ (Ne.symm n)];exact zX _ hb'
 have nf:∀b o,s.heap.get? b=vQ o->(∀vs,o.data≠ .fields vs)->b≠e:=λb o hb' n z=>by rw[z,he]at hb';cases hb';exact n vs hd
 have fresh:B.get? h1.objs.size=vZ:=b1.fresh;refine⟨λb o hbo=>keep b o (λz=>by rw[z,hb]at hbo;cases hbo) (b1 b o hbo),hl.of_keeps λb o hb' n=>?_,⟨_,_,h1.objs.size,_,_,e3,⟨Obj.cls_mapFields _ _,ZO3⟩,d3,by simp[hz],⟨fresh,nTe⟩,t3,hOd,by simp⟩,λb o hb' n=>?_,λb o hb'=>?_⟩
 ·obtain⟨sl,hs⟩:=k1.2.2 b o hb';exact⟨_,keep b _ (nf b o hb' n) hs,rfl⟩
 ·obtain⟨sl,hs⟩:=k1.2.2 b o hb';exact⟨sl,keep b _ (nf b o hb' n) hs⟩
 ·obtain⟨sl,hs⟩:=k1.2.2 b o hb';by_cases z:b=e
  ·subst z;exact⟨_,e3⟩
  ·exact⟨_,keep b _ z hs⟩
theorem ZH8(fr:A.frames=vQ (env::outer))(hl:s.heap.FunFrames B (env::outer))(hf:env.frame=vQ L)(he:s.heap.get? e=vQ oe)(hk:B.StaysIn s.heap)(hb:B.get? e=vZ)(hd:oe.data=.fields vs)(h1:vs[1]?=vQ .none)
  (q:∀h',Noted B (env::outer) e oe.cls oe.dict (xA L) s.heap h'->Q () {s with heap:=h'}):xF M A (noteFrame (.ref e) env) Q E s:=by
 unfold noteFrame;simp only[hf];refine xH (xI he hd h1 ?_);rw[if_neg (by decide)];exact ZGG fr hl hf he hk hb hd (zT.mp h1).1 q
theorem ZG2(fr:A.frames=vQ (env::outer))(hl:s.heap.FunFrames B (env::outer))(hf:env.frame=vQ L)(ht:Trc s.heap B e cls od .none)(hk:B.StaysIn s.heap)(hb:B.get? e=vZ)
  (q:∀h',Noted B (env::outer) e cls od (xA L) s.heap h'->Q () {s with heap:=h'}):xF M A (noteFrame (.ref e) env) Q E s:=by
 obtain⟨oe,vs,T,oT,ts,he,⟨rfl,rfl⟩,hd,h1,⟨nT,nTe⟩,hT,dT,h3⟩:=ht;unfold noteFrame;simp only[hf];refine xH (xI he hd h1 ?_)
 rw[if_pos (show(Value.ref T != Value.none)=vJ from by simp)]
 refine xH (xI hT dT h3 ?_)
 rw[if_neg (show¬((Value.none==xA L)=vJ)from by simp[xA])]
 refine xH (wpAny_setField hT dT (zT.mp h3).1 ?_)
 have oth:∀b,b≠T->(s.heap.update T (Obj.mapFields (·.setIfInBounds 3 Value.none))).get? b=s.heap.get? b:=λb n=>qV _ _ (Ne.symm n)
 have nf:∀b o,s.heap.get? b=vQ o->(∀vs,o.data≠ .fields vs)->b≠T:=λb o hb' n z=>by rw[z,hT]at hb';cases hb';exact n ts dT
 refine ZGG fr (hl.of_keeps λb o hb' n=>⟨o,(oth b (nf b o hb' n)).trans hb',rfl⟩) hf ((oth e (Ne.symm nTe)).trans he)
  (λb o hbo=>(oth b λz=>by rw[z,nT]at hbo;cases hbo).trans (hk b o hbo)) hb hd (zT.mp h1).1
  λh' n=>q h' ⟨n.st,n.fr,n.tr,λb o hb' nn=>n.up b o ((oth b (nf b o hb' nn)).trans hb') nn,λb o hb'=>?_⟩
 by_cases z:b=T
 ·subst z;exact n.th b _ (q8 _ hT (Obj.isFreed_of_fields (Obj.data_mapFields dT _)))
 ·exact n.th b o ((oth b z).trans hb')
theorem ZDI{fl:jN}{l:List Env}(hl:s.heap.FunFrames B l)(ht:Trc s.heap B e cls od fl)(hk:B.StaysIn s.heap)
  (q:∀h',Noted B l e cls od .none s.heap h'->Q () {s with heap:=h'}):xF M A (setFlight (.ref e) vZ) Q E s:=by
 obtain⟨oe,vs,T,oT,ts,he,⟨rfl,rfl⟩,hd,h1,⟨nT,nTe⟩,hT,dT,h3⟩:=ht;unfold setFlight;refine xH (xI he hd h1 ?_)
 rw[if_pos (show(Value.ref T != Value.none)=vJ from by simp)]
 refine wpAny_setField hT dT (zT.mp h3).1 (q _ ?_)
 have oth:∀b,b≠T->(s.heap.update T (Obj.mapFields (·.setIfInBounds 3 ((vZ:Option jC).elim Value.none λf=>xA f)))).get? b=s.heap.get? b:=λb n=>qV _ _ (Ne.symm n)
 have nf:∀b o,s.heap.get? b=vQ o->(∀vs,o.data≠ .fields vs)->b≠T:=λb o hb' n z=>by rw[z,hT]at hb';cases hb';exact n ts dT
 have dT':=Obj.data_mapFields dT (·.setIfInBounds 3 ((vZ:Option jC).elim Value.none λf=>xA f))
 have hT':=q8 (Obj.mapFields (·.setIfInBounds 3 ((vZ:Option jC).elim Value.none λf=>xA f))) hT (Obj.isFreed_of_fields dT')
 have z3:=(zT.mp h3).1;refine⟨λb o hbo=>(oth b λz=>by rw[z,nT]at hbo;cases hbo).trans (hk b o hbo),hl.of_keeps λb o hb' n=>⟨o,(oth b (nf b o hb' n)).trans hb',rfl⟩,
  ⟨oe,vs,T,_,_,(oth e (Ne.symm nTe)).trans he,⟨rfl,rfl⟩,hd,h1,⟨nT,nTe⟩,hT',dT',by simp[z3]⟩,λb o hb' n=>⟨o.slots,(oth b (nf b o hb' n)).trans hb'⟩,λb o hb'=>?_⟩
 by_cases z:b=T
 ·subst z;exact⟨_,hT'⟩
 ·exact⟨o,(oth b z).trans hb'⟩
theorem Noted.trans{l:List Env}{f1 f2:jN}{h1 h2 h3:Heap}(x:Noted B l e cls od f1 h1 h2)(y:Noted B l e cls od f2 h2 h3):Noted B l e cls od f2 h1 h3:=
 ⟨y.st,y.fr,y.tr,λb o hb n=>by
  obtain⟨sl,k⟩:=x.up b o hb n;obtain⟨sl',k'⟩:=y.up b _ k n;exact⟨sl',k'⟩,λb o hb=>by
  obtain⟨o',k⟩:=x.th b o hb;exact y.th b o' k⟩
theorem ZLu(fr:A.frames=vQ (env::outer))(hl:s.heap.FunFrames B (env::outer))(hf:env.frame=vQ L)(he:s.heap.get? e=vQ oe)(hk:B.StaysIn s.heap)(hb:B.get? e=vZ)(hd:oe.data=.fields vs)(h1:vs[1]?=vQ .none)
  (q:∀h',Noted B (env::outer) e oe.cls oe.dict .none s.heap h'->Q () {s with heap:=h'}):xF M A (leaving env (.ref e)) Q E s:=by
 unfold leaving;exact xH (ZH8 fr hl hf he hk hb hd h1 λh' n=>ZDI n.fr n.tr n.st λh'' n'=>q h'' (n.trans n'))
theorem ZJ5(fr:A.frames=vQ (env::outer))(hl:s.heap.FunFrames B (env::outer))(hf:env.frame=vQ L)(ht:Trc s.heap B e cls od .none)(hk:B.StaysIn s.heap)(hb:B.get? e=vZ)
  (q:∀h',Noted B (env::outer) e cls od .none s.heap h'->Q () {s with heap:=h'}):xF M A (leaving env (.ref e)) Q E s:=by
 unfold leaving;exact xH (ZG2 fr hl hf ht hk hb λh' n=>ZDI n.fr n.tr n.st λh'' n'=>q h'' (n.trans n'))
end
structure Fly (B:Heap) (l:List Env) (e:jC) (cls:jN) (od:Option jC) (H':Hp) (h:Heap):Prop where
 st:B.StaysIn h
 fr:h.FunFrames B l
 tr:Trc h B e cls od .none
 eb:B.get? e=vZ
 al:∀b,H' b≠vZ->∃o,B.get? b=vQ o
def CXx(P:jH)(w:jO):CXT:=λouter H s E e s'=>∃(ea:jC)(cls:jN)(od:Option jC)(H':Hp)(B:Heap),e=.ref ea/\s'.os=s.os/\AllBare s'.gens/\Un (frs outer) [] H H' s.heap s'.heap/\HOk P w H' s'.heap/\
 Fly B outer ea cls od H' s'.heap/\(∀b o,s.heap.get? b=vQ o->H b=vZ->b∉frs outer->B.get? b=vQ o)/\s.heap.get? ea=vZ/\E cls od H'/\∃C,cls=.ref C
section
variable{X:Cx}{xU:List (jC×Obj)}{σ:St}{H H':Hp}{s s':jL}{B h'':Heap}{ea:jC}{cls:jN}{od:Option jC}{E:XK}
theorem ZEe{h':Heap}(hok:HOk P w H' h)(al:∀b,H' b≠vZ->∃o,B.get? b=vQ o)(s1:B.StaysIn h)(s2:B.StaysIn h'):HOk P w H' h':=λa o e=>
 (hok a o e).stay (λb u hb q=>by
  have hn:H' b≠vZ:=by
   rcases hb with rfl|hb
   ·rw[e];simp
   ·rw[hb];simp
  obtain⟨o',k⟩:=al b hn;have k1:=s1 b o' k;rw[q]at k1;cases k1;exact s2 b u k) (λ_ q=>q) λ_ _ q=>q
theorem ZHM(I:Inv X xU σ H s)(hs:X.stack=X.env::X.outer)(hex:X.ex=[])(hfr:X.env.frame=vQ X.env.locals)(os:s'.os=s.os)(bare:AllBare s'.gens)(un:Un (frs X.stack) [] H H' s.heap s'.heap)(hok:HOk X.prog X.w H' s'.heap)
  (bb:∀b o,s.heap.get? b=vQ o->H b=vZ->b∉frs X.stack->B.get? b=vQ o) (al:∀b,H' b≠vZ->∃o,B.get? b=vQ o) (eb:B.get? ea=vZ) (st:B.StaysIn s'.heap) (new:s.heap.get? ea=vZ)
  (n:Noted B X.stack ea cls od .none s'.heap h'') (hE:E cls od H') (hc:∃C,cls=.ref C):CXx X.prog X.w X.outer X.H₀ X.s₀ E (.ref ea) {s' with heap:=h''}:=by
 have base:=I.base;rw[hex]at base;have fe:frs X.stack=X.env.locals::frs X.outer:=by rw[hs];unfold frs;rw[zO,hfr]
 have bb':∀b o,X.s₀.heap.get? b=vQ o->X.H₀ b=vZ->b∉frs X.outer->B.get? b=vQ o:=λb o q hn hb=>by
  refine bb b o (base.keep b o q hn hb (by simp)) (base.free b o q hn (by simp)) ?_;rw[fe];intro hm;rcases zz.mp hm with z|z
  ·exact absurd (zW (zj q) I.ok.above) (by rw[z];exact zR _)
  ·exact hb z
 have frO:h''.FunFrames B X.outer:=by have:=n.fr;rw[hs]at this;exact this.2.2
 refine⟨ea,cls,od,H',B,rfl,os.trans I.os,bare,⟨λb o q hn hb _=>n.st b o (bb' b o q hn hb),λb o q hn hb _=>?_,λb o q hn hx=>?_,λb o q hx=>?_,λb xs q=>un.tups b xs (base.tups b xs q),λb o u q=>un.frzs b o u (base.frzs b o u q),λb ps q=>?_⟩,ZEe hok al st n.st,⟨n.st,frO,n.tr,eb,al⟩,bb',?_,hE,hc⟩
 ·obtain⟨sl,k⟩:=base.slot b o q hn hb (by simp);have hm:b∈frs X.stack:=by rw[fe];exact zq _ hb
  obtain⟨sl',k'⟩:=un.slot b _ k (base.free b o q hn (by simp)) hm (by simp);obtain⟨_,o2,k2,nf⟩:=I.stack.mem hm;rw[k]at k2;cases k2;obtain⟨sl'',k3⟩:=n.up b _ k' nf;exact⟨sl'',k3⟩
 ·obtain⟨o1,k1⟩:=base.there b o q hx;exact un.free b o1 k1 (base.free b o q hn hx) hx
 ·obtain⟨o1,k1⟩:=base.there b o q hx;obtain⟨o2,k2⟩:=un.there b o1 k1 hx;exact n.th b o2 k2
 ·obtain⟨m1,k1⟩:=base.tbls b ps q;obtain⟨m2,k2⟩:=un.tbls b _ k1;exact⟨m1++m2,by rw[k2,Array.append_assoc]⟩
 ·cases q:X.s₀.heap.get? ea with
  |none=>rfl
  |some o=>
   obtain⟨o1,k1⟩:=base.there ea o q (by simp);rw[new]at k1;cases k1
def Ks(X:Cx)(E:XK):jN->jL->Prop:=λe s'=>xF (x9 X.prog X.w) X.A (leaving X.env e) (λ_ s''=>CXx X.prog X.w X.outer X.H₀ X.s₀ E e s'') (λe' s''=>CXx X.prog X.w X.outer X.H₀ X.s₀ E e' s'') s'
theorem ZMf(hs:X.stack=X.env::X.outer)(hex:X.ex=[])(hfr:X.env.frame=vQ X.env.locals)(I:Inv X xU σ H s){e:jN}(h:CXx X.prog X.w X.stack H s E e s'):Ks X E e s':=by
 obtain⟨ea,cls,od,H',B,rfl,os,bare,un,hok,fly,bb,new,hE,hc⟩:=h;have fr:=I.ok.frames;have ff:=fly.fr;unfold Ks;refine ZJ5 (B:=B) (L:=X.env.locals) (outer:=X.outer) (by rw[fr,hs]) (by rw[<-hs];exact ff) hfr fly.tr fly.st fly.eb λh'' n=>?_
 rw[<-hs]at n;exact ZHM I hs hex hfr os bare un hok bb fly.al fly.eb fly.st new n hE hc
theorem ZEA{a:jC}{o:HO}(x:ObjOk P w H h a o):∃ob,h.get? a=vQ ob:=by
 cases o with
 |lst xs=>obtain⟨_,_,_,_,e⟩:=x;exact⟨_,e⟩
 |tup xs=>obtain⟨_,_,_,_,e,_⟩:=x;exact⟨_,e⟩
 |dK kvs=>obtain⟨_,_,_,_,o,_,_,e,_⟩:=x;exact⟨_,e⟩
 |dT kvs=>obtain⟨_,_,_,_,o,_,_,e,_⟩:=x;exact⟨_,e⟩
 |set S n=>obtain⟨o,_,_,_,e,_⟩:=x;exact⟨_,e⟩
 |ins C dx fs=>obtain⟨_,_,_,e,_⟩:=x;exact⟨_,e⟩
 |own y=>exact x
 |xd fs=>obtain⟨_,⟨_,_,_,e,_⟩,_⟩:=x;exact⟨_,e⟩
 |rng lo hi=>obtain⟨_,_,_,e⟩:=x;exact⟨_,e⟩
 |frz ob u=>obtain⟨e,_⟩:=x;exact⟨_,e⟩
 |tbl ps=>exact⟨_,x⟩
 |met f y=>exact⟨_,x⟩
 |ext φ=>exact x.2.1
theorem ZGg{h':Heap}:∀{l:List Env},h.FunFrames base l->(∀b∈frs l,∀o,h.get? b=vQ o->∃sl,h'.get? b=vQ {o with slots:=sl})->h'.FunFrames base l
 |[],_,_=>trivial
 |env::r,⟨hk,⟨L,o,hf,hn,ho,hd⟩,hr⟩,k=>by
  have fe:frs (env::r)=L::frs r:=by unfold frs;rw[zO,hf]
  obtain⟨sl,z⟩:=k L (by rw[fe];exact zD) o ho;exact⟨hk,⟨L,_,hf,hn,z,hd⟩,ZGg hr λb hb o' ho'=>k b (by rw[fe];exact zq _ hb) o' ho'⟩
structure Made (X:Cx) (H:Hp) (s:jL) (ea:jC) (cls:jN) (od:Option jC) (s':jL) (H':Hp):Prop where
 os:s'.os=s.os
 bare:AllBare s'.gens
 un:Un (frs X.stack) [] H H' s.heap s'.heap
 hok:HOk X.prog X.w H' s'.heap
 ob:∃oe vs,s'.heap.get? ea=vQ oe/\oe.cls=cls/\oe.dict=od/\oe.data=.fields vs/\vs[1]?=vQ .none
 fe:H' ea=vZ
 new:s.heap.get? ea=vZ
theorem ZFC(hs:X.stack=X.env::X.outer)(hex:X.ex=[])(hfr:X.env.frame=vQ X.env.locals)(I:Inv X xU σ H s)(m:Made X H s ea cls od s' H')(hE:E cls od H')(hc:∃C,cls=.ref C):Ks X E (.ref ea) s':=by
 obtain⟨oe,vs,he,rfl,rfl,hd,h1⟩:=m.ob;have ne:ea∉frs X.stack:=λhm=>by obtain⟨_,o,ho,_⟩:=I.stack.mem hm;rw[m.new]at ho;cases ho
 have F':s'.heap.FunFrames X.base X.stack:=ZGg I.stack λb hb o ho=>m.un.slot b o ho (I.Va b hb) hb (by simp)
 have FB:s'.heap.FunFrames (PySem.W.hideAll s'.heap (ea::frs X.stack)) X.stack:=PySem.W.funFrames_hide F' λenv hm a q=>zq _ (List.mem_filterMap.mpr ⟨env,hm,q⟩)
 have eb:(PySem.W.hideAll s'.heap (ea::frs X.stack)).get? ea=vZ:=by exact PySem.W.hideAll_none _ zD
 have st:(PySem.W.hideAll s'.heap (ea::frs X.stack)).StaysIn s'.heap:=λb o q=>PySem.W.of_hideAll _ q
 have bb:∀b o,s.heap.get? b=vQ o->H b=vZ->b∉frs X.stack->(PySem.W.hideAll s'.heap (ea::frs X.stack)).get? b=vQ o:=λb o q hn hb=>PySem.W.hideAll_get _ (m.un.keep b o q hn hb (by simp)) λhm=>by
  rcases zz.mp hm with z|z
  ·rw[z,m.new]at q;cases q
  ·exact hb z
 have al:∀b,H' b≠vZ->∃o,(PySem.W.hideAll s'.heap (ea::frs X.stack)).get? b=vQ o:=λb hb=>by
  cases q:H' b with
  |none=>exact absurd q hb
  |some u=>
   obtain⟨o,k⟩:=ZEA (m.hok b u q);refine⟨o,PySem.W.hideAll_get _ k λhm=>?_⟩;rcases zz.mp hm with z|z
   ·rw[z,m.fe]at q;cases q
   ·obtain⟨_,o1,k1,_⟩:=I.stack.mem z;rw[m.un.free b o1 k1 (I.Va b z) (by simp)]at q;cases q
 unfold Ks;refine ZLu (B:=PySem.W.hideAll s'.heap (ea::frs X.stack)) (L:=X.env.locals) (outer:=X.outer) (by rw[I.ok.frames,hs]) (by rw[<-hs];exact FB) hfr he st eb hd h1 λh'' n=>?_
 rw[<-hs]at n;exact ZHM I hs hex hfr m.os m.bare m.un m.hok bb al eb st m.new n hE hc
end
section
variable{prog:jH}{w:jO}{A:jD}{E:jN->jL->Prop}{h:Heap}{g:Array GenState}{d:Drawn}{t:Nat}{os:OsState}
variable{nm q:Str}{C N:jC}{bs bm bmB:List jN}{hdct:Bool}{sn:List Str}{sub:List jN}{ab:Bool}{col:Option Bool}{dd:Option jC}{k0 k1 k2 k3 k5:Option jN}{B newId initId:String}
theorem ZKJ(F:ExcBaseFacts B newId initId bmB)(T:OwnTail h bmB bm){mN:Str->Option jN}{rest:List jN}{fI:jC}{oI:Obj}{Q:Fin->jL->Prop}
  (hC:h.get? C=vQ (excClassObj nm q C N bs bm hdct sn sub ab col dd k0 k1 k2 k3 k5 newId)) (hn:h.Ns N mN) (hi:mN "__init__"=vQ (.ref fI)) (hfI:h.get? fI=vQ oI) (hfc:oI.cls=.type "function")
  (hq:∀h' e,Heap.MadeExcOf h h' e (.ref C) rest->h.objs.size<=e->xF (x9 prog w) A (call (.ref fI) (.ref e::rest)) (λr s'=>r=.none/\Q (.done (.ret (.ref e))) s') E ⟨h',g,d,t,os⟩) (hr:rest.length<=sizeLine):
  xF (x9 prog w) A (Builtin.«type.__call__» ⟨.ref C::rest,[]⟩) Q E ⟨h,g,d,t,os⟩:=by
 repeat (first|with_reducible refine wpAny_loadPart_at hC ?_|with_reducible refine wpAny_madeBy_exc hC ?_|wp_step)
 refine codeAny_call_builtin_code (Code.quiet_builtin _ F.quiet) (wpAny_check_new_subT F T hC ?_);refine codeAny_exc_new_subT F T hC ?_ hr;show xF _ _ _ _ _ _;generalize hO1:({cls:=.type "tuple",data:=.seq rest.toArray}:Obj)=O1;generalize hO2:({cls:=.ref C,data:=.fields #[.ref h.objs.size,.none,.none,.none,.bool vX,.none]}:Obj)=O2;have kp:∀b o,h.get? b=vQ o->((h.push O1).push O2).get? b=vQ o:=λb o z=>zX _ (zX _ z)
 have hC1:=kp _ _ hC;have hf1:=kp _ _ hfI;have hn1:((h.push O1).push O2).Ns N mN:=hn.keeps kp;have T1:=T.keeps kp;have hg:((h.push O1).push O2).get? (h.objs.size+1)=vQ O2:=Heap.get?_push_at (by simp only[jA]) (by rw[<-hO2];rfl);have hc2:O2.cls=.ref C:=by rw[<-hO2]
 have cc:(Value.ref C::bm).contains (.ref C)=vJ:=by simp
 unfold isInstance
 repeat (first|(with_reducible refine wpAny_loadPart_at hg ?_;rw[hc2])|(with_reducible refine wpAny_isSubtype_exc hC1 ?_;rw[cc])|wp_step)
 show xF _ _ (typeLookup (.ref C) _) _ _ _;refine wpAny_typeLookup_tail hC1 hn1 T1 F.mroIs F.init.lookup ?_;rw[hi];refine xL (xH ?_);unfold bindSpecial;refine xH (wpAny_typeOf (T:="function") ⟨_,hf1,hfc⟩ ?_);rw[if_pos (by decide)];refine xP (xH (xM (hq _ (h.objs.size+1) ⟨kp,j8 (jK _),h.objs.size,by rw[hg,<-hO2],j8 (zx _),?_⟩ ?_) (λr s' z=>?_) λ_ _ x=>x))
 ·rw[<-hO1];exact zX _ (Heap.get?_push_at rfl rfl)
 ·exact jK _
 ·obtain⟨rfl,hQ⟩:=z
  wp_walk
  exact hQ
theorem ZKA(F:ExcBaseFacts B newId initId bmB)(T:OwnTail h bmB bm){mN:Str->Option jN}{rest:List jN}{fI:jC}{oI:Obj}{Q:jN->jL->Prop}
  (hC:h.get? C=vQ (excClassObj nm q C N bs bm hdct sn sub ab col dd k0 k1 k2 k3 k5 newId)) (hn:h.Ns N mN) (hi:mN "__init__"=vQ (.ref fI)) (hfI:h.get? fI=vQ oI) (hfc:oI.cls=.type "function")
  (hq:∀h' e,Heap.MadeExcOf h h' e (.ref C) rest->h.objs.size<=e->xF (x9 prog w) (A.under (.builtin "type.__call__" ⟨.ref C::rest,[]⟩)) (call (.ref fI) (.ref e::rest)) (λr s'=>r=.none/\Q (.ref e) s') E ⟨h',g,d,t,os⟩) (hr:rest.length<=sizeLine):
  xF (x9 prog w) A (call (.ref C) rest) Q E ⟨h,g,d,t,os⟩:=by
 have f1:=tc_lookup;have f2:=tc_bind (.ref C);have hT:(⟨h,g,d,t,os⟩:jL).TypeIs (.ref C) "type":=⟨_,hC,rfl⟩;refine wpAny_call (codeAny_of_tree ?_);show xF _ _ (callAny (.ref C) _) _ _ _
 repeat (any_goals (first|assumption|with_reducible refine wpAny_loadPart_at hC ?_|wp_step))
 refine⟨rfl,?_⟩;refine codeAny_call_builtin_at (Code.quiet_builtin _ (by decide +kernel)) entry_typeCall (wpAny_check_type_call_sub hC (ZKJ F T hC hn hi hfI hfc (λh' e hm he=>?_) hr));exact hq h' e hm he
end
theorem ZJ6{K:PySem.W.Frag}{N:jC}{m:Str->Option jN}{n:Str}{v:jN}(X:K.In h)(G:h.Ns N m)(e:PySem.W.nsIn K N n=vQ (vQ v)):m n=vQ v:=by
 obtain⟨o,es,ep,ho,hd,_,hf⟩:=G;unfold PySem.W.nsIn at e;split at e
 ·rename_i c d es' n' sl q;have:=X _ _ q;rw[ho]at this;cases this;cases hd;split at e
  ·rename_i y he;rw[<-hf];unfold nsFind findBy;rw[<-Array.find?_toList,he];exact Option.some.inj e
  ·split at e<;>cases e
 ·cases e
theorem Mh{K:PySem.W.Frag}(X:K.In h)(q:Ge K C=vJ):∃bm N nm qn bs sn sub ab col dd k0 k1 k2 k3 k5,h.get? C=vQ (excClassObj nm qn C N bs bm vJ sn sub ab col dd k0 k1 k2 k3 k5 "ValueError.__new__")/\OwnTail h vmro bm/\
  (∃m,h.Ns N m/\∀f,Mu K C f=vJ->m "__init__"=vQ (.ref f)):=by
 unfold Ge at q;split at q
 ·rename_i dd cd sl ho;split at q
  ·rename_i C' bm k0 k1 k2 k3 n k5 hm hs;simp only[zZ,beq_iff_eq,Bool.not_eq_true']at q;obtain⟨⟨⟨⟨⟨rfl,rfl⟩,hdel⟩,hdc⟩,ht⟩,hok⟩:=q;have hi:∀f,Mu K C' f=vJ->PySem.W.nsIn K cd.ns "__init__"=vQ (vQ (.ref f)):=λf z=>by unfold Mu at z;rw[ho]at z;exact beq_iff_eq.mp z
   obtain⟨nm,bs,mro,ns,qn,hd,sn,sub,ab,col,del⟩:=cd;dsimp only at hm hdel hok hdc hi;subst hm hdel hdc;have hsl:sl= #[k0,k1,k2,k3,vQ (.builtin "ValueError.__new__"),k5]:=by obtain⟨l⟩:=sl;simp only at hs;rw[hs]
   subst hsl;exact⟨bm,ns,nm,qn,bs,sn,sub,ab,col,dd,k0,k1,k2,k3,k5,X _ _ ho,PySem.W.tail_of_in X ht,_,.of_isNs (PySem.W.isNs_of_in X hok),λf z=>ZJ6 X (.of_isNs (PySem.W.isNs_of_in X hok)) (hi f z)⟩
  ·cases q
 ·cases q
noncomputable def exO(C:jC)(od:Option jC)(t:jC):Obj:={cls:=.ref C,dict:=od,data:=.fields #[.ref t,.none,.none,.none,.bool vX,.none]}
def exo(e C:jC)(od:Option jC)(h:Heap):Prop:=∃t,h.get? e=vQ (exO C od t)
theorem ZBR{e:jC}(x:exo e C od h):ObjOk P w H h e (.ext (exo e C od)):=
 ⟨x,let⟨t,k⟩:=x;⟨_,k⟩,λh1 h2 ⟨t,k⟩ s=>⟨t,s _ k⟩⟩
section
variable{X:Cx}{C W:jC}{x:Str}{mc:jN}{p apos pos:Pos}{a1 a2:jE}{t:TA}
noncomputable def tBI(C:jC)(t:TA):TE:=λσ H Q=>t σ H λvs H1=>∃e v,vs=[.ref e,v]/\H1 e=vQ (.ext (exo e C vZ))/\Q .non H1
theorem ZKm{a:jC}{o:HO}(h:H a=vQ o):upd H a o=H:=by
 funext b;unfold upd;split
 ·rename_i z;rw[z,h]
 ·rfl
theorem ZJd{pl:Sem Bool}(hC:Ge X.K C=vJ)(hg:Gl X x)(hm:X.mg x=vQ (.ref W))(hs:PySem.W.specialIn X.K (.ref W) "__getattribute__"=vQ (vQ (.builtin "type.__getattribute__")))(hr:PySem.W.readsIn X.K W mc=vJ)
  (hf:PySem.W.findCls X.K (.ref W) mc "__init__"=vQ (.val (.builtin "ValueError.__init__"))) (ha:PA X [a1,a2] t) (hdb:(x==("__debug__":Str))=vX:=by decide)
  (he:xD [a1,a2] X.env=(vX,eval a1 X.env)::xD [a2] X.env:=by rfl) (hpl:(jS pos (xD [a2] X.env)).any (·.1)=vX:=by rfl)
  (ht:eval (.Call (.Attribute (.Name x p) "__init__" apos) [a1,a2] [] pos) X.env=(do
   let ov<-eval (.Name x p) X.env
   standAt apos.atName
   let(f,first)<-holding [ov] (getMethod ov "__init__" pl)
   callWith pos f first (jS pos (xD [a1,a2] X.env)) (backToKw pos (keywordEach [] X.env))):=by rfl):
  PE X (.Call (.Attribute (.Name x p) "__init__" apos) [a1,a2] [] pos) (tBI C t):=by
 intro xU s σ H Q I h;refine PySem.W.methodCall_KW (pl:=pl) (Lz I hg hm ?_ hdb) ht;refine PySem.W.method_cls I.kIn hs (PySem.W.cls_value I.kIn hr hf (by decide) ?_);refine PyProof.Rows.callWith_builtin1 (thn (ha pos xU _ σ H _ (I.tok _) h) λus s1 ⟨vs,H1,I1,r,e,v,ev,hx,q⟩=>?_) he hpl;subst ev;obtain⟨u,rfl⟩:∃u,us=[.ref e,u]:=by
  cases r with
  | cons r1 r2=>
   cases r2 with
   |cons r3 r4=>
    cases r4
    obtain rfl:=(show _=Value.ref e from r1)
    exact⟨_,rfl⟩
 obtain⟨⟨tp,hob⟩,_,_⟩:=I1.hok e _ hx;obtain⟨bm,N,nm,qn,bs,sn,sub,ab,col,dd,k0,k1,k2,k3,k5,hcl,T,m,hN,_⟩:=Mh I1.kIn hC;obtain⟨hp,g,d,tk,os⟩:=s1;have F:=PySem.F.excBase_ValueError;refine wpAny_call (codeAny_call_builtin F.init.plain F.initEntry (wpAny_check_init_subT F T hcl hob rfl ?_))
 wp_walk
 show EP X xU σ Q .none {heap:=(hp.push {cls:=.type "tuple",data:=.seq #[u]}).update e (Obj.mapFields (·.setIfInBounds 0 (Value.ref hp.objs.size))),gens:=g,drawn:=d,toks:=tk,os:=os}
 have he1:(hp.push {cls:=.type "tuple",data:=.seq #[u]}).get? e=vQ (exO C vZ tp):=zX _ hob
 have he2:((hp.push {cls:=.type "tuple",data:=.seq #[u]}).update e (Obj.mapFields (·.setIfInBounds 0 (Value.ref hp.objs.size)))).get? e=vQ (exO C vZ hp.objs.size):=q8 _ he1 rfl
 have J:=I1.write (t':=tk) (x:=e) (e:=e) (o:=.ext (exo e C vZ)) (h':=(hp.push {cls:=.type "tuple",data:=.seq #[u]}).update e (Obj.mapFields (·.setIfInBounds 0 (Value.ref hp.objs.size)))) (by rw[hx];trivial) (.inl rfl)
  (λb o n k=>by rw[qV _ _ (Ne.symm n)];exact zX _ k) ⟨_,he2⟩ (ZBR ⟨_,he2⟩)
 rw[ZKm hx]at J;exact⟨.non,H1,J,rfl,q⟩
end
theorem ZHF{a b c d:String}(e:Ov [.type a,.type b,.type c,.type d]=vJ): [Value.type a,.type b,.type c,.type d]=vmro:=by
 simp only[Ov,zZ,beq_iff_eq]at e;obtain⟨⟨⟨rfl,rfl⟩,rfl⟩,rfl⟩:=e
 rfl
theorem ZGZ(self:jN):∀{l:List jN},Ov l=vJ->refuseLoop self "__setattr__" l=pure ()
 |[.type a,.type b,.type c,.type d],e=>by rw[ZHF e];exact PySem.F.store_ValueError.passes self
 |.ref c::r,e=>by rw[refuseLoop_ref];exact ZGZ self (l:=r) e
theorem ZGh:∀{l:List jN},Ov l=vJ->l.contains (.type "object")=vJ
 |[.type a,.type b,.type c,.type d],e=>by rw[ZHF e];simp
 |.ref c::r,e=>by rw[List.contains_cons,ZGh (l:=r) e,Bool.or_true]
section
open PySem.W
variable{prog:jH}{w:jO}{A:jD}{s:jL}{K:xS}{x C:jC}{R:Result->jL->Prop}
theorem ZJV{ox:Obj}{od:Option Obj}{name:Str}{tk:Tok}{v:jN}{r:Option jN}(X:K.In s.heap)(I:InstAt s.heap x ox C od)(hp:Ww K C=vJ)(ht:takerIn K C name=vQ r)
  (h:∀b,xF (x9 prog w) A.in1 (match r with |some a=>Builtin.ObjectAttr.setByDescriptor a (.ref x) v|none=>Builtin.ObjectAttr.storeInOwnDict (.ref x) (.ref C) (.str name tk) name v b)
   (λfin s'=>match fin with | .done f=>R (.ok f) s' | .again c'=>c'.quiet=vJ/\codeAny (x9 prog w) A c' R s') (λe s'=>R (.error e) s') s):
  codeAny (x9 prog w) A (.call (.builtin "object.__setattr__") ⟨[.ref x,.str name tk,v],[]⟩) R s:=by
 obtain⟨cd,hcd,hve⟩:=any_some hp;obtain⟨at0,hat,htr⟩:=Option.bind_eq_some_iff.mp ht;have full:cd.mro≠[]:=λz=>by rw[z]at hve;cases hve
 have top:mroIn K C (.type "object")=vQ vJ:=by unfold mroIn;rw[hcd];show(if cd.mro.isEmpty=vJ then _ else _)=_;rw[if_neg (by simpa using full),ZGh hve]
 have line:Looks (x9 prog w) s.heap (mroOf (.ref C)) cd.mro:=(looks_clsIn X hcd).andThen Looks.now;have obj:Looks (x9 prog w) s.heap (isInstance (.ref x) (.type "object")) vJ:=I.type.andThen (looks_mroIn X top);have tk3:Looks (x9 prog w) s.heap (Builtin.ObjectAttr.storeTaker? at0) r:=by
  rcases at0 with _|av
  ·cases htr;exact Looks.now
  ·obtain⟨bb,h1,h2⟩:=z0.mp htr;subst h2
   exact(looks_takesIn X h1).andThen (by cases bb<;>exact Looks.now)
 refine codeAny_call_builtin F.store_object.slot.plain F.store_object.entry (@check_slot (x9 prog w) _ _ _ "object.__setattr__" "object" "__setattr__" (.ref x) [.str name tk,v] [] _ F.store_object.kind F.store_object.split obj (F.store_object.args (.ref x) (.str name tk) v) ?_);rw[osa_eq,refuse_eq];apply xH;apply xH;refine I.type.here ?_;apply xH;refine line.here ?_;rw[ZGZ _ hve]
 apply xP;apply xH;refine I.type.here ?_;apply xH;refine(looks_findIn X hat).here ?_;apply xH;exact tk3.here (h _)
end
section
variable{prog:jH}{w:jO}{A:jD}{E:jN->jL->Prop}{s:jL}{K:PySem.W.Frag}{e C t:jC}{name:Str}{v:jN}
theorem ZHw{Q:Unit->jL->Prop}(X:K.In s.heap)(he:s.heap.get? e=vQ (exO C vZ t))
  (hs:PySem.W.findIn K (.ref C) "__setattr__"=vQ (vQ (.builtin "object.__setattr__"))) (hp:Ww K C=vJ) (ht:PySem.W.takerIn K C name=vQ vZ) (hh:PySem.W.hasDictIn K C=vJ)
  (h:∀h' dx tk,s.heap.objs.size<=dx->h'.get? e=vQ (exO C (vQ dx) t)->h'.Ns1 dx (λy=>if y=name then vQ v else vZ)->(∀b o,b≠e->s.heap.get? b=vQ o->h'.get? b=vQ o)->Q () {s with heap:=h',toks:=tk}):
  xF (x9 prog w) A (setAttr (.ref e) name v) Q E s:=by
 have J:PySem.W.InstAt s.heap e (exO C vZ t) C vZ:=⟨he,rfl,rfl,trivial⟩;refine PySem.W.set_plain X J hs (ZJV (s:={s with toks:=s.toks+1}) (r:=vZ) X J hp ht λb=>?_);obtain⟨cd,hc,hd'⟩:=PySem.W.any_some hh;refine xH (xP (xH (xH (wpAny_loadPart he (xH (PySem.W.Looks.here (s:={s with toks:=s.toks+1}) (PySem.W.looks_clsIn X hc) ?_))))));rw[hd'];have hx1:(s.heap.push {cls:=.type "dict",data:=.dict #[]}).get? e=vQ (exO C vZ t):=zX _ he
 have ne:e≠s.heap.objs.size:=zM (zj he);refine xH (wpAny_alloc' ?_);refine xH (wpAny_update' hx1 ?_);unfold dictMade;refine xP ?_;have hgd:((s.heap.push {cls:=.type "dict",data:=.dict #[]}).update e λo=>{cls:=o.cls,dict:=vQ s.heap.objs.size,data:=o.data,slots:=o.slots}).get? s.heap.objs.size=vQ {cls:=.type "dict",data:=.dict #[]}:=
  (Heap.get?_update_ne _ _ _ _ ne.symm).trans (Heap.get?_push_at rfl rfl)
 have hnd:((s.heap.push {cls:=.type "dict",data:=.dict #[]}).update e λo=>{cls:=o.cls,dict:=vQ s.heap.objs.size,data:=o.data,slots:=o.slots}).Ns s.heap.objs.size (λ_=>vZ):=
  ⟨_,#[],_,hgd,rfl,λy hy=>absurd hy (by simp),λ_=>rfl⟩
 show xF _ _ (Builtin.ObjectAttr.storeInDict s.heap.objs.size _ name v) _ _ _;unfold Builtin.ObjectAttr.storeInDict Builtin.ObjectAttr.newKeyGuard;refine xH (xP (xH (wpAny_nsSet1 (Heap.Ns1.of_empty hnd) λh' hn' hs'=>?_)));obtain⟨oD,esD,epD,hoD,hdD,hcD⟩:=hn'.count (Within.cons name v Within.nil);refine xH (wpAny_lookBehind hoD (by rw[hdD];exact pastItsLine_dict (zC hcD (by rw[qG,List.length_nil,xB];lia))) ?_)
 refine xP (h h' s.heap.objs.size _ (zx _) ?_ hn' λb o n hb=>?_)
 ·exact(hs'.2 e ne).trans (q8 _ hx1 rfl)
 ·exact(hs'.2 b (zM (zj hb))).trans ((Heap.get?_update_ne _ _ _ _ n).trans (zX _ hb))
end
structure XSet (K:PySem.W.Frag) (C:jC) (f:Str):Prop where
 ec:Ge K C=vJ
 sa:PySem.W.findIn K (.ref C) "__setattr__"=vQ (vQ (.builtin "object.__setattr__"))
 po:Ww K C=vJ
 tk:PySem.W.takerIn K C f=vQ vZ
 hd:PySem.W.hasDictIn K C=vJ
section
variable{X:Cx}{C:jC}{f:Str}{o value:jE}{pos pos':Pos}{ta tv:TE}
def sXf(C:jC)(f:Str)(ta tv:TE):TS:=λD σ H=>tv σ H λy H1=>ta σ H1 λx H2=>∃e,x=.ref e/\H2 e=vQ (.ext (exo e C vZ))/\
 ∀dx o,H2 dx=vZ->dx≠e->D.nx σ (upd (upd H2 e (.ext (exo e C (vQ dx)))) dx (.frz o (.xd [(f,y)])))
theorem ZL4(S:XSet X.K C f)(ha:PE X o ta)(hv:PE X value tv)(hs:swapsWith value (vQ (.Attribute o f pos')) pos.line X.env=pure vX):PS X (.Assign [.Attribute o f pos'] value pos) (sXf C f ta tv):=by
 intro xU s σ H D I h;refine plainObj_wpAny_Assign_Attribute (thn (hv xU s σ H _ I h) λu s1 ⟨y,H1,I1,ry,q⟩=>thn (ha xU s1 σ H1 _ I1 q) λov s2 ⟨x,H2,I2,rx,e,ex,hx,q2⟩=>?_) hs;subst ex;obtain rfl:ov=Value.ref e:=rx;obtain⟨⟨t,hob⟩,_,_⟩:=I2.hok e _ hx;refine ZHw I2.kIn hob S.sa S.po S.tk S.hd λh' dx tk hz he' hn kp=>?_
 have fx:H2 dx=vZ:=I2.hok.fresh hz;have ne:dx≠e:=λz=>by rw[z,hx]at fx;cases fx
 obtain⟨od,hod⟩:∃od,h'.get? dx=vQ od:=by obtain⟨o,_,_,k,_⟩:=hn;exact⟨o,k⟩
 have J:=I2.write (t':=tk) (x:=e) (e:=e) (o:=.ext (exo e C (vQ dx))) (h':=h') (by rw[hx];trivial) (.inl rfl) (λb o n k=>kp b o n k) ⟨_,he'⟩ (ZBR ⟨t,he'⟩);have fx':upd H2 e (.ext (exo e C (vQ dx))) dx=vZ:=by unfold upd;rw[if_neg ne];exact fx
 have K2:HOk X.prog X.w (upd (upd H2 e (.ext (exo e C (vQ dx)))) dx (.frz od (.xd [(f,y)]))) h':=λb ob z=>by
  by_cases zb:b=dx
  ·subst zb;have zo:ob=.frz od (.xd [(f,y)]):=by
    have z':upd (upd H2 e (.ext (exo e C (vQ b)))) b (.frz od (.xd [(f,y)])) b=vQ (.frz od (.xd [(f,y)])):=by unfold upd;rw[if_pos rfl]
    rw[z']at z;exact(Option.some.inj z).symm
   subst zo;refine⟨hod,_,hn,λg=>?_⟩;by_cases zg:g=f
   ·subst zg;simp[j2];exact ry
   ·have:(g==f)=vX:=by simpa using zg
    simp[j2,this,zg]
    trivial
  ·have z':upd H2 e (.ext (exo e C (vQ dx))) b=vQ ob:=by unfold upd at z⊢;rw[if_neg zb]at z;exact z
   refine(J.hok b ob z').stay (λ_ _ _ k=>k) (λb' k=>?_) λb' xs k=>?_
   ·have:b'≠dx:=λw=>by rw[w,fx']at k;cases k
    show upd _ dx _ b'=_;unfold upd at k⊢;rw[if_neg this];exact k
   ·have:b'≠dx:=λw=>by rw[w,fx']at k;cases k
    show upd _ dx _ b'=_;unfold upd at k⊢;rw[if_neg this];exact k
 have ud:∀b,b≠e->b≠dx->upd (upd H2 e (.ext (exo e C (vQ dx)))) dx (.frz od (.xd [(f,y)])) b=H2 b:=λb n1 n2=>by unfold upd;rw[if_neg n2,if_neg n1]
 have U:Un X.fs [] H2 (upd (upd H2 e (.ext (exo e C (vQ dx)))) dx (.frz od (.xd [(f,y)]))) s2.heap h':=by
  have nd:∀b o,s2.heap.get? b=vQ o->b≠dx:=λb o k z=>by have:=zj k;rw[z]at this;exact absurd this (Nat.not_lt.mpr hz)
  have n0:∀b,H2 b=vZ->b≠e:=λb k z=>by rw[z,hx]at k;cases k
  refine⟨λb o k n _ _=>kp b o (n0 b n) k,λb o k n _ _=>⟨o.slots,kp b o (n0 b n) k⟩,λb o k n _=>by rw[ud b (n0 b n) (nd b o k)];exact n,λb o k _=>?_,λb xs k=>?_,λb o u k=>?_,λb ps k=>⟨#[],?_⟩⟩
  ·by_cases z:b=e
   ·subst z;exact⟨_,he'⟩
   ·exact⟨o,kp b o z k⟩
  ·rw[ud b (λz=>by rw[z,hx]at k;cases k) (λz=>by rw[z,fx]at k;cases k)];exact k
  ·rw[ud b (λz=>by rw[z,hx]at k;cases k) (λz=>by rw[z,fx]at k;cases k)];exact k
  ·rw[ud b (λz=>by rw[z,hx]at k;cases k) (λz=>by rw[z,fx]at k;cases k)];simpa using k
 exact⟨σ,_,I2.un (t':=tk) U K2,q2 dx od fx ne⟩
end
def intS(i:Int):Prop:=i.natAbs.log2<1920/\(Str.ofString (toString i)).length<=1000
def ZDF(w:V):Prop:=(∃i:Int,w=.int i/\intS i)∨w=.non
section
variable{X:Cx}{j:Nat}{v s1 s2:Str}{k1 k2 p1 p2 pv pf pos}
noncomputable def tFs(j:Nat):TE:=λσ H Q=>∃w:V,σ[j]?=vQ (vQ w)/\ZDF w/\∀x,Q (.str x) H
theorem ZOg(hN:X.N[j]?=vQ v)(hv:Vis X.env.scope v)(l1:s1.length<=1000)(l2:s2.length<=1000)(hd:(v==("__debug__":Str))=vX:=by decide)(hcd:(v==("__classdict__":Str))=vX:=by decide):
  PE X (.JoinedStr [.Constant (.str s1) k1 p1,.FormattedValue (.Name v pv) (-1) vZ pf,.Constant (.str s2) k2 p2] pos) (tFs j):=by
 intro xU s σ H Q I h;obtain⟨w,hσ,hw,q⟩:=h;have la:∀a b:Str,(a++b).length=a.length+b.length:=λa b=>by show(Str.append a b).length=_;unfold Str.append Str.length;simp
 have sz:∀n,n<=1000000->n<=sizeLine:=λn h=>by rw[xB];lia
 refine JoinedStr_many (joinParts_cons (thn (Yg (X:=X) xU s σ H (λx H'=>x=.str s1/\H'=H) I ⟨rfl,rfl⟩) λu s1' h1=>?_));obtain⟨x,H1,I1,rx,rfl,rfl⟩:=h1;obtain⟨t0,rfl⟩:=rx;refine⟨sz _ (by rw[la];show 0+_<=_;lia),?_⟩;refine joinParts_cons (FormattedValue_plain (thn (Pr (pos:=pv) hN hv hd hcd xU s1' σ H1 (λx H'=>x=w/\H'=H1) I1 ?_) λu s2' h1=>?_))
 ·exact⟨w,hσ,rfl,rfl⟩
 obtain⟨x,H2,I2,rx,rfl,rfl⟩:=h1;rcases hw with⟨i,rfl,hi,ls⟩|rfl
 ·obtain⟨t1,rfl⟩:=rx;refine formatField_int_small hi ⟨sz _ (by rw[la,la];show 0+_+_<=_;lia),?_⟩;refine joinParts_consE (joinParts_cons (thn (Yg (X:=X) xU _ σ H2 (λx H'=>x=.str s2/\H'=H2) (I2.tok _) ⟨rfl,rfl⟩) λu s3' h1=>?_));obtain⟨x,H3,I3,rx,rfl,rfl⟩:=h1;obtain⟨t2,rfl⟩:=rx;refine⟨sz _ (by rw[la,la,la];show 0+_+_+_<=_;lia),?_⟩;exact joinParts_nilE (joinParts_nil ⟨.str _,H3,I3.tok _,⟨_,rfl⟩,q _⟩ (sz _ (by rw[la,la,la];show 0+_+_+_<=_;lia)))
 ·cases(show u=Value.none from rx)
  have ls:(Str.ofString "None").length<=1000:=by decide
  refine wpAny_formatField_none ⟨sz _ (by rw[la,la];show 0+_+_<=_;lia),?_⟩;refine joinParts_consE (joinParts_cons (thn (Yg (X:=X) xU _ σ H2 (λx H'=>x=.str s2/\H'=H2) (I2.tok _) ⟨rfl,rfl⟩) λu s3' h1=>?_));obtain⟨x,H3,I3,rx,rfl,rfl⟩:=h1;obtain⟨t2,rfl⟩:=rx;refine⟨sz _ (by rw[la,la,la];show 0+_+_+_<=_;lia),?_⟩;exact joinParts_nilE (joinParts_nil ⟨.str _,H3,I3.tok _,⟨_,rfl⟩,q _⟩ (sz _ (by rw[la,la,la];show 0+_+_+_<=_;lia)))
end
def spI(C:jC)(f:Str):Sp:=λvs H Q _=>∃(e:jC)(i:V),vs=[.ref e,i]/\ZDF i/\H e=vQ (.ext (exo e C vZ))/\∀dx o,H dx=vZ->dx≠e->Q .non (upd (upd H e (.ext (exo e C (vQ dx)))) dx (.frz o (.xd [(f,i)])))
structure XBase (K:PySem.W.Frag) (mg:Str->Option jN) (x:Str) (W:jC):Prop where
 m:mg x=vQ (.ref W)
 s:PySem.W.specialIn K (.ref W) "__getattribute__"=vQ (vQ (.builtin "type.__getattribute__"))
 r:PySem.W.readsIn K W (.type "type")=vJ
 f:PySem.W.findCls K (.ref W) (.type "type") "__init__"=vQ (.val (.builtin "ValueError.__init__"))
theorem Qq{K:PySem.W.Frag}{x xw v f s1 s2:Str}{fa W:jC}{pw pa pc pe p1 p2 p3 p4 p5 p6 p7 p8 pv pf:Pos}{k1 k2}
  (F:Fun K x qual st fa fd) (S:FnScope ["self",v] ["self",v] (Bd st)) (XS:XSet K C f) (XB:XBase K mg xw W)
  (hb:Ep st=[.Expr (.Call (.Attribute (.Name xw pw) "__init__" pa) [.Name "self" p1,.JoinedStr [.Constant (.str s1) k1 p2,.FormattedValue (.Name v pv) (-1) vZ pf,.Constant (.str s2) k2 p3] p4] [] pc) pe,.Assign [.Attribute (.Name "self" p5) f p6] (.Name v p8) p7])
  (l1:s1.length<=1000) (l2:s2.length<=1000) (hgl:(Bd st).names.lookup xw=vQ .globalImplicit) (hdw:(xw==("__debug__":Str))=vX) (hdv:(v==("__debug__":Str))=vX) (hcv:(v==("__classdict__":Str))=vX)
  (hvs:Vis (Bd st) "self") (hvv:Vis (Bd st) v)
  (hev:∀env:Env,∃pl:Sem Bool,eval (.Call (.Attribute (.Name xw pw) "__init__" pa) [.Name "self" p1,.JoinedStr [.Constant (.str s1) k1 p2,.FormattedValue (.Name v pv) (-1) vZ pf,.Constant (.str s2) k2 p3] p4] [] pc) env=(do
   let ov<-eval (.Name xw pw) env
   standAt pa.atName
   let(f,first)<-holding [ov] (getMethod ov "__init__" pl)
   callWith pc f first (jS pc (xD [.Name "self" p1,.JoinedStr [.Constant (.str s1) k1 p2,.FormattedValue (.Name v pv) (-1) vZ pf,.Constant (.str s2) k2 p3] p4] env)) (backToKw pc (keywordEach [] env)))):
  FnOk P w K mg base CX0 (k+1) fa fd ["self",v] (spI C f):=by
 refine F.ok S (λvs H Q E ⟨e,i,z,_⟩=>by rw[z];rfl) (λcdv A outer s H vs Q E hr h=>?_);obtain⟨e,i,rfl,hi,hx,q⟩:=h;rw[hb];generalize hX:(Hc CX0 P w K mg base ["self",v] qual (Bd st) fa cdv A outer s H E).nox=X;have hK:X.K=K:=by rw[<-hX];rfl
 have hm:X.mg=mg:=by rw[<-hX];rfl
 have hN:X.N=(["self",v]:List Str):=by rw[<-hX];rfl
 have hs:X.env.scope=Bd st:=by rw[<-hX];rfl
 have pself:∀p,PE X (.Name "self" p) (M8 0):=λp=>Pr (by rw[hN];rfl) (by rw[hs];exact hvs) (by decide) (by decide)
 have pv':∀p,PE X (.Name v p) (M8 1):=λp=>Pr (by rw[hN];rfl) (by rw[hs];exact hvv) hdv hcv
 have hG:Gl X xw:=by unfold Gl;rw[<-hX];exact hgl
 obtain⟨pl,hpl⟩:=hev X.env;have c1:PE X (.Call (.Attribute (.Name xw pw) "__init__" pa) [.Name "self" p1,.JoinedStr [.Constant (.str s1) k1 p2,.FormattedValue (.Name v pv) (-1) vZ pf,.Constant (.str s2) k2 p3] p4] [] pc) (tBI C (ZAk (M8 0) (ZAk (tFs 1) tNil))):=
  ZJd (mc:=.type "type") (W:=W) (by rw[hK];exact XS.ec) hG (by rw[hm];exact XB.m) (by rw[hK];exact XB.s) (by rw[hK];exact XB.r) (by rw[hK];exact XB.f) (Qi (pself p1) (Qi (ZOg (by rw[hN];rfl) (by rw[hs];exact hvv) l1 l2 hdv hcv) Ys)) hdw rfl rfl hpl
 have c2:PS X (.Assign [.Attribute (.Name "self" p5) f p6] (.Name v p8) p7) (sXf C f (M8 0) (M8 1)):=ZL4 (by rw[hK];exact XS) (pself p5) (pv' p8) rfl;refine⟨_,ZF0 (ZG3 c1 rfl) (ZG4 c2),?_⟩;refine⟨.ref e,rfl,i,rfl,hi,λxx=>⟨e,_,rfl,hx,?_⟩⟩;exact⟨i,rfl,.ref e,rfl,e,rfl,hx,q⟩
section
variable{M:Model}{A:jD}{E:jN->jL->Prop}{env:Env}
variable{nm q:Str}{C N:jC}{bs bm:List jN}{hdct:Bool}{sn:List Str}{sub:List jN}{ab:Bool}{col:Option Bool}{dd:Option jC}{k0 k1 k2 k3 k5:Option jN}{newId:String}
theorem ZI4{x:Sem jN}{Q:Flow->jL->Prop}(hh:A.handled=vZ)
  (h:xF M A x (λv s₁=>∃e od t bm N nm q bs hdct sn sub ab col dd k0 k1 k2 k3 k5 newId,v=.ref e/\s₁.heap.get? C=vQ (excClassObj nm q C N bs bm hdct sn sub ab col dd k0 k1 k2 k3 k5 newId)/\bm.contains (.type "BaseException")=vJ/\
   s₁.heap.get? e=vQ {cls:=.ref C,dict:=od,data:=.fields #[.ref t,.none,.none,.none,.bool vX,.none]}/\E (.ref e) s₁) E s):xF M A (raiseStmt env (vQ x) vZ) Q E s:=by
 unfold raiseStmt;refine xH (xM h (λv s₁ h₁=>?_) λ_ _ x=>x);obtain⟨e,od,t,bm,N,nm,q,bs,hdct,sn,sub,ab,col,dd,k0,k1,k2,k3,k5,newId,rfl,hC,hb,he,hE⟩:=h₁;have hcB:(Value.ref C::bm).contains (.type "BaseException")=vJ:=by rw[List.contains_cons,hb,Bool.or_true]
 obtain⟨hp,g,d,tk,os⟩:=s₁
 repeat (first|with_reducible refine wpAny_loadPart_at he ?_|with_reducible refine wpAny_loadPart_at hC ?_|(with_reducible refine wpAny_isSubtype_exc hC ?_;rw[hcB])|wp_step)
 exact wpAny_raiseNew_none hh hE
theorem ZF3{x:jE}{pos:Pos}{Q:Flow->jL->Prop}(hh:A.handled=vZ)
  (h:xF M A (eval x env) (λv s₁=>∃e od t bm N nm q bs hdct sn sub ab col dd k0 k1 k2 k3 k5 newId,v=.ref e/\s₁.heap.get? C=vQ (excClassObj nm q C N bs bm hdct sn sub ab col dd k0 k1 k2 k3 k5 newId)/\bm.contains (.type "BaseException")=vJ/\
   s₁.heap.get? e=vQ {cls:=.ref C,dict:=od,data:=.fields #[.ref t,.none,.none,.none,.bool vX,.none]}/\E (.ref e) s₁) E s):xF M A (exec (.Raise (vQ x) vZ pos) env) Q E s:=by
 rw[arm_exec_Raise];refine xH (wpAny_standAt (ZI4 (C:=C) hh ?_));exact xH (xM h (λv s₃ h₃=>xH (wpAny_standAt (xP h₃))) λ_ _ x=>x)
end
section
variable{X:Cx}{C fI:jC}{f x:Str}{np cpos pos:Pos}{a:jE}{ta:TA}{E:XK}{k:Nat}{fd:jF}{v:Str}
def tRz(C:jC)(f:Str)(E:XK)(ta:TA):TS:=λ_ σ H=>ta σ H λvs H1=>∃i:V,vs=[i]/\ZDF i/\∀dx o,H1 dx=vZ->E (.ref C) (vQ dx) (upd H1 dx (.frz o (.xd [(f,i)])))
theorem ZLg(hcalm:X.calm=vJ)(hs:X.stack=X.env::X.outer)(hex:X.ex=[])(hfr:X.env.frame=vQ X.env.locals)(hxe:∀e s,Ks X E e s->X.xe e s)
  (XS:XSet X.K C f) (hi:Mu X.K C fI=vJ) (hfn:∃o,X.K.lookup fI=vQ o/\o.cls=.type "function") (F:FnOk X.prog X.w X.K X.mg X.base CX0 k fI fd ["self",v] (spI C f)) (hr:Room (k+1) X.A) (hb:Binds X.K fd ["self",v] [])
  (hg:Gl X x) (hm:X.mg x=vQ (.ref C)) (hk:PySem.W.keepIn X.K (.ref C)=vJ) (ha:PA X [a] ta) (hdb:(x==("__debug__":Str))=vX:=by decide)
  (he:xD [a] X.env=(vX,eval a X.env)::xD [] X.env:=by rfl) (hpl:(jS cpos (xD [] X.env)).any (·.1)=vX:=by rfl):
  PS X (.Raise (vQ (.Call (.Name x np) [a] [] cpos)) vZ pos) (tRz C f E ta):=by
 intro xU s σ H D I h;refine ZF3 (C:=C) (I.ok.hd hcalm) ?_;refine xG (Lz I hg hm ?_ hdb);refine PySem.W.callWith_K (h₀:=X.base) I.ok.mod.kin hk (thn (ha cpos xU s σ H _ I h) λus s1 ⟨vs,H1,I1,r,i,ev,hi',q⟩=>⟨I1.kIn,?_⟩) he hpl;subst ev;obtain⟨bm,N,nm,qn,bs,sn,sub,ab,col,dd,k0,k1,k2,k3,k5,hcl,T,m,hN,hin⟩:=Mh I1.kIn XS.ec;obtain⟨oI,hfI,hfc⟩:=hfn;have hfI:=I1.kIn _ _ hfI;have hl1:us.length<=sizeLine:=by rw[<-r.length,xB];show 1<=_;decide
 obtain⟨hp,g,d,tk,os⟩:=s1;have FB:=PySem.F.excBase_ValueError;refine ZKA FB T hcl hN (hin fI hi) hfI hfc (λh' e hm' hz=>?_) hl1;obtain⟨t,ht,_,_⟩:=hm'.there;have ho:exo e C vZ h':=⟨t,ht⟩;have I2:=I1.laid (t':=tk) (a:=e) (o:=.ext (exo e C vZ)) (h':=h') hm'.keeps hz (ZBR ho);have fe:H1 e=vZ:=I1.hok.fresh hz;obtain⟨u,rfl⟩:∃u,us=[u]:=by
  cases r with
  |cons r1 r2=>cases r2;exact⟨_,rfl⟩
 have r2:Vals [V.ref e,i] [Value.ref e,u]:=.cons rfl r;have h2e:upd H1 e (.ext (exo e C vZ)) e=vQ (.ext (exo e C vZ)):=by unfold upd;rw[if_pos rfl]
 have h2n:∀b,b≠e->upd H1 e (.ext (exo e C vZ)) b=H1 b:=λb n=>by unfold upd;rw[if_neg n]
 refine wpAny_call (xJ (F.run _ X.stack _ _ ⟨[Value.ref e,u],[]⟩ [Value.ref e,u] [V.ref e,i] (λw H3=>w=.non/\∃dx o,H1 dx=vZ/\dx≠e/\H3=upd (upd (upd H1 e (.ext (exo e C vZ))) e (.ext (exo e C (vQ dx)))) dx (.frz o (.xd [(f,i)]))) E0 (hr.make C [u] [])
  (I2.env0.make C [u] []) (by simpa using hb _ [Value.ref e,u] I2.kIn rfl) r2 ⟨e,i,rfl,hi',h2e,λdx o n1 n2=>⟨rfl,dx,o,by rw[<-h2n dx n2];exact n1,n2,rfl⟩⟩) λr s' hq'=>?_)
 cases r with
 |error e=>exact hq'.elim
 | ok fl=>
  cases fl with
  |next=>exact False.elim hq'
  |brk=>exact False.elim hq'
  |cont=>exact False.elim hq'
  | ret w=>
   obtain⟨_,_,I3,_⟩:=I2.after hq';obtain⟨vw,H3,os',bare',un,hok,rw',rfl,dx,o,nd,ne,rfl⟩:=hq';refine⟨rw',?_⟩;have hd3:∀b,b≠e->upd (upd (upd H1 e (.ext (exo e C vZ))) e (.ext (exo e C (vQ dx)))) dx (.frz o (.xd [(f,i)])) b=upd H1 dx (.frz o (.xd [(f,i)])) b:=λb n=>by
    unfold upd;split
    ·rfl
    ·simp[n]
   have he3:upd (upd (upd H1 e (.ext (exo e C vZ))) e (.ext (exo e C (vQ dx)))) dx (.frz o (.xd [(f,i)])) e=vQ (.ext (exo e C (vQ dx))):=by unfold upd;rw[if_neg (Ne.symm ne),if_pos rfl]
   have feN:upd H1 dx (.frz o (.xd [(f,i)])) e=vZ:=by unfold upd;rw[if_neg (Ne.symm ne)];exact fe
   obtain⟨⟨t',ht'⟩,_,_⟩:=hok e _ he3;obtain⟨bm',N',nm',qn',bs',sn',sub',ab',col',dd',l0,l1,l2,l3,l5,hcl',T',_⟩:=Mh I3.kIn XS.ec;have ne':∀b o,hp.get? b=vQ o->b≠e:=λb o k z=>by rw[z,hm'.new]at k;cases k
   have mk:Made X H1 ⟨hp,g,d,tk,os⟩ e (.ref C) (vQ dx) s' (upd H1 dx (.frz o (.xd [(f,i)]))):=by
    refine⟨os',bare',⟨λb o k n hb hx=>un.keep b o (hm'.keeps b o k) (by rw[h2n b (ne' b o k)];exact n) hb hx,λb o k n hb hx=>un.slot b o (hm'.keeps b o k) (by rw[h2n b (ne' b o k)];exact n) hb hx,λb o k n hx=>?_,λb o k hx=>un.there b o (hm'.keeps b o k) hx,λb xs k=>?_,λb o u k=>?_,λb ps k=>?_⟩,λb ob z=>?_,⟨_,_,ht',rfl,rfl,rfl,rfl⟩,feN,hm'.new⟩
    ·rw[<-hd3 b (ne' b o k)];exact un.free b o (hm'.keeps b o k) (by rw[h2n b (ne' b o k)];exact n) hx
    ·have nb:b≠e:=λz=>by rw[z,fe]at k;cases k
     rw[<-hd3 b nb];exact un.tups b xs (by rw[h2n b nb];exact k)
    ·have nb:b≠e:=λz=>by rw[z,fe]at k;cases k
     rw[<-hd3 b nb];exact un.frzs b o u (by rw[h2n b nb];exact k)
    ·have nb:b≠e:=λz=>by rw[z,fe]at k;cases k
     rw[<-hd3 b nb];exact un.tbls b ps (by rw[h2n b nb];exact k)
    ·have nb:b≠e:=λz'=>by rw[z',feN]at z;cases z
     rw[<-hd3 b nb]at z;refine(hok b ob z).stay (λ_ _ _ k=>k) (λb' k=>?_) λb' xs k=>?_
     ·rw[<-hd3 b' (λz'=>by rw[z',he3]at k;cases k)];exact k
     ·rw[<-hd3 b' (λz'=>by rw[z',he3]at k;cases k)];exact k
   exact⟨e,vQ dx,t',bm',N',nm',qn',bs',vJ,sn',sub',ab',col',dd',l0,l1,l2,l3,l5,_,rfl,hcl',T'.hasType FB.hasBase,ht',hxe _ _ (ZFC hs hex hfr I1 mk (q dx o nd) ⟨C,rfl⟩)⟩
end
section
variable{X:Cx}{xU:List (jC×Obj)}{σ:St}{H H':Hp}{s s':jL}{B h'':Heap}{ea:jC}{cls:jN}{od:Option jC}{E:XK}{fl:jN}
theorem ZLb(I:Inv X xU σ H s)(os:s'.os=s.os)(bare:AllBare s'.gens)(un:Un (frs X.stack) [] H H' s.heap s'.heap)(hok:HOk X.prog X.w H' s'.heap)
  (bb:∀b o,s.heap.get? b=vQ o->H b=vZ->b∉frs X.stack->B.get? b=vQ o) (al:∀b,H' b≠vZ->∃o,B.get? b=vQ o) (eb:B.get? ea=vZ) (st:B.StaysIn s'.heap) (new:s.heap.get? ea=vZ)
  (n:Noted B X.stack ea cls od fl s'.heap h''):∃oe vs,h''.get? ea=vQ oe/\oe.cls=cls/\oe.dict=od/\oe.data=.fields vs/\H' ea=vZ/\Inv X xU σ (upd H' ea (.frz oe (.own 0))) {s' with heap:=h''}:=by
 obtain⟨oe,vs,T,oT,ts,he,⟨hc,hd⟩,hda,_⟩:=n.tr;have fe:H' ea=vZ:=by
  cases z:H' ea with
  |none=>rfl
  |some u=>
   obtain⟨o,k⟩:=al ea (by rw[z];simp);rw[eb]at k;cases k
 have ud:∀b,b≠ea->upd H' ea (.frz oe (.own 0)) b=H' b:=λb k=>by unfold upd;rw[if_neg k]
 have ns:∀b o,s.heap.get? b=vQ o->b≠ea:=λb o k z=>by rw[z,new]at k;cases k
 have hk:=ZEe hok al st n.st;refine⟨oe,vs,he,hc,hd,hda,fe,I.call' (ch:=[]) os ⟨λb o q hn hb _=>n.st b o (bb b o q hn hb),λb o q hn hb _=>?_,λb o q hn hx=>?_,λb o q hx=>?_,λb xs q=>?_,λb o u q=>?_,λb ps q=>?_⟩ (λb ob z=>?_) bare λb z=>absurd z (by simp)⟩
 ·obtain⟨sl,k⟩:=un.slot b o q hn hb (by simp);obtain⟨_,o2,k2,nf⟩:=I.stack.mem hb;rw[q]at k2;cases k2;obtain⟨sl',k3⟩:=n.up b _ k nf;exact⟨sl',k3⟩
 ·rw[ud b (ns b o q)];exact un.free b o q hn hx
 ·obtain⟨o1,k1⟩:=un.there b o q hx;exact n.th b o1 k1
 ·have:=un.tups b xs q;rw[ud b (λz=>by rw[z,fe]at this;cases this)];exact this
 ·have:=un.frzs b o u q;rw[ud b (λz=>by rw[z,fe]at this;cases this)];exact this
 ·obtain⟨m,this⟩:=un.tbls b ps q;exact⟨m,by rw[ud b (λz=>by rw[z,fe]at this;cases this)];exact this⟩
 ·by_cases zb:b=ea
  ·subst zb;have zo:ob=.frz oe (.own 0):=by unfold upd at z;rw[if_pos rfl]at z;exact(Option.some.inj z).symm
   subst zo;exact⟨he,oe,he⟩
  ·rw[ud b zb]at z;refine(hk b ob z).stay (λ_ _ _ k=>k) (λb' k=>?_) λb' xs k=>?_
   ·rw[ud b' (λz'=>by rw[z',fe]at k;cases k)];exact k
   ·rw[ud b' (λz'=>by rw[z',fe]at k;cases k)];exact k
theorem lands(hs:X.stack=X.env::X.outer)(hfr:X.env.frame=vQ X.env.locals)(I:Inv X xU σ H s){e:jN}(h:CXx X.prog X.w X.stack H s E e s'){Q:Unit->jL->Prop}{E':jN->jL->Prop}
  (q:∀(ea:jC)(C:jN)(od:Option jC)(H':Hp)(oe:Obj)(vs:Array jN)(h'':Heap),e=.ref ea->h''.get? ea=vQ oe->oe.cls=C->oe.dict=od->oe.data=.fields vs->E C od H'->H' ea=vZ->Inv X xU σ (upd H' ea (.frz oe (.own 0))) {s' with heap:=h''}->
   (∃B:Heap,Trc h'' B ea C od .none)->(∃C',C=.ref C')->Q () {s' with heap:=h''}):
  xF (x9 X.prog X.w) X.A (noteFrame e X.env) (λ_ s2=>xF (x9 X.prog X.w) X.A (setFlight e vZ) Q E' s2) E' s':=by
 obtain⟨ea,cls,od,H',B,rfl,os,bare,un,hok,fly,bb,new,hE,hcC⟩:=h;have ff:=fly.fr;rw[hs]at ff;refine ZG2 (B:=B) (L:=X.env.locals) (outer:=X.outer) (by rw[I.ok.frames,hs]) ff hfr fly.tr fly.st fly.eb λh1 n1=>?_
 refine ZDI n1.fr n1.tr n1.st λh2 n2=>?_
 have n:=n1.trans n2;rw[<-hs]at n;obtain⟨oe,vs,he,hc,hd,hda,fe,J⟩:=ZLb I os bare un hok bb fly.al fly.eb fly.st new n;exact q ea cls od H' oe vs h2 rfl he hc hd hda hE fe J ⟨B,n.tr⟩ hcC
end
section
variable{M:Model}{A:jD}{E:jN->jL->Prop}{h:Heap}{g:Array GenState}{d:Drawn}{t:Nat}{os:OsState}
theorem ZNm{W e:jC}{oe:Obj}{b:Bool}{nm q:Str}{N:jC}{bs bm:List jN}{hdct:Bool}{sn:List Str}{sub:List jN}{ab:Bool}{col:Option Bool}{dd:Option jC}{k0 k1 k2 k3 k5:Option jN}{newId:String}
  {nm' q':Str} {N':jC} {bs' bm':List jN} {hdct':Bool} {sn':List Str} {sub':List jN} {ab':Bool} {col':Option Bool} {dd':Option jC} {l0 l1 l2 l3 l5:Option jN} {newId':String} {Q:Bool->jL->Prop}
  (hC:h.get? C=vQ (excClassObj nm q C N bs bm hdct sn sub ab col dd k0 k1 k2 k3 k5 newId)) (hW:h.get? W=vQ (excClassObj nm' q' W N' bs' bm' hdct' sn' sub' ab' col' dd' l0 l1 l2 l3 l5 newId')) (he:h.get? e=vQ oe) (hc:oe.cls=.ref C)
  (hb:bm'.contains (.type "BaseException")=vJ) (hin:(Value.ref C::bm).contains (.ref W)=b) (hq:Q b ⟨h,g,d,t,os⟩):xF M A (excMatches (.ref e) (.ref W)) Q E ⟨h,g,d,t,os⟩:=by
 have hcB:(Value.ref W::bm').contains (.type "BaseException")=vJ:=by rw[List.contains_cons,hb,Bool.or_true]
 have f:=tc_notTuple;unfold excMatches
 repeat (first|(with_reducible refine wpAny_loadPart_at he ?_;rw[hc])|with_reducible refine wpAny_loadPart_at hW ?_|(with_reducible refine wpAny_isSubtype_exc hW ?_;rw[hcB])|(with_reducible refine wpAny_isSubtype_exc hC ?_;rw[hin])|wp_step)
 cases b<;>(wp_walk;exact hq)
theorem ZNN{B:Heap}{e:jC}{Q:Unit->jL->Prop}(ht:Trc s.heap B e cls od .none)(q:∀h',(∀b o,s.heap.get? b=vQ o->h'.get? b=vQ o)->Q () {s with heap:=h'}):xF M A (setFlight (.ref e) vZ) Q E s:=by
 obtain⟨oe,vs,T,oT,ts,he,_,hd,h1,⟨nT,nTe⟩,hT,dT,h3⟩:=ht;unfold setFlight;refine xH (xI he hd h1 ?_)
 rw[if_pos (show(Value.ref T != Value.none)=vJ from by simp)]
 refine wpAny_setField hT dT (zT.mp h3).1 (q _ λb o k=>?_);by_cases z:b=T
 ·subst z;rw[hT]at k;cases k;rw[q8 _ hT (Obj.isFreed_of_fields (Obj.data_mapFields dT _))];obtain⟨c,dd,dt,sl⟩:=oT;obtain rfl:dt=.fields ts:=dT;unfold Obj.mapFields;dsimp only
  congr 2
  have:ts.setIfInBounds 3 Value.none=ts:=by
   refine Array.ext_getElem? λi=>?_
   rw[Array.getElem?_setIfInBounds];split
   ·rename_i z;subst z;rw[if_pos (zT.mp h3).1,h3]
   ·rfl
  exact congrArg _ this
 ·rw[qV _ _ (Ne.symm z)];exact k
end
section
variable{X:Cx}{xU:List (jC×Obj)}{σ:St}{H:Hp}{s:jL}
theorem Wc{M:Model}{A:jD}{E:jN->jL->Prop}{n:Str}{pos:Pos}{Q:Unit->jL->Prop}(I:Inv X xU σ H s)(hN:X.N.Nodup)(hi:X.N[i]?=vQ n)(hk:X.env.kindOf n=vQ .local)
  (q:∀s',Inv X xU (σ.set i vZ) H s'->Q () s'):xF M A (do bindName X.env n .none;unbindBehindTheSuite X.env n pos) Q E s:=by
 obtain⟨m,hn,hl⟩:=I.loc;have hp:(X.env.scope.kind == .class||(X.env.scope.kind == .module&&X.env.locals != X.env.globals))=vX:=by rw[I.ok.kind];rfl
 refine wpAny_nameGoes_keeps hk hn hp λh' v hn' hs=>q _ ?_
 have neL:∀b o,X.s₀.heap.get? b=vQ o->b≠X.env.locals:=λb o e=>zM (zW (zj e) I.ok.above)
 refine⟨I.ok,I.os,I.bare,⟨λb o e nn hb hx=>(hs.2 b (neL b o e)).trans (I.base.keep b o e nn hb hx),λb o e nn hb hx=>?_,I.base.free,λb o e hx=>?_,I.base.tups,I.base.frzs,I.base.tbls⟩,⟨_,hn',λj y v' e1 e2 e3=>?_⟩,λy c e=>?_,I.free,I.Gp,λp hp=>?_,?_,by rw[qU];exact I.len⟩
 ·obtain⟨sl,e1⟩:=I.base.slot b o e nn hb hx;exact⟨sl,(hs.2 b (neL b o e)).trans e1⟩
 ·obtain⟨o',e1⟩:=I.base.there b o e hx;exact⟨o',(hs.2 b (neL b o e)).trans e1⟩
 ·have hj:j≠i:=λz=>by
   subst z;rw[qk]at e2;split at e2
   ·split at e2<;>cases e2
   ·rename_i z;exact z rfl
  rw[qI (Ne.symm hj)]at e2;obtain⟨u',r',z⟩:=hl j y v' e1 e2 e3;refine⟨u',r',?_⟩;rcases z with⟨k,e⟩|⟨k,c,e,z⟩
  ·refine .inl ⟨k,?_⟩;have:y≠n:=λe=>hj (ZDo hN e1 (e▸hi))
   simp[this,e]
  ·exact .inr ⟨k,c,e,z.sameBut hs (I.cne y c e)⟩
 ·obtain⟨w',z⟩:=I.cell y c e;exact⟨w',z.sameBut hs (I.cne y c e)⟩
 ·obtain⟨e,nn,ne,nf,d⟩:=I.pin p hp;exact⟨(hs.2 p.1 ne).trans e,nn,ne,nf,d⟩
 ·exact λa o e=>(I.hok a o e).stay (λb u hb k=>(hs.2 b (λz=>by
   rcases hb with rfl|hb
   ·rw[z,I.free]at e;cases e
   ·rw[z,I.free]at hb;cases hb)).trans k) (λ_ k=>k) λ_ _ k=>k
end
noncomputable def Mi(X:Cx)(ea:jC):Cx:={X with A:=X.A.mark (vQ (.ref ea)),calm:=vX,xe:=λ_ _=>False}
section
variable{X:Cx}{xU:List (jC×Obj)}{σ:St}{H:Hp}{s:jL}{ea:jC}
theorem ZGX(I:Inv X xU σ H s):Inv (Mi X ea) xU σ H s:=
 ⟨⟨I.ok.mod,I.ok.kind,I.ok.glob,I.ok.blt,I.ok.above,I.ok.inj,I.ok.has,I.ok.cab,λz=>absurd z (by simp[Mi]),I.ok.frames,I.ok.stk,I.ok.exf,I.ok.bs,I.ok.bsz,I.ok.noex,I.ok.exfs,I.ok.funs,I.ok.frf⟩,I.os,I.bare,I.base,I.loc,I.cell,I.free,I.Gp,I.pin,I.hok,I.len⟩
theorem Xi{calm:X.calm=vJ}(hh:X.A.handled=vZ)(I:Inv (Mi X ea) xU σ H s):Inv X xU σ H s:=
 ⟨⟨I.ok.mod,I.ok.kind,I.ok.glob,I.ok.blt,I.ok.above,I.ok.inj,I.ok.has,I.ok.cab,λ_=>hh,I.ok.frames,I.ok.stk,I.ok.exf,I.ok.bs,I.ok.bsz,I.ok.noex,I.ok.exfs,I.ok.funs,I.ok.frf⟩,I.os,I.bare,I.base,I.loc,I.cell,I.free,I.Gp,I.pin,I.hok,I.len⟩
end
section
variable{X:Cx}{f W:jC}{fn x n:Str}{fp cp ep np hp pos:Pos}{a:jE}{es:List jE}{ta:TA}{sp:Sp}{k i:Nat}{fd:jF}{ps:List Str}{b₀:jM}{suite:List jM}{th:TS}
def takes(K:PySem.W.Frag)(C W:jC):Bool:=Ge K C&&Ge K W&&match K.lookup C with
 |some ⟨_,_,.cls cd,_⟩=>cd.mro.contains (.ref W)
 |_=>vX
end
theorem ZNp:∀n:Nat,n<1000->intS (n:Int):=by
 have h:∀n:Fin 1000,((n.1:Int).natAbs.log2<1920/\(Str.ofString (toString (n.1:Int))).length<=1000):=by decide +kernel
 exact λn hn=>h ⟨n,hn⟩
def sRz(c f:Str)(t:DA):DS:=λS G=>match t S G with
 |.ok ds G1=>(match ds with
  |[.int i]=>if 0<=i/\i<1000 then .err ⟨c,[(f,.int i)]⟩ G1 else .bad
  |[.non]=>.err ⟨c,[(f,.non)]⟩ G1
  |_=>.bad)
 |.err x G1=>.err x G1
 |.bad=>.bad
section
variable{X:Cx}{E:XK}{C fI:jC}{c f v:Str}{np cpos pos:Pos}{a:jE}{t:DA}{k:Nat}{fd:jF}
theorem ZNK(hn:PySem.W.nsIn X.K xy c=vQ (vQ (.ref C)))(hcalm:X.calm=vJ)(hs:X.stack=X.env::X.outer)(hex:X.ex=[])(hfr:X.env.frame=vQ X.env.locals)(hxe:∀e s,Ks X E e s->X.xe e s)
  (XS:XSet X.K C f) (hi:Mu X.K C fI=vJ) (hfn:∃o,X.K.lookup fI=vQ o/\o.cls=.type "function") (F:FnOk X.prog X.w X.K X.mg X.base CX0 k fI fd ["self",v] (spI C f)) (hr:Room (k+1) X.A) (hb:Binds X.K fd ["self",v] [])
  (hg:Gl X c) (hm:X.mg c=vQ (.ref C)) (hk:PySem.W.keepIn X.K (.ref C)=vJ) (ha:QA X E [a] t) (hdb:(c==("__debug__":Str))=vX:=by decide) (hst:notStar a=vJ:=by rfl):
  QS X E (.Raise (vQ (.Call (.Name c np) [a] [] cpos)) vZ pos) (sRz c f t):=
 (ZLg hcalm hs hex hfr hxe XS hi hfn F hr hb hg hm hk ha hdb (Hu a [] X.env hst) rfl).mono λW σ H h=>by
  obtain⟨w,S,G,hk,rfl,sm,r,h⟩:=h;refine⟨w,S,G,hk,rfl,sm,r,?_⟩;unfold sRz at h;cases ht:t S G with
  |err x G1=>rw[ht]at h;exact h
  |bad=>rw[ht]at h;exact h
  | ok ds G1=>
   rw[ht]at h;dsimp only at h;split at h
   ·rename_i i;split at h
    ·rename_i hi;intro b vs x s1 q;obtain⟨v1,r1,rfl,q1,q2⟩:=q;obtain rfl:v1=.int i:=q1;obtain rfl:r1=[]:=q2;refine⟨.int i,rfl,.inl ⟨i,rfl,?_⟩,λdx o nd=>?_⟩
     ·have:=ZNp i.toNat (by lia);rwa[show((i.toNat:Nat):Int)=i by lia]at this
     ·refine h.2 (b.put dx (.frz o (.xd [(f,.int i)]))) C (vQ dx) (x.trans (Ext.put nd)) (s1.put nd) ?_ (.inr ⟨dx,o,[(f,.int i)],rfl,?_,rfl,?_⟩)
      ·show PySem.W.nsIn b.K _ _=_;rw[x.k,hk];exact hn
      ·show upd b.H dx _ dx=_;unfold upd;rw[if_pos rfl]
      ·exact⟨.int i,[],rfl,rfl,rfl⟩
    ·exact h.elim
   ·intro b vs x s1 q;obtain⟨v1,r1,rfl,q1,q2⟩:=q;obtain rfl:v1=.non:=q1;obtain rfl:r1=[]:=q2;refine⟨.non,rfl,.inr rfl,λdx o nd=>?_⟩;refine h.2 (b.put dx (.frz o (.xd [(f,.non)]))) C (vQ dx) (x.trans (Ext.put nd)) (s1.put nd) ?_ (.inr ⟨dx,o,[(f,.non)],rfl,?_,rfl,?_⟩)
    ·show PySem.W.nsIn b.K _ _=_;rw[x.k,hk];exact hn
    ·show upd b.H dx _ dx=_;unfold upd;rw[if_pos rfl]
    ·exact⟨.non,[],rfl,rfl,rfl⟩
   ·exact h.elim
end
noncomputable def unnm(i:Nat):SR->SR
 |.nx S G=>.nx (S.set i vZ) G
 |.bk S G=>.bk (S.set i vZ) G
 |.ct S G=>.ct (S.set i vZ) G
 |.rt d G=>.rt d G
 |_=>.bad
theorem RepS.unset{a:Wd}{S:DSt}{σ:St}(r:RepS a S σ)(i:Nat):RepS a (S.set i vZ) (σ.set i vZ):=by
 refine⟨by simpa using r.len,λj e he=>?_⟩;rw[qk]at he⊢;by_cases hij:i=j
 ·subst hij;rw[if_pos rfl]at he
  split at he<;>cases he
 ·rw[if_neg hij]at he⊢;exact r.get j e he
section
variable{X:Cx}{E:XK}{f W:jC}{fn x n:Str}{fp cp ep np hp pos:Pos}{a:jE}{es:List jE}{t:DA}{F:List D->DH->R D}{k i:Nat}{fd:jF}{ps:List Str}{b₀:jM}{suite:List jM}{hb:DS}{ws:List Str}
end
theorem ZFg{K:PySem.W.Frag}{x:Str}{b:DS}(F:Fun K x qual st f fd)(S:FnScope N ps (Bd st))
  (hbody:∀(cdv:jN)(A:jD)(outer:List Env)(s:jL)(H:Hp)(E:XK),Room k (A.deeper (envOfC qual (Bd st) s.heap.objs.size f cdv))->QSs (Hc (CXx P w) P w K mg base N qual (Bd st) f cdv A outer s H E) E (Ep st) b):
  FnOk P w K mg base (CXx P w) (k+1) f fd ps (lFx K (Ce ps.length (N.length-ps.length) b)):=by
 have hlen:∀vs H Q E,lFx K (Ce ps.length (N.length-ps.length) b) vs H Q E->vs.length=ps.length:=λvs H Q E h=>by
  obtain⟨a,G,ds,hk,rfl,sm,r,h⟩:=h;unfold Ce at h;split at h
  ·rename_i hl;rw[<-r.length];exact hl
  ·exact h.elim
 obtain⟨oc,od,kV,doc,pm,an,cdv,ct,osl,rfl,lk,hcd⟩:=F.ex;refine ZHc lk hcd S hlen λA outer s H vs Q E hr h=>⟨lS K E b,hbody cdv A outer s H E hr,?_⟩
 have hl:=hlen vs H Q E h;obtain⟨a,G,ds,hk,rfl,sm,r,h⟩:=h;unfold Ce at h;split at h
 ·have h2:=ZBB sm h;refine⟨a,ds.map vQ++zY (N.length-ps.length) vZ,G,hk,rfl,sm,ZFL r _ _ (by rw[hl]),?_⟩
  revert h2
  cases b (ds.map vQ++zY (N.length-ps.length) vZ) G with
  |nx S1 G1=>exact λh2 c σ x s1 _=>h2 c .non x s1 rfl
  |rt d G1=>exact λh2=>h2
  |err e G1=>exact λh2=>h2
  |bk S1 G1=>exact λh2=>h2.elim
  |ct S1 G1=>exact λh2=>h2.elim
  |bad=>exact λh2=>h2
 ·exact h.elim
theorem ZOq{K:PySem.W.Frag}{scope:jI}{cd:jN}{A:jD}{outer:List Env}{E:XK}:
  Passes (CXx P w) (Hc (CXx P w) P w K mg base N qual scope f cd A outer s H E) E:=λxU σ H1 s1 e s' I h=>ZMf rfl rfl rfl I h
theorem ownX{K:PySem.W.Frag}{scope:jI}{cd:jN}{A:jD}{outer:List Env}{E:XK}:
  PassesOwn (x9 P w) (Hc (CXx P w) P w K mg base N qual scope f cd A outer s H E).A (Hc (CXx P w) P w K mg base N qual scope f cd A outer s H E).env (Hc (CXx P w) P w K mg base N qual scope f cd A outer s H E).xe:=PassesOwn.leaving
noncomputable def nerr(F:List D->DH->R D):List D->DH->R D:=λds G=>match F ds G with
 |.ok d G1=>.ok d G1
 |_=>.bad
section
variable{X:Cx}{E:XK}{x:Str}{p pos:Pos}{e:jE}{es:List jE}{tr:DA}
theorem ZHr{ds:List D}{Q:VK}(h:out E b (nerr F ds G) Q):out E0 b (F ds G) Q:=by
 unfold nerr at h;cases hF:F ds G with
 |ok d G1=>rw[hF]at h;exact h
 |err x G1=>rw[hF]at h;exact h.elim
 |bad=>rw[hF]at h;exact h
theorem ZOf(FF:FnOk X.prog X.w X.K X.mg X.base CX0 k f fd ps (lF X.K F))(hr:Room k X.A)(hg:Gl X x)(hm:X.mg x=vQ (.ref f))(hk:PySem.W.keepIn X.K (.ref f)=vJ)(hb:Binds X.K fd ps [])
  (ha:QA X E (e::es) tr) (hdb:(x==("__debug__":Str))=vX:=by decide) (he:notStar e=vJ:=by rfl) (hpl:es.all notStar=vJ:=by rfl):QE X E (.Call (.Name x p) (e::es) [] pos) (dFn (nerr F) tr):=
 (ZCG (E:=E) FF hr hg hm hk hb .nil (λ_ _ _ _ _ _ _ h=>h.elim) ha hdb (Hu e es X.env he) (Mp pos X.env es hpl)).mono λσ H Q h=>by obtain⟨a,S,G,hk,rfl,s,r,h⟩:=Qc h;refine⟨a,S,G,hk,rfl,s,r,h.imp ?_⟩;rintro vs _ ⟨b,G1,ds,hk,rfl,s1,q,h1⟩;exact⟨b,G1,ds,hk,rfl,s1,by rw[zU];exact q,ZHr h1⟩
theorem ZFF(FF:FnOk X.prog X.w X.K X.mg X.base (CXx X.prog X.w) k f fd ps (lFx X.K F))(hr:Room k X.A)(hg:Gl X x)(hm:X.mg x=vQ (.ref f))(hk:PySem.W.keepIn X.K (.ref f)=vJ)(hb:Binds X.K fd ps [])
  (hx:Passes (CXx X.prog X.w) X E) (ha:QA X E (e::es) tr) (hdb:(x==("__debug__":Str))=vX:=by decide) (he:notStar e=vJ:=by rfl) (hpl:es.all notStar=vJ:=by rfl):QE X E (.Call (.Name x p) (e::es) [] pos) (dFn F tr):=
 (ZCG FF hr hg hm hk hb .nil hx ha hdb (Hu e es X.env he) (Mp pos X.env es hpl)).mono λσ H Q h=>by obtain⟨a,S,G,hk,rfl,s,r,h⟩:=Qc h;refine⟨a,S,G,hk,rfl,s,r,h.imp ?_⟩;rintro vs _ ⟨b,G1,ds,hk,rfl,s1,q,h1⟩;exact⟨b,G1,ds,hk,rfl,s1,by rw[zU];exact q,h1⟩
end
structure RoomH (k:Nat) (A:jD):Prop where
 dp:A.depth+3*k+5<recursionLimit
 un:A.units+16*k+200<cLine
theorem RoomH.of{A:jD}(r:Room k A):RoomH k A:=⟨r.dp,r.un⟩
theorem RoomH.held{A:jD}{v:Option jN}(r:RoomH k A):RoomH k (A.mark v):=⟨r.dp,r.un⟩
section
variable{X:Cx}{E:XK}{x:Str}{p pos:Pos}{e:jE}{es:List jE}{tr:DA}
end
structure XGet (K:PySem.W.Frag) (C:jC):Prop where
 ga:PySem.W.findIn K (.ref C) "__getattribute__"=vQ (vQ (.builtin "BaseException.__getattribute__"))
 gn:PySem.W.findIn K (.ref C) "__getattr__"=vQ vZ
 sb:PySem.W.subIn K (.ref C) (.type "BaseException")=vQ vJ
 hd:PySem.W.hasDictIn K C=vJ
 cl:PySem.W.findIn K (.ref C) "__class__"=vQ (vQ (.builtin "object.__class__"))
 cg:PySem.W.specialIn K (.builtin "object.__class__") "__get__"=vQ (vQ (.builtin "getset_descriptor.__get__"))
 ct:PySem.W.takesIn K (.builtin "object.__class__")=vQ vJ
 mo:PySem.W.mroIn K C (.type "object")=vQ vJ
 kc:PySem.W.kitCls K (.ref C) (.ref C)=vQ vJ
 ec:Ge K C=vJ
section
variable{prog:jH}{w:jO}{A:jD}{E:jN->jL->Prop}{s:jL}{K:PySem.W.Frag}{x C:jC}{ox:Obj}{od:Option Obj}{name:Str}{tk:Tok}
theorem ZM0{M:Model}{nameV:jN}{Q:Unit->jL->Prop}(X:K.In s.heap)(I:PySem.W.InstAt s.heap x ox C od)(hs:PySem.W.subIn K (.ref C) (.type "BaseException")=vQ vJ)(hq:Q () s):
  xF M A (checkBuiltinCall "BaseException.__getattribute__" ⟨[.ref x,nameV],[]⟩) Q E s:=by
 have hk:builtinKind "BaseException.__getattribute__"=vQ .slot:=by decide +kernel
 have hsplit:splitId "BaseException.__getattribute__"=vQ ("BaseException","__getattribute__"):=by decide +kernel
 have ha:=F.args_bexc_ga (.ref x) nameV;have LI:PySem.W.Looks M s.heap (isInstance (.ref x) (.type "BaseException")) vJ:=(I.type (M:=M)).andThen (PySem.W.looks_subIn X hs);obtain⟨h,g,d,t,os⟩:=s;simp only[checkBuiltinCall,hk,hsplit];refine xH (LI.at ?_)
 repeat (first|wp_step)
 exact hq
theorem ZDz{Q:jN->jL->Prop}(X:K.In s.heap)(I:PySem.W.InstAt s.heap x ox C od)(G:XGet K C)
  (h:∀A',xF (x9 prog w) A' (Builtin.«object.__getattribute__» ⟨[.ref x,.str name tk],[]⟩) (λfin s'=>match fin with | .done (.ret v)=>PySem.W.handedIn v=vJ/\Q v s'|_=>False) (λ_ _=>False) s):
  xF (x9 prog w) A (getAttrBy (.ref x) (.str name tk) fill expr) Q E s:=by
 have L0:=I.type (M:=x9 prog w);have L1:=PySem.W.looks_findIn (M:=x9 prog w) X G.ga;have _L:=PySem.W.looks_findIn (M:=x9 prog w) X G.gn;have f3:=F.excAttr_ValueError.ga.bind (.ref x)
 have hx0:(expr&&onTheHeap (Value.builtin "BaseException.__getattribute__"))=vX:=by cases expr<;>rfl
 obtain⟨hh,g,d,t,os⟩:=s;unfold getAttrBy;refine xL (xH (L0.at (xH (L1.at ?_))));dsimp only;rw[show(onTheHeap (Value.ref C)&&Value.builtin "BaseException.__getattribute__"==Value.builtin "object.__getattribute__")=vX by rw[show(Value.builtin "BaseException.__getattribute__"==Value.builtin "object.__getattribute__")=vX by decide +kernel];rfl];simp only[Bool.false_eq_true,if_false]
 unfold getAttrByItsOwn;show xF _ _ (typeLookup (.ref C) "__getattr__" >>=_) _ _ _;refine xH (_L.at ?_);refine xH (wpAny_attempt (xL ?_));unfold callGetattribute;rw[hx0];simp only[Bool.false_eq_true,if_false];unfold boundAndCalled;rw[f3];refine xH (xP ?_);refine wpAny_call (codeAny_call_builtin F.excAttr_ValueError.ga.plain F.entry_bexc_ga (ZM0 X I G.sb (xM (h _) (λfin s' z=>?_) λ_ _ z=>z.elim)))
 rcases fin with(_|_|_|_)|_<;>first|exact z.elim|exact PySem.W.handed_on z.1 z.2
theorem ZL2{v:jN}{Q:jN->jL->Prop}(X:K.In s.heap)(I:PySem.W.InstAt s.heap x ox C od)(G:XGet K C)(hf:PySem.W.findObj K C od name=vQ (.value v))(hv:PySem.W.handedIn v=vJ)(h:Q v s):
  xF (x9 prog w) A (getAttrBy (.ref x) (.str name tk) fill expr) Q E s:=by
 refine ZDz X I G λA'=>?_
 have L0:=I.type (M:=x9 prog w);have L1:=PySem.W.looks_find (M:=x9 prog w) X I hf;obtain⟨hh,g,d,t,os⟩:=s;refine xH (xP (xH (xP (xH (L0.at (xH (L1.at ?_)))))));exact xP ⟨hv,h⟩
theorem ZIs{Q:jN->jL->Prop}(X:K.In s.heap)(I:PySem.W.InstAt s.heap x ox C od)(G:XGet K C)(h:Q (.ref C) s):
  xF (x9 prog w) A (getAttrBy (.ref x) (.str "__class__" tk) fill expr) Q E s:=by
 refine ZDz X I G λA'=>?_
 have hf:PySem.W.findObj K C od "__class__"=vQ (.bind (.builtin "getset_descriptor.__get__") (.builtin "object.__class__")):=by obtain⟨cd,hc,_⟩:=PySem.W.any_some G.hd;unfold PySem.W.findObj;rw[hc,Option.bind_some,G.cl,Option.bind_some];simp[G.cg,G.ct]
 have L0:=I.type (M:=x9 prog w);have L1:=PySem.W.looks_find (M:=x9 prog w) X I hf;have cg:=λ(A:jD)(R:Result->jL->Prop)(z:R (.ok (.ret (.ref C))) s)=>PySem.W.class_get (prog:=prog) (w:=w) (A:=A) (R:=R) (tp:=.ref C) X I G.mo z
 obtain⟨hh,g,d,t,os⟩:=s;refine xH (xP (xH (xP (xH (L0.at (xH (L1.at ?_)))))));show xF _ _ (holding _ (call (.builtin "getset_descriptor.__get__") [.builtin "object.__class__",.ref x,.ref C]) >>=ret) _ _ _;exact xH (xL (wpAny_call (cg _ _ (xP ⟨rfl,h⟩))))
theorem ZOc(G:XGet K C):PySem.W.KitX K (.ref x) (.ref C) (λh=>PySem.W.InstAt h x ox C od):=by
 refine⟨λ_ _ _ I=>I.type,λ_ _ X _=>(PySem.W.kit_cls X G.kc).2.1,λh tp dd its n sl X htp=>?_,λ{_ _ _ _ _ s}X I k=>?_⟩
 ·cases q:(Value.ref C == .ref tp)with
  |false=>rfl
  |true=>
   have z:C=tp:=Value.ref.inj (beq_iff_eq.mp q);obtain⟨_,_,_,_,_,_,_,_,_,_,_,_,_,_,_,hcl,_⟩:=Mh X G.ec;rw[z,htp]at hcl;have:=congrArg Obj.cls (Option.some.inj hcl);have z2:Value.type "tuple"=Value.type "type":=this;exact absurd (Value.type.inj z2) (by decide)
 ·obtain⟨hh,g,d,t,os⟩:=s;unfold getAttr? getAttrBy?;refine xH (wpAny_mkText (xH (wpAny_attempt ?_)));exact ZIs (s:=⟨hh,g,d,t+1,os⟩) X I G (xP k)
end
noncomputable def isx(tb:List (Str×Bool))(x:D)(G:DH):R D:=match x with
 | .ref i=>(match G[i]? with
  |some (.exc c _)=>(match tb.lookup c with
   |some b=>.ok (.bl b) G
   |none=>.bad)
  |_=>.bad)
 |_=>.bad
def gtx(cs:List Str)(f:Str)(x:D)(G:DH):R D:=match x with
 | .ref i=>(match G[i]? with
  |some (.exc c (p::r))=>if c∈cs then(match(p::r).lookup f with
   |some d=>.ok d G
   |none=>.bad)else .bad
  |_=>.bad)
 |_=>.bad
def HeldAt(H:Hp)(x:V)(C:jC)(us:List (Str×V)):Prop:=∃a oe u vs dx o,x=.ref a/\H a=vQ (.frz oe u)/\oe.cls=.ref C/\oe.data=.fields vs/\oe.dict=vQ dx/\H dx=vQ (.frz o (.xd us))
theorem Sim.exc{c:Str}{p:Str×D}{fs:List (Str×D)}{v:V}(s:Sim b G)(r:Rep b (.ref i) v)(h:G[i]?=vQ (.exc c (p::fs))):∃C us,PySem.W.nsIn b.K xy c=vQ (vQ (.ref C))/\HeldAt b.H v C us/\RepF b (p::fs) us:=by
 obtain⟨_,ev⟩:=r;obtain⟨C,oe,u,vs,n,e,k1,k2,z⟩:=s.obj i _ h;rcases z with⟨z,_⟩|⟨dx,o,us,z1,z2,z3⟩
 ·cases z
 ·exact⟨C,us,n,⟨_,oe,u,vs,dx,o,ev,e,k1,k2,z1,z2⟩,z3⟩
def HeldC(H:Hp)(x:V)(C:jC):Prop:=∃a oe u vs,x=.ref a/\H a=vQ (.frz oe u)/\oe.cls=.ref C/\oe.data=.fields vs/\(oe.dict=vZ∨∃dx o us,oe.dict=vQ dx/\H dx=vQ (.frz o (.xd us)))
theorem Sim.Ge{c:Str}{fs:List (Str×D)}{v:V}(s:Sim b G)(r:Rep b (.ref i) v)(h:G[i]?=vQ (.exc c fs)):∃C,PySem.W.nsIn b.K xy c=vQ (vQ (.ref C))/\HeldC b.H v C:=by
 obtain⟨_,ev⟩:=r;obtain⟨C,oe,u,vs,n,e,k1,k2,z⟩:=s.obj i _ h;rcases z with⟨_,z⟩|⟨dx,o,us,z1,z2,z3⟩
 ·exact⟨C,n,_,oe,u,vs,ev,e,k1,k2,.inl z⟩
 ·exact⟨C,n,_,oe,u,vs,ev,e,k1,k2,.inr ⟨dx,o,us,z1,z2⟩⟩
section
variable{X:Cx}{E:XK}{xU:List (jC×Obj)}{σ:St}{H:Hp}{s:jL}
theorem ZMX{x:V}{us:List (Str×V)}(I:Inv X xU σ H s)(h:HeldAt H x C us):∃(a:jC)(oe od:Obj)(mA:Str->Option jN),x=.ref a/\PySem.W.InstAt s.heap a oe C (vQ od)/\(∀name,PySem.W.lookIn name od=vQ (mA name))/\∀f,RelO (us.lookup f) (mA f):=by
 obtain⟨a,oe,u,vs,dx,o,rfl,ea,k1,k2,k3,ed⟩:=h
 obtain⟨ha,_⟩:=(show ObjOk X.prog X.w H s.heap a (.frz oe u)from I.hok a _ ea)
 obtain⟨hd,mA,hn,hr⟩:=(show ObjOk X.prog X.w H s.heap dx (.frz o (.xd us))from I.hok dx _ ed)
 obtain⟨od,ho,hl⟩:=ZGe hn;refine⟨a,oe,od,mA,rfl,⟨ha,k1,?_,?_⟩,hl,hr⟩
 ·unfold PySem.W.notCls;rw[k2]
 ·rw[k3];exact ho
theorem ZNn{x:V}(I:Inv X xU σ H s)(h:HeldC H x C):∃(a:jC)(oe:Obj)(od:Option Obj),x=.ref a/\PySem.W.InstAt s.heap a oe C od:=by
 obtain⟨a,oe,u,vs,rfl,ea,k1,k2,z⟩:=h
 obtain⟨ha,_⟩:=(show ObjOk X.prog X.w H s.heap a (.frz oe u)from I.hok a _ ea)
 have nc:PySem.W.notCls oe=vJ:=by unfold PySem.W.notCls;rw[k2]
 rcases z with z|⟨dx,o,us,z,ed⟩
 ·exact⟨a,oe,vZ,rfl,ha,k1,nc,by rw[z];trivial⟩
 ·obtain⟨hd,mA,hn,hr⟩:=(show ObjOk X.prog X.w H s.heap dx (.frz o (.xd us))from I.hok dx _ ed)
  obtain⟨od,ho,hl⟩:=ZGe hn;exact⟨a,oe,vQ od,rfl,ha,k1,nc,by rw[z];exact ho⟩
def rIs1(K:PySem.W.Frag)(cv:V)(cu:jN):List V->Hp->VK->Prop:=λvs H Q=>∃x C b,vs=[x,cv]/\HeldC H x C/\XGet K C/\PySem.W.kitOne K (.ref C) cu=vQ b/\Q (.bl b) H
theorem ZJY{cv:V}{cu:jN}(hcu:∀u,RelV cv u->u=cu):CallR X (.builtin "isinstance") (rIs1 X.K cv cu):=by
 intro xU s σ H xs us Q I rs h;obtain⟨x,C,b,rfl,hx,G,hk,q⟩:=h;obtain⟨u,u',rfl,ru,ru'⟩:∃u u',us=[u,u']/\RelV x u/\RelV cv u':=by
  cases rs with
  |cons p q=>cases q with
   |cons p' q'=>cases q';exact⟨_,_,rfl,p,p'⟩
 cases hcu _ ru';obtain⟨a,oe,od,rfl,J⟩:=ZNn I hx
 cases(show u=Value.ref a from ru)
 exact PySem.W.kia_one (ZOc G) I.kIn J hk (λz=>nomatch z) λtk=>⟨.bl b,H,I.tok _,rfl,q⟩
variable{e ce:jE}{ces:List jE}{t:DE}{tb:List (Str×Bool)}{cv:V}{cu:jN}{cvs:List V}{cus:List jN}{p pos tp:Pos}
theorem ZGp(hg:Gl X "isinstance")(hm:X.mg "isinstance"=vZ)(ha:QE X E e t)(hc:PE X ce (tC cv))(hcu:∀u,RelV cv u->u=cu)
  (htb:∀c b,tb.lookup c=vQ b->∀C,PySem.W.nsIn X.K xy c=vQ (vQ (.ref C))->XGet X.K C/\PySem.W.kitOne X.K (.ref C) cu=vQ b) (he:notStar e=vJ:=by rfl) (hs:notStar ce=vJ:=by rfl):
  QE X E (.Call (.Name "isinstance" p) [e,ce] [] pos) (dUn (isx tb) t):=
 (ZGi (ZJY hcu) hg hm ZBJ (Qi ha (Qi hc Ys (Hu ce [] X.env hs)) (Hu e [ce] X.env he)) (by decide) (by decide) (Hu e [ce] X.env he) (Mp pos X.env [ce] (by simp[hs]))).mono λσ H Q h=>by
  obtain⟨a,S,G,hk,rfl,s,r,h⟩:=h;refine⟨a,S,G,hk,rfl,s,r,(Fp h).imp ?_⟩;rintro v _ ⟨b,d,G1,rfl,x,s1,q,-,h1⟩;unfold isx at h1;split at h1
  ·rename_i i;split at h1
   ·rename_i c fs hi;split at h1
    ·rename_i bb hb;obtain⟨C,n,hx⟩:=s1.Ge q hi;obtain⟨g1,g2⟩:=htb c bb hb C (by rw[<-hk,<-x.k];exact n);exact⟨v,C,bb,rfl,hx,g1,g2,h1 b _ (Ext.refl b) s1 rfl⟩
    ·exact h1.elim
   ·exact h1.elim
  ·exact h1.elim
variable{f:Str}{cs:List Str}
noncomputable def tXf(K:PySem.W.Frag)(ta:TE)(f:Str):TE:=λσ H Q=>ta σ H λx H1=>∃C us v,HeldAt H1 x C us/\XGet K C/\NoAttr K C f/\us.lookup f=vQ v/\Q v H1
theorem ZNl{ta:TE}(he:PE X e ta)(hb:jR e f X.env (eval e X.env)=eval e X.env):PE X (.Attribute e f pos) (tXf X.K ta f):=by
 intro xU s σ H Q I h;refine ZJy hb (thn (he xU s σ H _ I h) λu s1 ⟨x,H1,I1,rx,C,us,v,hx,G,n,l,q⟩=>?_);obtain⟨a,oe,od,mA,rfl,J,hl,hr⟩:=ZMX I1 hx
 cases(show u=Value.ref a from rx)
 obtain⟨u',hu,ru⟩:=RelO.some_of (v:=v) (o:=mA f) (by rw[<-l];exact hr f);obtain⟨hh,g,d,t,os⟩:=s1;unfold getAttr;refine xH (wpAny_mkText ?_);exact ZL2 (s:=⟨hh,g,d,t+1,os⟩) I1.kIn J G (PySem.W.findObj_own G.hd n rfl (by rw[hl,hu])) (ZK6 ru) ⟨v,H1,I1.tok _,ru,q⟩
theorem ZJU(ha:QE X E e t)(hcs:∀c∈cs,∀C,PySem.W.nsIn X.K xy c=vQ (vQ (.ref C))->XGet X.K C/\NoAttr X.K C f)(hb:jR e f X.env (eval e X.env)=eval e X.env:=by rfl):
  QE X E (.Attribute e f pos) (dUn (gtx cs f) t):=
 (ZNl ha hb).mono λσ H Q h=>by
  obtain⟨a,S,G,hk,rfl,s,r,h⟩:=h;refine⟨a,S,G,hk,rfl,s,r,(Fp h).imp ?_⟩;rintro v _ ⟨b,d,G1,rfl,x,s1,q,-,h1⟩;unfold gtx at h1;split at h1
  ·rename_i i;split at h1
   ·rename_i c pf fs hi;split at h1
    ·rename_i hc;split at h1
     ·rename_i d' hd;obtain⟨C,us,n,hx,rf⟩:=s1.exc q hi;obtain⟨g1,g2⟩:=hcs c hc C (by rw[<-hk,<-x.k];exact n);obtain⟨u,eu,ru⟩:=rf.look hd;exact⟨C,us,u,hx,g1,g2,eu,h1 b u (Ext.refl b) s1 ru⟩
     ·exact h1.elim
    ·exact h1.elim
   ·exact h1.elim
  ·exact h1.elim
end
end _D
namespace _D
open PySem PySem.Spec PySem.W _L
open PyProof.Rows hiding St
variable{K:xS}{h:Heap}{mg:Str->Option jN}{G:DH}
theorem N7{r:Option (Option jN)}{n:String}(h:isB r n=vJ):r=vQ (vQ (.builtin n)):=by
 unfold isB at h;split at h
 ·rw[beq_iff_eq.mp h]
 ·cases h
theorem Kg{r:Option Bool}{b:Bool}(h:Aj r b=vJ):r=vQ b:=by
 unfold Aj at h;split at h
 ·rw[beq_iff_eq.mp h]
 ·cases h
theorem Su{α:Type}{r:Option (Option α)}(h:Nq r=vJ):r=vQ vZ:=by
 unfold Nq at h;split at h
 ·rfl
 ·cases h
structure ET (K:xS) (mg:Str->Option jN) (c f:Str):Prop where
 N:nsIn K xy c=vQ (vQ (.ref (Ab K c)))
 g:mg c=vQ (.ref (Ab K c))
 k:keepIn K (.ref (Ab K c))=vJ
 X:XSet K (Ab K c) f
 i:Mu K (Ab K c) (Cz K (Ab K c) "__init__")=vJ
 o:∃o,K.lookup (Cz K (Ab K c) "__init__")=vQ o/\o.cls=.type "function"
 G:XGet K (Ab K c)
 no:NoAttr K (Ab K c) f
theorem ZIH{a:jC}(h:ZAs K a=vJ):∃o,K.lookup a=vQ o/\o.cls=.type "function":=by
 unfold ZAs at h;split at h
 ·rename_i t _ _ _ e;exact⟨_,e,by rw[beq_iff_eq.mp h]⟩
 ·cases h
theorem Ri{c f:Str}(X:K.In h)(G:h.Ns xy mg)(s:M3 c f K=vJ):ET K mg c f:=by simp only[M3,zZ]at s;obtain⟨⟨⟨⟨⟨⟨h1,h2⟩,⟨⟨⟨h3,h4⟩,h5⟩,h6⟩,h7⟩,h8⟩,h9⟩,⟨⟨⟨⟨⟨⟨g1,g2⟩,g3⟩,g4⟩,g5⟩,g6⟩,g7⟩,g8⟩,h10⟩:=s;exact⟨Ke h1,mg_of X G (Ke h1),h2,⟨h3,ZFD h4,h5,Su h6,h7⟩,h8,ZIH h9,⟨N7 g1,Su g2,Kg g3,h7,N7 g4,N7 g5,Kg g6,Kg g7,Kg g8,h3⟩,ZDv h10⟩
theorem ZKG{r:Option CFound}{n:String}(h:ZCa r n=vJ):r=vQ (.val (.builtin n)):=by
 unfold ZCa at h;split at h
 ·rw[beq_iff_eq.mp h]
 ·cases h
theorem ZNT{x:Str}(X:K.In h)(G:h.Ns xy mg)(s:ZCO x K=vJ):XBase K mg x (Ab K x):=by simp only[ZCO,zZ]at s;obtain⟨⟨⟨h1,h2⟩,h3⟩,h4⟩:=s;exact⟨mg_of X G (Ke h1),N7 h2,h3,ZKG h4⟩
theorem Gu{x:Str}(X:K.In h)(G:h.Ns xy mg)(s:gOk K x=vJ):mg x=vQ (.ref (Ab K x)):=mg_of X G (Ke s)
abbrev FnX(P:jH)(w:jO)(K:xS)(mg:Str->Option jN)(base:Heap)(k:Nat)(n:Str)(ps:List Str)(F:List D->DH->R D):Prop:=FnOk P w K mg base (CXx P w) k (Ab K n) (Bv K (Ab K n)) ps (lFx K F)
theorem ZJP{X:Cx}:Passes (CXx X.prog X.w) X E0:=λxU σ H s e s' I h=>by obtain⟨_,_,_,_,_,_,_,_,_,_,_,_,_,z,_⟩:=h;exact z.elim
section
variable{X:Cx}{E:XK}{c x n f v:Str}{e a:jE}{es:List jE}{t:DE}{tr:DA}{p q pos cpos np:Pos}{b:Bool}{F:List D->DH->R D}{k j:Nat}{ps:List Str}{st:jM}
theorem ZGm(FF:FnX X.prog X.w X.K X.mg X.base k n ps F)(T:FT X.K X.mg n st ps)(hr:Room j X.A)(ha:QA X E0 (e::es) tr)(hj:Nat.ble k j=vJ:=by rfl)(hg:Gl X n:=by rfl)(hdb:(n==("__debug__":Str))=vX:=by decide)(he:notStar e=vJ:=by rfl)(hpl:es.all notStar=vJ:=by rfl):
  QE X E0 (.Call (.Name n p) (e::es) [] pos) (dFn F tr):=ZFF FF (hr.mono (qR hj)) hg T.m T.k T.b ZJP ha hdb he hpl
theorem Qv(FF:FnO X.prog X.w X.K X.mg X.base k n ps F)(T:FT X.K X.mg n st ps)(hr:Room j X.A)(ha:QA X E (e::es) tr)(hj:Nat.ble k j=vJ:=by rfl)(hg:Gl X n:=by rfl)(hdb:(n==("__debug__":Str))=vX:=by decide)(he:notStar e=vJ:=by rfl)(hpl:es.all notStar=vJ:=by rfl):
  QE X E (.Call (.Name n p) (e::es) [] pos) (dFn (nerr F) tr):=ZOf FF (hr.mono (qR hj)) hg T.m T.k T.b ha hdb he hpl
theorem Qj(T:ET X.K X.mg c f)(FI:FnOk X.prog X.w X.K X.mg X.base CX0 k (Cz X.K (Ab X.K c) "__init__") (Bv X.K (Cz X.K (Ab X.K c) "__init__")) ["self",v] (spI (Ab X.K c) f))(hb:Binds X.K (Bv X.K (Cz X.K (Ab X.K c) "__init__")) ["self",v] [])(hr:Room j X.A)(ha:QA X E [a] tr)
  (hxe:∀e s,Ks X E e s->X.xe e s:=by exact λ_ _ h=>h) (hj:Nat.ble (k+1) j=vJ:=by rfl) (hcalm:X.calm=vJ:=by rfl) (hs:X.stack=X.env::X.outer:=by rfl) (hex:X.ex=[]:=by rfl) (hfr:X.env.frame=vQ X.env.locals:=by rfl) (hg:Gl X c:=by rfl) (hdb:(c==("__debug__":Str))=vX:=by decide) (hst:notStar a=vJ:=by rfl):
  QS X E (.Raise (vQ (.Call (.Name c np) [a] [] cpos)) vZ pos) (sRz c f tr):=
 ZNK T.N hcalm hs hex hfr hxe T.X T.i T.o FI (hr.mono (qR hj)) hb hg T.g T.k ha hdb hst
end
noncomputable def SR.nr:SR->SR
 |.err _ _=>.bad
 |r=>r
def sNr(t:DS):DS:=λS G=>(t S G).nr
@[simp]theorem ev_sNr{t:DS}{S:DSt}:sNr t S G=(t S G).nr:=id rfl
@[simp]theorem nr_nx{S:DSt}:(SR.nx S G).nr=.nx S G:=id rfl
@[simp]theorem nr_rt{d:D}:(SR.rt d G).nr=.rt d G:=id rfl
theorem ZMd{E:XK}{t:DS}{W:Ends}{σ:St}{H:Hp}(h:lS K E (sNr t) W σ H):lS K E0 t W σ H:=by
 obtain⟨a,S,G,hk,rfl,sm,r,h⟩:=h;refine⟨a,S,G,hk,rfl,sm,r,?_⟩;unfold sNr at h
 revert h
 cases t S G with
 |err x G1=>exact λh=>h.elim
 |nx S1 G1=>exact λh=>h
 |bk S1 G1=>exact λh=>h
 |ct S1 G1=>exact λh=>h
 |rt d G1=>exact λh=>h
 |bad=>exact λh=>h
theorem Oi{X:Cx}{E:XK}{s:jM}{t:DS}(h:QS X E0 s t):QS X E s (sNr t):=PS.mono h λ_ _ _ z=>ZMd z
end _D
namespace _D
open PySem PySem.Spec _L
open PyProof.Rows hiding St
section
variable{X:Cx}{E:XK}{xU:List (jC×Obj)}{σ:St}{s:jL}
end
end _D
namespace _D
open PySem PySem.W PySem.Spec _L
open PyProof.Rows hiding St
section
variable{X:Cx}{E:XK}{x:Str}{p pos:Pos}{e:jE}{es:List jE}{tr:DA}
end
section
variable{X:Cx}{E:XK}{n:Str}{e:jE}{es:List jE}{tr:DA}{p pos:Pos}{F:List D->DH->R D}{k j:Nat}{ps:List Str}{st:jM}{v:Int}
end
section
variable{X:Cx}{E:XK}{c x n f v:Str}{e a:jE}{es:List jE}{t:DE}{tr:DA}{p q pos cpos np:Pos}{b:Bool}{F:List D->DH->R D}{k j:Nat}{ps:List Str}{st:jM}
end
end _D
namespace _D
open PySem PySem.Spec _L
open PyProof.Rows hiding St
variable{X:Cx}
noncomputable def dTc(F:List D->DH->R D)(t:DA):DE:=λS G=>match t S G with
 |.ok ds G1=>F ds G1
 |_=>.bad
def QTe(X:Cx)(e:jE)(t:DE):Prop:=∀(xU:List (jC×Obj))(s:jL)(σ:St)(H:Hp)(Q:VK)(E:XK),Inv X xU σ H s->lE X.K E t σ H Q->
 xF (x9 X.prog X.w) X.A (eval e X.env) (EP X xU σ Q) (λe s'=>∃H1 s1,Inv X xU σ H1 s1/\CXx X.prog X.w X.stack H1 s1 E e s') s
def QTr(X:Cx)(b:List jM)(t:DS):Prop:=∀(xU:List (jC×Obj))(s:jL)(σ:St)(H:Hp)(Nx:St->Hp->Prop)(E:XK),Inv X xU σ H s->lS X.K E t {nx:=Nx,rt:=λ_ _=>False} σ H->
 xF (x9 X.prog X.w) X.A (execs b X.env) (λfl s'=>fl=.next/\∃σ' H',Inv X xU σ' H' s'/\Nx σ' H') (λe s'=>∃H1 s1,Inv X xU σ H1 s1/\CXx X.prog X.w X.stack H1 s1 E e s') s
section
variable{X:Cx}{f:jC}{fn:Str}{fp cp ep pos:Pos}{a e:jE}{es:List jE}{t:DA}{te:DE}{F:List D->DH->R D}{k:Nat}{fd:jF}{ps:List Str}
theorem ZL7{dvs:List V}{dus:List jN}{spx:Sp}(FF:FnOk X.prog X.w X.K X.mg X.base (CXx X.prog X.w) k f fd ps spx)(hr:Room k X.A)(hdv:Vals dvs dus)(hbd:Binds X.K fd ps dus)(hg:Gl X fn)(hm:X.mg fn=vQ (.ref f))(hk:PySem.W.keepIn X.K (.ref f)=vJ)(ha:QA X.nox E0 (a::es) t)
  (hF:∀(w:Wd)(G:DH)(ds:List D)(vs:List V)(Q:VK)(E:XK),w.K=X.K->Sim w G->Reps w ds vs->out E w (F ds G) Q->spx (vs++dvs) w.H Q E)
  (hdb:(fn==("__debug__":Str))=vX) (he:xD (a::es) X.env=(vX,eval a X.env)::xD es X.env) (hpl:(jS cp (xD es X.env)).any (·.1)=vX):
  QTe X (.Call (.Name fn fp) (a::es) [] cp) (dTc F t):=by
 intro xU s σ H Nx E I h;have h':lA X.K E0 t σ H λvs H1=>spx (vs++dvs) H1 Nx E:=by
  obtain⟨w,S,G,hkw,rfl,sm,r,h⟩:=h;refine⟨w,S,G,hkw,rfl,sm,r,?_⟩;unfold dTc at h;cases ht:t S G with
  |err x G1=>rw[ht]at h;exact h.elim
  |bad=>rw[ht]at h;exact h
  |ok ds G1=>
   rw[ht]at h;exact λb vs y s1 q=>hF b G1 ds vs _ E (y.k.trans hkw) s1 q (out.mono y h)
 refine xG (Lz I hg hm ?_ hdb);refine PySem.W.callWith_K (h₀:=X.base) I.ok.mod.kin hk (xM (ha cp xU s σ H _ (I.wish _) h') (λus s1 ⟨vs,H1,I1,r,q⟩=>⟨I1.kIn,?_⟩) λ_ _ z=>z.elim) he hpl;have I1':=I1.unwish;have r2:Vals (vs++dvs) (us++dus):=r.append hdv;have hlen:(us++dus).length=ps.length:=by rw[<-r2.length];exact FF.len _ _ _ _ q
 refine wpAny_call (xJ (FF.run X.A X.stack s1 H1 ⟨us,[]⟩ (us++dus) (vs++dvs) _ E hr I1'.env0 (hbd s1 us I1'.kIn hlen) r2 q) λr s' hq=>?_);cases r with
 |ok fl=>
  cases fl with
  |next=>exact False.elim hq
  |brk=>exact False.elim hq
  |cont=>exact False.elim hq
  |ret u=>exact I1'.after hq
 |error e=>exact⟨H1,s1,I1',hq⟩
theorem ZNa(he:QTe X e te)(hsw:swapsWith e vZ ep.line X.env=pure vX:=by rfl):QTr X [.Expr e ep] (sEx te):=by
 intro xU s σ H Nx E I h;obtain⟨w,S,G,hkw,rfl,sm,r,h⟩:=h;have h':lE X.K E te σ w.H λ_ H'=>Nx σ H':=by
  refine⟨w,S,G,hkw,rfl,sm,r,?_⟩;unfold sEx at h;cases ht:te S G with
  |err x G1=>rw[ht]at h;exact h
  |bad=>rw[ht]at h;exact h
  |ok d G1=>rw[ht]at h;exact λb v y s1 q=>h b σ y s1 (r.mono y)
 exact wpAny_execs_cons (wpAny_Expr_any (thn (he xU s σ w.H _ E I h') λu s1 ⟨v,H1,I1,_,q⟩=>wpAny_execs_nil ⟨rfl,σ,H1,I1,q⟩) I.quiet hsw)
end
noncomputable abbrev DHn:=Xn->DSt->DH->SR
def QH(X:Cx)(hs:List ExceptHandler)(f:DHn):Prop:=∀(xU:List (jC×Obj))(s:jL)(σ:St)(H':Hp)(W:Ends)(ea C:jC)(oe:Obj)(vs:Array jN)(x:Xn)(w:Wd)(S:DSt)(G:DH)(E:XK),
 s.heap.get? ea=vQ oe->oe.cls=.ref C->oe.data=.fields vs->H' ea=vZ->Inv X xU σ (upd H' ea (.frz oe (.own 0))) s->(∃B:Heap,Trc s.heap B ea (.ref C) oe.dict .none)->
 w.K=X.K->w.H=H'->Sim w G->RepS w S σ->PySem.W.nsIn w.K xy x.cls=vQ (vQ (.ref C))->XD w oe.dict x.fs->Ck E w (f x S G) W->
 xF (x9 X.prog X.w) X.A (handleBy (.ref ea) X.env hs) (SP X xU W) X.xe s
noncomputable def ZGE:DHn:=λ_ _ _=>.bad
theorem ZIA:QH X [] ZGE:=λxU s σ H' W ea C oe vs x w S G E _ _ _ _ _ _ _ _ _ _ _ _ h=>h.elim
def Qt(ws ns:List Str)(i:Nat)(hb:DS)(f:DHn):DHn:=λx S G=>if x.cls∈ws then unnm i (hb (S.set i (vQ (.ref G.length))) (G++[.exc x.cls x.fs]))else if x.cls∈ns then f x S G else .bad
theorem ZFn{xU:List (jC×Obj)}{σ:St}{H:Hp}{s:jL}{ea C W:jC}{oe:Obj}{x:Str}{np hp:Pos}{b:Bool}{R:Result->jL->Prop}(ho:s.heap.get? ea=vQ oe)(hc:oe.cls=.ref C)(J:Inv X xU σ H s)(hgx:Gl X x)(hmx:X.mg x=vQ (.ref W))(hdx:(x==("__debug__":Str))=vX)
  (ht:En X.K C W b=vJ) (q:R (.ok (if b then .brk else .next)) s):codeAny (x9 X.prog X.w) (X.A.mark (vQ (.ref ea))) (.handlers (.ref ea) [.ExceptHandler (vQ (.Name x np)) vZ [] hp] X.env) R s:=by
 unfold En at ht;simp only[zZ]at ht;obtain⟨⟨t1,t2⟩,t3⟩:=ht;obtain⟨bm,N,nm,qn,bs,sn,sub,ab,col,dd,k0,k1,k2,k3,k5,hcl,T,_⟩:=Mh J.kIn t1;obtain⟨bm',N',nm',qn',bs',sn',sub',ab',col',dd',l0,l1,l2,l3,l5,hcl',T',_⟩:=Mh J.kIn t2;have hin:(Value.ref C::bm).contains (.ref W)=b:=by
  split at t3
  ·rename_i c0 d0 cd sl0 ho';have:=J.kIn _ _ ho';rw[hcl]at this;cases this;exact eq_of_beq t3
  ·cases t3
 refine codeAny_handlers_test (Lz (X:=Mi X ea) (ZGX J) hgx hmx ?_ hdx);exact ZNm hcl hcl' ho hc (T'.hasType PySem.F.excBase_ValueError.hasBase) hin q
section
variable{X:Cx}{W:jC}{x n:Str}{np hp pos:Pos}{i:Nat}{b₀:jM}{suite:List jM}{hb:DS}{ws ns:List Str}{hs:List ExceptHandler}{f:DHn}
theorem ZML(hcalm:X.calm=vJ)(hgx:Gl X x)(hmx:X.mg x=vQ (.ref W))(hN:X.N.Nodup)(hi:X.N[i]?=vQ n)(hl:X.env.kindOf n=vQ .local)
  (hws:∀c∈ws,∀C,PySem.W.nsIn X.K xy c=vQ (vQ (.ref C))->En X.K C W vJ=vJ) (hns:∀c∈ns,∀C,PySem.W.nsIn X.K xy c=vQ (vQ (.ref C))->En X.K C W vX=vJ)
  (hh:∀ea,QSs (Mi X ea) E0 (b₀::suite) hb) (hr:QH X hs f) (hdx:(x==("__debug__":Str))=vX:=by decide):
  QH X (.ExceptHandler (vQ (.Name x np)) (vQ n) (b₀::suite) hp::hs) (Qt ws ns i hb f):=by
 intro xU s σ H' D ea C oe vs xn w S G E ho hc hda fe J tr hkw hH sm r hn hx h;subst hH;have hcalm':=J.ok.hd hcalm;unfold Qt at h;split at h
 ·rename_i hw;refine wpAny_handleBy_cons (ZFn ho hc J hgx hmx hdx (hws _ hw C (by rw[<-hkw];exact hn)) ?_) (by intro q;cases q);obtain⟨B,tr⟩:=tr;refine codeAny_handlers_suite_as (ZNN tr λh3 kp=>?_);have J3:=J.kept (h':=h3) (t':=s.toks) kp;refine ZDl J3 hN hi (.inl hl) (v:=.ref ea) rfl (λs4 I4=>?_) (.inr hl);have yp:=Ext.push (a:=w) (p:=ea) (ho:=.frz oe (.own 0)) fe;have run:lS X.K E0 hb {nx:=λσ2 H2=>D.nx (σ2.set i vZ) H2,rt:=D.rt,bk:=λσ2 H2=>D.bk (σ2.set i vZ) H2,ct:=λσ2 H2=>D.ct (σ2.set i vZ) H2} (σ.set i (vQ (.ref ea))) (upd w.H ea (.frz oe (.own 0))):=by
   refine⟨w.push ea (.frz oe (.own 0)),S.set i (vQ (.ref G.length)),G++[.exc xn.cls xn.fs],hkw,rfl,?_,?_,?_⟩
   ·exact sm.push fe ⟨C,oe,.own 0,vs,hn,rfl,hc,hda,hx.mono yp⟩
   ·refine(r.mono yp).set i ⟨?_,?_⟩
    ·show G.length<w.n+1;rw[sm.len];exact qx _
    ·show V.ref ea=V.ref (if G.length=w.n then ea else w.m G.length);rw[if_pos sm.len]
   ·revert h
    cases hb (S.set i (vQ (.ref G.length))) (G++[.exc xn.cls xn.fs])with
    |nx S3 G3=>exact λh c σ3 y3 s3 r3=>h c _ (yp.trans y3) s3 (r3.unset i)
    |bk S3 G3=>exact λh c σ3 y3 s3 r3=>h c _ (yp.trans y3) s3 (r3.unset i)
    |ct S3 G3=>exact λh c σ3 y3 s3 r3=>h c _ (yp.trans y3) s3 (r3.unset i)
    |rt d3 G3=>exact λh c v3 y3 s3 r3=>h c v3 (yp.trans y3) s3 r3
    |err x3 G3=>exact λh=>h.elim
    |bad=>exact λh=>h.elim
  refine xM (hh ea xU s4 _ _ _ (ZGX I4) run) (λfl s5 q5=>?_) λ_ _ z=>z.elim
  cases fl with
  |next=>
   obtain⟨σ2,H2,I5,q5⟩:=q5;exact Wc (Xi (calm:=hcalm) hcalm' I5) hN hi hl λs6 I6=>⟨_,H2,I6,q5⟩
  |brk=>
   obtain⟨σ2,H2,I5,q5⟩:=q5;exact Wc (Xi (calm:=hcalm) hcalm' I5) hN hi hl λs6 I6=>⟨_,H2,I6,q5⟩
  |cont=>
   obtain⟨σ2,H2,I5,q5⟩:=q5;exact Wc (Xi (calm:=hcalm) hcalm' I5) hN hi hl λs6 I6=>⟨_,H2,I6,q5⟩
  |ret u=>
   obtain⟨v,σ2,H2,I5,rv,q5⟩:=q5;exact Wc (Xi (calm:=hcalm) hcalm' I5) hN hi hl λs6 I6=>⟨v,_,H2,I6,rv,q5⟩
 ·split at h
  ·rename_i hw;refine wpAny_handleBy_cons (ZFn ho hc J hgx hmx hdx (hns _ hw C (by rw[<-hkw];exact hn)) ?_) (by intro q;cases q);exact hr xU s σ w.H D ea C oe vs xn w S G E ho hc hda fe J tr hkw rfl sm r hn hx h
  ·exact h.elim
end
section
variable{X:Cx}{W:jC}{x:Str}{np hp pos:Pos}{b₀:jM}{suite:List jM}{hb:DS}{ws ns:List Str}{hs:List ExceptHandler}{f:DHn}
end
noncomputable def S9(t:DS)(f:DHn):DS:=λS G=>match t S G with
 |.nx S2 G2=>.nx S2 G2
 |.err x G2=>f x S G2
 |_=>.bad
theorem ZJH{E:XK}{b:List jM}{h0:ExceptHandler}{hs:List ExceptHandler}{t:DS}{f:DHn}{pos:Pos}(hst:X.stack=X.env::X.outer)(hfr:X.env.frame=vQ X.env.locals)(hb:QTr X b t)(hh:QH X (h0::hs) f):QS X E (.Try b (h0::hs) [] [] pos) (S9 t f):=by
 intro xU s σ H D I h;obtain⟨w,S,G,hkw,rfl,sm,r,h⟩:=h;let E1:XK:=λcls od H'=>cls=.none∨∃C x G2 b2,cls=.ref C/\PySem.W.nsIn b2.K xy x.cls=vQ (vQ (.ref C))/\b2.K=X.K/\b2.H=H'/\Sim b2 G2/\RepS b2 S σ/\XD b2 od x.fs/\Ck E b2 (f x S G2) D
 have run:lS X.K E1 t {nx:=D.nx,rt:=λ_ _=>False} σ w.H:=by
  refine⟨w,S,G,hkw,rfl,sm,r,?_⟩;unfold S9 at h;cases ht:t S G with
  |bad=>rw[ht]at h;exact h
  |bk S2 G2=>rw[ht]at h;exact h.elim
  |ct S2 G2=>rw[ht]at h;exact h.elim
  |rt d G2=>rw[ht]at h;exact h.elim
  |nx S2 G2=>rw[ht]at h;exact h
  |err xn G2=>
   rw[ht]at h;refine⟨λz=>?_,λb2 C od y2 s2 hn hx=>.inr ⟨C,xn,G2,b2,rfl,hn,y2.k.trans hkw,rfl,s2,r.mono y2,hx,Ck.mono y2 h⟩⟩;have:=congrFun (congrFun (congrFun z Value.none) vZ) w.H;exact cast this (.inl rfl)
 refine wpAny_Try_except (xM (hb xU s σ w.H _ E1 I run) (λfl s1 ⟨e,σ1,H1,I1,q⟩=>?_) λe s1 ⟨H1,s2,I1,hq⟩=>?_)
 ·subst e;exact wpAny_execs_nil ⟨σ1,H1,I1,q⟩
 ·refine lands hst hfr I1 hq λea C od H' oe vs' h'' ee ho hc hd hda hE fe J tr hcC=>?_
  subst ee;rcases hE with z|⟨C',xn,G2,b2,z,hn,hkb,hH,s2,r2,hx,h2⟩
  ·obtain⟨C2,z2⟩:=hcC;rw[z]at z2;cases z2
  ·subst z hd hH;exact hh xU _ σ b2.H D ea C' oe vs' xn b2 S G2 E ho hc hda fe J tr hkb rfl s2 r2 hn hx h2
end _D
namespace _D
open PySem PySem.Spec PySem.W _L
open PyProof.Rows hiding St
variable{K:xS}{mg:Str->Option jN}{tb:List (Str×Bool)}
theorem ZIf{h:Heap}{N:jC}{m:Str->Option jN}{n:Str}(X:K.In h)(G:h.Ns N m)(e:nsIn K N n=vQ vZ):m n=vZ:=by
 obtain⟨o,es,ep,ho,hd,_,hf⟩:=G;unfold nsIn at e;split at e
 ·rename_i c d es' n' sl q;have:=X _ _ q;rw[ho]at this;cases this;cases hd;split at e
  ·cases e
  ·rename_i he;rw[<-hf];unfold nsFind findBy;rw[<-Array.find?_toList,he]
   rfl
 ·cases e
section
variable{X:Cx}{C:jC}{x:Str}{np cpos pos:Pos}{a:jE}{ta:TA}{E:XK}
noncomputable def tRz0(C:jC)(E:XK)(ta:TA):TS:=λ_ σ H=>ta σ H λvs H1=>vs.length<=1000/\E (.ref C) vZ H1
theorem ZMA(hcalm:X.calm=vJ)(hs:X.stack=X.env::X.outer)(hex:X.ex=[])(hfr:X.env.frame=vQ X.env.locals)(hxe:∀e s,Ks X E e s->X.xe e s)
  (ec:Ge X.K C=vJ) (ni:U3 X.K C=vJ) (hg:Gl X x) (hm:X.mg x=vQ (.ref C)) (hk:keepIn X.K (.ref C)=vJ) (ha:PA X [a] ta) (hdb:(x==("__debug__":Str))=vX:=by decide)
  (he:xD [a] X.env=(vX,eval a X.env)::xD [] X.env:=by rfl) (hpl:(jS cpos (xD [] X.env)).any (·.1)=vX:=by rfl):
  PS X (.Raise (vQ (.Call (.Name x np) [a] [] cpos)) vZ pos) (tRz0 C E ta):=by
 intro xU s σ H D I h;refine ZF3 (C:=C) (I.ok.hd hcalm) ?_;refine xG (Lz I hg hm ?_ hdb);refine callWith_K (h₀:=X.base) I.ok.mod.kin hk (thn (ha cpos xU s σ H _ I h) λus s1 ⟨vs,H1,I1,r,hl,q⟩=>⟨I1.kIn,?_⟩) he hpl;obtain⟨bm,N,nm,qn,bs,sn,sub,ab,col,dd,k0,k1,k2,k3,k5,hcl,T,m,hN,hin⟩:=Mh I1.kIn ec;have hni:m "__init__"=vZ:=by
  unfold U3 at ni;split at ni
  ·rename_i c0 d0 cd sl0 ho';have:=I1.kIn _ _ ho';rw[hcl]at this;cases this;exact ZIf I1.kIn hN (Su ni)
  ·cases ni
 have hl1:us.length<=sizeLine:=by rw[<-r.length,xB];lia
 obtain⟨hp,g,d,tk,os⟩:=s1;have FB:=PySem.F.excBase_ValueError;refine wpAny_call_exc_subT (hrest:=hl1) FB T hcl hN hni λh' e hm'=>?_
 obtain⟨t,ht,_,_⟩:=hm'.there;have fe:H1 e=vZ:=by
  cases z:H1 e with
  |none=>rfl
  |some u=>
   obtain⟨o,k⟩:=ZEA (I1.hok e u z);have k':hp.get? e=vQ o:=k;rw[hm'.new]at k';cases k'
 have J:=I1.kept (h':=h') (t':=tk) hm'.keeps;have mk:Made X H1 ⟨hp,g,d,tk,os⟩ e (.ref C) vZ ⟨h',g,d,tk,os⟩ H1:=
  ⟨rfl,J.bare,⟨λb o k _ _ _=>hm'.keeps b o k,λb o k _ _ _=>⟨o.slots,hm'.keeps b o k⟩,λb o k n _=>n,λb o k _=>⟨o,hm'.keeps b o k⟩,λb xs k=>k,λb o u k=>k,λb ps k=>⟨#[],by rw[Array.append_empty];exact k⟩⟩,J.hok,⟨_,_,ht,rfl,rfl,rfl,rfl⟩,fe,hm'.new⟩
 have hcl':=hm'.keeps _ _ hcl;exact⟨e,vZ,t,bm,N,nm,qn,bs,vJ,sn,sub,ab,col,dd,k0,k1,k2,k3,k5,_,rfl,hcl',T.hasType FB.hasBase,ht,hxe _ _ (ZFC hs hex hfr I1 mk q ⟨C,rfl⟩)⟩
end
def Mq(c:Str)(t:DA):DS:=λS G=>match t S G with
 |.ok ds G1=>if ds.length=1 then .err ⟨c,[]⟩ G1 else .bad
 |.err x G1=>.err x G1
 |.bad=>.bad
structure ET0 (K:xS) (mg:Str->Option jN) (c:Str):Prop where
 N:nsIn K xy c=vQ (vQ (.ref (Ab K c)))
 g:mg c=vQ (.ref (Ab K c))
 k:keepIn K (.ref (Ab K c))=vJ
 ec:Ge K (Ab K c)=vJ
 ni:U3 K (Ab K c)=vJ
 G:XGet K (Ab K c)
theorem ZI1{h:Heap}{c:Str}(X:K.In h)(G:h.Ns xy mg)(s:et0Ok c K=vJ):ET0 K mg c:=by simp only[et0Ok,zZ]at s;obtain⟨⟨⟨⟨h1,h2⟩,h3,h7⟩,h8⟩,⟨⟨⟨⟨⟨⟨g1,g2⟩,g3⟩,g4⟩,g5⟩,g6⟩,g7⟩,g8⟩:=s;exact⟨Ke h1,mg_of X G (Ke h1),h2,h3,h8,⟨N7 g1,Su g2,Kg g3,h7,N7 g4,N7 g5,Kg g6,Kg g7,Kg g8,h3⟩⟩
section
variable{X:Cx}{E:XK}{c x n f v w:Str}{e a:jE}{es:List jE}{t:DE}{tr:DA}{p q pos cpos np fp cp ep hp:Pos}{b:Bool}{F:List D->DH->R D}{k j:Nat}{ps:List Str}{st:jM}
theorem ZL1(T:ET0 X.K X.mg c)(ha:QA X E [a] tr)
  (hxe:∀e s,Ks X E e s->X.xe e s:=by exact λ_ _ h=>h) (hcalm:X.calm=vJ:=by rfl) (hs:X.stack=X.env::X.outer:=by rfl) (hex:X.ex=[]:=by rfl) (hfr:X.env.frame=vQ X.env.locals:=by rfl) (hg:Gl X c:=by rfl) (hdb:(c==("__debug__":Str))=vX:=by decide) (hst:notStar a=vJ:=by rfl):
  QS X E (.Raise (vQ (.Call (.Name c np) [a] [] cpos)) vZ pos) (Mq c tr):=
 (ZMA (ta:=lA X.K E tr) hcalm hs hex hfr hxe T.ec T.ni hg T.g T.k ha hdb (Hu a [] X.env hst) rfl).mono λW σ H h=>by
  obtain⟨w,S,G,hk,rfl,sm,r,h⟩:=h;refine⟨w,S,G,hk,rfl,sm,r,?_⟩;unfold Mq at h;cases ht:tr S G with
  |err x G1=>rw[ht]at h;exact h
  |bad=>rw[ht]at h;exact h
  |ok ds G1=>
   rw[ht]at h;dsimp only at h;split at h
   ·rename_i hd;intro b vs y s1 q;refine⟨by rw[<-q.length,hd];decide,h.2 b _ vZ y s1 ?_ (.inl ⟨rfl,rfl⟩)⟩;show nsIn b.K _ _=_;rw[y.k,hk];exact T.N
   ·exact h.elim
theorem ZNI(FF:FnX X.prog X.w X.K X.mg X.base k n ps F)(T:FT X.K X.mg n st ps)(hr:Room j X.A)(ha:QA X.nox E0 (a::es) tr)(hj:Nat.ble k j=vJ:=by rfl)(hg:Gl X n:=by rfl)
  (hdb:(n==("__debug__":Str))=vX:=by decide) (he:xD (a::es) X.env=(vX,eval a X.env)::xD es X.env:=by rfl) (hpl:(jS cp (xD es X.env)).any (·.1)=vX:=by rfl):
  QTe X (.Call (.Name n fp) (a::es) [] cp) (dTc F tr):=
 ZL7 (dvs:=[]) (dus:=[]) FF (hr.mono (qR hj)) .nil T.b hg T.m T.k ha (λw G ds vs Q E hk s r h=>by rw[zU];exact⟨w,G,ds,hk,rfl,s,r,h⟩) hdb he hpl
def Tk(K:xS)(w:Str)(b:Bool)(ws:List Str):Prop:=∀c∈ws,∀C,nsIn K xy c=vQ (vQ (.ref C))->En K C (Ab K w) b=vJ
theorem ZHb:Tk K w b []:=λc h=>absurd h (by simp)
theorem Oa{ws:List Str}(N:nsIn K xy c=vQ (vQ (.ref (Ab K c))))(h:En K (Ab K c) (Ab K w) b=vJ)(r:Tk K w b ws):Tk K w b (c::ws):=λc' hc C hC=>by
 rcases zz.mp hc with z|z
 ·subst z;rw[N]at hC;cases hC;exact h
 ·exact r c' z C hC
theorem ZJR{i:Nat}{b₀:jM}{suite:List jM}{hb:DS}{ws ns:List Str}{hs:List ExceptHandler}{g:DHn}(mw:X.mg w=vQ (.ref (Ab X.K w)))(tw:Tk X.K w vJ ws)(tn:Tk X.K w vX ns)(hr:Room j X.A)(hN:X.N.Nodup)(hh:∀ea,RoomH j (Mi X ea).A->QSs (Mi X ea) E0 (b₀::suite) hb)(hrest:QH X hs g)
  (hcalm:X.calm=vJ:=by rfl) (hgw:Gl X w:=by rfl) (hi:X.N[i]?=vQ x:=by rfl) (hl:X.env.kindOf x=vQ .local:=by rfl) (hdx:(w==("__debug__":Str))=vX:=by decide):
  QH X (.ExceptHandler (vQ (.Name w np)) (vQ x) (b₀::suite) hp::hs) (Qt ws ns i hb g):=
 ZML hcalm hgw mw hN hi hl tw tn (λea=>hh ea (RoomH.held (.of hr))) hrest hdx
theorem ZKT{bd:List jM}{h0:ExceptHandler}{hs:List ExceptHandler}{ts:DS}{g:DHn}(hb:QTr X bd ts)(hh:QH X (h0::hs) g)(hst:X.stack=X.env::X.outer:=by rfl)(hfr:X.env.frame=vQ X.env.locals:=by rfl):QS X E (.Try bd (h0::hs) [] [] pos) (S9 ts g):=
 ZJH hst hfr hb hh
def Tb(K:xS)(P:jC->Bool->Prop)(tb:List (Str×Bool)):Prop:=∀c b,tb.lookup c=vQ b->∀C,nsIn K xy c=vQ (vQ (.ref C))->P C b
theorem Gi{P:jC->Bool->Prop}:Tb K P []:=λc b h=>by cases h
theorem ZLt{P:jC->Bool->Prop}(hn:nsIn K xy c=vQ (vQ (.ref (Ab K c))))(h:P (Ab K c) b)(r:Tb K P tb):Tb K P ((c,b)::tb):=by
 intro c' b' hl C hC;by_cases z:c'=c
 ·subst z;rw[hn]at hC;cases hC;simp only[j2,beq_self_eq_true]at hl;cases hl;exact h
 ·have:(c'==c)=vX:=by simpa using z
  simp only[j2,this]at hl;exact r c' b' hl C hC
theorem Hg(hm:X.mg "isinstance"=vZ)(mw:X.mg w=vQ (.ref (Ab X.K w)))(k:Tb X.K (λC b=>XGet X.K C/\kitOne X.K (.ref C) (.ref (Ab X.K w))=vQ b) tb)(ha:QE X E e t)(hg:Gl X "isinstance":=by rfl)(gw:Gl X w:=by rfl)(hd:(w==("__debug__":Str))=vX:=by decide)(he:notStar e=vJ:=by rfl):
  QE X E (.Call (.Name "isinstance" p) [e,.Name w q] [] pos) (dUn (isx tb) t):=
 ZGp (cv:=.ref (Ab X.K w)) (cu:=.ref (Ab X.K w)) hg hm ha (ZGB gw mw rfl hd) (λu h=>h) k he rfl
theorem ZHn{T:String}(hm:X.mg "isinstance"=vZ)(mw:X.mg w=vZ)(hv:xQ w=vQ (.type T))(k:Tb X.K (λC b=>XGet X.K C/\kitOne X.K (.ref C) (.type T)=vQ b) tb)(ha:QE X E e t)(hg:Gl X "isinstance":=by rfl)(gw:Gl X w:=by rfl)(hn:w≠"__name__":=by decide)(hd:(w==("__debug__":Str))=vX:=by decide)(he:notStar e=vJ:=by rfl):
  QE X E (.Call (.Name "isinstance" p) [e,.Name w q] [] pos) (dUn (isx tb) t):=
 ZGp (cv:=.ty T) (cu:=.type T) hg hm ha (ZGD gw mw hv rfl hn hd) (λu h=>h) k he rfl
structure XN (K:xS) (c:Str):Prop where
 N:nsIn K xy c=vQ (vQ (.ref (Ab K c)))
 G:XGet K (Ab K c)
theorem ET.xn(T:ET K mg c f):XN K c:=⟨T.N,T.G⟩
theorem ET0.xn(T:ET0 K mg c):XN K c:=⟨T.N,T.G⟩
theorem Bc{cu:jN}(T:XN K c)(k:Aj (kitOne K (.ref (Ab K c)) cu) b=vJ)(r:Tb K (λC b=>XGet K C/\kitOne K (.ref C) cu=vQ b) tb):Tb K (λC b=>XGet K C/\kitOne K (.ref C) cu=vQ b) ((c,b)::tb):=ZLt T.N ⟨T.G,Kg k⟩ r
def Cf(K:xS)(f:Str)(cs:List Str):Prop:=∀c∈cs,∀C,nsIn K xy c=vQ (vQ (.ref C))->XGet K C/\NoAttr K C f
theorem ZFV:Cf K f []:=λc h=>absurd h (by simp)
theorem J8{cs:List Str}(T:ET K mg c f)(r:Cf K f cs):Cf K f (c::cs):=λc' hc C hC=>by
 rcases zz.mp hc with z|z
 ·subst z;rw[T.N]at hC;cases hC;exact⟨T.G,T.no⟩
 ·exact r c' z C hC
theorem ZF8{cs:List Str}(T:Cf X.K f cs)(ha:QE X E e t)(hb:jR e f X.env (eval e X.env)=eval e X.env:=by rfl):QE X E (.Attribute e f pos) (dUn (gtx cs f) t):=ZJU ha T hb
end
section
variable{X:Cx}{n y:Str}{e e2:jE}{es:List jE}{tr:DA}{tu:DE}{p pos kp:Pos}{F:List D->DH->R D}{k j:Nat}{ps:List Str}{st:jM}{v:Int}
end
section
variable{prog:jH}{w:jO}{A:jD}{E:jN->jL->Prop}{s:jL}
theorem ZJa{t b:jC}{ws:List jN}{Q:jN->jL->Prop}(ht:IsTup s.heap t #[])(hb:IsTup s.heap b ws.toArray)(h:Q (.ref b) s):xF (x9 prog w) A (jU .Add (.ref t) (.ref b)) Q E s:=by obtain⟨⟨cls,dd,data,sl⟩,ho,hc,n,hd⟩:=id ht;obtain⟨⟨cls2,dd2,data2,sl2⟩,ho2,hc2,n2,hd2⟩:=id hb;simp only at hc hd hc2 hd2;subst hc hd hc2 hd2;exact concat_meets ⟨_,ho,rfl⟩ ⟨_,ho2,rfl⟩ noFill_tuple_add seq_tuple_add PySem.F.slot_tuple_add PySem.F.entry_tuple_add (PySem.F.args_tuple_add_2 _ _) (tuple_addW0 t b #[] ws.toArray n n2 dd dd2 sl sl2 rfl) ⟨ho,ho2,h⟩
theorem ZNj:fillsNumberSlot (.type "tuple") "mul"=pure vX:=
 PySem.fillsNumberSlot_seq (id:="tuple.__mul__") (r:=vQ (.builtin "tuple.__rmul__")) PySem.F.slot_tuple_mul.lookup (by decide +kernel) PySem.F.slot_tuple_rmul.lookup (by decide +kernel)
theorem ZLd:seqRepeat? (.type "tuple")=pure (vQ (.builtin "tuple.__mul__")):=by
 unfold seqRepeat?;rw[PySem.seqSlot_of (T:="tuple") (name:="__mul__") (id:="tuple.__mul__") PySem.F.slot_tuple_mul.lookup (by decide +kernel),PySem.seqSlot_of (T:="tuple") (name:="__rmul__") (id:="tuple.__rmul__") PySem.F.slot_tuple_rmul.lookup (by decide +kernel)]
 rfl
theorem ZNi(a:Int)(t:Tok)(l:jC)(items:Array jN)(n:Nat)(dd:Option jC)(sl:Array (Option jN)):
  Meets (Builtin.«int.__rmul__» ⟨[.int a t,.ref l],[]⟩) (λ_ R s=>s.heap.get? l=vQ {cls:=.type "tuple",dict:=dd,data:=.seq items n,slots:=sl}/\R (.ok (.ret Value.notImplemented)) s):=
 .of_wp λprog w A R s h=>by obtain⟨hp,g,d,tk,os⟩:=s;obtain⟨hl,h⟩:=h;wp_walk using wpAny_loadPart' hl;exact⟨_,rfl,h⟩
theorem ZMM(l:jC)(items:Array jN)(n:Nat)(dd:Option jC)(sl:Array (Option jN))(t:Tok):
  Meets (Builtin.«tuple.__mul__» ⟨[.ref l,.int 1 t],[]⟩) (λ_ R s=>s.heap.get? l=vQ {cls:=.type "tuple",dict:=dd,data:=.seq items n,slots:=sl}/\R (.ok (.ret (Value.ref l))) s):=
 .of_wp λprog w A R s h=>by obtain⟨hp,g,d,tk,os⟩:=s;obtain⟨hl,h⟩:=h;have f1:=AutoSeq1.idx_int;wp_walk using wpAny_loadPart' hl;exact⟨_,rfl,h⟩
theorem ZKy(l:jC)(x:jN)(n:Nat)(dd:Option jC)(sl:Array (Option jN))(k:Int)(t:Tok)(h2:2<=k)(h3:k<=1000):
  Meets (Builtin.«tuple.__mul__» ⟨[.ref l,.int k t],[]⟩) (λ_ R s=>s.heap.get? l=vQ {cls:=.type "tuple",dict:=dd,data:=.seq #[x] n,slots:=sl}/\R (.ok (.ret (Value.ref s.heap.objs.size))) {s with heap:=s.heap.push {cls:=Value.type "tuple",data:=Data.seq (zY k.toNat x).toArray}}):=
 .of_wp λprog w A R s h=>by
  obtain⟨hp,g,d,tk,os⟩:=s;obtain⟨hl,h⟩:=h;have f1:=AutoSeq1.idx_int;have c1:(decide (k < -(2^63))||decide (k ≥ 2^63))=vX:=by rw[decide_eq_false (by lia),decide_eq_false (by lia)];rfl
  have c2:((#[x]:Array jN).isEmpty||k==1)=vX:=by
   have:(k==1)=vX:=by simp;lia
   rw[this];rfl
  have c3:(decide (k<=0)||(#[x]:Array jN).isEmpty)=vX:=by rw[decide_eq_false (by lia)];rfl
  have c4:¬(((#[x]:Array jN).size:Int)*k>(2^63-1)/8):=by have:(((#[x]:Array jN).size:Nat):Int)=1:=rfl;rw[this];lia
  have c5:Builtin.Tuple.tupleTooMany (((#[x]:Array jN).size:Int)*k)=vX:=by have:(((#[x]:Array jN).size:Nat):Int)=1:=rfl;rw[this];unfold Builtin.Tuple.tupleTooMany;exact decide_eq_false (by rw[xB];lia)
  have e:(zY k.toNat (#[x]:Array jN)).foldl (·++·) #[]=(zY k.toNat x).toArray:=by
   have:=foldl_rep [x] k.toNat [];rw[jQ]at this;rw[show(zY k.toNat x)=(zY k.toNat [x]).flatten by
    induction k.toNat with
    |zero=>rfl
    |succ m ih=>rw[qw,qw,List.flatten_cons,<-ih];rfl]
   exact this
  wp_walk using wpAny_loadPart' hl
  rw[if_neg (by rw[c1];decide)]
  wp_walk using wpAny_loadPart' hl
  rw[if_neg (by rw[c2];decide),if_neg (by rw[c3];decide),if_neg c4,if_neg (by rw[c5];decide),e]
  wp_walk
  rw[if_neg (by rw[zK,qP,xB];lia)]
  wp_walk
  exact⟨_,rfl,h⟩
end
section
variable{X:Cx}{E:XK}
theorem ZM4:OpR X (jU .Add) (λx y H Q=>∃a b ys,x=.ref a/\y=.ref b/\SqT X.K H a []/\SqT X.K H b ys/\Q (.ref b) H):=by intro xU s σ H x y v u Q I rx ry h;obtain⟨a,b,ys,rfl,rfl,ha,hb,q⟩:=h;cases rx;cases ry;obtain⟨its,r1,p1,_⟩:=I.tuple ha;obtain⟨its2,r2,p2,_⟩:=I.tuple hb;cases r1;exact ZJa p1 p2 ⟨.ref b,H,I,rfl,q⟩
def Bw:D->D->DH->R D
 |.tup [],.tup ys,G=>.ok (.tup ys) G
 |d,e,G=>Bb d e G
theorem Dc:OpR X (jU .Add) (lR2 X.K E Bw):=λxU s σ H x y v u Q I rx ry h=>by
 obtain⟨a,G,d,e,hk,hH,sm,rd,re,q⟩:=h;unfold Bw at q;split at q
 ·rename_i ys;subst hH;obtain⟨p,vs,e1,h1,r1⟩:=rd;obtain⟨p',vs',e2,h2,r2⟩:=re;rw[hk]at h1 h2;obtain rfl:vs=[]:=q9 (by rw[<-r1.length];rfl);exact ZM4 xU s σ a.H x y v u Q I rx ry ⟨p,p',vs',e1,e2,h1,h2,q a (.ref p') (Ext.refl a) sm ⟨p',vs',rfl,by rw[hk];exact h2,r2⟩⟩
 ·exact Bm xU s σ H x y v u Q I rx ry ⟨a,G,d,e,hk,hH,sm,rd,re,q⟩
theorem ZOU:OpR X (jU .Mult) (λx y H Q=>∃a z k,x=.ref a/\y=.int k/\SqT X.K H a [z]/\1<=k/\k<=1000/\(k=1->Q (.ref a) H)/\∀p,H p=vZ->Q (.ref p) (upd H p (.tup (zY k.toNat z)))):=by
 intro xU s σ H x y v u Q I rx ry h;obtain⟨a,z,k,rfl,rfl,ha,h1,h2,q1,q2⟩:=h;cases rx;obtain⟨t,rfl⟩:=ry;obtain⟨its,r1,p1,_⟩:=I.tuple ha;obtain⟨u,rfl⟩:∃u,its=[u]:=by
  cases r1 with
  |cons _ b=>cases b;exact⟨_,rfl⟩
 obtain⟨⟨cls,dd,data,sl⟩,ho,hc,n,hd⟩:=id p1;simp only at hc hd;subst hc hd;refine wpAny_binaryOp_repeat_ref (T:="tuple") (U:="int") (by decide) ⟨_,ho,rfl⟩ (λs'=>typeIs_int s' k t) ZNj F.fills_int_mul F.slot_int_rmul ZLd F.slot_int_index.lookup
  (call_meets F.slot_int_rmul (typeIs_int s k t) F.entry_int_rmul (F.args_int_rmul_2 _ _) (ZNi k t a [u].toArray n dd sl) ⟨ho,rfl,⟨_,ho,rfl⟩,?_⟩)
 by_cases e:k=1
 ·subst e;exact call_meets F.slot_tuple_mul ⟨_,ho,rfl⟩ F.entry_tuple_mul (F.args_tuple_mul_2 _ _) (ZMM a [u].toArray n dd sl t) ⟨ho,.ref a,H,I,rfl,q1 rfl⟩
 ·refine call_meets F.slot_tuple_mul ⟨_,ho,rfl⟩ F.entry_tuple_mul (F.args_tuple_mul_2 _ _) (ZKy a u n dd sl k t (by lia) h2) ⟨ho,?_⟩;have rr:Vals (zY k.toNat z) (zY k.toNat u):=by
   cases r1 with
   |cons ru _=>
    induction k.toNat with
    |zero=>exact .nil
    |succ m ih=>rw[qw,qw];exact .cons ru ih
  refine⟨.ref s.heap.objs.size,_,I.laid (t':=s.toks) (o:=.tup (zY k.toNat z)) (λb ob q=>zX _ q) (zx _) ?_,rfl,q2 _ (I.hok.fresh (zx _))⟩;exact⟨by rw[qP,xB];lia,_,rr,IsTup.new _ _⟩
def Tq:D->D->DH->R D
 |.tup [x],.int k,G=>if 1<=k/\k<=1000 then .ok (.tup (zY k.toNat x)) G else .bad
 |_,_,_=>.bad
theorem ZOa:OpR X (jU .Mult) (lR2 X.K E Tq):=G8 ZOU λa G d e x y Q hk s rd re q=>by
 unfold Tq at q;split at q
 ·rename_i x k;split at q
  ·rename_i hc;obtain⟨p,vs,e1,h1,r1⟩:=rd;rw[hk]at h1;obtain⟨v,r0,rfl,rv,rn⟩:=r1;obtain rfl:r0=[]:=rn;have rr:∀m:Nat,Reps a (zY m x) (zY m v):=λm=>by
    induction m with
    |zero=>exact Reps.nil
    |succ m ih=>rw[qw,qw];exact Reps.cons rv ih
   refine⟨p,v,k,e1,re,h1,hc.1,hc.2,λz=>?_,λp0 hp=>Ui s (rr k.toNat) q p0 hp⟩;subst z;exact q a (.ref p) (Ext.refl a) s ⟨p,[v],rfl,by rw[hk];exact h1,rr 1⟩
  ·exact q.elim
 ·exact q.elim
end
end _D
namespace _W
open PySem _L _D
theorem ZIp:FnScope ["self","place"] ["self","place"] (Bd ZAm):=⟨rfl,rfl,rfl,by decide +kernel,rfl,by decide +kernel,by decide +kernel⟩
theorem ZNY:FnScope ["self","place"] ["self","place"] (Bd Yr):=⟨rfl,rfl,rfl,by decide +kernel,rfl,by decide +kernel,by decide +kernel⟩
theorem ZMS:FnScope ["self","place"] ["self","place"] (Bd ZAh):=⟨rfl,rfl,rfl,by decide +kernel,rfl,by decide +kernel,by decide +kernel⟩
theorem ZKM:FnScope ["self","place"] ["self","place"] (Bd Yu):=⟨rfl,rfl,rfl,by decide +kernel,rfl,by decide +kernel,by decide +kernel⟩
theorem ZJB:FnScope ["self","place"] ["self","place"] (Bd ZDT):=⟨rfl,rfl,rfl,by decide +kernel,rfl,by decide +kernel,by decide +kernel⟩
noncomputable abbrev ZFd:List Str:=["_law_script","_law_k"]
noncomputable abbrev ZAy:List Str:=ZFd.take 2
theorem ZNh:FnScope ZFd ZAy (Bd ZCg):=⟨rfl,rfl,rfl,by decide +kernel,rfl,by decide +kernel,by decide +kernel⟩
noncomputable abbrev Uy:List Str:=["_law_xs","_law_letters","_law_names_here","_law_x","_law_word","_law_rest","_law_j","_law_some"]
noncomputable abbrev ZCo:List Str:=Uy.take 1
theorem Jl:FnScope Uy ZCo (Bd Qe):=⟨rfl,rfl,rfl,by decide +kernel,rfl,by decide +kernel,by decide +kernel⟩
noncomputable abbrev ZEB:List Str:=["_law_cell","_law_k","_law_many","_law_number_here","_law_left","_law_found","_law_j"]
noncomputable abbrev ZCu:List Str:=ZEB.take 3
theorem Lq:FnScope ZEB ZCu (Bd ZBG):=⟨rfl,rfl,rfl,by decide +kernel,rfl,by decide +kernel,by decide +kernel⟩
noncomputable abbrev Od:List Str:=["_law_cell","_law_letters","_law_xs","_law_word","_law_turned","_law_other","_law_names_here","_law_k","_law_name","_law_size","_law_at","_law_sign"]
noncomputable abbrev ZCL:List Str:=Od.take 1
theorem Fd:FnScope Od ZCL (Bd Mj):=⟨rfl,rfl,rfl,by decide +kernel,rfl,by decide +kernel,by decide +kernel⟩
noncomputable abbrev ZFo:List Str:=["_law_x"]
noncomputable abbrev ZBj:List Str:=ZFo.take 1
theorem ZHl:FnScope ZFo ZBj (Bd ZA8):=⟨rfl,rfl,rfl,by decide +kernel,rfl,by decide +kernel,by decide +kernel⟩
noncomputable abbrev ZHJ:List Str:=["_law_x","_law_cell"]
noncomputable abbrev ZBA:List Str:=ZHJ.take 2
theorem ZNP:FnScope ZHJ ZBA (Bd ZDe):=⟨rfl,rfl,rfl,by decide +kernel,rfl,by decide +kernel,by decide +kernel⟩
noncomputable abbrev ZC9:List Str:=["_law_rule_here"]
noncomputable abbrev ZBc:List Str:=ZC9.take 1
theorem ZJQ:FnScope ZC9 ZBc (Bd Sx):=⟨rfl,rfl,rfl,by decide +kernel,rfl,by decide +kernel,by decide +kernel⟩
noncomputable abbrev ZFO:List Str:=["_law_xs","_law_cell","_law_pumps","_law_steps","_law_top","_law_j","_law_height","_law_many","_law_way"]
noncomputable abbrev Zh:List Str:=ZFO.take 3
theorem K4:FnScope ZFO Zh (Bd Zn):=⟨rfl,rfl,rfl,by decide +kernel,rfl,by decide +kernel,by decide +kernel⟩
noncomputable abbrev ZDu:List Str:=["_law_xs","_law_cell","_law_year","_law_pumps","_law_seasons","_law_begin","_law_j"]
noncomputable abbrev Zm:List Str:=ZDu.take 4
theorem Qa:FnScope ZDu Zm (Bd ZBC):=⟨rfl,rfl,rfl,by decide +kernel,rfl,by decide +kernel,by decide +kernel⟩
noncomputable abbrev ZDx:List Str:=["_law_names_here","_law_many","_law_k","_law_year","_law_cell","_law_xs","_law_down","_law_head","_law_pumps","_law_rule_here","_law_pump","_law_to"]
noncomputable abbrev Yp:List Str:=ZDx.take 5
theorem Jm:FnScope ZDx Yp (Bd ZBK):=⟨rfl,rfl,rfl,by decide +kernel,rfl,by decide +kernel,by decide +kernel⟩
noncomputable abbrev ZBV:List Str:=["_law_script","_law_at","_law_many","_law_year","_law_names_here","_law_places"]
noncomputable abbrev ZCk:List Str:=ZBV.take 2
theorem Qy:FnScope ZBV ZCk (Bd Xo):=⟨rfl,rfl,rfl,by decide +kernel,rfl,by decide +kernel,by decide +kernel⟩
noncomputable abbrev ZGd:List Str:=["_law_place_here","_law_x","_law_rank_here"]
noncomputable abbrev ZAS:List Str:=ZGd.take 2
theorem ZG0:FnScope ZGd ZAS (Bd ZBL):=⟨rfl,rfl,rfl,by decide +kernel,rfl,by decide +kernel,by decide +kernel⟩
noncomputable abbrev ZFw:List Str:=["_law_found"]
noncomputable abbrev ZDS:List Str:=ZFw.take 1
theorem ZLF:FnScope ZFw ZDS (Bd ZC2):=⟨rfl,rfl,rfl,by decide +kernel,rfl,by decide +kernel,by decide +kernel⟩
noncomputable abbrev ZAR:List Str:=["thing"]
noncomputable abbrev ZBm:List Str:=ZAR.take 1
theorem ZMB:FnScope ZAR ZBm (Bd Wm):=⟨rfl,rfl,rfl,by decide +kernel,rfl,by decide +kernel,by decide +kernel⟩
noncomputable abbrev ZE8:List Str:=["pump","others"]
noncomputable abbrev ZBy:List Str:=ZE8.take 2
theorem ZLN:FnScope ZE8 ZBy (Bd ZB5):=⟨rfl,rfl,rfl,by decide +kernel,rfl,by decide +kernel,by decide +kernel⟩
noncomputable abbrev ZFf:List Str:=["place","later"]
noncomputable abbrev ZBF:List Str:=ZFf.take 2
theorem ZMH:FnScope ZFf ZBF (Bd ZCY):=⟨rfl,rfl,rfl,by decide +kernel,rfl,by decide +kernel,by decide +kernel⟩
noncomputable abbrev ZHQ:List Str:=["rule","year","ahead","first","stairs"]
noncomputable abbrev ZAz:List Str:=ZHQ.take 2
theorem Qo:FnScope ZHQ ZAz (Bd ZAe):=⟨rfl,rfl,rfl,by decide +kernel,rfl,by decide +kernel,by decide +kernel⟩
noncomputable abbrev ZHh:List Str:=["stairs","end","height","many","way"]
noncomputable abbrev ZDL:List Str:=ZHh.take 1
theorem Nj:FnScope ZHh ZDL (Bd ZCU):=⟨rfl,rfl,rfl,by decide +kernel,rfl,by decide +kernel,by decide +kernel⟩
noncomputable abbrev ZDH:List Str:=["stairs","pump","pumped"]
noncomputable abbrev ZAU:List Str:=ZDH.take 2
theorem ZEL:FnScope ZDH ZAU (Bd Wn):=⟨rfl,rfl,rfl,by decide +kernel,rfl,by decide +kernel,by decide +kernel⟩
noncomputable abbrev ZGV:List Str:=["rule","pump","year","first","stairs"]
noncomputable abbrev ZAC:List Str:=ZGV.take 3
theorem ZDm:FnScope ZGV ZAC (Bd ZBk):=⟨rfl,rfl,rfl,by decide +kernel,rfl,by decide +kernel,by decide +kernel⟩
noncomputable abbrev ZGW:List Str:=["place"]
noncomputable abbrev Z6:List Str:=ZGW.take 1
theorem ZJG:FnScope ZGW Z6 (Bd ZAQ):=⟨rfl,rfl,rfl,by decide +kernel,rfl,by decide +kernel,by decide +kernel⟩
noncomputable abbrev Wl:List Str:=["house","number","places","place","ahead","later"]
noncomputable abbrev ZDf:List Str:=Wl.take 2
theorem S8:FnScope Wl ZDf (Bd Rv):=⟨rfl,rfl,rfl,by decide +kernel,rfl,by decide +kernel,by decide +kernel⟩
noncomputable abbrev ZHP:List Str:=["house","places","number"]
noncomputable abbrev Z5:List Str:=ZHP.take 1
theorem ZDr:FnScope ZHP Z5 (Bd ZC3):=⟨rfl,rfl,rfl,by decide +kernel,rfl,by decide +kernel,by decide +kernel⟩
noncomputable abbrev ZDZ:List Str:=["_law_house_here","_law_rank_here","_law_at","_law_caught","e","_law_found"]
noncomputable abbrev ZCc:List Str:=ZDZ.take 3
theorem Kp:FnScope ZDZ ZCc (Bd Wb):=⟨rfl,rfl,rfl,by decide +kernel,rfl,by decide +kernel,by decide +kernel⟩
noncomputable abbrev ZHX:List Str:=["_law_places","_law_at","_law_x","_law_name","_law_some"]
noncomputable abbrev ZBN:List Str:=ZHX.take 3
theorem T5:FnScope ZHX ZBN (Bd ZBh):=⟨rfl,rfl,rfl,by decide +kernel,rfl,by decide +kernel,by decide +kernel⟩
noncomputable abbrev ZDy:List Str:=["_law_row","_law_j","_law_thing"]
noncomputable abbrev ZC5:List Str:=ZDy.take 3
theorem ZNB:FnScope ZDy ZC5 (Bd ZBM):=⟨rfl,rfl,rfl,by decide +kernel,rfl,by decide +kernel,by decide +kernel⟩
noncomputable abbrev ZC7:List Str:=["_law_rule_here","_law_pump","_law_year","_law_way","_law_x","_law_j","_law_begin","_law_stairs_here","_law_top","_law_last","_law_s","_law_steps","_law_step","_law_most","_law_lifted"]
noncomputable abbrev Ym:List Str:=ZC7.take 5
theorem Ey:FnScope ZC7 Ym (Bd Vf):=⟨rfl,rfl,rfl,by decide +kernel,rfl,by decide +kernel,by decide +kernel⟩
noncomputable abbrev ZFh:List Str:=["_law_place_here","_law_rank_here","_law_x","_law_year","_law_strange","_law_below","_law_way"]
noncomputable abbrev ZAv:List Str:=ZFh.take 5
theorem ZDp:FnScope ZFh ZAv (Bd ZDD):=⟨rfl,rfl,rfl,by decide +kernel,rfl,by decide +kernel,by decide +kernel⟩
noncomputable abbrev ZGQ:List Str:=["_law_places","_law_at","_law_name","_law_old","_law_found","_law_k","_law_place_here"]
noncomputable abbrev Yw:List Str:=ZGQ.take 3
theorem Lh:FnScope ZGQ Yw (Bd ZCz):=⟨rfl,rfl,rfl,by decide +kernel,rfl,by decide +kernel,by decide +kernel⟩
noncomputable abbrev ZGz:List Str:=["_law_house_here","_law_at","_law_rank_here","_law_x","_law_year","_law_places","_law_name","_law_strange"]
noncomputable abbrev ZA4:List Str:=ZGz.take 4
theorem Rb:FnScope ZGz ZA4 (Bd ZDn):=⟨rfl,rfl,rfl,by decide +kernel,rfl,by decide +kernel,by decide +kernel⟩
noncomputable abbrev ZDA:List Str:=["_law_script","_law_house_here","_law_xs","_law_at","_law_some","_law_rank_here","_law_spoilt_here"]
noncomputable abbrev ZDX:List Str:=ZDA.take 1
theorem Kh:FnScope ZDA ZDX (Bd Hi):=⟨rfl,rfl,rfl,by decide +kernel,rfl,by decide +kernel,by decide +kernel⟩
def ZFW:DS:=(Ak (sIf (Ar (dOp Gq (dV 1) (dFn Dw (Ad (dV 0) Ag)))) (sRt (dOp Ah (dV 0) (dV 1))) sNx) (sRt (dC (.int 0))))
def Hz:List D->DH->R D:=Ce 2 0 ZFW
def Y4:DS:=(Ak (sAs (dOp Bb (dV 4) (dOp Ah (dV 1) (dOp Be (dV 5) (dC (.int 26))))) (gV 4)) (sAs (dOp Dj (dV 5) (dC (.int 26))) (gV 5)))
def Wu:DE:=(dOp Bb (dC (.str "z")) (dV 0))
def Tu:DE:=(dV 0)
def Xm:DB:=(Dm (Ar (dOp Ro (dV 0) (dV 1))) (Ar (dOp Ga (dV 0) (dC (.str "sea")))))
def Yb:DS:=(Ak (sAs (dC (.str "")) (gV 4)) (Ak (sAs (dOp Dj (dV 3) (dC (.int 8))) (gV 5)) (Ak (Gj (Gk rng1 (Ad (dOp Bb (dC (.int 1)) (dOp Be (dV 3) (dC (.int 8)))) Ag)) (gV 6) Y4) (Ak (sAs (Aw (dOp Bb (Aw (dFn Ba (Ad (dV 4) Ag))) (Aw (Ek (Ez (dV 1)) 1 [] (gV 0) De Wu)))) (gV 7)) (sEx (Kw K6 (dV 2) (Ad (dOp Ah (Aw (Ek (Ez (dV 7)) 1 [2] (gV 0) Xm Tu)) (dC (.int 0))) Ag)))))))
def ZFy:DS:=(Ak (sAs (dC (.str "abcdefghijklmnopqrstuvwxyz")) (gV 1)) (Ak (sAs (Jc (dFn Ba Ag)) (gV 2)) (Ak (Gj (Ez (dV 0)) (gV 3) Yb) (sRt (dV 2)))))
def Ug:List D->DH->R D:=Ce 1 7 ZFy
def Vo:DS:=(Ak (sAs (dOp Be (dOp Bb (dOp Bb (dOp Dl (dV 3) (dV 3)) (dOp Dl (dC (.int 48271)) (dV 6))) (dC (.int 11))) (dC (.int 2147483647))) (gV 3)) (Ak (sEx (Kw K6 (dV 5) (Ad (dOp Ah (Aw (dFn Ba (Ad (dV 3) (Ad (dOp Be (dV 4) (dOp Hh (dC (.int 10)) (dC (.int 42)))) Ag)))) (dFn Ss (Ad (dOp Fj (dV 4) (dC (.int 0))) Ag))) Ag))) (sAs (dOp Dj (dV 4) (dOp Hh (dC (.int 10)) (dC (.int 42)))) (gV 4))))
def ZEb:DS:=(Ak (sAs (dOp Be (dOp Dl (dOp Bb (dOp Be (dV 0) (dC (.int 999999937))) (dC (.int 2))) (dOp Bb (dOp Dl (dOp Dl (dC (.int 7919)) (dV 1)) (dV 1)) (dC (.int 48271)))) (dC (.int 2147483647))) (gV 3)) (Ak (sAs (dC (.int 0)) (gV 4)) (Ak (sIf (dOr (Ar (dOp Gq (dV 0) (dC (.int 0)))) (Ar (dOp ZBe (dV 0) (dOp Hh (dC (.int 10)) (dC (.int 18)))))) (sAs (dFn N8 (Ad (dV 0) (Ad (dOp Fv (dC (.int 0)) (dV 0)) Ag))) (gV 4)) sNx) (Ak (sAs (Jc (dFn Ba Ag)) (gV 5)) (Ak (Gj (Gk rng1 (Ad (dV 2) Ag)) (gV 6) Vo) (sRt (dV 5)))))))
def Je:List D->DH->R D:=Ce 3 4 ZEb
def Ub:DE:=(dOp Ah (dV 1) (dOp Be (dV 0) (dC (.int 26))))
def Ux:DE:=(Aw (dSl (dV 1) vZ (vQ (dOp Bb (dV 0) (dC (.int 1))))))
def Vs:DE:=(Aw (dSl (dV 1) vZ (vQ (dOp Bb (dV 0) (dC (.int 1))))))
def Wt:DE:=(dOp Ah (Aw (dFn Ba (Ad (dV 0) (Ad (dC (.str "sa")) Ag)))) (dFn Ss (Ad (dOp Bk (dV 0) (dC (.str "sea"))) Ag)))
def Rj:DS:=(Ak (sAs (dOp Ah (dV 1) (dOp Be (dOp Bb (dOp Ah (dV 2) (dC (.int 10))) (dOp Dl (dC (.int 5)) (dV 7))) (dC (.int 26)))) (gV 11)) (Ak (sAs (Aw (dOp Bb (Aw (dOp Bb (Aw (dSl (dV 3) vZ (vQ (dV 10)))) (dV 11))) (Aw (dSl (dV 3) (vQ (dV 10)) (vQ (dV 9)))))) (gV 8)) (Ak (sIf (Ar (dOp Bk (dV 8) (dC (.str "sea")))) (sAs (dC (.str "seat")) (gV 8)) sNx) (sEx (Kw K6 (dV 6) (Ad (dV 8) Ag))))))
def ZF5:DS:=(sRt (dV 6))
def ZEz:DS:=(Ak (Gj (Gk rng1 (Ad (dC (.int 12)) Ag)) (gV 7) Rj) ZF5)
def ZFm:DS:=(Ak (sAs (Jc (dFn Ba Ag)) (gV 6)) ZEz)
def ZGK:DS:=(Ak (sAs (dOp Be (dOp Ah (dV 2) (dC (.int 9))) (dOp Bb (dV 9) (dC (.int 1)))) (gV 10)) ZFm)
def ZEs:DS:=(Ak (sAs (dOp Be (dOp Dj (dOp Ah (dV 2) (dC (.int 8))) (dC (.int 3))) (dC (.int 8))) (gV 9)) ZGK)
def R6:DS:=(Ak (sIf (Ar (dOp Bk (dOp Be (dOp Ah (dV 2) (dC (.int 8))) (dC (.int 3))) (dC (.int 0)))) (Ak (sAs (dOp Be (dOp Bb (dOp Bb (V9 V0 (dV 1) (Ad (dOp Ah (dV 3) (dC (.int 0))) Ag)) (dC (.int 1))) (dOp Be (dOp Ah (dV 2) (dC (.int 9))) (dC (.int 25)))) (dC (.int 26))) (gV 4)) (Ak (sAs (Aw (dOp Bb (dOp Ah (dV 1) (dV 4)) (Aw (dSl (dV 3) (vQ (dC (.int 1))) vZ)))) (gV 5)) (Ak (sAs (Ek (Gk rng1 (Ad (dC (.int 8)) Ag)) 1 [3] (gV 0) De Ux) (gV 6)) (Ak (sAs (Jc (dOp Bb (dV 6) (Aw (Ek (Gk rng1 (Ad (dC (.int 4)) Ag)) 1 [5] (gV 0) De Vs)))) (gV 6)) (Ak (sAs (Ek (Ez (dV 6)) 1 [] (gV 0) De Wt) (gV 6)) (sRt (dOp Bb (Aw (dSl (dV 6) (vQ (dOp Be (dOp Ah (dV 2) (dC (.int 10))) (dC (.int 12)))) vZ)) (Aw (dSl (dV 6) vZ (vQ (dOp Be (dOp Ah (dV 2) (dC (.int 10))) (dC (.int 12))))))))))))) sNx) ZEs)
def Wq:DS:=(Ak (sIf (Ar (dOp Bk (dOp Be (dOp Dj (dOp Ah (dV 2) (dC (.int 10))) (dC (.int 26))) (dC (.int 4))) (dC (.int 0)))) (sAs (Aw (dSl (Aw (dOp Bb (dOp Ah (Aw (dFn Ba (Ad (dC (.str "sea")) (Ad (dC (.str "none")) Ag)))) (dOp Be (dOp Dj (dOp Ah (dV 2) (dC (.int 10))) (dC (.int 104))) (dC (.int 2)))) (Aw (dSl (dV 3) (vQ (dC (.int 3))) vZ)))) vZ (vQ (dC (.int 8))))) (gV 3)) sNx) R6)
def Vp:DS:=(Ak (sAs (V9 Ot (dC (.str "")) (Ad (Aw (Ek (Ez (Aw (dSl (dV 2) vZ (vQ (dC (.int 8)))))) 1 [1] (gV 0) De Ub)) Ag)) (gV 3)) Wq)
def S7:DS:=(Ak (sIf (Ar (dOp Fj (dOp Ah (dV 2) (dC (.int 11))) (dC (.int 2147483647)))) (sRt (dFn Ug (Ad (Aw (dSl (dV 2) (vQ (dC (.int 11))) (vQ (dC (.int 23))))) Ag))) sNx) Vp)
def Qh:DS:=(Ak (sAs (Aw (dFn Je (Ad (dV 0) (Ad (dC (.int 0)) (Ad (dC (.int 24)) Ag))))) (gV 2)) S7)
def R8:DS:=(Ak (sAs (dC (.str "abcdefghijklmnopqrstuvwxyz")) (gV 1)) Qh)
def K5:List D->DH->R D:=Ce 1 11 R8
def ZBg:DS:=(Ak (sIf (Ar (dOp Fj (dV 0) (dC (.int 2147483647)))) (sRt (dOp Dl (dOp Be (dOp Dj (dV 0) (dC (.int 2))) (dOp Hh (dC (.int 10)) (dC (.int 38)))) (dOp Be (dV 0) (dC (.int 2))))) sNx) (sRt (dOp Dl (dOp Be (dV 0) (dC (.int 50))) (dOp Be (dOp Dj (dV 0) (dC (.int 50))) (dC (.int 2))))))
def Rm:List D->DH->R D:=Ce 1 0 ZBg
def ZF2:DS:=(Ak (sIf (Ar (dOp Bk (dOp Be (dV 0) (dC (.int 4))) (dC (.int 0)))) (sRt (dC (.int 0))) sNx) (Ak (sIf (Dm (Ar (dOp Bk (dOp Be (dV 0) (dC (.int 4))) (dC (.int 1)))) (Ar (dOp Fj (dV 0) (dC (.int 2147483647))))) (sRt (dOp Be (dOp Dj (dV 0) (dC (.int 4))) (dOp Hh (dC (.int 10)) (dC (.int 38))))) sNx) (Ak (sIf (Ar (dOp Bk (dOp Be (dV 0) (dC (.int 4))) (dC (.int 1)))) (sRt (dOp Be (dOp Dl (dV 1) (dOp Bb (dOp Dj (dV 0) (dC (.int 4))) (dC (.int 2)))) (dOp Hh (dC (.int 10)) (dC (.int 38))))) sNx) (sRt (dOp Be (dOp Dj (dV 0) (dC (.int 4))) (dC (.int 40)))))))
def Jy:List D->DH->R D:=Ce 2 0 ZF2
def Xp:DE:=(dV 1)
def U9:DB:=(Ar (dOp Bk (dV 2) (dC (.str "pump"))))
def Tw:DE:=(dFn Jt (Ad (Aw (Ek (Ez (dV 1)) 3 [] (Eb 3 (Bu (gV 0) (Bu (gV 1) (Bu (gV 2) Ej)))) U9 Xp)) Ag))
def ZE7:DS:=(sRt (dFn Pa (Ad (Aw (Ek (Ez (dV 0)) 2 [] (Eb 2 (Bu (gV 0) (Bu (gV 1) Ej))) De Tw)) Ag)))
def Tt:List D->DH->R D:=Ce 1 0 ZE7
def Wx:DS:=(Ak (sAs (dOp Bb (dV 4) (dFn Jy (Ad (dOp Ah (dV 0) (dOp Bb (dC (.int 1)) (dOp Dl (dC (.int 2)) (dV 5)))) (Ad (dV 1) Ag)))) (gV 6)) (Ak (sAs (dOp Bb (dC (.int 1)) (dFn Jy (Ad (dOp Ah (dV 0) (dOp Bb (dC (.int 2)) (dOp Dl (dC (.int 2)) (dV 5)))) (Ad (dV 1) Ag)))) (gV 7)) (Ak (sAs (dC (.str "river")) (gV 8)) (Ak (sIf (Dm (Ar (dV 2)) (Ar (dOp Bk (dOp Be (dOp Dj (dOp Ah (dV 0) (dOp Bb (dC (.int 2)) (dOp Dl (dC (.int 2)) (dV 5)))) (dC (.int 160))) (dC (.int 2))) (dC (.int 0))))) (sAs (dC (.str "pump")) (gV 8)) sNx) (Ak (sEx (Kw K6 (dV 3) (Ad (dFn Bl (Ad (dV 6) (Ad (dV 7) (Ad (dV 8) Ag)))) Ag))) (sAs (dOp Bb (dV 6) (dV 7)) (gV 4)))))))
def ZHL:DS:=(Ak (sAs (Jc (dFn Ba Ag)) (gV 3)) (Ak (sAs (dC (.int 0)) (gV 4)) (Ak (Gj (Gk rng1 (Ad (dOp Be (dOp Ah (dV 0) (dC (.int 0))) (dC (.int 4))) Ag)) (gV 5) Wx) (sRt (dFn Kf (Ad (dV 3) Ag))))))
def Vn:List D->DH->R D:=Ce 3 6 ZHL
def Pb:DS:=(sIf (dOr (Ar (dOp Bk (dV 6) (dC (.int 0)))) (Dm (Ar (dOp Fj (dOp Be (dOp Ah (dV 0) (dV 6)) (dC (.int 3))) (dC (.int 0)))) (Ar (dOp Gq (dV 5) (dV 2))))) (Ak (sEx (Kw K6 (dV 4) (Ad (dFn Bl (Ad (dV 5) (Ad (dFn Vn (Ad (Aw (dSl (dV 0) (vQ (dOp Bb (dC (.int 3)) (dOp Dl (dC (.int 7)) (dV 6)))) (vQ (dOp Bb (dC (.int 10)) (dOp Dl (dC (.int 7)) (dV 6)))))) (Ad (dV 1) (Ad (dV 3) Ag)))) Ag))) Ag))) (sAs (dOp Bb (dOp Bb (dV 5) (dC (.int 1))) (dOp Be (dOp Dj (dOp Ah (dV 0) (dV 6)) (dC (.int 3))) (dC (.int 9)))) (gV 5))) sNx)
def ZE4:DS:=(Ak (sAs (Jc (dFn Ba Ag)) (gV 4)) (Ak (sAs (dC (.int 0)) (gV 5)) (Ak (Gj (Gk rng1 (Ad (dC (.int 3)) Ag)) (gV 6) Pb) (sRt (dFn Kf (Ad (dV 4) Ag))))))
def Vm:List D->DH->R D:=Ce 4 3 ZE4
def ZAJ:DS:=(sRt (dOp Bb (dOp Bb (dFn Bl (Ad (dC (.str "basin")) Ag)) (dV 7)) (dFn Bl (Ad (dFn Jy (Ad (dOp Ah (dV 5) (dC (.int 3))) (Ad (dV 4) Ag))) (Ad (dV 9) (Ad (dV 10) Ag))))))
def ZAw:DS:=(Ak (sIf (Ar (dV 8)) (Ak (sAs (dOp Be (dOp Bb (dOp Bb (dV 2) (dC (.int 1))) (dOp Be (dOp Ah (dV 5) (dC (.int 6))) (dOp Fv (dV 1) (dC (.int 1))))) (dV 1)) (gV 11)) (sAs (dFn Bl (Ad (dOp Ah (dV 0) (dV 11)) (Ad (dOp Bb (dC (.int 1)) (dOp Be (dOp Ah (dV 5) (dC (.int 7))) (dC (.int 5)))) (Ad (dOp Bb (dFn Tt (Ad (dV 9) Ag)) (dFn Rm (Ad (dOp Ah (dV 5) (dC (.int 4))) Ag))) Ag)))) (gV 10))) sNx) ZAJ)
def Yx:DS:=(Ak (sAs (dC .non) (gV 10)) ZAw)
def ZDO:DS:=(Ak (sAs (dFn Vm (Ad (Aw (dSl (dV 5) (vQ (dC (.int 8))) (vQ (dC (.int 32))))) (Ad (dV 4) (Ad (dV 3) (Ad (dV 8) Ag))))) (gV 9)) Yx)
def ZA2:DS:=(Ak (sAs (M6 (dOp Fj (dV 1) (dC (.int 1))) (dOp Fj (dOp Be (dOp Ah (dV 5) (dC (.int 5))) (dC (.int 3))) (dC (.int 0)))) (gV 8)) ZDO)
def Uo:DS:=(Ak (sIf (Ar (dOp Bk (dOp Be (dOp Ah (dV 5) (dC (.int 2))) (dC (.int 5))) (dC (.int 1)))) (sRt (dOp Bb (dOp Bb (dFn Bl (Ad (dC (.str "town")) Ag)) (dV 7)) (dFn Bl (Ad (dFn Jy (Ad (dOp Ah (dV 5) (dC (.int 3))) (Ad (dV 4) Ag))) (Ad (dFn Jy (Ad (dOp Ah (dV 5) (dC (.int 4))) (Ad (dV 4) Ag))) Ag))))) sNx) ZA2)
def Ob:DS:=(Ak (sIf (Ar (dOp Bk (dOp Be (dOp Ah (dV 5) (dC (.int 2))) (dC (.int 5))) (dC (.int 0)))) (sRt (dOp Bb (dOp Bb (dFn Bl (Ad (dC (.str "mill")) Ag)) (dV 7)) (dFn Bl (Ad (dFn Jy (Ad (dOp Ah (dV 5) (dC (.int 3))) (Ad (dV 4) Ag))) Ag)))) sNx) Uo)
def ZBU:DS:=(Ak (sAs (dFn Bl (Ad (dOp Ah (dV 0) (dV 2)) (Ad (dV 6) (Ad (dOp Be (dOp Ah (dV 5) (dC (.int 1))) (dC (.int 6))) Ag)))) (gV 7)) Ob)
def ZBH:DS:=(Ak (sIf (Ar (dOp Fj (dOp Be (dOp Ah (dV 5) (dC (.int 0))) (dOp Fv (dV 1) (dV 2))) (dC (.int 0)))) (sAs (dOp Ah (dV 0) (dOp Bb (dV 2) (dOp Be (dOp Ah (dV 5) (dC (.int 0))) (dOp Fv (dV 1) (dV 2))))) (gV 6)) sNx) ZBU)
def ZBY:DS:=(Ak (sAs (dC (.str "sea")) (gV 6)) ZBH)
def Zx:DS:=(Ak (sAs (Aw (dFn Je (Ad (dV 4) (Ad (dV 2) (Ad (dC (.int 33)) Ag))))) (gV 5)) ZBY)
def Lp:List D->DH->R D:=Ce 5 7 Zx
def Xl:DE:=(dFn Lp (Ad (dV 5) (Ad (dV 3) (Ad (dV 0) (Ad (dV 4) (Ad (dFn Hz (Ad (dV 1) (Ad (dOp Bb (dOp Bb (dV 2) (dC (.int 3))) (dV 0)) Ag))) Ag))))))
def ZEc:DS:=(Ak (sAs (dOp Bb (dC (.int 1)) (dOp Be (dFn Hz (Ad (dV 0) (Ad (dV 1) Ag))) (dC (.int 12)))) (gV 2)) (Ak (sAs (dOp Bb (dC (.int 1)) (dOp Be (dFn Hz (Ad (dV 0) (Ad (dOp Bb (dV 1) (dC (.int 1))) Ag))) (dC (.int 24)))) (gV 3)) (Ak (sAs (Aw (dFn K5 (Ad (dFn Hz (Ad (dV 0) (Ad (dOp Bb (dV 1) (dC (.int 2))) Ag))) Ag))) (gV 4)) (Ak (sAs (Aw (Ek (Gk rng1 (Ad (dV 2) Ag)) 1 [0,1,2,3,4] (gV 0) De Xl)) (gV 5)) (sRt (dFn Bl (Ad (dV 3) (Ad (dFn Kf (Ad (dV 5) Ag)) Ag))))))))
def O6:List D->DH->R D:=Ce 2 4 ZEc
def Jk:DS:=(Ak (sAs (dOp Ah (Aw (dFn Ba (Ad (dC (.int 1)) (Ad (dC (.int 2)) (Ad (dC (.int 3)) (Ad (dC (.int 4)) (Ad (dC (.int 5)) (Ad (dC (.int 5)) (Ad (dC (.int 5)) Ag))))))))) (dOp Be (dV 1) (dC (.int 7)))) (gV 2)) (Ak (sIf (Dm (Ar (dOp Bk (dV 2) (dC (.int 5)))) (Ar (dOp Ga (dOp Ah (dV 0) (dC (.int 0))) (dC (.str "basin"))))) (sRt (dC (.int 2))) sNx) (Ak (sIf (Dm (Ar (dOp Bk (dV 2) (dC (.int 4)))) (dOr (Ar (dOp Ga (dOp Ah (dV 0) (dC (.int 0))) (dC (.str "basin")))) (Ar (dOp Oz (dOp Ah (dV 0) (dC (.int 6))) (dC .non))))) (sRt (dC (.int 3))) sNx) (sRt (dV 2)))))
def I8:List D->DH->R D:=Ce 2 1 Jk
def ZGk:DS:=(sRt (M6 (dFn Ky (Ad (dV 0) (Ad (dC (.ty "int")) Ag))) (ZDC (dFn Ky (Ad (dV 0) (Ad (dC (.ty "bool")) Ag))))))
def Ye:List D->DH->R D:=Ce 1 0 ZGk
def Wg:DE:=(dOp Hv (dV 0) (dC (.str "abcdefghijklmnopqrstuvwxyz")))
def ZGR:DS:=(Ak (sIf (dOr (Ar (dOp Bk (dV 0) (dC (.str "sea")))) (El (Ar (Jr Gw Gw (dC (.int 1)) (dFn Dw (Ad (dV 0) Ag)) (dC (.int 8)))))) (sRt (dC (.bl vX))) sNx) (sRt (dFn Sq (Ad (Aw (Ek (Ez (dV 0)) 1 [] (gV 0) De Wg)) Ag))))
def Y7:List D->DH->R D:=Ce 1 0 ZGR
def ZGY:DS:=(Ak (sIf (Ar (dOp Oz (dV 0) (dC .non))) (sRt (dC (.bl vJ))) sNx) (sRt (M6 (dOp Hv (dOp Ah (dV 0) (dC (.int 0))) (dV 1)) (Jr Gw Gw (dC (.int 1)) (dOp Ah (dV 0) (dC (.int 1))) (dC (.int 5))))))
def O9:List D->DH->R D:=Ce 2 0 ZGY
def ZFq:DS:=(sRt (M6 (W2 (dOp Bk (dOp Ah (dV 0) (dC (.int 2))) (dC (.str "sea"))) (dOp Hv (dOp Ah (dV 0) (dC (.int 2))) (dV 1))) (Jr Gw Gw (dC (.int 0)) (dOp Ah (dV 0) (dC (.int 3))) (dC (.int 5)))))
def Xe:List D->DH->R D:=Ce 2 0 ZFq
def Tf:DS:=(Ak (sIf (El (Ar (Jr Gq Gq (dV 2) (dV 3) (dV 1)))) (sRt (dC (.bl vX))) sNx) (sAs (dV 3) (gV 2)))
def ZGO:DS:=(Ak (sIf (dOr (Ar (dOp Bk (dFn Dw (Ad (dV 0) Ag)) (dC (.int 0)))) (Ar (dOp Ga (dOp Ah (dOp Ah (dV 0) (dC (.int 0))) (dC (.int 0))) (dC (.int 0))))) (sRt (dC (.bl vX))) sNx) (Ak (sAs (dUn Gs (dC (.int 1))) (gV 2)) (Ak (Gj (Ez (dV 0)) (Eb 2 (Bu (gV 3) (Bu (gV 4) Ej))) Tf) (sRt (dC (.bl vJ))))))
def Xd:List D->DH->R D:=Ce 2 3 ZGO
def Wi:DS:=(Ak (sIf (dOr (Ar (dOp Gq (dV 2) (dV 1))) (Ar (dOp Gq (dV 3) (dC (.int 1))))) (sRt (dC (.bl vX))) sNx) (sAs (dOp Bb (dV 2) (dV 3)) (gV 1)))
def ZEQ:DS:=(Ak (sAs (dC (.int 0)) (gV 1)) (Ak (Gj (Ez (dV 0)) (Eb 3 (Bu (gV 2) (Bu (gV 3) (Bu (gV 4) Ej)))) Wi) (sRt (dC (.bl vJ)))))
def U6:List D->DH->R D:=Ce 1 4 ZEQ
def ZBl:DE:=(dV 1)
def ZDj:DB:=(Ar (dOp Bk (dV 2) (dC (.str "pump"))))
def ZFB:DS:=(Ak (sAs (Aw (Ek (Ez (dV 0)) 3 [] (Eb 3 (Bu (gV 0) (Bu (gV 1) (Bu (gV 2) Ej)))) ZDj ZBl)) (gV 2)) (Ak (sIf (Ar (dOp Oz (dV 1) (dC .non))) (sRt (dOp Bk (dFn Dw (Ad (dV 2) Ag)) (dC (.int 0)))) sNx) (sRt (dOp Gw (dFn Jt (Ad (dV 2) Ag)) (dOp Ah (dV 1) (dC (.int 2)))))))
def Vc:List D->DH->R D:=Ce 2 1 ZFB
def T7:DS:=(sIf (dOr (El (Ar (dFn U6 (Ad (dV 4) Ag)))) (El (Ar (dFn Vc (Ad (dV 4) (Ad (dV 1) Ag)))))) (sRt (dC (.bl vX))) sNx)
def ZFc:DS:=(Ak (sIf (El (Ar (dFn Xd (Ad (dV 0) (Ad (dV 2) Ag))))) (sRt (dC (.bl vX))) sNx) (Ak (Gj (Ez (dV 0)) (Eb 2 (Bu (gV 3) (Bu (gV 4) Ej))) T7) (sRt (dC (.bl vJ)))))
def Nt:List D->DH->R D:=Ce 3 2 ZFc
def ZD8:DS:=(Ak (sIf (Ar (dOp Bk (dOp Ah (dV 0) (dC (.int 0))) (dC (.str "town")))) (sRt (dFn Ba (Ad (dOp Ah (dV 0) (dC (.int 4))) (Ad (dOp Ah (dV 0) (dC (.int 5))) Ag)))) sNx) (Ak (sIf (Ar (dOp Bk (dOp Ah (dV 0) (dC (.int 0))) (dC (.str "mill")))) (sRt (dFn Ba (Ad (dOp Ah (dV 0) (dC (.int 4))) Ag))) sNx) (Ak (sIf (Ar (dOp Oz (dOp Ah (dV 0) (dC (.int 6))) (dC .non))) (sRt (dFn Ba (Ad (dOp Ah (dV 0) (dC (.int 4))) Ag))) sNx) (sRt (dFn Ba (Ad (dOp Ah (dV 0) (dC (.int 4))) (Ad (dOp Ah (dOp Ah (dV 0) (dC (.int 6))) (dC (.int 2))) Ag)))))))
def W5:List D->DH->R D:=Ce 1 0 ZD8
def Sw:DE:=(dOp Ah (dV 0) (dC (.int 1)))
def Tv:DE:=(dOp Ah (dV 0) (dC (.int 1)))
def N6:DS:=(Ak (sNr (sAs (dOp Ah (dV 0) (dC (.int 1))) (gV 2))) (Ak (sNr (sAs (dOp Ah (dV 2) (dV 1)) (gV 3))) (Ak (sNr (sAs (Aw (Ek (Ez (Aw (dSl (dV 2) vZ (vQ (dV 1))))) 1 [] (gV 0) De Sw)) (gV 4))) (Ak (sNr (sAs (Aw (Ek (Ez (Aw (dSl (dV 2) (vQ (dOp Bb (dV 1) (dC (.int 1)))) vZ))) 1 [] (gV 0) De Tv)) (gV 5))) (Ak (sIf (dOr (El (Ar (dFn (nerr Y7) (Ad (dOp Ah (dV 3) (dC (.int 1))) Ag)))) (Ar (dOp Hv (dOp Ah (dV 3) (dC (.int 1))) (dV 4)))) (sRz "NoName" "place" (Ad (dV 1) Ag)) sNx) (Ak (sIf (El (Ar (dFn (nerr Xe) (Ad (dV 3) (Ad (dV 5) Ag))))) (sRz "NoRiver" "place" (Ad (dV 1) Ag)) sNx) (Ak (sIf (Ar (dOp Gq (dFn Oj (Ad (Aw (dFn (nerr W5) (Ad (dV 3) Ag))) Ag)) (dC (.int 0)))) (sRz "NoNumber" "place" (Ad (dV 1) Ag)) sNx) (sIf (Ar (dOp Bk (dOp Ah (dV 3) (dC (.int 0))) (dC (.str "basin")))) (Ak (sIf (El (Ar (dFn (nerr O9) (Ad (dOp Ah (dV 3) (dC (.int 6))) (Ad (dOp Bb (dV 4) (dV 5)) Ag))))) (sRz "NoPump" "place" (Ad (dV 1) Ag)) sNx) (sIf (El (Ar (dFn (nerr Nt) (Ad (dOp Ah (dV 3) (dC (.int 5))) (Ad (dOp Ah (dV 3) (dC (.int 6))) (Ad (dOp Ah (dV 0) (dC (.int 0))) Ag)))))) (sRz "NoRule" "place" (Ad (dV 1) Ag)) sNx)) sNx))))))))
def Ie:List D->DH->R D:=Ce 2 4 N6
def Ih:DS:=(sEx (dFn Ie (Ad (dV 0) (Ad (dV 2) Ag))))
def Wa:DS:=(Ak (sNr (sAs (dOp Ah (dV 0) (dC (.int 1))) (gV 1))) (Ak (sIf (dOr (El (Ar (Jr Gw Gw (dC (.int 1)) (dOp Ah (dV 0) (dC (.int 0))) (dC (.int 24))))) (El (Ar (Jr Gw Gw (dC (.int 1)) (dFn Dw (Ad (dV 1) Ag)) (dC (.int 12)))))) (Mq "NoHouse" (Ad (dC (.str "a house has a year of 1 to 24 turns, and 1 to 12 places")) Ag)) sNx) (Ak (Gj (Gk rng1 (Ad (dFn Dw (Ad (dV 1) Ag)) Ag)) (gV 2) Ih) (sNr (sRt (dV 0))))))
def Ii:List D->DH->R D:=Ce 1 2 Wa
def ZFZ:DS:=(sAs (dV 4) (gV 3))
def Pu:DE:=(dOp Bk (dV 0) (dV 1))
def ZDa:DS:=(sRt (W2 (dOp Bk (dV 1) (dC (.int 0))) (M6 (dFn Ye (Ad (dUn (gtx ["NoName","NoNumber","NoPump","NoRiver","NoRule"] "place") (dV 3)) Ag)) (dOp Bk (dUn (gtx ["NoName","NoNumber","NoPump","NoRiver","NoRule"] "place") (dV 3)) (dV 2)))))
def Wh:DS:=(Ak (sIf (Ar (dOp Ga (dV 5) (Aw (Ek (Gk rng1 (Ad (dC (.int 13)) Ag)) 1 [1] (gV 0) De Pu)))) (sRt (dC (.bl vX))) sNx) ZDa)
def Uv:DS:=(Ak (sAs (Aw (dOp Bb (dV 5) (Aw (dFn Ba (Ad (dUn (isx [("NoHouse",vX),("NoName",vX),("NoNumber",vX),("NoPump",vX),("NoRiver",vX),("NoRule",vX)]) (dV 3)) Ag))))) (gV 5)) Wh)
def Xg:DS:=(Ak (sAs (Aw (dOp Bb (dV 5) (Aw (dFn Ba (Ad (dUn (isx [("NoHouse",vX),("NoName",vX),("NoNumber",vX),("NoPump",vX),("NoRiver",vX),("NoRule",vX)]) (dV 3)) (Ad (dUn (isx [("NoHouse",vX),("NoName",vX),("NoNumber",vX),("NoPump",vX),("NoRiver",vX),("NoRule",vX)]) (dV 3)) (Ad (dUn (isx [("NoHouse",vX),("NoName",vX),("NoNumber",vX),("NoPump",vX),("NoRiver",vX),("NoRule",vX)]) (dV 3)) Ag))))))) (gV 5)) Uv)
def Vg:DS:=(Ak (sAs (Aw (dOp Bb (dV 5) (Aw (dFn Ba (Ad (dUn (isx [("NoHouse",vX),("NoName",vX),("NoNumber",vX),("NoPump",vX),("NoRiver",vX),("NoRule",vX)]) (dV 3)) (Ad (dUn (isx [("NoHouse",vX),("NoName",vX),("NoNumber",vX),("NoPump",vX),("NoRiver",vX),("NoRule",vX)]) (dV 3)) (Ad (dUn (isx [("NoHouse",vX),("NoName",vX),("NoNumber",vX),("NoPump",vX),("NoRiver",vX),("NoRule",vX)]) (dV 3)) Ag))))))) (gV 5)) Xg)
def V6:DS:=(Ak (sAs (Aw (dOp Bb (dV 5) (Aw (dFn Ba (Ad (dUn (isx [("NoHouse",vX),("NoName",vX),("NoNumber",vJ),("NoPump",vX),("NoRiver",vX),("NoRule",vX)]) (dV 3)) (Ad (dUn (isx [("NoHouse",vX),("NoName",vX),("NoNumber",vX),("NoPump",vJ),("NoRiver",vX),("NoRule",vX)]) (dV 3)) (Ad (dUn (isx [("NoHouse",vX),("NoName",vX),("NoNumber",vX),("NoPump",vX),("NoRiver",vX),("NoRule",vJ)]) (dV 3)) Ag))))))) (gV 5)) Vg)
def Xa:DS:=(Ak (sAs (Aw (dFn Ba (Ad (dUn (isx [("NoHouse",vJ),("NoName",vX),("NoNumber",vX),("NoPump",vX),("NoRiver",vX),("NoRule",vX)]) (dV 3)) (Ad (dUn (isx [("NoHouse",vX),("NoName",vJ),("NoNumber",vX),("NoPump",vX),("NoRiver",vX),("NoRule",vX)]) (dV 3)) (Ad (dUn (isx [("NoHouse",vX),("NoName",vX),("NoNumber",vX),("NoPump",vX),("NoRiver",vJ),("NoRule",vX)]) (dV 3)) Ag))))) (gV 5)) V6)
def ZEh:DS:=(Ak (sIf (El (Ar (dUn (isx [("NoHouse",vJ),("NoName",vJ),("NoNumber",vJ),("NoPump",vJ),("NoRiver",vJ),("NoRule",vJ)]) (dV 3)))) (sRt (dC (.bl vX))) sNx) Xa)
def ZEq:DS:=(Ak (S9 (sEx (dTc Ii (Ad (dV 0) Ag))) (Qt ["NoHouse","NoName","NoNumber","NoPump","NoRiver","NoRule"] [] 4 ZFZ ZGE)) ZEh)
def ZAZ:DS:=(Ak (sAs (dC .non) (gV 3)) ZEq)
def Mx:List D->DH->R D:=Ce 3 3 ZAZ
def ZCd:DS:=(Ak (sAs (dOp Ah (dOp Ah (dV 0) (dV 1)) (dC (.int 1))) (gV 3)) (Ak (sIf (Dm (Ar (dOp Bk (dOp Be (dV 2) (dC (.int 8))) (dC (.int 7)))) (Ar (dOp Fj (dV 1) (dC (.int 0))))) (sRt (dOp Ah (dOp Ah (dV 0) (dOp Be (dOp Dj (dV 2) (dC (.int 8))) (dV 1))) (dC (.int 1)))) sNx) (Ak (sAs (Aw (dFn Ba (Ad (dC (.str "")) (Ad (dC (.str "sea")) (Ad (dOp Bb (dV 3) (dC (.str "abcdefgh"))) (Ad (Aw (dOp Bb (Aw (dSl (dV 3) vZ (vQ (dC (.int 6))))) (dC (.str "A")))) (Ad (Aw (dOp Bb (Aw (dSl (dV 3) vZ (vQ (dC (.int 7))))) (dC (.str "3")))) (Ad (Aw (dOp Bb (dC (.str " ")) (Aw (dSl (dV 3) vZ (vQ (dC (.int 5))))))) Ag)))))))) (gV 4)) (Ak (sAs (Aw (dOp Bb (dV 4) (Aw (dFn Ba (Ad (Aw (dOp Bb (Aw (dOp Bb (Aw (dSl (dV 3) vZ (vQ (dC (.int 3))))) (dC (.str "-")))) (Aw (dSl (dV 3) (vQ (dC (.int 3))) (vQ (dC (.int 6))))))) (Ad (dC (.str "Sea")) Ag)))))) (gV 4)) (sRt (dOp Ah (dV 4) (dOp Be (dV 2) (dC (.int 8)))))))))
def Ra:List D->DH->R D:=Ce 3 2 ZCd
def ZGI:DS:=(sRt (dOp Bw (Aw (dOp Bw (Aw (dSl (dV 0) vZ (vQ (dV 1)))) (dFn Bl (Ad (dV 2) Ag)))) (Aw (dSl (dV 0) (vQ (dOp Bw (dV 1) (dC (.int 1)))) vZ))))
def Cj:List D->DH->R D:=Ce 3 0 ZGI
def ZA0:DE:=(dV 1)
def ZCx:DB:=(Ar (dOp Bk (dV 2) (dC (.str "pump"))))
def ZBf:DS:=(sRt (dOp Bw (Aw (dOp Bw (Aw (dSl (dV 0) vZ (vQ (dV 5)))) (dFn Bl (Ad (dFn Bl (Ad (dV 6) (Ad (dV 11) Ag))) Ag)))) (Aw (dSl (dV 0) (vQ (dOp Bw (dV 5) (dC (.int 1)))) vZ))))
def M9:DS:=(Ak (sIf (Ar (dOp Bk (dV 3) (dC (.int 7)))) (Ak (sAs (dC (.int 0)) (gV 13)) (Ak (sIf (Ar (dOp Rc (dV 1) (dC .non))) (Ak (sAs (dFn Jt (Ad (Aw (Ek (Ez (dV 7)) 3 [] (Eb 3 (Bu (gV 0) (Bu (gV 1) (Bu (gV 2) Ej)))) ZCx ZA0)) Ag)) (gV 14)) (sAs (dOp Fv (dFn N8 (Ad (dC (.int 0)) (Ad (dOp Ah (dV 1) (dC (.int 2))) Ag))) (dV 14)) (gV 13))) sNx) (sAs (dOp Bw (dV 7) (dFn Bl (Ad (dFn Bl (Ad (dV 8) (Ad (dFn N8 (Ad (dC (.int 1)) (Ad (dOp Bw (dV 13) (dC (.int 1))) Ag))) (Ad (dC (.str "pump")) Ag)))) Ag))) (gV 11)))) sNx) ZBf)
def Mv:DS:=(Ak (sIf (Ar (dOp Bk (dV 3) (dC (.int 4)))) (sAs (dOp Bw (dFn Bl (Ad (dFn Bl (Ad (dUn Gs (dC (.int 1))) (Ad (dC (.int 1)) (Ad (dC (.str "river")) Ag)))) Ag)) (dV 7)) (gV 11)) sNx) M9)
def Mz:DS:=(Ak (sIf (Dm (Ar (dOp Bk (dV 3) (dC (.int 6)))) (Dm (Ar (dOp Gq (dOp Bw (dV 10) (dC (.int 1))) (dFn Dw (Ad (dV 7) Ag)))) (Ar (dOp Bk (dOp Be (dOp Dj (dV 4) (dC (.int 30))) (dC (.int 2))) (dC (.int 0)))))) (sAs (Aw (dOp Bw (Aw (dOp Bw (Aw (dSl (dV 7) vZ (vQ (dV 10)))) (dFn Bl (Ad (dOp Ah (dV 7) (dOp Bw (dV 10) (dC (.int 1)))) (Ad (dOp Ah (dV 7) (dV 10)) Ag))))) (Aw (dSl (dV 7) (vQ (dOp Bw (dV 10) (dC (.int 2)))) vZ)))) (gV 11)) sNx) Mv)
def Mg:DS:=(Ak (sIf (Dm (Ar (dOp Bk (dV 3) (dC (.int 5)))) (Ar (dOp Fj (dFn Dw (Ad (dV 7) Ag)) (dV 10)))) (Ak (sAs (dFn Bl (Ad (dOp Ah (dOp Ah (dV 7) (dV 10)) (dC (.int 0))) (Ad (dOp Fv (dC (.int 0)) (dOp Be (dOp Dj (dV 4) (dC (.int 30))) (dC (.int 2)))) (Ad (dOp Ah (dOp Ah (dV 7) (dV 10)) (dC (.int 2))) Ag)))) (gV 12)) (sAs (Aw (dOp Bw (Aw (dOp Bw (Aw (dSl (dV 7) vZ (vQ (dV 10)))) (dFn Bl (Ad (dV 12) Ag)))) (Aw (dSl (dV 7) (vQ (dOp Bw (dV 10) (dC (.int 1)))) vZ)))) (gV 11))) sNx) Mz)
def Ls:DS:=(Ak (sIf (Ar (dOp Bk (dV 3) (dC (.int 5)))) (sAs (Aw (dOp Bw (Aw (dOp Bw (Aw (dSl (dV 7) vZ (vQ (dV 10)))) (dFn Bl (Ad (dFn Bl (Ad (dV 8) (Ad (dOp Fv (dC (.int 0)) (dOp Be (dOp Dj (dV 4) (dC (.int 30))) (dC (.int 2)))) (Ad (dC (.str "river")) Ag)))) Ag)))) (Aw (dSl (dV 7) (vQ (dV 10)) vZ)))) (gV 11)) sNx) Mg)
def ZGU:DS:=(Ak (sAs (dOp Bw (dV 7) (dFn Bl (Ad (dFn Bl (Ad (dOp Fv (dV 8) (dC (.int 1))) (Ad (dC (.int 1)) (Ad (dC (.str "river")) Ag)))) Ag))) (gV 11)) Ls)
def ZHS:DS:=(Ak (sAs (dOp Be (dOp Dj (dV 4) (dC (.int 60))) (dFn N8 (Ad (dC (.int 1)) (Ad (dFn Dw (Ad (dV 7) Ag)) Ag)))) (gV 10)) ZGU)
def ZC1:DS:=(Ak (sIf (Ar (dOp Bk (dV 3) (dC (.int 3)))) (sRt (dOp Bw (dV 0) (dFn Bl (Ad (dFn Bl (Ad (dV 2) (Ad (dFn Bl Ag) Ag))) Ag)))) sNx) ZHS)
def Y9:DS:=(Ak (sIf (Ar (dOp Bk (dV 3) (dC (.int 2)))) (sRt (dOp Bw (Aw (dOp Bw (Aw (dSl (dV 0) vZ (vQ (dOp Bw (dV 5) (dC (.int 1)))))) (dFn Bl (Ad (dFn Bl (Ad (dV 6) (Ad (dV 7) Ag))) Ag)))) (Aw (dSl (dV 0) (vQ (dOp Bw (dV 5) (dC (.int 1)))) vZ)))) sNx) ZC1)
def Rt:DS:=(Ak (sIf (Dm (Ar (dOp Bk (dV 3) (dC (.int 2)))) (Dm (Ar (dOp Fj (dV 9) (dC (.int 1)))) (Ar (dOp Bk (dOp Be (dOp Dj (dV 4) (dC (.int 30))) (dC (.int 2))) (dC (.int 1)))))) (sRt (dOp Bw (dV 0) (dFn Bl (Ad (dFn Bl (Ad (dOp Bw (dC (.int 1)) (dOp Be (dOp Dj (dV 4) (dC (.int 60))) (dOp Fv (dV 9) (dC (.int 1))))) (Ad (dV 7) Ag))) Ag)))) sNx) Y9)
def R7:DS:=(Ak (sAs (dOp Ah (dOp Ah (dV 0) (dUn Gs (dC (.int 1)))) (dC (.int 0))) (gV 9)) Rt)
def Ow:DS:=(Ak (sIf (Ar (dOp Bk (dV 3) (dC (.int 1)))) (sRt (dOp Bw (dFn Bl (Ad (dFn Bl (Ad (dOp Fv (dC (.int 1)) (dOp Dl (dC (.int 2)) (dOp Be (dOp Dj (dV 4) (dC (.int 30))) (dC (.int 2))))) (Ad (dOp Ah (dOp Ah (dV 0) (dC (.int 0))) (dC (.int 1))) Ag))) Ag)) (Aw (dSl (dV 0) (vQ (dC (.int 1))) vZ)))) sNx) R7)
def Hr:DS:=(Ak (sIf (Ar (dOp Bk (dV 3) (dC (.int 0)))) (sRt (dFn Bl Ag)) sNx) Ow)
def W6:DS:=(Ak (sIf (Ar (dOp Fj (dFn Dw (Ad (dV 7) Ag)) (dC (.int 0)))) (sAs (dOp Bw (dOp Ah (dOp Ah (dV 7) (dUn Gs (dC (.int 1)))) (dC (.int 0))) (dOp Ah (dOp Ah (dV 7) (dUn Gs (dC (.int 1)))) (dC (.int 1)))) (gV 8)) sNx) Hr)
def ZHV:DS:=(Ak (sAs (dC (.int 0)) (gV 8)) W6)
def ZGC:DS:=(Ak (sAs (dOp Ah (dV 0) (dV 5)) (Eb 2 (Bu (gV 6) (Bu (gV 7) Ej)))) ZHV)
def ZHf:DS:=(Ak (sAs (dOp Be (dV 4) (dFn Dw (Ad (dV 0) Ag))) (gV 5)) ZGC)
def Um:DS:=(Ak (sIf (Ar (dOp Bk (dFn Dw (Ad (dV 0) Ag)) (dC (.int 0)))) (sRt (dV 0)) sNx) ZHf)
def Nz:List D->DH->R D:=Ce 5 10 Um
def Ul:DS:=(sRt (dFn Cj (Ad (dV 0) (Ad (dC (.int 4)) (Ad (dV 5) Ag)))))
def Rz:DS:=(Ak (sIf (Dm (Ar (dOp Bk (dOp Ah (dV 0) (dC (.int 0))) (dC (.str "town")))) (Ar (dOp Bk (dOp Be (dV 2) (dC (.int 2))) (dC (.int 1))))) (sRt (dFn Cj (Ad (dV 0) (Ad (dC (.int 5)) (Ad (dV 5) Ag))))) sNx) Ul)
def M4:DS:=(Ak (sIf (Dm (Ar (dOp Bk (dOp Ah (dV 0) (dC (.int 0))) (dC (.str "basin")))) (Dm (Ar (dOp Rc (dOp Ah (dV 0) (dC (.int 6))) (dC .non))) (Ar (dOp Bk (dOp Be (dV 2) (dC (.int 2))) (dC (.int 1)))))) (sRt (dFn Cj (Ad (dV 0) (Ad (dC (.int 6)) (Ad (Aw (dFn Cj (Ad (dOp Ah (dV 0) (dC (.int 6))) (Ad (dC (.int 2)) (Ad (dV 5) Ag))))) Ag))))) sNx) Rz)
def ZC0:DS:=(Ak (sIf (Ar (dOp Bk (dV 1) (dC (.int 5)))) (Ak (sAs (dOp Ah (Aw (dFn Ba (Ad (dC (.int 0)) (Ad (dC (.int 1)) (Ad (dC (.int 2)) (Ad (dC (.int 3)) (Ad (dC (.int 4)) (Ad (dC (.int 5)) (Ad (dC (.int 6)) (Ad (dC (.int 7)) (Ad (dC (.int 6)) (Ad (dC (.int 2)) (Ad (dC (.int 7)) (Ad (dC (.int 6)) Ag)))))))))))))) (dOp Be (dV 2) (dC (.int 12)))) (gV 6)) (sRt (dFn Cj (Ad (dV 0) (Ad (dC (.int 5)) (Ad (Aw (dFn Nz (Ad (dOp Ah (dV 0) (dC (.int 5))) (Ad (dOp Ah (dV 0) (dC (.int 6))) (Ad (dV 3) (Ad (dV 6) (Ad (dOp Dj (dV 2) (dC (.int 12))) Ag))))))) Ag)))))) sNx) M4)
def Tp:DS:=(Ak (sIf (Ar (dOp Bk (dV 1) (dC (.int 4)))) (sRt (dFn Cj (Ad (dV 0) (Ad (dC (.int 6)) (Ad (Aw (dFn Cj (Ad (dOp Ah (dV 0) (dC (.int 6))) (Ad (dC (.int 1)) (Ad (dOp Ah (Aw (dFn Ba (Ad (dC (.int 0)) (Ad (dC (.int 6)) (Ad (dUn Gs (dC (.int 1))) (Ad (dOp Hh (dC (.int 10)) (dC (.int 30))) Ag)))))) (dOp Fv (dOp Be (dV 2) (dC (.int 8))) (dC (.int 4)))) Ag))))) Ag))))) sNx) ZC0)
def Q9:DS:=(Ak (sIf (Dm (Ar (dOp Bk (dV 1) (dC (.int 4)))) (Ar (dOp Gq (dOp Be (dV 2) (dC (.int 8))) (dC (.int 4))))) (sRt (dFn Cj (Ad (dV 0) (Ad (dC (.int 6)) (Ad (Aw (dFn Cj (Ad (dOp Ah (dV 0) (dC (.int 6))) (Ad (dC (.int 0)) (Ad (dOp Ah (dV 4) (dOp Be (dV 2) (dC (.int 8)))) Ag))))) Ag))))) sNx) Tp)
def Nm:DS:=(Ak (sIf (Ar (dOp Bk (dV 1) (dC (.int 2)))) (sRt (dFn Cj (Ad (dV 0) (Ad (dC (.int 3)) (Ad (dOp Ah (Aw (dFn Ba (Ad (dUn Gs (dC (.int 1))) (Ad (dC (.int 6)) (Ad (dOp Hh (dC (.int 10)) (dC (.int 30))) Ag))))) (dOp Fv (dOp Be (dV 2) (dC (.int 8))) (dC (.int 5)))) Ag))))) sNx) Q9)
def J9:DS:=(Ak (sIf (Dm (Ar (dOp Bk (dV 1) (dC (.int 2)))) (Ar (dOp Gq (dOp Be (dV 2) (dC (.int 8))) (dC (.int 5))))) (sRt (dFn Cj (Ad (dV 0) (Ad (dC (.int 2)) (Ad (dOp Ah (dV 4) (dOp Be (dV 2) (dC (.int 8)))) Ag))))) sNx) Nm)
def Us:DS:=(Ak (sAs (dOp Ah (Aw (dFn Ba (Ad (dUn Gs (dC (.int 1))) (Ad (dOp Fv (dC (.int 0)) (dOp Hh (dC (.int 10)) (dC (.int 30)))) (Ad (dUn Gs (dC (.int 7))) Ag))))) (dOp Be (dOp Dj (dV 2) (dC (.int 8))) (dC (.int 3)))) (gV 5)) J9)
def Oo:List D->DH->R D:=Ce 5 2 Us
def ZAu:DS:=(sEx (Kw K6 (dV 4) (Ad (dV 6) Ag)))
def Y0:DS:=(Ak (sIf (Ar (dOp Bk (dV 5) (dV 1))) (sAs (Aw (dFn Cj (Ad (dV 6) (Ad (dC (.int 1)) (Ad (dV 2) Ag))))) (gV 6)) sNx) ZAu)
def ZBZ:DS:=(Ak (sIf (Dm (Ar (dOp Bk (dOp Ah (dV 6) (dC (.int 0))) (dC (.str "basin")))) (Dm (Ar (dOp Rc (dOp Ah (dV 6) (dC (.int 6))) (dC .non))) (Ar (dOp Bk (dOp Ah (dOp Ah (dV 6) (dC (.int 6))) (dC (.int 0))) (dV 3))))) (sAs (Aw (dFn Cj (Ad (dV 6) (Ad (dC (.int 6)) (Ad (Aw (dOp Bb (dFn Bl (Ad (dV 2) Ag)) (Aw (dSl (dOp Ah (dV 6) (dC (.int 6))) (vQ (dC (.int 1))) vZ)))) Ag))))) (gV 6)) sNx) Y0)
def ZFH:DS:=(Ak (sIf (Ar (dOp Bk (dOp Ah (dV 6) (dC (.int 2))) (dV 3))) (sAs (Aw (dFn Cj (Ad (dV 6) (Ad (dC (.int 2)) (Ad (dV 2) Ag))))) (gV 6)) sNx) ZBZ)
def Py:DS:=(Ak (sAs (dOp Ah (dV 0) (dV 5)) (gV 6)) ZFH)
def ZGc:DS:=(Ak (sAs (dOp Ah (dOp Ah (dV 0) (dV 1)) (dC (.int 1))) (gV 3)) (Ak (sAs (Jc (dFn Ba Ag)) (gV 4)) (Ak (Gj (Gk rng1 (Ad (dFn Dw (Ad (dV 0) Ag)) Ag)) (gV 5) Py) (sRt (dFn Kf (Ad (dV 4) Ag))))))
def Vk:List D->DH->R D:=Ce 3 4 ZGc
def U5:DS:=(sRt (dFn Bl (Ad (dV 4) (Ad (Aw (dFn Cj (Ad (dV 5) (Ad (dV 1) (Ad (Aw (dFn Oo (Ad (dOp Ah (dV 5) (dV 1)) (Ad (dV 2) (Ad (dV 3) (Ad (dV 4) (Ad (dV 7) Ag))))))) Ag))))) Ag))))
def R3:DS:=(Ak (sIf (Ar (dOp Bk (dV 2) (dC (.int 4)))) (sAs (dC (.str "sea")) (gIx (dV 7) (dC (.int 3)))) sNx) U5)
def Wy:DS:=(Ak (sIf (Dm (Ar (dOp Bk (dV 2) (dC (.int 2)))) (Ar (dOp Fj (dV 1) (dC (.int 0))))) (sAs (dOp Ah (dOp Ah (dV 5) (dOp Be (dOp Dj (dV 3) (dC (.int 8))) (dV 1))) (dC (.int 1))) (gIx (dV 7) (dC (.int 4)))) sNx) R3)
def ZEF:DS:=(Ak (sAs (Jc (dFn Ba (Ad (dV 6) (Ad (dC (.str "no one")) (Ad (dC (.str "")) (Ad (dC (.str "Sea")) (Ad (dV 6) Ag))))))) (gV 7)) Wy)
def ZFj:DS:=(Ak (sAs (dOp Ah (dOp Ah (dV 5) (dV 1)) (dC (.int 1))) (gV 6)) ZEF)
def ZBT:DS:=(Ak (sIf (Ar (dOp Bk (dV 2) (dC (.int 1)))) (sRt (dFn Bl (Ad (dV 4) (Ad (dFn Vk (Ad (dV 5) (Ad (dV 1) (Ad (Aw (dFn Ra (Ad (dV 5) (Ad (dV 1) (Ad (dV 3) Ag))))) Ag)))) Ag)))) sNx) ZFj)
def Tj:DS:=(Ak (sIf (Ar (dOp Bk (dV 2) (dC (.int 0)))) (sRt (dFn Bl (Ad (dV 4) (Ad (dOp Bb (dV 5) (dOp Tq (dFn Bl (Ad (dOp Ah (dV 5) (dC (.int 0))) Ag)) (dOp Fv (dC (.int 13)) (dFn Dw (Ad (dV 5) Ag))))) Ag)))) sNx) ZBT)
def Qm:DS:=(Ak (sIf (Dm (Ar (dOp Bk (dV 2) (dC (.int 0)))) (Ar (dOp Bk (dOp Be (dV 3) (dC (.int 4))) (dC (.int 2))))) (sRt (dFn Bl (Ad (dV 4) (Ad (dFn Bl Ag) Ag)))) sNx) Tj)
def Mm:DS:=(Ak (sIf (Dm (Ar (dOp Bk (dV 2) (dC (.int 0)))) (Ar (dOp Gq (dOp Be (dV 3) (dC (.int 4))) (dC (.int 2))))) (sRt (dFn Bl (Ad (dOp Ah (Aw (dFn Ba (Ad (dC (.int 0)) (Ad (dOp Bb (dC (.int 25)) (dOp Dl (dOp Be (dOp Dj (dV 3) (dC (.int 4))) (dC (.int 2))) (dOp Hh (dC (.int 10)) (dC (.int 30))))) Ag)))) (dOp Be (dV 3) (dC (.int 4)))) (Ad (dV 5) Ag)))) sNx) Qm)
def R5:DS:=(Ak (sAs (dV 0) (Eb 2 (Bu (gV 4) (Bu (gV 5) Ej)))) Mm)
def Nk:List D->DH->R D:=Ce 4 4 R5
def Pg:DE:=(dV 0)
def O7:DB:=(Ar (dOp Bk (dOp Ah (dOp Ah (dOp Ah (dV 1) (dC (.int 1))) (dV 0)) (dC (.int 0))) (dC (.str "basin"))))
def ZFN:DS:=(sRt (dOp Bk (dFn Ii (Ad (dV 1) Ag)) (dV 1)))
def ZHZ:DS:=(Ak (sIf (dOr (Ar (dOp Ga (dFn Ii (Ad (dV 1) Ag)) (dV 1))) (El (Ar (dFn Mx (Ad (dV 6) (Ad (dV 5) (Ad (dV 3) Ag))))))) (sRt (dC (.bl vX))) sNx) ZFN)
def Zi:DS:=(Ak (sAs (Aw (dFn Nk (Ad (dV 1) (Ad (dV 3) (Ad (dV 5) (Ad (dOp Ah (dV 2) (dC (.int 3))) Ag)))))) (gV 6)) ZHZ)
def ZAl:DS:=(Ak (sIf (Ar (dOp Bk (dOp Be (dOp Ah (dV 2) (dC (.int 2))) (dC (.int 9))) (dC (.int 0)))) (sAs (dC (.int 0)) (gV 5)) sNx) Zi)
def Rf:DS:=(Ak (sAs (Aw (dFn I8 (Ad (dOp Ah (dOp Ah (dV 1) (dC (.int 1))) (dV 3)) (Ad (dOp Ah (dV 2) (dC (.int 1))) Ag)))) (gV 5)) ZAl)
def Vd:DS:=(Ak (sIf (Dm (Ar (dOp Bk (dOp Be (dOp Ah (dV 2) (dC (.int 4))) (dC (.int 2))) (dC (.int 0)))) (Ar (dOp Fj (dFn Dw (Ad (dV 4) Ag)) (dC (.int 0))))) (sAs (dOp Ah (dV 4) (dOp Be (dOp Ah (dV 2) (dC (.int 0))) (dFn Dw (Ad (dV 4) Ag)))) (gV 3)) sNx) Rf)
def ZGa:DS:=(Ak (sAs (Aw (Ek (Gk rng1 (Ad (dFn Dw (Ad (dOp Ah (dV 1) (dC (.int 1))) Ag)) Ag)) 1 [1] (gV 0) O7 Pg)) (gV 4)) Vd)
def Qn:DS:=(Ak (sAs (dOp Be (dOp Ah (dV 2) (dC (.int 0))) (dFn Dw (Ad (dOp Ah (dV 1) (dC (.int 1))) Ag))) (gV 3)) ZGa)
def ZEn:DS:=(Ak (sAs (Aw (dFn Je (Ad (dFn Hz (Ad (dV 0) (Ad (dC (.int 15)) Ag))) (Ad (dC (.int 1)) (Ad (dC (.int 5)) Ag))))) (gV 2)) Qn)
def ZDb:DS:=(Ak (sAs (dFn O6 (Ad (dV 0) (Ad (dC (.int 0)) Ag))) (gV 1)) ZEn)
def Oe:List D->DH->R D:=Ce 1 6 ZDb
def Holds:Prop:=∀ns:List Int,ns.length<=63->(∀m∈ns,m.natAbs.log2<1048576)->∃G,Oe [.fl (ns.map D.int)] []=.ok (.bl vJ) G
end _W
namespace _W
open PySem _L _D
variable{G:DH}{ds:List D}{k a m i c j r:Nat}{x cell big yr:Int}{α:Type}{xs:List Int}{l l' w cs:List Nat}{lo hi:Option Int}{nm:List Str}{z old:Str}{q:Option (Str×Int×Int)}{d:D}
noncomputable def cellAt(ns:List Int)(k:Int):Int:=ns.getD k.toNat 0
theorem Q5{ns:List Int}{k:Int}(hk:0<=k):Hz [.fl (ns.map D.int),.int k] G=.ok (.int (cellAt ns k)) G:=by
 unfold Hz ZFW cellAt;rw[Br];by_cases h:k<ns.length
 ·simp[h];rw[Dq (d:=D.int (ns[k.toNat]'(by lia))) (k:=k.toNat) (by lia) (by rw[zv,zQ (by lia)];rfl)];simp[Bp,zQ (show k.toNat<ns.length by lia)]
 ·simp[h,Bp,zS (show ns.length<=k.toNat by lia)]
noncomputable def tab(n:Nat)(F:Nat->Int):List D:=(zy n).map λi=>D.int (F i)
theorem ZAc{A:DO}{L:DH}(h:bels (G.length+1) ds=vJ):freeze (G++[A]) (.ok (.ref (G.length+1)) (G++A:: .lst ds::L))=.ok (.fl ds) (G++[A]):=by have:=Cr (G:=G++[A]) (ds:=ds) (L:=L) (by simpa using h);simpa using this
theorem ZH1{A:DO}{L:DH}(h:bels (G.length+1) ds=vJ):tidy (G++[A]) (.ok (.ref (G.length+1)) (G++A:: .lst ds::L))=.ok (.ref (G.length+1)) (G++[A,.lst ds]):=by have:=Im (G:=G++[A]) (ds:=ds) (L:=L) (by simpa using h);simpa using this
theorem rp:¬(("pump":Str)="river"):=by decide
theorem pr:¬(("river":Str)="pump"):=by decide
structure Stp where
 h:Int
 m:Int
 r:Bool
variable{st:List Stp}
def wy(r:Bool):Str:=if r then "river" else "pump"
def Stp.enc(s:Stp):D:=.tup [.int s.h,.int s.m,.str (wy s.r)]
@[simp]theorem ZP0{n:Nat}:bels n (st.map Stp.enc)=vJ:=Hw λs _=>by simp[Stp.enc]
@[simp]theorem ZP2{r:Bool}:(wy r="pump")=(r=vX):=by
 cases r
 ·exact propext ⟨λh=>rfl,λ_=>rfl⟩
 ·exact propext ⟨λh=>absurd h pr,λh=>by cases h⟩
noncomputable abbrev Ssn:=Int×List Stp
def Am(s:Ssn):D:=.tup [.int s.1,.tup (s.2.map Stp.enc)]
@[simp]theorem Jb{n:Nat}{ss:List Ssn}:bels n (ss.map Am)=vJ:=Hw λs _=>by simp[Am]
inductive Kd where
 |basin (brim:Int) (rule:List Ssn) (pump:Option (Nat×Nat×Int))
 |town (need rank:Int)
 |mill (most:Int)
structure Pl where
 nm:Str
 dn:Option Nat
 dl:Nat
 kd:Kd
noncomputable def noPl:Pl:=⟨"",vZ,0,.mill 0⟩
structure Hs where
 yr:Int
 ps:List Pl
variable{h:Hs}
noncomputable def Kd.txt:Kd->Str
 |.basin ..=>"basin"
 |.town ..=>"town"
 |.mill ..=>"mill"
def Hs.pl(h:Hs)(k:Nat):Pl:=h.ps.getD k noPl
noncomputable def Hs.n(h:Hs):Nat:=h.ps.length
def Hs.dnT(h:Hs):Option Nat->Str
 |none=>"sea"
 |some d=>(h.pl d).nm
def Hs.V3(h:Hs):Option (Nat×Nat×Int)->D
 |none=>.non
 |some (to,dl,m)=>.tup [.str (h.pl to).nm,.int dl,.int m]
def Hs.encP(h:Hs)(p:Pl):D:=match p.kd with
 |.basin b r q=>.tup [.str "basin",.str p.nm,.str (h.dnT p.dn),.int p.dl,.int b,.tup (r.map Am),h.V3 q]
 |.town a b=>.tup [.str "town",.str p.nm,.str (h.dnT p.dn),.int p.dl,.int a,.int b]
 |.mill a=>.tup [.str "mill",.str p.nm,.str (h.dnT p.dn),.int p.dl,.int a]
def Hs.J7(h:Hs):List D:=h.ps.map h.encP
def Hs.enc(h:Hs):D:=.tup [.int h.yr,.tup h.J7]
def Good:Int->List Stp->Prop
 |_,[]=>True
 |t,s::r=>t<=s.h/\1<=s.m/\Good (s.h+s.m) r
structure GoodH (h:Hs):Prop where
 yr:0<h.yr
 len:h.n<=12
 inj:∀i j,i<h.n->j<h.n->(h.pl i).nm=(h.pl j).nm->i=j
 sea:∀i,i<h.n->(h.pl i).nm≠"sea"
 dn:∀k d,k<h.n->(h.pl k).dn=vQ d->k<d/\d<h.n
 dl:∀k,k<h.n->(h.pl k).dl<=5
 pump:∀k b r to dl m,k<h.n->(h.pl k).kd=.basin b r (vQ (to,dl,m))->to<h.n/\1<=dl/\dl<=5
 brim:∀k b r q,k<h.n->(h.pl k).kd=.basin b r q->0<=b/\∀s∈r,Good 0 s.2
 town:∀k a b,k<h.n->(h.pl k).kd=.town a b->0<=a/\0<=b
theorem Hs.ZHy:h.J7.length=h.n:=by simp[Hs.J7,Hs.n]
theorem Hs.ZND(hk:k<h.n):h.J7[k]?=vQ (h.encP (h.pl k)):=by unfold Hs.J7 Hs.pl;rw[zv,zQ hk];simp[zA,zQ hk]
theorem Hs.ZFY(hk:k<h.n):atI h.J7 (k:Int)=vQ (h.encP (h.pl k)):=Dq rfl (Hs.ZND hk)
theorem Hs.ZH5{n:Nat}{q:Option (Nat×Nat×Int)}:bel n (h.V3 q)=vJ:=by
 cases q with
 |none=>rfl
 |some x=>obtain⟨a,b,c⟩:=x;simp[Hs.V3]
@[simp]theorem Hs.ZL6{n:Nat}{p:Pl}:bel n (h.encP p)=vJ:=by
 unfold Hs.encP
 cases p.kd<;>simp[Hs.ZH5]
section
variable{h:Hs}{p:Pl}{G:DH}
@[simp]theorem encP0:Ah (h.encP p) (.int 0) G=.ok (.str p.kd.txt) G:=by
 unfold Hs.encP
 cases p.kd<;>simp[Kd.txt]
theorem Wv:Ah h.enc (.int 1) G=.ok (.tup h.J7) G:=by unfold Hs.enc;simp
end
def number(x cell:Int):Int:=if x%4=0 then 0 else if x%4=1/\2147483647<x then x/4%10^38 else if x%4=1 then cell*(x/4+2)%10^38 else x/4%40
theorem Ph(hx:0<=x):Jy [.int x,.int cell] G=.ok (.int (number x cell)) G:=by
 unfold Jy ZF2 number;rw[Br];by_cases h0:x%4=0
 ·simp[h0,Bp]
 by_cases h1:x%4=1
 ·by_cases h2:2147483647<x
  ·simp[h1,h2,Bp]
  ·simp[h1,h2];rw[W9 (by lia) (by lia)];simp[Bp]
 ·simp[h0,h1,Bp]
theorem Lx:0<=number x cell:=by
 unfold number;split
 ·lia
 split
 ·exact zI _ (by decide)
 split
 ·exact zI _ (by decide)
 ·lia
def strm:Nat->Int->Int->Int->List Int
 |0,_,_,_=>[]
 |n+1,j,num,left=>(if 0<left then left%10^42 else(num*num+48271*j+11)%2147483647)::strm n (j+1) ((num*num+48271*j+11)%2147483647) (left/10^42)
theorem ZGM:∀{n:Nat}{j num left:Int},(strm n j num left).length=n
 |0,_,_,_=>rfl
 |n+1,_,_,_=>by simp[strm,ZGM]
theorem ZD4:∀{n:Nat}{j num left:Int},∀x∈strm n j num left,0<=x
 |0,_,_,_,x,h=>by cases h
 | n+1,j,num,left,x,h=>by
  simp only[strm,zz]at h;rcases h with rfl|h
  ·split
   ·exact zI _ (by decide)
   ·exact zI _ (by decide)
  ·exact ZD4 x h
theorem ZHT{c k m:D}{G:DH}:∀{n:Nat}{j num left:Int}{acc:List Int}{e:Option D},0<=num->num<2147483647->0<=j->acc.length+n<=1000->∃a b d,Dp (gV 6) Vo (Cv j n) [vQ c,vQ k,vQ m,vQ (.int num),vQ (.int left),vQ (.ref G.length),e] (G++[.lst (acc.map D.int)])=
  .nx [vQ c,vQ k,vQ m,a,b,vQ (.ref G.length),d] (G++[.lst ((acc++strm n j num left).map D.int)])
 |0,j,num,left,acc,e,h1,h2,h3,h4=>⟨vQ (.int num),vQ (.int left),e,by rw[Ko,Ik];simp[strm]⟩
 | n+1,j,num,left,acc,e,h1,h2,h3,h4=>by
  obtain⟨a,b,d,ih⟩:=ZHT (c:=c) (k:=k) (m:=m) (G:=G) (n:=n) (j:=j+1) (num:=(num*num+48271*j+11)%2147483647) (left:=left/10^42) (acc:=acc++[if 0<left then left%10^42 else(num*num+48271*j+11)%2147483647]) (e:=vQ (.int j)) (zI _ (by decide)) (zL _ (by decide)) (by lia) (by simp;lia);refine⟨a,b,d,?_⟩;have hb:Vo [vQ c,vQ k,vQ m,vQ (.int num),vQ (.int left),vQ (.ref G.length),vQ (.int j)] (G++[.lst (acc.map D.int)])=
    .nx [vQ c,vQ k,vQ m,vQ (.int ((num*num+48271*j+11)%2147483647)),vQ (.int (left/10^42)),vQ (.ref G.length),vQ (.int j)] (G++[.lst ((acc++[if 0<left then left%10^42 else(num*num+48271*j+11)%2147483647]).map D.int)]):=by
   have hl:acc.length<1000000:=by lia
   unfold Vo
   by_cases hl0:0<left<;>simp[Lk (i:=num) (j:=num) (by lia) (by lia),Hl,Cr,hl0,hl,Jv]
  rw[Ir,H9];simp only[Hd,R.J0,jZ,hb,Jf,ih];simp[strm]
theorem Kr{xs:List α}(h:a<=xs.length):cutD xs vZ (vQ (a:Int))=xs.take a:=by
 have:=(Jq xs.length (a:Int)).1;have e:HT.sIx xs.length xs.length (vQ (a:Int))=a:=by lia
 unfold cutD;rw[e];simp[HT.sIx]
theorem Oh{xs:List α}(h:a<=xs.length):cutD xs (vQ (a:Int)) vZ=xs.drop a:=by
 have:=(Jq xs.length (a:Int)).2;have e:HT.sIx xs.length 0 (vQ (a:Int))=a:=by lia
 unfold cutD;rw[e];simp only[HT.sIx];exact List.take_of_length_le (by simp)
theorem ZBW{te:DE}{S:DSt}{n:Nat}{F:Nat->D}(h:∀k:Nat,k<n->te (S.set 0 (vQ (.int k))) G=.ok (F k) G):Cp (gV 0) De te S (Cv 0 n) G=.ok ((zy n).map F) G:=by
 have e:Cv 0 n=(zy n).map λ(i:Nat)=>D.int (i:Int):=by
  refine List.ext_getElem? λi=>?_
  simp[Cv]
 rw[Qu (F:=λd=>match d with | .int i=>vQ (F i.toNat)|_=>vZ) (λq hq=>?_)]
 ·congr 1
  rw[e,jJ];show(zy n).filterMap (λ(i:Nat)=>vQ (F ((i:Int).toNat)))=_;rw[List.filterMap_eq_map'];simp
 ·rw[e]at hq;obtain⟨i,hi,rfl⟩:=z8.mp hq;exact⟨S.set 0 (vQ (.int i)),by simp,.inr ⟨rfl,F i,h i (qD.mp hi),by simp⟩⟩
def Fw(cell k:Int)(n:Nat):List Int:=strm n 0 ((cell%999999937+2)*(7919*k*k+48271)%2147483647) (if cell<0∨10^18<=cell then max cell (-cell)else 0)
theorem ZB4{k:Int}{n:Nat}:(Fw cell k n).length=n:=ZGM
theorem ZFM{k:Int}{n:Nat}:∀x∈Fw cell k n,0<=x:=λx h=>ZD4 x h
theorem ZIS{k:Int}{n:Nat}(hk:0<=k/\k<100)(hn:n<=1000)(G:DH):Je [.int cell,.int k,.int n] G=.ok (.ref G.length) (G++[.lst ((Fw cell k n).map D.int)]):=by
 have hr:inR (n:Int):=Gz (by lia) (by lia);have h3:0<=7919*k*k:=Int.mul_nonneg (by lia) (by lia);have h2:7919*k*k<=791900*100:=Int.le_trans (Int.mul_le_mul_of_nonneg_right (c:=k) (by lia:7919*k<=791900) (by lia)) (Int.mul_le_mul_of_nonneg_left (by lia) (by lia));have hnum:(cell%999999937+2)*(7919*k*k+48271)%2147483647<2147483647:=zL _ (by decide)
 obtain⟨a,b,d,h⟩:=ZHT (c:=.int cell) (k:=.int k) (m:=.int n) (G:=G) (n:=n) (j:=0) (num:=(cell%999999937+2)*(7919*k*k+48271)%2147483647) (left:=if cell<0∨10^18<=cell then max cell (-cell)else 0) (acc:=[]) (e:=vZ) (zI _ (by decide)) hnum (by lia) (by simp;lia);unfold Fw Je ZEb;rw[Br];simp at h;simp[Lk (i:=7919*k) (j:=k) (by lia) (by lia),W9 (i:=cell%999999937+2) (j:=7919*k*k+48271) (by lia) (by lia),ZKr,ZOH,ZOD,ite_int,Im,hr,h]
theorem Hm:bels m (xs.map D.int)=vJ:=Hw λ_ _=>rfl
theorem Zo{k:Int}{n:Nat}(hk:0<=k/\k<100)(hn:n<=1000)(G:DH):freeze G (Je [.int cell,.int k,.int n] G)=.ok (.fl ((Fw cell k n).map D.int)) G:=by rw[ZIS hk hn];exact Cr Hm
noncomputable def gx(xs:List Int)(i:Nat):Int:=xs.getD i 0
theorem Dt(h:i<xs.length):atI (xs.map D.int) (i:Int)=vQ (.int (gx xs i)):=Dq rfl (by rw[zv,zQ h];simp[gx,zA,h])
theorem R9(hx:∀x∈xs,0<=x)(i:Nat):0<=gx xs i:=by
 unfold gx;rw[zA];by_cases h:i<xs.length
 ·rw[zQ h];exact hx _ (qH h)
 ·rw[zS (by lia)];exact jB _
theorem ZC8{b:Nat}(hab:a<=b)(hb:b<=xs.length):cutD (xs.map D.int) (vQ (a:Int)) (vQ (b:Int))=((xs.drop a).take (b-a)).map D.int:=by
 have h1:=(Jq (xs.map D.int).length (a:Int)).2;have h2:=(Jq (xs.map D.int).length (b:Int)).1;have l:(xs.map D.int).length=xs.length:=by simp
 have e1:HT.sIx (xs.map D.int).length 0 (vQ (a:Int))=a:=by lia
 have e2:HT.sIx (xs.map D.int).length (xs.map D.int).length (vQ (b:Int))=b:=by lia
 unfold cutD;rw[e1,e2,jW,jv]
def stF(xs:List Int)(big:Int)(p:Bool):Nat->Nat->Int->List Stp
 |0,_,_=>[]
 |n+1,j,top=>⟨top+number (gx xs (1+2*j)) big,1+number (gx xs (2+2*j)) big, !(p&&decide (gx xs (2+2*j)/160%2=0))⟩::stF xs big p n (j+1) (top+number (gx xs (1+2*j)) big+(1+number (gx xs (2+2*j)) big))
theorem ZFi{xs:List Int}{big:Int}{p:Bool}{G:DH}(hx:∀x∈xs,0<=x):∀(n j:Nat)(top:Int)(acc:List Stp)(a b d e:Option D),2*(j+n)<xs.length->acc.length+n<=1000->∃a' b' d' e' t',Dp (gV 5) Wx (Cv j n) [vQ (.fl (xs.map D.int)),vQ (.int big),vQ (.bl p),vQ (.ref G.length),vQ (.int top),a,b,d,e] (G++[.lst (acc.map Stp.enc)])=
  .nx [vQ (.fl (xs.map D.int)),vQ (.int big),vQ (.bl p),vQ (.ref G.length),t',a',b',d',e'] (G++[.lst ((acc++stF xs big p n j top).map Stp.enc)])
 |0,j,top,acc,a,b,d,e,h1,h2=>⟨a,b,d,e,vQ (.int top),by rw[Ko,Ik];simp[stF]⟩
 | n+1,j,top,acc,a,b,d,e,h1,h2=>by
  have x0:=R9 hx (1+2*j);have x1:=R9 hx (2+2*j);have a0:atI (xs.map D.int) (1+2*(j:Int))=vQ (.int (gx xs (1+2*j))):=by have:=Dt (xs:=xs) (i:=1+2*j) (by lia);rwa[show((1+2*j:Nat):Int)=1+2*(j:Int) by lia]at this
  have a1:atI (xs.map D.int) (2+2*(j:Int))=vQ (.int (gx xs (2+2*j))):=by have:=Dt (xs:=xs) (i:=2+2*j) (by lia);rwa[show((2+2*j:Nat):Int)=2+2*(j:Int) by lia]at this
  unfold stF;generalize gx xs (1+2*j)=u0 at*;generalize gx xs (2+2*j)=u1 at*;obtain⟨a',b',d',e',t',ih⟩:=ZFi (big:=big) (p:=p) (G:=G) hx n (j+1) (top+number u0 big+(1+number u1 big)) (acc++[⟨top+number u0 big,1+number u1 big, !(p&&decide (u1/160%2=0))⟩]) (vQ (.int j)) (vQ (.int (top+number u0 big))) (vQ (.int (1+number u1 big))) (vQ (.str (wy (!(p&&decide (u1/160%2=0)))))) (by lia) (by simp;lia)
  refine⟨a',b',d',e',t',?_⟩;have hb:Wx [vQ (.fl (xs.map D.int)),vQ (.int big),vQ (.bl p),vQ (.ref G.length),vQ (.int top),vQ (.int j),b,d,e] (G++[.lst (acc.map Stp.enc)])=
    .nx [vQ (.fl (xs.map D.int)),vQ (.int big),vQ (.bl p),vQ (.ref G.length),vQ (.int (top+number u0 big+(1+number u1 big))),vQ (.int j),vQ (.int (top+number u0 big)),vQ (.int (1+number u1 big)),vQ (.str (wy (!(p&&decide (u1/160%2=0)))))] (G++[.lst ((acc++[(⟨top+number u0 big,1+number u1 big, !(p&&decide (u1/160%2=0))⟩:Stp)]).map Stp.enc)]):=by
   have hl:acc.length<1000000:=by lia
   have m2:∀G,Dl (.int 2) (.int (j:Int)) G=.ok (.int (2*(j:Int))) G:=λG=>Lk (by lia) (by lia)
   unfold Wx;cases p with
   |false=>simp[m2,a0,a1,Ph x0,Ph x1,Hl,hl,Jv,Stp.enc,wy]
   |true=>by_cases hz:u1/160%2=0<;>simp[m2,a0,a1,Ph x0,Ph x1,Hl,hl,Jv,Stp.enc,wy,hz]
  rw[Ir,H9];simp only[Hd,R.J0,jZ,hb,Jf];have e1:((j:Int)+1)=((j+1:Nat):Int):=by lia
  rw[e1,ih];simp
theorem ZHm{p:Bool}(hx:∀x∈xs,0<=x)(hl:xs.length=7)(G:DH):Vn [.fl (xs.map D.int),.int big,.bl p] G=.ok (.tup ((stF xs big p (gx xs 0%4).toNat 0 0).map Stp.enc)) G:=by have a0:atI (xs.map D.int) 0=vQ (.int (gx xs 0)):=Dt (i:=0) (by lia);obtain⟨n,hn⟩:∃n:Nat,gx xs 0%4=n:=⟨(gx xs 0%4).toNat,by lia⟩;obtain⟨a,b,d,e,t,h⟩:=ZFi (big:=big) (p:=p) (G:=G) hx n 0 0 [] vZ vZ vZ vZ (by lia) (by simp;lia);rw[hn];unfold Vn ZHL;rw[Br];have hr:inR (n:Int):=Gz (by lia) (by lia);simp at h;simp[a0,hn,Im,hr,h,Hl,Nv]
def ruF(xs:List Int)(big yr:Int)(p:Bool):Nat->Nat->Int->List Ssn
 |0,_,_=>[]
 |m+1,j,b=>if j=0∨(0<gx xs j%3/\b<yr)then(b,stF ((xs.drop (3+7*j)).take 7) big p (gx ((xs.drop (3+7*j)).take 7) 0%4).toNat 0 0)::ruF xs big yr p m (j+1) (b+1+gx xs j/3%9)else ruF xs big yr p m (j+1) b
theorem ZBw{xs:List Int}{big yr:Int}{p:Bool}{G:DH}(hx:∀x∈xs,0<=x)(hl:xs.length=24):∀(m j:Nat)(b:Int)(acc:List Ssn)(x:Option D),j+m=3->acc.length+m<=1000->∃b' x',Dp (gV 6) Pb (Cv j m) [vQ (.fl (xs.map D.int)),vQ (.int big),vQ (.int yr),vQ (.bl p),vQ (.ref G.length),vQ (.int b),x] (G++[.lst (acc.map Am)])=
  .nx [vQ (.fl (xs.map D.int)),vQ (.int big),vQ (.int yr),vQ (.bl p),vQ (.ref G.length),b',x'] (G++[.lst ((acc++ruF xs big yr p m j b).map Am)])
 |0,j,b,acc,x,e,h2=>⟨vQ (.int b),x,by rw[Ko,Ik];simp[ruF]⟩
 | m + 1,j,b,acc,x,e,h2=>by
  have e1:((j:Int)+1)=((j+1:Nat):Int):=by lia
  have a0:atI (xs.map D.int) (j:Int)=vQ (.int (gx xs j)):=Dt (by lia);have m7:∀G,Dl (.int 7) (.int (j:Int)) G=.ok (.int (7*(j:Int))) G:=λG=>Lk (by lia) (by lia)
  have cu:cutD (xs.map D.int) (vQ (3+7*(j:Int))) (vQ (10+7*(j:Int)))=((xs.drop (3+7*j)).take 7).map D.int:=by have:=ZC8 (xs:=xs) (a:=3+7*j) (b:=10+7*j) (by lia) (by lia);rwa[show((3+7*j:Nat):Int)=3+7*(j:Int) by lia,show((10+7*j:Nat):Int)=10+7*(j:Int) by lia,show 10+7*j-(3+7*j)=7 by lia]at this
  have cs:=λG=>ZHm (xs:=(xs.drop (3+7*j)).take 7) (big:=big) (p:=p) (λx h=>hx x (qL (qX h))) (by simp;lia) G
  have hal:acc.length<1000000:=by lia
  unfold ruF;generalize((xs.drop (3+7*j)).take 7)=zs at*;generalize stF zs big p (gx zs 0%4).toNat 0 0=st at*;have fz:∀A:DO,freeze (G++[A]) (.ok (.ref (G.length+1)) (G++[A,.lst (zs.map D.int)]))=.ok (.fl (zs.map D.int)) (G++[A]):=λA=>ZAc Hm
  by_cases hc:j=0∨(0<gx xs j%3/\b<yr)
  ·rw [if_pos hc];obtain⟨b',x',ih⟩:=ZBw (big:=big) (yr:=yr) (p:=p) (G:=G) hx hl m (j+1) (b+1+gx xs j/3%9) (acc++[(b,st)]) (vQ (.int j)) (by lia) (by simp;lia);refine⟨b',x',?_⟩;have hb:Pb [vQ (.fl (xs.map D.int)),vQ (.int big),vQ (.int yr),vQ (.bl p),vQ (.ref G.length),vQ (.int b),vQ (.int j)] (G++[.lst (acc.map Am)])=
     .nx [vQ (.fl (xs.map D.int)),vQ (.int big),vQ (.int yr),vQ (.bl p),vQ (.ref G.length),vQ (.int (b+1+gx xs j/3%9)),vQ (.int j)] (G++[.lst ((acc++[(b,st)]).map Am)]):=by
    unfold Pb;rcases hc with h0|⟨h3,h4⟩
    ·have h0':(j:Int)=0:=by lia
     subst h0;simp at cu m7 a0;simp[m7,a0,cu,fz,cs,Hl,hal,Jv,Am]
    ·by_cases h0:j=0
     ·subst h0;simp at cu m7 a0;simp[m7,a0,cu,fz,cs,Hl,hal,Jv,Am]
     ·have h0':¬(j:Int)=0:=by lia
      simp[h0,h0',h3,h4,m7,a0,cu,fz,cs,Hl,hal,Jv,Am]
   rw[Ir,H9];simp only[Hd,R.J0,jZ,hb,Jf];rw[e1,ih];simp
  ·rw[if_neg hc];obtain⟨b',x',ih⟩:=ZBw (big:=big) (yr:=yr) (p:=p) (G:=G) hx hl m (j+1) b acc (vQ (.int j)) (by lia) (by lia);refine⟨b',x',?_⟩;have hb:Pb [vQ (.fl (xs.map D.int)),vQ (.int big),vQ (.int yr),vQ (.bl p),vQ (.ref G.length),vQ (.int b),vQ (.int j)] (G++[.lst (acc.map Am)])=
     .nx [vQ (.fl (xs.map D.int)),vQ (.int big),vQ (.int yr),vQ (.bl p),vQ (.ref G.length),vQ (.int b),vQ (.int j)] (G++[.lst (acc.map Am)]):=by
    have h0:¬j=0:=λz=>hc (.inl z)
    have h0':¬(j:Int)=0:=by lia
    unfold Pb;by_cases h3:0<gx xs j%3
    ·have h4:¬b<yr:=λz=>hc (.inr ⟨h3,z⟩)
     simp[h0,h0',a0,h3,h4]
    ·simp[h0,h0',a0,h3]
   rw[Ir,H9];simp only[Hd,R.J0,jZ,hb,Jf];rw[e1,ih]
theorem ZKI{p:Bool}(hx:∀x∈xs,0<=x)(hl:xs.length=24)(G:DH):Vm [.fl (xs.map D.int),.int big,.int yr,.bl p] G=.ok (.tup ((ruF xs big yr p 3 0 0).map Am)) G:=by obtain⟨b',x',h⟩:=ZBw (big:=big) (yr:=yr) (p:=p) (G:=G) hx hl 3 0 0 [] vZ (by lia) (by simp);have hr:inR 3:=Gz (by lia) (by lia);unfold Vm ZE4;rw[Br];simp at h;simp[Im,hr,h,Hl,Nv]
theorem ZNw{p:Bool}:∃s r,ruF xs big yr p 3 0 0=s::r:=by unfold ruF;rw[if_pos (.inl rfl)];exact⟨_,_,rfl⟩
noncomputable def pmps(st:List Stp):List Int:=(st.filter λs=> !s.r).map Stp.m
theorem ZLG{b:D}(hst:st.length<=1000)(G:DH):Tw [vQ b,vQ (.tup (st.map Stp.enc))] G=.ok (.int (pmps st).sum) G:=by
 have hc:Cp (Eb 3 (Bu (gV 0) (Bu (gV 1) (Bu (gV 2) Ej)))) U9 Xp [vZ,vZ,vZ] (st.map Stp.enc) G=.ok ((pmps st).map D.int) G:=by
  clear hst
  induction st with
  |nil=>rfl
  | cons s st ih=>
   have e0:Stp.enc s=.tup [.int s.h,.int s.m,.str (wy s.r)]:=rfl;have h1:U9 [vQ (.int s.h),vQ (.int s.m),vQ (.str (wy s.r))] G=.ok (!s.r) G:=by
    unfold U9
    cases s.r<;>simp
   have h2:Xp [vQ (.int s.h),vQ (.int s.m),vQ (.str (wy s.r))] G=.ok (.int s.m) G:=by unfold Xp;simp
   rw[zk,Jg,e0];cases hs:s.r
   ·rw[hs]at h1 h2;simp[h1,h2,ih,pmps,hs]
   ·rw[hs]at h1;simp[h1,ih,pmps,hs]
 have fz:freeze G (.ok (.ref G.length) (G++[.lst ((pmps st).map D.int)]))=.ok (.fl ((pmps st).map D.int)) G:=Cr Hm;have hcs:∀S:DSt,Bx 3 [] S=[vZ,vZ,vZ]:=λS=>rfl
 unfold Tw;have hl:(pmps st).length<=1000000:=by
  have:(pmps st).length<=st.length:=by unfold pmps;rw[zV];exact j3 _ _
  lia
 simp[hcs,hc,hl,fz]
theorem ZFp{p:Bool}:∀(n j:Nat)(top:Int),(stF xs big p n j top).length=n
 |0,j,top=>rfl
 |n+1,j,top=>by simp[stF,ZFp n]
theorem Uu{xs:List Int}{big yr:Int}{p:Bool}:∀(m j:Nat)(b:Int),(ruF xs big yr p m j b).length<=m/\∀s∈ruF xs big yr p m j b,s.2.length<=100
 |0,j,b=>⟨zx _,λs h=>by cases h⟩
 | m+1,j,b=>by
  unfold ruF;split
  ·have ih:=Uu (xs:=xs) (big:=big) (yr:=yr) (p:=p) m (j+1) (b+1+gx xs j/3%9);refine⟨by simp[ih.1],λs h=>?_⟩;rcases zz.mp h with rfl|h
   ·show(stF _ _ _ _ _ _).length<=100;rw[ZFp];lia
   ·exact ih.2 s h
  ·have ih:=Uu (xs:=xs) (big:=big) (yr:=yr) (p:=p) m (j+1) b;exact⟨by lia,ih.2⟩
theorem ZGn{te:DE}{E X Y F:α->D}(hE:∀a,E a=.tup [X a,Y a]):∀{l:List α},(∀a∈l,te [vQ (X a),vQ (Y a)] G=.ok (F a) G)->Cp (Eb 2 (Bu (gV 0) (Bu (gV 1) Ej))) De te [vZ,vZ] (l.map E) G=.ok (l.map F) G
 |[],_=>rfl
 |a::l,h=>by
  have ih:=ZGn hE (l:=l) λb hb=>h b (zq _ hb)
  rw[zk,Jg,hE];simp[h a (by simp),ih]
theorem ZHi:∀(l:List Int)(a:Int),a<=l.foldl max a/\∀x∈l,x<=l.foldl max a
 |[],a=>⟨jB _,λx h=>nomatch h⟩
 | y::l,a=>by
  obtain⟨h1,h2⟩:=ZHi l (max a y);refine⟨?_,λx hx=>?_⟩
  ·rw[jV];lia
  ·rw[jV];rcases zz.mp hx with rfl|hx
   ·lia
   ·exact h2 x hx
theorem ZKD{r:List Ssn}(hr:r.length<=1000)(h:∀s∈r,s.2.length<=1000)(hne:∃s r',r=s::r'):∃v:Int,(∀s∈r,(pmps s.2).sum<=v)/\∀G,Tt [.tup (r.map Am)] G=.ok (.int v) G:=by
 obtain⟨s,r',rfl⟩:=hne;refine⟨(r'.map λs=>(pmps s.2).sum).foldl max (pmps s.2).sum,λz hz=>?_,λG=>?_⟩
 ·obtain⟨h1,h2⟩:=ZHi (r'.map λs=>(pmps s.2).sum) (pmps s.2).sum;rcases zz.mp hz with rfl|hz
  ·exact h1
  ·exact h2 _ (z8.mpr ⟨z,hz,rfl⟩)
 have hc:Cp (Eb 2 (Bu (gV 0) (Bu (gV 1) Ej))) De Tw [vZ,vZ] ((s::r').map Am) G=.ok (((s::r').map λs=>(pmps s.2).sum).map D.int) G:=by rw[qy];exact ZGn (X:=λs:Ssn=>.int s.1) (Y:=λs:Ssn=>.tup (s.2.map Stp.enc)) (F:=D.int ∘ λs:Ssn=>(pmps s.2).sum) (λ_=>rfl) λa ha=>ZLG (h a ha) G
 have hl:((s::r').map λs=>(pmps s.2).sum).length<=1000000:=by rw[zV];lia
 have hm:Pa [.fl (((s::r').map λs=>(pmps s.2).sum).map D.int)] G=.ok (.int ((r'.map λs=>(pmps s.2).sum).foldl max (pmps s.2).sum)) G:=ZMO (by rw[zk];rfl);have fz:freeze G (.ok (.ref G.length) (G++[.lst (((s::r').map λs=>(pmps s.2).sum).map D.int)]))=.ok (.fl (((s::r').map λs=>(pmps s.2).sum).map D.int)) G:=Cr Hm;have hcs:∀S:DSt,Bx 2 [] S=[vZ,vZ]:=λS=>rfl
 generalize((s::r').map λs=>(pmps s.2).sum)=zs at*;generalize(s::r').map Am=rs at*;unfold Tt ZE7;rw[Br];simp[hcs,hc,hl,fz,hm,Bp]
theorem ZMC(hx:0<=x):∃v:Int,0<=v/\∀G,Rm [.int x] G=.ok (.int v) G:=by
 by_cases h:2147483647<x
 ·have m:=λG=>W9 (i:=x/2%100000000000000000000000000000000000000) (j:=x%2) (G:=G) (by lia) (by lia)
  exact⟨x/2%100000000000000000000000000000000000000*(x%2),Int.mul_nonneg (by lia) (by lia),λG=>by unfold Rm ZBg;rw[Br];simp[h,m,Bp]⟩
 ·have m:=λG=>W9 (i:=x%50) (j:=x/50%2) (G:=G) (by lia) (by lia)
  exact⟨x%50*(x/50%2),Int.mul_nonneg (by lia) (by lia),λG=>by unfold Rm ZBg;rw[Br];simp[h,m,Bp]⟩
noncomputable def An(l:List Nat):Str:=⟨l.toArray⟩
theorem ZN8:An l++An l'=An (l++l'):=by show Str.append _ _=_;unfold Str.append An;simp
noncomputable def Kz:List Nat:=("abcdefghijklmnopqrstuvwxyz":Str).cps.toList
theorem ZJn:∀i,i<26->Kz[i]?=vQ (97+i):=by decide +kernel
theorem ZK0:("abcdefghijklmnopqrstuvwxyz":Str).length<=1000000:=by decide +kernel
theorem Vq{i:Int}(h0:0<=i)(h1:i<26)(G:DH):Ah (.str ("abcdefghijklmnopqrstuvwxyz":Str)) (.int i) G=.ok (.str (An [97+i.toNat])) G:=by
 rw[Ln,if_pos ZK0]
 show(match atI Kz i with |some c=>R.ok (sgn c) G|none=>.bad)=_
 rw[Dq (k:=i.toNat) (by lia) (ZJn _ (by lia))]
 rfl
theorem add_str(h:l.length+l'.length<=1000000)(G:DH):Bb (.str (An l)) (.str (An l')) G=.ok (.str (An (l++l'))) G:=by
 have e:Bb (.str (An l)) (.str (An l')) G=if(An l).length+(An l').length<=1000000 then .ok (.str (An l++An l')) G else .bad:=rfl
 rw[e,if_pos (by show l.toArray.size+l'.toArray.size<=1000000;simpa using h),ZN8]
theorem Gg(h:l.length<=1000000)(G:DH):Kc (.str (An l)) lo hi G=.ok (.str (An (cutD l lo hi))) G:=by
 rw[J6,if_pos (by show l.toArray.size<=1000000;simpa using h)]
 rfl
theorem ZLn(h:(c::l).length<=1000000)(G:DH):Ah (.str (An (c::l))) (.int 0) G=.ok (.str (An [c])) G:=by
 rw[Ln,if_pos (by show(c::l).toArray.size<=1000000;simpa using h)]
 show(match atI (c::l) 0 with |some c=>R.ok (sgn c) G|none=>.bad)=_
 have h0:atI (c::l) (0:Int)=vQ c:=Dq (k:=0) rfl rfl;rw[h0]
 rfl
theorem Jo{x:Str}(G:DH):freeze G (.ok (.str x) G)=.ok (.str x) G:=Hj rfl
theorem G6{l:List Str}:bels m (l.map D.str)=vJ:=Hw λ_ _=>rfl
theorem pigeon[DecidableEq α]:∀(zs l:List α),zs.Nodup->l.length<zs.length->∃z,z∈zs/\z∉l
 |[],l,_,h=>by simp at h
 | z::zs,l,hn,h=>by
  by_cases hz:z∈l
  ·have hn':=jy.mp hn;have hl:(l.erase z).length=l.length-1:=List.length_erase_of_mem hz;have hp:0<l.length:=List.length_pos_of_mem hz;obtain⟨y,hy,hny⟩:=pigeon zs (l.erase z) hn'.2 (by simp only[qG]at h;lia);have hne:y≠z:=λe=>hn'.1 (e▸hy)
   exact⟨y,zq _ hy,λhm=>hny ((List.mem_erase_of_ne hne).mpr hm)⟩
  ·exact⟨z,by simp,hz⟩
def zsL:List Str:=Kz.map λc=>An [122,c]
theorem ZMN:zsL.Nodup:=by decide +kernel
theorem Oc:zsL.length=26:=by decide +kernel
theorem ZLM:∀z∈zsL,z≠"sea":=by decide +kernel
theorem Vb:∀l:List Str,Ku (l.map D.str)=vQ (l.map V.str)
 |[]=>rfl
 |a::l=>by
  rw[zk,Ku,Vb l]
  rfl
theorem Uk(x:Str):∀l:List Str,inV (.str x) (l.map V.str)=decide (x∈l)
 |[]=>by simp[inV]
 | a::l=>by
  show(eqV (.str a) (.str x)||inV (.str x) (l.map V.str))=_;rw[Uk x l];show((a==x)||decide (x∈l))=_;by_cases e:a=x
  ·subst e;simp
  ·have e2:¬x=a:=λz=>e z.symm
   simp[e,e2]
theorem ZMR{x:Str}{l:List Str}(h:G[i]?=vQ (.lst (l.map D.str))):Ro (.str x) (.ref i) G=.ok (.bl (!decide (x∈l))) G:=by
 have hs:Dr (.ref i) G=vQ (l.map D.str):=by simp[h]
 have key:inD (.str x) (.ref i) G=vQ (decide (x∈l)):=by
  show(match Dr (.ref i) G,Mr (.str x)with |some xs,vQ v=>(Ku xs).map λvs=>inV v vs|_,_=>vZ)=_
  rw[hs];show(Ku (l.map D.str)).map (λvs=>inV (.str x) vs)=_;rw[Vb];show vQ (inV _ _)=_;rw[Uk]
 unfold Ro;rw[key]
def wdF:Nat->Int->List Nat->List Nat
 |0,_,w=>w
 |m+1,rest,w=>wdF m (rest/26) (w++[97+(rest%26).toNat])
theorem ZDh:∀(m:Nat)(rest:Int)(w:List Nat),(wdF m rest w).length=w.length+m
 |0,_,_=>rfl
 |m+1,rest,w=>by unfold wdF;rw[ZDh m];simp;lia
theorem ZFe{s0 s2 s3 s7:Option D}{G:DH}:∀(m:Nat)(j rest:Int)(w:List Nat)(x:Option D),w.length+m<=1000->∃r y,Dp (gV 6) Y4 (Cv j m) [s0,vQ (.str ("abcdefghijklmnopqrstuvwxyz":Str)),s2,s3,vQ (.str (An w)),vQ (.int rest),x,s7] G=.nx [s0,vQ (.str ("abcdefghijklmnopqrstuvwxyz":Str)),s2,s3,vQ (.str (An (wdF m rest w))),r,y,s7] G
 |0,j,rest,w,x,h=>⟨vQ (.int rest),x,by rw[Ko,Ik];rfl⟩
 | m+1,j,rest,w,x,h=>by
  obtain⟨r,y,ih⟩:=ZFe (s0:=s0) (s2:=s2) (s3:=s3) (s7:=s7) (G:=G) m (j+1) (rest/26) (w++[97+(rest%26).toNat]) (vQ (.int j)) (by simp;lia);refine⟨r,y,?_⟩;have hb:Y4 [s0,vQ (.str ("abcdefghijklmnopqrstuvwxyz":Str)),s2,s3,vQ (.str (An w)),vQ (.int rest),vQ (.int j),s7] G=.nx [s0,vQ (.str ("abcdefghijklmnopqrstuvwxyz":Str)),s2,s3,vQ (.str (An (w++[97+(rest%26).toNat]))),vQ (.int (rest/26)),vQ (.int j),s7] G:=by
   have hi:=λG=>Vq (i:=rest%26) (by lia) (by lia) G
   have ha:=λG=>add_str (l:=w) (l':=[97+(rest%26).toNat]) (by simp;lia) G
   generalize An [97+(rest%26).toNat]=z at hi ha;generalize("abcdefghijklmnopqrstuvwxyz":Str)=AB at hi;unfold Y4;simp[-Ln,-K1,hi,ha]
  rw[Ir,H9];simp only[Hd,R.J0,jZ,hb,Jf];exact ih
theorem ZIq(G:DH):Cp (gV 0) De Wu [vZ] (Kz.map sgn) G=.ok (zsL.map D.str) G:=by
 unfold zsL;rw[qy];generalize Kz=l
 induction l with
 |nil=>rfl
 | cons c l ih=>
  have he:Wu [vQ (sgn c)] G=.ok (.str (An [122,c])) G:=by
   have ha:=add_str (l:=[122]) (l':=[c]) (by simp) G;have e1:An [122]=("z":Str):=by decide +kernel
   rw[e1]at ha;have e2:sgn c=.str (An [c]):=rfl;unfold Wu;rw[e2];simp[-K1,ha]
  rw[zk,Jg];simp[he,ih]
theorem ZFx{names:List Str}(hG:G[i]?=vQ (.lst (names.map D.str))):∀l:List Str,Cp (gV 0) Xm Tu [vZ,vQ (.ref i)] (l.map D.str) G=.ok ((l.filter λx=>decide (x∉names)&&decide (x≠"sea")).map D.str) G
 |[]=>rfl
 | a::l=>by
  have ih:=ZFx hG l;have h1:=ZMR (x:=a) hG;have ht:Xm [vQ (.str a),vQ (.ref i)] G=.ok (decide (a∉names)&&decide (a≠"sea")) G:=by
   unfold Xm;by_cases h:a∈names
   ·simp[h1,h]
   ·by_cases h2:a="sea"
    ·have h3:(a="sea")=True:=by simp[h2]
     simp[h1,h,h3]
    ·simp[h1,h,h2]
  have he:Tu [vQ (.str a),vQ (.ref i)] G=.ok (.str a) G:=by unfold Tu;simp
  rw[zk,Jg];simp only[Hd,R.ZBO,jZ,ht,he,ih];rw[j4]
  cases(decide (a∉names)&&decide (a≠"sea"))<;>simp
def LL(l:List Nat):Prop:=1<=l.length/\l.length<=8/\∀c∈l,97<=c/\c<123
def Wd(z:Str):Prop:=∃l:List Nat,z=An l/\LL l
theorem ZGH:∀(m:Nat)(rest:Int)(w:List Nat),(∀c∈w,97<=c/\c<123)->∀c∈wdF m rest w,97<=c/\c<123
 |0,_,_,h=>h
 | m+1,rest,w,h=>by
  unfold wdF;exact ZGH m _ _ λc hc=>by
   rcases zF.mp hc with hc|hc
   ·exact h c hc
   ·rw[qA.mp hc];lia
theorem ZKE:∀c∈Kz,97<=c/\c<123:=by decide +kernel
theorem ZJm:∀z∈zsL,Wd z:=λz hz=>by
 obtain⟨c,hc,rfl⟩:=z8.mp hz;refine⟨[122,c],rfl,by simp,by simp,λx hx=>?_⟩;rcases zz.mp hx with rfl|hx
 ·lia
 ·rw[qA.mp hx];exact ZKE c hc
theorem ZLQ{names:List Str}(hx:0<=x)(hl:names.length<26):∃nm:Str,(nm∉names/\nm≠"sea"/\Wd nm)/\∀(G:DH)(s0 x4 x5 x6 x7:Option D),∃y4 y5 y6 y7,
  Yb [s0,vQ (.str ("abcdefghijklmnopqrstuvwxyz":Str)),vQ (.ref G.length),vQ (.int x),x4,x5,x6,x7] (G++[.lst (names.map D.str)])=
   .nx [s0,vQ (.str ("abcdefghijklmnopqrstuvwxyz":Str)),vQ (.ref G.length),vQ (.int x),y4,y5,y6,y7] (G++[.lst ((names++[nm]).map D.str)]):=by
 obtain⟨m,hm⟩:∃m:Nat,1+x%8=m:=⟨(1+x%8).toNat,by lia⟩;have hm8:m<=8:=by lia
 obtain⟨w,ew⟩:∃w:Str,An (wdF m (x/8) [])=w:=⟨_,rfl⟩;obtain⟨z,hz,hzn⟩:=pigeon zsL names ZMN (by rw[Oc];exact hl);have hne:∃a r,((w::zsL).filter λx=>decide (x∉names)&&decide (x≠"sea"))=a::r:=by
  have:z∈((w::zsL).filter λx=>decide (x∉names)&&decide (x≠"sea")):=jk.mpr ⟨zq _ hz,by simp[hzn,ZLM z hz]⟩;cases e:((w::zsL).filter λx=>decide (x∉names)&&decide (x≠"sea"))with
  |nil=>rw[e]at this;cases this
  |cons a r=>exact⟨a,r,rfl⟩
 obtain⟨a,r,har⟩:=hne;have ha:a∉names/\a≠"sea"/\Wd a:=by
  have h1:a∈((w::zsL).filter λx=>decide (x∉names)&&decide (x≠"sea")):=by rw[har];exact zD
  have h2:a∉names/\a≠"sea":=by simpa using(jk.mp h1).2
  refine⟨h2.1,h2.2,?_⟩;rcases zz.mp (jk.mp h1).1 with h3|h3
  ·rw[h3,<-ew]
   refine⟨_,rfl,?_,?_,ZGH m _ [] (λc hc=>nomatch hc)⟩
   ·rw[ZDh];simp;lia
   ·rw[ZDh];simp;lia
  ·exact ZJm a h3
 refine⟨a,ha,λG s0 x4 x5 x6 x7=>?_⟩;obtain⟨r5,y6,hw⟩:=ZFe (s0:=s0) (s2:=vQ (.ref G.length)) (s3:=vQ (.int x)) (s7:=x7) (G:=G++[.lst (names.map D.str)]) m 0 (x/8) [] x6 (by simp;lia);refine⟨vQ (.str w),r5,y6,vQ (.fl ((w::zsL).map D.str)),?_⟩;have hz0:=λG=>ZIq G
 have hk:=ZFx (names:=names) (i:=G.length) (G:=G++[.lst (names.map D.str)]) (by rw[Hl];rfl) (w::zsL);rw[har]at hk;have hlow:Hk (.str ("abcdefghijklmnopqrstuvwxyz":Str)) (G++[DO.lst (names.map D.str)])=.ok (.pure (Kz.map sgn)) (G++[DO.lst (names.map D.str)]):=rfl;have hzl:(zsL.map D.str).length<=1000000:=by rw[zV,Oc];decide
 have hzl4:1+(zsL.map D.str).length<=1000000:=by rw[zV,Oc];decide
 have hzl2:zsL.length<=999999:=by rw[Oc];decide
 have hzl3:zsL.length<=1000000:=by rw[Oc];decide
 have e0:An []=("":Str):=by decide +kernel
 have fz1:∀ls:List Str,freeze (G++[.lst (names.map D.str)]) (.ok (.ref (G.length+1)) (G++[.lst (names.map D.str),.lst (ls.map D.str)]))=.ok (.fl (ls.map D.str)) (G++[.lst (names.map D.str)]):=λls=>ZAc G6
 have fza:=fz1 [w];have fzb:=fz1 zsL;have fzc:=fz1 (w::zsL);have fzd:=fz1 (a::r);have hrl:r.length<=1000000/\r.length<=999999:=by
  have h1:(a::r).length<=(w::zsL).length:=by rw[<-har];exact j3 _ _
  simp only[qG,Oc]at h1;lia
 have hnl:names.length<1000000:=by lia
 have hr:inR (m:Int):=Gz (by lia) (by lia);rw[e0,ew]at hw;have hcs1:∀S:DSt,Bx 1 [] S=[vZ]:=λS=>rfl
 have hcs2:∀(a b c d e f g h:Option D),Bx 1 [2] [a,b,c,d,e,f,g,h]=[vZ,c]:=λ_ _ _ _ _ _ _ _=>rfl
 simp only[zk,qT]at fza fzc fzd hk⊢;generalize zsL.map D.str=Z at*;generalize("abcdefghijklmnopqrstuvwxyz":Str)=AB at*;generalize Kz.map sgn=LS at*;unfold Yb;simp[-ZOk,hm,hr,hw,hlow,hcs1,hz0,fza,hzl,fzb,fzc,hcs2,hk,hrl,fzd,Hl,Jv,hnl,hzl4]
theorem ZH2{l:List Str}{a:Str}(h:l.Nodup)(ha:a∉l):(l++[a]).Nodup:=by rw[List.nodup_append];refine⟨h,by simp,λx hx y hy e=>?_⟩;rw[qA.mp hy]at e;exact ha (e▸hx)
theorem ZEH:∀(xs:List Int)(acc:List Str),(∀x∈xs,0<=x)->acc.length+xs.length<26->∃nm:List Str,nm.length=xs.length/\(acc.Nodup->(acc++nm).Nodup)/\(∀z∈nm,z≠"sea"/\Wd z)/\∀(G:DH)(s0 x3 x4 x5 x6 x7:Option D),∃y3 y4 y5 y6 y7,
  Dp (gV 3) Yb (xs.map D.int) [s0,vQ (.str ("abcdefghijklmnopqrstuvwxyz":Str)),vQ (.ref G.length),x3,x4,x5,x6,x7] (G++[.lst (acc.map D.str)])=
   .nx [s0,vQ (.str ("abcdefghijklmnopqrstuvwxyz":Str)),vQ (.ref G.length),y3,y4,y5,y6,y7] (G++[.lst ((acc++nm).map D.str)])
 |[],acc,_,_=>⟨[],rfl,(λh=>by rw[zU];exact h),(λz hz=>nomatch hz),λG s0 x3 x4 x5 x6 x7=>⟨x3,x4,x5,x6,x7,by rw[qT,Ik,zU]⟩⟩
 | x::xs,acc,hx,hl=>by
  simp only[qG]at hl;obtain⟨a,ha0,ha⟩:=ZLQ (names:=acc) (x:=x) (hx x (by simp)) (by lia);obtain⟨nm,hn,hd,hs,ih⟩:=ZEH xs (acc++[a]) (λy hy=>hx y (zq _ hy)) (by simp;lia);refine⟨a::nm,by simp[hn],λh=>?_,λz hz=>?_,λG s0 x3 x4 x5 x6 x7=>?_⟩
  ·have h1:=hd (ZH2 h ha0.1);rwa[qY]at h1
  ·rcases zz.mp hz with rfl|hz
   ·exact ha0.2
   ·exact hs z hz
  obtain⟨z4,z5,z6,z7,hb⟩:=ha G s0 x4 x5 x6 x7;obtain⟨y3,y4,y5,y6,y7,hL⟩:=ih G s0 (vQ (.int x)) z4 z5 z6 z7;refine⟨y3,y4,y5,y6,y7,?_⟩;rw[zk,H9];simp only[Hd,R.J0,jZ,hb,Jf];rw[hL,qY]
  rfl
theorem ZIY(hx:∀x∈xs,0<=x)(hl:xs.length<26):∃nm:List Str,nm.length=xs.length/\nm.Nodup/\(∀z∈nm,z≠"sea"/\Wd z)/\∀G,Ug [.fl (xs.map D.int)] G=.ok (.ref G.length) (G++[.lst (nm.map D.str)]):=by obtain⟨nm,hn,hd,hs,h⟩:=ZEH xs [] hx (by simpa using hl);refine⟨nm,hn,hd List.nodup_nil,hs,λG=>?_⟩;obtain⟨y3,y4,y5,y6,y7,hL⟩:=h G (vQ (.fl (xs.map D.int))) vZ vZ vZ vZ vZ;simp only[qT,jQ]at hL;have td:=Im (G:=G) (ds:=nm.map D.str) (L:=[]) G6;unfold Ug ZFy;rw[Br];generalize("abcdefghijklmnopqrstuvwxyz":Str)=AB at*;simp[Ba,Im,hL,td]
def nmS(l:List Nat):Str:=if An l="sea" then "seat" else An l
def nmF(xs:List Int)(w:List Nat)(sz a:Nat)(k:Nat):List Nat:=cutD w vZ (vQ (a:Int))++[97+((gx xs 10+5*(k:Int))%26).toNat]++cutD w (vQ (a:Int)) (vQ (sz:Int))
theorem ZGy(hxl:xs.length=24)(hw:w.length<=1000){sz a:Nat}{s0 s4 s5:Option D}{G:DH}:∀(m k:Nat)(acc:List Str)(x7 x8 x11:Option D),k+m<=12->acc.length+m<=1000->∃y7 y8 y11,
  Dp (gV 7) Rj (Cv k m) [s0,vQ (.str ("abcdefghijklmnopqrstuvwxyz":Str)),vQ (.fl (xs.map D.int)),vQ (.str (An w)),s4,s5,vQ (.ref G.length),x7,x8,vQ (.int sz),vQ (.int a),x11] (G++[.lst (acc.map D.str)])=
   .nx [s0,vQ (.str ("abcdefghijklmnopqrstuvwxyz":Str)),vQ (.fl (xs.map D.int)),vQ (.str (An w)),s4,s5,vQ (.ref G.length),y7,y8,vQ (.int sz),vQ (.int a),y11] (G++[.lst ((acc++(qz k m).map λk=>nmS (nmF xs w sz a k)).map D.str)])
 |0,k,acc,x7,x8,x11,e,h=>⟨x7,x8,x11,by rw[Ko,Ik];simp⟩
 | m+1,k,acc,x7,x8,x11,e,h=>by
  obtain⟨y7,y8,y11,ih⟩:=ZGy hxl hw (sz:=sz) (a:=a) (s0:=s0) (s4:=s4) (s5:=s5) (G:=G) m (k+1) (acc++[nmS (nmF xs w sz a k)]) (vQ (.int k)) (vQ (.str (nmS (nmF xs w sz a k)))) (vQ (.str (An [97+((gx xs 10+5*(k:Int))%26).toNat]))) (by lia) (by simp;lia);refine⟨y7,y8,y11,?_⟩;have a10:atI (xs.map D.int) 10=vQ (.int (gx xs 10)):=Dt (i:=10) (by lia);have m5:∀G,Dl (.int 5) (.int (k:Int)) G=.ok (.int (5*(k:Int))) G:=λG=>Lk (by lia) (by lia)
  have hi:=λG=>Vq (i:=(gx xs 10+5*(k:Int))%26) (by lia) (by lia) G
  have l1:=Ka w vZ (vQ (a:Int));have l2:=Ka w (vQ (a:Int)) (vQ (sz:Int));have h1:=λG=>Gg (l:=w) (lo:=vZ) (hi:=vQ (a:Int)) (by lia) G
  have h2:=λG=>Gg (l:=w) (lo:=vQ (a:Int)) (hi:=vQ (sz:Int)) (by lia) G
  have h3:=λG=>add_str (l:=cutD w vZ (vQ (a:Int))) (l':=[97+((gx xs 10+5*(k:Int))%26).toNat]) (by simp;lia) G
  have h4:=λG=>add_str (l:=cutD w vZ (vQ (a:Int))++[97+((gx xs 10+5*(k:Int))%26).toNat]) (l':=cutD w (vQ (a:Int)) (vQ (sz:Int))) (by simp;lia) G
  have hb:Rj [s0,vQ (.str ("abcdefghijklmnopqrstuvwxyz":Str)),vQ (.fl (xs.map D.int)),vQ (.str (An w)),s4,s5,vQ (.ref G.length),vQ (.int k),x8,vQ (.int sz),vQ (.int a),x11] (G++[.lst (acc.map D.str)])=
    .nx [s0,vQ (.str ("abcdefghijklmnopqrstuvwxyz":Str)),vQ (.fl (xs.map D.int)),vQ (.str (An w)),s4,s5,vQ (.ref G.length),vQ (.int k),vQ (.str (nmS (nmF xs w sz a k))),vQ (.int sz),vQ (.int a),vQ (.str (An [97+((gx xs 10+5*(k:Int))%26).toNat]))] (G++[.lst ((acc++[nmS (nmF xs w sz a k)]).map D.str)]):=by
   have hal:acc.length<1000000:=by lia
   unfold nmF nmS;generalize An (cutD w vZ (vQ (a:Int))++[97+((gx xs 10+5*(k:Int))%26).toNat]++cutD w (vQ (a:Int)) (vQ (sz:Int)))=nm at*;generalize An (cutD w vZ (vQ (a:Int))++[97+((gx xs 10+5*(k:Int))%26).toNat])=nm1 at*;generalize An (cutD w vZ (vQ (a:Int)))=nm2 at*;generalize An [97+((gx xs 10+5*(k:Int))%26).toNat]=nm3 at*;generalize An (cutD w (vQ (a:Int)) (vQ (sz:Int)))=nm4 at*
   generalize An w=W at*;generalize("abcdefghijklmnopqrstuvwxyz":Str)=AB at*;unfold Rj;by_cases hs:nm="sea"
   ·have hs':(nm="sea")=True:=by simp[hs]
    simp[-Ln,-K1,-J6,a10,m5,hi,h1,h2,h3,h4,Jo,Hl,Jv,hal,hs']
   ·simp[-Ln,-K1,-J6,a10,m5,hi,h1,h2,h3,h4,Jo,Hl,Jv,hal,hs]
  rw[Ir,H9];simp only[Hd,R.J0,jZ,hb,Jf];have e1:((k:Int)+1)=((k+1:Nat):Int):=by lia
  rw[e1,ih,List.range'_succ,zk,qY]
  rfl
noncomputable def wd0(xs:List Int):List Nat:=(xs.take 8).map λx=>97+(x%26).toNat
theorem ZJz(l:List Int)(G:DH):Cp (gV 0) De Ub [vZ,vQ (.str ("abcdefghijklmnopqrstuvwxyz":Str))] (l.map D.int) G=.ok ((l.map λx=>97+(x%26).toNat).map sgn) G:=by
 induction l with
 |nil=>rfl
 |cons x l ih=>
  have hi:=Vq (i:=x%26) (by lia) (by lia) G;have he:Ub [vQ (.int x),vQ (.str ("abcdefghijklmnopqrstuvwxyz":Str))] G=.ok (sgn (97+(x%26).toNat)) G:=by have e2:sgn (97+(x%26).toNat)=.str (An [97+(x%26).toNat]):=rfl;rw[e2];generalize("abcdefghijklmnopqrstuvwxyz":Str)=AB at*;unfold Ub;simp[-Ln,hi]
  rw[zk,Jg];simp[-Ln,he,ih]
theorem ZMQ(h:cs.length<=1000)(G:DH):Ot (.str ("":Str)) [.fl (cs.map sgn)] G=.ok (.str (An cs)) G:=by
 have h1:=ZH6 (sep:=("":Str)) (ys:=cs.map λc=>(⟨#[c]⟩:Str)) (G:=G) (by
  have e:("":Str).length=0:=by decide +kernel
  rw[e]
  have:∀l:List Nat,((l.map λc=>(⟨#[c]⟩:Str)).map (·.length)).sum=l.length:=λl=>by
   induction l with
   |nil=>rfl
   |cons a l ih=>
    simp only[zk,List.sum_cons,ih,qG];show 1+l.length=_;lia
  rw[this];lia)
 rw[ZL5,qy]at h1;exact h1
theorem addR{p:Nat}{xs ys:List D}(h:G[p]?=vQ (.lst xs))(hl:xs.length+ys.length<=1000000):Bb (.ref p) (.fl ys) G=.ok (.ref G.length) (G++[.lst (xs++ys)]):=by simp[Bb,Jd,h,hl]
theorem slR{p:Nat}{xs:List D}(h:G[p]?=vQ (.lst xs)):Kc (.ref p) lo hi G=.ok (.ref G.length) (G++[.lst (cutD xs lo hi)]):=by simp[Kc,Jd,h]
def sea2(x:Str):Str:=if x="sea" then "sa" else x
structure NmOk (nm:List Str):Prop where
 nd:nm.Nodup
 sea:∀z∈nm,z≠"sea"
 wd:∀z∈nm,Wd z
theorem Hx(h:An l=An l'):l=l':=by have h1:l.toArray=l'.toArray:=congrArg Str.cps h;simpa using h1
theorem O8:("sea":Str)=An [115,101,97]:=by decide +kernel
theorem ZBi:("sa":Str)=An [115,97]:=by decide +kernel
theorem Yi:("seat":Str)=An [115,101,97,116]:=by decide +kernel
theorem ZHx(h:sea2 (An l)=sea2 (An l'))(hp:∀a b,l=[115,a,b]->l'≠[115,97]∨a=97)(hp':∀a b,l'=[115,a,b]->l≠[115,97]∨a=97):l=l':=by
 unfold sea2 at h;split at h
 ·rename_i h1;rw[O8]at h1;have e:=Hx h1;split at h
  ·rename_i h2;rw[O8]at h2;rw[e,Hx h2]
  ·rw[ZBi]at h;have e2:=Hx h;rcases hp _ _ e with z|z
   ·exact absurd e2.symm z
   ·cases z
 ·split at h
  ·rename_i h2;rw[O8]at h2;have e:=Hx h2;rw[ZBi]at h;have e2:=Hx h;rcases hp' _ _ e with z|z
   ·exact absurd e2 z
   ·cases z
  ·exact Hx h
theorem ZM7(x:Str):sea2 x≠"sea":=by
 unfold sea2;split
 ·decide +kernel
 ·assumption
theorem ZMy(h:NmOk nm)(r:Nat):NmOk (nm.drop r++nm.take r):=by
 have p:List.Perm (nm.drop r++nm.take r) nm:=by have:=List.perm_append_comm (l₁:=nm.drop r) (l₂:=nm.take r);rwa[jY]at this
 exact⟨p.nodup_iff.mpr h.nd,λz hz=>h.sea z (p.mem_iff.mp hz),λz hz=>h.wd z (p.mem_iff.mp hz)⟩
theorem ZEW{l:List α}(h:∀i j(hi:i<l.length)(hj:j<l.length),l[i]=l[j]->i=j):l.Nodup:=by rw[List.nodup_iff_pairwise_ne,List.pairwise_iff_getElem];intro i j hi hj hij e;have:=h i j hi hj e;lia
theorem ZLm{l:List α}(h:l.Nodup)(hi:i<l.length)(hj:j<l.length)(e:l[i]=l[j]):i=j:=by
 rw[List.nodup_iff_pairwise_ne,List.pairwise_iff_getElem]at h;rcases Nat.lt_trichotomy i j with z|z|z
 ·exact absurd e (h i j hi hj z)
 ·exact z
 ·exact absurd e.symm (h j i hj hi z)
theorem ZB3{x:Nat}{r:List Nat}:∀{m:Nat},(x::w).take m=a::r->x=a
 |0,h=>by cases h
 |m+1,h=>by rw[List.take_succ_cons]at h;exact(List.cons.inj h).1
theorem ZGJ(h:LL l):Wd (sea2 (An l)):=by
 unfold sea2;split
 ·exact⟨[115,97],ZBi,by simp,by simp,by decide⟩
 ·exact⟨l,rfl,h⟩
theorem ZLH(h:LL l):Wd (nmS l):=by
 unfold nmS;split
 ·exact⟨[115,101,97,116],Yi,by simp,by simp,by decide⟩
 ·exact⟨l,rfl,h⟩
theorem ZFT(hc:97<=c/\c<123)(hw:∀x∈w,97<=x/\x<123)(hk:k<8):LL ((c::w).take (k+1)):=by
 refine⟨?_,?_,λx hx=>?_⟩
 ·rw[qB,qG];lia
 ·rw[qB];lia
 ·rcases zz.mp (qX hx)with rfl|hx
  ·exact hc
  ·exact hw x hx
theorem ZKU{d:Nat}(hw:w.length=7)(hcd:c≠d)(hc':97<=c/\c<123)(hd':97<=d/\d<123)(hww:∀x∈w,97<=x/\x<123):NmOk ((((zy 8).map λk=>An ((c::w).take (k+1)))++(zy 4).map λk=>An ((d::w).take (k+1))).map sea2):=by
 refine⟨ZEW λi j hi hj e=>?_,λz hz=>?_,λz hz=>?_⟩
 ·clear hc' hd' hww;simp only[zV,qj,List.length_range]at hi hj;have g:∀i(h:i<((((zy 8).map λk=>An ((c::w).take (k+1)))++(zy 4).map λk=>An ((d::w).take (k+1))).map sea2).length),
    ((((zy 8).map λk=>An ((c::w).take (k+1)))++(zy 4).map λk=>An ((d::w).take (k+1))).map sea2)[i]=sea2 (An (if i<8 then c::w.take i else d::w.take (i-8))):=λi h=>by
   rw[List.getElem_map];by_cases h8:i<8
   ·rw[List.getElem_append_left (by simpa using h8),if_pos h8];simp
   ·rw[List.getElem_append_right (by simp;lia),if_neg h8];simp
  rw[g,g]at e;have key:=ZHx e ?_ ?_
  ·split at key<;>split at key
   ·have:=congrArg List.length (List.cons.inj key).2;simp at this;lia
   ·exact absurd (List.cons.inj key).1 hcd
   ·exact absurd (List.cons.inj key).1.symm hcd
   ·have:=congrArg List.length (List.cons.inj key).2;simp at this;lia
  all_goals
   intro a b h1;cases w with
   |nil=>cases hw
   | cons x w=>
    refine Classical.or_iff_not_imp_right.mpr λha h2=>?_
    have key:∀p q:Nat,(if p<8 then c::(x::w).take p else d::(x::w).take (p-8))=[115,a,b]->(if q<8 then c::(x::w).take q else d::(x::w).take (q-8))=[115,97]->False:=λp q z1 z2=>by
     have t1:∀m r,(x::w).take m=a::r->x=a:=λm r z=>ZB3 z
     split at z1<;>split at z2<;>exact ha ((ZB3 (List.cons.inj z1).2).symm.trans (ZB3 (List.cons.inj z2).2))
    exact key _ _ h1 h2
 ·obtain⟨x,_,rfl⟩:=z8.mp hz;exact ZM7 x
 ·obtain⟨x,hx,rfl⟩:=z8.mp hz;rcases zF.mp hx with hx|hx
  ·obtain⟨k,hk,rfl⟩:=z8.mp hx;have:=qD.mp hk;exact ZGJ (ZFT hc' hww this)
  ·obtain⟨k,hk,rfl⟩:=z8.mp hx;have:=qD.mp hk;exact ZGJ (ZFT hd' hww (by lia))
theorem ZID(hl:l.length=l'.length)(h:nmS l=nmS l'):l=l':=by
 unfold nmS at h;split at h
 ·rename_i h1;rw[O8]at h1;have e:=Hx h1;split at h
  ·rename_i h2;rw[O8]at h2;rw[e,Hx h2]
  ·rw[Yi]at h;rw[e,<-Hx h]at hl;cases hl
 ·split at h
  ·rename_i h2;rw[O8]at h2;rw[Yi]at h;rw[Hx h2,Hx h]at hl;cases hl
  ·exact Hx h
theorem ZLv(l:List Nat):nmS l≠"sea":=by
 unfold nmS;split
 ·decide +kernel
 ·assumption
theorem ZMb{X Y:List Nat}{g:Int}(hl:X.length+Y.length<=7)(hX:∀x∈X,97<=x/\x<123)(hY:∀x∈Y,97<=x/\x<123):NmOk ((qz 0 12).map λk:Nat=>nmS (X++[97+((g+5*(k:Int))%26).toNat]++Y)):=by
 refine⟨ZEW λi j hi hj e=>?_,λz hz=>?_,λz hz=>?_⟩
 ·clear hl hX hY;simp only[zV,List.length_range']at hi hj;simp only[List.getElem_map,List.getElem_range',Nat.zero_add,Nat.one_mul]at e;have e1:=ZID (by simp) e;have e2:=List.append_cancel_right e1;have e3:=List.append_cancel_left e2;have e4:97+((g+5*(i:Int))%26).toNat=97+((g+5*(j:Int))%26).toNat:=(List.cons.inj e3).1;omega +splitNatSub
 ·obtain⟨x,_,rfl⟩:=z8.mp hz;exact ZLv _
 ·obtain⟨x,_,rfl⟩:=z8.mp hz;refine ZLH ⟨by simp;lia,by simp;lia,λy hy=>?_⟩;rcases zF.mp hy with hy|hy
  ·rcases zF.mp hy with hy|hy
   ·exact hX y hy
   ·rw[qA.mp hy];lia
  ·exact hY y hy
theorem ZJ7:∀i,i<26->Txt.find ("abcdefghijklmnopqrstuvwxyz":Str) (An [97+i])=(i:Int):=by decide +kernel
theorem ZNC{p:Nat}{l:List Str}(h:G[p]?=vQ (.lst (l.map D.str))):Gm p (gV 0) De Wt [vZ] l.length 0 G=.ok ((l.map sea2).map D.str) G:=by
 have h1:=ZLS (g:=gV 0) (c:=De) (te:=Wt) (S:=[vZ]) (F:=λd=>match d with
  |.str x=>vQ (.str (sea2 x))
  | _=>vZ) h (λx hx=>by
   obtain⟨y,_,rfl⟩:=z8.mp hx;refine⟨[vQ (.str y)],rfl,.inr ⟨rfl,.str (sea2 y),?_,rfl⟩⟩;have fz:freeze G (.ok (.ref G.length) (G++[.lst [.str y,.str "sa"]]))=.ok (.fl [.str y,.str "sa"]) G:=Cr rfl;unfold Wt sea2;by_cases hs:y="sea"
   ·have hs':(y="sea")=True:=by simp[hs]
    simp[fz,hs']
   ·simp[fz,hs])
 rw[zV]at h1;rw[h1,jJ,qy]
 congr 1
 show List.filterMap (λx=>vQ ((D.str∘sea2) x)) l=_;rw[List.filterMap_eq_map']
theorem ZLR(hw:w.length<=1000)(n:Nat)(G:DH):Cp (gV 0) De Ux [vZ,vQ (.str (An w))] (Cv 0 n) G=.ok (((zy n).map λk:Nat=>An (cutD w vZ (vQ ((k:Int)+1)))).map D.str) G:=by
 rw[qy];exact ZBW (te:=Ux) (S:=[vZ,vQ (.str (An w))]) λk _=>by have h:=Gg (l:=w) (lo:=vZ) (hi:=vQ ((k:Int)+1)) (by lia) G;unfold Ux;simp[-J6,h,Jo]
theorem ZIz(hw:w.length<=1000)(n:Nat)(G:DH):Cp (gV 0) De Vs [vZ,vQ (.str (An w))] (Cv 0 n) G=.ok (((zy n).map λk:Nat=>An (cutD w vZ (vQ ((k:Int)+1)))).map D.str) G:=by
 rw[qy];exact ZBW (te:=Vs) (S:=[vZ,vQ (.str (An w))]) λk _=>by have h:=Gg (l:=w) (lo:=vZ) (hi:=vQ ((k:Int)+1)) (by lia) G;unfold Vs;simp[-J6,h,Jo]
theorem V8{xs:List α}{x:α}(h:x∈cutD xs lo hi):x∈xs:=by unfold cutD at h;exact qL (qX h)
theorem ZLq{xs:List α}{b:Nat}(hab:a<=b)(hb:b<=xs.length):cutD xs (vQ (a:Int)) (vQ (b:Int))=(xs.drop a).take (b-a):=by
 have h1:=(Jq xs.length (a:Int)).2;have h2:=(Jq xs.length (b:Int)).1;have e1:HT.sIx xs.length 0 (vQ (a:Int))=a:=by lia
 have e2:HT.sIx xs.length xs.length (vQ (b:Int))=b:=by lia
 unfold cutD;rw[e1,e2]
theorem ZO0(hxl:xs.length=24)(hx:∀x∈xs,0<=x)(hw8:w.length=7)(hc:97<=c/\c<123)(hww:∀x∈w,97<=x/\x<123):∃nm:List Str,nm.length=12/\NmOk nm/\∀(G:DH)(s0:Option D),∃k L,
  R6 [s0,vQ (.str ("abcdefghijklmnopqrstuvwxyz":Str)),vQ (.fl (xs.map D.int)),vQ (.str (An (c::w))),vZ,vZ,vZ,vZ,vZ,vZ,vZ,vZ] G=.rt (.ref (G.length+k)) (G++L)/\L[k]?=vQ (.lst (nm.map D.str)):=by
 have hw:(c::w).length<=100:=by simp[hw8]
 have a8:atI (xs.map D.int) 8=vQ (.int (gx xs 8)):=Dt (i:=8) (by lia);have a9:atI (xs.map D.int) 9=vQ (.int (gx xs 9)):=Dt (i:=9) (by lia);have a10:atI (xs.map D.int) 10=vQ (.int (gx xs 10)):=Dt (i:=10) (by lia);by_cases h8:gx xs 8%3=0
 ·obtain⟨t,et⟩:∃t:Int,(Txt.find ("abcdefghijklmnopqrstuvwxyz":Str) (An [c])+1+gx xs 9%25)%26=t:=⟨_,rfl⟩;have ht:0<=t/\t<26:=by lia
  let o:List Nat:=[97+t.toNat]++cutD (c::w) (vQ 1) vZ;obtain⟨r,hr⟩:∃r:Nat,gx xs 10%12=r:=⟨(gx xs 10%12).toNat,by lia⟩;have hr12:r<12:=by lia
  obtain⟨A,hA⟩:∃A:List Str,((zy 8).map λk:Nat=>An (cutD (c::w) vZ (vQ ((k:Int)+1))))=A:=⟨_,rfl⟩;obtain⟨B,hB⟩:∃B:List Str,((zy 4).map λk:Nat=>An (cutD o vZ (vQ ((k:Int)+1))))=B:=⟨_,rfl⟩;have lA:A.length=8:=by rw[<-hA];simp
  have lB:B.length=4:=by rw[<-hB];simp
  have eA:A=(zy 8).map λk=>An ((c::w).take (k+1)):=by
   rw[<-hA];refine jx λk hk=>?_
   have hk':=qD.mp hk;have e:(k:Int)+1=((k+1:Nat):Int):=by lia
   rw[e,Kr (by simp[hw8];lia)]
  have eo:o=(97+t.toNat)::w:=by
   show[97+t.toNat]++cutD (c::w) (vQ 1) vZ=_;have e:cutD (c::w) (vQ ((1:Nat):Int)) vZ=(c::w).drop 1:=Oh (by simp);have e':cutD (c::w) (vQ 1) vZ=w:=e;rw[e']
   rfl
  have eB:B=(zy 4).map λk=>An (((97+t.toNat)::w).take (k+1)):=by
   rw[<-hB,eo];refine jx λk hk=>?_
   have hk':=qD.mp hk;have e:(k:Int)+1=((k+1:Nat):Int):=by lia
   rw[e,Kr (by simp[hw8];lia)]
  have hcd:c≠97+t.toNat:=by have hf:=ZJ7 (c-97) (by lia);rw[show 97+(c-97)=c by lia]at hf;rw[hf]at et;lia
  have hok:NmOk (((A++B).map sea2).drop r++((A++B).map sea2).take r):=ZMy (by rw[eA,eB];exact ZKU hw8 hcd hc (by lia) hww) r;refine⟨((A++B).map sea2).drop r++((A++B).map sea2).take r,by simp[lA,lB];lia,hok,λG s0=>?_⟩;clear hok eA eB eo;have l1:=Ka (c::w) (vQ 1) vZ;have c1:=λG=>ZLR (w:=c::w) (by lia) 8 G
  have c2:=λG=>ZIz (w:=o) (by simp[o];lia) 4 G
  rw[hA]at c1;rw[hB]at c2;have hi:=λG=>Vq (i:=t) ht.1 ht.2 G
  have h0:=λG=>ZLn (c:=c) (l:=w) (by lia) G
  have h1:=λG=>Gg (l:=c::w) (lo:=vQ 1) (hi:=vZ) (by lia) G
  have h2:=λG=>add_str (l:=[97+t.toNat]) (l':=cutD (c::w) (vQ 1) vZ) (by simp;lia) G
  have e2:An ([97+t.toNat]++cutD (c::w) (vQ 1) vZ)=An o:=rfl;rw[e2]at h2
  clear_value o
  have r8:inR 8:=Gz (by lia) (by lia);have r4:inR 4:=Gz (by lia) (by lia);have lA':(A.map D.str).length<=1000000:=by simp[lA]
  have lB':(B.map D.str).length<=1000000:=by simp[lB]
  have hAB:A.map D.str++B.map D.str=(A++B).map D.str:=by simp
  have lAB:(A.map D.str).length+(B.map D.str).length<=1000000:=by simp[lA,lB]
  have ad:=addR (p:=G.length) (xs:=A.map D.str) (ys:=B.map D.str) (G:=G++[.lst (A.map D.str)]) (by rw[Hl];rfl) lAB;rw[hAB]at ad;have fzB:freeze (G++[.lst (A.map D.str)]) (.ok (.ref (G.length+1)) (G++[.lst (A.map D.str),.lst (B.map D.str)]))=.ok (.fl (B.map D.str)) (G++[.lst (A.map D.str)]):=ZAc G6;have td1:tidy (G++[.lst (A.map D.str)]) (.ok (.ref (G.length+1)) (G++[.lst (A.map D.str),.lst ((A++B).map D.str)]))=.ok (.ref (G.length+1)) (G++[.lst (A.map D.str),.lst ((A++B).map D.str)]):=ZH1 G6
  have g2:(G++[DO.lst (A.map D.str),DO.lst ((A++B).map D.str)])[G.length+1]?=vQ (.lst ((A++B).map D.str)):=by simp
  have sc:=ZNC g2;have lC:((A++B).map D.str).length=(A++B).length:=by simp
  have lS:((A++B).map sea2).length=12:=by simp[lA,lB]
  have lAB2:(A++B).length=12:=by simp[lA,lB]
  generalize(A++B).map sea2=C at sc lS⊢;generalize A++B=Q at*;have lC':(C.map D.str).length<=1000000:=by simp[lS]
  have ct:cutD (C.map D.str) vZ (vQ (r:Int))=(C.take r).map D.str:=by rw[Kr (by simp;lia),jW]
  have cd:cutD (C.map D.str) (vQ (r:Int)) vZ=(C.drop r).map D.str:=by rw[Oh (by simp;lia),jv]
  have sl1:=λlo hi=>slR (p:=G.length+2) (xs:=C.map D.str) (lo:=lo) (hi:=hi) (G:=G++[.lst (A.map D.str),.lst (Q.map D.str),.lst (C.map D.str)]) (by simp)
  have fz3:∀ls:List Str,freeze (G++[.lst (A.map D.str),.lst (Q.map D.str),.lst (C.map D.str)]) (.ok (.ref (G.length+3)) (G++[.lst (A.map D.str),.lst (Q.map D.str),.lst (C.map D.str),.lst (ls.map D.str)]))=.ok (.fl (ls.map D.str)) (G++[.lst (A.map D.str),.lst (Q.map D.str),.lst (C.map D.str)]):=λls=>by have:=Cr (G:=G++[.lst (A.map D.str),.lst (Q.map D.str),.lst (C.map D.str)]) (ds:=ls.map D.str) (L:=[]) G6;simpa using this
  have lcc:((C.drop r).map D.str).length+((C.take r).map D.str).length<=1000000:=by simp[lS];lia
  have fzd:=fz3 (C.drop r);have fzt:=fz3 (C.take r);refine⟨3,[.lst (A.map D.str),.lst (Q.map D.str),.lst (C.map D.str),.lst ((C.drop r++C.take r).map D.str)],?_,rfl⟩;rw[qF];generalize(C.drop r).map D.str=X1 at*;generalize(C.take r).map D.str=X2 at*;generalize C.map D.str=X3 at*;have it2:Hk (.ref (G.length+1)) (G++[DO.lst (A.map D.str),DO.lst (Q.map D.str)])=.ok (.mt (G.length+1)) (G++[DO.lst (A.map D.str),DO.lst (Q.map D.str)]):=by simp[Hk]
  rw[lAB2]at sc;have lQ:(Q.map D.str).length=12:=by rw[zV,lAB2]
  generalize Q.map D.str=X4 at*;generalize A.map D.str=X5 at*;generalize B.map D.str=X6 at*;have cs1:∀a b c d e f' g h i j k' l:Option D,Bx 1 [3] [a,b,c,d,e,f',g,h,i,j,k',l]=[vZ,d]:=λ_ _ _ _ _ _ _ _ _ _ _ _=>rfl
  have cs2:∀a b c d e f' g h i j k' l:Option D,Bx 1 [5] [a,b,c,d,e,f',g,h,i,j,k',l]=[vZ,f']:=λ_ _ _ _ _ _ _ _ _ _ _ _=>rfl
  have cs3:∀S:DSt,Bx 1 [] S=[vZ]:=λ_=>rfl
  generalize An o=O at*;generalize An (cutD (c::w) (vQ 1) vZ)=O1 at*;generalize An [97+t.toNat]=O2 at*;generalize An (c::w)=O3 at*;generalize An [c]=O4 at*;generalize("abcdefghijklmnopqrstuvwxyz":Str)=AL at*;unfold R6;simp[-Ln,-K1,-J6,a8,a9,a10,h8,h0,et,hi,h1,Jo,h2,r8,cs1,c1,lA',r4,cs2,c2,lB',fzB,ad,td1,it2,g2,lQ,cs3,sc,lC',hr,sl1,ct,cd,fzd,fzt,lcc]
 ·obtain⟨sz,hsz⟩:∃sz:Nat,gx xs 8/3%8=sz:=⟨(gx xs 8/3%8).toNat,by lia⟩;obtain⟨a,ha⟩:∃a:Nat,gx xs 9%((sz:Int)+1)=a:=⟨(gx xs 9%((sz:Int)+1)).toNat,by have:=zI (gx xs 9) (show((sz:Int)+1)≠0 by lia);lia⟩
  have hasz:a<=sz:=by have:=zL (gx xs 9) (show(0:Int)<(sz:Int)+1 by lia);lia
  refine⟨(qz 0 12).map λk=>nmS (nmF xs (c::w) sz a k),by simp,ZMb (by have h1:(cutD (c::w) vZ (vQ (a:Int)))=(c::w).take a:=Kr (by simp[hw8];lia);have h2:=ZLq (xs:=c::w) (a:=a) (b:=sz) (by lia) (by simp[hw8];lia);rw[h1,h2];simp;lia) (λx hx=>by have:=V8 hx;rcases zz.mp this with rfl|h;exact hc;exact hww x h) (λx hx=>by have:=V8 hx;rcases zz.mp this with rfl|h;exact hc;exact hww x h),λG s0=>?_⟩
  obtain⟨y7,y8,y11,hL⟩:=ZGy hxl (w:=c::w) (by lia) (sz:=sz) (a:=a) (s0:=s0) (s4:=vZ) (s5:=vZ) (G:=G) 12 0 [] vZ vZ vZ (by lia) (by simp);have hL':Dp (gV 7) Rj (Cv 0 12) [s0,vQ (.str ("abcdefghijklmnopqrstuvwxyz":Str)),vQ (.fl (xs.map D.int)),vQ (.str (An (c::w))),vZ,vZ,vQ (.ref G.length),vZ,vZ,vQ (.int sz),vQ (.int a),vZ] (G++[.lst []])=_:=hL;rw[jQ]at hL'
  refine⟨0,[.lst (((qz 0 12).map λk=>nmS (nmF xs (c::w) sz a k)).map D.str)],?_,rfl⟩;generalize((qz 0 12).map λk=>nmS (nmF xs (c::w) sz a k)).map D.str=Z at*;generalize An (c::w)=W at*;generalize("abcdefghijklmnopqrstuvwxyz":Str)=AL at*;have r12:inR 12:=Gz (by lia) (by lia);have hp:(0:Int)<(sz:Int)+1:=by lia
  unfold R6 ZEs ZGK ZFm ZEz ZF5;simp[a8,a9,h8,hsz,hp,ha,Ba,Im,r12,hL']
theorem ZI2:∃nm:List Str,nm.length=12/\NmOk nm/\∀G,K5 [.int cell] G=.ok (.ref G.length) (G++[.lst (nm.map D.str)]):=by
 have hst:∀G,freeze G (Je [.int cell,.int 0,.int 24] G)=.ok (.fl ((Fw cell 0 24).map D.int)) G:=λG=>Zo (cell:=cell) (k:=0) (n:=24) (by lia) (by lia) G
 have hxl:(Fw cell 0 24).length=24:=ZB4;have hx:∀x∈Fw cell 0 24,0<=x:=ZFM;generalize Fw cell 0 24=xs at*;have a10:atI (xs.map D.int) 10=vQ (.int (gx xs 10)):=Dt (i:=10) (by lia);have a11:atI (xs.map D.int) 11=vQ (.int (gx xs 11)):=Dt (i:=11) (by lia);by_cases h11:2147483647<gx xs 11
 ·obtain⟨nm,hn,hnd,hns,hf⟩:=ZIY (xs:=(xs.drop 11).take (23-11)) (λx h=>hx x (qL (qX h))) (by simp;lia);refine⟨nm,by rw[hn];simp;lia,⟨hnd,λz h=>(hns z h).1,λz h=>(hns z h).2⟩,λG=>?_⟩;have cu:=ZC8 (xs:=xs) (a:=11) (b:=23) (by lia) (by lia);have cu':cutD (xs.map D.int) (vQ 11) (vQ 23)=((xs.drop 11).take (23-11)).map D.int:=cu;generalize(xs.drop 11).take (23-11)=ys at*
  have fz:freeze G (.ok (.ref G.length) (G++[.lst (ys.map D.int)]))=.ok (.fl (ys.map D.int)) G:=Cr Hm;have td:=Im (G:=G) (ds:=nm.map D.str) (L:=[]) G6;generalize nm.map D.str=N at*;unfold K5 R8 Qh S7;rw[Br];simp[hst,a11,h11,cu',fz,hf,td]
 ·have cu':cutD (xs.map D.int) vZ (vQ 8)=(xs.take 8).map D.int:=by rw[jW];exact Kr (a:=8) (by simp;lia)
  have lw:(wd0 xs).length=8:=by simp[wd0];lia
  have wd_let:∀x∈wd0 xs,97<=x/\x<123:=λx hx=>by obtain⟨y,_,rfl⟩:=z8.mp hx;lia
  have wc:=λG=>ZJz (xs.take 8) G
  have jw:=λG=>ZMQ (cs:=wd0 xs) (by lia) G
  have fz:∀G:DH,freeze G (.ok (.ref G.length) (G++[.lst ((wd0 xs).map sgn)]))=.ok (.fl ((wd0 xs).map sgn)) G:=λG=>Cr (Hw λ_ _=>rfl)
  have fzi:∀G:DH,freeze G (.ok (.ref G.length) (G++[.lst ((xs.take 8).map D.int)]))=.ok (.fl ((xs.take 8).map D.int)) G:=λG=>Cr Hm
  have ew:(xs.take 8).map (λx=>97+(x%26).toNat)=wd0 xs:=rfl;rw[ew]at wc;have cs1:∀a b c d e f' g h i j k' l:Option D,Bx 1 [1] [a,b,c,d,e,f',g,h,i,j,k',l]=[vZ,b]:=λ_ _ _ _ _ _ _ _ _ _ _ _=>rfl
  have lw2:(wd0 xs).length<=1000000:=by lia
  generalize(xs.take 8).map D.int=X8 at*;have fin:∃(c:Nat)(w:List Nat),w.length=7/\(97<=c/\c<123)/\(∀x∈w,97<=x/\x<123)/\∀G,K5 [.int cell] G=tidy G (R6 [vQ (.int cell),vQ (.str ("abcdefghijklmnopqrstuvwxyz":Str)),vQ (.fl (xs.map D.int)),vQ (.str (An (c::w))),vZ,vZ,vZ,vZ,vZ,vZ,vZ,vZ] G).ret:=by
   by_cases h10:gx xs 10/26%4=0
   ·have l5:(cutD (wd0 xs) (vQ 3) vZ).length=5:=by have:=Oh (xs:=wd0 xs) (a:=3) (by lia);have e3:cutD (wd0 xs) (vQ 3) vZ=(wd0 xs).drop 3:=this;rw[e3,qC,lw]
    have s3:=λG=>Gg (l:=wd0 xs) (lo:=vQ 3) (hi:=vZ) (by lia) G
    have fz2:∀G:DH,freeze G (.ok (.ref G.length) (G++[.lst [.str "sea",.str "none"]]))=.ok (.fl [.str "sea",.str "none"]) G:=λG=>Cr rfl
    have key:∀(c:Nat)(l0:List Nat),l0.length=2∨l0.length=3->∀G,Bb (.str (An (c::l0))) (.str (An (cutD (wd0 xs) (vQ 3) vZ))) G=.ok (.str (An (c::(l0++cutD (wd0 xs) (vQ 3) vZ)))) G/\Kc (.str (An (c::(l0++cutD (wd0 xs) (vQ 3) vZ)))) vZ (vQ 8) G=.ok (.str (An (c::(l0++cutD (wd0 xs) (vQ 3) vZ).take 7))) G:=λc l0 h0 G=>by
     refine⟨add_str (l:=c::l0) (l':=cutD (wd0 xs) (vQ 3) vZ) (by simp[l5];lia) G,?_⟩;rw[Gg (by simp[l5];lia)];have:=Kr (xs:=c::(l0++cutD (wd0 xs) (vQ 3) vZ)) (a:=8) (by simp[l5];lia);have e8:cutD (c::(l0++cutD (wd0 xs) (vQ 3) vZ)) vZ (vQ 8)=(c::(l0++cutD (wd0 xs) (vQ 3) vZ)).take 8:=this;rw[e8,List.take_succ_cons]
    rcases(by lia:gx xs 10/104%2=0∨gx xs 10/104%2=1)with z|z
    ·have es:("sea":Str)=An (115::[101,97]):=by decide +kernel
     have k1:=λG=>(key 115 [101,97] (by simp) G).1
     have k2:=λG=>(key 115 [101,97] (by simp) G).2
     refine⟨115,([101,97]++cutD (wd0 xs) (vQ 3) vZ).take 7,by simp[l5],by lia,(λx hx=>by rcases zF.mp (qX hx)with h|h;(simp at h;lia);exact wd_let x (V8 h)),λG=>?_⟩;rw[<-es]at k1;generalize An (115::([101,97]++cutD (wd0 xs) (vQ 3) vZ))=Q1 at*;generalize An (115::([101,97]++cutD (wd0 xs) (vQ 3) vZ).take 7)=Q2 at*;generalize An (cutD (wd0 xs) (vQ 3) vZ)=Q3 at*
     generalize An (wd0 xs)=Q4 at*;unfold K5 R8 Qh S7 Vp Wq;rw[Br];generalize("abcdefghijklmnopqrstuvwxyz":Str)=AL at*;simp[-K1,-J6,hst,a11,h11,cu',fzi,cs1,wc,lw2,fz,jw,a10,h10,z,fz2,s3,Jo,k1,k2]
    ·have es:("none":Str)=An (110::[111,110,101]):=by decide +kernel
     have k1:=λG=>(key 110 [111,110,101] (by simp) G).1
     have k2:=λG=>(key 110 [111,110,101] (by simp) G).2
     refine⟨110,([111,110,101]++cutD (wd0 xs) (vQ 3) vZ).take 7,by simp[l5],by lia,(λx hx=>by rcases zF.mp (qX hx)with h|h;(simp at h;lia);exact wd_let x (V8 h)),λG=>?_⟩;rw[<-es]at k1;generalize An (110::([111,110,101]++cutD (wd0 xs) (vQ 3) vZ))=Q1 at*;generalize An (110::([111,110,101]++cutD (wd0 xs) (vQ 3) vZ).take 7)=Q2 at*;generalize An (cutD (wd0 xs) (vQ 3) vZ)=Q3 at*
     generalize An (wd0 xs)=Q4 at*;unfold K5 R8 Qh S7 Vp Wq;rw[Br];generalize("abcdefghijklmnopqrstuvwxyz":Str)=AL at*;simp[-K1,-J6,hst,a11,h11,cu',fzi,cs1,wc,lw2,fz,jw,a10,h10,z,fz2,s3,Jo,k1,k2]
   ·cases hcw:wd0 xs with
    |nil=>rw[hcw]at lw;cases lw
    | cons c w=>
     have hc97:97<=c/\c<123:=by
      have hm:c∈wd0 xs:=by rw[hcw];exact zD
      obtain⟨y,_,rfl⟩:=z8.mp hm;lia
     refine⟨c,w,by rw[hcw]at lw;simpa using lw,hc97,(λx hx=>wd_let x (by rw[hcw];exact zq _ hx)),λG=>?_⟩;rw[<-hcw];generalize An (wd0 xs)=Q4 at*;unfold K5 R8 Qh S7 Vp Wq;rw[Br];generalize("abcdefghijklmnopqrstuvwxyz":Str)=AL at*;simp[hst,a11,h11,cu',fzi,cs1,wc,lw2,fz,jw,a10,h10]
  obtain⟨c,w,hw,hc,hww,hf⟩:=fin;obtain⟨nm,hn,hok,ht⟩:=ZO0 hxl hx hw hc hww;refine⟨nm,hn,hok,λG=>?_⟩;obtain⟨k,L,h1,h2⟩:=ht G (vQ (.int cell));rw[hf,h1];exact ZHR L h2 G6
noncomputable def Gf(nm:List Str)(k:Nat):Str:=nm.getD k ""
theorem Qk(h:k<nm.length):nm[k]=Gf nm k:=by simp[Gf,zA,zQ h]
def Qw(nm:List Str):Option Nat->Str
 |none=>"sea"
 |some d=>(Gf nm d)
def Rk(nm:List Str):Option (Nat×Nat×Int)->D
 |none=>.non
 |some (to,dl,m)=>.tup [.str ((Gf nm to)),.int dl,.int m]
def Jp(nm:List Str)(p:Pl):D:=match p.kd with
 |.basin b r q=>.tup [.str "basin",.str p.nm,.str (Qw nm p.dn),.int p.dl,.int b,.tup (r.map Am),Rk nm q]
 |.town a b=>.tup [.str "town",.str p.nm,.str (Qw nm p.dn),.int p.dl,.int a,.int b]
 |.mill a=>.tup [.str "mill",.str p.nm,.str (Qw nm p.dn),.int p.dl,.int a]
structure PlG (n k:Nat) (p:Pl):Prop where
 dn:∀d,p.dn=vQ d->k<d/\d<n
 dl:p.dl<=5
 pump:∀b r to dl m,p.kd=.basin b r (vQ (to,dl,m))->to<n/\1<=dl/\dl<=5
 brim:∀b r q,p.kd=.basin b r q->0<=b/\∀s∈r,Good 0 s.2
 town:∀a b,p.kd=.town a b->0<=a/\0<=b
 nop:∀b r,p.kd=.basin b r vZ->∀s∈r,∀t∈s.2,t.r=vJ
def Asc(yr:Int):Int->List Ssn->Prop
 |_,[]=>True
 |a,s::r=>a<s.1/\s.1<yr/\Asc yr s.1 r
structure PlW (yr:Int) (k:Nat) (p:Pl):Prop where
 mill:∀a,p.kd=.mill a->0<=a
 asc:∀b r q,p.kd=.basin b r q->Asc yr (-1) r/\(∃st r',r=(0,st)::r')/\(∀s∈r,s.2.length<=100)
 pq:∀b r to dl m,p.kd=.basin b r (vQ (to,dl,m))->to≠k/\0<=m/\∀s∈r,(pmps s.2).sum<=m
theorem ZD9:∀{st:List Stp}{t:Int},Good t st->0<=(pmps st).sum
 |[],_,_=>jB _
 |s::st,t,h=>by
  have ih:=ZD9 h.2.2;unfold pmps at ih⊢;rw[j4];split
  ·rw[zk,List.sum_cons];have:=h.2.1;lia
  ·exact ih
theorem W7{p:Bool}:∀(m j:Nat)(b a:Int),a<b->(j=0->b<yr)->Asc yr a (ruF xs big yr p m j b)
 |0,_,_,_,_,_=>trivial
 | m+1,j,b,a,h,hj=>by
  unfold ruF;split
  ·rename_i hc;refine⟨h,?_,W7 m (j+1) _ _ ?_ (λz=>by lia)⟩
   ·rcases hc with z|z
    ·exact hj z
    ·exact z.2
   ·show b<b+1+gx xs j/3%9;lia
  ·exact W7 m (j+1) b a h λz=>by lia
theorem ZFS{p:Bool}:∃st r',ruF xs big yr p 3 0 0=(0,st)::r':=by unfold ruF;rw[if_pos (.inl rfl)];exact⟨_,_,rfl⟩
theorem ZK8{n:Nat}{g:Int}(hn:1<n)(hk:k<n){t:Nat}(e:((k:Int)+1+g%((n:Int)-1))%(n:Int)=t):t≠k:=λz=>by
 subst z;have h1:=zI g (show(n:Int)-1≠0 by lia);have h2:=zL g (show(0:Int)<(n:Int)-1 by lia);generalize g%((n:Int)-1)=q at*;by_cases hq:(t:Int)+1+q<n
 ·rw[Int.emod_eq_of_lt (by lia) hq]at e;lia
 ·have e2:((t:Int)+1+q)%n=(t:Int)+1+q-n:=by rw[<-Int.sub_emod_right,Int.emod_eq_of_lt (by lia) (by lia)]
  lia
theorem ZEC{xs:List Int}{big:Int}{p:Bool}:∀(n j:Nat)(top:Int),Good top (stF xs big p n j top)/\(p=vX->∀t∈stF xs big p n j top,t.r=vJ)
 |0,_,_=>⟨trivial,λ_ t h=>nomatch h⟩
 | n+1,j,top=>by
  have ih:=ZEC (xs:=xs) (big:=big) (p:=p) n (j+1) (top+number (gx xs (1+2*j)) big+(1+number (gx xs (2+2*j)) big));have h1:=Lx (x:=gx xs (1+2*j)) (cell:=big);have h2:=Lx (x:=gx xs (2+2*j)) (cell:=big);refine⟨⟨?_,?_,ih.1⟩,λhp t ht=>?_⟩
  ·show top<=top+number (gx xs (1+2*j)) big;lia
  ·show 1<=1+number (gx xs (2+2*j)) big;lia
  ·rcases zz.mp ht with rfl|ht
   ·rw[hp];rfl
   ·exact ih.2 hp t ht
theorem Tz{p:Bool}:∀(m j:Nat)(b:Int),∀s∈ruF xs big yr p m j b,Good 0 s.2/\(p=vX->∀t∈s.2,t.r=vJ)
 |0,_,_,s,h=>nomatch h
 | m+1,j,b,s,h=>by
  unfold ruF at h;split at h
  ·rcases zz.mp h with rfl|h
   ·exact ZEC _ _ _
   ·exact Tz m _ _ s h
  ·exact Tz m _ _ s h
theorem ZCE(h:i<nm.length):atI (nm.map D.str) (i:Int)=vQ (.str nm[i]):=Dq rfl (by rw[zv,zQ h];rfl)
theorem add3{t nm dn:Str}{dl:Int}(h:ds.length<=100)(G:DH):Bb (.tup [.str t]) (.tup [.str nm,.str dn,.int dl]) G=.ok (.tup [.str t,.str nm,.str dn,.int dl]) G/\Bb (.tup [.str t,.str nm,.str dn,.int dl]) (.tup ds) G=.ok (.tup (.str t:: .str nm:: .str dn:: .int dl::ds)) G:=by
 refine⟨rfl,?_⟩;rw[Lg,if_pos ⟨by simp,by simp;lia⟩]
 rfl
theorem ZM3(hnm:nm.length=12){n:Nat}(hn:n<=12)(hk:k<n)(hyr:0<yr):∃p:Pl,p.nm=(Gf nm k)/\(PlG n k p/\PlW yr k p)/\∀G,Lp [.fl (nm.map D.str),.int n,.int k,.int yr,.int cell] G=.ok (Jp nm p) G:=by
 have hst:∀G,freeze G (Je [.int cell,.int (k:Int),.int 33] G)=.ok (.fl ((Fw cell k 33).map D.int)) G:=λG=>Zo (cell:=cell) (k:=k) (n:=33) (by lia) (by lia) G
 have hxl:(Fw cell k 33).length=33:=ZB4;have hx:∀x∈Fw cell k 33,0<=x:=ZFM;generalize Fw cell k 33=xs at*;have a0:atI (xs.map D.int) 0=vQ (.int (gx xs 0)):=Dt (i:=0) (by lia);have a1:atI (xs.map D.int) 1=vQ (.int (gx xs 1)):=Dt (i:=1) (by lia);have a2:atI (xs.map D.int) 2=vQ (.int (gx xs 2)):=Dt (i:=2) (by lia);have a3:atI (xs.map D.int) 3=vQ (.int (gx xs 3)):=Dt (i:=3) (by lia);have a4:atI (xs.map D.int) 4=vQ (.int (gx xs 4)):=Dt (i:=4) (by lia)
 have a5:atI (xs.map D.int) 5=vQ (.int (gx xs 5)):=Dt (i:=5) (by lia);have a6:atI (xs.map D.int) 6=vQ (.int (gx xs 6)):=Dt (i:=6) (by lia);have a7:atI (xs.map D.int) 7=vQ (.int (gx xs 7)):=Dt (i:=7) (by lia);have n3:=λG=>Ph (cell:=cell) (G:=G) (R9 hx 3)
 have n4:=λG=>Ph (cell:=cell) (G:=G) (R9 hx 4)
 have hp:(0:Int)<(n:Int)-(k:Int):=by lia
 have hnk:atI (nm.map D.str) (k:Int)=vQ (.str (nm[k]'(by lia))):=ZCE (by lia);obtain⟨s,es⟩:∃s:Nat,gx xs 0%((n:Int)-(k:Int))=s:=⟨(gx xs 0%((n:Int)-(k:Int))).toNat,by have:=zI (gx xs 0) (show(n:Int)-(k:Int)≠0 by lia);lia⟩
 have hs:k+s<n:=by have:=zL (gx xs 0) hp;lia
 have hns:atI (nm.map D.str) ((k:Int)+(s:Int))=vQ (.str (nm[k+s]'(by lia))):=by have:=ZCE (nm:=nm) (i:=k+s) (by lia);rwa[show((k+s:Nat):Int)=(k:Int)+(s:Int) by lia]at this
 obtain⟨dn,o,eo,ho,hd⟩:∃(dn:Str)(o:Option Nat),Qw nm o=dn/\(∀d,o=vQ d->k<d/\d<n)/\∀G,Lp [.fl (nm.map D.str),.int n,.int k,.int yr,.int cell] G=tidy G (Ob [vQ (.fl (nm.map D.str)),vQ (.int n),vQ (.int k),vQ (.int yr),vQ (.int cell),vQ (.fl (xs.map D.int)),vQ (.str dn),vQ (.tup [.str (nm[k]'(by lia)),.str dn,.int (gx xs 1%6)]),vZ,vZ,vZ,vZ] G).ret:=by
  by_cases h0:0<s
  ·refine⟨nm[k+s]'(by lia),vQ (k+s),(Qk (by lia)).symm,λd hd=>by cases hd;lia,λG=>?_⟩;have h0':(0:Int)<(s:Int):=by lia
   unfold Lp Zx ZBY ZBH ZBU;rw[Br];simp[hk,hst,a0,hp,es,h0,h0',hns,hnk,a1]
  ·refine⟨"sea",vZ,rfl,λd hd=>(nomatch hd),λG=>?_⟩
   have h0':¬(0:Int)<(s:Int):=by lia
   unfold Lp Zx ZBY ZBH ZBU;rw[Br];simp[hk,hst,a0,hp,es,h0,h0',hnk,a1]
 have emk:nm[k]'(by lia)=(Gf nm k):=Qk (by lia);rw[emk]at hnk;obtain⟨dl,edl⟩:∃dl:Nat,gx xs 1%6=dl:=⟨(gx xs 1%6).toNat,by lia⟩;have hdl:dl<=5:=by lia
 have hd:=hd;rw[emk]at hd;clear emk;generalize hmk:(Gf nm k)=mk at*;by_cases h2:gx xs 2%5=0
 ·refine⟨⟨mk,o,dl,.mill (number (gx xs 3) cell)⟩,rfl,⟨⟨ho,hdl,(λ_ _ _ _ _ z=>nomatch z),(λ_ _ _ z=>nomatch z),(λ_ _ z=>nomatch z),(λ_ _ z=>nomatch z)⟩,⟨(λa z=>by cases z;exact Lx),(λ_ _ _ z=>nomatch z),(λ_ _ _ _ _ z=>nomatch z)⟩⟩,λG=>?_⟩
  have ad:=add3 (t:="mill") (nm:=mk) (dn:=dn) (dl:=gx xs 1%6) (ds:=[.int (number (gx xs 3) cell)]) (by simp);rw[hd];unfold Ob;simp[-Lg,a2,h2,a3,n3,ad,Jp,eo,<-edl,Bp]
 ·by_cases h3:gx xs 2%5=1
  ·refine⟨⟨mk,o,dl,.town (number (gx xs 3) cell) (number (gx xs 4) cell)⟩,rfl,⟨⟨ho,hdl,(λ_ _ _ _ _ z=>nomatch z),(λ_ _ _ z=>nomatch z),(λa b z=>by cases z;exact⟨Lx,Lx⟩),(λ_ _ z=>nomatch z)⟩,⟨(λ_ z=>nomatch z),(λ_ _ _ z=>nomatch z),(λ_ _ _ _ _ z=>nomatch z)⟩⟩,λG=>?_⟩
   have ad:=add3 (t:="town") (nm:=mk) (dn:=dn) (dl:=gx xs 1%6) (ds:=[.int (number (gx xs 3) cell),.int (number (gx xs 4) cell)]) (by simp);rw[hd];unfold Ob Uo;simp[-Lg,a2,h2,h3,a3,a4,n3,n4,ad,Jp,eo,<-edl,Bp]
  ·have cu':cutD (xs.map D.int) (vQ 8) (vQ 32)=((xs.drop 8).take (32-8)).map D.int:=ZC8 (xs:=xs) (a:=8) (b:=32) (by lia) (by lia);have hr:=λ(p:Bool)(G:DH)=>ZKI (xs:=(xs.drop 8).take (32-8)) (big:=cell) (yr:=yr) (p:=p) (λx h=>hx x (qL (qX h))) (by simp;lia) G
   generalize(xs.drop 8).take (32-8)=ys at*;have fz:∀G:DH,freeze G (.ok (.ref G.length) (G++[.lst (ys.map D.int)]))=.ok (.fl (ys.map D.int)) G:=λG=>Cr Hm
   by_cases hpm:1<n/\0<gx xs 5%3
   ·have hn1:(1:Int)<(n:Int):=by lia
    have hrt:=hr vJ;have ln:=Uu (xs:=ys) (big:=cell) (yr:=yr) (p:=vJ) 3 0 0;obtain⟨v,hvb,hv⟩:=ZKD (r:=ruF ys cell yr vJ 3 0 0) (by lia) (λs hs=>zC (ln.2 s hs) (by decide)) ZNw;obtain⟨v2,hvn,hv2⟩:=ZMC (R9 hx 4);obtain⟨t,et⟩:∃t:Nat,((k:Int)+1+gx xs 6%((n:Int)-1))%(n:Int)=t:=⟨(((k:Int)+1+gx xs 6%((n:Int)-1))%(n:Int)).toNat,by have:=zI ((k:Int)+1+gx xs 6%((n:Int)-1)) (show(n:Int)≠0 by lia);lia⟩
    have ht:t<n:=by have:=zL ((k:Int)+1+gx xs 6%((n:Int)-1)) (show(0:Int)<(n:Int) by lia);lia
    have hnt:atI (nm.map D.str) (t:Int)=vQ (.str (nm[t]'(by lia))):=ZCE (by lia);have hp1:(0:Int)<(n:Int)-1:=by lia
    have hp2:(0:Int)<(n:Int):=by lia
    have hp3:0<n:=by lia
    have emt:nm[t]'(by lia)=(Gf nm t):=Qk (by lia);rw[emt]at hnt;obtain⟨pd,epd⟩:∃pd:Nat,1+gx xs 7%5=pd:=⟨(1+gx xs 7%5).toNat,by lia⟩;have hrg:=Tz (xs:=ys) (big:=cell) (yr:=yr) (p:=vJ) 3 0 0;have has:=W7 (xs:=ys) (big:=cell) (yr:=yr) (p:=vJ) 3 0 0 (-1) (by lia) (λ_=>hyr);have hze:=ZFS (xs:=ys) (big:=cell) (yr:=yr) (p:=vJ);have hto:=ZK8 hpm.1 hk et;generalize ruF ys cell yr vJ 3 0 0=r at*
    refine⟨⟨mk,o,dl,.basin (number (gx xs 3) cell) r (vQ (t,pd,v+v2))⟩,rfl,⟨⟨ho,hdl,(λb r' to d m z=>by cases z;lia),(λb r' q z=>by cases z;exact⟨Lx,λs hs=>(hrg s hs).1⟩),(λ_ _ z=>nomatch z),(λ_ _ z=>nomatch z)⟩,⟨(λ_ z=>nomatch z),(λb r' q z=>by cases z;exact⟨has,hze,ln.2⟩),(λb r' to d m z=>by cases z;obtain⟨st,r2,e0⟩:=hze;have h0:=hvb (0,st) (by rw[e0];exact zD);have h1:=ZD9 (hrg (0,st) (by rw[e0];exact zD)).1;exact⟨hto,by lia,λs hs=>by have:=hvb s hs;lia⟩)⟩⟩,λG=>?_⟩
    have ad:=add3 (t:="basin") (nm:=mk) (dn:=dn) (dl:=gx xs 1%6) (ds:=[.int (number (gx xs 3) cell),.tup (r.map Am),.tup [.str ((Gf nm t)),.int (1+gx xs 7%5),.int (v+v2)]]) (by simp);rw[hd];unfold Ob Uo ZA2 ZDO Yx ZAw ZAJ;simp[-Lg,a2,h2,h3,hn1,hpm,a5,cu',fz,hrt,a6,hp1,hp2,hp3,et,hnt,a7,hv,a4,hv2,a3,n3,ad,Jp,Rk,eo,<-edl,<-epd,Bp]
   ·have hrt:=hr vX;have hrg:=Tz (xs:=ys) (big:=cell) (yr:=yr) (p:=vX) 3 0 0;have has:=W7 (xs:=ys) (big:=cell) (yr:=yr) (p:=vX) 3 0 0 (-1) (by lia) (λ_=>hyr);have hze:=ZFS (xs:=ys) (big:=cell) (yr:=yr) (p:=vX);have ln:=Uu (xs:=ys) (big:=cell) (yr:=yr) (p:=vX) 3 0 0;generalize ruF ys cell yr vX 3 0 0=r at*
    refine⟨⟨mk,o,dl,.basin (number (gx xs 3) cell) r vZ⟩,rfl,⟨⟨ho,hdl,(λb r' to d m z=>nomatch z),(λb r' q z=>by cases z;exact⟨Lx,λs hs=>(hrg s hs).1⟩),(λ_ _ z=>nomatch z),(λb r' z=>by cases z;exact λs hs=>(hrg s hs).2 rfl)⟩,⟨(λ_ z=>nomatch z),(λb r' q z=>by cases z;exact⟨has,hze,ln.2⟩),(λb r' to d m z=>nomatch z)⟩⟩,λG=>?_⟩
    have ad:=add3 (t:="basin") (nm:=mk) (dn:=dn) (dl:=gx xs 1%6) (ds:=[.int (number (gx xs 3) cell),.tup (r.map Am),.non]) (by simp);rw[hd];unfold Ob Uo ZA2 ZDO Yx ZAw ZAJ;by_cases hn1:1<n
    ·have hn1':(1:Int)<(n:Int):=by lia
     have h5:¬0<gx xs 5%3:=λz=>hpm ⟨hn1,z⟩
     simp[-Lg,a2,h2,h3,hn1,hn1',h5,a5,cu',fz,hrt,a3,n3,ad,Jp,Rk,eo,<-edl,Bp]
    ·have hn1':¬(1:Int)<(n:Int):=by lia
     simp[-Lg,a2,h2,h3,hn1,hn1',cu',fz,hrt,a3,n3,ad,Jp,Rk,eo,<-edl,Bp]
theorem ZLx{ns:List Int}{at_:Nat}(hat:at_<=1000)(G:DH):∃h:Hs,GoodH h/\1<=h.n/\(∀k,k<h.n->PlG h.n k (h.pl k)/\PlW h.yr k (h.pl k))/\h.yr<=24/\(∃nm:List Str,nm.length=12/\NmOk nm/\(∀k,k<h.n->(h.pl k).nm=Gf nm k)/\∀G,K5 [.int (cellAt ns ((at_:Int)+2))] G=.ok (.ref G.length) (G++[.lst (nm.map D.str)]))/\O6 [.fl (ns.map D.int),.int at_] G=.ok h.enc G:=by
 have ca:=λ(k:Nat)(G:DH)=>Q5 (ns:=ns) (k:=(k:Int)) (G:=G) (by lia)
 have c0:=ca at_;have c1:∀G,Hz [.fl (ns.map D.int),.int ((at_:Int)+1)] G=.ok (.int (cellAt ns ((at_:Int)+1))) G:=λG=>Q5 (by lia)
 have c2:∀G,Hz [.fl (ns.map D.int),.int ((at_:Int)+2)] G=.ok (.int (cellAt ns ((at_:Int)+2))) G:=λG=>Q5 (by lia)
 have c3:∀(k:Nat)G,Hz [.fl (ns.map D.int),.int ((at_:Int)+3+k)] G=.ok (.int (cellAt ns ((at_:Int)+3+k))) G:=λk G=>Q5 (by lia)
 obtain⟨n,en⟩:∃n:Nat,1+cellAt ns (at_:Int)%12=n:=⟨(1+cellAt ns (at_:Int)%12).toNat,by lia⟩;have hn:n<=12/\1<=n:=by lia
 obtain⟨nm,hnm,nok,hc⟩:=ZI2 (cell:=cellAt ns ((at_:Int)+2));obtain⟨y,ey⟩:∃y:Int,1+cellAt ns ((at_:Int)+1)%24=y:=⟨_,rfl⟩;have ex:∀k:Nat,∃p:Pl,k<n->(p.nm=(Gf nm k)/\(PlG n k p/\PlW y k p)/\∀G,Lp [.fl (nm.map D.str),.int n,.int k,.int y,.int (cellAt ns ((at_:Int)+3+k))] G=.ok (Jp nm p) G):=λk=>by
  by_cases hk:k<n
  ·obtain⟨p,hp⟩:=ZM3 hnm hn.1 hk (yr:=y) (cell:=cellAt ns ((at_:Int)+3+k)) (by lia);exact⟨p,λ_=>hp⟩
  ·exact⟨noPl,λz=>absurd z hk⟩
 let P:Nat->Pl:=λk=>(ex k).choose
 have hP:∀k,k<n->((P k).nm=(Gf nm k)/\(PlG n k (P k)/\PlW y k (P k))/\∀G,Lp [.fl (nm.map D.str),.int n,.int k,.int y,.int (cellAt ns ((at_:Int)+3+k))] G=.ok (Jp nm (P k)) G):=λk hk=>(ex k).choose_spec hk
 clear_value P
 have hpl:∀k,k<n->(Hs.pl ⟨y,(zy n).map P⟩ k)=P k:=λk hk=>by unfold Hs.pl;simp[zA,hk]
 have hnn:Hs.n ⟨y,(zy n).map P⟩=n:=by simp[Hs.n]
 have nmk:∀k(hk:k<n),(Gf nm k)=nm[k]'(by lia):=λk hk=>(Qk (by lia)).symm
 have edn:∀(k:Nat)(o:Option Nat),(∀d,o=vQ d->k<d/\d<n)->Hs.dnT ⟨y,(zy n).map P⟩ o=Qw nm o:=λk o ho=>by
  cases o with
  |none=>rfl
  |some d=>
   have:=(ho d rfl).2;show(Hs.pl _ d).nm=(Gf nm d);rw[hpl d this,(hP d this).1]
 have eenc:∀k,k<n->Hs.encP ⟨y,(zy n).map P⟩ (P k)=Jp nm (P k):=λk hk=>by
  have g:=(hP k hk).2.1.1;have e1:=edn k (P k).dn g.dn;unfold Hs.encP Jp;cases ek:(P k).kd with
  | basin b r q=>
   have e2:Hs.V3 ⟨y,(zy n).map P⟩ q=Rk nm q:=by
    cases q with
    |none=>rfl
    |some z=>
     obtain⟨to,dl,m⟩:=z;have ht:=(g.pump b r to dl m ek).1;show D.tup [.str (Hs.pl _ to).nm,.int dl,.int m]=_;rw[hpl to ht,(hP to ht).1]
     rfl
   simp only[e1,e2]
  |town a b=>simp only[e1]
  |mill a=>simp only[e1]
 refine⟨⟨y,(zy n).map P⟩,⟨?_,?_,?_,?_,?_,?_,?_,?_,?_⟩,?_,?_,?_,⟨nm,hnm,nok,?_,hc⟩,?_⟩
 ·show 0<y;lia
 ·rw[hnn];lia
 ·intro i j hi hj e;rw[hnn]at hi hj;rw[hpl i hi,hpl j hj,(hP i hi).1,(hP j hj).1,nmk i hi,nmk j hj]at e;exact ZLm nok.nd _ _ e
 ·intro i hi;rw[hnn]at hi;rw[hpl i hi,(hP i hi).1,nmk i hi];exact nok.sea _ (qH _)
 ·intro k d hk e;rw[hnn]at hk⊢;rw[hpl k hk]at e;exact(hP k hk).2.1.1.dn d e
 ·intro k hk;rw[hnn]at hk;rw[hpl k hk];exact(hP k hk).2.1.1.dl
 ·intro k b r to dl m hk e;rw[hnn]at hk⊢;rw[hpl k hk]at e;exact(hP k hk).2.1.1.pump b r to dl m e
 ·intro k b r q hk e;rw[hnn]at hk;rw[hpl k hk]at e;exact(hP k hk).2.1.1.brim b r q e
 ·intro k a b hk e;rw[hnn]at hk;rw[hpl k hk]at e;exact(hP k hk).2.1.1.town a b e
 ·rw[hnn];lia
 ·intro k hk;rw[hnn]at hk⊢;rw[hpl k hk];exact(hP k hk).2.1
 ·show y<=24;lia
 ·intro k hk;rw[hnn]at hk;rw[hpl k hk];exact(hP k hk).1
 ·have fzn:∀G:DH,freeze G (.ok (.ref G.length) (G++[.lst (nm.map D.str)]))=.ok (.fl (nm.map D.str)) G:=λG=>Cr G6
  have cp:Cp (gV 0) De Xl [vZ,vQ (.fl (ns.map D.int)),vQ (.int at_),vQ (.int n),vQ (.int y),vQ (.fl (nm.map D.str))] (Cv 0 n) G=.ok (((zy n).map P).map (Hs.encP ⟨y,(zy n).map P⟩)) G:=by
   rw[qy];exact ZBW (te:=Xl) (S:=[vZ,vQ (.fl (ns.map D.int)),vQ (.int at_),vQ (.int n),vQ (.int y),vQ (.fl (nm.map D.str))]) λk hk=>by unfold Xl;simp[c3,(hP k hk).2.2,eenc k hk]
  have lp:((zy n).map P).length<=1000000:=by simp;lia
  clear nmk eenc edn hpl hnn hP;generalize(zy n).map P=ps at*;generalize hen:ps.map (Hs.encP ⟨y,ps⟩)=es at*;have les:es.length<=1000000:=by rw[<-hen];simpa using lp
  have bes:∀m,bels m es=vJ:=λm=>by rw[<-hen];exact Hw λ_ _=>Hs.ZL6
  have fzp:freeze G (.ok (.ref G.length) (G++[.lst (es)]))=.ok (.fl (es)) G:=Cr (bes _);have cs:∀a b c d e f':Option D,Bx 1 [0,1,2,3,4] [a,b,c,d,e,f']=[vZ,a,b,c,d,e]:=λ_ _ _ _ _ _=>rfl
  have hr:inR (n:Int):=Gz (by lia) (by lia);have bp:bels G.length (es)=vJ:=bes _;show O6 _ G=.ok (.tup [.int y,.tup (ps.map (Hs.encP ⟨y,ps⟩))]) G;rw[hen];unfold O6 ZEc;rw[Br];simp[c0,en,c1,ey,c2,hc,fzn,hr,cs,cp,les,fzp,bp,Bp]
noncomputable def ZFr:List Nat:=("abcdefghijklmnopqrstuvwxyz":Str).cps.toList
theorem ZMt(c:Nat):c∈ZFr↔97<=c/\c<=122:=by
 have e:ZFr=qz 97 26:=by decide +kernel
 rw[e,List.mem_range'_1];lia
noncomputable def small(c:Nat):Bool:=decide (97<=c/\c<=122)
theorem ZMs:Hv (sgn c) (.str "abcdefghijklmnopqrstuvwxyz") G=.ok (.bl (small c)) G:=by
 have h:=contains1 ("abcdefghijklmnopqrstuvwxyz":Str) c;unfold Hv inD sgn;simp only;rw[h];simp only[small]
 congr 3
 exact propext (ZMt c)
noncomputable def Sd:List Nat:=[115,101,97]
theorem ZOW:("sea":Str).cps.toList=Sd:=by decide +kernel
def isN(cs:List Nat):Bool:=decide (¬cs=Sd)&&decide (1<=cs.length/\cs.length<=8)&&cs.all small
theorem ZNS(hz:z.length<=1000):Y7 [.str z] G=.ok (.bl (isN z.cps.toList)) G:=by
 have hl:(z.length:Int)=z.cps.toList.length:=by simp[Str.length]
 have hz':z.length<=1000000:=by lia
 have hc:Cp (gV 0) De Wg [vZ] (signs z) G=.ok ((z.cps.toList.map small).map D.bl) G:=by
  have:=Qu (g:=gV 0) (c:=De) (te:=Wg) (S:=[vZ]) (G:=G) (F:=λd=>match d with | .str x=>vQ (.bl (small (x.cps.getD 0 0)))|_=>vZ) (xs:=signs z) (λx hx=>by obtain⟨c,_,rfl⟩:=z8.mp hx;refine⟨[vQ (sgn c)],rfl,.inr ⟨rfl,.bl (small c),?_,rfl⟩⟩;unfold Wg;simp[ZMs])
  rw[this]
  congr 1
  unfold signs
  induction z.cps.toList with
  |nil=>rfl
  |cons c r ih=>simp only[zk,zO,sgn,ih];rfl
 have hlen:((z.cps.toList.map small).map D.bl).length<=1000000:=by simp;simpa[Str.length]using hz'
 have hb:bels G.length ((z.cps.toList.map small).map D.bl)=vJ:=ZNM;have ha:= @ZKP G (z.cps.toList.map small);unfold Y7 ZGR;rw[Br];have hs:decide (z=("sea":Str))=decide (z.cps.toList=Sd):=by rw[<-ZOW];exact decide_eq_decide.mpr ZIN
 generalize hA:((z.cps.toList.map small).map D.bl)=bs at*;by_cases h1:z.cps.toList=Sd
 ·simp[hs,h1,Bp,isN]
 ·by_cases h2:1<=z.length/\z.length<=8
  ·have h3:(1:Int)<=z.length/\(z.length:Int)<=8:=by lia
   have h4:1<=z.cps.toList.length/\z.cps.toList.length<=8:=by lia
   simp[hs,h1,hz',h3.1,h3.2,h2.1,h2.2,Bx,hc,hlen,Cr,hb,ha,Bp];simp only[isN,h1,h4,not_false_eq_true,decide_true,and_self,Bool.true_and,List.all_map];simp
  ·have h4:¬(1<=z.cps.toList.length/\z.cps.toList.length<=8):=by lia
   have hn:isN z.cps.toList=vX:=by simp only[isN,h4,decide_false,Bool.and_false,Bool.false_and]
   rw[hn];by_cases h5:1<=z.length
   ·have h6:¬z.length<=8:=λh=>h2 ⟨h5,h⟩
    have h7:¬(z.length:Int)<=8:=by lia
    have h8:(1:Int)<=z.length:=by lia
    simp[hs,h1,hz',h5,h6,h7,h8,Bp]
   ·have h8:¬(1:Int)<=z.length:=by lia
    simp[hs,h1,hz',h5,h8,Bp]
theorem ZIw(h:Wd z)(hs:z≠"sea"):isN z.cps.toList=vJ/\z.length<=8/\1<=z.length:=by
 obtain⟨l,rfl,h1,h2,h3⟩:=h;have e:(An l).cps.toList=l:=by simp[An]
 have el:(An l).length=l.length:=by simp[An,Str.length]
 refine⟨?_,by lia,by lia⟩;rw[e];unfold isN;have n1:¬l=Sd:=λz=>hs (by rw[z];decide +kernel)
 have n2:l.all small=vJ:=zH.mpr λc hc=>by have:=h3 c hc;unfold small;exact decide_eq_true (by lia)
 simp[n1,h1,h2,n2]
theorem ZE6{x:Str}{l:List Str}:Hv (.str x) (.fl (l.map D.str)) G=.ok (.bl (decide (x∈l))) G:=by
 unfold Hv inD;dsimp only
 rw[show Dr (.fl (l.map D.str)) G=vQ (l.map D.str)from rfl,show Mr (.str x)=vQ (.str x)from rfl]
 dsimp only;rw[Vb,j9,Uk]
theorem ZOB{x:Str}{l:List Str}(h:G[i]?=vQ (.lst (l.map D.str))):Hv (.str x) (.ref i) G=.ok (.bl (decide (x∈l))) G:=by
 unfold Hv inD;dsimp only
 rw[show Dr (.ref i) G=vQ (l.map D.str) by simp[Dr,h],show Mr (.str x)=vQ (.str x)from rfl]
 dsimp only;rw[Vb,j9,Uk]
theorem ZKs:Cp (Eb 3 (Bu (gV 0) (Bu (gV 1) (Bu (gV 2) Ej)))) ZDj ZBl [vZ,vZ,vZ] (st.map Stp.enc) G=.ok ((pmps st).map D.int) G:=by
 rw[Qu (F:=λd=>match d with | .tup [_,m,.str w]=>if w="pump" then vQ m else vZ|_=>vZ) λy hy=>?_]
 ·congr 1
  unfold pmps
  induction st with
  |nil=>rfl
  |cons s st ih=>
   rw[zk,zO,ih,j4];have es:Stp.enc s=.tup [.int s.h,.int s.m,.str (wy s.r)]:=rfl;rw[es];cases hr:s.r with
   |true=>simp[wy,pr]
   |false=>simp[wy]
 ·obtain⟨s,_,rfl⟩:=z8.mp hy;have es:Stp.enc s=.tup [.int s.h,.int s.m,.str (wy s.r)]:=rfl;rw[es];refine⟨[vQ (.int s.h),vQ (.int s.m),vQ (.str (wy s.r))],by simp,?_⟩;unfold ZDj ZBl;cases hr:s.r with
  |true=>exact .inl ⟨by simp[wy,pr],by simp[wy,pr]⟩
  |false=>exact .inr ⟨by simp[wy],.int s.m,by simp,by simp[wy]⟩
theorem ZGf:(pmps st).length<=st.length:=by unfold pmps;rw[zV];exact j3 _ _
inductive RK where
 |basin (b:Int) (r:List Ssn) (q:Option (Str×Int×Int))
 |town (a b:Int)
 |mill (a:Int)
structure RP where
 nm:Str
 dn:Str
 dl:Int
 kd:RK
variable{p p':RP}{ps:List RP}
noncomputable def pmD:Option (Str×Int×Int)->D
 |none=>.non
 |some (t,d,m)=>.tup [.str t,.int d,.int m]
noncomputable def RK.txt:RK->Str
 |.basin ..=>"basin"
 |.town ..=>"town"
 |.mill ..=>"mill"
def RK.rest:RK->List D
 |.basin b r q=>[.int b,.tup (r.map Am),pmD q]
 |.town a b=>[.int a,.int b]
 |.mill a=>[.int a]
def RP.row(p:RP):List D:=.str p.kd.txt:: .str p.nm:: .str p.dn:: .int p.dl::p.kd.rest
def RP.enc(p:RP):D:=.tup p.row
structure RH where
 yr:Int
 ps:List RP
noncomputable def RH.enc(h:RH):D:=.tup [.int h.yr,.tup (h.ps.map RP.enc)]
@[simp]theorem ZPZ{n:Nat}:bel n (pmD q)=vJ:=by
 cases q with
 |none=>rfl
 |some x=>obtain⟨a,b,c⟩:=x;rfl
@[simp]theorem ZNk{n:Nat}:bels n p.row=vJ:=by
 unfold RP.row RK.rest
 cases p.kd<;>simp
@[simp]theorem Mt{n:Nat}:bel n p.enc=vJ:=by simp[RP.enc]
@[simp]theorem Ru{n:Nat}{l:List RP}:bels n (l.map RP.enc)=vJ:=Hw λ_ _=>Mt
@[simp]theorem ZAt{n:Nat}{h:RH}:bel n h.enc=vJ:=by simp[RH.enc]
section
variable{p:RP}{h:RH}{G:DH}
@[simp]theorem renc0:Ah p.enc (.int 0) G=.ok (.str p.kd.txt) G:=by simp[RP.enc,RP.row]
@[simp]theorem renc1:Ah p.enc (.int 1) G=.ok (.str p.nm) G:=by simp[RP.enc,RP.row]
@[simp]theorem renc2:Ah p.enc (.int 2) G=.ok (.str p.dn) G:=by simp[RP.enc,RP.row]
@[simp]theorem renc3:Ah p.enc (.int 3) G=.ok (.int p.dl) G:=by simp[RP.enc,RP.row]
theorem Vu:Ah h.enc (.int 0) G=.ok (.int h.yr) G:=by simp[RH.enc]
theorem V5:Ah h.enc (.int 1) G=.ok (.tup (h.ps.map RP.enc)) G:=by simp[RH.enc]
end
noncomputable def Cy:RK->Int×List Int
 |.town a b=>(a,[b])
 |.mill a=>(a,[])
 |.basin b _ vZ=>(b,[])
 |.basin b _ (vQ (_,_,m))=>(b,[m])
def Et(k:RK):Bool:= !decide ((Cy k).2.foldl min (Cy k).1<0)
noncomputable def G7(l:List Str)(p:RP):Bool:=(decide (p.dn="sea")||decide (p.dn∈l))&&(decide (0<=p.dl)&&decide (p.dl<=5))
noncomputable def Fi(l:List Str):Option (Str×Int×Int)->Bool
 |none=>vJ
 |some (t,d,_)=>decide (t∈l)&&(decide (1<=d)&&decide (d<=5))
def Fy(yr:Int):Int->List Ssn->Bool
 |_,[]=>vJ
 |a,s::r=>(decide (a<s.1)&&decide (s.1<yr))&&Fy yr s.1 r
def Hn(yr:Int):List Ssn->Bool
 |[]=>vX
 |s::r=>decide (s.1=0)&&Fy yr (-1) (s::r)
noncomputable def Dk:Int->List Stp->Bool
 |_,[]=>vJ
 |a,s::r=>(decide (a<=s.h)&&decide (1<=s.m))&&Dk (s.h+s.m) r
def Fb(st:List Stp):Option (Str×Int×Int)->Bool
 |none=>decide (pmps st=[])
 |some (_,_,m)=>decide ((pmps st).sum<=m)
def Dz(yr:Int)(r:List Ssn)(q:Option (Str×Int×Int)):Bool:=Hn yr r&&r.all λs=>Dk 0 s.2&&Fb s.2 q
def Fg(A:List Str)(p:RP):Bool:=isN p.nm.cps.toList && !decide (p.nm∈A)
def rnk(yr:Int)(A B:List Str)(p:RP):Nat:=if Fg A p=vX then 1 else if G7 B p=vX then 2 else if Et p.kd=vX then 3 else match p.kd with
 |.basin _ r q=>if Fi (A++B) q=vX then 4 else if Dz yr r q=vX then 5 else 0
 |_=>0
noncomputable def cls5:Nat->Str
 |1=>"NoName"
 |2=>"NoRiver"
 |3=>"NoNumber"
 |4=>"NoPump"
 |_=>"NoRule"
structure Sh (p:RP):Prop where
 nm:p.nm.length<=1000
 ru:∀b r q,p.kd=.basin b r q->∀s∈r,s.2.length<=1000
theorem ZOM{l:List Str}(G:DH):Xe [p.enc,.fl (l.map D.str)] G=.ok (.bl (G7 l p)) G:=by
 have hi:=ZE6 (x:=p.dn) (l:=l) (G:=G);generalize l.map D.str=L at*;unfold Xe ZFq G7;rw[Br];by_cases h1:p.dn="sea"
 ·by_cases h2:0<=p.dl<;>simp[h1,h2,Bp]
 ·by_cases h3:p.dn∈l
  ·rw[decide_eq_true h3]at hi
   by_cases h2:0<=p.dl<;>simp[h1,hi,h3,h2,Bp]
  ·rw[decide_eq_false h3]at hi;simp[h1,hi,h3,Bp]
theorem ZK7(G:DH):W5 [p.enc] G=.ok (.ref G.length) (G++[.lst (((Cy p.kd).1::(Cy p.kd).2).map D.int)]):=by
 have tn:∀ds:List Int,tidy G (.ok (.ref G.length) (G++[.lst (ds.map D.int)]))=.ok (.ref G.length) (G++[.lst (ds.map D.int)]):=λds=>Im Hm
 have n1:¬(("mill":Str)="town"):=by decide
 have n2:¬(("basin":Str)="town"):=by decide
 have n3:¬(("basin":Str)="mill"):=by decide
 unfold W5 ZD8;rw[Br];cases e:p.kd with
 |town a b=>
  have e4:∀G,Ah p.enc (.int 4) G=.ok (.int a) G:=λG=>by simp[RP.enc,RP.row,e,RK.rest]
  have e5:∀G,Ah p.enc (.int 5) G=.ok (.int b) G:=λG=>by simp[RP.enc,RP.row,e,RK.rest]
  have:=tn [a,b];simp at this;simp[e,RK.txt,e4,e5,Ba,Cy,this]
 |mill a=>
  have e4:∀G,Ah p.enc (.int 4) G=.ok (.int a) G:=λG=>by simp[RP.enc,RP.row,e,RK.rest]
  have:=tn [a];simp at this;simp[e,RK.txt,n1,e4,Ba,Cy,this]
 | basin b r q=>
  have e4:∀G,Ah p.enc (.int 4) G=.ok (.int b) G:=λG=>by simp[RP.enc,RP.row,e,RK.rest]
  have e6:∀G,Ah p.enc (.int 6) G=.ok (pmD q) G:=λG=>by simp[RP.enc,RP.row,e,RK.rest]
  cases q with
  |none=>
   have:=tn [b];simp at this;simp[e,RK.txt,n2,n3,e4,e6,pmD,Ds,Ba,Cy,this]
  |some z=>
   obtain⟨t,d,m⟩:=z;have:=tn [b,m];simp at this;simp[e,RK.txt,n2,n3,e4,e6,pmD,Ds,Ba,Cy,this]
theorem ZHu{l:List Str}(hG:G[i]?=vQ (.lst (l.map D.str))):O9 [pmD q,.ref i] G=.ok (.bl (Fi l q)) G:=by
 unfold O9 ZGY;rw[Br];cases q with
 |none=>simp[pmD,Ds,Fi,Bp]
 | some z=>
  obtain⟨t,d,m⟩:=z;have hi:=ZOB (x:=t) hG;by_cases h1:t∈l
  ·rw[decide_eq_true h1]at hi
   by_cases h2:1<=d<;>simp[pmD,Ds,Fi,hi,h1,h2,Bp]
  ·rw[decide_eq_false h1]at hi;simp[pmD,Ds,Fi,hi,h1,Bp]
theorem ZE3{yr:Int}{s0:Option D}{G:DH}:∀(r:List Ssn)(a:Int)(x y:Option D),∃a' x' y',Dp (Eb 2 (Bu (gV 3) (Bu (gV 4) Ej))) Tf (r.map Am) [s0,vQ (.int yr),vQ (.int a),x,y] G=if Fy yr a r=vJ then .nx [s0,vQ (.int yr),a',x',y'] G else .rt (.bl vX) G
 |[],a,x,y=>⟨vQ (.int a),x,y,by rw[qT,Ik];rfl⟩
 | s::r,a,x,y=>by
  obtain⟨a',x',y',ih⟩:=ZE3 (yr:=yr) (s0:=s0) (G:=G) r s.1 (vQ (.int s.1)) (vQ (.tup (s.2.map Stp.enc)));refine⟨a',x',y',?_⟩;have hb:Tf [s0,vQ (.int yr),vQ (.int a),vQ (.int s.1),vQ (.tup (s.2.map Stp.enc))] G=if a<s.1/\s.1<yr then .nx [s0,vQ (.int yr),vQ (.int s.1),vQ (.int s.1),vQ (.tup (s.2.map Stp.enc))] G else .rt (.bl vX) G:=by
   unfold Tf;by_cases h1:a<s.1
   ·by_cases h2:s.1<yr<;>simp[h1,h2]
   ·simp[h1]
  have es:Am s=.tup [.int s.1,.tup (s.2.map Stp.enc)]:=rfl;rw[zk,H9,es];generalize s.2.map Stp.enc=Z at*;unfold Fy;by_cases h1:a<s.1/\s.1<yr
  ·rw[if_pos h1]at hb;simp[hb,ih,h1]
  ·rw[if_neg h1]at hb;have:(decide (a<s.1)&&decide (s.1<yr))=vX:=by rw[<-qW,zZ,decide_eq_true_iff,decide_eq_true_iff];exact h1
   simp[hb,this]
theorem ZLc{r:List Ssn}(G:DH):Xd [.tup (r.map Am),.int yr] G=.ok (.bl (Hn yr r)) G:=by
 obtain⟨a',x',y',hL⟩:=ZE3 (yr:=yr) (s0:=vQ (.tup (r.map Am))) (G:=G) r (-1) vZ vZ;unfold Xd ZGO;rw[Br];cases r with
 |nil=>simp[Hn,Bp]
 | cons s r=>
  have hl':¬((((s::r).map Am).length:Int)=0):=by simp;lia
  have h0:atI ((s::r).map Am) 0=vQ (Am s):=Dq (k:=0) rfl rfl;have h1:∀G,Ah (Am s) (.int 0) G=.ok (.int s.1) G:=λG=>by unfold Am;simp
  have hne:¬(s::r).map Am=[]:=by simp
  unfold Hn;generalize Am s=Z at*;generalize(s::r).map Am=R at*;by_cases z:s.1=0
  ·cases e:Fy yr (-1) (s::r)with
   |true=>rw[e]at hL;simp[hne,hl',h0,h1,z,hL,Bp,e]
   |false=>rw[e]at hL;simp[hne,hl',h0,h1,z,hL,Bp,e]
  ·simp[hne,hl',h0,h1,z,Bp]
theorem ZEg{s0:Option D}{G:DH}:∀(st:List Stp)(a:Int)(x y z:Option D),∃a' x' y' z',Dp (Eb 3 (Bu (gV 2) (Bu (gV 3) (Bu (gV 4) Ej)))) Wi (st.map Stp.enc) [s0,vQ (.int a),x,y,z] G=if Dk a st=vJ then .nx [s0,a',x',y',z'] G else .rt (.bl vX) G
 |[],a,x,y,z=>⟨vQ (.int a),x,y,z,by rw[qT,Ik];rfl⟩
 | s::st,a,x,y,z=>by
  obtain⟨a',x',y',z',ih⟩:=ZEg (s0:=s0) (G:=G) st (s.h+s.m) (vQ (.int s.h)) (vQ (.int s.m)) (vQ (.str (wy s.r)));refine⟨a',x',y',z',?_⟩;have hb:Wi [s0,vQ (.int a),vQ (.int s.h),vQ (.int s.m),vQ (.str (wy s.r))] G=if a<=s.h/\1<=s.m then .nx [s0,vQ (.int (s.h+s.m)),vQ (.int s.h),vQ (.int s.m),vQ (.str (wy s.r))] G else .rt (.bl vX) G:=by
   unfold Wi;by_cases h1:a<=s.h
   ·have h1':¬s.h<a:=by lia
    by_cases h2:1<=s.m
    ·have h2':¬s.m<1:=by lia
     simp[h1,h1',h2,h2']
    ·have h2':s.m<1:=by lia
     simp[h1,h1',h2,h2']
   ·have h1':s.h<a:=by lia
    simp[h1,h1']
  have es:Stp.enc s=.tup [.int s.h,.int s.m,.str (wy s.r)]:=rfl;rw[zk,H9,es];generalize wy s.r=Z at*;unfold Dk;by_cases h1:a<=s.h/\1<=s.m
  ·rw[if_pos h1]at hb;simp[hb,ih,h1]
  ·rw[if_neg h1]at hb;have:(decide (a<=s.h)&&decide (1<=s.m))=vX:=by rw[<-qW,zZ,decide_eq_true_iff,decide_eq_true_iff];exact h1
   simp[hb,this]
theorem ZJq(G:DH):U6 [.tup (st.map Stp.enc)] G=.ok (.bl (Dk 0 st)) G:=by
 obtain⟨a',x',y',z',hL⟩:=ZEg (s0:=vQ (.tup (st.map Stp.enc))) (G:=G) st 0 vZ vZ vZ;generalize st.map Stp.enc=Z at*;unfold U6 ZEQ;rw[Br];cases e:Dk 0 st with
 |true=>rw[e]at hL;simp[hL,Bp]
 |false=>rw[e]at hL;simp[hL,Bp]
theorem ZKC(hl:st.length<=1000)(G:DH):Vc [.tup (st.map Stp.enc),pmD q] G=.ok (.bl (Fb st q)) G:=by
 have hc:=ZKs (st:=st) (G:=G);have hcs:∀S:DSt,Bx 3 [] S=[vZ,vZ,vZ]:=λ_=>rfl
 have fz:freeze G (.ok (.ref G.length) (G++[.lst ((pmps st).map D.int)]))=.ok (.fl ((pmps st).map D.int)) G:=Cr Hm;have hle:((pmps st).map D.int).length<=1000000:=by have:=ZGf (st:=st);rw[zV];lia
 have hsm:Jt [.fl ((pmps st).map D.int)] G=.ok (.int (pmps st).sum) G:=ZE5;have hz:(pmps st).map D.int=[]↔pmps st=[]:=List.map_eq_nil_iff;unfold Fb;generalize(pmps st).map D.int=P at*;generalize st.map Stp.enc=Z at*;unfold Vc ZFB;rw[Br];cases q with
 |none=>simp[hcs,hc,Ba,hle,fz,pmD,Ds,hz,Bp]
 |some w=>
  obtain⟨t,d,m⟩:=w;simp[hcs,hc,Ba,hle,fz,pmD,Ds,hsm,Bp]
theorem ZG5{s0 s2:Option D}{q:Option (Str×Int×Int)}{G:DH}:∀(r:List Ssn)(x y:Option D),(∀s∈r,s.2.length<=1000)->∃x' y',Dp (Eb 2 (Bu (gV 3) (Bu (gV 4) Ej))) T7 (r.map Am) [s0,vQ (pmD q),s2,x,y] G=if(r.all λs=>Dk 0 s.2&&Fb s.2 q)=vJ then .nx [s0,vQ (pmD q),s2,x',y'] G else .rt (.bl vX) G
 |[],x,y,_=>⟨x,y,by rw[qT,Ik];rfl⟩
 | s::r,x,y,h=>by
  obtain⟨x',y',ih⟩:=ZG5 (s0:=s0) (s2:=s2) (q:=q) (G:=G) r (vQ (.int s.1)) (vQ (.tup (s.2.map Stp.enc))) λz hz=>h z (zq _ hz)
  refine⟨x',y',?_⟩;have h1:=ZJq (st:=s.2) G;have h2:=ZKC (st:=s.2) (q:=q) (h s zD) G;have hb:T7 [s0,vQ (pmD q),s2,vQ (.int s.1),vQ (.tup (s.2.map Stp.enc))] G=if(Dk 0 s.2&&Fb s.2 q)=vJ then .nx [s0,vQ (pmD q),s2,vQ (.int s.1),vQ (.tup (s.2.map Stp.enc))] G else .rt (.bl vX) G:=by
   generalize s.2.map Stp.enc=Z at*;unfold T7
   cases e1:Dk 0 s.2<;>cases e2:Fb s.2 q<;>simp[h1,h2,e1,e2]
  have es:Am s=.tup [.int s.1,.tup (s.2.map Stp.enc)]:=rfl;rw[zk,H9,es,jX];generalize s.2.map Stp.enc=Z at*;generalize(r.all λs=>Dk 0 s.2&&Fb s.2 q)=br at*;cases e:(Dk 0 s.2&&Fb s.2 q)with
  |true=>rw[e]at hb;simp[hb,ih]
  |false=>rw[e]at hb;simp[hb]
theorem ZLr{r:List Ssn}(h:∀s∈r,s.2.length<=1000)(G:DH):Nt [.tup (r.map Am),pmD q,.int yr] G=.ok (.bl (Dz yr r q)) G:=by
 obtain⟨x',y',hL⟩:=ZG5 (s0:=vQ (.tup (r.map Am))) (s2:=vQ (.int yr)) (q:=q) (G:=G) r vZ vZ h;have hs:=ZLc (yr:=yr) (r:=r) G;unfold Dz;generalize(r.all λs=>Dk 0 s.2&&Fb s.2 q)=br at*;generalize r.map Am=R at*;unfold Nt ZFc;rw[Br];cases e:Hn yr r with
 |false=>rw[e]at hs;simp[hs,Bp]
 |true=>
  rw[e]at hs;cases br with
  |true=>simp[hs,hL,Bp]
  |false=>simp[hs,hL,Bp]
theorem ZEZ{G:DH}:∀l:List RP,Cp (gV 0) De Sw [vZ] (l.map RP.enc) G=.ok ((l.map RP.nm).map D.str) G
 |[]=>by rw[qT,Ut];rfl
 |p::l=>by
  have he:Sw [vQ p.enc] G=.ok (.str p.nm) G:=by unfold Sw;simp
  have ih:=ZEZ (G:=G) l;rw[zk,Jg];simp[he,ih]
theorem ZGN{G:DH}:∀l:List RP,Cp (gV 0) De Tv [vZ] (l.map RP.enc) G=.ok ((l.map RP.nm).map D.str) G
 |[]=>by rw[qT,Ut];rfl
 |p::l=>by
  have he:Tv [vQ p.enc] G=.ok (.str p.nm) G:=by unfold Tv;simp
  have ih:=ZGN (G:=G) l;rw[zk,Jg];simp[he,ih]
noncomputable def RH.A(h:RH)(k:Nat):List Str:=(h.ps.take k).map RP.nm
noncomputable def RH.B(h:RH)(k:Nat):List Str:=(h.ps.drop (k+1)).map RP.nm
def RH.rk(h:RH)(k:Nat)(p:RP):Nat:=rnk h.yr (h.A k) (h.B k) p
theorem ZCw{h:RH}(hp:h.ps[k]?=vQ p)(hn:h.ps.length<=100)(sh:Sh p)(G:DH):
  (h.rk k p=0->Ie [h.enc,.int k] G=.ok .non G)/\(h.rk k p≠0->∃L,Ie [h.enc,.int k] G=.err ⟨cls5 (h.rk k p),[("place",.int k)]⟩ (G++L)):=by
 have hk:k<h.ps.length:=(zJ.mp hp).1;have ap:atI (h.ps.map RP.enc) (k:Int)=vQ p.enc:=Dq rfl (by rw[zv,hp];rfl);have c1:cutD (h.ps.map RP.enc) vZ (vQ (k:Int))=(h.ps.take k).map RP.enc:=by rw[Kr (by rw[zV];lia),jW]
 have c2:cutD (h.ps.map RP.enc) (vQ ((k:Int)+1)) vZ=(h.ps.drop (k+1)).map RP.enc:=by rw[show(k:Int)+1=((k+1:Nat):Int) by lia,Oh (by rw[zV];lia),jv]
 have f1:freeze G (.ok (.tup ((h.ps.take k).map RP.enc)) G)=.ok (.tup ((h.ps.take k).map RP.enc)) G:=Hj (by rw[Ld];exact Ru);have f2:freeze G (.ok (.tup ((h.ps.drop (k+1)).map RP.enc)) G)=.ok (.tup ((h.ps.drop (k+1)).map RP.enc)) G:=Hj (by rw[Ld];exact Ru);have m1:=ZEZ (G:=G) (h.ps.take k);have m2:=ZGN (G:=G) (h.ps.drop (k+1));have lA:(h.A k).length<=100:=by unfold RH.A;rw[zV,qB];lia
 have lB:(h.B k).length<=100:=by unfold RH.B;rw[zV,qC];lia
 have eA:(h.ps.take k).map RP.nm=h.A k:=rfl;have eB:(h.ps.drop (k+1)).map RP.nm=h.B k:=rfl;rw[eA]at m1;rw[eB]at m2;have h0:∀G,Ah h.enc (.int 0) G=.ok (.int h.yr) G:=λG=>Vu
 have h1:∀G,Ah h.enc (.int 1) G=.ok (.tup (h.ps.map RP.enc)) G:=λG=>V5
 unfold RH.rk;generalize(h.ps.take k).map RP.enc=EA at*;generalize(h.ps.drop (k+1)).map RP.enc=EB at*;generalize h.ps.map RP.enc=PS at*;generalize h.A k=A at*;generalize h.B k=B at*;generalize h.yr=yr at*;generalize h.enc=H at*;have cN:=ZNS (z:=p.nm) (G:=G) sh.nm;have nA:=ZE6 (x:=p.nm) (l:=A) (G:=G);have cR:=ZOM (p:=p) (l:=B) G;have cM:=ZK7 (p:=p) G;have fA:freeze G (.ok (.ref G.length) (G++[.lst (A.map D.str)]))=.ok (.fl (A.map D.str)) G:=Cr G6
 have fB:freeze G (.ok (.ref G.length) (G++[.lst (B.map D.str)]))=.ok (.fl (B.map D.str)) G:=Cr G6;have fM:freeze G (.ok (.ref G.length) (G++[.lst (((Cy p.kd).1::(Cy p.kd).2).map D.int)]))=.ok (.fl (((Cy p.kd).1::(Cy p.kd).2).map D.int)) G:=Cr Hm;have mn:Oj [.fl (((Cy p.kd).1::(Cy p.kd).2).map D.int)] G=.ok (.int ((Cy p.kd).2.foldl min (Cy p.kd).1)) G:=ZK3 rfl;have eN:Et p.kd= !decide ((Cy p.kd).2.foldl min (Cy p.kd).1<0):=rfl
 generalize((Cy p.kd).1::(Cy p.kd).2).map D.int=MM at*;generalize(Cy p.kd).2.foldl min (Cy p.kd).1=mm at*;have lA':(A.map D.str).length<=1000000:=by rw[zV];lia
 have lB':(B.map D.str).length<=1000000:=by rw[zV];lia
 have lAB:(A.map D.str).length+(B.map D.str).length<=1000000:=by rw[zV,zV];lia
 have hcs:∀S:DSt,Bx 1 [] S=[vZ]:=λ_=>rfl
 have k0:(0:Int)<=(k:Int)/\(k:Int)<1000:=by lia
 have ad:Bb (.fl (A.map D.str)) (.fl (B.map D.str)) G=.ok (.ref G.length) (G++[.lst ((A++B).map D.str)]):=by rw[Ms,if_pos lAB,qF]
 have hG:(G++[DO.lst ((A++B).map D.str)])[G.length]?=vQ (.lst ((A++B).map D.str)):=by simp
 have tp:tidy G (.ok .non (G++[.lst ((A++B).map D.str)]))=.ok .non G:=Nv rfl;unfold rnk;by_cases k1:Fg A p=vX
 ·refine⟨λz=>(by rw[if_pos k1]at z;cases z),λ_=>⟨[],?_⟩⟩;rw[if_pos k1,zU];generalize A.map D.str=DA' at*;generalize B.map D.str=DB' at*;unfold Fg at k1;unfold Ie N6;rw[Br];cases e1:isN p.nm.cps.toList with
  |false=>
   rw[e1]at cN;simp[h1,ap,Dn,c1,f1,hcs,m1,Ba,lA',fA,c2,f2,m2,lB',fB,nerr,cN,sRz,k0,cls5]
  |true=>
   rw[e1]at k1 cN;have e2:decide (p.nm∈A)=vJ:=by simpa using k1
   rw[e2]at nA;simp[h1,ap,Dn,c1,f1,hcs,m1,Ba,lA',fA,c2,f2,m2,lB',fB,nerr,cN,nA,sRz,k0,cls5]
 ·rw [if_neg k1];have q1:isN p.nm.cps.toList=vJ:=by unfold Fg at k1;simp at k1;exact k1.1
  have q2:decide (p.nm∈A)=vX:=by unfold Fg at k1;simp at k1;exact decide_eq_false k1.2
  rw[q1]at cN;rw[q2]at nA;by_cases k2:G7 B p=vX
  ·refine⟨λz=>(by rw[if_pos k2]at z;cases z),λ_=>⟨[],?_⟩⟩;rw[if_pos k2,zU];rw[k2]at cR;generalize A.map D.str=DA' at*;generalize B.map D.str=DB' at*;unfold Ie N6;rw[Br];simp[h1,ap,Dn,c1,f1,hcs,m1,Ba,lA',fA,c2,f2,m2,lB',fB,nerr,cN,nA,cR,sRz,k0,cls5]
  ·rw [if_neg k2];have q3:G7 B p=vJ:=by simpa using k2
   rw[q3]at cR;by_cases k3:Et p.kd=vX
   ·refine⟨λz=>(by rw[if_pos k3]at z;cases z),λ_=>⟨[],?_⟩⟩;rw[if_pos k3,zU];have q4:mm<0:=by rw[k3]at eN;simpa using eN
    generalize A.map D.str=DA' at*;generalize B.map D.str=DB' at*;unfold Ie N6;rw[Br];simp[h1,ap,Dn,c1,f1,hcs,m1,Ba,lA',fA,c2,f2,m2,lB',fB,nerr,cN,nA,cR,cM,fM,mn,q4,sRz,k0,cls5]
   ·rw [if_neg k3];have q4:¬mm<0:=by
     have:Et p.kd=vJ:=by simpa using k3
     rw[this]at eN;simpa using eN
    cases e:p.kd with
    |town a b=>
     have nb:¬(("town":Str)="basin"):=by decide
     refine⟨λ_=>?_,λz=>absurd rfl z⟩;generalize A.map D.str=DA' at*;generalize B.map D.str=DB' at*;unfold Ie N6;rw[Br];simp[h1,ap,Dn,c1,f1,hcs,m1,Ba,lA',fA,c2,f2,m2,lB',fB,nerr,cN,nA,cR,cM,fM,mn,q4,e,RK.txt,nb,Bp]
    |mill a=>
     have nb:¬(("mill":Str)="basin"):=by decide
     refine⟨λ_=>?_,λz=>absurd rfl z⟩;generalize A.map D.str=DA' at*;generalize B.map D.str=DB' at*;unfold Ie N6;rw[Br];simp[h1,ap,Dn,c1,f1,hcs,m1,Ba,lA',fA,c2,f2,m2,lB',fB,nerr,cN,nA,cR,cM,fM,mn,q4,e,RK.txt,nb,Bp]
    | basin b r q=>
     have e5:∀G,Ah p.enc (.int 5) G=.ok (.tup (r.map Am)) G:=λG=>by simp[RP.enc,RP.row,e,RK.rest]
     have e6:∀G,Ah p.enc (.int 6) G=.ok (pmD q) G:=λG=>by simp[RP.enc,RP.row,e,RK.rest]
     have cP:=ZHu (q:=q) hG;have cU:=ZLr (yr:=yr) (r:=r) (q:=q) (sh.ru b r q e) (G++[DO.lst ((A++B).map D.str)]);have t0:Ie [H,.int k] G=tidy G ((Ak (sIf (El (Ar (dFn (nerr O9) (Ad (dOp Ah (dV 3) (dC (.int 6))) (Ad (dOp Bb (dV 4) (dV 5)) Ag))))) (sRz "NoPump" "place" (Ad (dV 1) Ag)) sNx) (sIf (El (Ar (dFn (nerr Nt) (Ad (dOp Ah (dV 3) (dC (.int 5))) (Ad (dOp Ah (dV 3) (dC (.int 6))) (Ad (dOp Ah (dV 0) (dC (.int 0))) Ag)))))) (sRz "NoRule" "place" (Ad (dV 1) Ag)) sNx)) [vQ H,vQ (.int k),vQ (.tup PS),vQ p.enc,vQ (.fl (A.map D.str)),vQ (.fl (B.map D.str))] G).ret:=by
      generalize A.map D.str=DA' at*;generalize B.map D.str=DB' at*;generalize hT:(Ak (sIf (El (Ar (dFn (nerr O9) (Ad (dOp Ah (dV 3) (dC (.int 6))) (Ad (dOp Bb (dV 4) (dV 5)) Ag))))) (sRz "NoPump" "place" (Ad (dV 1) Ag)) sNx) (sIf (El (Ar (dFn (nerr Nt) (Ad (dOp Ah (dV 3) (dC (.int 5))) (Ad (dOp Ah (dV 3) (dC (.int 6))) (Ad (dOp Ah (dV 0) (dC (.int 0))) Ag)))))) (sRz "NoRule" "place" (Ad (dV 1) Ag)) sNx))=T
      unfold Ie N6;rw[Br,hT];simp[h1,ap,Dn,c1,f1,hcs,m1,Ba,lA',fA,c2,f2,m2,lB',fB,nerr,cN,nA,cR,cM,fM,mn,q4,e,RK.txt]
     rw[t0];generalize hG2:G++[DO.lst ((A++B).map D.str)]=G2 at*;generalize A.map D.str=DA' at*;generalize B.map D.str=DB' at*;generalize r.map Am=RR at*;simp only;by_cases k4:Fi (A++B) q=vX
     ·rw[k4]at cP;refine⟨λz=>(by rw[if_pos k4]at z;cases z),λ_=>⟨[DO.lst ((A++B).map D.str)],?_⟩⟩;rw[if_pos k4,hG2];simp[-Ms,e6,ad,nerr,cP,sRz,k0,cls5]
     ·have k4':Fi (A++B) q=vJ:=by simpa using k4
      rw[k4']at cP;rw[if_neg k4];by_cases k5:Dz yr r q=vX
      ·rw[k5]at cU;refine⟨λz=>(by rw[if_pos k5]at z;cases z),λ_=>⟨[DO.lst ((A++B).map D.str)],?_⟩⟩;rw[if_pos k5,hG2];simp[-Ms,e5,e6,ad,nerr,cP,h0,cU,sRz,k0,cls5]
      ·have k5':Dz yr r q=vJ:=by simpa using k5
       rw[k5']at cU;rw[if_neg k5];refine⟨λ_=>?_,λz=>absurd rfl z⟩;simp[-Ms,e5,e6,ad,nerr,cP,h0,cU,tp]
@[simp]theorem ZPh{i j:Int}:Bw (.int i) (.int j) G=.ok (.int (i+j)) G:=id rfl
theorem Iu{xs ys:List D}(h:xs.length+ys.length<=1000000):Bw (.tup xs) (.tup ys) G=.ok (.tup (xs++ys)) G:=by
 cases xs with
 |nil=>rfl
 |cons x xs=>
  show Bb (.tup (x::xs)) (.tup ys) G=_;unfold Bb;simp only;rw[if_pos ⟨by simp,h⟩]
theorem Ij{xs:List D}(h:bels G.length xs=vJ):freeze G (.ok (.tup xs) G)=.ok (.tup xs) G:=Hj (by rw[Ld];exact h)
theorem ZHW{n:Nat}{xs:List D}(h:bels n xs=vJ):bels n (xs.take k)=vJ:=by rw[<-jY k xs,Lw,zZ]at h;exact h.1
theorem ZFl{n:Nat}{xs:List D}(h:bels n xs=vJ):bels n (xs.drop k)=vJ:=by rw[<-jY k xs,Lw,zZ]at h;exact h.2
theorem Qd{xs:List D}(hj:j<xs.length)(hl:xs.length<=1000)(hb:bels G.length xs=vJ)(hd:bel G.length d=vJ):Cj [.tup xs,.int j,d] G=.ok (.tup (xs.set j d)) G:=by
 have c1:cutD xs vZ (vQ (j:Int))=xs.take j:=Kr (by lia);have c2:cutD xs (vQ ((j:Int)+1)) vZ=xs.drop (j+1):=by rw[show(j:Int)+1=((j+1:Nat):Int) by lia];exact Oh (by lia)
 have f1:=Ij (G:=G) (ZHW (k:=j) hb);have f2:=Ij (G:=G) (ZFl (k:=j+1) hb);have b3:bels G.length (xs.take j++[d])=vJ:=by rw[Lw,ZHW hb];simp[hd]
 have f3:=Ij (G:=G) b3;have a1:Bw (.tup (xs.take j)) (.tup [d]) G=.ok (.tup (xs.take j++[d])) G:=Iu (by simp;lia);have a2:Bw (.tup (xs.take j++[d])) (.tup (xs.drop (j+1))) G=.ok (.tup (xs.take j++[d]++xs.drop (j+1))) G:=Iu (by simp;lia);have es:xs.set j d=xs.take j++[d]++xs.drop (j+1):=by rw[List.set_eq_take_append_cons_drop,if_pos hj];simp
 have be:bel G.length (.tup (xs.take j++[d]++xs.drop (j+1)))=vJ:=by rw[Ld,Lw,b3,ZFl hb];rfl
 rw[es];generalize xs.take j++[d]++xs.drop (j+1)=R at*;generalize xs.take j++[d]=T at*;generalize xs.take j=T0 at*;generalize xs.drop (j+1)=T1 at*;unfold Cj ZGI;rw[Br];simp[Dn,c1,f1,Bl,a1,f3,c2,f2,a2,Bp be]
theorem Xz:p.row.length<=7/\5<=p.row.length:=by
 unfold RP.row RK.rest
 cases p.kd<;>simp
theorem Hf{q:RP}(hj:j<p.row.length)(hd:∀n,bel n d=vJ)(e:p.row.set j d=q.row)(G:DH):Cj [p.enc,.int j,d] G=.ok q.enc G:=by have:=Xz (p:=p);rw[RP.enc,RP.enc,<-e];exact Qd hj (by lia) ZNk (hd _)
theorem ZJ0:∃r:Nat,1<=r/\r<=5/\(r=5->∃b rr q,p.kd=.basin b rr q)/\(r=4->∃b rr z,p.kd=.basin b rr (vQ z))/\∀G,I8 [p.enc,.int x] G=.ok (.int r) G:=by
 have hm:∃m:Nat,m<7/\(m:Int)=x%7:=⟨(x%7).toNat,by lia,by lia⟩;obtain⟨m,m7,em⟩:=hm;have fz:∀G:DH,freeze G (.ok (.ref G.length) (G++[.lst [.int 1,.int 2,.int 3,.int 4,.int 5,.int 5,.int 5]]))=.ok (.fl [.int 1,.int 2,.int 3,.int 4,.int 5,.int 5,.int 5]) G:=λG=>Cr rfl
 obtain⟨v,v1,v5,ev⟩:∃v:Nat,1<=v/\v<=5/\atI ([.int 1,.int 2,.int 3,.int 4,.int 5,.int 5,.int 5]:List D) (m:Int)=vQ (.int v):=by
  rcases(by lia:m=0∨m=1∨m=2∨m=3∨m=4∨m=5∨m=6)with rfl|rfl|rfl|rfl|rfl|rfl|rfl
  ·exact⟨1,by lia,by lia,rfl⟩
  ·exact⟨2,by lia,by lia,rfl⟩
  ·exact⟨3,by lia,by lia,rfl⟩
  ·exact⟨4,by lia,by lia,rfl⟩
  ·exact⟨5,by lia,by lia,rfl⟩
  ·exact⟨5,by lia,by lia,rfl⟩
  ·exact⟨5,by lia,by lia,rfl⟩
 have n1:¬(("town":Str)="basin"):=by decide
 have n2:¬(("mill":Str)="basin"):=by decide
 cases e:p.kd with
 | town a b=>
  by_cases h5:v=5
  ·subst h5;refine⟨2,by lia,by lia,λz=>by lia,λz=>by lia,λG=>?_⟩;unfold I8 Jk;rw[Br];simp[Ba,fz,<-em,ev,e,RK.txt,n1,Bp]
  ·by_cases h4:v=4
   ·subst h4;refine⟨3,by lia,by lia,λz=>by lia,λz=>by lia,λG=>?_⟩;unfold I8 Jk;rw[Br];simp[Ba,fz,<-em,ev,e,RK.txt,n1,Bp]
   ·refine⟨v,v1,v5,λz=>by lia,λz=>by lia,λG=>?_⟩;have h5':¬(v:Int)=5:=by lia
    have h4':¬(v:Int)=4:=by lia
    unfold I8 Jk;rw[Br];simp[Ba,fz,<-em,ev,h5',h4',Bp]
 | mill a=>
  by_cases h5:v=5
  ·subst h5;refine⟨2,by lia,by lia,λz=>by lia,λz=>by lia,λG=>?_⟩;unfold I8 Jk;rw[Br];simp[Ba,fz,<-em,ev,e,RK.txt,n2,Bp]
  ·by_cases h4:v=4
   ·subst h4;refine⟨3,by lia,by lia,λz=>by lia,λz=>by lia,λG=>?_⟩;unfold I8 Jk;rw[Br];simp[Ba,fz,<-em,ev,e,RK.txt,n2,Bp]
   ·refine⟨v,v1,v5,λz=>by lia,λz=>by lia,λG=>?_⟩;have h5':¬(v:Int)=5:=by lia
    have h4':¬(v:Int)=4:=by lia
    unfold I8 Jk;rw[Br];simp[Ba,fz,<-em,ev,h5',h4',Bp]
 | basin b rr q=>
  have e6:∀G,Ah p.enc (.int 6) G=.ok (pmD q) G:=λG=>by simp[RP.enc,RP.row,e,RK.rest]
  cases q with
  | none=>
   by_cases h4:v=4
   ·subst h4;refine⟨3,by lia,by lia,λz=>by lia,λz=>by lia,λG=>?_⟩;unfold I8 Jk;rw[Br];simp[Ba,fz,<-em,ev,e,RK.txt,e6,pmD,Ds,Bp]
   ·refine⟨v,v1,v5,λ_=>⟨_,_,_,rfl⟩,λz=>by lia,λG=>?_⟩;have h4':¬(v:Int)=4:=by lia
    unfold I8 Jk;rw[Br]
    by_cases h5:(v:Int)=5<;>simp[Ba,fz,<-em,ev,e,RK.txt,h5,h4',Bp]
  |some z=>
   refine⟨v,v1,v5,λ_=>⟨_,_,_,rfl⟩,λ_=>⟨_,_,_,rfl⟩,λG=>?_⟩;obtain⟨t,d,m⟩:=z;unfold I8 Jk;rw[Br];by_cases h5:(v:Int)=5
   ·simp[Ba,fz,<-em,ev,e,RK.txt,h5,Bp]
   ·by_cases h4:(v:Int)=4<;>simp[Ba,fz,<-em,ev,e,RK.txt,h5,h4,e6,pmD,Ds,Bp]
theorem Xy(h:c∈cs)(hs:small c=vX):isN cs=vX:=by
 unfold isN;have:cs.all small=vX:=by rw[<-qW,zH];intro z;rw[z c h]at hs;cases hs
 rw[this];simp
theorem ZIW(h:cs.length=0∨9<=cs.length):isN cs=vX:=by unfold isN;have:decide (1<=cs.length/\cs.length<=8)=vX:=decide_eq_false (by lia);rw[this];simp
theorem Rw:(An l).cps.toList=l:=by simp[An]
theorem Nf:(An l).length=l.length:=by simp[An,Str.length]
theorem M5(hp:ps[k]?=vQ p):atI (ps.map RP.enc) (k:Int)=vQ p.enc:=Dq rfl (by rw[zv,hp];rfl)
theorem ZM8(hp:ps[k]?=vQ p)(hn:ps.length<=100)(el:p.nm=An l)(h1:1<=l.length)(h8:l.length<=8):
  ∃z:Str,(isN z.cps.toList=vX∨z∈(ps.take k).map RP.nm)/\(z.length<=1000∨z∈(ps.take k).map RP.nm)/\∀G,Ra [.tup (ps.map RP.enc),.int k,.int x] G=.ok (.str z) G:=by
 have hk:k<ps.length:=(zJ.mp hp).1;have ap:=M5 hp;by_cases h7:x%8=7/\0<k
 ·obtain⟨j,hj,ej⟩:∃j:Nat,j<k/\(j:Int)=x/8%(k:Int):=by have a:=zI (x/8) (show(k:Int)≠0 by lia);have b:=zL (x/8) (show(0:Int)<k by lia);exact⟨(x/8%(k:Int)).toNat,by lia,by lia⟩
  obtain⟨q,hq⟩:∃q,ps[j]?=vQ q:=⟨ps[j]'(by lia),zQ (by lia)⟩;have aq:=M5 hq;have mem:q.nm∈(ps.take k).map RP.nm:=z8.mpr ⟨q,qJ (i:=j) (by rw[qK hj];exact hq),rfl⟩;refine⟨q.nm,.inr mem,.inr mem,λG=>?_⟩;have kz:(0:Int)<(k:Int):=by lia
  generalize ps.map RP.enc=PS at*;unfold Ra ZCd;rw[Br];simp[ap,h7.1,h7.2,kz,<-ej,aq,Bp]
 ·obtain⟨m,m8,em⟩:∃m:Nat,m<8/\(m:Int)=x%8:=⟨(x%8).toNat,by lia,by lia⟩;obtain⟨S6,e6⟩:∃S:List Str,S=[("":Str),"sea",An (l++[97,98,99,100,101,102,103,104]),An (cutD l vZ (vQ 6)++[65]),An (cutD l vZ (vQ 7)++[51]),An ([32]++cutD l vZ (vQ 5))]:=⟨_,rfl⟩;obtain⟨S2,e2⟩:∃S:List Str,S=[An (cutD l vZ (vQ 3)++[45]++cutD l (vQ 3) (vQ 6)),"Sea"]:=⟨_,rfl⟩;have c6:=Ka l vZ (vQ 6)
  have c7:=Ka l vZ (vQ 7);have c5:=Ka l vZ (vQ 5);have c3:=Ka l vZ (vQ 3);have c36:=Ka l (vQ 3) (vQ 6);have good:∀z∈S6++S2,isN z.cps.toList=vX/\z.length<=1000:=λz hz=>by
   rw[e6,e2]at hz;simp only[zF,zz,j5,or_false]at hz;rcases hz with(rfl|rfl|rfl|rfl|rfl|rfl)|rfl|rfl
   ·exact⟨by decide +kernel,by decide +kernel⟩
   ·exact⟨by decide +kernel,by decide +kernel⟩
   ·exact⟨by rw[Rw];exact ZIW (.inr (by simp;lia)),by rw[Nf];simp;lia⟩
   ·exact⟨by rw[Rw];exact Xy (c:=65) (by simp) (by decide),by rw[Nf];simp;lia⟩
   ·exact⟨by rw[Rw];exact Xy (c:=51) (by simp) (by decide),by rw[Nf];simp;lia⟩
   ·exact⟨by rw[Rw];exact Xy (c:=32) (by simp) (by decide),by rw[Nf];simp;lia⟩
   ·exact⟨by rw[Rw];exact Xy (c:=45) (by simp) (by decide),by rw[Nf];simp;lia⟩
   ·exact⟨by decide +kernel,by decide +kernel⟩
  have ln:(S6++S2).length=8:=by rw[e6,e2];rfl
  obtain⟨z,hz⟩:∃z,(S6++S2)[m]?=vQ z:=⟨(S6++S2)[m]'(by lia),zQ (by lia)⟩;have az:atI (S6.map D.str++S2.map D.str) (m:Int)=vQ (.str z):=Dq rfl (by rw[<-qF,zv,hz];rfl);obtain⟨g1,g2⟩:=good z (qJ hz);refine⟨z,.inl g1,.inl g2,λG=>?_⟩;have w2:("abcdefgh":Str)=An [97,98,99,100,101,102,103,104]:=by decide +kernel
  have wA:("A":Str)=An [65]:=by decide +kernel
  have w3:("3":Str)=An [51]:=by decide +kernel
  have wb:(" ":Str)=An [32]:=by decide +kernel
  have wm:("-":Str)=An [45]:=by decide +kernel
  have s6:=Gg (l:=l) (lo:=vZ) (hi:=vQ 6) (by lia) G;have s7:=Gg (l:=l) (lo:=vZ) (hi:=vQ 7) (by lia) G;have s5:=Gg (l:=l) (lo:=vZ) (hi:=vQ 5) (by lia) G;have s3:=Gg (l:=l) (lo:=vZ) (hi:=vQ 3) (by lia) G;have s36:=Gg (l:=l) (lo:=vQ 3) (hi:=vQ 6) (by lia) G;have a2:=add_str (l:=l) (l':=[97,98,99,100,101,102,103,104]) (by simp;lia) G;have a6:=add_str (l:=cutD l vZ (vQ 6)) (l':=[65]) (by simp;lia) G
  have a7:=add_str (l:=cutD l vZ (vQ 7)) (l':=[51]) (by simp;lia) G;have a5:=add_str (l:=[32]) (l':=cutD l vZ (vQ 5)) (by simp;lia) G;have a3:=add_str (l:=cutD l vZ (vQ 3)) (l':=[45]) (by simp;lia) G;have a36:=add_str (l:=cutD l vZ (vQ 3)++[45]) (l':=cutD l (vQ 3) (vQ 6)) (by simp;lia) G;have f6:freeze G (.ok (.ref G.length) (G++[.lst (S6.map D.str)]))=.ok (.fl (S6.map D.str)) G:=Cr G6
  have f2:freeze G (.ok (.ref G.length) (G++[.lst (S2.map D.str)]))=.ok (.fl (S2.map D.str)) G:=Cr G6;have f8:freeze G (.ok (.ref G.length) (G++[.lst (S6.map D.str++S2.map D.str)]))=.ok (.fl (S6.map D.str++S2.map D.str)) G:=Cr (by rw[Lw,G6,G6];rfl);have l6:(S6.map D.str).length+(S2.map D.str).length<=1000000:=by rw[zV,zV];simp at ln;lia
  have ad:Bb (.fl (S6.map D.str)) (.fl (S2.map D.str)) G=.ok (.ref G.length) (G++[.lst (S6.map D.str++S2.map D.str)]):=by rw[Ms,if_pos l6]
  have E6:S6.map D.str=[.str "",.str "sea",.str (An (l++[97,98,99,100,101,102,103,104])),.str (An (cutD l vZ (vQ 6)++[65])),.str (An (cutD l vZ (vQ 7)++[51])),.str (An ([32]++cutD l vZ (vQ 5)))]:=by rw[e6];rfl
  have E2:S2.map D.str=[.str (An (cutD l vZ (vQ 3)++[45]++cutD l (vQ 3) (vQ 6))),.str "Sea"]:=by rw[e2];rfl
  generalize S6.map D.str=T6 at*;generalize S2.map D.str=T2 at*;generalize An (l++[97,98,99,100,101,102,103,104])=z2 at*;generalize An (cutD l vZ (vQ 6)++[65])=z6 at*;generalize An (cutD l vZ (vQ 7)++[51])=z7 at*;generalize An ([32]++cutD l vZ (vQ 5))=z5 at*;generalize An (cutD l vZ (vQ 3)++[45]++cutD l (vQ 3) (vQ 6))=z36 at*;generalize An (cutD l vZ (vQ 3)++[45])=z3 at*
  generalize An (cutD l vZ (vQ 6))=y6 at*;generalize An (cutD l vZ (vQ 7))=y7 at*;generalize An (cutD l vZ (vQ 5))=y5 at*;generalize An (cutD l vZ (vQ 3))=y3 at*;generalize An (cutD l (vQ 3) (vQ 6))=y36 at*;generalize An [97,98,99,100,101,102,103,104]=v2 at*;generalize An [65]=vA at*;generalize An [51]=v3 at*;generalize An [32]=vb at*;generalize An [45]=vm at*;generalize An l=L0 at*
  generalize ps.map RP.enc=PS at*;have l6a:T6.length<=1000000:=by lia
  have l2a:T2.length<=1000000:=by lia
  have n7:¬((x%8=7)/\(0:Int)<(k:Int)):=λq=>h7 ⟨q.1,by lia⟩
  unfold Ra ZCd;rw[Br];by_cases q7:x%8=7
  ·have k0:¬(0:Int)<(k:Int):=λq=>n7 ⟨q7,q⟩
   have k00:¬0<k:=by lia
   rw[em,q7]at az;simp[-K1,-J6,-Ms,ap,el,q7,k0,k00,w2,a2,Dn,s6,Jo,wA,a6,s7,w3,a7,wb,s5,a5,<-E6,l6a,f6,s3,wm,a3,s36,a36,<-E2,l2a,f2,ad,f8,az,Bp]
  ·rw[em]at az;simp[-K1,-J6,-Ms,ap,el,q7,w2,a2,Dn,s6,Jo,wA,a6,s7,w3,a7,wb,s5,a5,<-E6,l6a,f6,s3,wm,a3,s36,a36,<-E2,l2a,f2,ad,f8,az,Bp]
def rnP(old z:Str):RK->RK
 |.basin c r (vQ (t,d,m))=>.basin c r (vQ (if t=old then z else t,d,m))
 |k=>k
def rn(old z:Str)(b:Bool)(q:RP):RP:=⟨if b=vJ then z else q.nm,if q.dn=old then z else q.dn,q.dl,rnP old z q.kd⟩
section
variable{s0 s1:Option D}{z old:Str}{G:DH}{acc:List D}{k:Nat}
theorem rn4{q:RP}{sk:Option D}(ha:acc.length<=1000):ZAu [s0,s1,vQ (.str z),vQ (.str old),vQ (.ref G.length),sk,vQ q.enc] (G++[.lst acc])=.nx [s0,s1,vQ (.str z),vQ (.str old),vQ (.ref G.length),sk,vQ q.enc] (G++[.lst (acc++[q.enc])]):=by
 have g0:(G++[DO.lst acc])[G.length]?=vQ (.lst acc):=by simp
 have st:(G++[DO.lst acc]).set G.length (.lst (acc++[q.enc]))=G++[.lst (acc++[q.enc])]:=by simp
 have hl:acc.length<1000000:=by lia
 generalize q.enc=Q at*;unfold ZAu;simp[g0,hl,st]
theorem rn3{q:RP}(ha:acc.length<=1000):Y0 [s0,vQ (.int k),vQ (.str z),vQ (.str old),vQ (.ref G.length),vQ (.int i),vQ q.enc] (G++[.lst acc])=.nx [s0,vQ (.int k),vQ (.str z),vQ (.str old),vQ (.ref G.length),vQ (.int i),vQ (RP.enc {q with nm:=if i=k then z else q.nm})] (G++[.lst (acc++[RP.enc {q with nm:=if i=k then z else q.nm}])]):=by
 unfold Y0;by_cases e:i=k
 ·subst e;have cp:=Hf (p:=q) (q:={q with nm:=z}) (j:=1) (d:=.str z) (by have:=Xz (p:=q);lia) (λ_=>rfl) rfl (G++[.lst acc]);have fz:∀G:DH,freeze G (.ok (RP.enc {q with nm:=z}) G)=.ok (RP.enc {q with nm:=z}) G:=λG=>Hj Mt
  have r4:=rn4 (s0:=s0) (s1:=vQ (.int i)) (z:=z) (old:=old) (G:=G) (q:={q with nm:=z}) (sk:=vQ (.int i)) ha;have cp':Cj [q.enc,.int 1,.str z] (G++[.lst acc])=.ok (RP.enc {q with nm:=z}) (G++[.lst acc]):=cp;rw[if_pos rfl];generalize RP.enc {q with nm:=z}=Z at*;generalize q.enc=Q at*;simp[cp',fz,r4]
 ·have e':¬(i:Int)=(k:Int):=by lia
  have r4:=rn4 (s0:=s0) (s1:=vQ (.int k)) (z:=z) (old:=old) (G:=G) (q:=q) (sk:=vQ (.int i)) ha;have eq:({q with nm:=if i=k then z else q.nm}:RP)=q:=by rw[if_neg e]
  rw[eq];generalize q.enc=Q at*;simp[e,e',r4]
theorem rn2{q:RP}(ha:acc.length<=1000):ZBZ [s0,vQ (.int k),vQ (.str z),vQ (.str old),vQ (.ref G.length),vQ (.int i),vQ q.enc] (G++[.lst acc])=Y0 [s0,vQ (.int k),vQ (.str z),vQ (.str old),vQ (.ref G.length),vQ (.int i),vQ (RP.enc {q with kd:=rnP old z q.kd})] (G++[.lst acc]):=by
 have nt:¬(("town":Str)="basin"):=by decide
 have nm:¬(("mill":Str)="basin"):=by decide
 unfold ZBZ;cases e:q.kd with
 | town a b=>
  have eq:({q with kd:=rnP old z (.town a b)}:RP)=q:=by
   obtain⟨x1,x2,x3,x4⟩:=q;dsimp only at e;subst e
   rfl
  rw[eq];simp[e,RK.txt,nt]
 | mill a=>
  have eq:({q with kd:=rnP old z (.mill a)}:RP)=q:=by
   obtain⟨x1,x2,x3,x4⟩:=q;dsimp only at e;subst e
   rfl
  rw[eq];simp[e,RK.txt,nm]
 | basin b r pq=>
  have e6:∀G,Ah q.enc (.int 6) G=.ok (pmD pq) G:=λG=>by simp[RP.enc,RP.row,e,RK.rest]
  cases pq with
  | none=>
   have eq:({q with kd:=rnP old z (.basin b r vZ)}:RP)=q:=by
    obtain⟨x1,x2,x3,x4⟩:=q;dsimp only at e;subst e
    rfl
   rw[eq];simp[e,RK.txt,e6,pmD,Ds]
  | some w=>
   obtain⟨t,d,m⟩:=w;by_cases et:t=old
   ·have eq:({q with kd:=rnP old z (.basin b r (vQ (t,d,m)))}:RP)={q with kd:=.basin b r (vQ (z,d,m))}:=by show({q with kd:=.basin b r (vQ (if t=old then z else t,d,m))}:RP)=_;rw[if_pos et]
    rw[eq];have cp:=Hf (p:=q) (q:={q with kd:=.basin b r (vQ (z,d,m))}) (j:=6) (d:=.tup [.str z,.int d,.int m]) (by unfold RP.row RK.rest;rw[e];simp) (λ_=>rfl) (by unfold RP.row RK.rest;rw[e];rfl) (G++[.lst acc]);have cp':Cj [q.enc,.int 6,.tup [.str z,.int d,.int m]] (G++[.lst acc])=.ok (RP.enc {q with kd:=.basin b r (vQ (z,d,m))}) (G++[.lst acc]):=cp;have fz:∀G:DH,freeze G (.ok (RP.enc {q with kd:=.basin b r (vQ (z,d,m))}) G)=.ok (RP.enc {q with kd:=.basin b r (vQ (z,d,m))}) G:=λG=>Hj Mt
    have c1:∀t:Str,cutD [D.str t,.int d,.int m] (vQ 1) vZ=[.int d,.int m]:=λ_=>rfl
    have f1:∀G:DH,freeze G (.ok (.tup [.int d,.int m]) G)=.ok (.tup [.int d,.int m]) G:=λG=>Hj rfl
    have f2:∀G:DH,freeze G (.ok (.tup [.str z,.int d,.int m]) G)=.ok (.tup [.str z,.int d,.int m]) G:=λG=>Hj rfl
    generalize RP.enc {q with kd:=.basin b r (vQ (z,d,m))}=Z at*;simp[e,RK.txt,e6,pmD,Ds,et,Bl,Dn,c1,f1,f2,cp',fz]
   ·have eq:({q with kd:=rnP old z (.basin b r (vQ (t,d,m)))}:RP)=q:=by obtain⟨x1,x2,x3,x4⟩:=q;dsimp only at e;subst e;show(⟨x1,x2,x3,.basin b r (vQ (if t=old then z else t,d,m))⟩:RP)=_;rw[if_neg et]
    rw[eq];simp[e,RK.txt,e6,pmD,Ds,et]
theorem rn1{q:RP}{PS:List D}{x6:Option D}(hq:atI PS (i:Int)=vQ q.enc)(ha:acc.length<=1000):Py [vQ (.tup PS),vQ (.int k),vQ (.str z),vQ (.str old),vQ (.ref G.length),vQ (.int i),x6] (G++[.lst acc])=.nx [vQ (.tup PS),vQ (.int k),vQ (.str z),vQ (.str old),vQ (.ref G.length),vQ (.int i),vQ (RP.enc (rn old z (decide (i=k)) q))] (G++[.lst (acc++[RP.enc (rn old z (decide (i=k)) q)])]):=by
 have er:rn old z (decide (i=k)) q={({({q with dn:=if q.dn=old then z else q.dn}:RP)with kd:=rnP old z q.kd}:RP)with nm:=if i=k then z else q.nm}:=by
  unfold rn
  by_cases e:i=k<;>simp[e]
 rw[er];have r2:=rn2 (s0:=vQ (.tup PS)) (z:=z) (old:=old) (G:=G) (acc:=acc) (k:=k) (q:={q with dn:=if q.dn=old then z else q.dn}) (i:=i) ha;have r3:=rn3 (s0:=vQ (.tup PS)) (z:=z) (old:=old) (G:=G) (acc:=acc) (k:=k) (q:={({q with dn:=if q.dn=old then z else q.dn}:RP)with kd:=rnP old z q.kd}) (i:=i) ha;rw[<-r3,<-r2];unfold Py ZFH;by_cases e:q.dn=old
 ·have cp:=Hf (p:=q) (q:={q with dn:=z}) (j:=2) (d:=.str z) (by have:=Xz (p:=q);lia) (λ_=>rfl) rfl (G++[.lst acc]);have cp':Cj [q.enc,.int 2,.str z] (G++[.lst acc])=.ok (RP.enc {q with dn:=z}) (G++[.lst acc]):=cp;have fz:∀G:DH,freeze G (.ok (RP.enc {q with dn:=z}) G)=.ok (RP.enc {q with dn:=z}) G:=λG=>Hj Mt
  have eq:({q with dn:=if q.dn=old then z else q.dn}:RP)={q with dn:=z}:=by rw[if_pos e]
  rw[eq];generalize RP.enc {q with dn:=z}=Z at*;simp[hq,e,cp',fz]
 ·have eq:({q with dn:=if q.dn=old then z else q.dn}:RP)=q:=by rw[if_neg e]
  rw[eq];simp[hq,e]
theorem ZHD{ps:List RP}:∀(m i:Nat)(acc:List D)(x5 x6:Option D),i+m=ps.length->acc.length+m<=1000->∃y5 y6,
  Dp (gV 5) Py (Cv i m) [vQ (.tup (ps.map RP.enc)),vQ (.int k),vQ (.str z),vQ (.str old),vQ (.ref G.length),x5,x6] (G++[.lst acc])=
   .nx [vQ (.tup (ps.map RP.enc)),vQ (.int k),vQ (.str z),vQ (.str old),vQ (.ref G.length),y5,y6] (G++[.lst (acc++(qz i m).map λj=>RP.enc (rn old z (decide (j=k)) (ps.getD j ⟨"","",0,.mill 0⟩)))])
 |0,i,acc,x5,x6,_,_=>⟨x5,x6,by rw[Ko,Ik];simp⟩
 |m+1,i,acc,x5,x6,e,hl=>by
  have hi:i<ps.length:=by lia
  have hq:ps[i]?=vQ (ps.getD i ⟨"","",0,.mill 0⟩):=by rw[zA,zQ hi];rfl
  obtain⟨y5,y6,ih⟩:=ZHD (ps:=ps) m (i+1) (acc++[RP.enc (rn old z (decide (i=k)) (ps.getD i ⟨"","",0,.mill 0⟩))]) (vQ (.int i)) (vQ (RP.enc (rn old z (decide (i=k)) (ps.getD i ⟨"","",0,.mill 0⟩)))) (by lia) (by simp;lia);refine⟨y5,y6,?_⟩;have hb:=rn1 (z:=z) (old:=old) (G:=G) (acc:=acc) (k:=k) (x6:=x6) (M5 hq) (by lia);have e1:((i:Int)+1)=((i+1:Nat):Int):=by lia
  rw[Ir,H9];simp only[Hd,R.J0,jZ,hb,Jf];rw[e1,ih,List.range'_succ,zk,qY]
  rfl
end
def rnL(old z:Str)(k:Nat)(ps:List RP):List RP:=(qz 0 ps.length).map λj=>rn old z (decide (j=k)) (ps.getD j ⟨"","",0,.mill 0⟩)
theorem ZB2(h:ps[i]?=vQ p):(rnL old z k ps)[i]?=vQ (rn old z (decide (i=k)) p):=by have hi:=(zJ.mp h).1;unfold rnL;rw[zv,List.getElem?_range' hi];simp[zA,h]
theorem ZDP:(rnL old z k ps).length=ps.length:=by simp[rnL]
theorem ZJi(hp:ps[k]?=vQ p)(hn:ps.length<=100)(G:DH):Vk [.tup (ps.map RP.enc),.int k,.str z] G=.ok (.tup ((rnL p.nm z k ps).map RP.enc)) G:=by
 have ap:=M5 hp;obtain⟨y5,y6,hL⟩:=ZHD (k:=k) (z:=z) (old:=p.nm) (G:=G) (ps:=ps) ps.length 0 [] vZ vZ (by lia) (by simp;lia);rw[jQ]at hL;have hL':Dp (gV 5) Py (Cv 0 ps.length) [vQ (.tup (ps.map RP.enc)),vQ (.int k),vQ (.str z),vQ (.str p.nm),vQ (.ref G.length),vZ,vZ] (G++[.lst []])=.nx [vQ (.tup (ps.map RP.enc)),vQ (.int k),vQ (.str z),vQ (.str p.nm),vQ (.ref G.length),y5,y6] (G++[.lst ((rnL p.nm z k ps).map RP.enc)]):=by
  rw[show(rnL p.nm z k ps).map RP.enc=(qz 0 ps.length).map λj=>RP.enc (rn p.nm z (decide (j=k)) (ps.getD j ⟨"","",0,.mill 0⟩)) by unfold rnL;rw[qy];rfl];exact hL
 have tn:tidy G (.ok (.ref G.length) (G++[.lst []]))=.ok (.ref G.length) (G++[.lst []]):=Im rfl;have hr:inR (ps.length:Int):=Gz (by lia) (by lia);have ln:(((ps.map RP.enc).length:Nat):Int)=ps.length:=by rw[zV]
 have lr:((rnL p.nm z k ps).map RP.enc).length<=1000000:=by rw[zV,ZDP];lia
 have g0:(G++[DO.lst ((rnL p.nm z k ps).map RP.enc)])[G.length]?=vQ (.lst ((rnL p.nm z k ps).map RP.enc)):=by simp
 have td:tidy G (.ok (.tup ((rnL p.nm z k ps).map RP.enc)) (G++[DO.lst ((rnL p.nm z k ps).map RP.enc)]))=.ok (.tup ((rnL p.nm z k ps).map RP.enc)) G:=Nv (by rw[Ld];exact Ru);generalize(rnL p.nm z k ps).map RP.enc=R at*;generalize ps.map RP.enc=PS at*;unfold Vk ZGc;rw[Br];simp[ap,Ba,tn,ln,hr,hL',g0,td,lr]
theorem ZGj{xs:List D}{x:D}:atI (xs++[x]) (-1)=vQ x:=by
 rw[ZLz (by decide) (by simp;lia)];have e3:((-1:Int)+((xs++[x]).length:Int)).toNat=xs.length:=by simp;lia
 simp only[e3];simp
theorem ZBX{s t:Ssn}{r2:List Ssn}:∀(r1:List Ssn)(a:Int),Fy yr a (r1++s::t::r2)=vJ->s.1<t.1
 |[],a,h=>by simp only[jQ,Fy,zZ,decide_eq_true_eq]at h;exact h.2.1.1
 |u::r1,a,h=>by simp only[List.cons_append,Fy,zZ]at h;exact ZBX r1 u.1 h.2
theorem ZDt:∀(r:List Ssn)(a:Int),Fy yr a r=vJ->∀s∈r,s.1<yr
 |[],_,_,s,hs=>nomatch hs
 |u::r,a,h,s,hs=>by
  simp only[Fy,zZ,decide_eq_true_eq]at h;rcases zz.mp hs with rfl|hs
  ·exact h.1.2
  ·exact ZDt r u.1 h.2 s hs
theorem V7{s t:Stp}{r2:List Stp}:∀(r1:List Stp)(a:Int),Dk a (r1++s::t::r2)=vJ->s.h+s.m<=t.h
 |[],a,h=>by simp only[jQ,Dk,zZ,decide_eq_true_eq]at h;exact h.2.1.1
 |u::r1,a,h=>by simp only[List.cons_append,Dk,zZ]at h;exact V7 r1 _ h.2
theorem Rx:∀(r:List Stp)(a:Int),Dk a r=vJ->∀s∈r,1<=s.m
 |[],_,_,s,hs=>nomatch hs
 |u::r,a,h,s,hs=>by
  simp only[Dk,zZ,decide_eq_true_eq]at h;rcases zz.mp hs with rfl|hs
  ·exact h.1.2
  ·exact Rx r _ h.2 s hs
theorem Ve{r:List Ssn}(h:Hn yr r=vJ):Fy yr (-1) r=vJ:=by
 cases r with
 |nil=>cases h
 |cons s r=>
  unfold Hn at h;exact(zP.mp h).2
theorem Qp{r:List Ssn}(h:Hn yr r=vX):Dz yr r q=vX:=by unfold Dz;rw[h];rfl
theorem ZOV{r:List Ssn}{s:Ssn}(hs:s∈r)(h:(Dk 0 s.2&&Fb s.2 q)=vX):Dz yr r q=vX:=by
 unfold Dz;have:(r.all λs=>Dk 0 s.2&&Fb s.2 q)=vX:=by rw[<-qW,zH];intro z;rw[z s hs]at h;cases h
 rw[this,Bool.and_false]
theorem Le{n:Nat}{r:List Stp}:bels n (r.map Stp.enc)=vJ:=Hw λ_ _=>rfl
noncomputable def Ci(st:List Stp):Int:=match st.getLast? with
 |some s=>s.h+s.m
 |none=>0
section
variable{yr:Int}{r:List Ssn}{q:Option (Str×Int×Int)}{x:Int}{w:Int}{j:Nat}{sj:Ssn}
theorem ZIk(hr:r.length<=100)(hj:r[j]?=vQ sj)(ej:(j:Int)=x%(r.length:Int))(G:DH):
  Um [vQ (.tup (r.map Am)),vQ (pmD q),vQ (.int yr),vQ (.int w),vQ (.int x),vZ,vZ,vZ,vZ,vZ,vZ,vZ,vZ,vZ,vZ] G=
   Hr [vQ (.tup (r.map Am)),vQ (pmD q),vQ (.int yr),vQ (.int w),vQ (.int x),vQ (.int j),vQ (.int sj.1),vQ (.tup (sj.2.map Stp.enc)),vQ (.int (Ci sj.2)),vZ,vZ,vZ,vZ,vZ,vZ] G:=by
 have hl:0<r.length:=by have:=(zJ.mp hj).1;lia
 have ln:(((r.map Am).length:Nat):Int)=(r.length:Int):=by rw[zV]
 have nz:¬((r.length:Int)=0):=by lia
 have nz':¬r.map Am=[]:=by cases r with |nil=>simp at hl|cons a b=>simp
 have lz:(0:Int)<(r.length:Int):=by lia
 have rne:r≠[]:=λz=>by rw[z]at hl;simp at hl
 have lz':0<r.length:=hl;have aj:atI (r.map Am) (j:Int)=vQ (Am sj):=Dq rfl (by rw[zv,hj];rfl);have es:Am sj=.tup [.int sj.1,.tup (sj.2.map Stp.enc)]:=rfl;rw[es]at aj;have key:W6 [vQ (.tup (r.map Am)),vQ (pmD q),vQ (.int yr),vQ (.int w),vQ (.int x),vQ (.int j),vQ (.int sj.1),vQ (.tup (sj.2.map Stp.enc)),vQ (.int 0),vZ,vZ,vZ,vZ,vZ,vZ] G=Hr [vQ (.tup (r.map Am)),vQ (pmD q),vQ (.int yr),vQ (.int w),vQ (.int x),vQ (.int j),vQ (.int sj.1),vQ (.tup (sj.2.map Stp.enc)),vQ (.int (Ci sj.2)),vZ,vZ,vZ,vZ,vZ,vZ] G:=by
  rcases j6 sj.2 with e|⟨l,s,e⟩
  ·rw[e];have t0:Ci []=0:=rfl;rw[t0];unfold W6;simp
  ·rw[j7]at e;rw[e];have t0:Ci (l++[s])=s.h+s.m:=by unfold Ci;simp
   have al:atI ((l++[s]).map Stp.enc) (-1)=vQ (Stp.enc s):=by rw[qF];exact ZGj
   have ll:(0:Int)<((((l++[s]).map Stp.enc).length:Nat):Int):=by rw[zV,qj,List.length_singleton];lia
   have lne:((l++[s]).map Stp.enc)≠[]:=by simp
   have es2:Stp.enc s=.tup [.int s.h,.int s.m,.str (wy s.r)]:=rfl;rw[t0];rw[es2]at al;generalize(l++[s]).map Stp.enc=Z at*;generalize r.map Am=R at*;have ll':0<Z.length:=by lia
   unfold W6;simp[ll,ll',al,Gs]
 rw[<-key];generalize sj.2.map Stp.enc=Z at*;generalize r.map Am=R at*;unfold Um ZHf ZGC ZHV;simp[ln,nz,nz',rne,lz,lz',<-ej,aj]
end
section
variable{yr:Int}{r:List Ssn}{q:Option (Str×Int×Int)}{x:Int}{j:Nat}{sj:Ssn}{G:DH}
theorem Uw{f:α->D}{l:List α}(h:j<=l.length):cutD (l.map f) vZ (vQ (j:Int))=(l.take j).map f:=by rw[Kr (by rw[zV];exact h),jW]
theorem O5{f:α->D}{l:List α}(h:j<=l.length):cutD (l.map f) (vQ (j:Int)) vZ=(l.drop j).map f:=by rw[Oh (by rw[zV];exact h),jv]
theorem three{A B C:List D}(h:A.length+B.length+C.length<=1000)(ha:bels G.length A=vJ)(hb:bels G.length B=vJ)(hc:bels G.length C=vJ):
  freeze G (.ok (.tup A) G)=.ok (.tup A) G/\Bw (.tup A) (.tup B) G=.ok (.tup (A++B)) G/\freeze G (.ok (.tup (A++B)) G)=.ok (.tup (A++B)) G/\freeze G (.ok (.tup C) G)=.ok (.tup C) G/\Bw (.tup (A++B)) (.tup C) G=.ok (.tup (A++B++C)) G/\freeze G (.ok (.tup (A++B++C)) G)=.ok (.tup (A++B++C)) G:=
 ⟨Ij ha,Iu (by lia),Ij (by rw[Lw,ha,hb];rfl),Ij hc,Iu (by rw[qj];lia),Ij (by rw[Lw,Lw,ha,hb,hc];rfl)⟩
theorem ZI8(hr:r.length<=100)(hj:j<r.length){bg:Int}{s1 s2 s3 s4 s7 s8 s9 s10 s12 s13 s14:Option D}:
  ZBf [vQ (.tup (r.map Am)),s1,s2,s3,s4,vQ (.int j),vQ (.int bg),s7,s8,s9,s10,vQ (.tup (st.map Stp.enc)),s12,s13,s14] G=.rt (.tup ((r.take j++[(bg,st)]++r.drop (j+1)).map Am)) G:=by
 have c1:=Uw (f:=Am) (l:=r) (j:=j) (by lia);have c2:=O5 (f:=Am) (l:=r) (j:=j+1) (by lia);have e1:((j:Int)+1)=((j+1:Nat):Int):=by lia
 obtain⟨f1,a1,f3,f2,a2,_⟩:=three (G:=G) (A:=(r.take j).map Am) (B:=[Am (bg,st)]) (C:=(r.drop (j+1)).map Am) (by simp;lia) Jb (Jb (ss:=[(bg,st)])) Jb;have em:(r.take j++[(bg,st)]++r.drop (j+1)).map Am=(r.take j).map Am++[Am (bg,st)]++(r.drop (j+1)).map Am:=by simp
 rw[em];rw[<-e1]at c2;have es:Am (bg,st)=.tup [.int bg,.tup (st.map Stp.enc)]:=rfl;rw[es]at a1 f3 a2⊢;generalize(r.take j).map Am=A at*;generalize(r.drop (j+1)).map Am=C at*;generalize r.map Am=R at*;generalize st.map Stp.enc=Z at*;generalize A++[D.tup [.int bg,.tup Z]]++C=ABC at*;generalize A++[D.tup [.int bg,.tup Z]]=AB at*;unfold ZBf;simp[Dn,c1,f1,Bl,a1,f3,c2,f2,a2]
end
noncomputable def moF(u:Int):Option (Str×Int×Int)->Int
 |none=>0
 |some (_,_,m)=>max 0 m-u
theorem ZMv:Cp (Eb 3 (Bu (gV 0) (Bu (gV 1) (Bu (gV 2) Ej)))) ZCx ZA0 [vZ,vZ,vZ] (st.map Stp.enc) G=.ok ((pmps st).map D.int) G:=by
 rw[Qu (F:=λd=>match d with | .tup [_,m,.str w]=>if w="pump" then vQ m else vZ|_=>vZ) λy hy=>?_]
 ·congr 1
  unfold pmps
  induction st with
  |nil=>rfl
  |cons s st ih=>
   rw[zk,zO,ih,j4];have es:Stp.enc s=.tup [.int s.h,.int s.m,.str (wy s.r)]:=rfl;rw[es];cases hr:s.r with
   |true=>simp[wy,pr]
   |false=>simp[wy]
 ·obtain⟨s,_,rfl⟩:=z8.mp hy;have es:Stp.enc s=.tup [.int s.h,.int s.m,.str (wy s.r)]:=rfl;rw[es];refine⟨[vQ (.int s.h),vQ (.int s.m),vQ (.str (wy s.r))],by simp,?_⟩;unfold ZCx ZA0;cases hr:s.r with
  |true=>exact .inl ⟨by simp[wy,pr],by simp[wy,pr]⟩
  |false=>exact .inr ⟨by simp[wy],.int s.m,by simp,by simp[wy]⟩
section
variable{yr:Int}{r:List Ssn}{q:Option (Str×Int×Int)}{x:Int}{j:Nat}{sj:Ssn}
theorem ZJK(hj:r[j]?=vQ sj)(h:(Dk 0 st&&Fb st q)=vX):Dz yr (r.take j++[(sj.1,st)]++r.drop (j+1)) q=vX:=ZOV (s:=(sj.1,st)) (by simp) h
theorem ZM2{l:List α}{a:α}(h:l[j]?=vQ a):l=l.take j++a::l.drop (j+1):=by have hj:=(zJ.mp h).1;have e:=(zJ.mp h).2;rw[<-e,<-qZ hj,jY]
theorem ZOv(ok:Dz yr r q=vJ)(hr:r.length<=100)(hs:∀s∈r,s.2.length<=100){w:Nat}(hw:w<=7):
  ∃r',Dz yr r' q=vX/\(∀s∈r',s.2.length<=1000)/\r'.length<=200/\∀G,Nz [.tup (r.map Am),pmD q,.int yr,.int w,.int x] G=.ok (.tup (r'.map Am)) G:=by
 have oS:Hn yr r=vJ:=(zP.mp ok).1;have oA:=Ve oS;have oG:∀s∈r,Dk 0 s.2=vJ/\Fb s.2 q=vJ:=λs h=>by have:=zH.mp (zP.mp ok).2 s h;exact zP.mp this
 obtain⟨s0,r0,er⟩:∃s0 r0,r=s0::r0:=by
  cases r with
  |nil=>cases oS
  |cons a b=>exact⟨a,b,rfl⟩
 have hl:0<r.length:=by rw[er];simp
 obtain⟨j,hjl,ej⟩:∃j:Nat,j<r.length/\(j:Int)=x%(r.length:Int):=by have a:=zI x (show(r.length:Int)≠0 by lia);have b:=zL x (show(0:Int)<r.length by lia);exact⟨(x%(r.length:Int)).toNat,by lia,by lia⟩
 obtain⟨sj,hj⟩:∃s,r[j]?=vQ s:=⟨_,zQ hjl⟩;have mj:sj∈r:=qJ hj;obtain⟨gj,cj⟩:=oG sj mj;have lj:=hs sj mj;have pre:=λG=>ZIk (yr:=yr) (q:=q) (x:=x) (w:=(w:Int)) hr hj ej G
 have end_:∀(r':List Ssn),(∀G,Hr [vQ (.tup (r.map Am)),vQ (pmD q),vQ (.int yr),vQ (.int w),vQ (.int x),vQ (.int j),vQ (.int sj.1),vQ (.tup (sj.2.map Stp.enc)),vQ (.int (Ci sj.2)),vZ,vZ,vZ,vZ,vZ,vZ] G=.rt (.tup (r'.map Am)) G)->
   ∀G,Nz [.tup (r.map Am),pmD q,.int yr,.int w,.int x] G=.ok (.tup (r'.map Am)) G:=λr' h G=>by
  have p:=pre G;rw[h G]at p;have tb:tidy G (.ok (.tup (r'.map Am)) G)=.ok (.tup (r'.map Am)) G:=Bp (by rw[Ld];exact Jb);generalize r.map Am=R at*;generalize r'.map Am=R' at*;unfold Nz;rw[Br];show tidy G (Um [vQ (.tup R),vQ (pmD q),vQ (.int yr),vQ (.int w),vQ (.int x),vZ,vZ,vZ,vZ,vZ,vZ,vZ,vZ,vZ,vZ] G).ret=_;rw[p];simp[tb]
 obtain⟨l,rL,rl⟩:∃l s,r=l++[s]:=by
  rcases j6 r with e|⟨l,s,e⟩
  ·rw[e]at hl;simp at hl
  ·rw[j7]at e;exact⟨l,s,e⟩
 have aL:atI (r.map Am) (-1)=vQ (Am rL):=by rw[rl,qF];exact ZGj
 have iL:∀G,Ah (Am rL) (.int 0) G=.ok (.int rL.1) G:=λG=>by unfold Am;simp
 have h18:=λ(st:List Stp)(G:DH)(s1 s2 s3 s4 s7 s8 s9 s10 s12 s13 s14:Option D)=>ZI8 (G:=G) hr hjl (bg:=sj.1) (st:=st) (s1:=s1) (s2:=s2) (s3:=s3) (s4:=s4) (s7:=s7) (s8:=s8) (s9:=s9) (s10:=s10) (s12:=s12) (s13:=s13) (s14:=s14)
 have lens:∀st:List Stp,st.length<=1000->(∀s∈r.take j++[(sj.1,st)]++r.drop (j+1),s.2.length<=1000)/\(r.take j++[(sj.1,st)]++r.drop (j+1)).length<=200:=λst h=>by
  refine⟨λs hm=>?_,by simp;lia⟩;simp only[zF,qA]at hm;rcases hm with(hm|hm)|hm
  ·have:=hs s (qX hm);lia
  ·rw[hm];exact h
  ·have:=hs s (qL hm);lia
 have mid:∀st:List Stp,st.length<=1000->(Dk 0 st&&Fb st q)=vX->(∀G,Hr [vQ (.tup (r.map Am)),vQ (pmD q),vQ (.int yr),vQ (.int w),vQ (.int x),vQ (.int j),vQ (.int sj.1),vQ (.tup (sj.2.map Stp.enc)),vQ (.int (Ci sj.2)),vZ,vZ,vZ,vZ,vZ,vZ] G=.rt (.tup ((r.take j++[(sj.1,st)]++r.drop (j+1)).map Am)) G)->
   ∃r',Dz yr r' q=vX/\(∀s∈r',s.2.length<=1000)/\r'.length<=200/\∀G,Nz [.tup (r.map Am),pmD q,.int yr,.int w,.int x] G=.ok (.tup (r'.map Am)) G:=λst h1 h2 h3=>⟨_,ZJK hj h2,(lens st h1).1,(lens st h1).2,end_ _ h3⟩
 have mB:∀(v:Int)(G:DH),0<=v->v<2->Dl (.int 2) (.int v) G=.ok (.int (2*v)) G:=λv G h1 h2=>Lk (by lia) (by lia)
 have ng:∀G:DH,Gs (.int 1) G=.ok (.int (-1)) G:=λG=>rfl
 have ln:(((sj.2.map Stp.enc).length:Nat):Int)=(sj.2.length:Int):=by rw[zV]
 obtain⟨s,hs1,es⟩:∃s:Nat,s<max 1 sj.2.length/\(s:Int)=x/60%max 1 (sj.2.length:Int):=by have a:=zI (x/60) (show max 1 (sj.2.length:Int)≠0 by lia);have b:=zL (x/60) (show(0:Int)<max 1 (sj.2.length:Int) by lia);exact⟨(x/60%max 1 (sj.2.length:Int)).toNat,by lia,by lia⟩
 have m0:(0:Int)<max 1 (sj.2.length:Int):=by lia
 obtain⟨bt,hb1,eb⟩:∃b:Int,(0<=b/\b<2)/\b=x/30%2:=⟨_,by lia,rfl⟩;have fin:∀(w':Nat)(G:DH),4<=w'->w'<=7->Hr [vQ (.tup (r.map Am)),vQ (pmD q),vQ (.int yr),vQ (.int w'),vQ (.int x),vQ (.int j),vQ (.int sj.1),vQ (.tup (sj.2.map Stp.enc)),vQ (.int (Ci sj.2)),vZ,vZ,vZ,vZ,vZ,vZ] G=
   Ls [vQ (.tup (r.map Am)),vQ (pmD q),vQ (.int yr),vQ (.int w'),vQ (.int x),vQ (.int j),vQ (.int sj.1),vQ (.tup (sj.2.map Stp.enc)),vQ (.int (Ci sj.2)),vQ (.int rL.1),vQ (.int s),vQ (.tup ((sj.2++[(⟨Ci sj.2-1,1,vJ⟩:Stp)]).map Stp.enc)),vZ,vZ,vZ] G:=λw' G h1 h2=>by
  have n0:¬(w':Int)=0:=by lia
  have n1:¬(w':Int)=1:=by lia
  have n2:¬(w':Int)=2:=by lia
  have n3:¬(w':Int)=3:=by lia
  have n0':¬w'=0:=by lia
  have n1':¬w'=1:=by lia
  have n2':¬w'=2:=by lia
  have n3':¬w'=3:=by lia
  have ad:Bw (.tup (sj.2.map Stp.enc)) (.tup [.tup [.int (Ci sj.2-1),.int 1,.str "river"]]) G=.ok (.tup ((sj.2++[(⟨Ci sj.2-1,1,vJ⟩:Stp)]).map Stp.enc)) G:=by
   rw[Iu (by simp;lia),qF]
   rfl
  generalize(sj.2++[(⟨Ci sj.2-1,1,vJ⟩:Stp)]).map Stp.enc=Z2 at*;generalize sj.2.map Stp.enc=Z at*;generalize r.map Am=R at*;generalize Ci sj.2=tp at*;unfold Hr Ow R7 Rt Y9 ZC1 ZHS ZGU;simp[n0,n1,n2,n3,n0',n1',n2',n3',ng,aL,iL,ln,m0,<-es,Bl,ad]
 rcases(by lia:w=0∨w=1∨w=2∨w=3∨w=4∨w=5∨w=6∨w=7)with e|e|e|e|e|e|e|e
 ·subst e
  refine⟨[],Qp rfl,(λs h=>nomatch h),by simp,end_ [] λG=>?_⟩
  generalize r.map Am=R at*;unfold Hr;simp[Bl]
 ·subst e;have c1:cutD (r.map Am) (vQ 1) vZ=r0.map Am:=by have:=O5 (f:=Am) (l:=r) (j:=1) (by lia);rw[er]at this⊢;exact this
  have a0:atI (r.map Am) 0=vQ (Am s0):=by rw[er];exact Dq (k:=0) rfl rfl
  have i1:∀G,Ah (Am s0) (.int 1) G=.ok (.tup (s0.2.map Stp.enc)) G:=λG=>by unfold Am;simp
  refine⟨(1-2*bt,s0.2)::r0,Qp ?_,λs h=>?_,by rw[er]at hr;simp at hr⊢;lia,end_ _ λG=>?_⟩
  ·have:decide (1-2*bt=0)=vX:=decide_eq_false (by lia);show(decide (1-2*bt=0)&&Fy yr (-1) ((1-2*bt,s0.2)::r0))=vX;rw[this]
   rfl
  ·rcases zz.mp h with rfl|h
   ·have:=hs s0 (by rw[er];simp);show s0.2.length<=1000;lia
   ·have:=hs s (by rw[er];simp[h]);lia
  ·have em:((1-2*bt,s0.2)::r0).map Am=[.tup [.int (1-2*bt),.tup (s0.2.map Stp.enc)]]++r0.map Am:=rfl;have ad:Bw (.tup [.tup [.int (1-2*bt),.tup (s0.2.map Stp.enc)]]) (.tup (r0.map Am)) G=.ok (.tup ([.tup [.int (1-2*bt),.tup (s0.2.map Stp.enc)]]++r0.map Am)) G:=Iu (by rw[er]at hr;simp at hr⊢;lia);have fz:=Ij (G:=G) (xs:=r0.map Am) Jb;rw[em];generalize([.tup [.int (1-2*bt),.tup (s0.2.map Stp.enc)]]++r0.map Am:List D)=Z3 at*
   generalize s0.2.map Stp.enc=Z at*;generalize r0.map Am=R0 at*;generalize r.map Am=R at*;generalize Am s0=E0 at*;unfold Hr Ow;simp[<-eb,mB _ _ hb1.1 hb1.2,a0,i1,Bl,Dn,c1,fz,ad]
 ·subst e;by_cases hc:1<rL.1/\x/30%2=1
  ·obtain⟨v,hv,ev⟩:∃v:Int,v<rL.1/\v=1+x/60%(rL.1-1):=by have b:=zL (x/60) (show(0:Int)<rL.1-1 by lia);exact⟨_,by lia,rfl⟩
   have rz:(0:Int)<rL.1-1:=by lia
   refine⟨r++[(v,sj.2)],Qp ?_,λs h=>?_,by simp;lia,end_ _ λG=>?_⟩
   ·rw[<-qW];intro z;have:=Ve z;rw[rl,qY]at this;have:=ZBX l (-1) this;simp at this;lia
   ·rcases zF.mp h with h|h
    ·have:=hs s h;lia
    ·rw[qA.mp h];show sj.2.length<=1000;lia
   ·have ad:Bw (.tup (r.map Am)) (.tup [.tup [.int v,.tup (sj.2.map Stp.enc)]]) G=.ok (.tup ((r++[(v,sj.2)]).map Am)) G:=by
     rw[Iu (by simp;lia),qF]
     rfl
    generalize(r++[(v,sj.2)]).map Am=Z3 at*;generalize sj.2.map Stp.enc=Z at*;generalize r.map Am=R at*;unfold Hr Ow R7 Rt;simp[ng,aL,iL,hc.1,hc.2,rz,<-ev,Bl,ad]
  ·refine⟨r.take (j+1)++[sj]++r.drop (j+1),Qp ?_,λs h=>?_,by simp;lia,end_ _ λG=>?_⟩
   ·rw[<-qW];intro z;have:=Ve z;rw[List.take_succ,hj]at this;simp only[Option.toList_some,qY,List.cons_append,jQ]at this;have:=ZBX _ (-1) this;lia
   ·simp only[zF,qA]at h;rcases h with(h|h)|h
    ·have:=hs s (qX h);lia
    ·rw[h];lia
    ·have:=hs s (qL h);lia
   ·have c1:=Uw (f:=Am) (l:=r) (j:=j+1) (by lia);have c2:=O5 (f:=Am) (l:=r) (j:=j+1) (by lia);have e1:((j:Int)+1)=((j+1:Nat):Int):=by lia
    rw[<-e1]at c1 c2;obtain⟨f1,a1,f3,f2,a2,_⟩:=three (G:=G) (A:=(r.take (j+1)).map Am) (B:=[Am sj]) (C:=(r.drop (j+1)).map Am) (by simp;lia) Jb (Jb (ss:=[sj])) Jb;have em:(r.take (j+1)++[sj]++r.drop (j+1)).map Am=(r.take (j+1)).map Am++[Am sj]++(r.drop (j+1)).map Am:=by simp
    rw[em];have es2:Am sj=.tup [.int sj.1,.tup (sj.2.map Stp.enc)]:=rfl;rw[es2]at a1 f3 a2⊢;generalize sj.2.map Stp.enc=Z at*;generalize(r.take (j+1)).map Am=A at*;generalize(r.drop (j+1)).map Am=C at*;generalize r.map Am=R at*;generalize A++[D.tup [.int sj.1,.tup Z]]++C=ABC at*;generalize A++[D.tup [.int sj.1,.tup Z]]=AB at*;have hc1:¬(1<rL.1/\x/30%2=1):=hc;unfold Hr Ow R7 Rt Y9
    by_cases h1:1<rL.1
    ·have h2:¬x/30%2=1:=λz=>hc ⟨h1,z⟩
     simp[ng,aL,iL,h1,h2,Dn,c1,f1,Bl,a1,f3,c2,f2,a2]
    ·simp[ng,aL,iL,h1,Dn,c1,f1,Bl,a1,f3,c2,f2,a2]
 ·subst e;refine⟨r++[(yr,[])],Qp ?_,λs h=>?_,by simp;lia,end_ _ λG=>?_⟩
  ·rw[<-qW];intro z;have:=ZDt _ _ (Ve z) (yr,[]) (by simp);simp at this
  ·rcases zF.mp h with h|h
   ·have:=hs s h;lia
   ·rw[qA.mp h];simp
  ·have ad:Bw (.tup (r.map Am)) (.tup [.tup [.int yr,.tup []]]) G=.ok (.tup ((r++[(yr,[])]).map Am)) G:=by
    rw[Iu (by simp;lia),qF]
    rfl
   generalize(r++[(yr,[])]).map Am=Z3 at*;generalize sj.2.map Stp.enc=Z at*;generalize r.map Am=R at*;unfold Hr Ow R7 Rt Y9 ZC1;simp[ng,aL,iL,Bl,ad]
 ·subst e;refine mid (⟨-1,1,vJ⟩::sj.2) (by simp;lia) (by simp[Dk]) λG=>?_
  have f:=fin 4 G (by lia) (by lia);have ad:Bw (.tup [.tup [.int (-1),.int 1,.str "river"]]) (.tup (sj.2.map Stp.enc)) G=.ok (.tup ((⟨-1,1,vJ⟩::sj.2:List Stp).map Stp.enc)) G:=by
   rw[Iu (by simp;lia)]
   rfl
  have h:=h18 (⟨-1,1,vJ⟩::sj.2) G
  rw[show((4:Nat):Int)=4 from rfl]at f⊢
  rw[f];generalize(r.take j++[(sj.1,(⟨-1,1,vJ⟩::sj.2:List Stp))]++r.drop (j+1)).map Am=RR at*;generalize(⟨-1,1,vJ⟩::sj.2:List Stp).map Stp.enc=Z2 at*;generalize(sj.2++[(⟨Ci sj.2-1,1,vJ⟩:Stp)]).map Stp.enc=Z1 at*;generalize sj.2.map Stp.enc=Z at*;generalize r.map Am=R at*;unfold Ls Mg Mz Mv M9;simp[ng,Bl,ad,h]
 ·subst e;have f:=λG=>fin 5 G (by lia) (by lia)
  rcases Nat.lt_or_ge s sj.2.length with hsl|hsl
  ·obtain⟨t,ht⟩:∃t,sj.2[s]?=vQ t:=⟨_,zQ hsl⟩;have at_:atI (sj.2.map Stp.enc) (s:Int)=vQ (Stp.enc t):=Dq rfl (by rw[zv,ht];rfl);refine mid (sj.2.take s++[(⟨t.h,0-bt,t.r⟩:Stp)]++sj.2.drop (s+1)) (by simp;lia) ?_ λG=>?_
   ·rw[qS]
    left
    rw[<-qW];intro z;have:=Rx _ _ z (⟨t.h,0-bt,t.r⟩:Stp) (by simp);simp at this;lia
   ·have f:=f G;have c1:=Uw (f:=Stp.enc) (l:=sj.2) (j:=s) (by lia);have c2:=O5 (f:=Stp.enc) (l:=sj.2) (j:=s+1) (by lia);have c3:=O5 (f:=Stp.enc) (l:=sj.2) (j:=s) (by lia);have e1:((s:Int)+1)=((s+1:Nat):Int):=by lia
    rw[<-e1]at c2;obtain⟨f1,a1,f3,f2,a2,f4⟩:=three (G:=G) (A:=(sj.2.take s).map Stp.enc) (B:=[Stp.enc ⟨t.h,0-bt,t.r⟩]) (C:=(sj.2.drop (s+1)).map Stp.enc) (by simp;lia) Le (Le (r:=[⟨t.h,0-bt,t.r⟩])) Le;obtain⟨_,b1,g3,g2,b2,g4⟩:=three (G:=G) (A:=(sj.2.take s).map Stp.enc) (B:=[.tup [.int (Ci sj.2),.int (0-bt),.str "river"]]) (C:=(sj.2.drop s).map Stp.enc) (by simp;lia) Le rfl Le;have em:(sj.2.take s++[(⟨t.h,0-bt,t.r⟩:Stp)]++sj.2.drop (s+1)).map Stp.enc=(sj.2.take s).map Stp.enc++[Stp.enc ⟨t.h,0-bt,t.r⟩]++(sj.2.drop (s+1)).map Stp.enc:=by simp
    have h:=h18 (sj.2.take s++[(⟨t.h,0-bt,t.r⟩:Stp)]++sj.2.drop (s+1)) G;rw[em]at h;have et:Stp.enc t=.tup [.int t.h,.int t.m,.str (wy t.r)]:=rfl;have en:Stp.enc ⟨t.h,0-bt,t.r⟩=.tup [.int t.h,.int (0-bt),.str (wy t.r)]:=rfl;rw[et]at at_;rw[en]at a1 f3 a2 f4 h;have hlt:(s:Int)<(sj.2.length:Int):=by lia
    rw[show((5:Nat):Int)=5 from rfl]at f⊢
    rw[f];generalize(r.take j++[(sj.1,sj.2.take s++[(⟨t.h,0-bt,t.r⟩:Stp)]++sj.2.drop (s+1))]++r.drop (j+1)).map Am=RR at*;generalize(sj.2++[(⟨Ci sj.2-1,1,vJ⟩:Stp)]).map Stp.enc=Z1 at*;generalize(sj.2.take s).map Stp.enc=A at*;generalize(sj.2.drop (s+1)).map Stp.enc=C at*;generalize(sj.2.drop s).map Stp.enc=C' at*;generalize sj.2.map Stp.enc=Z at*;generalize r.map Am=R at*
    generalize A++[D.tup [.int t.h,.int (0-bt),.str (wy t.r)]]++C=ABC at*;generalize A++[D.tup [.int t.h,.int (0-bt),.str (wy t.r)]]=AB at*;generalize A++[D.tup [.int (Ci sj.2),.int (0-bt),.str "river"]]++C'=ABC' at*;generalize A++[D.tup [.int (Ci sj.2),.int (0-bt),.str "river"]]=AB' at*;generalize Ci sj.2=tp at*;generalize wy t.r=wr at*;have zb:(0:Int)-bt= -bt:=by lia
    rw[zb]at a1 b1;unfold Ls Mg Mz Mv M9;simp[Dn,c1,f1,Bl,<-eb,b1,g3,c3,g2,b2,g4,ln,hlt,hsl,at_,a1,f3,c2,f2,a2,f4,h]
  ·have s0':s=0:=by lia
   have l0:sj.2=[]:=q9 (by lia);refine mid [(⟨0,0-bt,vJ⟩:Stp)] (by simp) ?_ λG=>?_
   ·rw[qS]
    left
    rw[<-qW];intro z;have:=Rx _ _ z (⟨0,0-bt,vJ⟩:Stp) (by simp);simp at this;lia
   ·have f:=f G;have h:=h18 [(⟨0,0-bt,vJ⟩:Stp)] G;have t0:Ci sj.2=0:=by rw[l0];rfl
    have eZ:sj.2.map Stp.enc=[]:=by rw[l0];rfl
    have zb:(0:Int)-bt= -bt:=by lia
    have eh:([(⟨0,0-bt,vJ⟩:Stp)]).map Stp.enc=[.tup [.int 0,.int (-bt),.str "river"]]:=by rw[zb];rfl
    rw[eh]at h;have a1:∀G,Bw (.tup []) (.tup [.tup [.int 0,.int (-bt),.str "river"]]) G=.ok (.tup [.tup [.int 0,.int (-bt),.str "river"]]) G:=λG=>rfl
    have a2:∀G,Bw (.tup [.tup [.int 0,.int (-bt),.str "river"]]) (.tup []) G=.ok (.tup [.tup [.int 0,.int (-bt),.str "river"]]) G:=λG=>Iu (by simp)
    have f0:∀G:DH,freeze G (.ok (.tup []) G)=.ok (.tup []) G:=λG=>Ij rfl
    have f1:∀G:DH,freeze G (.ok (.tup [.tup [.int 0,.int (-bt),.str "river"]]) G)=.ok (.tup [.tup [.int 0,.int (-bt),.str "river"]]) G:=λG=>Ij rfl
    have cn1:cutD ([]:List D) vZ (vQ 0)=[]:=rfl;have cn2:cutD ([]:List D) (vQ 0) vZ=[]:=rfl
    rw[show((5:Nat):Int)=5 from rfl]at f⊢
    rw[f,t0,eZ,s0'];generalize(r.take j++[(sj.1,[(⟨0,0-bt,vJ⟩:Stp)])]++r.drop (j+1)).map Am=RR at*;generalize(sj.2++[(⟨0-1,1,vJ⟩:Stp)]).map Stp.enc=Z1 at*;generalize r.map Am=R at*;unfold Ls Mg Mz Mv M9;simp[Dn,cn1,cn2,f0,Bl,<-eb,a1,f1,a2,h]
 ·subst e;have f:=λG=>fin 6 G (by lia) (by lia)
  by_cases hc:s+1<sj.2.length/\x/30%2=0
  ·obtain⟨hc1,hc2⟩:=hc;obtain⟨t,ht⟩:∃t,sj.2[s]?=vQ t:=⟨_,zQ (by lia)⟩;obtain⟨t2,ht2⟩:∃t,sj.2[s+1]?=vQ t:=⟨_,zQ (by lia)⟩;have at1:atI (sj.2.map Stp.enc) (s:Int)=vQ (Stp.enc t):=Dq rfl (by rw[zv,ht];rfl);have at2:atI (sj.2.map Stp.enc) ((s:Int)+1)=vQ (Stp.enc t2):=Dq (k:=s+1) (by lia) (by rw[zv,ht2];rfl)
   refine mid (sj.2.take s++[t2,t]++sj.2.drop (s+2)) (by simp;lia) ?_ λG=>?_
   ·rw[qS]
    left
    rw[<-qW];intro z;rw[qY]at z;have m1:=V7 _ _ z;have e:=ZM2 ht;have e2:sj.2.drop (s+1)=t2::sj.2.drop (s+2):=by have h2:=(zJ.mp ht2);rw[qZ h2.1,h2.2]
    rw[e2]at e;rw[e]at gj;have m2:=V7 _ _ gj;have p1:=Rx _ _ gj t (by simp);have p2:=Rx _ _ gj t2 (by simp);lia
   ·have f:=f G;have c1:=Uw (f:=Stp.enc) (l:=sj.2) (j:=s) (by lia);have c2:=O5 (f:=Stp.enc) (l:=sj.2) (j:=s+2) (by lia);have e1:((s:Int)+2)=((s+2:Nat):Int):=by lia
    rw[<-e1]at c2;obtain⟨f1,a1,f3,f2,a2,f4⟩:=three (G:=G) (A:=(sj.2.take s).map Stp.enc) (B:=[Stp.enc t2,Stp.enc t]) (C:=(sj.2.drop (s+2)).map Stp.enc) (by simp;lia) Le (Le (r:=[t2,t])) Le;have em:(sj.2.take s++[t2,t]++sj.2.drop (s+2)).map Stp.enc=(sj.2.take s).map Stp.enc++[Stp.enc t2,Stp.enc t]++(sj.2.drop (s+2)).map Stp.enc:=by simp
    have h:=h18 (sj.2.take s++[t2,t]++sj.2.drop (s+2)) G;rw[em]at h;have hlt:(s:Int)+1<(sj.2.length:Int):=by lia
    rw[show((6:Nat):Int)=6 from rfl]at f⊢
    rw[f];generalize(r.take j++[(sj.1,sj.2.take s++[t2,t]++sj.2.drop (s+2))]++r.drop (j+1)).map Am=RR at*;generalize(sj.2++[(⟨Ci sj.2-1,1,vJ⟩:Stp)]).map Stp.enc=Z1 at*;generalize(sj.2.take s).map Stp.enc=A at*;generalize(sj.2.drop (s+2)).map Stp.enc=C at*;generalize sj.2.map Stp.enc=Z at*;generalize r.map Am=R at*;generalize Stp.enc t=E1 at*;generalize Stp.enc t2=E2 at*;generalize A++[E2,E1]++C=ABC at*
    generalize A++[E2,E1]=AB at*;unfold Ls Mg Mz Mv M9;simp[ln,hlt,hc2,Dn,c1,f1,at2,at1,Bl,a1,f3,c2,f2,a2,f4,h]
  ·refine mid (sj.2++[(⟨Ci sj.2-1,1,vJ⟩:Stp)]) (by simp;lia) ?_ λG=>?_
   ·rw[qS]
    left
    rw[<-qW];intro z;rcases j6 sj.2 with e|⟨l1,tl,e⟩
    ·rw[e]at z;simp[Dk,Ci]at z
    ·rw[j7]at e;have tt:Ci sj.2=tl.h+tl.m:=by rw[e];unfold Ci;simp
     rw[tt,e,qY]at z;have:=V7 _ _ z;simp at this;lia
   ·have f:=f G;have h:=h18 (sj.2++[(⟨Ci sj.2-1,1,vJ⟩:Stp)]) G
    rw[show((6:Nat):Int)=6 from rfl]at f⊢
    rw[f];generalize(r.take j++[(sj.1,sj.2++[(⟨Ci sj.2-1,1,vJ⟩:Stp)])]++r.drop (j+1)).map Am=RR at*;generalize(sj.2++[(⟨Ci sj.2-1,1,vJ⟩:Stp)]).map Stp.enc=Z1 at*;generalize sj.2.map Stp.enc=Z at*;generalize r.map Am=R at*;unfold Ls Mg Mz Mv M9;by_cases h1:s+1<sj.2.length
    ·have h2:¬x/30%2=0:=λz=>hc ⟨h1,z⟩
     have h1':(s:Int)+1<(sj.2.length:Int):=by lia
     simp[ln,h1',h2,h]
    ·have h1':¬(s:Int)+1<(sj.2.length:Int):=by lia
     simp[ln,h1',h]
 ·subst e;obtain⟨mo,emo⟩:∃mo:Int,mo=moF (pmps sj.2).sum q:=⟨_,rfl⟩;refine mid (sj.2++[(⟨Ci sj.2,max 1 (mo+1),vX⟩:Stp)]) (by simp;lia) ?_ λG=>?_
  ·rw[qS]
   right
   have ep:pmps (sj.2++[(⟨Ci sj.2,max 1 (mo+1),vX⟩:Stp)])=pmps sj.2++[max 1 (mo+1)]:=by simp[pmps]
   unfold Fb;cases q with
   |none=>simp only;rw[ep];exact decide_eq_false (by simp)
   |some z=>
    obtain⟨t,d,m⟩:=z;have emo:mo=max 0 m-(pmps sj.2).sum:=emo;simp only;rw[ep];refine decide_eq_false ?_;rw[List.sum_append];simp;lia
  ·have f:=fin 7 G (by lia) (by lia);have h:=h18 (sj.2++[(⟨Ci sj.2,max 1 (mo+1),vX⟩:Stp)]) G;clear fin mid end_ lens pre h18;have ad:Bw (.tup (sj.2.map Stp.enc)) (.tup [.tup [.int (Ci sj.2),.int (max 1 (mo+1)),.str "pump"]]) G=.ok (.tup ((sj.2++[(⟨Ci sj.2,max 1 (mo+1),vX⟩:Stp)]).map Stp.enc)) G:=by
    rw[Iu (by simp;lia),qF]
    rfl
   have hcp:=ZMv (st:=sj.2) (G:=G);have hcs:∀S:DSt,Bx 3 [] S=[vZ,vZ,vZ]:=λ_=>rfl
   have fz:freeze G (.ok (.ref G.length) (G++[.lst ((pmps sj.2).map D.int)]))=.ok (.fl ((pmps sj.2).map D.int)) G:=Cr Hm;have hle:((pmps sj.2).map D.int).length<=1000000:=by have:=ZGf (st:=sj.2);rw[zV];lia
   have hsm:Jt [.fl ((pmps sj.2).map D.int)] G=.ok (.int (pmps sj.2).sum) G:=ZE5
   rw[show((7:Nat):Int)=7 from rfl]at f⊢
   rw[f];generalize(pmps sj.2).map D.int=PP at*;generalize(pmps sj.2).sum=PSm at*;generalize(r.take j++[(sj.1,sj.2++[(⟨Ci sj.2,max 1 (mo+1),vX⟩:Stp)])]++r.drop (j+1)).map Am=RR at*;generalize(sj.2++[(⟨Ci sj.2,max 1 (mo+1),vX⟩:Stp)]).map Stp.enc=Z2 at*;generalize(sj.2++[(⟨Ci sj.2-1,1,vJ⟩:Stp)]).map Stp.enc=Z1 at*;generalize sj.2.map Stp.enc=Z at*;generalize r.map Am=R at*
   generalize Ci sj.2=tp at*;unfold Ls Mg Mz Mv M9;cases q with
   |none=>
    have emo:mo=0:=emo;subst emo;simp at ad;simp[pmD,Ds,Bl,ad,h]
   |some z=>
    obtain⟨t,d,m⟩:=z;have emo:mo=max 0 m-PSm:=emo;simp[pmD,Ds,hcs,hcp,Ba,hle,fz,hsm,Bl,<-emo,ad,h]
end
inductive Spo (S:List Str) (yr:Int) (p:RP):Nat->RP->Prop where
 |dn (m:Nat) (z:Str) (h:m<5) (e:S[m]?=vQ z):Spo S yr p 2 {p with dn:=z}
 |dl (v:Int) (h:v<0∨5<v):Spo S yr p 2 {p with dl:=v}
 |no (k:RK) (h:Et k=vX) (s:∀b r q,k=.basin b r q->∀s∈r,s.2.length<=1000):Spo S yr p 3 {p with kd:=k}
 |to (b:Int) (r:List Ssn) (t:Str) (d m:Int) (i:Nat) (z:Str) (e:p.kd=.basin b r (vQ (t,d,m))) (h:i<4) (ez:S[i]?=vQ z):Spo S yr p 4 {p with kd:=.basin b r (vQ (z,d,m))}
 |pd (b:Int) (r:List Ssn) (t:Str) (d m v:Int) (e:p.kd=.basin b r (vQ (t,d,m))) (h:v<1∨5<v):Spo S yr p 4 {p with kd:=.basin b r (vQ (t,v,m))}
 |ru (b:Int) (r r':List Ssn) (q:Option (Str×Int×Int)) (e:p.kd=.basin b r q) (h:Dz yr r' q=vX) (s:∀s∈r',s.2.length<=1000):Spo S yr p 5 {p with kd:=.basin b r' q}
theorem Q8{k:RK}(h:(Cy k).2.foldl min (Cy k).1<0):Et k=vX:=by
 unfold Et;rw[decide_eq_true h]
 rfl
theorem pick{xs:List D}(e:(m:Int)=x)(h:xs[m]?=vQ d):atI xs x=vQ d:=by rw[<-e];exact Dq rfl h
theorem ZKl{S:List Str}(hS:S.length=5)(hG:G[i]?=vQ (.lst (S.map D.str)))(k2:2<=k)(k5:k<=5)
  (h5:k=5->∃b r q,p.kd=.basin b r q/\Dz yr r q=vJ/\r.length<=100/\∀s∈r,s.2.length<=100) (h4:k=4->∃b r z,p.kd=.basin b r (vQ z)) (sh:Sh p):
  ∃p',Spo S yr p k p'/\Oo [p.enc,.int k,.int x,.int yr,.ref i] G=.ok p'.enc G:=by
 obtain⟨bl,hb,eb⟩:∃v:Int,v<0/\atI ([.int (-1),.int (0-1000000000000000000000000000000),.int (-7)]:List D) (x/8%3)=vQ (.int v):=by
  obtain⟨m,hm,em⟩:∃m:Nat,m<3/\(m:Int)=x/8%3:=⟨(x/8%3).toNat,by lia,by lia⟩;rcases(by lia:m=0∨m=1∨m=2)with rfl|rfl|rfl
  ·exact⟨-1,by lia,pick em rfl⟩
  ·exact⟨0-1000000000000000000000000000000,by lia,pick em rfl⟩
  ·exact⟨-7,by lia,pick em rfl⟩
 have f0:freeze G (.ok (.ref G.length) (G++[.lst [.int (-1),.int (0-1000000000000000000000000000000),.int (-7)]]))=.ok (.fl [.int (-1),.int (0-1000000000000000000000000000000),.int (-7)]) G:=Cr rfl;have ng:∀(i:Int)(G:DH),Gs (.int i) G=.ok (.int (-i)) G:=λ_ _=>rfl
 have start:Us [vQ p.enc,vQ (.int k),vQ (.int x),vQ (.int yr),vQ (.ref i),vZ,vZ] G=J9 [vQ p.enc,vQ (.int k),vQ (.int x),vQ (.int yr),vQ (.ref i),vQ (.int bl),vZ] G:=by generalize p.enc=E at*;unfold Us;simp at f0 eb;simp[ng,Ba,f0,eb]
 have close:∀p':RP,J9 [vQ p.enc,vQ (.int k),vQ (.int x),vQ (.int yr),vQ (.ref i),vQ (.int bl),vZ] G=.rt p'.enc G->Oo [p.enc,.int k,.int x,.int yr,.ref i] G=.ok p'.enc G:=λp' h=>by have tb:tidy G (.ok p'.enc G)=.ok p'.enc G:=Bp Mt;unfold Oo;rw[Br];show tidy G (Us [vQ p.enc,vQ (.int k),vQ (.int x),vQ (.int yr),vQ (.ref i),vZ,vZ] G).ret=_;rw[start,h];generalize p'.enc=E at*;simp[tb]
 obtain⟨m,hm,em⟩:∃m:Nat,m<8/\(m:Int)=x%8:=⟨(x%8).toNat,by lia,by lia⟩;have rl:=Xz (p:=p);have fr:∀d:D,bel G.length d=vJ->freeze G (.ok d G)=.ok d G:=λd h=>Hj h
 rcases(by lia:k=2∨k=3∨k=4∨k=5)with e|e|e|e
 ·subst e;by_cases h:m<5
  ·obtain⟨z,hz⟩:∃z,S[m]?=vQ z:=⟨_,zQ (by lia)⟩;refine⟨_,.dn m z h hz,close _ ?_⟩;have h':x%8<5:=by lia
   have az:atI (S.map D.str) (x%8)=vQ (.str z):=pick em (by rw[zv,hz];rfl);have cp:=Hf (p:=p) (q:={p with dn:=z}) (j:=2) (d:=.str z) (by lia) (λ_=>rfl) rfl G;have cp':Cj [p.enc,.int 2,.str z] G=.ok (RP.enc {p with dn:=z}) G:=cp;generalize RP.enc {p with dn:=z}=E' at*;generalize p.enc=E at*;unfold J9;simp[h',hG,az,cp']
  ·obtain⟨v,hv,ev⟩:∃v:Int,(v<0∨5<v)/\atI ([.int (-1),.int 6,.int 1000000000000000000000000000000]:List D) (x%8-5)=vQ (.int v):=by
    rcases(by lia:m=5∨m=6∨m=7)with rfl|rfl|rfl
    ·exact⟨-1,by lia,pick (m:=0) (by lia) rfl⟩
    ·exact⟨6,by lia,pick (m:=1) (by lia) rfl⟩
    ·exact⟨1000000000000000000000000000000,by lia,pick (m:=2) (by lia) rfl⟩
   refine⟨_,.dl v hv,close _ ?_⟩;have h':¬x%8<5:=by lia
   have f1:freeze G (.ok (.ref G.length) (G++[.lst [.int (-1),.int 6,.int 1000000000000000000000000000000]]))=.ok (.fl [.int (-1),.int 6,.int 1000000000000000000000000000000]) G:=Cr rfl;have cp:=Hf (p:=p) (q:={p with dl:=v}) (j:=3) (d:=.int v) (by lia) (λ_=>rfl) rfl G;have cp':Cj [p.enc,.int 3,.int v] G=.ok (RP.enc {p with dl:=v}) G:=cp;generalize RP.enc {p with dl:=v}=E' at*;generalize p.enc=E at*
   unfold J9 Nm;simp[h',ng,Ba,f1,ev,cp']
 ·subst e;have t1:¬(("basin":Str)="town"):=by decide
  have t2:¬(("mill":Str)="basin"):=by decide
  have t3:¬(("mill":Str)="town"):=by decide
  have t4:¬(("town":Str)="basin"):=by decide
  have stop:∀p':RP,M4 [vQ p.enc,vQ (.int 3),vQ (.int x),vQ (.int yr),vQ (.ref i),vQ (.int bl),vZ] G=.rt p'.enc G->J9 [vQ p.enc,vQ (.int 3),vQ (.int x),vQ (.int yr),vQ (.ref i),vQ (.int bl),vZ] G=.rt p'.enc G:=λp' h=>by rw[<-h];generalize p.enc=E at*;unfold J9 Nm Q9 Tp ZC0;simp
  cases e:p.kd with
  | town a b=>
   by_cases h:x%2=1
   ·refine⟨_,.no (.town a bl) (Q8 (by show min a bl<0;lia)) (λ_ _ _ z=>by cases z),close _ (stop _ ?_)⟩;have cp:=Hf (p:=p) (q:={p with kd:=.town a bl}) (j:=5) (d:=.int bl) (by unfold RP.row RK.rest;rw[e];simp) (λ_=>rfl) (by unfold RP.row RK.rest;rw[e];rfl) G;have cp':Cj [p.enc,.int 5,.int bl] G=.ok (RP.enc {p with kd:=.town a bl}) G:=cp;generalize RP.enc {p with kd:=.town a bl}=E' at*;unfold M4 Rz
    simp[e,RK.txt,t4,h,cp']
   ·refine⟨_,.no (.town bl b) (Q8 (by show min bl b<0;lia)) (λ_ _ _ z=>by cases z),close _ (stop _ ?_)⟩;have cp:=Hf (p:=p) (q:={p with kd:=.town bl b}) (j:=4) (d:=.int bl) (by lia) (λ_=>rfl) (by unfold RP.row RK.rest;rw[e];rfl) G;have cp':Cj [p.enc,.int 4,.int bl] G=.ok (RP.enc {p with kd:=.town bl b}) G:=cp;generalize RP.enc {p with kd:=.town bl b}=E' at*;unfold M4 Rz Ul;simp[e,RK.txt,t4,h,cp']
  |mill a=>
   refine⟨_,.no (.mill bl) (Q8 (by show bl<0;lia)) (λ_ _ _ z=>by cases z),close _ (stop _ ?_)⟩;have cp:=Hf (p:=p) (q:={p with kd:=.mill bl}) (j:=4) (d:=.int bl) (by lia) (λ_=>rfl) (by unfold RP.row RK.rest;rw[e];rfl) G;have cp':Cj [p.enc,.int 4,.int bl] G=.ok (RP.enc {p with kd:=.mill bl}) G:=cp;generalize RP.enc {p with kd:=.mill bl}=E' at*;unfold M4 Rz Ul;simp[e,RK.txt,t2,t3,cp']
  | basin b r q=>
   have e6:∀G,Ah p.enc (.int 6) G=.ok (pmD q) G:=λG=>by simp[RP.enc,RP.row,e,RK.rest]
   have wh:∀(_:q=vZ∨¬x%2=1),∃p',Spo S yr p 3 p'/\Oo [p.enc,.int (3:Nat),.int x,.int yr,.ref i] G=.ok p'.enc G:=λhq=>by
    refine⟨_,.no (.basin bl r q) (Q8 (by
     rcases q with _|⟨t,d,m⟩
     ·show bl<0;lia
     ·show min bl m<0;lia)) (λ_ _ _ z=>by cases z;exact sh.ru b r q e),close _ (stop _ ?_)⟩
    have cp:=Hf (p:=p) (q:={p with kd:=.basin bl r q}) (j:=4) (d:=.int bl) (by lia) (λ_=>rfl) (by unfold RP.row RK.rest;rw[e];rfl) G;have cp':Cj [p.enc,.int 4,.int bl] G=.ok (RP.enc {p with kd:=.basin bl r q}) G:=cp;generalize RP.enc {p with kd:=.basin bl r q}=E' at*;unfold M4 Rz Ul;rcases hq with hq|hq
    ·subst hq;simp[e,RK.txt,t1,e6,pmD,Ds,cp']
    ·rcases q with _|⟨t,d,m⟩
     ·simp[e,RK.txt,t1,e6,pmD,Ds,cp']
     ·simp[e,RK.txt,t1,e6,pmD,Ds,hq,cp']
   cases q with
   |none=>exact wh (.inl rfl)
   | some z=>
    obtain⟨t,d,mm⟩:=z;by_cases h:x%2=1
    ·refine⟨_,.no (.basin b r (vQ (t,d,bl))) (Q8 (by show min b bl<0;lia)) (λ_ _ _ z=>by cases z;exact sh.ru b r _ e),close _ (stop _ ?_)⟩;have cq:Cj [.tup [.str t,.int d,.int mm],.int 2,.int bl] G=.ok (.tup [.str t,.int d,.int bl]) G:=Qd (xs:=[.str t,.int d,.int mm]) (j:=2) (by simp) (by simp) rfl rfl;have cp:=Hf (p:=p) (q:={p with kd:=.basin b r (vQ (t,d,bl))}) (j:=6) (d:=.tup [.str t,.int d,.int bl]) (by unfold RP.row RK.rest;rw[e];simp) (λ_=>rfl) (by unfold RP.row RK.rest;rw[e];rfl) G
     have cp':Cj [p.enc,.int 6,.tup [.str t,.int d,.int bl]] G=.ok (RP.enc {p with kd:=.basin b r (vQ (t,d,bl))}) G:=cp;have f1:=fr (.tup [.str t,.int d,.int bl]) rfl;generalize RP.enc {p with kd:=.basin b r (vQ (t,d,bl))}=E' at*;unfold M4;simp[e,RK.txt,e6,pmD,Ds,h,cq,f1,cp']
    ·exact wh (.inr h)
 ·subst e;obtain⟨b,r,⟨t,d,mm⟩,e⟩:=h4 rfl;have e6:∀G,Ah p.enc (.int 6) G=.ok (.tup [.str t,.int d,.int mm]) G:=λG=>by simp[RP.enc,RP.row,e,RK.rest,pmD]
  by_cases h:m<4
  ·obtain⟨z,hz⟩:∃z,S[m]?=vQ z:=⟨_,zQ (by lia)⟩;refine⟨_,.to b r t d mm m z e h hz,close _ ?_⟩;have h':x%8<4:=by lia
   have az:atI (S.map D.str) (x%8)=vQ (.str z):=pick em (by rw[zv,hz];rfl);have cq:Cj [.tup [.str t,.int d,.int mm],.int 0,.str z] G=.ok (.tup [.str z,.int d,.int mm]) G:=Qd (xs:=[.str t,.int d,.int mm]) (j:=0) (by simp) (by simp) rfl rfl;have cp:=Hf (p:=p) (q:={p with kd:=.basin b r (vQ (z,d,mm))}) (j:=6) (d:=.tup [.str z,.int d,.int mm]) (by unfold RP.row RK.rest;rw[e];simp) (λ_=>rfl) (by unfold RP.row RK.rest;rw[e];rfl) G
   have cp':Cj [p.enc,.int 6,.tup [.str z,.int d,.int mm]] G=.ok (RP.enc {p with kd:=.basin b r (vQ (z,d,mm))}) G:=cp;have f1:=fr (.tup [.str z,.int d,.int mm]) rfl;generalize RP.enc {p with kd:=.basin b r (vQ (z,d,mm))}=E' at*;generalize p.enc=E at*;unfold J9 Nm Q9;simp[h',e6,hG,az,cq,f1,cp']
  ·obtain⟨v,hv,ev⟩:∃v:Int,(v<1∨5<v)/\atI ([.int 0,.int 6,.int (-1),.int 1000000000000000000000000000000]:List D) (x%8-4)=vQ (.int v):=by
    rcases(by lia:m=4∨m=5∨m=6∨m=7)with rfl|rfl|rfl|rfl
    ·exact⟨0,by lia,pick (m:=0) (by lia) rfl⟩
    ·exact⟨6,by lia,pick (m:=1) (by lia) rfl⟩
    ·exact⟨-1,by lia,pick (m:=2) (by lia) rfl⟩
    ·exact⟨1000000000000000000000000000000,by lia,pick (m:=3) (by lia) rfl⟩
   refine⟨_,.pd b r t d mm v e hv,close _ ?_⟩;have h':¬x%8<4:=by lia
   have fl:freeze G (.ok (.ref G.length) (G++[.lst [.int 0,.int 6,.int (-1),.int 1000000000000000000000000000000]]))=.ok (.fl [.int 0,.int 6,.int (-1),.int 1000000000000000000000000000000]) G:=Cr rfl;have cq:Cj [.tup [.str t,.int d,.int mm],.int 1,.int v] G=.ok (.tup [.str t,.int v,.int mm]) G:=Qd (xs:=[.str t,.int d,.int mm]) (j:=1) (by simp) (by simp) rfl rfl;have cp:=Hf (p:=p) (q:={p with kd:=.basin b r (vQ (t,v,mm))}) (j:=6) (d:=.tup [.str t,.int v,.int mm]) (by unfold RP.row RK.rest;rw[e];simp) (λ_=>rfl) (by unfold RP.row RK.rest;rw[e];rfl) G
   have cp':Cj [p.enc,.int 6,.tup [.str t,.int v,.int mm]] G=.ok (RP.enc {p with kd:=.basin b r (vQ (t,v,mm))}) G:=cp;have f1:=fr (.tup [.str t,.int v,.int mm]) rfl;generalize RP.enc {p with kd:=.basin b r (vQ (t,v,mm))}=E' at*;generalize p.enc=E at*;unfold J9 Nm Q9 Tp;simp[h',e6,ng,Ba,fl,ev,cq,f1,cp']
 ·subst e;obtain⟨b,r,q,e,ok,l1,l2⟩:=h5 rfl;have e6:∀G,Ah p.enc (.int 6) G=.ok (pmD q) G:=λG=>by simp[RP.enc,RP.row,e,RK.rest]
  have e5:∀G,Ah p.enc (.int 5) G=.ok (.tup (r.map Am)) G:=λG=>by simp[RP.enc,RP.row,e,RK.rest]
  obtain⟨w,w7,ew⟩:∃w:Nat,w<=7/\atI ([.int 0,.int 1,.int 2,.int 3,.int 4,.int 5,.int 6,.int 7,.int 6,.int 2,.int 7,.int 6]:List D) (x%12)=vQ (.int w):=by
   obtain⟨m,hm,em⟩:∃m:Nat,m<12/\(m:Int)=x%12:=⟨(x%12).toNat,by lia,by lia⟩;have key:∀m:Fin 12,∃w:Fin 8,([.int 0,.int 1,.int 2,.int 3,.int 4,.int 5,.int 6,.int 7,.int 6,.int 2,.int 7,.int 6]:List D)[m.1]?=vQ (.int (w.1:Int)):=λm=>by
    rcases m with⟨m,hm⟩
    rcases(by lia:m=0∨m=1∨m=2∨m=3∨m=4∨m=5∨m=6∨m=7∨m=8∨m=9∨m=10∨m=11)with rfl|rfl|rfl|rfl|rfl|rfl|rfl|rfl|rfl|rfl|rfl|rfl
    ·exact⟨0,rfl⟩
    ·exact⟨1,rfl⟩
    ·exact⟨2,rfl⟩
    ·exact⟨3,rfl⟩
    ·exact⟨4,rfl⟩
    ·exact⟨5,rfl⟩
    ·exact⟨6,rfl⟩
    ·exact⟨7,rfl⟩
    ·exact⟨6,rfl⟩
    ·exact⟨2,rfl⟩
    ·exact⟨7,rfl⟩
    ·exact⟨6,rfl⟩
   obtain⟨w,hw⟩:=key ⟨m,hm⟩;exact⟨w.1,by lia,pick em hw⟩
  obtain⟨r',o1,o2,o3,cr⟩:=ZOv (x:=x/12) ok l1 l2 w7;refine⟨_,.ru b r r' q e o1 o2,close _ ?_⟩;have fl:freeze G (.ok (.ref G.length) (G++[.lst [.int 0,.int 1,.int 2,.int 3,.int 4,.int 5,.int 6,.int 7,.int 6,.int 2,.int 7,.int 6]]))=.ok (.fl [.int 0,.int 1,.int 2,.int 3,.int 4,.int 5,.int 6,.int 7,.int 6,.int 2,.int 7,.int 6]) G:=Cr rfl;have cr':=cr G;have f1:=fr (.tup (r'.map Am)) (by rw[Ld];exact Jb)
  have cp:=Hf (p:=p) (q:={p with kd:=.basin b r' q}) (j:=5) (d:=.tup (r'.map Am)) (by unfold RP.row RK.rest;rw[e];simp) (λ_=>by rw[Ld];exact Jb) (by unfold RP.row RK.rest;rw[e];rfl) G;have cp':Cj [p.enc,.int 5,.tup (r'.map Am)] G=.ok (RP.enc {p with kd:=.basin b r' q}) G:=cp;generalize RP.enc {p with kd:=.basin b r' q}=E' at*;generalize p.enc=E at*;generalize r.map Am=R at*;generalize r'.map Am=R' at*
  unfold J9 Nm Q9 Tp ZC0;simp[Ba,fl,ew,e5,e6,cr',f1,cp']
inductive SpH (h:RH) (k:Nat) (p:RP):Nat->RH->Prop where
 |yr (y:Int) (hy:y<1∨24<y):SpH h k p 0 ⟨y,h.ps⟩
 |no:SpH h k p 0 ⟨h.yr,[]⟩
 |many (l:List RP) (hl:l.length=13):SpH h k p 0 ⟨h.yr,l⟩
 |nm (z:Str) (hz:isN z.cps.toList=vX∨z∈h.A k) (lz:z.length<=1000∨z∈h.A k):SpH h k p 1 ⟨h.yr,rnL p.nm z k h.ps⟩
 |pl (r:Nat) (hr:2<=r) (S:List Str) (p':RP) (hS:∀m z,S[m]?=vQ z->(r=2->z=p.nm∨(isN z.cps.toList=vX/\z≠"sea")∨z∈h.A k)/\(r=4->m<4->z=p.nm∨isN z.cps.toList=vX)) (sp:Spo S h.yr p r p'):SpH h k p r ⟨h.yr,h.ps.set k p'⟩
theorem ZLw{h:RH}(hp:h.ps[k]?=vQ p)(hn:h.ps.length<=12)(el:p.nm=An l)(l1:1<=l.length)(l8:l.length<=8)(hr:r<=5)
  (h5:r=5->∃b rr q,p.kd=.basin b rr q/\Dz h.yr rr q=vJ/\rr.length<=100/\∀s∈rr,s.2.length<=100) (h4:r=4->∃b rr z,p.kd=.basin b rr (vQ z)) (sh:Sh p) (G:DH):
  ∃h',SpH h k p r h'/\freeze G (Nk [h.enc,.int k,.int r,.int x] G)=.ok h'.enc G:=by
 have hk:k<h.ps.length:=(zJ.mp hp).1;have ap:=M5 hp;have eH:h.enc=.tup [.int h.yr,.tup (h.ps.map RP.enc)]:=rfl;have close:∀(h':RH)(L:DH),R5 [vQ h.enc,vQ (.int k),vQ (.int r),vQ (.int x),vZ,vZ,vZ,vZ] G=.rt h'.enc (G++L)->freeze G (Nk [h.enc,.int k,.int r,.int x] G)=.ok h'.enc G:=λh' L e=>by
  have tb:tidy G (.ok h'.enc (G++L))=.ok h'.enc G:=Nv ZAt;have fz:freeze G (.ok h'.enc G)=.ok h'.enc G:=Hj ZAt;have:Nk [h.enc,.int k,.int r,.int x] G=.ok h'.enc G:=by unfold Nk;rw[Br];show tidy G (R5 [vQ h.enc,vQ (.int k),vQ (.int r),vQ (.int x),vZ,vZ,vZ,vZ] G).ret=_;rw[e];generalize h'.enc=E at*;simp[tb]
  rw[this,fz]
 have go:R5 [vQ h.enc,vQ (.int k),vQ (.int r),vQ (.int x),vZ,vZ,vZ,vZ] G=Mm [vQ h.enc,vQ (.int k),vQ (.int r),vQ (.int x),vQ (.int h.yr),vQ (.tup (h.ps.map RP.enc)),vZ,vZ] G:=by rw[eH];generalize h.ps.map RP.enc=PS at*;unfold R5;simp
 obtain⟨m,hm,em⟩:∃m:Nat,m<4/\(m:Int)=x%4:=⟨(x%4).toNat,by lia,by lia⟩;by_cases r0:r=0
 ·subst r0;rcases(by lia:m<2∨m=2∨m=3)with hm2|hm2|hm2
  ·obtain⟨y,hy,ey⟩:∃y:Int,(y<1∨24<y)/\atI ([.int 0,.int (25+x/4%2*1000000000000000000000000000000)]:List D) (x%4)=vQ (.int y):=by
    rcases(by lia:m=0∨m=1)with rfl|rfl
    ·exact⟨0,by lia,pick em rfl⟩
    ·exact⟨_,.inr (by lia),pick em rfl⟩
   refine⟨_,.yr y hy,close _ [] ?_⟩;rw[go];have h2:x%4<2:=by lia
   have fl:∀v:Int,freeze G (.ok (.ref G.length) (G++[.lst [.int 0,.int v]]))=.ok (.fl [.int 0,.int v]) G:=λv=>Cr rfl
   have mb:Dl (.int (x/4%2)) (.int 1000000000000000000000000000000) G=.ok (.int (x/4%2*1000000000000000000000000000000)) G:=Lk (by lia) (by lia);have e2:RH.enc ⟨y,h.ps⟩=.tup [.int y,.tup (h.ps.map RP.enc)]:=rfl;rw[e2];generalize h.ps.map RP.enc=PS at*;generalize h.enc=H at*;unfold Mm;simp[h2,mb,Ba,fl,ey,Bl]
  ·refine⟨_,.no,close _ [] ?_⟩;rw[go];have e2:RH.enc ⟨h.yr,[]⟩=.tup [.int h.yr,.tup []]:=rfl;have h2:¬x%4<2:=by lia
   have h3:x%4=2:=by lia
   rw[e2];generalize h.ps.map RP.enc=PS at*;generalize h.enc=H at*;unfold Mm Qm;simp[h3,Bl]
  ·obtain⟨p0,hp0⟩:∃p0,h.ps[0]?=vQ p0:=⟨_,zQ (by lia)⟩;refine⟨_,.many (h.ps++zY (13-h.ps.length) p0) (by simp;lia),close _ [] ?_⟩;rw[go];have a0:atI (h.ps.map RP.enc) 0=vQ p0.enc:=M5 (k:=0) hp0;have h2:¬x%4<2:=by lia
   have h3:¬x%4=2:=by lia
   have e2:RH.enc ⟨h.yr,h.ps++zY (13-h.ps.length) p0⟩=.tup [.int h.yr,.tup (h.ps.map RP.enc++zY (13-h.ps.length) p0.enc)]:=by unfold RH.enc;simp
   have ln:(((h.ps.map RP.enc).length:Nat):Int)=(h.ps.length:Int):=by rw[zV]
   have lne:h.ps.map RP.enc≠[]:=λz=>by have:=congrArg List.length z;simp at this;rw[this]at hk;simp at hk
   have rp:Tq (.tup [p0.enc]) (.int (13-(h.ps.length:Int))) G=.ok (.tup (zY (13-h.ps.length) p0.enc)) G:=by
    show(if 1<=13-(h.ps.length:Int)/\13-(h.ps.length:Int)<=1000 then R.ok (D.tup (zY (13-(h.ps.length:Int)).toNat p0.enc)) G else .bad)=_;rw[if_pos (by lia)];have:(13-(h.ps.length:Int)).toNat=13-h.ps.length:=by lia
    rw[this]
   have ad:Bb (.tup (h.ps.map RP.enc)) (.tup (zY (13-h.ps.length) p0.enc)) G=.ok (.tup (h.ps.map RP.enc++zY (13-h.ps.length) p0.enc)) G:=by rw[Lg,if_pos ⟨lne,by simp;lia⟩]
   rw[e2];generalize h.ps.map RP.enc++zY (13-h.ps.length) p0.enc=Z at*;generalize zY (13-h.ps.length) p0.enc=Z0 at*;generalize h.ps.map RP.enc=PS at*;generalize h.enc=H at*;generalize p0.enc=E0 at*;unfold Mm Qm Tj;simp[-Lg,h2,h3,a0,Bl,ln,rp,ad]
 by_cases r1:r=1
 ·subst r1;obtain⟨z,hz,lz,cz⟩:=ZM8 hp (by lia) el l1 l8 (x:=x);refine⟨_,.nm z hz lz,close _ [] ?_⟩;rw[go];have cr:=ZJi hp (by lia) (z:=z) G;have cz':=cz G;have e2:RH.enc ⟨h.yr,rnL p.nm z k h.ps⟩=.tup [.int h.yr,.tup ((rnL p.nm z k h.ps).map RP.enc)]:=rfl;rw[e2];generalize(rnL p.nm z k h.ps).map RP.enc=Z at*;generalize h.ps.map RP.enc=PS at*;generalize h.enc=H at*;unfold Mm Qm Tj ZBT;simp[cz',Jo,cr,Bl]
 ·have q0:¬(r:Int)=0:=by lia
  have q1:¬(r:Int)=1:=by lia
  obtain⟨aN,hA,cA⟩:∃z:Str,(z=p.nm∨(r=2/\z∈h.A k))/\∀(s3:Str)(G1:DH),G1=G++[.lst [.str p.nm,.str "no one",.str "",.str "Sea",.str p.nm]]->
    Wy [vQ h.enc,vQ (.int k),vQ (.int r),vQ (.int x),vQ (.int h.yr),vQ (.tup (h.ps.map RP.enc)),vQ (.str p.nm),vQ (.ref G.length)] G1=R3 [vQ h.enc,vQ (.int k),vQ (.int r),vQ (.int x),vQ (.int h.yr),vQ (.tup (h.ps.map RP.enc)),vQ (.str p.nm),vQ (.ref G.length)] (G++[.lst [.str p.nm,.str "no one",.str "",.str "Sea",.str z]]):=by
   by_cases hc:r=2/\0<k
   ·obtain⟨j,hj,ej⟩:∃j:Nat,j<k/\(j:Int)=x/8%(k:Int):=by have a:=zI (x/8) (show(k:Int)≠0 by lia);have b:=zL (x/8) (show(0:Int)<k by lia);exact⟨(x/8%(k:Int)).toNat,by lia,by lia⟩
    obtain⟨q,hq⟩:∃q,h.ps[j]?=vQ q:=⟨_,zQ (by lia)⟩;have aq:=M5 hq;have kz:(0:Int)<(k:Int):=by lia
    refine⟨q.nm,.inr ⟨hc.1,z8.mpr ⟨q,qJ (i:=j) (by rw[qK hj];exact hq),rfl⟩⟩,λ_ G1 e1=>?_⟩;subst e1;have g0:(G++[DO.lst [.str p.nm,.str "no one",.str "",.str "Sea",.str p.nm]])[G.length]?=vQ (.lst [.str p.nm,.str "no one",.str "",.str "Sea",.str p.nm]):=by simp
    have st:(G++[DO.lst [.str p.nm,.str "no one",.str "",.str "Sea",.str p.nm]]).set G.length (.lst [.str p.nm,.str "no one",.str "",.str "Sea",.str q.nm])=G++[.lst [.str p.nm,.str "no one",.str "",.str "Sea",.str q.nm]]:=by simp
    generalize G++[DO.lst [.str p.nm,.str "no one",.str "",.str "Sea",.str p.nm]]=G1 at*;generalize h.ps.map RP.enc=PS at*;generalize h.enc=H at*;have r2:r=2:=hc.1;subst r2;unfold Wy;simp[kz,hc.2,<-ej,aq,g0,st,ixN]
   ·refine⟨p.nm,.inl rfl,λ_ G1 e1=>?_⟩;subst e1;generalize G++[DO.lst [.str p.nm,.str "no one",.str "",.str "Sea",.str p.nm]]=G1 at*;generalize h.ps.map RP.enc=PS at*;generalize h.enc=H at*;unfold Wy;by_cases r2:r=2
    ·have k0:¬0<k:=λz=>hc ⟨r2,z⟩
     have k0':¬(0:Int)<(k:Int):=by lia
     subst r2;simp[k0,k0']
    ·have r2':¬(r:Int)=2:=by lia
     simp[r2,r2']
  obtain⟨s3,e3⟩:∃s3:Str,s3=if r=4 then "sea" else "Sea":=⟨_,rfl⟩
  have st8:R3 [vQ h.enc,vQ (.int k),vQ (.int r),vQ (.int x),vQ (.int h.yr),vQ (.tup (h.ps.map RP.enc)),vQ (.str p.nm),vQ (.ref G.length)] (G++[.lst [.str p.nm,.str "no one",.str "",.str "Sea",.str aN]])=U5 [vQ h.enc,vQ (.int k),vQ (.int r),vQ (.int x),vQ (.int h.yr),vQ (.tup (h.ps.map RP.enc)),vQ (.str p.nm),vQ (.ref G.length)] (G++[.lst [.str p.nm,.str "no one",.str "",.str s3,.str aN]]):=by
   have g0:(G++[DO.lst [.str p.nm,.str "no one",.str "",.str "Sea",.str aN]])[G.length]?=vQ (.lst [.str p.nm,.str "no one",.str "",.str "Sea",.str aN]):=by simp
   have st:(G++[DO.lst [.str p.nm,.str "no one",.str "",.str "Sea",.str aN]]).set G.length (.lst [.str p.nm,.str "no one",.str "",.str "sea",.str aN])=G++[.lst [.str p.nm,.str "no one",.str "",.str "sea",.str aN]]:=by simp
   generalize h.ps.map RP.enc=PS at*;generalize h.enc=H at*;by_cases r4:r=4
   ·rw[if_pos r4]at e3;subst e3;generalize G++[DO.lst [.str p.nm,.str "no one",.str "",.str "Sea",.str aN]]=G1 at*;generalize G++[DO.lst [.str p.nm,.str "no one",.str "",.str "sea",.str aN]]=G2 at*;subst r4;unfold R3;simp[g0,st,ixN]
   ·rw[if_neg r4]at e3;subst e3;have r4':¬(r:Int)=4:=by lia
    generalize G++[DO.lst [.str p.nm,.str "no one",.str "",.str "Sea",.str aN]]=G1 at*;unfold R3;simp[r4,r4']
  have gS:(G++[DO.lst [.str p.nm,.str "no one",.str "",.str s3,.str aN]])[G.length]?=vQ (.lst (([p.nm,"no one","",s3,aN]:List Str).map D.str)):=by simp
  obtain⟨p',sp,cp⟩:=ZKl (p:=p) (yr:=h.yr) (x:=x) (S:=[p.nm,"no one","",s3,aN]) rfl gS (k:=r) (by lia) hr h5 h4 sh;refine⟨_,.pl r (by lia) [p.nm,"no one","",s3,aN] p' (λm z hz=>?_) sp,close _ [.lst [.str p.nm,.str "no one",.str "",.str s3,.str aN]] ?_⟩
  ·rcases(by lia:m=0∨m=1∨m=2∨m=3∨m=4∨5<=m)with rfl|rfl|rfl|rfl|rfl|h6
   ·have:p.nm=z:=by simpa using hz
    exact⟨λ_=>.inl this.symm,λ_ _=>.inl this.symm⟩
   ·have:("no one":Str)=z:=by simpa using hz
    subst this;exact⟨λ_=>.inr (.inl ⟨by decide +kernel,by decide⟩),λ_ _=>.inr (by decide +kernel)⟩
   ·have:("":Str)=z:=by simpa using hz
    subst this;exact⟨λ_=>.inr (.inl ⟨by decide +kernel,by decide⟩),λ_ _=>.inr (by decide +kernel)⟩
   ·have:s3=z:=by simpa using hz
    subst this;refine⟨λq=>?_,λq _=>?_⟩
    ·rw[e3,if_neg (by lia)];exact .inr (.inl ⟨by decide +kernel,by decide⟩)
    ·rw[e3,if_pos q];exact .inr (by decide +kernel)
   ·have:aN=z:=by simpa using hz
    subst this;refine⟨λq=>?_,λ_ q=>by lia⟩;rcases hA with hA|⟨_,hA⟩
    ·exact .inl hA
    ·exact .inr (.inr hA)
   ·rw[zS (by simp;lia)]at hz;cases hz
  ·rw[go];have tn:tidy G (.ok (.ref G.length) (G++[.lst [.str p.nm,.str "no one",.str "",.str "Sea",.str p.nm]]))=.ok (.ref G.length) (G++[.lst [.str p.nm,.str "no one",.str "",.str "Sea",.str p.nm]]):=Im rfl;have c7:=cA s3 _ rfl;have e2:RH.enc ⟨h.yr,h.ps.set k p'⟩=.tup [.int h.yr,.tup ((h.ps.map RP.enc).set k p'.enc)]:=by unfold RH.enc;rw[List.map_set]
   have f1:freeze (G++[DO.lst [.str p.nm,.str "no one",.str "",.str s3,.str aN]]) (.ok p'.enc (G++[DO.lst [.str p.nm,.str "no one",.str "",.str s3,.str aN]]))=.ok p'.enc (G++[DO.lst [.str p.nm,.str "no one",.str "",.str s3,.str aN]]):=Hj Mt;have cq:Cj [.tup (h.ps.map RP.enc),.int k,p'.enc] (G++[DO.lst [.str p.nm,.str "no one",.str "",.str s3,.str aN]])=.ok (.tup ((h.ps.map RP.enc).set k p'.enc)) (G++[DO.lst [.str p.nm,.str "no one",.str "",.str s3,.str aN]]):=Qd (by rw[zV];exact hk) (by rw[zV];lia) Ru Mt
   have bs:bels (G++[DO.lst [.str p.nm,.str "no one",.str "",.str s3,.str aN]]).length ((h.ps.map RP.enc).set k p'.enc)=vJ:=by rw[<-List.map_set];exact Ru
   have f2:=Ij (G:=G++[DO.lst [.str p.nm,.str "no one",.str "",.str s3,.str aN]]) bs;have b9:U5 [vQ h.enc,vQ (.int k),vQ (.int r),vQ (.int x),vQ (.int h.yr),vQ (.tup (h.ps.map RP.enc)),vQ (.str p.nm),vQ (.ref G.length)] (G++[.lst [.str p.nm,.str "no one",.str "",.str s3,.str aN]])=.rt (.tup [.int h.yr,.tup ((h.ps.map RP.enc).set k p'.enc)]) (G++[.lst [.str p.nm,.str "no one",.str "",.str s3,.str aN]]):=by
    generalize G++[DO.lst [.str p.nm,.str "no one",.str "",.str s3,.str aN]]=G2 at*;generalize(h.ps.map RP.enc).set k p'.enc=Z at*;generalize h.ps.map RP.enc=PS at*;generalize h.enc=H at*;generalize p'.enc=E' at*;generalize p.enc=E at*;unfold U5;simp[ap,cp,f1,cq,f2,Bl]
   rw[e2,<-b9,<-st8,<-c7];have r0':¬r=0:=r0;have r1':¬r=1:=r1;generalize h.ps.map RP.enc=PS at*;generalize h.enc=H at*;unfold Mm Qm Tj ZBT ZFj ZEF;simp[q0,q1,r0',r1',ap,Ba,tn]
structure GR (h:RH):Prop where
 yr:1<=h.yr/\h.yr<=24
 n:1<=h.ps.length/\h.ps.length<=12
 rk:∀(k:Nat)(p:RP),h.ps[k]?=vQ p->h.rk k p=0
 nm:∀(k:Nat)(p:RP),h.ps[k]?=vQ p->∃l:List Nat,p.nm=An l/\1<=l.length/\l.length<=8
 ru:∀(k:Nat)(p:RP),h.ps[k]?=vQ p->∀(b:Int)(r:List Ssn)(q:Option (Str×Int×Int)),p.kd=.basin b r q->r.length<=100/\∀s∈r,s.2.length<=100
theorem GR.sh{h:RH}(g:GR h)(hp:h.ps[k]?=vQ p):Sh p:=by obtain⟨l,e,h1,h8⟩:=g.nm k p hp;exact⟨by rw[e,Nf];lia,λb r q e s hs=>by have:=(g.ru k p hp b r q e).2 s hs;lia⟩
theorem Pk{A B:List Str}(h:rnk yr A B p=0):Fg A p=vJ/\G7 B p=vJ/\Et p.kd=vJ/\∀b r q,p.kd=.basin b r q->Fi (A++B) q=vJ/\Dz yr r q=vJ:=by
 unfold rnk at h;by_cases k1:Fg A p=vX
 ·rw[if_pos k1]at h;cases h
 ·rw [if_neg k1]at h;by_cases k2:G7 B p=vX
  ·rw[if_pos k2]at h;cases h
  ·rw[if_neg k2]at h;by_cases k3:Et p.kd=vX
   ·rw[if_pos k3]at h;cases h
   ·rw[if_neg k3]at h;refine⟨by simpa using k1,by simpa using k2,by simpa using k3,λb r q e=>?_⟩;rw[e]at h;simp only at h;by_cases k4:Fi (A++B) q=vX
    ·rw[if_pos k4]at h;cases h
    ·rw[if_neg k4]at h;by_cases k5:Dz yr r q=vX
     ·rw[if_pos k5]at h;cases h
     ·exact⟨by simpa using k4,by simpa using k5⟩
theorem ZEr{A B:List Str}(h1:Fg A p=vJ)(h2:G7 B p=vJ)(h3:Et p.kd=vJ)(h4:∀b r q,p.kd=.basin b r q->Fi (A++B) q=vJ/\Dz yr r q=vJ):rnk yr A B p=0:=by
 unfold rnk;rw[h1,h2,h3];simp only[Bool.true_eq_false,if_false];cases e:p.kd with
 |town a b=>rfl
 |mill a=>rfl
 |basin b r q=>
  obtain⟨q1,q2⟩:=h4 b r q e;simp only;rw[q1,q2];simp
theorem Ws{A:List Str}(h:Fg A p=vJ):isN p.nm.cps.toList=vJ/\p.nm∉A:=by unfold Fg at h;simp at h;exact h
section
variable{h:RH}(g:GR h)
include g
theorem GR.Q6(hz:z∈h.A k):isN z.cps.toList=vJ/\z.length<=8/\z∉h.B k/\(∀p,h.ps[k]?=vQ p->z≠p.nm):=by
 obtain⟨q,hq,rfl⟩:=z8.mp hz;obtain⟨j,hj,e⟩:=qE hq;have hj':j<k/\j<h.ps.length:=by rw[qB]at hj;lia
 have hq':h.ps[j]?=vQ q:=by rw[<-e,List.getElem_take];exact zQ hj'.2
 obtain⟨l,el,l1,l8⟩:=g.nm j q hq';have ah:∀i p,j<i->h.ps[i]?=vQ p->p.nm≠q.nm:=λi p hi hp z=>by have:=(Ws (Pk (g.rk i p hp)).1).2;exact this (by rw[z];exact z8.mpr ⟨q,qJ (i:=j) (by rw[qK hi];exact hq'),rfl⟩)
 refine⟨(Ws (Pk (g.rk j q hq')).1).1,by rw[el,Nf];exact l8,λz=>?_,λp hp z=>ah k p hj'.1 hp z.symm⟩;obtain⟨p,hp,ep⟩:=z8.mp z;obtain⟨i,hi,e2⟩:=qE hp;rw[qC]at hi;have hp':h.ps[k+1+i]?=vQ p:=by rw[<-e2,List.getElem_drop];exact zQ (by lia)
 exact ah (k+1+i) p (by lia) hp' ep
theorem GR.Td(hz:z∈h.B k):isN z.cps.toList=vJ/\∀p,h.ps[k]?=vQ p->z≠p.nm:=by
 obtain⟨p,hp,rfl⟩:=z8.mp hz;obtain⟨i,hi,e2⟩:=qE hp;rw[qC]at hi;have hp':h.ps[k+1+i]?=vQ p:=by rw[<-e2,List.getElem_drop];exact zQ (by lia)
 obtain⟨a,b⟩:=Ws (Pk (g.rk _ p hp')).1;refine⟨a,λq hq z=>b ?_⟩;rw[z];exact z8.mpr ⟨q,qJ (i:=k) (by rw[qK (by lia)];exact hq),rfl⟩
end
theorem ZFJ(h:isN z.cps.toList=vJ):z≠"sea":=λe=>by rw[e]at h;exact absurd h (by decide +kernel)
theorem ZJX(hp:ps[k]?=vQ p)(e:p'.nm=p.nm):(ps.set k p').map RP.nm=ps.map RP.nm:=by
 rw[List.map_set,e];have hk:=(zJ.mp hp).1;have h2:=(zJ.mp hp).2;have:(ps.map RP.nm)[k]'(by rw[zV];exact hk)=p.nm:=by simp[h2]
 rw[<-this];exact List.set_getElem_self _
theorem Uh{h:RH}:h.A k=(h.ps.map RP.nm).take k:=by unfold RH.A;rw[jW]
theorem Xv{h:RH}:h.B k=(h.ps.map RP.nm).drop (k+1):=by unfold RH.B;rw[jv]
structure Bad (h':RH) (k:Nat) (r:Nat):Prop where
 yr:1<=h'.yr/\h'.yr<=24
 n:1<=h'.ps.length/\h'.ps.length<=12
 ah:∀(i:Nat)(q:RP),i<k->h'.ps[i]?=vQ q->h'.rk i q=0/\Sh q
 at_:∃p',h'.ps[k]?=vQ p'/\h'.rk k p'=r/\Sh p'
theorem Ny{h:RH}(g:GR h)(hp:h.ps[k]?=vQ p)(e:p'.nm=p.nm)(sh:Sh p')(hr:rnk h.yr (h.A k) (h.B k) p'=r):Bad ⟨h.yr,h.ps.set k p'⟩ k r:=by
 have hk:=(zJ.mp hp).1;have en:=ZJX hp e;have eA:∀i,RH.A ⟨h.yr,h.ps.set k p'⟩ i=h.A i:=λi=>by rw[Uh,Uh,en]
 have eB:∀i,RH.B ⟨h.yr,h.ps.set k p'⟩ i=h.B i:=λi=>by rw[Xv,Xv,en]
 refine⟨g.yr,by rw[qU];exact g.n,λi q hi hq=>?_,p',?_,?_,sh⟩
 ·have hq':h.ps[i]?=vQ q:=by rw[<-hq];exact(qI (by lia)).symm
  refine⟨?_,g.sh hq'⟩;unfold RH.rk;rw[eA,eB];exact g.rk i q hq'
 ·exact j0 hk
 ·unfold RH.rk;rw[eA,eB];exact hr
theorem rnk2{A B:List Str}(h1:Fg A p=vJ)(h2:G7 B p=vX):rnk yr A B p=2:=by unfold rnk;rw[h1,h2];simp
theorem rnk3{A B:List Str}(h1:Fg A p=vJ)(h2:G7 B p=vJ)(h3:Et p.kd=vX):rnk yr A B p=3:=by unfold rnk;rw[h1,h2,h3];simp
theorem ZMr{h:RH}(g:GR h)(hp:h.ps[k]?=vQ p){S:List Str}(hS:∀m z,S[m]?=vQ z->(r=2->z=p.nm∨(isN z.cps.toList=vX/\z≠"sea")∨z∈h.A k)/\(r=4->m<4->z=p.nm∨isN z.cps.toList=vX))(sp:Spo S h.yr p r p'):Bad ⟨h.yr,h.ps.set k p'⟩ k r:=by
 obtain⟨o1,o2,o3,o4⟩:=Pk (g.rk k p hp);have sh:=g.sh hp;cases sp with
 | dn m z hm e=>
  refine Ny (p':={p with dn:=z}) g hp rfl ⟨sh.nm,sh.ru⟩ (rnk2 (p:={p with dn:=z}) o1 ?_);have zB:z∉h.B k:=λq=>by
   rcases(hS m z e).1 rfl with z1|z1|z1
   ·exact(g.Td q).2 p hp z1
   ·have:=(g.Td q).1;rw[z1.1]at this;cases this
   ·exact(g.Q6 z1).2.2.1 q
  have zs:z≠"sea":=by
   rcases(hS m z e).1 rfl with z1|z1|z1
   ·rw[z1];exact ZFJ (Ws o1).1
   ·exact z1.2
   ·exact ZFJ (g.Q6 z1).1
  show((decide (z="sea")||decide (z∈h.B k))&&(decide (0<=p.dl)&&decide (p.dl<=5)))=vX;rw[decide_eq_false zs,decide_eq_false zB]
  rfl
 |dl v hv=>
  refine Ny (p':={p with dl:=v}) g hp rfl ⟨sh.nm,sh.ru⟩ (rnk2 (p:={p with dl:=v}) o1 ?_);show((decide (p.dn="sea")||decide (p.dn∈h.B k))&&(decide (0<=v)&&decide (v<=5)))=vX;rcases hv with hv|hv
  ·rw[decide_eq_false (by lia:¬0<=v)];simp
  ·rw[decide_eq_false (by lia:¬v<=5)];simp
 |no kd hk hs=>exact Ny (p':={p with kd:=kd}) g hp rfl ⟨sh.nm,hs⟩ (rnk3 (p:={p with kd:=kd}) o1 o2 hk)
 | to b r t d m i z e hi ez=>
  have nu:Et (.basin b r (vQ (z,d,m)))=vJ:=by rw[e]at o3;exact o3
  refine Ny (p':={p with kd:=.basin b r (vQ (z,d,m))}) g hp rfl ⟨sh.nm,λb' r' q' e'=>by cases e';exact sh.ru b r _ e⟩ ?_;have zN:z∉h.A k++h.B k:=λq=>by
   rcases zF.mp q with q|q
   ·rcases(hS i z ez).2 rfl hi with z1|z1
    ·exact(g.Q6 q).2.2.2 p hp z1
    ·have:=(g.Q6 q).1;rw[z1]at this;cases this
   ·rcases(hS i z ez).2 rfl hi with z1|z1
    ·exact(g.Td q).2 p hp z1
    ·have:=(g.Td q).1;rw[z1]at this;cases this
  unfold rnk;have p1:Fg (h.A k) {p with kd:=.basin b r (vQ (z,d,m))}=vJ:=o1;have p2:G7 (h.B k) {p with kd:=.basin b r (vQ (z,d,m))}=vJ:=o2;rw[p1,p2];simp only[nu];have p4:Fi (h.A k++h.B k) (vQ (z,d,m))=vX:=by
   unfold Fi;simp only;rw[decide_eq_false zN]
   rfl
  rw[p4];simp
 | pd b r t d m v e hv=>
  have nu:Et (.basin b r (vQ (t,v,m)))=vJ:=by rw[e]at o3;exact o3
  refine Ny (p':={p with kd:=.basin b r (vQ (t,v,m))}) g hp rfl ⟨sh.nm,λb' r' q' e'=>by cases e';exact sh.ru b r _ e⟩ ?_;unfold rnk;have p1:Fg (h.A k) {p with kd:=.basin b r (vQ (t,v,m))}=vJ:=o1;have p2:G7 (h.B k) {p with kd:=.basin b r (vQ (t,v,m))}=vJ:=o2;rw[p1,p2];simp only[nu];have p4:Fi (h.A k++h.B k) (vQ (t,v,m))=vX:=by
   unfold Fi;simp only;rcases hv with hv|hv
   ·rw[decide_eq_false (by lia:¬1<=v)];simp
   ·rw[decide_eq_false (by lia:¬v<=5)];simp
  rw[p4];simp
 | ru b r r' q e hf hs=>
  have nu:Et (.basin b r' q)=vJ:=by
   rw[e]at o3
   rcases q with _|⟨t,d,m⟩<;>exact o3
  refine Ny (p':={p with kd:=.basin b r' q}) g hp rfl ⟨sh.nm,λb2 r2 q2 e2=>by cases e2;exact hs⟩ ?_;unfold rnk;have p1:Fg (h.A k) {p with kd:=.basin b r' q}=vJ:=o1;have p2:G7 (h.B k) {p with kd:=.basin b r' q}=vJ:=o2;rw[p1,p2];simp only[nu];have p4:=(o4 b r q e).1;rw[p4,hf];simp
theorem ZKq(hk:k<ps.length):(rnL old z k ps).map RP.nm=(ps.map RP.nm).set k z:=by
 refine List.ext_getElem? λi=>?_
 by_cases hi:i<ps.length
 ·rw[zv,ZB2 (zQ hi),qk];by_cases e:k=i
  ·subst e;rw[if_pos rfl,if_pos (by rw[zV];exact hi)];simp[rn]
  ·rw[if_neg e,zv,zQ hi];have:¬i=k:=λq=>e q.symm
   simp[rn,this]
 ·rw[zS (by rw[zV,ZDP];lia),zS (by rw[qU,zV];lia)]
theorem ZKj{k:RK}:Cy (rnP old z k)=Cy k:=by
 cases k with
 |town a b=>rfl
 |mill a=>rfl
 |basin b r q=>rcases q with _|⟨t,d,m⟩<;>rfl
theorem ZIg{h:RH}(g:GR h)(hp:h.ps[k]?=vQ p)(hz:isN z.cps.toList=vX∨z∈h.A k)(lz:z.length<=1000∨z∈h.A k):Bad ⟨h.yr,rnL p.nm z k h.ps⟩ k 1:=by
 have hk:=(zJ.mp hp).1;have en:=ZKq (old:=p.nm) (z:=z) hk;have eA:∀i,i<=k->RH.A ⟨h.yr,rnL p.nm z k h.ps⟩ i=h.A i:=λi hi=>by rw[Uh,Uh,en,List.take_set_of_le (by lia)]
 have memB:∀i,i<k->z∈RH.B ⟨h.yr,rnL p.nm z k h.ps⟩ i:=λi hi=>by rw[Xv,en];refine qJ (i:=k-(i+1)) ?_;rw[List.getElem?_drop,qk];rw[if_pos (by lia),if_pos (by rw[zV];lia)]
 have keepB:∀i y,i<k->y∈h.B i->y≠p.nm->y∈RH.B ⟨h.yr,rnL p.nm z k h.ps⟩ i:=λi y hi hy hne=>by
  rw[Xv]at hy⊢;rw[en];obtain⟨j,hj,e⟩:=qE hy;have e':(h.ps.map RP.nm)[i+1+j]?=vQ y:=by rw[<-e,List.getElem_drop];exact zQ (by rw[qC]at hj;lia)
  refine qJ (i:=j) ?_;rw[List.getElem?_drop,qI,e'];intro q;rw[<-q,zv,hp]at e';exact hne (by simpa using e'.symm)
 refine⟨g.yr,by rw[ZDP];exact g.n,λi q' hi hq'=>?_,rn p.nm z vJ p,?_,?_,?_⟩
 ·have hil:i<h.ps.length:=by lia
  obtain⟨q,hq⟩:∃q,h.ps[i]?=vQ q:=⟨_,zQ hil⟩;have e1:=ZB2 (old:=p.nm) (z:=z) (k:=k) hq;rw[decide_eq_false (by lia:¬i=k)]at e1;have eq:q'=rn p.nm z vX q:=by have:(rnL p.nm z k h.ps)[i]?=vQ q':=hq';rw[e1]at this;exact(Option.some.inj this).symm
  subst eq;obtain⟨o1,o2,o3,o4⟩:=Pk (g.rk i q hq);have sh:=g.sh hq;have shr:∀b r qq,rnP p.nm z q.kd=.basin b r qq->∃q0,q.kd=.basin b r q0/\(∀A,Fi A q0=vJ->(∀t d m,q0=vQ (t,d,m)->t≠p.nm->t∈A)->True)/\((q0=vZ/\qq=vZ)∨∃t d m,q0=vQ (t,d,m)/\qq=vQ (if t=p.nm then z else t,d,m)):=λb r qq e=>by
   cases ek:q.kd with
   |town a c=>rw[ek]at e;cases e
   |mill a=>rw[ek]at e;cases e
   |basin b0 r0 q0=>
    rw[ek]at e;rcases q0 with _|⟨t,d,m⟩
    ·cases e;exact⟨vZ,rfl,λ_ _ _=>trivial,.inl ⟨rfl,rfl⟩⟩
    ·have e':RK.basin b0 r0 (vQ (if t=p.nm then z else t,d,m))=.basin b r qq:=e;cases e';exact⟨_,rfl,λ_ _ _=>trivial,.inr ⟨t,d,m,rfl,rfl⟩⟩
  refine⟨?_,⟨sh.nm,λb r qq e=>?_⟩⟩
  ·unfold RH.rk;rw[eA i (by lia)];refine ZEr o1 ?_ ?_ λb r qq e=>?_
   ·unfold G7 at o2⊢;rw[zZ]at o2⊢;refine⟨?_,o2.2⟩;show(decide ((if q.dn=p.nm then z else q.dn)="sea")||decide ((if q.dn=p.nm then z else q.dn)∈RH.B ⟨h.yr,rnL p.nm z k h.ps⟩ i))=vJ;by_cases e:q.dn=p.nm
    ·rw[if_pos e,decide_eq_true (memB i hi),Bool.or_true]
    ·rw[if_neg e];rw[Bool.or_eq_true,decide_eq_true_iff,decide_eq_true_iff]at o2⊢;exact o2.1.imp id λw=>keepB i _ hi w e
   ·show Et (rnP p.nm z q.kd)=vJ;unfold Et at o3⊢;rw[ZKj];exact o3
   ·obtain⟨q0,ek,_,hc⟩:=shr b r qq e;obtain⟨a1,a2⟩:=o4 b r q0 ek;rcases hc with⟨rfl,rfl⟩|⟨t,d,m,rfl,rfl⟩
    ·exact⟨rfl,a2⟩
    ·refine⟨?_,a2⟩;unfold Fi at a1⊢;simp only at a1⊢;rw[zZ]at a1⊢;refine⟨?_,a1.2⟩;rw[decide_eq_true_iff]at a1⊢;by_cases et:t=p.nm
     ·rw[if_pos et];exact z9 _ (memB i hi)
     ·rw[if_neg et];rcases zF.mp a1.1 with w|w
      ·exact jq _ w
      ·exact z9 _ (keepB i t hi w et)
  ·obtain⟨q0,ek,_⟩:=shr b r qq e;exact sh.ru b r q0 ek
 ·have e1:=ZB2 (old:=p.nm) (z:=z) (k:=k) hp;rw[decide_eq_true rfl]at e1;exact e1
 ·unfold RH.rk;rw[eA k (by lia)];unfold rnk;have:Fg (h.A k) (rn p.nm z vJ p)=vX:=by
   show(isN z.cps.toList && !decide (z∈h.A k))=vX;rcases hz with w|w
   ·rw[w];rfl
   ·rw[decide_eq_true w];simp
  rw[this];simp
 ·refine⟨?_,λb r qq e=>?_⟩
  ·show z.length<=1000;rcases lz with w|w
   ·exact w
   ·have:=(g.Q6 w).2.1;lia
  ·have e:rnP p.nm z p.kd=.basin b r qq:=e;cases ek:p.kd with
   |town a c=>rw[ek]at e;cases e
   |mill a=>rw[ek]at e;cases e
   |basin b0 r0 q0=>
    rw[ek]at e;rcases q0 with _|⟨t,d,m⟩
    ·cases e;exact(g.sh hp).ru _ _ _ ek
    ·have e':RK.basin b0 r0 (vQ (if t=p.nm then z else t,d,m))=.basin b r qq:=e;cases e';exact(g.sh hp).ru _ _ _ ek
theorem ZGr{h:RH}{s1:Option D}{G:DH}(hn:h.ps.length<=100):∀(m k:Nat)(x:Option D),k+m<=h.ps.length->(∀(i:Nat)(q:RP),k<=i->i<k+m->h.ps[i]?=vQ q->h.rk i q=0/\Sh q)->∃x',Dp (gV 2) Ih (Cv k m) [vQ h.enc,s1,x] G=.nx [vQ h.enc,s1,x'] G
 |0,k,x,_,_=>⟨x,by rw[Ko,Ik]⟩
 |m+1,k,x,e,hc=>by
  obtain⟨x',ih⟩:=ZGr (s1:=s1) (G:=G) hn m (k+1) (vQ (.int k)) (by lia) λi q h1 h2=>hc i q (by lia) (by lia)
  refine⟨x',?_⟩;obtain⟨q,hq⟩:∃q,h.ps[k]?=vQ q:=⟨_,zQ (by lia)⟩;obtain⟨r0,sh⟩:=hc k q (by lia) (by lia) hq;have ck:=(ZCw hq hn sh G).1 r0;have hb:Ih [vQ h.enc,s1,vQ (.int k)] G=.nx [vQ h.enc,s1,vQ (.int k)] G:=by unfold Ih;simp[ck]
  rw[Ir,H9];simp only[Hd,R.J0,jZ,hb,Jf];have e1:((k:Int)+1)=((k+1:Nat):Int):=by lia
  rw[e1,ih]
theorem ZEx{h:RH}(b:Bad h k r)(hr:r≠0){s1:Option D}{G:DH}:∀(m j:Nat)(x:Option D),j<=k->k<j+m->j+m<=h.ps.length->∃L,Dp (gV 2) Ih (Cv j m) [vQ h.enc,s1,x] G=.err ⟨cls5 r,[("place",.int k)]⟩ (G++L)
 |0,j,x,h1,h2,_=>by lia
 | m+1,j,x,h1,h2,h3=>by
  have hn:=b.n.2;rw[Ir,H9];by_cases e:j=k
  ·subst e;obtain⟨p',hp',rk,sh⟩:=b.at_;obtain⟨L,ck⟩:=(ZCw hp' (by lia) sh G).2 (by rw[rk];exact hr);rw[rk]at ck;refine⟨L,?_⟩;have hb:Ih [vQ h.enc,s1,vQ (.int j)] G=.err ⟨cls5 r,[("place",.int j)]⟩ (G++L):=by unfold Ih;simp[ck]
   simp only[Hd,R.J0,jZ,hb,ZK1]
  ·obtain⟨q,hq⟩:∃q,h.ps[j]?=vQ q:=⟨_,zQ (by lia)⟩;obtain⟨r0,sh⟩:=b.ah j q (by lia) hq;have ck:=(ZCw hq (by lia) sh G).1 r0;obtain⟨L,ih⟩:=ZEx b hr (s1:=s1) (G:=G) m (j+1) (vQ (.int j)) (by lia) (by lia) (by lia);refine⟨L,?_⟩;have hb:Ih [vQ h.enc,s1,vQ (.int j)] G=.nx [vQ h.enc,s1,vQ (.int j)] G:=by unfold Ih;simp[ck]
   simp only[Hd,R.J0,jZ,hb,Jf];have e1:((j:Int)+1)=((j+1:Nat):Int):=by lia
   rw[e1,ih]
theorem ZOz{h:RH}(g:GR h)(G:DH):Ii [h.enc] G=.ok h.enc G:=by
 have n1:=g.n.1;have n2:=g.n.2;obtain⟨x',hL⟩:=ZGr (h:=h) (s1:=vQ (.tup (h.ps.map RP.enc))) (G:=G) (by lia) h.ps.length 0 vZ (by lia) λi q _ _ hq=>⟨g.rk i q hq,g.sh hq⟩
 have hL':Dp (gV 2) Ih (Cv 0 h.ps.length) [vQ h.enc,vQ (.tup (h.ps.map RP.enc)),vZ] G=_:=hL;have y1:=g.yr.1;have y2:=g.yr.2;have m1:(1:Int)<=(h.ps.length:Int):=by lia
 have m2:(h.ps.length:Int)<=12:=by lia
 have hr:inR (h.ps.length:Int):=Gz (by lia) (by lia);have ln:(((h.ps.map RP.enc).length:Nat):Int)=(h.ps.length:Int):=by rw[zV]
 have h0:∀G,Ah h.enc (.int 0) G=.ok (.int h.yr) G:=λG=>Vu
 have h1:∀G,Ah h.enc (.int 1) G=.ok (.tup (h.ps.map RP.enc)) G:=λG=>V5
 have tb:tidy G (.ok h.enc G)=.ok h.enc G:=Bp ZAt;generalize h.ps.map RP.enc=PS at*;generalize h.enc=H at*;unfold Ii Wa;rw[Br];simp[h0,h1,y1,y2,ln,m1,m2,n1,n2,hr,hL',tb]
theorem ZIv{h:RH}(b:Bad h k r)(hr:r≠0)(G:DH):∃L,Ii [h.enc] G=.err ⟨cls5 r,[("place",.int k)]⟩ (G++L):=by
 have n1:=b.n.1;have n2:=b.n.2;obtain⟨p',hp',_⟩:=b.at_;have hk:=(zJ.mp hp').1;obtain⟨L,hL⟩:=ZEx b hr (s1:=vQ (.tup (h.ps.map RP.enc))) (G:=G) h.ps.length 0 vZ (by lia) (by lia) (by lia);have hL':Dp (gV 2) Ih (Cv 0 h.ps.length) [vQ h.enc,vQ (.tup (h.ps.map RP.enc)),vZ] G=_:=hL;have y1:=b.yr.1;have y2:=b.yr.2;have m1:(1:Int)<=(h.ps.length:Int):=by lia
 have m2:(h.ps.length:Int)<=12:=by lia
 have hr':inR (h.ps.length:Int):=Gz (by lia) (by lia);have ln:(((h.ps.map RP.enc).length:Nat):Int)=(h.ps.length:Int):=by rw[zV]
 have h0:∀G,Ah h.enc (.int 0) G=.ok (.int h.yr) G:=λG=>Vu
 have h1:∀G,Ah h.enc (.int 1) G=.ok (.tup (h.ps.map RP.enc)) G:=λG=>V5
 refine⟨L,?_⟩;generalize h.ps.map RP.enc=PS at*;generalize h.enc=H at*;unfold Ii Wa;rw[Br];simp[h0,h1,y1,y2,ln,m1,m2,n1,n2,hr',hL']
theorem ZJJ{h:RH}(hb:(h.yr<1∨24<h.yr)∨h.ps.length=0∨h.ps.length=13)(G:DH):Ii [h.enc] G=.err ⟨"NoHouse",[]⟩ G:=by
 have ln:(((h.ps.map RP.enc).length:Nat):Int)=(h.ps.length:Int):=by rw[zV]
 have h0:∀G,Ah h.enc (.int 0) G=.ok (.int h.yr) G:=λG=>Vu
 have h1:∀G,Ah h.enc (.int 1) G=.ok (.tup (h.ps.map RP.enc)) G:=λG=>V5
 generalize h.ps.map RP.enc=PS at*;generalize h.enc=H at*;unfold Ii Wa;rw[Br];by_cases a1:1<=h.yr
 ·by_cases a2:h.yr<=24
  ·rcases(by lia:h.ps.length=0∨h.ps.length=13)with n|n
   ·rw[n]at ln;simp at ln;simp[h0,h1,a1,a2,ln,Mq]
   ·rw[n]at ln;have ln':PS.length=13:=by lia
    simp[h0,h1,a1,a2,ln',Mq]
  ·simp[h0,h1,a1,a2,Mq]
 ·simp[h0,h1,a1,Mq]
theorem La{tb:List (Str×Bool)}{c:Str}{fs:List (Str×D)}{b:Bool}(h:G[i]?=vQ (.exc c fs))(hb:tb.lookup c=vQ b):isx tb (.ref i) G=.ok (.bl b) G:=by unfold isx;simp only[h,hb]
theorem ZEa{r:Nat}{G:DH}:∀(m i:Nat),Cp (gV 0) De Pu [vZ,vQ (.int r)] (Cv i m) G=.ok ((qz i m).map λj=>.bl (decide (j=r))) G
 |0,i=>by rw[Ko,Ut];rfl
 | m+1,i=>by
  have ih:=ZEa (r:=r) (G:=G) m (i+1);have he:Pu [vQ (.int i),vQ (.int r)] G=.ok (.bl (decide (i=r))) G:=by
   unfold Pu;by_cases e:i=r
   ·simp[e]
   ·have:¬(i:Int)=(r:Int):=by lia
    simp[e,this]
  have e1:((i:Int)+1)=((i+1:Nat):Int):=by lia
  rw[Ir,Jg];simp only[Hd,R.ZBO,jZ,ZOy,if_true,he];rw[e1,ih]
  rfl
theorem ZIC{i:Int}(G:DH):Ye [.int i] G=.ok (.bl vJ) G:=by unfold Ye ZGk;rw[Br];simp[tyD,Bp]
theorem ZEy{n:Nat}:∀xs:List Bool,eqZ (eqD (n+1) G) (xs.map D.bl) (xs.map D.bl)=vQ vJ
 |[]=>rfl
 |x::xs=>by
  have e:eqD (n+1) G (.bl x) (.bl x)=vQ vJ:=by cases x<;>rfl
  simp[eqZ,e,ZEy xs]
theorem ZM1{n:Nat}(xs:List Bool):eqD (n+2) G (.fl (xs.map D.bl)) (.fl (xs.map D.bl))=vQ vJ:=by show(if(xs.map D.bl).length=(xs.map D.bl).length then eqZ (eqD (n+1) G) (xs.map D.bl) (xs.map D.bl)else vQ vX)=vQ vJ;rw[if_pos rfl,ZEy]
def cls6:Nat->Str
 |0=>"NoHouse"
 |r=>cls5 r
noncomputable def fs6(k:Nat):Nat->List (Str×D)
 |0=>[]
 |_=>[("place",.int k)]
theorem ZFP{H:D}(hr:r<=5)(he:∃L,Ii [H] G=.err ⟨cls6 r,fs6 k r⟩ (G++L)):Mx [H,.int r,.int k] G=.ok (.bl vJ) G:=by
 obtain⟨L,he⟩:=he;have g0:(G++L++[DO.exc (cls6 r) (fs6 k r)])[(G++L).length]?=vQ (.exc (cls6 r) (fs6 k r)):=by simp
 have td:tidy G (.ok (.bl vJ) (G++L++[DO.exc (cls6 r) (fs6 k r)]))=.ok (.bl vJ) G:=by rw[qY];exact Nv rfl
 have cmp:=ZEa (r:=r) (G:=G++L++[DO.exc (cls6 r) (fs6 k r)]) 13 0;have hr13:inR (13:Int):=Gz (by lia) (by lia);have hcs:∀a b c d e f:Option D,Bx 1 [1] [a,b,c,d,e,f]=[vZ,b]:=λ_ _ _ _ _ _=>rfl
 have nes:∀(xs:List Bool)(G:DH),Ga (.fl (xs.map D.bl)) (.fl (xs.map D.bl)) G=.ok (.bl vX) G:=λxs G=>by
  unfold Ga
  rw[show eqD 30 G (.fl (xs.map D.bl)) (.fl (xs.map D.bl))=vQ vJ from ZM1 xs]
  rfl
 have hf:∀(Γ:DH)(ds:List D),bels Γ.length ds=vJ->freeze Γ (.ok (.ref Γ.length) (Γ++[.lst ds]))=.ok (.fl ds) Γ:=λΓ ds h=>Cr h
 have cm:cls6 r∈(["NoHouse","NoName","NoNumber","NoPump","NoRiver","NoRule"]:List Str):=by rcases(by lia:r=0∨r=1∨r=2∨r=3∨r=4∨r=5)with rfl|rfl|rfl|rfl|rfl|rfl<;>simp[cls6,cls5]
 generalize hΓ0:G++L=Γ0 at*;generalize hΓ:Γ0++[DO.exc (cls6 r) (fs6 k r)]=Γ at*;have tA:=La (tb:=[("NoHouse",vJ),("NoName",vJ),("NoNumber",vJ),("NoPump",vJ),("NoRiver",vJ),("NoRule",vJ)]) (b:=vJ) g0 (by rcases(by lia:r=0∨r=1∨r=2∨r=3∨r=4∨r=5)with rfl|rfl|rfl|rfl|rfl|rfl<;>rfl)
 have tN:=La (tb:=[("NoHouse",vX),("NoName",vX),("NoNumber",vX),("NoPump",vX),("NoRiver",vX),("NoRule",vX)]) (b:=vX) g0 (by rcases(by lia:r=0∨r=1∨r=2∨r=3∨r=4∨r=5)with rfl|rfl|rfl|rfl|rfl|rfl<;>rfl)
 have t0:=La (tb:=[("NoHouse",vJ),("NoName",vX),("NoNumber",vX),("NoPump",vX),("NoRiver",vX),("NoRule",vX)]) (b:=decide (0=r)) g0 (by rcases(by lia:r=0∨r=1∨r=2∨r=3∨r=4∨r=5)with rfl|rfl|rfl|rfl|rfl|rfl<;>rfl)
 have t1:=La (tb:=[("NoHouse",vX),("NoName",vJ),("NoNumber",vX),("NoPump",vX),("NoRiver",vX),("NoRule",vX)]) (b:=decide (1=r)) g0 (by rcases(by lia:r=0∨r=1∨r=2∨r=3∨r=4∨r=5)with rfl|rfl|rfl|rfl|rfl|rfl<;>rfl)
 have t2:=La (tb:=[("NoHouse",vX),("NoName",vX),("NoNumber",vX),("NoPump",vX),("NoRiver",vJ),("NoRule",vX)]) (b:=decide (2=r)) g0 (by rcases(by lia:r=0∨r=1∨r=2∨r=3∨r=4∨r=5)with rfl|rfl|rfl|rfl|rfl|rfl<;>rfl)
 have t3:=La (tb:=[("NoHouse",vX),("NoName",vX),("NoNumber",vJ),("NoPump",vX),("NoRiver",vX),("NoRule",vX)]) (b:=decide (3=r)) g0 (by rcases(by lia:r=0∨r=1∨r=2∨r=3∨r=4∨r=5)with rfl|rfl|rfl|rfl|rfl|rfl<;>rfl)
 have t4:=La (tb:=[("NoHouse",vX),("NoName",vX),("NoNumber",vX),("NoPump",vJ),("NoRiver",vX),("NoRule",vX)]) (b:=decide (4=r)) g0 (by rcases(by lia:r=0∨r=1∨r=2∨r=3∨r=4∨r=5)with rfl|rfl|rfl|rfl|rfl|rfl<;>rfl)
 have t5:=La (tb:=[("NoHouse",vX),("NoName",vX),("NoNumber",vX),("NoPump",vX),("NoRiver",vX),("NoRule",vJ)]) (b:=decide (5=r)) g0 (by rcases(by lia:r=0∨r=1∨r=2∨r=3∨r=4∨r=5)with rfl|rfl|rfl|rfl|rfl|rfl<;>rfl)
 have start:ZAZ [vQ H,vQ (.int r),vQ (.int k),vZ,vZ,vZ] G=Xa [vQ H,vQ (.int r),vQ (.int k),vQ (.ref Γ0.length),vZ,vZ] Γ:=by unfold ZAZ ZEq ZEh ZFZ;simp[S9,dTc,he,Qt,cm,hΓ,unnm,tA]
 unfold Mx;rw[Br]
 rw[show([H,.int r,.int k].map vQ++zY 3 vZ)=[vQ H,vQ (.int (r:Int)),vQ (.int (k:Int)),vZ,vZ,vZ]from rfl,start]
 have s3:Xa [vQ H,vQ (.int r),vQ (.int k),vQ (.ref Γ0.length),vZ,vZ] Γ=V6 [vQ H,vQ (.int r),vQ (.int k),vQ (.ref Γ0.length),vZ,vQ (.fl ([decide (0=r),decide (1=r),decide (2=r)].map D.bl))] Γ:=by unfold Xa;simp[t0,t1,t2,Ba,hf,bels]
 have s4:V6 [vQ H,vQ (.int r),vQ (.int k),vQ (.ref Γ0.length),vZ,vQ (.fl ([decide (0=r),decide (1=r),decide (2=r)].map D.bl))] Γ=Vg [vQ H,vQ (.int r),vQ (.int k),vQ (.ref Γ0.length),vZ,vQ (.fl ([decide (0=r),decide (1=r),decide (2=r),decide (3=r),decide (4=r),decide (5=r)].map D.bl))] Γ:=by unfold V6;simp[t3,t4,t5,tN,Ba,hf,bels]
 have s5:Vg [vQ H,vQ (.int r),vQ (.int k),vQ (.ref Γ0.length),vZ,vQ (.fl ([decide (0=r),decide (1=r),decide (2=r),decide (3=r),decide (4=r),decide (5=r)].map D.bl))] Γ=Xg [vQ H,vQ (.int r),vQ (.int k),vQ (.ref Γ0.length),vZ,vQ (.fl ([decide (0=r),decide (1=r),decide (2=r),decide (3=r),decide (4=r),decide (5=r),vX,vX,vX].map D.bl))] Γ:=by unfold Vg;simp[t3,t4,t5,tN,Ba,hf,bels]
 have s6:Xg [vQ H,vQ (.int r),vQ (.int k),vQ (.ref Γ0.length),vZ,vQ (.fl ([decide (0=r),decide (1=r),decide (2=r),decide (3=r),decide (4=r),decide (5=r),vX,vX,vX].map D.bl))] Γ=Uv [vQ H,vQ (.int r),vQ (.int k),vQ (.ref Γ0.length),vZ,vQ (.fl ([decide (0=r),decide (1=r),decide (2=r),decide (3=r),decide (4=r),decide (5=r),vX,vX,vX,vX,vX,vX].map D.bl))] Γ:=by unfold Xg;simp[t3,t4,t5,tN,Ba,hf,bels]
 have s7:Uv [vQ H,vQ (.int r),vQ (.int k),vQ (.ref Γ0.length),vZ,vQ (.fl ([decide (0=r),decide (1=r),decide (2=r),decide (3=r),decide (4=r),decide (5=r),vX,vX,vX,vX,vX,vX].map D.bl))] Γ=Wh [vQ H,vQ (.int r),vQ (.int k),vQ (.ref Γ0.length),vZ,vQ (.fl ([decide (0=r),decide (1=r),decide (2=r),decide (3=r),decide (4=r),decide (5=r),vX,vX,vX,vX,vX,vX,vX].map D.bl))] Γ:=by unfold Uv;simp[t3,t4,t5,tN,Ba,hf,bels]
 have cl:(qz 0 13).map (λj=>D.bl (decide (j=r)))=[decide (0=r),decide (1=r),decide (2=r),decide (3=r),decide (4=r),decide (5=r),vX,vX,vX,vX,vX,vX,vX].map D.bl:=by
  have n6:∀j,6<=j->decide (j=r)=vX:=λj hj=>decide_eq_false (by lia)
  simp[List.range'_succ,n6]
 rw[cl]at cmp;have bb:bels Γ.length ([decide (0=r),decide (1=r),decide (2=r),decide (3=r),decide (4=r),decide (5=r),vX,vX,vX,vX,vX,vX,vX].map D.bl)=vJ:=rfl;rw[s3,s4,s5,s6,s7];have ne0:=nes [decide (0=r),decide (1=r),decide (2=r),decide (3=r),decide (4=r),decide (5=r),vX,vX,vX,vX,vX,vX,vX] Γ;have hf0:=hf Γ _ bb;have bl:([decide (0=r),decide (1=r),decide (2=r),decide (3=r),decide (4=r),decide (5=r),vX,vX,vX,vX,vX,vX,vX].map D.bl).length<=1000000:=by simp
 generalize[decide (0=r),decide (1=r),decide (2=r),decide (3=r),decide (4=r),decide (5=r),vX,vX,vX,vX,vX,vX,vX].map D.bl=BL at*;have s8:Wh [vQ H,vQ (.int r),vQ (.int k),vQ (.ref Γ0.length),vZ,vQ (.fl BL)] Γ=ZDa [vQ H,vQ (.int r),vQ (.int k),vQ (.ref Γ0.length),vZ,vQ (.fl BL)] Γ:=by unfold Wh;have cmp':Cp (gV 0) De Pu [vZ,vQ (.int r)] (Cv 0 13) Γ=.ok BL Γ:=cmp;simp[hr13,hcs,cmp',hf0,ne0,Ba,bl]
 rw[s8];unfold ZDa;cases r with
 |zero=>simp[td]
 | succ r=>
  have gp:gtx ["NoName","NoNumber","NoPump","NoRiver","NoRule"] "place" (.ref Γ0.length) Γ=.ok (.int k) Γ:=by
   unfold gtx
   rcases(by lia:r=0∨r=1∨r=2∨r=3∨r=4)with rfl|rfl|rfl|rfl|rfl<;>simp[g0,cls6,cls5,fs6]
  have nz:¬((r:Int)+1=0):=by lia
  simp[gp,ZIC,td,nz]
theorem Rh(hi:i<h.n):h.pl i=h.ps[i]'hi:=by
 unfold Hs.pl;rw[zA,zQ hi]
 rfl
theorem ZGl{x:Str}:(x∈(h.ps.take k).map Pl.nm)↔∃i,i<k/\i<h.n/\(h.pl i).nm=x:=by
 rw[z8];constructor
 ·rintro⟨p,hp,rfl⟩;obtain⟨j,hj,rfl⟩:=List.mem_take_iff_getElem.mp hp;have h2:j<h.n:=zW hj (Nat.min_le_right _ _);exact⟨j,zW hj (Nat.min_le_left _ _),h2,by rw[Rh h2];rfl⟩
 ·rintro⟨i,h1,h2,rfl⟩;exact⟨h.pl i,List.mem_take_iff_getElem.mpr ⟨i,Nat.lt_min.mpr ⟨h1,h2⟩,(Rh h2).symm⟩,rfl⟩
theorem ZJj{x:Str}:(x∈(h.ps.drop k).map Pl.nm)↔∃i,k<=i/\i<h.n/\(h.pl i).nm=x:=by
 rw[z8];constructor
 ·rintro⟨p,hp,rfl⟩;obtain⟨j,hj,rfl⟩:=List.mem_drop_iff_getElem.mp hp;have h2:k+j<h.n:=by show k+j<h.ps.length;lia
  exact⟨k+j,by lia,h2,by rw[Rh h2];rfl⟩
 ·rintro⟨i,h1,h2,rfl⟩;have h3:i<h.ps.length:=h2;exact⟨h.pl i,List.mem_drop_iff_getElem.mpr ⟨i-k,by lia,by rw[Rh h2];congr 1;lia⟩,rfl⟩
def Kd.raw(h:Hs):Kd->RK
 |.basin b r vZ=>.basin b r vZ
 |.basin b r (vQ (t,d,m))=>.basin b r (vQ ((h.pl t).nm,(d:Int),m))
 |.town a b=>.town a b
 |.mill a=>.mill a
def Pl.raw(h:Hs)(p:Pl):RP:=⟨p.nm,h.dnT p.dn,p.dl,p.kd.raw h⟩
noncomputable def Hs.raw(h:Hs):RH:=⟨h.yr,h.ps.map (Pl.raw h)⟩
theorem ZG6{p:Pl}:(Pl.raw h p).enc=h.encP p:=by
 unfold RP.enc RP.row Pl.raw Hs.encP;cases p.kd with
 |town a b=>rfl
 |mill a=>rfl
 |basin b r q=>
  cases q with
  |none=>rfl
  |some z=>obtain⟨t,d,m⟩:=z;rfl
theorem ZLL:h.raw.enc=h.enc:=by
 unfold RH.enc Hs.enc Hs.raw Hs.J7;simp only[qy]
 rw[show h.ps.map (RP.enc∘Pl.raw h)=h.ps.map h.encP from jx λp _=>ZG6]
theorem ZEf:∀{r:List Ssn}{a:Int},Asc yr a r->Fy yr a r=vJ
 |[],_,_=>rfl
 |s::r,a,h=>by have ih:=ZEf h.2.2;simp[Fy,ih,h.1,h.2.1]
theorem ZD0:∀{r:List Ssn}{a:Int},Asc yr a r->a+r.length<=max a (yr-1)
 |[],a,_=>by simp;lia
 |s::r,a,h=>by have ih:=ZD0 h.2.2;have h1:=h.1;have h2:=h.2.1;simp only[qG];lia
theorem ZC4:∀{st:List Stp}{a:Int},Good a st->Dk a st=vJ
 |[],_,_=>rfl
 |s::r,a,h=>by have ih:=ZC4 h.2.2;simp[Dk,ih,h.1,h.2.1]
theorem Uq(hp:h.raw.ps[k]?=vQ p):k<h.n/\p=Pl.raw h (h.pl k):=by unfold Hs.raw at hp;rw[zv]at hp;obtain⟨q,hq,rfl⟩:=z0.mp hp;have hk:k<h.n:=(zJ.mp hq).1;refine⟨hk,?_⟩;exact congrArg (Pl.raw h) ((zJ.mp hq).2.symm.trans (Rh hk).symm)
theorem ZIa:h.raw.A k=(h.ps.take k).map Pl.nm:=by
 unfold RH.A Hs.raw;rw[<-jW,qy]
 rfl
theorem ZLE:h.raw.B k=(h.ps.drop (k+1)).map Pl.nm:=by
 unfold RH.B Hs.raw;rw[<-jv,qy]
 rfl
theorem ZKg(g:GoodH h)(h1:1<=h.n)(hy:h.yr<=24)(pw:∀k,k<h.n->PlG h.n k (h.pl k)/\PlW h.yr k (h.pl k))(wd:∀k,k<h.n->Wd (h.pl k).nm):GR h.raw:=by
 have hy0:=g.yr;have hn:=g.len;have en:h.raw.ps.length=h.n:=by simp[Hs.raw,Hs.n]
 refine⟨⟨by show 1<=h.yr;lia,hy⟩,by lia,λk p hp=>?_,λk p hp=>?_,λk p hp b r q e=>?_⟩
 ·obtain⟨hk,rfl⟩:=Uq hp;obtain⟨pg,pww⟩:=pw k hk;have hA:(h.pl k).nm∉(h.ps.take k).map Pl.nm:=λz=>by obtain⟨i,h1,h2,h3⟩:=ZGl.mp z;have:=g.inj i k h2 hk h3;lia
  have hB:∀i,k<i->i<h.n->(h.pl i).nm∈(h.ps.drop (k+1)).map Pl.nm:=λi h1 h2=>ZJj.mpr ⟨i,h1,h2,rfl⟩
  have hAB:∀i,i≠k->i<h.n->(h.pl i).nm∈(h.ps.take k).map Pl.nm++(h.ps.drop (k+1)).map Pl.nm:=λi h1 h2=>by
   rw[zF];by_cases z:i<k
   ·exact .inl (ZGl.mpr ⟨i,z,h2,rfl⟩)
   ·exact .inr (hB i (by lia) h2)
  have iN:=(ZIw (wd k hk) (g.sea k hk)).1;unfold RH.rk;rw[ZIa,ZLE];refine ZEr ?_ ?_ ?_ λb r q e=>?_
  ·simp only[Fg,Pl.raw,zZ,Bool.not_eq_true',decide_eq_false_iff_not];exact⟨iN,decide_eq_false hA⟩
  ·have d5:=g.dl k hk;have key:h.dnT (h.pl k).dn="sea"∨h.dnT (h.pl k).dn∈(h.ps.drop (k+1)).map Pl.nm:=by
    cases ed:(h.pl k).dn with
    |none=>exact .inl rfl
    |some d=>
     obtain⟨d1,d2⟩:=g.dn k d hk ed;exact .inr (hB d d1 d2)
   simp only[G7,Pl.raw,zZ,Bool.or_eq_true,decide_eq_true_eq];exact⟨key.imp (λz=>decide_eq_true z) (λz=>decide_eq_true z),decide_eq_true (by lia),decide_eq_true (by lia)⟩
  ·show Et ((h.pl k).kd.raw h)=vJ;unfold Et;cases e:(h.pl k).kd with
   |town a b=>
    obtain⟨q1,q2⟩:=pg.town a b e;have:¬min a b<0:=by lia
    simp[Kd.raw,Cy,this]
   |mill a=>
    have q1:=pww.mill a e;have:¬a<0:=by lia
    simp[Kd.raw,Cy,this]
   | basin b r q=>
    have q1:=(pg.brim b r q e).1;cases q with
    |none=>
     have:¬b<0:=by lia
     simp[Kd.raw,Cy,this]
    |some z=>
     obtain⟨t,d,m⟩:=z;have q2:=(pww.pq b r t d m e).2.1;have:¬min b m<0:=by lia
     simp[Kd.raw,Cy,this]
  ·have e':(h.pl k).kd.raw h=.basin b r q:=e;cases ek:(h.pl k).kd with
   |town a b=>rw[ek]at e';cases e'
   |mill a=>rw[ek]at e';cases e'
   | basin b0 r0 q0=>
    obtain⟨w1,⟨st,r',w2⟩,w3⟩:=pww.asc b0 r0 q0 ek;have gd:=(pg.brim b0 r0 q0 ek).2;have ss:Hn h.yr r0=vJ:=by
     have:=ZEf w1;subst w2;show(decide ((0:Int)=0)&&Fy h.yr (-1) ((0,st)::r'))=vJ;rw[this]
     rfl
    cases q0 with
    |none=>
     rw[ek]at e';cases e';refine⟨rfl,?_⟩;unfold Dz;show(Hn h.yr r&&_)=vJ;rw[ss,Bool.true_and,zH];intro s hs;have p0:pmps s.2=[]:=by unfold pmps;rw[List.map_eq_nil_iff,List.filter_eq_nil_iff];intro t ht;rw[pg.nop b r ek s hs t ht];simp
     rw[ZC4 (gd s hs)];simp[Fb,p0]
    | some z=>
     obtain⟨t,d,m⟩:=z;rw[ek]at e';cases e';obtain⟨p1,p2,p3⟩:=pg.pump b r t d m ek;obtain⟨v1,v2,v3⟩:=pww.pq b r t d m ek;refine⟨?_,?_⟩
     ·unfold Fi;simp only;rw[decide_eq_true (hAB t v1 p1),decide_eq_true (by lia),decide_eq_true (by lia)]
      rfl
     ·unfold Dz;show(Hn h.yr r&&_)=vJ;rw[ss,Bool.true_and,zH];intro s hs;rw[ZC4 (gd s hs)];simp[Fb,v3 s hs]
 ·obtain⟨hk,rfl⟩:=Uq hp;obtain⟨l,e,l1,l8,_⟩:=wd k hk;exact⟨l,e,l1,l8⟩
 ·obtain⟨hk,rfl⟩:=Uq hp;have e':(h.pl k).kd.raw h=.basin b r q:=e;have core:∀b0 r0 q0,(h.pl k).kd=.basin b0 r0 q0->r0.length<=100/\∀s∈r0,s.2.length<=100:=λb0 r0 q0 ek=>by obtain⟨w1,w2,w3⟩:=(pw k hk).2.asc b0 r0 q0 ek;have:=ZD0 w1;exact⟨by lia,w3⟩
  cases ek:(h.pl k).kd with
  |town a b=>rw[ek]at e';cases e'
  |mill a=>rw[ek]at e';cases e'
  |basin b0 r0 q0=>
   have c:=core b0 r0 q0 ek;rw[ek]at e';cases q0 with
   |none=>cases e';exact c
   |some z=>obtain⟨t,d,m⟩:=z;cases e';exact c
theorem ZN6:okD 20 (.tup (st.map Stp.enc))=vJ:=Pq (n:=19) λd hd=>by
 obtain⟨s,_,rfl⟩:=z8.mp hd
 rfl
theorem ZOG{r:List Ssn}:okD 25 (.tup (r.map Am))=vJ:=Pq (n:=24) λd hd=>by
 obtain⟨s,_,rfl⟩:=z8.mp hd;refine Pq (n:=23) λd hd=>?_
 simp only[zz,j5,or_false]at hd;rcases hd with rfl|rfl
 ·rfl
 ·exact Tc ZN6 (by decide)
theorem ZLh{p:Pl}:okD 28 (h.encP p)=vJ:=by
 unfold Hs.encP;cases p.kd with
 | basin b r q=>
  refine Pq (n:=27) λd hd=>?_
  simp only[zz,j5,or_false]at hd;rcases hd with rfl|rfl|rfl|rfl|rfl|rfl|rfl
  ·rfl
  ·rfl
  ·rfl
  ·rfl
  ·rfl
  ·exact Tc ZOG (by decide)
  ·cases q with
   |none=>rfl
   |some z=>obtain⟨a,b,c⟩:=z;rfl
 |town a b=>rfl
 |mill a=>rfl
theorem ZEj:okD 30 h.enc=vJ:=Pq (n:=29) λd hd=>by
 simp only[zz,j5,or_false]at hd;rcases hd with rfl|rfl
 ·rfl
 ·refine Pq (n:=28) λd hd=>?_
  obtain⟨p,_,rfl⟩:=z8.mp hd;exact ZLh
theorem ZGs{h:Hs}{G:DH}:∀(m i:Nat),i+m=h.n->∃bs:List Nat,bs.length<=m/\(∀j∈bs,j<h.n)/\Cp (gV 0) O7 Pg [vZ,vQ h.enc] (Cv i m) G=.ok (bs.map λ(j:Nat)=>.int (j:Int)) G
 |0,i,_=>⟨[],by simp,(λj hj=>nomatch hj),by rw[Ko,Ut];rfl⟩
 | m+1,i,e=>by
  obtain⟨bs,l1,l2,ih⟩:=ZGs (h:=h) (G:=G) m (i+1) (by lia);have ap:atI h.J7 (i:Int)=vQ (h.encP (h.pl i)):=Hs.ZFY (by lia);have ht:O7 [vQ (.int i),vQ h.enc] G=.ok (decide ((h.pl i).kd.txt="basin")) G:=by unfold O7;simp[Wv,ap]
  have he:Pg [vQ (.int i),vQ h.enc] G=.ok (.int i) G:=by unfold Pg;simp
  have e1:((i:Int)+1)=((i+1:Nat):Int):=by lia
  have ih':Cp (gV 0) O7 Pg [vZ,vQ h.enc] (Cv ((i:Int)+1) m) G=.ok (bs.map λ(j:Nat)=>.int (j:Int)) G:=by rw[e1];exact ih
  rw[Ir,Jg];by_cases z:(h.pl i).kd.txt="basin"
  ·refine⟨i::bs,by simp;lia,λj hj=>?_,?_⟩
   ·rcases zz.mp hj with rfl|hj
    ·lia
    ·exact l2 j hj
   ·simp[ht,he,z,ih']
  ·refine⟨bs,by lia,l2,?_⟩;simp[ht,z,ih']
theorem ZLI(h1:1<=h.n)(hn:h.n<=12)(hl:xs.length=5){s0 s5 s6:Option D}(G:DH):∃(k:Nat)(B:Option D),k<h.n/\Qn [s0,vQ h.enc,vQ (.fl (xs.map D.int)),vZ,vZ,s5,s6] G=Rf [s0,vQ h.enc,vQ (.fl (xs.map D.int)),vQ (.int k),B,s5,s6] G:=by
 have a0:atI (xs.map D.int) 0=vQ (.int (gx xs 0)):=Dt (i:=0) (by lia);have a4:atI (xs.map D.int) 4=vQ (.int (gx xs 4)):=Dt (i:=4) (by lia);obtain⟨k,hk,ek⟩:∃k:Nat,k<h.n/\(k:Int)=gx xs 0%(h.n:Int):=by have a:=zI (gx xs 0) (show(h.n:Int)≠0 by lia);have b:=zL (gx xs 0) (show(0:Int)<h.n by lia);exact⟨(gx xs 0%(h.n:Int)).toNat,by lia,by lia⟩
 obtain⟨bs,l1,l2,hc⟩:=ZGs (h:=h) (G:=G) h.n 0 (by lia);have hc':Cp (gV 0) O7 Pg [vZ,vQ h.enc] (Cv 0 h.n) G=.ok (bs.map λ(j:Nat)=>.int (j:Int)) G:=hc;have hr:inR (h.n:Int):=Gz (by lia) (by lia);have hcs:∀a c d e f g:Option D,Bx 1 [1] [a,vQ h.enc,c,d,e,f,g]=[vZ,vQ h.enc]:=λ_ _ _ _ _ _=>rfl
 have fz:freeze G (.ok (.ref G.length) (G++[.lst (bs.map λ(j:Nat)=>D.int (j:Int))]))=.ok (.fl (bs.map λ(j:Nat)=>.int (j:Int))) G:=Cr (Hw λ_ _=>rfl);have lb:(bs.map λ(j:Nat)=>D.int (j:Int)).length=bs.length:=by simp
 have lb':(bs.map λ(j:Nat)=>D.int (j:Int)).length<=1000000:=by lia
 have n0:¬(h.n:Int)=0:=by lia
 have n1:0<h.n:=by lia
 have n1':(0:Int)<(h.n:Int):=by lia
 have n0':¬h.n=0:=by lia
 have ab:∀j:Nat,j<bs.length->∃i:Nat,i<h.n/\atI (bs.map λ(j:Nat)=>D.int (j:Int)) (j:Int)=vQ (.int i):=λj hj=>⟨bs[j],l2 _ (qH hj),Dq rfl (by rw[zv,zQ hj];rfl)⟩
 generalize(bs.map λ(j:Nat)=>D.int (j:Int))=BS at*;generalize xs.map D.int=XS at*;have s3:Qn [s0,vQ h.enc,vQ (.fl XS),vZ,vZ,s5,s6] G=Vd [s0,vQ h.enc,vQ (.fl XS),vQ (.int k),vQ (.fl BS),s5,s6] G:=by unfold Qn ZGa;simp[Wv,a0,Hs.ZHy,n0,n0',n1,n1',<-ek,hr,hcs,hc',Ba,lb',fz]
 rw[s3];by_cases z:gx xs 4%2=0/\0<bs.length
 ·obtain⟨j,hj,ej⟩:∃j:Nat,j<bs.length/\(j:Int)=gx xs 0%(bs.length:Int):=by have a:=zI (gx xs 0) (show(bs.length:Int)≠0 by lia);have b:=zL (gx xs 0) (show(0:Int)<bs.length by lia);exact⟨(gx xs 0%(bs.length:Int)).toNat,by lia,by lia⟩
  obtain⟨i,hi,ei⟩:=ab j hj;refine⟨i,vQ (.fl BS),hi,?_⟩;have z2:(0:Int)<(bs.length:Int):=by lia
  have z3:¬(bs.length:Int)=0:=by lia
  have z4:¬bs.length=0:=by lia
  have z5:¬BS=[]:=λy=>by rw[y]at lb;simp at lb;lia
  unfold Vd;simp[a4,a0,z.1,lb,z.2,z2,z3,z4,z5,<-ej,ei]
 ·refine⟨k,vQ (.fl BS),hk,?_⟩;unfold Vd;by_cases y:gx xs 4%2=0
  ·have z2:bs.length=0:=by
    have:=λq=>z ⟨y,q⟩
    lia
   have z3:BS=[]:=q9 (by lia);simp[a4,y,lb,z2,z3]
  ·simp[a4,y]
theorem ZIi{h:RH}(g:GR h)(hp:h.ps[k]?=vQ p){h':RH}(hr:r<=5)(sp:SpH h k p r h')(G:DH):Mx [h'.enc,.int r,.int k] G=.ok (.bl vJ) G:=by
 have fin:∀{r:Nat}{h':RH},r<=5->r≠0->Bad h' k r->Mx [h'.enc,.int r,.int k] G=.ok (.bl vJ) G:=λ{r h'}hr h0 b=>ZFP hr (by
  obtain⟨L,e⟩:=ZIv b h0 G;refine⟨L,?_⟩;cases r with
  |zero=>exact absurd rfl h0
  |succ r=>exact e)
 have fin0:∀{h':RH},((h'.yr<1∨24<h'.yr)∨h'.ps.length=0∨h'.ps.length=13)->Mx [h'.enc,.int ((0:Nat):Int),.int k] G=.ok (.bl vJ) G:=λ{h'}hb=>ZFP (by lia) ⟨[],by rw[zU];exact ZJJ hb G⟩
 cases sp with
 |yr y hy=>exact fin0 (.inl hy)
 |no=>exact fin0 (.inr (.inl rfl))
 |many l hl=>exact fin0 (.inr (.inr hl))
 |nm z hz lz=>exact fin (by lia) (by lia) (ZIg g hp hz lz)
 |pl _ h2 S p' hS sp=>exact fin hr (by lia) (ZMr g hp hS sp)
theorem holds:Holds:=by
 intro ns hl hm;obtain⟨h,g,h1,pw,hy,⟨nm,nl,no,nk,_⟩,hh⟩:=ZLx (ns:=ns) (at_:=0) (by lia) [];have hn:=g.len;have wd:∀k,k<h.n->Wd (h.pl k).nm:=λk hk=>by rw[nk k hk,<-Qk (by lia)];exact no.wd _ (qH _)
 have gr:=ZKg g h1 hy pw wd;have er:=ZLL (h:=h);have hh':O6 [.fl (ns.map D.int),.int 0] []=.ok h.enc []:=hh;have c15:∀G,Hz [.fl (ns.map D.int),.int 15] G=.ok (.int (cellAt ns 15)) G:=λG=>Q5 (by lia)
 have hst:=Zo (cell:=cellAt ns 15) (k:=1) (n:=5) (by lia) (by lia) [];have hst':freeze [] (Je [.int (cellAt ns 15),.int 1,.int 5] [])=.ok (.fl ((Fw (cellAt ns 15) 1 5).map D.int)) []:=hst;have xl:(Fw (cellAt ns 15) 1 5).length=5:=ZB4;generalize Fw (cellAt ns 15) 1 5=xs at*;generalize cellAt ns 15=cc at*;generalize ns.map D.int=N at*;have s2:ZDb [vQ (.fl N),vZ,vZ,vZ,vZ,vZ,vZ] []=Qn [vQ (.fl N),vQ h.enc,vQ (.fl (xs.map D.int)),vZ,vZ,vZ,vZ] []:=by unfold ZDb ZEn;simp[hh',c15,hst']
 obtain⟨k,B,hk,s5⟩:=ZLI (h:=h) h1 hn xl (s0:=vQ (.fl N)) (s5:=vZ) (s6:=vZ) [];obtain⟨p,hp⟩:∃p,h.raw.ps[k]?=vQ p:=by
  have:k<h.raw.ps.length:=by simpa[Hs.raw,Hs.n]using hk
  exact⟨h.raw.ps[k],zQ this⟩
 have ap:atI h.J7 (k:Int)=vQ p.enc:=by obtain⟨_,rfl⟩:=Uq hp;rw[ZG6];exact Hs.ZFY hk
 have a1:atI (xs.map D.int) 1=vQ (.int (gx xs 1)):=Dt (i:=1) (by lia);have a2:atI (xs.map D.int) 2=vQ (.int (gx xs 2)):=Dt (i:=2) (by lia);have a3:atI (xs.map D.int) 3=vQ (.int (gx xs 3)):=Dt (i:=3) (by lia);obtain⟨r0,q1,q5,r5,r4,cr⟩:=ZJ0 (p:=p) (x:=gx xs 1);have fr:∀r:Nat,freeze ([]:DH) (.ok (.int r) [])=.ok (.int r) []:=λr=>Hj rfl
 obtain⟨r,hr5,hr0,s7⟩:∃r:Nat,r<=5/\(r=0∨r=r0)/\Rf [vQ (.fl N),vQ h.enc,vQ (.fl (xs.map D.int)),vQ (.int k),B,vZ,vZ] []=Zi [vQ (.fl N),vQ h.enc,vQ (.fl (xs.map D.int)),vQ (.int k),B,vQ (.int r),vZ] []:=by
  by_cases z:gx xs 2%9=0
  ·refine⟨0,by lia,.inl rfl,?_⟩;unfold Rf ZAl;simp[Wv,ap,a1,a2,cr,fr,z]
  ·refine⟨r0,by lia,.inr rfl,?_⟩;unfold Rf ZAl;simp[Wv,ap,a1,a2,cr,fr,z]
 have r5':r=5->r0=5:=by lia
 have r4':r=4->r0=4:=by lia
 obtain⟨l,el,l1,l8⟩:=gr.nm k p hp;have h5:r=5->∃b rr q,p.kd=.basin b rr q/\Dz h.raw.yr rr q=vJ/\rr.length<=100/\∀s∈rr,s.2.length<=100:=λe=>by obtain⟨b,rr,q,ek⟩:=r5 (r5' e);obtain⟨y1,y2⟩:=gr.ru k p hp b rr q ek;exact⟨b,rr,q,ek,((Pk (gr.rk k p hp)).2.2.2 b rr q ek).2,y1,y2⟩
 have h4:r=4->∃b rr z,p.kd=.basin b rr (vQ z):=λe=>r4 (r4' e)
 obtain⟨h',sp,cs⟩:=ZLw (h:=h.raw) hp gr.n.2 el l1 l8 (x:=gx xs 3) hr5 h5 h4 (gr.sh hp) [];have rf:=ZIi gr hp hr5 sp [];have ck:=ZOz gr [];rw[er]at cs ck;have n1:=ZHv (G:=[]) (ZEj (h:=h));have n2:=ZNA (G:=[]) (ZEj (h:=h));refine⟨[],?_⟩;unfold Oe;rw[Br]
 rw[show([D.fl N].map vQ++zY 6 vZ)=[vQ (.fl N),vZ,vZ,vZ,vZ,vZ,vZ]from rfl,s2,s5,s7]
 unfold Zi ZHZ ZFN;simp[a3,cs,ck,n1,rf,n2,Bp]
end _W
namespace _W
open PySem _L _D
seal QE QT QA QS QSs QG QGs QI QTs QW QO
structure Txt (K:PySem.W.Frag) (mg:Str->Option jN):Prop where
 Li:FT K mg "_law_cell_at" ZCg ZAy
 W4:FT K mg "_law_free_names" Qe ZCo
 Nh:FT K mg "_law_stream" ZBG ZCu
 Xw:FT K mg "_law_names" Mj ZCL
 Vh:FT K mg "_law_more" ZA8 ZBj
 K3:FT K mg "_law_number" ZDe ZBA
 Sy:FT K mg "_law_pumped" Sx ZBc
 T3:FT K mg "_law_stairs" Zn Zh
 Vz:FT K mg "_law_rule" ZBC Zm
 Yc:FT K mg "_law_place" ZBK Yp
 Y6:FT K mg "_law_house" Xo ZCk
 Tn:FT K mg "_law_rank" ZBL ZAS
 T4:FT K mg "_law_whole" ZC2 ZDS
 Xf:FT K mg "is_name" Wm ZBm
 Xx:FT K mg "is_pump_good" ZB5 ZBy
 V1:FT K mg "is_river_good" ZCY ZBF
 Xr:FT K mg "are_seasons_good" ZAe ZAz
 Vi:FT K mg "are_steps_good" ZCU ZDL
 Ti:FT K mg "can_pump" Wn ZAU
 Ue:FT K mg "is_rule_good" ZBk ZAC
 Ua:FT K mg "numbers_in" ZAQ Z6
 Pj:FT K mg "check_place" Rv ZDf
 Ou:FT K mg "checked" ZC3 Z5
 Xk:FT K mg "_law_refused" Wb ZCc
 Vw:FT K mg "_law_no_name" ZBh ZBN
 Ew:FT K mg "_law_put" ZBM ZC5
 Y8:FT K mg "_law_rule_spoilt" Vf Ym
 Wj:FT K mg "_law_place_spoilt" ZDD ZAv
 Xq:FT K mg "_law_renamed" ZCz Yw
 U0:FT K mg "_law_spoilt" ZDn ZA4
 Px:FT K mg "law" Hi ZDX
 ZJo:mg "ValueError"=vZ
 ZIb:mg "all"=vZ
 ZLW:mg "bool"=vZ
 Zq:mg "int"=vZ
 Ft:mg "isinstance"=vZ
 Es:mg "len"=vZ
 R1:mg "max"=vZ
 ZMe:mg "min"=vZ
 Hq:mg "range"=vZ
 Z8:mg "sum"=vZ
 Uz:mg "tuple"=vZ
 Tr:mg "BRIM"=vQ (.int 4 (Du K "BRIM"))
 ZBr:mg "DELAY"=vQ (.int 3 (Du K "DELAY"))
 Ud:mg "DOWN"=vQ (.int 2 (Du K "DOWN"))
 Qf:mg "KIND"=vQ (.int 0 (Du K "KIND"))
 ZBI:mg "LETTERS"=vQ (.str "abcdefghijklmnopqrstuvwxyz" (Du K "LETTERS"))
 ZBa:mg "MOST"=vQ (.int 4 (Du K "MOST"))
 P0:mg "NAME"=vQ (.int 1 (Du K "NAME"))
 ZDJ:mg "NEED"=vQ (.int 4 (Du K "NEED"))
 Uc:mg "PLACES"=vQ (.int 1 (Du K "PLACES"))
 Ni:mg "PUMP"=vQ (.int 6 (Du K "PUMP"))
 ZBE:mg "PUMP_DELAY"=vQ (.int 1 (Du K "PUMP_DELAY"))
 Xb:mg "PUMP_MOST"=vQ (.int 2 (Du K "PUMP_MOST"))
 ZCQ:mg "PUMP_TO"=vQ (.int 0 (Du K "PUMP_TO"))
 Yo:mg "RANK"=vQ (.int 5 (Du K "RANK"))
 ZAN:mg "RULE"=vQ (.int 5 (Du K "RULE"))
 W3:mg "SEA"=vQ (.str "sea" (Du K "SEA"))
 Wr:mg "YEAR"=vQ (.int 0 (Du K "YEAR"))
 Ur:MT K "NoName" "__init__" "NoName.__init__" ZAm ["self","place"]
 Wf:MT K "NoNumber" "__init__" "NoNumber.__init__" Yr ["self","place"]
 We:MT K "NoPump" "__init__" "NoPump.__init__" ZAh ["self","place"]
 Te:MT K "NoRiver" "__init__" "NoRiver.__init__" Yu ["self","place"]
 Up:MT K "NoRule" "__init__" "NoRule.__init__" ZDT ["self","place"]
 Eh:ET K mg "NoName" "place"
 Ei:ET K mg "NoNumber" "place"
 Ef:ET K mg "NoPump" "place"
 Ed:ET K mg "NoRiver" "place"
 Eg:ET K mg "NoRule" "place"
 Eu:ET0 K mg "NoHouse"
 Ly:XBase K mg "WaterError" (Ab K "WaterError")
 ZCC:mg "NoAsk"=vQ (.ref (Ab K "NoAsk"))
 ZAE:mg "NoBounds"=vQ (.ref (Ab K "NoBounds"))
 ZCJ:mg "NoHouse"=vQ (.ref (Ab K "NoHouse"))
 ZAK:mg "NoLevel"=vQ (.ref (Ab K "NoLevel"))
 Zb:mg "NoName"=vQ (.ref (Ab K "NoName"))
 ZCy:mg "NoNumber"=vQ (.ref (Ab K "NoNumber"))
 ZAd:mg "NoPump"=vQ (.ref (Ab K "NoPump"))
 ZBb:mg "NoRiver"=vQ (.ref (Ab K "NoRiver"))
 ZAi:mg "NoRow"=vQ (.ref (Ab K "NoRow"))
 ZCM:mg "NoRule"=vQ (.ref (Ab K "NoRule"))
 ZAV:mg "NoText"=vQ (.ref (Ab K "NoText"))
 ZBz:mg "NoWay"=vQ (.ref (Ab K "NoWay"))
 Zk:mg "TooLong"=vQ (.ref (Ab K "TooLong"))
 ZB6:mg "WaterError"=vQ (.ref (Ab K "WaterError"))
 ZCA:En K (Ab K "NoHouse") (Ab K "WaterError") vJ=vJ
 ZCm:En K (Ab K "NoName") (Ab K "WaterError") vJ=vJ
 ZB0:En K (Ab K "NoNumber") (Ab K "WaterError") vJ=vJ
 ZCp:En K (Ab K "NoPump") (Ab K "WaterError") vJ=vJ
 ZCh:En K (Ab K "NoRiver") (Ab K "WaterError") vJ=vJ
 ZAb:En K (Ab K "NoRule") (Ab K "WaterError") vJ=vJ
 ZAr:Aj (PySem.W.kitOne K (.ref (Ab K "NoHouse")) (.ref (Ab K "NoAsk"))) vX=vJ
 ZCT:Aj (PySem.W.kitOne K (.ref (Ab K "NoName")) (.ref (Ab K "NoAsk"))) vX=vJ
 Yh:Aj (PySem.W.kitOne K (.ref (Ab K "NoNumber")) (.ref (Ab K "NoAsk"))) vX=vJ
 ZA3:Aj (PySem.W.kitOne K (.ref (Ab K "NoPump")) (.ref (Ab K "NoAsk"))) vX=vJ
 ZA1:Aj (PySem.W.kitOne K (.ref (Ab K "NoRiver")) (.ref (Ab K "NoAsk"))) vX=vJ
 Yz:Aj (PySem.W.kitOne K (.ref (Ab K "NoRule")) (.ref (Ab K "NoAsk"))) vX=vJ
 Z9:Aj (PySem.W.kitOne K (.ref (Ab K "NoHouse")) (.ref (Ab K "NoBounds"))) vX=vJ
 ZCN:Aj (PySem.W.kitOne K (.ref (Ab K "NoName")) (.ref (Ab K "NoBounds"))) vX=vJ
 Z7:Aj (PySem.W.kitOne K (.ref (Ab K "NoNumber")) (.ref (Ab K "NoBounds"))) vX=vJ
 ZBu:Aj (PySem.W.kitOne K (.ref (Ab K "NoPump")) (.ref (Ab K "NoBounds"))) vX=vJ
 ZAx:Aj (PySem.W.kitOne K (.ref (Ab K "NoRiver")) (.ref (Ab K "NoBounds"))) vX=vJ
 Zg:Aj (PySem.W.kitOne K (.ref (Ab K "NoRule")) (.ref (Ab K "NoBounds"))) vX=vJ
 Zy:Aj (PySem.W.kitOne K (.ref (Ab K "NoHouse")) (.ref (Ab K "NoHouse"))) vJ=vJ
 Yj:Aj (PySem.W.kitOne K (.ref (Ab K "NoName")) (.ref (Ab K "NoHouse"))) vX=vJ
 ZCt:Aj (PySem.W.kitOne K (.ref (Ab K "NoNumber")) (.ref (Ab K "NoHouse"))) vX=vJ
 ZBd:Aj (PySem.W.kitOne K (.ref (Ab K "NoPump")) (.ref (Ab K "NoHouse"))) vX=vJ
 Yl:Aj (PySem.W.kitOne K (.ref (Ab K "NoRiver")) (.ref (Ab K "NoHouse"))) vX=vJ
 ZCP:Aj (PySem.W.kitOne K (.ref (Ab K "NoRule")) (.ref (Ab K "NoHouse"))) vX=vJ
 ZCZ:Aj (PySem.W.kitOne K (.ref (Ab K "NoHouse")) (.ref (Ab K "NoLevel"))) vX=vJ
 ZAg:Aj (PySem.W.kitOne K (.ref (Ab K "NoName")) (.ref (Ab K "NoLevel"))) vX=vJ
 ZAD:Aj (PySem.W.kitOne K (.ref (Ab K "NoNumber")) (.ref (Ab K "NoLevel"))) vX=vJ
 Zz:Aj (PySem.W.kitOne K (.ref (Ab K "NoPump")) (.ref (Ab K "NoLevel"))) vX=vJ
 ZDK:Aj (PySem.W.kitOne K (.ref (Ab K "NoRiver")) (.ref (Ab K "NoLevel"))) vX=vJ
 Yt:Aj (PySem.W.kitOne K (.ref (Ab K "NoRule")) (.ref (Ab K "NoLevel"))) vX=vJ
 Yv:Aj (PySem.W.kitOne K (.ref (Ab K "NoHouse")) (.ref (Ab K "NoName"))) vX=vJ
 ZCB:Aj (PySem.W.kitOne K (.ref (Ab K "NoName")) (.ref (Ab K "NoName"))) vJ=vJ
 Zv:Aj (PySem.W.kitOne K (.ref (Ab K "NoNumber")) (.ref (Ab K "NoName"))) vX=vJ
 ZCW:Aj (PySem.W.kitOne K (.ref (Ab K "NoPump")) (.ref (Ab K "NoName"))) vX=vJ
 ZB1:Aj (PySem.W.kitOne K (.ref (Ab K "NoRiver")) (.ref (Ab K "NoName"))) vX=vJ
 ZDR:Aj (PySem.W.kitOne K (.ref (Ab K "NoRule")) (.ref (Ab K "NoName"))) vX=vJ
 ZDU:Aj (PySem.W.kitOne K (.ref (Ab K "NoHouse")) (.ref (Ab K "NoNumber"))) vX=vJ
 ZAo:Aj (PySem.W.kitOne K (.ref (Ab K "NoName")) (.ref (Ab K "NoNumber"))) vX=vJ
 ZBp:Aj (PySem.W.kitOne K (.ref (Ab K "NoNumber")) (.ref (Ab K "NoNumber"))) vJ=vJ
 ZDW:Aj (PySem.W.kitOne K (.ref (Ab K "NoPump")) (.ref (Ab K "NoNumber"))) vX=vJ
 ZCX:Aj (PySem.W.kitOne K (.ref (Ab K "NoRiver")) (.ref (Ab K "NoNumber"))) vX=vJ
 ZBD:Aj (PySem.W.kitOne K (.ref (Ab K "NoRule")) (.ref (Ab K "NoNumber"))) vX=vJ
 ZA5:Aj (PySem.W.kitOne K (.ref (Ab K "NoHouse")) (.ref (Ab K "NoPump"))) vX=vJ
 ZCs:Aj (PySem.W.kitOne K (.ref (Ab K "NoName")) (.ref (Ab K "NoPump"))) vX=vJ
 ZCi:Aj (PySem.W.kitOne K (.ref (Ab K "NoNumber")) (.ref (Ab K "NoPump"))) vX=vJ
 ZDs:Aj (PySem.W.kitOne K (.ref (Ab K "NoPump")) (.ref (Ab K "NoPump"))) vJ=vJ
 Zr:Aj (PySem.W.kitOne K (.ref (Ab K "NoRiver")) (.ref (Ab K "NoPump"))) vX=vJ
 Yk:Aj (PySem.W.kitOne K (.ref (Ab K "NoRule")) (.ref (Ab K "NoPump"))) vX=vJ
 ZCv:Aj (PySem.W.kitOne K (.ref (Ab K "NoHouse")) (.ref (Ab K "NoRiver"))) vX=vJ
 ZBx:Aj (PySem.W.kitOne K (.ref (Ab K "NoName")) (.ref (Ab K "NoRiver"))) vX=vJ
 ZAO:Aj (PySem.W.kitOne K (.ref (Ab K "NoNumber")) (.ref (Ab K "NoRiver"))) vX=vJ
 ZCl:Aj (PySem.W.kitOne K (.ref (Ab K "NoPump")) (.ref (Ab K "NoRiver"))) vX=vJ
 Z4:Aj (PySem.W.kitOne K (.ref (Ab K "NoRiver")) (.ref (Ab K "NoRiver"))) vJ=vJ
 ZCe:Aj (PySem.W.kitOne K (.ref (Ab K "NoRule")) (.ref (Ab K "NoRiver"))) vX=vJ
 ZDQ:Aj (PySem.W.kitOne K (.ref (Ab K "NoHouse")) (.ref (Ab K "NoRow"))) vX=vJ
 ZBP:Aj (PySem.W.kitOne K (.ref (Ab K "NoName")) (.ref (Ab K "NoRow"))) vX=vJ
 Zt:Aj (PySem.W.kitOne K (.ref (Ab K "NoNumber")) (.ref (Ab K "NoRow"))) vX=vJ
 ZCq:Aj (PySem.W.kitOne K (.ref (Ab K "NoPump")) (.ref (Ab K "NoRow"))) vX=vJ
 ZBv:Aj (PySem.W.kitOne K (.ref (Ab K "NoRiver")) (.ref (Ab K "NoRow"))) vX=vJ
 ZDc:Aj (PySem.W.kitOne K (.ref (Ab K "NoRule")) (.ref (Ab K "NoRow"))) vX=vJ
 ZCS:Aj (PySem.W.kitOne K (.ref (Ab K "NoHouse")) (.ref (Ab K "NoRule"))) vX=vJ
 ZAj:Aj (PySem.W.kitOne K (.ref (Ab K "NoName")) (.ref (Ab K "NoRule"))) vX=vJ
 ZDY:Aj (PySem.W.kitOne K (.ref (Ab K "NoNumber")) (.ref (Ab K "NoRule"))) vX=vJ
 ZCH:Aj (PySem.W.kitOne K (.ref (Ab K "NoPump")) (.ref (Ab K "NoRule"))) vX=vJ
 Zc:Aj (PySem.W.kitOne K (.ref (Ab K "NoRiver")) (.ref (Ab K "NoRule"))) vX=vJ
 ZBQ:Aj (PySem.W.kitOne K (.ref (Ab K "NoRule")) (.ref (Ab K "NoRule"))) vJ=vJ
 ZCn:Aj (PySem.W.kitOne K (.ref (Ab K "NoHouse")) (.ref (Ab K "NoText"))) vX=vJ
 ZB7:Aj (PySem.W.kitOne K (.ref (Ab K "NoName")) (.ref (Ab K "NoText"))) vX=vJ
 ZDN:Aj (PySem.W.kitOne K (.ref (Ab K "NoNumber")) (.ref (Ab K "NoText"))) vX=vJ
 ZDg:Aj (PySem.W.kitOne K (.ref (Ab K "NoPump")) (.ref (Ab K "NoText"))) vX=vJ
 ZCK:Aj (PySem.W.kitOne K (.ref (Ab K "NoRiver")) (.ref (Ab K "NoText"))) vX=vJ
 ZA9:Aj (PySem.W.kitOne K (.ref (Ab K "NoRule")) (.ref (Ab K "NoText"))) vX=vJ
 Yq:Aj (PySem.W.kitOne K (.ref (Ab K "NoHouse")) (.ref (Ab K "NoWay"))) vX=vJ
 ZB8:Aj (PySem.W.kitOne K (.ref (Ab K "NoName")) (.ref (Ab K "NoWay"))) vX=vJ
 Zf:Aj (PySem.W.kitOne K (.ref (Ab K "NoNumber")) (.ref (Ab K "NoWay"))) vX=vJ
 ZBs:Aj (PySem.W.kitOne K (.ref (Ab K "NoPump")) (.ref (Ab K "NoWay"))) vX=vJ
 ZDB:Aj (PySem.W.kitOne K (.ref (Ab K "NoRiver")) (.ref (Ab K "NoWay"))) vX=vJ
 ZA6:Aj (PySem.W.kitOne K (.ref (Ab K "NoRule")) (.ref (Ab K "NoWay"))) vX=vJ
 ZAf:Aj (PySem.W.kitOne K (.ref (Ab K "NoHouse")) (.ref (Ab K "TooLong"))) vX=vJ
 ZDE:Aj (PySem.W.kitOne K (.ref (Ab K "NoName")) (.ref (Ab K "TooLong"))) vX=vJ
 Zu:Aj (PySem.W.kitOne K (.ref (Ab K "NoNumber")) (.ref (Ab K "TooLong"))) vX=vJ
 Ze:Aj (PySem.W.kitOne K (.ref (Ab K "NoPump")) (.ref (Ab K "TooLong"))) vX=vJ
 ZDV:Aj (PySem.W.kitOne K (.ref (Ab K "NoRiver")) (.ref (Ab K "TooLong"))) vX=vJ
 ZDM:Aj (PySem.W.kitOne K (.ref (Ab K "NoRule")) (.ref (Ab K "TooLong"))) vX=vJ
 ZCF:Aj (PySem.W.kitOne K (.ref (Ab K "NoHouse")) (.type "ValueError")) vJ=vJ
 Zd:Aj (PySem.W.kitOne K (.ref (Ab K "NoName")) (.type "ValueError")) vJ=vJ
 ZCf:Aj (PySem.W.kitOne K (.ref (Ab K "NoNumber")) (.type "ValueError")) vJ=vJ
 Zw:Aj (PySem.W.kitOne K (.ref (Ab K "NoPump")) (.type "ValueError")) vJ=vJ
 ZC6:Aj (PySem.W.kitOne K (.ref (Ab K "NoRiver")) (.type "ValueError")) vJ=vJ
 ZCI:Aj (PySem.W.kitOne K (.ref (Ab K "NoRule")) (.type "ValueError")) vJ=vJ
section
variable{P:jH}{w:jO}{K:PySem.W.Frag}{mg:Str->Option jN}{base:Heap}
theorem ZJc(T:Txt K mg):FnOk P w K mg base CX0 1 (Cz K (Ab K "NoName") "__init__") (Bv K (Cz K (Ab K "NoName") "__init__")) ["self","place"] (spI (Ab K "NoName") "place"):=
 Qq (k:=0) T.Ur.F ZIp T.Eh.X T.Ly rfl (by decide +kernel) (by decide +kernel) rfl rfl rfl rfl (.inl rfl) (.inl rfl) (λ_=>⟨_,rfl⟩)
theorem ZOZ(T:Txt K mg):FnOk P w K mg base CX0 1 (Cz K (Ab K "NoNumber") "__init__") (Bv K (Cz K (Ab K "NoNumber") "__init__")) ["self","place"] (spI (Ab K "NoNumber") "place"):=
 Qq (k:=0) T.Wf.F ZNY T.Ei.X T.Ly rfl (by decide +kernel) (by decide +kernel) rfl rfl rfl rfl (.inl rfl) (.inl rfl) (λ_=>⟨_,rfl⟩)
theorem ZIx(T:Txt K mg):FnOk P w K mg base CX0 1 (Cz K (Ab K "NoPump") "__init__") (Bv K (Cz K (Ab K "NoPump") "__init__")) ["self","place"] (spI (Ab K "NoPump") "place"):=
 Qq (k:=0) T.We.F ZMS T.Ef.X T.Ly rfl (by decide +kernel) (by decide +kernel) rfl rfl rfl rfl (.inl rfl) (.inl rfl) (λ_=>⟨_,rfl⟩)
theorem ZNo(T:Txt K mg):FnOk P w K mg base CX0 1 (Cz K (Ab K "NoRiver") "__init__") (Bv K (Cz K (Ab K "NoRiver") "__init__")) ["self","place"] (spI (Ab K "NoRiver") "place"):=
 Qq (k:=0) T.Te.F ZKM T.Ed.X T.Ly rfl (by decide +kernel) (by decide +kernel) rfl rfl rfl rfl (.inl rfl) (.inl rfl) (λ_=>⟨_,rfl⟩)
theorem ZLK(T:Txt K mg):FnOk P w K mg base CX0 1 (Cz K (Ab K "NoRule") "__init__") (Bv K (Cz K (Ab K "NoRule") "__init__")) ["self","place"] (spI (Ab K "NoRule") "place"):=
 Qq (k:=0) T.Up.F ZJB T.Eg.X T.Ly rfl (by decide +kernel) (by decide +kernel) rfl rfl rfl rfl (.inl rfl) (.inl rfl) (λ_=>⟨_,rfl⟩)
theorem Q7(T:Txt K mg):FnO P w K mg base 1 "_law_cell_at" ZAy Hz:=by
 refine Dh T.Li.F ZNh λcdv A outer s H E hr=>?_
 exact(Al (Bj (Az Ho (Aa 1) (Cw Ex rfl T.Es Eo (Ae (Aa 0) Ai)) (nomark _)) (Av (Bf (Ao Aq (Aa 0) (Aa 1)))) Bh) (Av (Bf Ac)))
theorem ZLs(T:Txt K mg):FnO P w K mg base 1 "_law_free_names" ZCo Ug:=by
 refine Dh T.W4.F Jl λcdv A outer s H E hr=>?_
 exact(Al (Ay 1 Jl.nd Bt) (Al (Ay 2 Jl.nd (Lr (Di Ai))) (Al (Ip PassesOwn.never rfl (Gb (Aa 0)) (Cd 3 Jl.nd) (Al (Ay 4 Jl.nd Bt) (Al (Ay 5 Jl.nd (Af Do (Aa 3) Ac)) (Al (Ip PassesOwn.never rfl (I9 rfl T.Hq (Ae (Af Bm Ac (Af Bg (Aa 3) Ac)) Ai)) (Cd 6 Jl.nd) (Al (Ay 4 Jl.nd (Af Bm (Aa 4) (Ao Aq (Aa 1) (Af Bg (Aa 5) Ac)))) (Av (Ay 5 Jl.nd (Af Do (Aa 5) Ac))))) (Al (Ay 7 Jl.nd (Ax (Af Bm (Ax (Di (Ae (Aa 4) Ai))) (Ax (Jx rfl (G9 (dn:=(Bd Qe).names) (N0:=Uy) (N:=["_law_letter"]) (nt:=1) (caps:=[])) (Gb (Aa 1)) (λC s₀ H₀ ex=>(Cd 0 (show(["_law_letter"]:List Str).Nodup by decide +kernel))) (Dv (by decide)) (λC s₀ H₀ ex=>Il) (λC s₀ H₀ ex=>(Af Bm Bt (Aa 0)))))))) (Av (Ma (Om PySem.F.slot_list_append PySem.F.type_list_append Ox (Aa 2) (Ae (Ao Aq (Ax (Jx rfl (G9 (dn:=(Bd Qe).names) (N0:=Uy) (N:=["_law_one","_law_names_here"]) (nt:=1) (caps:=[2])) (Gb (Aa 7)) (λC s₀ H₀ ex=>(Cd 0 (show(["_law_one","_law_names_here"]:List Str).Nodup by decide +kernel))) (Dv (by decide)) (λC s₀ H₀ ex=>(Rq (Dg (Dy (Az ZKv (Aa 0) (Aa 1) (by with_unfolding_all rfl)) (Em (Az (Nr hr.units) (Aa 0) Bt (nomark _))))))) (λC s₀ H₀ ex=>(Aa 0)))) Ac) Ai))))))))) (Av (Bf (Aa 2))))))
theorem ZAn(T:Txt K mg):FnO P w K mg base 1 "_law_stream" ZCu Je:=by
 refine Dh T.Nh.F Lq λcdv A outer s H E hr=>?_
 exact(Al (Ay 3 Lq.nd (Af Bg (Af Fq (Af Bm (Af Bg (Aa 0) Ac) Ac) (Af Bm (Af Fq (Af Fq Ac (Aa 1)) (Aa 1)) Ac)) Ac)) (Al (Ay 4 Lq.nd Ac) (Al (Bj (Dg (Ja (Az Ho (Aa 0) Ac (nomark _)) (Jh (Az o_ge (Aa 0) (Af Ji Ac Ac) (nomark _))))) (Av (Ay 4 Lq.nd (Cw (Vr rfl) rfl T.R1 R4 (Ae (Aa 0) (Ae (Af Gr Ac (Aa 0)) Ai))))) Bh) (Al (Ay 5 Lq.nd (Lr (Di Ai))) (Al (Ip PassesOwn.never rfl (I9 rfl T.Hq (Ae (Aa 2) Ai)) (Cd 6 Lq.nd) (Al (Ay 3 Lq.nd (Af Bg (Af Bm (Af Bm (Af Fq (Aa 3) (Aa 3)) (Af Fq Ac (Aa 6))) Ac) Ac)) (Al (Ma (Om PySem.F.slot_list_append PySem.F.type_list_append Ox (Aa 5) (Ae (Ao Aq (Ax (Di (Ae (Aa 3) (Ae (Af Bg (Aa 4) (Af Ji Ac Ac)) Ai)))) (Og ZHg rfl T.Zq ZBS (Ae (Gn Gh (Aa 4) Ac (nomark _)) Ai))) Ai))) (Av (Ay 4 Lq.nd (Af Do (Aa 4) (Af Ji Ac Ac))))))) (Av (Bf (Aa 5))))))))
theorem ZKL(T:Txt K mg):FnO P w K mg base 2 "_law_names" ZCL K5:=by
 refine Dh T.Xw.F Fd λcdv A outer s H E hr=>?_
 exact(Al (Ay 1 Fd.nd Bt) (Al (Ay 2 Fd.nd (Ax (Bs (ZAn T) T.Nh hr (Ae (Aa 0) (Ae Ac (Ae Ac Ai)))))) (Al (Bj (Az Gh (Ao Aq (Aa 2) Ac) Ac (nomark _)) (Av (Bf (Bs (ZLs T) T.W4 hr (Ae (Ax (Cm (Aa 2) (Cg Ac) (Cg Ac))) Ai)))) Bh) (Al (Ay 3 Fd.nd (ZHa PySem.F.slot_str_join PySem.F.type_str_join ZMT Bt (Ae (Ax (Jx rfl (G9 (dn:=(Bd Mj).names) (N0:=Od) (N:=["_law_x","_law_letters"]) (nt:=1) (caps:=[1])) (Gb (Ax (Cm (Aa 2) Df (Cg Ac)))) (λC s₀ H₀ ex=>(Cd 0 (show(["_law_x","_law_letters"]:List Str).Nodup by decide +kernel))) (Dv (by decide)) (λC s₀ H₀ ex=>Il) (λC s₀ H₀ ex=>(Ao Aq (Aa 1) (Af Bg (Aa 0) Ac))))) Ai))) (Al (Bj (Az (Bo hr.units) (Af Bg (Af Do (Ao Aq (Aa 2) Ac) Ac) Ac) Ac (nomark _)) (Av (Ay 3 Fd.nd (Ax (Cm (Ax (Af Bm (Ao Aq (Ax (Di (Ae Bt (Ae Bt Ai)))) (Af Bg (Af Do (Ao Aq (Aa 2) Ac) Ac) Ac)) (Ax (Cm (Aa 3) (Cg Ac) Df)))) Df (Cg Ac))))) Bh) (Al (Bj (Az (Bo hr.units) (Af Bg (Ao Aq (Aa 2) Ac) Ac) Ac (nomark _)) (Al (Ay 4 Fd.nd (Af Bg (Af Bm (Af Bm (ZHa PySem.F.slot_str_find PySem.F.type_str_find m_find (Aa 1) (Ae (Ao Aq (Aa 3) Ac) Ai)) Ac) (Af Bg (Ao Aq (Aa 2) Ac) Ac)) Ac)) (Al (Ay 5 Fd.nd (Ax (Af Bm (Ao Aq (Aa 1) (Aa 4)) (Ax (Cm (Aa 3) (Cg Ac) Df))))) (Al (N5 6 rfl Fd.nd (G9 (dn:=(Bd Mj).names) (N0:=Od) (N:=["_law_k","_law_word"]) (nt:=1) (caps:=[3])) (I9 rfl T.Hq (Ae Ac Ai)) (λC s₀ H₀ ex=>(Cd 0 (show(["_law_k","_law_word"]:List Str).Nodup by decide +kernel))) (Dv (by decide)) (λC s₀ H₀ ex=>Il) (λC s₀ H₀ ex=>(Ax (Cm (Aa 1) Df (Cg (Af Bm (Aa 0) Ac)))))) (Al (Ay 6 Fd.nd (Lr (Af Bm (Aa 6) (Ax (Jx rfl (G9 (dn:=(Bd Mj).names) (N0:=Od) (N:=["_law_k","_law_other"]) (nt:=1) (caps:=[5])) (I9 rfl T.Hq (Ae Ac Ai)) (λC s₀ H₀ ex=>(Cd 0 (show(["_law_k","_law_other"]:List Str).Nodup by decide +kernel))) (Dv (by decide)) (λC s₀ H₀ ex=>Il) (λC s₀ H₀ ex=>(Ax (Cm (Aa 1) Df (Cg (Af Bm (Aa 0) Ac)))))))))) (Al (N5 6 rfl Fd.nd (G9 (dn:=(Bd Mj).names) (N0:=Od) (N:=["_law_name"]) (nt:=1) (caps:=[])) (Gb (Aa 6)) (λC s₀ H₀ ex=>(Cd 0 (show(["_law_name"]:List Str).Nodup by decide +kernel))) (Dv (by decide)) (λC s₀ H₀ ex=>Il) (λC s₀ H₀ ex=>(Ao Aq (Ax (Di (Ae (Aa 0) (Ae Bt Ai)))) (Og ZHg rfl T.Zq ZBS (Ae (Gn (Bo hr.units) (Aa 0) Bt (nomark _)) Ai))))) (Av (Bf (Af Bm (Ax (Cm (Aa 6) (Cg (Af Bg (Ao Aq (Aa 2) Ac) Ac)) Df)) (Ax (Cm (Aa 6) Df (Cg (Af Bg (Ao Aq (Aa 2) Ac) Ac)))))))))))) Bh) (Al (Ay 9 Fd.nd (Af Bg (Af Do (Ao Aq (Aa 2) Ac) Ac) Ac)) (Al (Ay 10 Fd.nd (Af Bg (Ao Aq (Aa 2) Ac) (Af Bm (Aa 9) Ac))) (Al (Ay 6 Fd.nd (Lr (Di Ai))) (Al (Ip PassesOwn.never rfl (I9 rfl T.Hq (Ae Ac Ai)) (Cd 7 Fd.nd) (Al (Ay 11 Fd.nd (Ao Aq (Aa 1) (Af Bg (Af Bm (Ao Aq (Aa 2) Ac) (Af Fq Ac (Aa 7))) Ac))) (Al (Ay 8 Fd.nd (Ax (Af Bm (Ax (Af Bm (Ax (Cm (Aa 3) Df (Cg (Aa 10)))) (Aa 11))) (Ax (Cm (Aa 3) (Cg (Aa 10)) (Cg (Aa 9))))))) (Al (Bj (Az (Bo hr.units) (Aa 8) Bt (nomark _)) (Av (Ay 8 Fd.nd Bt)) Bh) (Av (Ma (Om PySem.F.slot_list_append PySem.F.type_list_append Ox (Aa 6) (Ae (Aa 8) Ai)))))))) (Av (Bf (Aa 6)))))))))))))
theorem ZJN(T:Txt K mg):FnO P w K mg base 1 "_law_more" ZBj Rm:=by
 refine Dh T.Vh.F ZHl λcdv A outer s H E hr=>?_
 exact(Al (Bj (Az Gh (Aa 0) Ac (nomark _)) (Av (Bf (Af Fq (Af Bg (Af Do (Aa 0) Ac) (Af Ji Ac Ac)) (Af Bg (Aa 0) Ac)))) Bh) (Av (Bf (Af Fq (Af Bg (Aa 0) Ac) (Af Bg (Af Do (Aa 0) Ac) Ac)))))
theorem Ng(T:Txt K mg):FnO P w K mg base 1 "_law_number" ZBA Jy:=by
 refine Dh T.K3.F ZNP λcdv A outer s H E hr=>?_
 exact(Al (Bj (Az (Bo hr.units) (Af Bg (Aa 0) Ac) Ac (nomark _)) (Av (Bf Ac)) Bh) (Al (Bj (Dg (Dy (Az (Bo hr.units) (Af Bg (Aa 0) Ac) Ac (nomark _)) (Em (Az Gh (Aa 0) Ac (nomark _))))) (Av (Bf (Af Bg (Af Do (Aa 0) Ac) (Af Ji Ac Ac)))) Bh) (Al (Bj (Az (Bo hr.units) (Af Bg (Aa 0) Ac) Ac (nomark _)) (Av (Bf (Af Bg (Af Fq (Aa 1) (Af Bm (Af Do (Aa 0) Ac) Ac)) (Af Ji Ac Ac)))) Bh) (Av (Bf (Af Bg (Af Do (Aa 0) Ac) Ac))))))
theorem ZLV(T:Txt K mg):FnO P w K mg base 1 "_law_pumped" ZBc Tt:=by
 refine Dh T.Sy.F ZJQ λcdv A outer s H E hr=>?_
 exact(Av (Bf (Cw (ZNH rfl) rfl T.R1 R4 (Ae (Ax (Jx rfl (G9 (dn:=(Bd Sx).names) (N0:=ZC9) (N:=["_law_begin","_law_stairs_here"]) (nt:=2) (caps:=[])) (Gb (Aa 0)) (λC s₀ H₀ ex=>(K9 rfl (Ea (Cd 0 (show(["_law_begin","_law_stairs_here"]:List Str).Nodup by decide +kernel)) (Ea (Cd 1 (show(["_law_begin","_law_stairs_here"]:List Str).Nodup by decide +kernel)) Km)))) (Wo (Iw (Dv (by decide)) (Iw (Dv (by decide)) Vj))) (λC s₀ H₀ ex=>Il) (λC s₀ H₀ ex=>(Cw (ZDG rfl) rfl T.Z8 ZCj (Ae (Ax (Jx rfl (ZKY (N:=["_law_height","_law_many","_law_way"]) (nt:=3)) (Gb (Aa 1)) (λC s₀ H₀ ex=>(K9 rfl (Ea (Cd 0 (show(["_law_height","_law_many","_law_way"]:List Str).Nodup by decide +kernel)) (Ea (Cd 1 (show(["_law_height","_law_many","_law_way"]:List Str).Nodup by decide +kernel)) (Ea (Cd 2 (show(["_law_height","_law_many","_law_way"]:List Str).Nodup by decide +kernel)) Km))))) (Wo (Iw (Dv (by decide)) (Iw (Dv (by decide)) (Iw (Dv (by decide)) Vj)))) (λC s₀ H₀ ex=>(Rq (Az (Bo hr.units) (Aa 2) Bt (nomark _)))) (λC s₀ H₀ ex=>(Aa 1)))) Ai))))) Ai))))
theorem ZO1(T:Txt K mg):FnO P w K mg base 2 "_law_stairs" Zh Vn:=by
 refine Dh T.T3.F K4 λcdv A outer s H E hr=>?_
 exact(Al (Ay 3 K4.nd (Lr (Di Ai))) (Al (Ay 4 K4.nd Ac) (Al (Ip PassesOwn.never rfl (I9 rfl T.Hq (Ae (Af Bg (Ao Aq (Aa 0) Ac) Ac) Ai)) (Cd 5 K4.nd) (Al (Ay 6 K4.nd (Af Bm (Aa 4) (Bs (Ng T) T.K3 hr (Ae (Ao Aq (Aa 0) (Af Bm Ac (Af Fq Ac (Aa 5)))) (Ae (Aa 1) Ai))))) (Al (Ay 7 K4.nd (Af Bm Ac (Bs (Ng T) T.K3 hr (Ae (Ao Aq (Aa 0) (Af Bm Ac (Af Fq Ac (Aa 5)))) (Ae (Aa 1) Ai))))) (Al (Ay 8 K4.nd Bt) (Al (Bj (Dg (Dy (Iz (Aa 2)) (Em (Az (Bo hr.units) (Af Bg (Af Do (Ao Aq (Aa 0) (Af Bm Ac (Af Fq Ac (Aa 5)))) Ac) Ac) Ac (nomark _))))) (Av (Ay 8 K4.nd Bt)) Bh) (Al (Ma (Om PySem.F.slot_list_append PySem.F.type_list_append Ox (Aa 3) (Ae (By (Ae (Aa 6) (Ae (Aa 7) (Ae (Aa 8) Ai)))) Ai))) (Av (Ay 4 K4.nd (Af Bm (Aa 6) (Aa 7)))))))))) (Av (Bf (Og U8 rfl T.Uz Xu (Ae (Aa 3) Ai)))))))
theorem ZIJ(T:Txt K mg):FnO P w K mg base 3 "_law_rule" Zm Vm:=by
 refine Dh T.Vz.F Qa λcdv A outer s H E hr=>?_
 exact(Al (Ay 4 Qa.nd (Lr (Di Ai))) (Al (Ay 5 Qa.nd Ac) (Al (Ip PassesOwn.never rfl (I9 rfl T.Hq (Ae Ac Ai)) (Cd 6 Qa.nd) (Av (Bj (Dg (Ja (Az (Bo hr.units) (Aa 6) Ac (nomark _)) (Jh (Dg (Dy (Az Gh (Af Bg (Ao Aq (Aa 0) (Aa 6)) Ac) Ac (nomark _)) (Em (Az Ho (Aa 5) (Aa 2) (nomark _)))))))) (Al (Ma (Om PySem.F.slot_list_append PySem.F.type_list_append Ox (Aa 4) (Ae (By (Ae (Aa 5) (Ae (Bs (ZO1 T) T.T3 hr (Ae (Ax (Cm (Aa 0) (Cg (Af Bm Ac (Af Fq Ac (Aa 6)))) (Cg (Af Bm Ac (Af Fq Ac (Aa 6)))))) (Ae (Aa 1) (Ae (Aa 3) Ai)))) Ai))) Ai))) (Av (Ay 5 Qa.nd (Af Bm (Af Bm (Aa 5) Ac) (Af Bg (Af Do (Ao Aq (Aa 0) (Aa 6)) Ac) Ac))))) Bh))) (Av (Bf (Og U8 rfl T.Uz Xu (Ae (Aa 4) Ai)))))))
theorem ZLp(T:Txt K mg):FnO P w K mg base 4 "_law_place" Yp Lp:=by
 refine Dh T.Yc.F Jm λcdv A outer s H E hr=>?_
 exact(Al (Ay 5 Jm.nd (Ax (Bs (ZAn T) T.Nh hr (Ae (Aa 4) (Ae (Aa 2) (Ae Ac Ai)))))) (Al (Ay 6 Jm.nd Bt) (Al (Bj (Az Gh (Af Bg (Ao Aq (Aa 5) Ac) (Af Gr (Aa 1) (Aa 2))) Ac (nomark _)) (Av (Ay 6 Jm.nd (Ao Aq (Aa 0) (Af Bm (Aa 2) (Af Bg (Ao Aq (Aa 5) Ac) (Af Gr (Aa 1) (Aa 2))))))) Bh) (Al (Ay 7 Jm.nd (By (Ae (Ao Aq (Aa 0) (Aa 2)) (Ae (Aa 6) (Ae (Af Bg (Ao Aq (Aa 5) Ac) Ac) Ai))))) (Al (Bj (Az (Bo hr.units) (Af Bg (Ao Aq (Aa 5) Ac) Ac) Ac (nomark _)) (Av (Bf (Af Bm (Af Bm (By (Ae Bt Ai)) (Aa 7)) (By (Ae (Bs (Ng T) T.K3 hr (Ae (Ao Aq (Aa 5) Ac) (Ae (Aa 4) Ai))) Ai))))) Bh) (Al (Bj (Az (Bo hr.units) (Af Bg (Ao Aq (Aa 5) Ac) Ac) Ac (nomark _)) (Av (Bf (Af Bm (Af Bm (By (Ae Bt Ai)) (Aa 7)) (By (Ae (Bs (Ng T) T.K3 hr (Ae (Ao Aq (Aa 5) Ac) (Ae (Aa 4) Ai))) (Ae (Bs (Ng T) T.K3 hr (Ae (Ao Aq (Aa 5) Ac) (Ae (Aa 4) Ai))) Ai)))))) Bh) (Al (Ay 8 Jm.nd (Sg (Gn Gh (Aa 1) Ac (nomark _)) (Mw (Gn Gh (Af Bg (Ao Aq (Aa 5) Ac) Ac) Ac (nomark _))))) (Al (Ay 9 Jm.nd (Bs (ZIJ T) T.Vz hr (Ae (Ax (Cm (Aa 5) (Cg Ac) (Cg Ac))) (Ae (Aa 4) (Ae (Aa 3) (Ae (Aa 8) Ai)))))) (Al (Ay 10 Jm.nd Ju) (Al (Bj (Iz (Aa 8)) (Al (Ay 11 Jm.nd (Af Bg (Af Bm (Af Bm (Aa 2) Ac) (Af Bg (Ao Aq (Aa 5) Ac) (Af Gr (Aa 1) Ac))) (Aa 1))) (Av (Ay 10 Jm.nd (By (Ae (Ao Aq (Aa 0) (Aa 11)) (Ae (Af Bm Ac (Af Bg (Ao Aq (Aa 5) Ac) Ac)) (Ae (Af Bm (Bs (ZLV T) T.Sy hr (Ae (Aa 9) Ai)) (Bs (ZJN T) T.Vh hr (Ae (Ao Aq (Aa 5) Ac) Ai))) Ai))))))) Bh) (Av (Bf (Af Bm (Af Bm (By (Ae Bt Ai)) (Aa 7)) (By (Ae (Bs (Ng T) T.K3 hr (Ae (Ao Aq (Aa 5) Ac) (Ae (Aa 4) Ai))) (Ae (Aa 9) (Ae (Aa 10) Ai)))))))))))))))))
theorem ZN7(T:Txt K mg):FnO P w K mg base 5 "_law_house" ZCk O6:=by
 refine Dh T.Y6.F Qy λcdv A outer s H E hr=>?_
 exact(Al (Ay 2 Qy.nd (Af Bm Ac (Af Bg (Bs (Q7 T) T.Li hr (Ae (Aa 0) (Ae (Aa 1) Ai))) Ac))) (Al (Ay 3 Qy.nd (Af Bm Ac (Af Bg (Bs (Q7 T) T.Li hr (Ae (Aa 0) (Ae (Af Bm (Aa 1) Ac) Ai))) Ac))) (Al (Ay 4 Qy.nd (Ax (Bs (ZKL T) T.Xw hr (Ae (Bs (Q7 T) T.Li hr (Ae (Aa 0) (Ae (Af Bm (Aa 1) Ac) Ai))) Ai)))) (Al (Rn (N5 5 rfl Qy.nd (G9 (dn:=(Bd Xo).names) (N0:=ZBV) (N:=["_law_k","_law_script","_law_at","_law_many","_law_year","_law_names_here"]) (nt:=1) (caps:=[0,1,2,3,4])) (I9 rfl T.Hq (Ae (Aa 2) Ai)) (λC s₀ H₀ ex=>(Cd 0 (show(["_law_k","_law_script","_law_at","_law_many","_law_year","_law_names_here"]:List Str).Nodup by decide +kernel))) (Dv (by decide)) (λC s₀ H₀ ex=>Il) (λC s₀ H₀ ex=>(Bs (ZLp T) T.Yc hr (Ae (Aa 5) (Ae (Aa 3) (Ae (Aa 0) (Ae (Aa 4) (Ae (Bs (Q7 T) T.Li hr (Ae (Aa 1) (Ae (Af Bm (Af Bm (Aa 2) Ac) (Aa 0)) Ai))) Ai))))))))) (Av (Bf (By (Ae (Aa 3) (Ae (Og U8 rfl T.Uz Xu (Ae (Aa 5) Ai)) Ai)))))))))
theorem ZMj(T:Txt K mg):FnO P w K mg base 1 "_law_rank" ZAS I8:=by
 refine Dh T.Tn.F ZG0 λcdv A outer s H E hr=>?_
 exact(Al (Ay 2 ZG0.nd (Ao Aq (Ax (Di (Ae Ac (Ae Ac (Ae Ac (Ae Ac (Ae Ac (Ae Ac (Ae Ac Ai))))))))) (Af Bg (Aa 1) Ac))) (Al (Bj (Dg (Dy (Az (Bo hr.units) (Aa 2) Ac (nomark _)) (Em (Az (Nr hr.units) (Ao Aq (Aa 0) Ac) Bt (nomark _))))) (Av (Bf Ac)) Bh) (Al (Bj (Dg (Dy (Az (Bo hr.units) (Aa 2) Ac (nomark _)) (Em (Dg (Ja (Az (Nr hr.units) (Ao Aq (Aa 0) Ac) Bt (nomark _)) (Jh (Az V4 (Ao Aq (Aa 0) Ac) Ju (nomark _)))))))) (Av (Bf Ac)) Bh) (Av (Bf (Aa 2))))))
theorem ZIe(T:Txt K mg):FnO P w K mg base 1 "_law_whole" ZDS Ye:=by
 refine Dh T.T4.F ZLF λcdv A outer s H E hr=>?_
 exact(Av (Bf (Sg (Cw ZG1 rfl T.Ft ZBJ (Ae (Aa 0) (Ae (ZED rfl T.Zq ZBS) Ai))) (Mw (ZIc (Cw ZG1 rfl T.Ft ZBJ (Ae (Aa 0) (Ae (ZED rfl T.ZLW ZHj) Ai))))))))
theorem ZIV(T:Txt K mg):FnO P w K mg base 1 "is_name" ZBm Y7:=by
 refine Dh T.Xf.F ZMB λcdv A outer s H E hr=>?_
 exact(Al (Bj (Dg (Ja (Az (Bo hr.units) (Aa 0) (Cu (v:=(.str "sea")) rfl T.W3 ⟨_,rfl⟩ (λ_ _=>rfl)) (nomark _)) (Jh (Gy (Sv Ig Ig Ac (Cw Ex rfl T.Es Eo (Ae (Aa 0) Ai)) Ac))))) (Av (Bf Ha)) Bh) (Av (Bf (Cw (ZLD rfl) rfl T.ZIb ZN1 (Ae (Ax (Jx rfl (G9 (dn:=(Bd Wm).names) (N0:=ZAR) (N:=["sign"]) (nt:=1) (caps:=[])) (Gb (Aa 0)) (λC s₀ H₀ ex=>(Cd 0 (show(["sign"]:List Str).Nodup by decide +kernel))) (Dv (by decide)) (λC s₀ H₀ ex=>Il) (λC s₀ H₀ ex=>(Gn W8 (Aa 0) (Cu (v:=(.str "abcdefghijklmnopqrstuvwxyz")) rfl T.ZBI ⟨_,rfl⟩ (λ_ _=>rfl)) (by with_unfolding_all rfl))))) Ai)))))
theorem ZNq(T:Txt K mg):FnO P w K mg base 1 "is_pump_good" ZBy O9:=by
 refine Dh T.Xx.F ZLN λcdv A outer s H E hr=>?_
 exact(Al (Bj (Az V4 (Aa 0) Ju (nomark _)) (Av (Bf Ha)) Bh) (Av (Bf (Sg (Gn W8 (Ao Aq (Aa 0) (Cu (v:=(.int 0)) rfl T.ZCQ ⟨_,rfl⟩ (λ_ _=>rfl))) (Aa 1) (by with_unfolding_all rfl)) (Mw (ZD3 Ig Ig Ac (Ao Aq (Aa 0) (Cu (v:=(.int 1)) rfl T.ZBE ⟨_,rfl⟩ (λ_ _=>rfl))) Ac))))))
theorem ZL9(T:Txt K mg):FnO P w K mg base 1 "is_river_good" ZBF Xe:=by
 refine Dh T.V1.F ZMH λcdv A outer s H E hr=>?_
 exact(Av (Bf (Sg (ZE9 (Gn (Bo hr.units) (Ao Aq (Aa 0) (Cu (v:=(.int 2)) rfl T.Ud ⟨_,rfl⟩ (λ_ _=>rfl))) (Cu (v:=(.str "sea")) rfl T.W3 ⟨_,rfl⟩ (λ_ _=>rfl)) (nomark _)) (Mw (Gn W8 (Ao Aq (Aa 0) (Cu (v:=(.int 2)) rfl T.Ud ⟨_,rfl⟩ (λ_ _=>rfl))) (Aa 1) (by with_unfolding_all rfl)))) (Mw (ZD3 Ig Ig Ac (Ao Aq (Aa 0) (Cu (v:=(.int 3)) rfl T.ZBr ⟨_,rfl⟩ (λ_ _=>rfl))) Ac)))))
theorem ZJe(T:Txt K mg):FnO P w K mg base 1 "are_seasons_good" ZAz Xd:=by
 refine Dh T.Xr.F Qo λcdv A outer s H E hr=>?_
 exact(Al (Bj (Dg (Ja (Az (Bo hr.units) (Cw Ex rfl T.Es Eo (Ae (Aa 0) Ai)) Ac (nomark _)) (Jh (Az (Nr hr.units) (Ao Aq (Ao Aq (Aa 0) Ac) Ac) Ac (nomark _))))) (Av (Bf Ha)) Bh) (Al (Ay 2 Qo.nd (Kl Jz Ac)) (Al (Ip PassesOwn.never rfl (Gb (Aa 0)) (K9 rfl (Ea (Cd 3 Qo.nd) (Ea (Cd 4 Qo.nd) Km))) (Al (Bj (Gy (Sv Ho Ho (Aa 2) (Aa 3) (Aa 1))) (Av (Bf Ha)) Bh) (Av (Ay 2 Qo.nd (Aa 3))))) (Av (Bf Ha)))))
theorem ZJ9(T:Txt K mg):FnO P w K mg base 1 "are_steps_good" ZDL U6:=by
 refine Dh T.Vi.F Nj λcdv A outer s H E hr=>?_
 exact(Al (Ay 1 Nj.nd Ac) (Al (Ip PassesOwn.never rfl (Gb (Aa 0)) (K9 rfl (Ea (Cd 2 Nj.nd) (Ea (Cd 3 Nj.nd) (Ea (Cd 4 Nj.nd) Km)))) (Al (Bj (Dg (Ja (Az Ho (Aa 2) (Aa 1) (nomark _)) (Jh (Az Ho (Aa 3) Ac (nomark _))))) (Av (Bf Ha)) Bh) (Av (Ay 1 Nj.nd (Af Bm (Aa 2) (Aa 3)))))) (Av (Bf Ha))))
theorem ZJu(T:Txt K mg):FnO P w K mg base 1 "can_pump" ZAU Vc:=by
 refine Dh T.Ti.F ZEL λcdv A outer s H E hr=>?_
 exact(Al (Rn (N5 2 rfl ZEL.nd (G9 (dn:=(Bd Wn).names) (N0:=ZDH) (N:=["height","many","way"]) (nt:=3) (caps:=[])) (Gb (Aa 0)) (λC s₀ H₀ ex=>(K9 rfl (Ea (Cd 0 (show(["height","many","way"]:List Str).Nodup by decide +kernel)) (Ea (Cd 1 (show(["height","many","way"]:List Str).Nodup by decide +kernel)) (Ea (Cd 2 (show(["height","many","way"]:List Str).Nodup by decide +kernel)) Km))))) (Wo (Iw (Dv (by decide)) (Iw (Dv (by decide)) (Iw (Dv (by decide)) Vj)))) (λC s₀ H₀ ex=>(Rq (Az (Bo hr.units) (Aa 2) Bt (nomark _)))) (λC s₀ H₀ ex=>(Aa 1)))) (Al (Bj (Az V4 (Aa 1) Ju (nomark _)) (Av (Bf (Gn (Bo hr.units) (Cw Ex rfl T.Es Eo (Ae (Aa 2) Ai)) Ac (nomark _)))) Bh) (Av (Bf (Gn Ig (Cw (ZDG rfl) rfl T.Z8 ZCj (Ae (Aa 2) Ai)) (Ao Aq (Aa 1) (Cu (v:=(.int 2)) rfl T.Xb ⟨_,rfl⟩ (λ_ _=>rfl))) (nomark _))))))
theorem ZMJ(T:Txt K mg):FnO P w K mg base 2 "is_rule_good" ZAC Nt:=by
 refine Dh T.Ue.F ZDm λcdv A outer s H E hr=>?_
 exact(Al (Bj (Gy (Iz (Bs (ZJe T) T.Xr hr (Ae (Aa 0) (Ae (Aa 2) Ai))))) (Av (Bf Ha)) Bh) (Al (Ip PassesOwn.never rfl (Gb (Aa 0)) (K9 rfl (Ea (Cd 3 ZDm.nd) (Ea (Cd 4 ZDm.nd) Km))) (Av (Bj (Dg (Ja (Gy (Iz (Bs (ZJ9 T) T.Vi hr (Ae (Aa 4) Ai)))) (Jh (Gy (Iz (Bs (ZJu T) T.Ti hr (Ae (Aa 4) (Ae (Aa 1) Ai)))))))) (Av (Bf Ha)) Bh))) (Av (Bf Ha))))
theorem ZJx(T:Txt K mg):FnO P w K mg base 1 "numbers_in" Z6 W5:=by
 refine Dh T.Ua.F ZJG λcdv A outer s H E hr=>?_
 exact(Al (Bj (Az (Bo hr.units) (Ao Aq (Aa 0) (Cu (v:=(.int 0)) rfl T.Qf ⟨_,rfl⟩ (λ_ _=>rfl))) Bt (nomark _)) (Av (Bf (Di (Ae (Ao Aq (Aa 0) (Cu (v:=(.int 4)) rfl T.ZDJ ⟨_,rfl⟩ (λ_ _=>rfl))) (Ae (Ao Aq (Aa 0) (Cu (v:=(.int 5)) rfl T.Yo ⟨_,rfl⟩ (λ_ _=>rfl))) Ai))))) Bh) (Al (Bj (Az (Bo hr.units) (Ao Aq (Aa 0) (Cu (v:=(.int 0)) rfl T.Qf ⟨_,rfl⟩ (λ_ _=>rfl))) Bt (nomark _)) (Av (Bf (Di (Ae (Ao Aq (Aa 0) (Cu (v:=(.int 4)) rfl T.ZBa ⟨_,rfl⟩ (λ_ _=>rfl))) Ai)))) Bh) (Al (Bj (Az V4 (Ao Aq (Aa 0) (Cu (v:=(.int 6)) rfl T.Ni ⟨_,rfl⟩ (λ_ _=>rfl))) Ju (nomark _)) (Av (Bf (Di (Ae (Ao Aq (Aa 0) (Cu (v:=(.int 4)) rfl T.Tr ⟨_,rfl⟩ (λ_ _=>rfl))) Ai)))) Bh) (Av (Bf (Di (Ae (Ao Aq (Aa 0) (Cu (v:=(.int 4)) rfl T.Tr ⟨_,rfl⟩ (λ_ _=>rfl))) (Ae (Ao Aq (Ao Aq (Aa 0) (Cu (v:=(.int 6)) rfl T.Ni ⟨_,rfl⟩ (λ_ _=>rfl))) (Cu (v:=(.int 2)) rfl T.Xb ⟨_,rfl⟩ (λ_ _=>rfl))) Ai))))))))
theorem ZNy(T:Txt K mg):FnX P w K mg base 3 "check_place" ZDf Ie:=by
 refine ZFg T.Pj.F S8 λcdv A outer s H E hr=>?_
 exact(Al (Oi (Ay 2 S8.nd (Ao Aq (Aa 0) (Cu (v:=(.int 1)) rfl T.Uc ⟨_,rfl⟩ (λ_ _=>rfl))))) (Al (Oi (Ay 3 S8.nd (Ao Aq (Aa 2) (Aa 1)))) (Al (Oi (Rn (N5 4 rfl S8.nd (G9 (dn:=(Bd Rv).names) (N0:=Wl) (N:=["other"]) (nt:=1) (caps:=[])) (Gb (Ax (Cm (Aa 2) Df (Cg (Aa 1))))) (λC s₀ H₀ ex=>(Cd 0 (show(["other"]:List Str).Nodup by decide +kernel))) (Dv (by decide)) (λC s₀ H₀ ex=>Il) (λC s₀ H₀ ex=>(Ao Aq (Aa 0) (Cu (v:=(.int 1)) rfl T.P0 ⟨_,rfl⟩ (λ_ _=>rfl))))))) (Al (Oi (Rn (N5 5 rfl S8.nd (G9 (dn:=(Bd Rv).names) (N0:=Wl) (N:=["other"]) (nt:=1) (caps:=[])) (Gb (Ax (Cm (Aa 2) (Cg (Af Bm (Aa 1) Ac)) Df))) (λC s₀ H₀ ex=>(Cd 0 (show(["other"]:List Str).Nodup by decide +kernel))) (Dv (by decide)) (λC s₀ H₀ ex=>Il) (λC s₀ H₀ ex=>(Ao Aq (Aa 0) (Cu (v:=(.int 1)) rfl T.P0 ⟨_,rfl⟩ (λ_ _=>rfl))))))) (Al (Bj (Dg (Ja (Gy (Iz (Qv (ZIV T) T.Xf hr (Ae (Ao Aq (Aa 3) (Cu (v:=(.int 1)) rfl T.P0 ⟨_,rfl⟩ (λ_ _=>rfl))) Ai)))) (Jh (Az W8 (Ao Aq (Aa 3) (Cu (v:=(.int 1)) rfl T.P0 ⟨_,rfl⟩ (λ_ _=>rfl))) (Aa 4) (by with_unfolding_all rfl))))) (Av (Qj T.Eh (ZJc T) T.Ur.b hr (Ae (Aa 1) Ai))) Bh) (Al (Bj (Gy (Iz (Qv (ZL9 T) T.V1 hr (Ae (Aa 3) (Ae (Aa 5) Ai))))) (Av (Qj T.Ed (ZNo T) T.Te.b hr (Ae (Aa 1) Ai))) Bh) (Al (Bj (Az Ho (Cw (ZJL rfl) rfl T.ZMe ZKH (Ae (Ax (Qv (ZJx T) T.Ua hr (Ae (Aa 3) Ai))) Ai)) Ac (nomark _)) (Av (Qj T.Ei (ZOZ T) T.Wf.b hr (Ae (Aa 1) Ai))) Bh) (Av (Bj (Az (Bo hr.units) (Ao Aq (Aa 3) (Cu (v:=(.int 0)) rfl T.Qf ⟨_,rfl⟩ (λ_ _=>rfl))) Bt (nomark _)) (Al (Bj (Gy (Iz (Qv (ZNq T) T.Xx hr (Ae (Ao Aq (Aa 3) (Cu (v:=(.int 6)) rfl T.Ni ⟨_,rfl⟩ (λ_ _=>rfl))) (Ae (Af Bm (Aa 4) (Aa 5)) Ai))))) (Av (Qj T.Ef (ZIx T) T.We.b hr (Ae (Aa 1) Ai))) Bh) (Av (Bj (Gy (Iz (Qv (ZMJ T) T.Ue hr (Ae (Ao Aq (Aa 3) (Cu (v:=(.int 5)) rfl T.ZAN ⟨_,rfl⟩ (λ_ _=>rfl))) (Ae (Ao Aq (Aa 3) (Cu (v:=(.int 6)) rfl T.Ni ⟨_,rfl⟩ (λ_ _=>rfl))) (Ae (Ao Aq (Aa 0) (Cu (v:=(.int 0)) rfl T.Wr ⟨_,rfl⟩ (λ_ _=>rfl))) Ai)))))) (Av (Qj T.Eg (ZLK T) T.Up.b hr (Ae (Aa 1) Ai))) Bh))) Bh)))))))))
theorem ZAF(T:Txt K mg):FnX P w K mg base 4 "checked" Z5 Ii:=by
 refine ZFg T.Ou.F ZDr λcdv A outer s H E hr=>?_
 exact(Al (Oi (Ay 1 ZDr.nd (Ao Aq (Aa 0) (Cu (v:=(.int 1)) rfl T.Uc ⟨_,rfl⟩ (λ_ _=>rfl))))) (Al (Bj (Dg (Ja (Gy (Sv Ig Ig Ac (Ao Aq (Aa 0) (Cu (v:=(.int 0)) rfl T.Wr ⟨_,rfl⟩ (λ_ _=>rfl))) Ac)) (Jh (Gy (Sv Ig Ig Ac (Cw Ex rfl T.Es Eo (Ae (Aa 1) Ai)) Ac))))) (Av (ZL1 T.Eu (Ae Bt Ai))) Bh) (Al (Ip ownX rfl (I9 rfl T.Hq (Ae (Cw Ex rfl T.Es Eo (Ae (Aa 1) Ai)) Ai)) (Cd 2 ZDr.nd) (Av (Ma (ZFF (ZNy T) (hr.mono (by decide)) rfl T.Pj.m T.Pj.k T.Pj.b ZOq (Ae (Aa 0) (Ae (Aa 2) Ai)))))) (Av (Oi (Bf (Aa 0)))))))
theorem ZLf(T:Txt K mg):FnO P w K mg base 5 "_law_refused" ZCc Mx:=by
 refine Dh T.Xk.F Kp λcdv A outer s H E hr=>?_
 exact(Al (Ay 3 Kp.nd Ju) (Al (ZKT (ZNa (ZNI (ZAF T) T.Ou hr (Ae (Aa 0) Ai))) (ZJR T.ZB6 (Oa T.Eu.N T.ZCA (Oa T.Eh.N T.ZCm (Oa T.Ei.N T.ZB0 (Oa T.Ef.N T.ZCp (Oa T.Ed.N T.ZCh (Oa T.Eg.N T.ZAb ZHb)))))) ZHb hr Kp.nd (λea hr=>(Av (Ay 3 Kp.nd (Aa 4)))) ZIA)) (Al (Bj (Gy (Iz (ZHn T.Ft T.ZJo (by decide +kernel) (Bc T.Eu.xn T.ZCF (Bc T.Eh.xn T.Zd (Bc T.Ei.xn T.ZCf (Bc T.Ef.xn T.Zw (Bc T.Ed.xn T.ZC6 (Bc T.Eg.xn T.ZCI Gi)))))) (Aa 3)))) (Av (Bf Ha)) Bh) (Al (Ay 5 Kp.nd (Ax (Di (Ae (Hg T.Ft T.ZCJ (Bc T.Eu.xn T.Zy (Bc T.Eh.xn T.Yj (Bc T.Ei.xn T.ZCt (Bc T.Ef.xn T.ZBd (Bc T.Ed.xn T.Yl (Bc T.Eg.xn T.ZCP Gi)))))) (Aa 3)) (Ae (Hg T.Ft T.Zb (Bc T.Eu.xn T.Yv (Bc T.Eh.xn T.ZCB (Bc T.Ei.xn T.Zv (Bc T.Ef.xn T.ZCW (Bc T.Ed.xn T.ZB1 (Bc T.Eg.xn T.ZDR Gi)))))) (Aa 3)) (Ae (Hg T.Ft T.ZBb (Bc T.Eu.xn T.ZCv (Bc T.Eh.xn T.ZBx (Bc T.Ei.xn T.ZAO (Bc T.Ef.xn T.ZCl (Bc T.Ed.xn T.Z4 (Bc T.Eg.xn T.ZCe Gi)))))) (Aa 3)) Ai)))))) (Al (Ay 5 Kp.nd (Ax (Af Bm (Aa 5) (Ax (Di (Ae (Hg T.Ft T.ZCy (Bc T.Eu.xn T.ZDU (Bc T.Eh.xn T.ZAo (Bc T.Ei.xn T.ZBp (Bc T.Ef.xn T.ZDW (Bc T.Ed.xn T.ZCX (Bc T.Eg.xn T.ZBD Gi)))))) (Aa 3)) (Ae (Hg T.Ft T.ZAd (Bc T.Eu.xn T.ZA5 (Bc T.Eh.xn T.ZCs (Bc T.Ei.xn T.ZCi (Bc T.Ef.xn T.ZDs (Bc T.Ed.xn T.Zr (Bc T.Eg.xn T.Yk Gi)))))) (Aa 3)) (Ae (Hg T.Ft T.ZCM (Bc T.Eu.xn T.ZCS (Bc T.Eh.xn T.ZAj (Bc T.Ei.xn T.ZDY (Bc T.Ef.xn T.ZCH (Bc T.Ed.xn T.Zc (Bc T.Eg.xn T.ZBQ Gi)))))) (Aa 3)) Ai)))))))) (Al (Ay 5 Kp.nd (Ax (Af Bm (Aa 5) (Ax (Di (Ae (Hg T.Ft T.ZCC (Bc T.Eu.xn T.ZAr (Bc T.Eh.xn T.ZCT (Bc T.Ei.xn T.Yh (Bc T.Ef.xn T.ZA3 (Bc T.Ed.xn T.ZA1 (Bc T.Eg.xn T.Yz Gi)))))) (Aa 3)) (Ae (Hg T.Ft T.ZAE (Bc T.Eu.xn T.Z9 (Bc T.Eh.xn T.ZCN (Bc T.Ei.xn T.Z7 (Bc T.Ef.xn T.ZBu (Bc T.Ed.xn T.ZAx (Bc T.Eg.xn T.Zg Gi)))))) (Aa 3)) (Ae (Hg T.Ft T.ZAK (Bc T.Eu.xn T.ZCZ (Bc T.Eh.xn T.ZAg (Bc T.Ei.xn T.ZAD (Bc T.Ef.xn T.Zz (Bc T.Ed.xn T.ZDK (Bc T.Eg.xn T.Yt Gi)))))) (Aa 3)) Ai)))))))) (Al (Ay 5 Kp.nd (Ax (Af Bm (Aa 5) (Ax (Di (Ae (Hg T.Ft T.ZAi (Bc T.Eu.xn T.ZDQ (Bc T.Eh.xn T.ZBP (Bc T.Ei.xn T.Zt (Bc T.Ef.xn T.ZCq (Bc T.Ed.xn T.ZBv (Bc T.Eg.xn T.ZDc Gi)))))) (Aa 3)) (Ae (Hg T.Ft T.ZAV (Bc T.Eu.xn T.ZCn (Bc T.Eh.xn T.ZB7 (Bc T.Ei.xn T.ZDN (Bc T.Ef.xn T.ZDg (Bc T.Ed.xn T.ZCK (Bc T.Eg.xn T.ZA9 Gi)))))) (Aa 3)) (Ae (Hg T.Ft T.ZBz (Bc T.Eu.xn T.Yq (Bc T.Eh.xn T.ZB8 (Bc T.Ei.xn T.Zf (Bc T.Ef.xn T.ZBs (Bc T.Ed.xn T.ZDB (Bc T.Eg.xn T.ZA6 Gi)))))) (Aa 3)) Ai)))))))) (Al (Ay 5 Kp.nd (Ax (Af Bm (Aa 5) (Ax (Di (Ae (Hg T.Ft T.Zk (Bc T.Eu.xn T.ZAf (Bc T.Eh.xn T.ZDE (Bc T.Ei.xn T.Zu (Bc T.Ef.xn T.Ze (Bc T.Ed.xn T.ZDV (Bc T.Eg.xn T.ZDM Gi)))))) (Aa 3)) Ai)))))) (Al (Bj (Az (Nr hr.units) (Aa 5) (Ax (Jx rfl (G9 (dn:=(Bd Wb).names) (N0:=ZDZ) (N:=["_law_k","_law_rank_here"]) (nt:=1) (caps:=[1])) (I9 rfl T.Hq (Ae Ac Ai)) (λC s₀ H₀ ex=>(Cd 0 (show(["_law_k","_law_rank_here"]:List Str).Nodup by decide +kernel))) (Dv (by decide)) (λC s₀ H₀ ex=>Il) (λC s₀ H₀ ex=>(Gn (Bo hr.units) (Aa 0) (Aa 1) (nomark _))))) (nomark _)) (Av (Bf Ha)) Bh) (Av (Bf (ZE9 (Gn (Bo hr.units) (Aa 1) Ac (nomark _)) (Mw (Sg (Bs (ZIe T) T.T4 hr (Ae (ZF8 (J8 T.Eh (J8 T.Ei (J8 T.Ef (J8 T.Ed (J8 T.Eg ZFV))))) (Aa 3)) Ai)) (Mw (Gn (Bo hr.units) (ZF8 (J8 T.Eh (J8 T.Ei (J8 T.Ef (J8 T.Ed (J8 T.Eg ZFV))))) (Aa 3)) (Aa 2) (nomark _)))))))))))))))))
theorem ZLi(T:Txt K mg):FnO P w K mg base 1 "_law_no_name" ZBN Ra:=by
 refine Dh T.Vw.F T5 λcdv A outer s H E hr=>?_
 exact(Al (Ay 3 T5.nd (Ao Aq (Ao Aq (Aa 0) (Aa 1)) Ac)) (Al (Bj (Dg (Dy (Az (Bo hr.units) (Af Bg (Aa 2) Ac) Ac (nomark _)) (Em (Az Gh (Aa 1) Ac (nomark _))))) (Av (Bf (Ao Aq (Ao Aq (Aa 0) (Af Bg (Af Do (Aa 2) Ac) (Aa 1))) Ac))) Bh) (Al (Ay 4 T5.nd (Ax (Di (Ae Bt (Ae Bt (Ae (Af Bm (Aa 3) Bt) (Ae (Ax (Af Bm (Ax (Cm (Aa 3) Df (Cg Ac))) Bt)) (Ae (Ax (Af Bm (Ax (Cm (Aa 3) Df (Cg Ac))) Bt)) (Ae (Ax (Af Bm Bt (Ax (Cm (Aa 3) Df (Cg Ac))))) Ai))))))))) (Al (Ay 4 T5.nd (Ax (Af Bm (Aa 4) (Ax (Di (Ae (Ax (Af Bm (Ax (Af Bm (Ax (Cm (Aa 3) Df (Cg Ac))) Bt)) (Ax (Cm (Aa 3) (Cg Ac) (Cg Ac))))) (Ae Bt Ai))))))) (Av (Bf (Ao Aq (Aa 4) (Af Bg (Aa 2) Ac))))))))
theorem Fx(T:Txt K mg):FnO P w K mg base 1 "_law_put" ZC5 Cj:=by
 refine Dh T.Ew.F ZNB λcdv A outer s H E hr=>?_
 exact(Av (Bf (Af Dc (Ax (Af Dc (Ax (Cm (Aa 0) Df (Cg (Aa 1)))) (By (Ae (Aa 2) Ai)))) (Ax (Cm (Aa 0) (Cg (Af Dc (Aa 1) Ac)) Df)))))
theorem ZMc(T:Txt K mg):FnO P w K mg base 1 "_law_rule_spoilt" Ym Nz:=by
 refine Dh T.Y8.F Ey λcdv A outer s H E hr=>?_
 exact(Al (Bj (Az (Bo hr.units) (Cw Ex rfl T.Es Eo (Ae (Aa 0) Ai)) Ac (nomark _)) (Av (Bf (Aa 0))) Bh) (Al (Ay 5 Ey.nd (Af Bg (Aa 4) (Cw Ex rfl T.Es Eo (Ae (Aa 0) Ai)))) (Al (Th (Ao Aq (Aa 0) (Aa 5)) (K9 rfl (Ea (Cd 6 Ey.nd) (Ea (Cd 7 Ey.nd) Km)))) (Al (Ay 8 Ey.nd Ac) (Al (Bj (Az Gh (Cw Ex rfl T.Es Eo (Ae (Aa 7) Ai)) Ac (nomark _)) (Av (Ay 8 Ey.nd (Af Dc (Ao Aq (Ao Aq (Aa 7) (Kl Jz Ac)) Ac) (Ao Aq (Ao Aq (Aa 7) (Kl Jz Ac)) Ac)))) Bh) (Al (Bj (Az (Bo hr.units) (Aa 3) Ac (nomark _)) (Av (Bf (By Ai))) Bh) (Al (Bj (Az (Bo hr.units) (Aa 3) Ac (nomark _)) (Av (Bf (Af Dc (By (Ae (By (Ae (Af Gr Ac (Af Fq Ac (Af Bg (Af Do (Aa 4) Ac) Ac))) (Ae (Ao Aq (Ao Aq (Aa 0) Ac) Ac) Ai))) Ai)) (Ax (Cm (Aa 0) (Cg Ac) Df))))) Bh) (Al (Ay 9 Ey.nd (Ao Aq (Ao Aq (Aa 0) (Kl Jz Ac)) Ac)) (Al (Bj (Dg (Dy (Az (Bo hr.units) (Aa 3) Ac (nomark _)) (Dy (Az Gh (Aa 9) Ac (nomark _)) (Em (Az (Bo hr.units) (Af Bg (Af Do (Aa 4) Ac) Ac) Ac (nomark _)))))) (Av (Bf (Af Dc (Aa 0) (By (Ae (By (Ae (Af Dc Ac (Af Bg (Af Do (Aa 4) Ac) (Af Gr (Aa 9) Ac))) (Ae (Aa 7) Ai))) Ai))))) Bh) (Al (Bj (Az (Bo hr.units) (Aa 3) Ac (nomark _)) (Av (Bf (Af Dc (Ax (Af Dc (Ax (Cm (Aa 0) Df (Cg (Af Dc (Aa 5) Ac)))) (By (Ae (By (Ae (Aa 6) (Ae (Aa 7) Ai))) Ai)))) (Ax (Cm (Aa 0) (Cg (Af Dc (Aa 5) Ac)) Df))))) Bh) (Al (Bj (Az (Bo hr.units) (Aa 3) Ac (nomark _)) (Av (Bf (Af Dc (Aa 0) (By (Ae (By (Ae (Aa 2) (Ae (By Ai) Ai))) Ai))))) Bh) (Al (Ay 10 Ey.nd (Af Bg (Af Do (Aa 4) Ac) (Cw (Vr rfl) rfl T.R1 R4 (Ae Ac (Ae (Cw Ex rfl T.Es Eo (Ae (Aa 7) Ai)) Ai))))) (Al (Ay 11 Ey.nd (Af Dc (Aa 7) (By (Ae (By (Ae (Af Gr (Aa 8) Ac) (Ae Ac (Ae Bt Ai)))) Ai)))) (Al (Bj (Az (Bo hr.units) (Aa 3) Ac (nomark _)) (Av (Ay 11 Ey.nd (Ax (Af Dc (Ax (Af Dc (Ax (Cm (Aa 7) Df (Cg (Aa 10)))) (By (Ae (By (Ae (Aa 8) (Ae (Af Gr Ac (Af Bg (Af Do (Aa 4) Ac) Ac)) (Ae Bt Ai)))) Ai)))) (Ax (Cm (Aa 7) (Cg (Aa 10)) Df)))))) Bh) (Al (Bj (Dg (Dy (Az (Bo hr.units) (Aa 3) Ac (nomark _)) (Em (Az Gh (Cw Ex rfl T.Es Eo (Ae (Aa 7) Ai)) (Aa 10) (nomark _))))) (Al (Ay 12 Ey.nd (By (Ae (Ao Aq (Ao Aq (Aa 7) (Aa 10)) Ac) (Ae (Af Gr Ac (Af Bg (Af Do (Aa 4) Ac) Ac)) (Ae (Ao Aq (Ao Aq (Aa 7) (Aa 10)) Ac) Ai))))) (Av (Ay 11 Ey.nd (Ax (Af Dc (Ax (Af Dc (Ax (Cm (Aa 7) Df (Cg (Aa 10)))) (By (Ae (Aa 12) Ai)))) (Ax (Cm (Aa 7) (Cg (Af Dc (Aa 10) Ac)) Df))))))) Bh) (Al (Bj (Dg (Dy (Az (Bo hr.units) (Aa 3) Ac (nomark _)) (Dy (Az Ho (Af Dc (Aa 10) Ac) (Cw Ex rfl T.Es Eo (Ae (Aa 7) Ai)) (nomark _)) (Em (Az (Bo hr.units) (Af Bg (Af Do (Aa 4) Ac) Ac) Ac (nomark _)))))) (Av (Ay 11 Ey.nd (Ax (Af Dc (Ax (Af Dc (Ax (Cm (Aa 7) Df (Cg (Aa 10)))) (By (Ae (Ao Aq (Aa 7) (Af Dc (Aa 10) Ac)) (Ae (Ao Aq (Aa 7) (Aa 10)) Ai))))) (Ax (Cm (Aa 7) (Cg (Af Dc (Aa 10) Ac)) Df)))))) Bh) (Al (Bj (Az (Bo hr.units) (Aa 3) Ac (nomark _)) (Av (Ay 11 Ey.nd (Af Dc (By (Ae (By (Ae (Kl Jz Ac) (Ae Ac (Ae Bt Ai)))) Ai)) (Aa 7)))) Bh) (Al (Bj (Az (Bo hr.units) (Aa 3) Ac (nomark _)) (Al (Ay 13 Ey.nd Ac) (Al (Bj (Az ZCV (Aa 1) Ju (nomark _)) (Al (Ay 14 Ey.nd (Cw (ZDG rfl) rfl T.Z8 ZCj (Ae (Ax (Jx rfl (G9 (dn:=(Bd Vf).names) (N0:=ZC7) (N:=["_law_height","_law_many","_law_road"]) (nt:=3) (caps:=[])) (Gb (Aa 7)) (λC s₀ H₀ ex=>(K9 rfl (Ea (Cd 0 (show(["_law_height","_law_many","_law_road"]:List Str).Nodup by decide +kernel)) (Ea (Cd 1 (show(["_law_height","_law_many","_law_road"]:List Str).Nodup by decide +kernel)) (Ea (Cd 2 (show(["_law_height","_law_many","_law_road"]:List Str).Nodup by decide +kernel)) Km))))) (Wo (Iw (Dv (by decide)) (Iw (Dv (by decide)) (Iw (Dv (by decide)) Vj)))) (λC s₀ H₀ ex=>(Rq (Az (Bo hr.units) (Aa 2) Bt (nomark _)))) (λC s₀ H₀ ex=>(Aa 1)))) Ai))) (Av (Ay 13 Ey.nd (Af Gr (Cw (Vr rfl) rfl T.R1 R4 (Ae Ac (Ae (Ao Aq (Aa 1) Ac) Ai))) (Aa 14))))) Bh) (Av (Ay 11 Ey.nd (Af Dc (Aa 7) (By (Ae (By (Ae (Aa 8) (Ae (Cw (Vr rfl) rfl T.R1 R4 (Ae Ac (Ae (Af Dc (Aa 13) Ac) Ai))) (Ae Bt Ai)))) Ai))))))) Bh) (Av (Bf (Af Dc (Ax (Af Dc (Ax (Cm (Aa 0) Df (Cg (Aa 5)))) (By (Ae (By (Ae (Aa 6) (Ae (Aa 11) Ai))) Ai)))) (Ax (Cm (Aa 0) (Cg (Af Dc (Aa 5) Ac)) Df)))))))))))))))))))))))
theorem ZNJ(T:Txt K mg):FnO P w K mg base 2 "_law_place_spoilt" ZAv Oo:=by
 refine Dh T.Wj.F ZDp λcdv A outer s H E hr=>?_
 exact(Al (Ay 5 ZDp.nd (Ao Aq (Ax (Di (Ae (Kl Jz Ac) (Ae (Af Gr Ac (Af Ji Ac Ac)) (Ae (Kl Jz Ac) Ai))))) (Af Bg (Af Do (Aa 2) Ac) Ac))) (Al (Bj (Dg (Dy (Az (Bo hr.units) (Aa 1) Ac (nomark _)) (Em (Az Ho (Af Bg (Aa 2) Ac) Ac (nomark _))))) (Av (Bf (Bs (Fx T) T.Ew hr (Ae (Aa 0) (Ae Ac (Ae (Ao Aq (Aa 4) (Af Bg (Aa 2) Ac)) Ai)))))) Bh) (Al (Bj (Az (Bo hr.units) (Aa 1) Ac (nomark _)) (Av (Bf (Bs (Fx T) T.Ew hr (Ae (Aa 0) (Ae Ac (Ae (Ao Aq (Ax (Di (Ae (Kl Jz Ac) (Ae Ac (Ae (Af Ji Ac Ac) Ai))))) (Af Gr (Af Bg (Aa 2) Ac) Ac)) Ai)))))) Bh) (Al (Bj (Dg (Dy (Az (Bo hr.units) (Aa 1) Ac (nomark _)) (Em (Az Ho (Af Bg (Aa 2) Ac) Ac (nomark _))))) (Av (Bf (Bs (Fx T) T.Ew hr (Ae (Aa 0) (Ae Ac (Ae (Ax (Bs (Fx T) T.Ew hr (Ae (Ao Aq (Aa 0) Ac) (Ae Ac (Ae (Ao Aq (Aa 4) (Af Bg (Aa 2) Ac)) Ai))))) Ai)))))) Bh) (Al (Bj (Az (Bo hr.units) (Aa 1) Ac (nomark _)) (Av (Bf (Bs (Fx T) T.Ew hr (Ae (Aa 0) (Ae Ac (Ae (Ax (Bs (Fx T) T.Ew hr (Ae (Ao Aq (Aa 0) Ac) (Ae Ac (Ae (Ao Aq (Ax (Di (Ae Ac (Ae Ac (Ae (Kl Jz Ac) (Ae (Af Ji Ac Ac) Ai)))))) (Af Gr (Af Bg (Aa 2) Ac) Ac)) Ai))))) Ai)))))) Bh) (Al (Bj (Az (Bo hr.units) (Aa 1) Ac (nomark _)) (Al (Ay 6 ZDp.nd (Ao Aq (Ax (Di (Ae Ac (Ae Ac (Ae Ac (Ae Ac (Ae Ac (Ae Ac (Ae Ac (Ae Ac (Ae Ac (Ae Ac (Ae Ac (Ae Ac Ai)))))))))))))) (Af Bg (Aa 2) Ac))) (Av (Bf (Bs (Fx T) T.Ew hr (Ae (Aa 0) (Ae Ac (Ae (Ax (Bs (ZMc T) T.Y8 hr (Ae (Ao Aq (Aa 0) Ac) (Ae (Ao Aq (Aa 0) Ac) (Ae (Aa 3) (Ae (Aa 6) (Ae (Af Do (Aa 2) Ac) Ai))))))) Ai))))))) Bh) (Al (Bj (Dg (Dy (Az (Bo hr.units) (Ao Aq (Aa 0) Ac) Bt (nomark _)) (Dy (Az ZCV (Ao Aq (Aa 0) Ac) Ju (nomark _)) (Em (Az (Bo hr.units) (Af Bg (Aa 2) Ac) Ac (nomark _)))))) (Av (Bf (Bs (Fx T) T.Ew hr (Ae (Aa 0) (Ae Ac (Ae (Ax (Bs (Fx T) T.Ew hr (Ae (Ao Aq (Aa 0) Ac) (Ae Ac (Ae (Aa 5) Ai))))) Ai)))))) Bh) (Al (Bj (Dg (Dy (Az (Bo hr.units) (Ao Aq (Aa 0) Ac) Bt (nomark _)) (Em (Az (Bo hr.units) (Af Bg (Aa 2) Ac) Ac (nomark _))))) (Av (Bf (Bs (Fx T) T.Ew hr (Ae (Aa 0) (Ae Ac (Ae (Aa 5) Ai)))))) Bh) (Av (Bf (Bs (Fx T) T.Ew hr (Ae (Aa 0) (Ae Ac (Ae (Aa 5) Ai))))))))))))))
theorem ZJ2(T:Txt K mg):FnO P w K mg base 2 "_law_renamed" Yw Vk:=by
 refine Dh T.Xq.F Lh λcdv A outer s H E hr=>?_
 exact(Al (Ay 3 Lh.nd (Ao Aq (Ao Aq (Aa 0) (Aa 1)) Ac)) (Al (Ay 4 Lh.nd (Lr (Di Ai))) (Al (Ip PassesOwn.never rfl (I9 rfl T.Hq (Ae (Cw Ex rfl T.Es Eo (Ae (Aa 0) Ai)) Ai)) (Cd 5 Lh.nd) (Al (Ay 6 Lh.nd (Ao Aq (Aa 0) (Aa 5))) (Al (Bj (Az (Bo hr.units) (Ao Aq (Aa 6) Ac) (Aa 3) (nomark _)) (Av (Ay 6 Lh.nd (Ax (Bs (Fx T) T.Ew hr (Ae (Aa 6) (Ae Ac (Ae (Aa 2) Ai))))))) Bh) (Al (Bj (Dg (Dy (Az (Bo hr.units) (Ao Aq (Aa 6) Ac) Bt (nomark _)) (Dy (Az ZCV (Ao Aq (Aa 6) Ac) Ju (nomark _)) (Em (Az (Bo hr.units) (Ao Aq (Ao Aq (Aa 6) Ac) Ac) (Aa 3) (nomark _)))))) (Av (Ay 6 Lh.nd (Ax (Bs (Fx T) T.Ew hr (Ae (Aa 6) (Ae Ac (Ae (Ax (Af Bm (By (Ae (Aa 2) Ai)) (Ax (Cm (Ao Aq (Aa 6) Ac) (Cg Ac) Df)))) Ai))))))) Bh) (Al (Bj (Az (Bo hr.units) (Aa 5) (Aa 1) (nomark _)) (Av (Ay 6 Lh.nd (Ax (Bs (Fx T) T.Ew hr (Ae (Aa 6) (Ae Ac (Ae (Aa 2) Ai))))))) Bh) (Av (Ma (Om PySem.F.slot_list_append PySem.F.type_list_append Ox (Aa 4) (Ae (Aa 6) Ai))))))))) (Av (Bf (Og U8 rfl T.Uz Xu (Ae (Aa 4) Ai)))))))
theorem ZLJ(T:Txt K mg):FnO P w K mg base 3 "_law_spoilt" ZA4 Nk:=by
 refine Dh T.U0.F Rb λcdv A outer s H E hr=>?_
 exact(Al (Th (Aa 0) (K9 rfl (Ea (Cd 4 Rb.nd) (Ea (Cd 5 Rb.nd) Km)))) (Al (Bj (Dg (Dy (Az (Bo hr.units) (Aa 2) Ac (nomark _)) (Em (Az Ho (Af Bg (Aa 3) Ac) Ac (nomark _))))) (Av (Bf (By (Ae (Ao Aq (Ax (Di (Ae Ac (Ae (Af Bm Ac (Af Fq (Af Bg (Af Do (Aa 3) Ac) Ac) (Af Ji Ac Ac))) Ai)))) (Af Bg (Aa 3) Ac)) (Ae (Aa 5) Ai))))) Bh) (Al (Bj (Dg (Dy (Az (Bo hr.units) (Aa 2) Ac (nomark _)) (Em (Az (Bo hr.units) (Af Bg (Aa 3) Ac) Ac (nomark _))))) (Av (Bf (By (Ae (Aa 4) (Ae (By Ai) Ai))))) Bh) (Al (Bj (Az (Bo hr.units) (Aa 2) Ac (nomark _)) (Av (Bf (By (Ae (Aa 4) (Ae (Af Bm (Aa 5) (Af ZOa (By (Ae (Ao Aq (Aa 5) Ac) Ai)) (Af Gr Ac (Cw Ex rfl T.Es Eo (Ae (Aa 5) Ai))))) Ai))))) Bh) (Al (Bj (Az (Bo hr.units) (Aa 2) Ac (nomark _)) (Av (Bf (By (Ae (Aa 4) (Ae (Bs (ZJ2 T) T.Xq hr (Ae (Aa 5) (Ae (Aa 1) (Ae (Ax (Bs (ZLi T) T.Vw hr (Ae (Aa 5) (Ae (Aa 1) (Ae (Aa 3) Ai))))) Ai)))) Ai))))) Bh) (Al (Ay 6 Rb.nd (Ao Aq (Ao Aq (Aa 5) (Aa 1)) Ac)) (Al (Ay 7 Rb.nd (Lr (Di (Ae (Aa 6) (Ae Bt (Ae Bt (Ae Bt (Ae (Aa 6) Ai)))))))) (Al (Bj (Dg (Dy (Az (Bo hr.units) (Aa 2) Ac (nomark _)) (Em (Az Gh (Aa 1) Ac (nomark _))))) (Av (Th (Ao Aq (Ao Aq (Aa 5) (Af Bg (Af Do (Aa 3) Ac) (Aa 1))) Ac) (ZFR (Aa 7) Ac))) Bh) (Al (Bj (Az (Bo hr.units) (Aa 2) Ac (nomark _)) (Av (Th Bt (ZFR (Aa 7) Ac))) Bh) (Av (Bf (By (Ae (Aa 4) (Ae (Ax (Bs (Fx T) T.Ew hr (Ae (Aa 5) (Ae (Aa 1) (Ae (Ax (Bs (ZNJ T) T.Wj hr (Ae (Ao Aq (Aa 5) (Aa 1)) (Ae (Aa 2) (Ae (Aa 3) (Ae (Aa 4) (Ae (Aa 7) Ai))))))) Ai))))) Ai))))))))))))))
theorem ZKB(T:Txt K mg):FnO P w K mg base 6 "law" ZDX Oe:=by
 refine Dh T.Px.F Kh λcdv A outer s H E hr=>?_
 exact(Al (Ay 1 Kh.nd (Bs (ZN7 T) T.Y6 hr (Ae (Aa 0) (Ae Ac Ai)))) (Al (Ay 2 Kh.nd (Ax (Bs (ZAn T) T.Nh hr (Ae (Bs (Q7 T) T.Li hr (Ae (Aa 0) (Ae Ac Ai))) (Ae Ac (Ae Ac Ai)))))) (Al (Ay 3 Kh.nd (Af Bg (Ao Aq (Aa 2) Ac) (Cw Ex rfl T.Es Eo (Ae (Ao Aq (Aa 1) Ac) Ai)))) (Al (Rn (N5 4 rfl Kh.nd (G9 (dn:=(Bd Hi).names) (N0:=ZDA) (N:=["_law_k","_law_house_here"]) (nt:=1) (caps:=[1])) (I9 rfl T.Hq (Ae (Cw Ex rfl T.Es Eo (Ae (Ao Aq (Aa 1) Ac) Ai)) Ai)) (λC s₀ H₀ ex=>(Cd 0 (show(["_law_k","_law_house_here"]:List Str).Nodup by decide +kernel))) (Dv (by decide)) (λC s₀ H₀ ex=>(Rq (Az (Bo hr.units) (Ao Aq (Ao Aq (Ao Aq (Aa 1) Ac) (Aa 0)) Ac) Bt (nomark _)))) (λC s₀ H₀ ex=>(Aa 0)))) (Al (Bj (Dg (Dy (Az (Bo hr.units) (Af Bg (Ao Aq (Aa 2) Ac) Ac) Ac (nomark _)) (Em (Az Gh (Cw Ex rfl T.Es Eo (Ae (Aa 4) Ai)) Ac (nomark _))))) (Av (Ay 3 Kh.nd (Ao Aq (Aa 4) (Af Bg (Ao Aq (Aa 2) Ac) (Cw Ex rfl T.Es Eo (Ae (Aa 4) Ai)))))) Bh) (Al (Ay 5 Kh.nd (Ax (Bs (ZMj T) T.Tn hr (Ae (Ao Aq (Ao Aq (Aa 1) Ac) (Aa 3)) (Ae (Ao Aq (Aa 2) Ac) Ai))))) (Al (Bj (Az (Bo hr.units) (Af Bg (Ao Aq (Aa 2) Ac) Ac) Ac (nomark _)) (Av (Ay 5 Kh.nd Ac)) Bh) (Al (Ay 6 Kh.nd (Ax (Bs (ZLJ T) T.U0 hr (Ae (Aa 1) (Ae (Aa 3) (Ae (Aa 5) (Ae (Ao Aq (Aa 2) Ac) Ai))))))) (Al (Bj (Dg (Ja (Az (Nr hr.units) (ZGm (ZAF T) T.Ou hr (Ae (Aa 1) Ai)) (Aa 1) (nomark _)) (Jh (Gy (Iz (Bs (ZLf T) T.Xk hr (Ae (Aa 6) (Ae (Aa 5) (Ae (Aa 3) Ai))))))))) (Av (Bf Ha)) Bh) (Av (Bf (Gn (Bo hr.units) (ZGm (ZAF T) T.Ou hr (Ae (Aa 1) Ai)) (Aa 1) (nomark _)))))))))))))
end
theorem all_mk{l:PySem.W.OpenLaw}{w:jO}{K:PySem.W.Frag}{h:Heap}{mg:Str->Option jN}{fa:jC}(X:K.In h)(G:h.Ns xy mg)(hfa:mg "law"=vQ (.ref fa))(S:AllSaid K asks):
  ∃fd:jF,(∀(s:jL)(v:jN),BindsTo s fd ⟨[v],[]⟩ [("_law_script",v)])/\∀base:Heap,K.In base->base.Ns xy mg->FnOk l.prog w K mg base CX0 6 fa fd ["_law_script"] (lF K Oe):=by
 obtain⟨Li,W4,Nh,Xw,Vh,K3,Sy,T3,Vz,Yc,Y6,Tn,T4,Xf,Xx,V1,Xr,Vi,Ti,Ue,Ua,Pj,Ou,Xk,Vw,Ew,Y8,Wj,Xq,U0,Px,ZO4,ZO5,ZO6,ZO7,ZO8,ZO9,ZPA,ZPB,ZPC,ZPD,ZPE,Tr,ZBr,Ud,Qf,ZBI,ZBa,P0,ZDJ,Uc,Ni,ZBE,Xb,ZCQ,Yo,ZAN,W3,Wr,Ur,Wf,We,Te,Up,Eh,Ei,Ef,Ed,Eg,Eu,Ly,ZCC,ZAE,ZCJ,ZAK,Zb,ZCy,ZAd,ZBb,ZAi,ZCM,ZAV,ZBz,Zk,ZB6,ZCA,ZCm,ZB0,ZCp,ZCh,ZAb,ZAr,ZCT,Yh,ZA3,ZA1,Yz,Z9,ZCN,Z7,ZBu,ZAx,Zg,Zy,Yj,ZCt,ZBd,Yl,ZCP,ZCZ,ZAg,ZAD,Zz,ZDK,Yt,Yv,ZCB,Zv,ZCW,ZB1,ZDR,ZDU,ZAo,ZBp,ZDW,ZCX,ZBD,ZA5,ZCs,ZCi,ZDs,Zr,Yk,ZCv,ZBx,ZAO,ZCl,Z4,ZCe,ZDQ,ZBP,Zt,ZCq,ZBv,ZDc,ZCS,ZAj,ZDY,ZCH,Zc,ZBQ,ZCn,ZB7,ZDN,ZDg,ZCK,ZA9,Yq,ZB8,Zf,ZBs,ZDB,ZA6,ZAf,ZDE,Zu,Ze,ZDV,ZDM,ZCF,Zd,ZCf,Zw,ZC6,ZCI,_⟩:=S
 have T:Txt K mg:=⟨Cq X G Li (λ_ _ _ _ _ _ us hl=>match us,hl with |[_,_],_=>rfl),
  Cq X G W4 (λ_ _ _ _ _ _ us hl=>match us,hl with |[_],_=>rfl),
  Cq X G Nh (λ_ _ _ _ _ _ us hl=>match us,hl with |[_,_,_],_=>rfl),
  Cq X G Xw (λ_ _ _ _ _ _ us hl=>match us,hl with |[_],_=>rfl),
  Cq X G Vh (λ_ _ _ _ _ _ us hl=>match us,hl with |[_],_=>rfl),
  Cq X G K3 (λ_ _ _ _ _ _ us hl=>match us,hl with |[_,_],_=>rfl),
  Cq X G Sy (λ_ _ _ _ _ _ us hl=>match us,hl with |[_],_=>rfl),
  Cq X G T3 (λ_ _ _ _ _ _ us hl=>match us,hl with |[_,_,_],_=>rfl),
  Cq X G Vz (λ_ _ _ _ _ _ us hl=>match us,hl with |[_,_,_,_],_=>rfl),
  Cq X G Yc (λ_ _ _ _ _ _ us hl=>match us,hl with |[_,_,_,_,_],_=>rfl),
  Cq X G Y6 (λ_ _ _ _ _ _ us hl=>match us,hl with |[_,_],_=>rfl),
  Cq X G Tn (λ_ _ _ _ _ _ us hl=>match us,hl with |[_,_],_=>rfl),
  Cq X G T4 (λ_ _ _ _ _ _ us hl=>match us,hl with |[_],_=>rfl),
  Cq X G Xf (λ_ _ _ _ _ _ us hl=>match us,hl with |[_],_=>rfl),
  Cq X G Xx (λ_ _ _ _ _ _ us hl=>match us,hl with |[_,_],_=>rfl),
  Cq X G V1 (λ_ _ _ _ _ _ us hl=>match us,hl with |[_,_],_=>rfl),
  Cq X G Xr (λ_ _ _ _ _ _ us hl=>match us,hl with |[_,_],_=>rfl),
  Cq X G Vi (λ_ _ _ _ _ _ us hl=>match us,hl with |[_],_=>rfl),
  Cq X G Ti (λ_ _ _ _ _ _ us hl=>match us,hl with |[_,_],_=>rfl),
  Cq X G Ue (λ_ _ _ _ _ _ us hl=>match us,hl with |[_,_,_],_=>rfl),
  Cq X G Ua (λ_ _ _ _ _ _ us hl=>match us,hl with |[_],_=>rfl),
  Cq X G Pj (λ_ _ _ _ _ _ us hl=>match us,hl with |[_,_],_=>rfl),
  Cq X G Ou (λ_ _ _ _ _ _ us hl=>match us,hl with |[_],_=>rfl),
  Cq X G Xk (λ_ _ _ _ _ _ us hl=>match us,hl with |[_,_,_],_=>rfl),
  Cq X G Vw (λ_ _ _ _ _ _ us hl=>match us,hl with |[_,_,_],_=>rfl),
  Cq X G Ew (λ_ _ _ _ _ _ us hl=>match us,hl with |[_,_,_],_=>rfl),
  Cq X G Y8 (λ_ _ _ _ _ _ us hl=>match us,hl with |[_,_,_,_,_],_=>rfl),
  Cq X G Wj (λ_ _ _ _ _ _ us hl=>match us,hl with |[_,_,_,_,_],_=>rfl),
  Cq X G Xq (λ_ _ _ _ _ _ us hl=>match us,hl with |[_,_,_],_=>rfl),
  Cq X G U0 (λ_ _ _ _ _ _ us hl=>match us,hl with |[_,_,_,_],_=>rfl),
  Cq X G Px (λ_ _ _ _ _ _ us hl=>match us,hl with |[_],_=>rfl),
  PySem.W.mg_none_of X G ZO4,
  PySem.W.mg_none_of X G ZO5,
  PySem.W.mg_none_of X G ZO6,
  PySem.W.mg_none_of X G ZO7,
  PySem.W.mg_none_of X G ZO8,
  PySem.W.mg_none_of X G ZO9,
  PySem.W.mg_none_of X G ZPA,
  PySem.W.mg_none_of X G ZPB,
  PySem.W.mg_none_of X G ZPC,
  PySem.W.mg_none_of X G ZPD,
  PySem.W.mg_none_of X G ZPE,
  PySem.W.mg_of X G Tr,
  PySem.W.mg_of X G ZBr,
  PySem.W.mg_of X G Ud,
  PySem.W.mg_of X G Qf,
  PySem.W.mg_of X G ZBI,
  PySem.W.mg_of X G ZBa,
  PySem.W.mg_of X G P0,
  PySem.W.mg_of X G ZDJ,
  PySem.W.mg_of X G Uc,
  PySem.W.mg_of X G Ni,
  PySem.W.mg_of X G ZBE,
  PySem.W.mg_of X G Xb,
  PySem.W.mg_of X G ZCQ,
  PySem.W.mg_of X G Yo,
  PySem.W.mg_of X G ZAN,
  PySem.W.mg_of X G W3,
  PySem.W.mg_of X G Wr,
  Ry Ur (λ_ _ _ _ _ _ us hl=>match us,hl with |[_,_],_=>rfl),
  Ry Wf (λ_ _ _ _ _ _ us hl=>match us,hl with |[_,_],_=>rfl),
  Ry We (λ_ _ _ _ _ _ us hl=>match us,hl with |[_,_],_=>rfl),
  Ry Te (λ_ _ _ _ _ _ us hl=>match us,hl with |[_,_],_=>rfl),
  Ry Up (λ_ _ _ _ _ _ us hl=>match us,hl with |[_,_],_=>rfl),
  Ri X G Eh,
  Ri X G Ei,
  Ri X G Ef,
  Ri X G Ed,
  Ri X G Eg,
  ZI1 X G Eu,
  ZNT X G Ly,
  Gu X G ZCC,
  Gu X G ZAE,
  Gu X G ZCJ,
  Gu X G ZAK,
  Gu X G Zb,
  Gu X G ZCy,
  Gu X G ZAd,
  Gu X G ZBb,
  Gu X G ZAi,
  Gu X G ZCM,
  Gu X G ZAV,
  Gu X G ZBz,
  Gu X G Zk,
  Gu X G ZB6,
  ZCA,
  ZCm,
  ZB0,
  ZCp,
  ZCh,
  ZAb,
  ZAr,
  ZCT,
  Yh,
  ZA3,
  ZA1,
  Yz,
  Z9,
  ZCN,
  Z7,
  ZBu,
  ZAx,
  Zg,
  Zy,
  Yj,
  ZCt,
  ZBd,
  Yl,
  ZCP,
  ZCZ,
  ZAg,
  ZAD,
  Zz,
  ZDK,
  Yt,
  Yv,
  ZCB,
  Zv,
  ZCW,
  ZB1,
  ZDR,
  ZDU,
  ZAo,
  ZBp,
  ZDW,
  ZCX,
  ZBD,
  ZA5,
  ZCs,
  ZCi,
  ZDs,
  Zr,
  Yk,
  ZCv,
  ZBx,
  ZAO,
  ZCl,
  Z4,
  ZCe,
  ZDQ,
  ZBP,
  Zt,
  ZCq,
  ZBv,
  ZDc,
  ZCS,
  ZAj,
  ZDY,
  ZCH,
  Zc,
  ZBQ,
  ZCn,
  ZB7,
  ZDN,
  ZDg,
  ZCK,
  ZA9,
  Yq,
  ZB8,
  Zf,
  ZBs,
  ZDB,
  ZA6,
  ZAf,
  ZDE,
  Zu,
  Ze,
  ZDV,
  ZDM,
  ZCF,
  Zd,
  ZCf,
  Zw,
  ZC6,
  ZCI⟩
 have eL:mg "law"=vQ (.ref (Ab K "law")):=PySem.W.mg_of X G Px.1;obtain rfl:fa=Ab K "law":=by rw[hfa]at eL;cases eL;rfl
 exact⟨_,λs v=>ZOt (Ql Px.2),λbase _ _=>ZKB T⟩
theorem walk{l:PySem.W.OpenLaw}{q:jH}{loose:List Str}{XP:(Str->Option jN)->Heap->Prop}{YP:jO->Heap->Prop}{d:DefRec}{K:jO->PySem.W.Frag}(hn:l.most=vQ 63)(hdf:d.params.defaults=[])(HH:Holds)
  (hY:∀(w:jO)(h:Heap),YP w h->(K w).In h)
  (F:∀(w:jO)(mg:Str->Option jN)(fa:jC)(h:Heap),(K w).In h->h.Ns xy mg->mg d.name=vQ (.ref fa)->
   ∃fd:jF,(∀(s:jL)(u:jN),BindsTo s fd ⟨[u],[]⟩ [("_law_script",u)])/\∀base:Heap,(K w).In base->base.Ns xy mg->FnOk l.prog w (K w) mg base CX0 6 fa fd ["_law_script"] (lF (K w) Oe)):
  PySem.W.WalkO q loose XP YP l.row.toRowW d [] (λf vs=>PySem.call f vs):=
 ZI7 (n:=63) (k:=6) (x:="_law_script") (CX:=λ_=>CX0) (sp:=λw=>lF (K w) Oe) hn (by decide) hdf ⟨rfl,by decide,by decide⟩ hY F
  (λw H a ns hl hbt hO hS=>by
   obtain⟨G,hG⟩:=HH ns hl hbt;refine⟨⟨K w,0,λ_=>0,H⟩,[],[.fl (ns.map D.int)],rfl,rfl,⟨rfl,λi j h=>absurd h (Nat.not_lt_zero _),λi o h=>by simp at h,λi h=>absurd h (Nat.not_lt_zero _)⟩,Reps.cons ⟨a,ns.map V.int,rfl,?_,Reps.ints ns⟩ Reps.nil,?_⟩
   ·rcases hS with(hS|hS)|hS
    ·rcases hO a with z|⟨o,xs,z⟩
     ·rw[z]at hS;cases hS
     ·rw[z]at hS;cases hS
    ·exact .inl hS
    ·exact .inr hS
   ·rw[hG];exact λb v _ _ r=>r) λ_ _ _ _ _ z=>z
end _W
set_option maxRecDepth 100000
namespace _W
open PySem PySem.W _L _D
theorem ZD6:∀w,(openEnds xE pw w 100000).map (λs=>(openSeen vw [] (xV pw.main.body) (XtOf rw_ vw) vJ s,ZB9 asks s.heap))=vQ (openGood vw [],ZBt asks):=ZIO (by kernel_rfl) (λs=>rfl) ZKW
theorem well:rw_.wellSaid=vJ:=ZI6 (by kernel_rfl)
theorem hdef:defOf vw rw_.row.name=vQ (dOf Hi,[]):=by kernel_rfl
theorem hp:rw_.row.prog.theDef rw_.row.name=vQ ((dOf Hi).params,(dOf Hi).body,(dOf Hi).scope):=by kernel_rfl
theorem hk:kwWritten? (dOf Hi).params.kwonlyargs (dOf Hi).params.kw_defaults=vQ []:=by kernel_rfl
theorem hok:(chainsOk vw&&opensWell rw_.row.prog&&(frees rw_.row.toRowW&&rw_.row.within.isEmpty))=vJ:=by kernel_rfl
theorem hdf:(dOf Hi).params.defaults=[]:=by kernel_rfl
theorem hbare:rw_.row.prog.bare:=⟨rfl,rfl,rfl,rfl,rfl,by decide +kernel⟩
theorem hw:rw_.row.toRowW.promised:=by w_witness2
theorem walked:WalkO vw [] (XL vw []) (Stays rw_.prog 100000) rw_.row.toRowW (dOf Hi) [] λf vs=>PySem.call f vs:=
 walk (l:=rw_) (K:=λw=>Qz (Js pw 100000 w)) rfl hdf holds (λw h Y=>Y.in) λw mg fa h KX G hmg=>all_mk KX G (show mg "law"=_ from hmg) (ZFu (ZOC ZD6 w))
end _W
open PySem PySem.W PyProof.Rows _D
theorem PySem.Challenge.cw_sluiceway_k03_one_thing_amiss_holds : PySem.Challenge.rw_sluiceway_k03_one_thing_amiss.Holds := by
 refine holds_top (l:=_W.rw_) (q:=_W.vw) (loose:=[]) (N:=100000) (see:=ZB9 _W.asks) (val:=ZBt _W.asks) (d:=dOf _W.Hi) ?_ ?_ ?_ ?_ ?_ ?_ ?_ ?_ ?_ ?_
 ·exact _W.well
 ·exact _W.ZD6
 ·exact _W.hdef
 ·exact _W.hp
 ·exact _W.hk
 ·rfl
 ·exact _W.hok
 ·exact _W.hbare
 ·exact _W.hw
 ·exact _W.walked
