import PyProof.Rows.All
import Wide.All
import OpenK.AllK
import Wide.FinOn
import Lean
import PyProof.EqAt
import PyProof.EqKinds
import PyProof.TupleCall
import PyProof.NeKinds
import PyProof.IsInstanceH
import PyProof.SumWalkG
import PyProof.ConsumeWalk
import PyProof.IsiNone
import PyProof.WalksMore
import PyProof.PlainList
import PyProof.CompFree
import KE.KIntText
import PyProof.DictTable
import PyProof.ExcInit
import PyProof.ExcClass2
import PyProof.ExcBaseAll.ValueError
import OpenK.KOwn
import PyProof.RulesAs
import PyProof.NsDelKeeps
import OpenK.KMore
import PyProof.TupleOps
import PyProof.FactsAll.tuple_2
import PyProof.Rows.SetFrom
import PyProof.Rows.SortWalk
import PySem.Challenge.RW_sluiceway_k04_whole_the_first_refusal
set_option compiler.extract_closed false
set_option bootstrap.genMatcherCode false
set_option genSizeOf false
set_option Elab.async false
set_option linter.all false
set_option maxRecDepth 100000
open Option renaming some→vZ,none→vJ
open Bool renaming true→vX,false→vV
open List renaming getElem?_eq_getElem→zQ,length_map→zZ,getElem?_eq_some_iff→zX,size_toArray→zK,mem_cons_of_mem→zY,mem_cons→zq,map_cons→zz,getElem?_map→zw,replicate→zk,range→zy,mem_cons_self→z8,getD_eq_getElem?_getD→zB,mem_map→zC,mem_append_right→zD,getElem?_append_right→zG,filterMap_cons→zH,mem_append→zM,append_nil→zP,map_append→zR,getElem?_append_left→zS,mem_of_mem_take→zT,length_append→zU,eq_nil_of_length_eq_zero→qZ,all_eq_true→qJ,range'→qX,mem_singleton→qV,length_take→qW,length_drop→qK,replicate_succ→qq,drop_eq_getElem_cons→qz,getElem?_eq_none→qx,length_cons→qw,getElem?_set_ne→qk,map_map→q8,mem_range→q9,map_nil→qA,getElem_mem→qB,filter_cons→qC,set→qD,mem_of_mem_drop→qE,getElem?_set→qF,getElem?_replicate→qG,all_cons→qH,getElem?_set_self→qI,drop_of_length_le→qL,lookup_cons→qM,length_replicate→qN,foldl_cons→qP,append_assoc→qR,getElem?_take_of_lt→qS,filterMap_map→qU,pairwise_cons→jQ,nodup_cons→jZ,map_take→jJ,length_filter_le→jX,mem_of_getElem?→jV,take_length→jW,getElem_of_mem→jq,map_congr_left→jj,map_drop→jx,mem_filter→jv,length_set→jk,map_set→jy,range_succ_eq_map→j0,length_singleton→j1,lookup→j2,take_append_drop→j3,not_mem_nil→j4,eq_nil_or_concat→j5,concat_eq_append→j6,mem_append_left→j8,nil_append→jA
open Nat renaming lt_of_lt_of_le→zW,le_refl→zx,le_trans→z9,ne_of_lt→zL,lt_irrefl→zN,lt_succ_self→qY,le_of_ble_eq_true→qO,le_succ→qT
open Int renaming emod_lt_of_pos→zE,emod_nonneg→zF,le_refl→jC
open Option renaming map_eq_some_iff→zA,map_some→j9
open Bool renaming and_eq_true→zV,false_ne_true→zv,and_eq_true_iff→qy,not_eq_true→jK
open Array renaming getElem?_eq_some_iff→zO,length_toList→jY
open PySem.Heap renaming get?_push_of_some→zJ,lt_size→zj,get?_push_size→zI,get?_update_other→qQ,get?_update_self→qj,get?_none_of_le→j7,size_push→jB
open PySem renaming Addr→jD,Around→jE,Expr→jF,FuncData→jG,NameKind→jH,Program→jI,Scope→jL,Shared→jM,Stmt→jN,Value→jO,World→jP,assignEach→jR,attributeBase→jS,backTo→jT,behindInMarks→jU,binaryOp→xQ,bootBuiltins→xZ,call_isinstance→xJ,codeAny_mono→xX,compareOp→xV,importedModules→xW,isSubtype→xK,isinstance_false_int→xY,isinstance_false_list→xq,isinstance_false_none→xz,isinstance_false_str→xj,isinstance_false_tuple→xk,letOwnedTupleGo→xy,mainGlobals→x9,model→xA,rawInt→xB,sizeLine_eq→xC,sliceBounds→xD,starEach→xE,treeTable→xF,wpAny→xG,wpAny_Call_Name_kw→xH,wpAny_bind→xI,wpAny_field→xL,wpAny_holding→xM,wpAny_mono→xN,wpAny_newObj_type→xO,wpAny_passesOwn→xP,wpAny_pure→xR,wpAny_truthy_bool→xS
open PySem.W renaming Frag→xT,boot_heap→xU
set_option maxHeartbeats 0
noncomputable section
namespace _L
open PySem PySem.Spec PyProof.Rows
noncomputable def Jr(s:jN):Arguments:=match s with
 |.FunctionDef _ a _ _ _ _ _ _ _ _=>a
 |_=>{posonlyargs:=[],args:=[],vararg:=vJ,kwonlyargs:=[],kw_defaults:=[],kwarg:=vJ,defaults:=[]}
noncomputable def Fq(s:jN):List jN:=match s with
 |.FunctionDef _ _ b _ _ _ _ _ _ _=>b
 |_=>[]
noncomputable def Bd(s:jN):jL:=match s with
 |.FunctionDef _ _ _ _ _ _ sc _ _ _=>sc
 |_=>{kind:=.function,names:=[],isGenerator:=vV,isCoroutine:=vV}
end _L
namespace _D
open PySem PySem.W _L
variable{h:Heap}{C:jD}{m x q:Str}{st:jN}{mg:Str->Option jO}
noncomputable def Ob:List Obj->Nat->xT
 |[],_=>[]
 |o::r,n=>match o.cls,o.data with
  |.none,.fields _=>Ob r (n+1)
  |_,.freed=>Ob r (n+1)
  |_,_=>(n,o)::Ob r (n+1)
def Te(h:Heap):xT:=Ob h.objs.toList 0
noncomputable abbrev XtOf(l:OpenLaw)(q:jI)(s:jM):Bool:=xlAt q [] s&&recOk l.row.toRowW.records s
noncomputable def Ab(K:xT)(n:Str):jD:=match nsIn K x9 n with
 |some (vZ (.ref f))=>f
 |_=>0
noncomputable def gOk(K:xT)(n:Str):Bool:=match nsIn K x9 n with
 |some (vZ (.ref _))=>vX
 |_=>vV
noncomputable def Dt(K:xT)(C:jD)(m:Str):jD:=match findIn K (.ref C) m with
 |some (vZ (.ref f))=>f
 |_=>0
noncomputable def mOk(K:xT)(C:jD)(m:Str):Bool:=match findIn K (.ref C) m with
 |some (vZ (.ref f))=>isFn K (.ref f)
 |_=>vV
noncomputable def noF(K:xT)(C:jD)(m:Str):Bool:=match findIn K (.ref C) m with
 |some vJ=>vX
 |_=>vV
noncomputable def zOk(K:xT)(n:Str):Bool:=match nsIn K x9 n with
 |some vJ=>vX
 |_=>vV
noncomputable def Vk(K:xT)(C:jD):Bool:=match findIn K (.ref C) "__setattr__" with
 |some (vZ (.builtin s))=>s == "object.__setattr__"
 |_=>vV
noncomputable def iOk(K:xT)(n:Str)(v:Int):Bool:=match nsIn K x9 n with
 |some (vZ (.int u _))=>decide (u=v)
 |_=>vV
noncomputable def sOk(K:xT)(n:Str)(v:Str):Bool:=match nsIn K x9 n with
 |some (vZ (.str u _))=>decide (u=v)
 |_=>vV
noncomputable def Jk(K:xT)(f:jD):Obj:=match K.lookup f with
 |some o=>o
 |none=>⟨.none,vJ,.plain,#[]⟩
def Cg(K:xT)(f:jD):jG:=match(Jk K f).data with
 |.func fd=>fd
 |_=>default
noncomputable def ZLq:jO->Bool
 |.none=>vX
 |_=>vV
noncomputable def ZMK:FuncBody->Option (List jN)
 |.stmts b=>vZ b
 |_=>vJ
def Yv(K:xT)(x q:Str)(f:jD):Bool:=match K.lookup f with
 |some ⟨_,_,.func fd,_⟩=>decide (fd.name=x)&&decide (fd.qualname=q)&&(fd.globals==x9&&fd.builtins==builtinsNs&&fd.closure.isEmpty&&ZLq fd.defaults)&&(codeIn K fd.code q&&keepIn K (.ref f))
 |_=>vV
noncomputable abbrev DefTxt:=Arguments×Option (List jN)×jL
def O5(K:xT)(f:jD):DefTxt:=((Cg K f).params,ZMK (Cg K f).body,(Cg K f).scope)
def O7(st:jN):DefTxt:=(Jr st,vZ (Fq st),Bd st)
noncomputable def dfl(K:xT)(d:jO)(v:Int):Bool:=match d with
 | .ref T=>match K.lookup T with
  | some o=>(match o.data with
   |.seq a _=>(match a.toList with
    |[.int i _]=>decide (i=v)
    |_=>vV)
   |_=>vV)
  |none=>vV
 |_=>vV
def ZDw(K:xT)(x q:Str)(f:jD)(v:Int):Bool:=match K.lookup f with
 |some ⟨_,_,.func fd,_⟩=>decide (fd.name=x)&&decide (fd.qualname=q)&&(fd.globals==x9&&fd.builtins==builtinsNs&&fd.closure.isEmpty&&dfl K fd.defaults v)&&(codeIn K fd.code q&&keepIn K (.ref f))
 |_=>vV
noncomputable def strsOf:List jO->Option (List Str)
 |[]=>vZ []
 |.str s _::r=>(strsOf r).map (s::·)
 |_::_=>vJ
def ZFC(K:xT)(n:Str)(vs:List Str):Bool:=match nsIn K x9 n with
 | some (vZ (.ref p))=>(match K.lookup p with
   |some ⟨.type t,_,.seq its _,_⟩=>t == "tuple"&&decide (strsOf its.toList=vZ vs)&&Nat.ble its.toList.length 1000
   |_=>vV)
 |_=>vV
def ZBv(K:xT)(n:Str)(kvs:List (Str×Str)):Bool:=match nsIn K x9 n with
 | some (vZ (.ref p))=>(match K.lookup p with
   |some ⟨.type t,_,.dict es _,_⟩=>t == "dict" && !(p==sysModules)&&decide (strsOf (es.toList.map (·.key))=vZ (kvs.map (·.1)))&&decide (strsOf (es.toList.map (·.val))=vZ (kvs.map (·.2)))
   |_=>vV)
 |_=>vV
inductive Ask where
 |fn (n:Str) (st:jN)
 |mt (c m q:Str) (st:jN)
 |cl (c:Str)
 |no (c x:Str)
 |z (n:Str)
 |gi (n:Str) (v:Int)
 |gs (n v:Str)
 |gt (n:Str) (vs:List Str)
 |gd (n:Str) (kvs:List (Str×Str))
 |ck (φ:xT->Bool)
 |fd (n:Str) (st:jN) (v:Int)
def Ask.chk(K:xT):Ask->Bool
 |.fn n _=>gOk K n&&Yv K n n (Ab K n)
 |.mt c m q _=>mOk K (Ab K c) m&&Yv K m q (Dt K (Ab K c) m)
 |.cl c=>gOk K c&&(plainGet K (Ab K c) Str.empty&&hasDictIn K (Ab K c)&&plainOver K (Ab K c))&&(Vk K (Ab K c)&&makesIn K (Ab K c)&&keepIn K (.ref (Ab K c)))
 |.no c x=>noF K (Ab K c) x
 |.z n=>zOk K n
 |.gi n v=>iOk K n v
 |.gs n v=>sOk K n v
 |.gt n vs=>ZFC K n vs
 |.gd n kvs=>ZBv K n kvs
 |.ck φ=>φ K
 |.fd n _ v=>gOk K n&&ZDw K n n (Ab K n) v
def Ask.txt(K:xT):Ask->Option DefTxt
 |.fn n _=>vZ (O5 K (Ab K n))
 |.mt c m _ _=>vZ (O5 K (Dt K (Ab K c) m))
 |.fd n _ _=>vZ (O5 K (Ab K n))
 |_=>vJ
def Ask.want:Ask->Option DefTxt
 |.fn _ st=>vZ (O7 st)
 |.mt _ _ _ st=>vZ (O7 st)
 |.fd _ st _=>vZ (O7 st)
 |_=>vJ
def ZCO(l:List Ask)(h:Heap):Bool×List (Option DefTxt):=(l.all (Ask.chk (Te h)),l.map (Ask.txt (Te h)))
noncomputable abbrev ZAq(l:List Ask):Bool×List (Option DefTxt):=(vX,l.map Ask.want)
noncomputable def ZAC(p:jI)(w:jP)(n₀:Nat)(ann:Option jO):Nat->SharedT->Thread->Option SharedT
 |0,_,_=>vJ
 | n+1,s,t=>match through t with
  |true=>vZ s
  | false=>match PySem.W.Fast.tw6613529449190102663 n₀ ann t with
   |false=>vJ
   |true=>match PySem.W.Fast.tw10156331382660048174 (PySem.W.Fast.tw11892475500146522536 PySem.W.Fast.tw14364793385576792824) p w s t with
    |some (s',t')=>ZAC p w n₀ ann n s' t'
    |none=>vJ
noncomputable def ZGy:List Obj->Nat->BT->BT
 |[],_,t=>t
 |o::r,n,t=>ZGy r (n+1) (t.ins n o)
def ZGz(w:jP)(os:OsState):SharedT:=⟨ZGy (xU w.params).objs.toList 0 .nil,(xU w.params).objs.size,(xU w.params).life,Array.mk [],boot_drawn,boot_toks,os⟩
def ZE7(p:jI)(w:jP)(os:OsState):Option SharedT:=ZAC p w (xU w.params).objs.size (PySem.W.Fast.tw8920871248978507458 (xU w.params) x9 "__annotations__") 100000 (ZGz w os) (topStub p)
noncomputable def ZAr(p:jI)(w:jP)(s:jM):Bool:=staticsOk (PySem.W.Fast.tw5923862056798008813 p.main.body) (xU w.params) s.heap&&namesBound p s.heap&&gensDone s&&laidKept (xU w.params) s.heap
noncomputable abbrev vmro:List jO:=[.type "ValueError",.type "Exception",.type "BaseException",.type "object"]
def Hu(K:PySem.W.Frag)(C:jD):Bool:=match K.lookup C with
 |some ⟨.type "type",_,.cls cd,sl⟩=>(match cd.mro,sl.toList with
  |.ref C'::bm,[_,_,_,_,vZ (.builtin n),_]=>C'==C&&n == "ValueError.__new__" && !cd.hasDel&&cd.hasDict&&PySem.W.tailIn K vmro bm&&PySem.W.nsOkIn K cd.ns
  |_,_=>vV)
 |_=>vV
noncomputable def Ov(K:PySem.W.Frag)(C f:jD):Bool:=match K.lookup C with
 |some ⟨_,_,.cls cd,_⟩=>PySem.W.nsIn K cd.ns "__init__"==vZ (vZ (.ref f))
 |_=>vV
noncomputable def Pk:List jO->Bool
 |[.type a,.type b,.type c,.type d]=>a == "ValueError"&&b == "Exception"&&c == "BaseException"&&d == "object"
 |.ref _::r=>Pk r
 |_=>vV
def Wb(K:PySem.W.Frag)(C:jD):Bool:=(PySem.W.clsIn K C).any λcd=>Pk cd.mro
noncomputable def isB(r:Option (Option jO))(n:String):Bool:=match r with
 |some (vZ (.builtin m))=>m==n
 |_=>vV
noncomputable def An(r:Option Bool)(b:Bool):Bool:=match r with
 |some c=>c==b
 |_=>vV
noncomputable def Qy{α:Type}(r:Option (Option α)):Bool:=match r with
 |some vJ=>vX
 |_=>vV
noncomputable def ZFD(K:xT)(a:jD):Bool:=match K.lookup a with
 |some ⟨.type t,_,_,_⟩=>t == "function"
 |_=>vV
def Nu(c f:Str)(K:xT):Bool:=gOk K c&&keepIn K (.ref (Ab K c))&&(Hu K (Ab K c)&&Vk K (Ab K c)&&Wb K (Ab K c)&&Qy (takerIn K (Ab K c) f)&&hasDictIn K (Ab K c))&&Ov K (Ab K c) (Dt K (Ab K c) "__init__")&&ZFD K (Dt K (Ab K c) "__init__") &&
 (isB (findIn K (.ref (Ab K c)) "__getattribute__") "BaseException.__getattribute__"&&Qy (findIn K (.ref (Ab K c)) "__getattr__")&&An (subIn K (.ref (Ab K c)) (.type "BaseException")) vX&&isB (findIn K (.ref (Ab K c)) "__class__") "object.__class__" &&
  isB (specialIn K (.builtin "object.__class__") "__get__") "getset_descriptor.__get__"&&An (takesIn K (.builtin "object.__class__")) vX&&An (mroIn K (Ab K c) (.type "object")) vX&&An (kitCls K (.ref (Ab K c)) (.ref (Ab K c))) vX)&&noF K (Ab K c) f
noncomputable def ZBT(r:Option CFound)(n:String):Bool:=match r with
 |some (.val (.builtin m))=>m==n
 |_=>vV
def ZBJ(x:Str)(K:xT):Bool:=gOk K x&&isB (specialIn K (.ref (Ab K x)) "__getattribute__") "type.__getattribute__"&&readsIn K (Ab K x) (.type "type")&&ZBT (findCls K (.ref (Ab K x)) (.type "type") "__init__") "ValueError.__init__"
def Fx(K:PySem.W.Frag)(C W:jD)(b:Bool):Bool:=Hu K C&&Hu K W&&match K.lookup C with
 |some ⟨_,_,.cls cd,_⟩=>cd.mro.contains (.ref W)==b
 |_=>vV
def Y8(K:xT)(C:jD):Bool:=match K.lookup C with
 |some ⟨_,_,.cls cd,_⟩=>Qy (nsIn K cd.ns "__init__")
 |_=>vV
def et0Ok(c:Str)(K:xT):Bool:=gOk K c&&keepIn K (.ref (Ab K c))&&(Hu K (Ab K c)&&hasDictIn K (Ab K c))&&Y8 K (Ab K c) &&
 (isB (findIn K (.ref (Ab K c)) "__getattribute__") "BaseException.__getattribute__"&&Qy (findIn K (.ref (Ab K c)) "__getattr__")&&An (subIn K (.ref (Ab K c)) (.type "BaseException")) vX&&isB (findIn K (.ref (Ab K c)) "__class__") "object.__class__" &&
  isB (specialIn K (.builtin "object.__class__") "__get__") "getset_descriptor.__get__"&&An (takesIn K (.builtin "object.__class__")) vX&&An (mroIn K (Ab K c) (.type "object")) vX&&An (kitCls K (.ref (Ab K c)) (.ref (Ab K c))) vX)
end _D
namespace _W
open PySem PySem.W _L _D
noncomputable def top(i:Nat):jN:=PySem.Challenge.pw_sluiceway_k04_whole_the_first_refusal.main.body.getD i (.Pass ⟨0,0,0,0⟩)
noncomputable def inC(s:jN)(j:Nat):jN:=match s with
 |.ClassDef _ _ _ body _ _ _ _ _ _ _=>body.getD j (.Pass ⟨0,0,0,0⟩)
 |_=>.Pass ⟨0,0,0,0⟩
noncomputable abbrev ZDF:jN:=inC (top 3) 0
noncomputable abbrev ZDq:jN:=inC (top 5) 0
noncomputable abbrev ZFO:jN:=inC (top 6) 0
noncomputable abbrev ZBw:jN:=inC (top 4) 0
noncomputable abbrev ZEf:jN:=inC (top 7) 0
noncomputable abbrev ZBM:jN:=top 44
noncomputable abbrev Vz:jN:=top 68
noncomputable abbrev ZBx:jN:=top 66
noncomputable abbrev Ru:jN:=top 67
noncomputable abbrev Wx:jN:=top 69
noncomputable abbrev ZAx:jN:=top 70
noncomputable abbrev W0:jN:=top 64
noncomputable abbrev Tr:jN:=top 47
noncomputable abbrev ZEB:jN:=top 46
noncomputable abbrev O9:jN:=top 48
noncomputable abbrev ZFF:jN:=top 52
noncomputable abbrev ZDO:jN:=top 49
noncomputable abbrev Zj:jN:=top 53
noncomputable abbrev ZCf:jN:=top 50
noncomputable abbrev ZDo:jN:=top 51
noncomputable abbrev ZBh:jN:=top 54
noncomputable abbrev ZAY:jN:=top 55
noncomputable abbrev ZCh:jN:=top 56
noncomputable abbrev ZEe:jN:=top 45
noncomputable abbrev Z6:jN:=top 33
noncomputable abbrev ZD8:jN:=top 38
noncomputable abbrev ZEa:jN:=top 36
noncomputable abbrev ZDs:jN:=top 40
noncomputable abbrev ZD2:jN:=top 41
noncomputable abbrev Xh:jN:=top 42
noncomputable abbrev ZBr:jN:=top 39
noncomputable abbrev ZBf:jN:=top 37
noncomputable abbrev Uv:jN:=top 35
noncomputable abbrev ZFK:jN:=top 34
noncomputable abbrev Zh:jN:=top 63
noncomputable abbrev ZCH:jN:=top 58
noncomputable abbrev ZCB:jN:=top 61
noncomputable abbrev Ye:jN:=top 59
noncomputable abbrev ZEp:jN:=top 60
noncomputable abbrev ZDA:jN:=top 57
noncomputable abbrev ZEg:jN:=top 62
noncomputable abbrev ZCA:jN:=top 65
noncomputable abbrev Je:jN:=top 71
def asks:List Ask:=[.fn "_law_cell_at" ZBM,.fn "_law_is_name" Vz,.fn "_law_stairs_good" ZBx,.fn "_law_rule_good" Ru,.fn "_law_due" Wx,.fn "_law_first" ZAx,.fn "_law_held" W0,.fn "_law_free_names" Tr,.fn "_law_stream" ZEB,.fn "_law_names" O9,.fn "_law_more" ZFF,.fn "_law_number" ZDO,.fn "_law_pumped" Zj,.fn "_law_stairs" ZCf,.fn "_law_rule" ZDo,.fn "_law_place" ZBh,.fn "_law_house" ZAY,.fn "_law_put" ZCh,.fn "_law_whole" ZEe,.fn "is_name" Z6,.fn "is_pump_good" ZD8,.fn "is_river_good" ZEa,.fn "are_seasons_good" ZDs,.fn "are_steps_good" ZD2,.fn "can_pump" Xh,.fn "is_rule_good" ZBr,.fn "numbers_in" ZBf,.fn "check_place" Uv,.fn "checked" ZFK,.fn "_law_refused" Zh,.fn "_law_no_name" ZCH,.fn "_law_rank" ZCB,.fn "_law_rule_spoilt" Ye,.fn "_law_place_spoilt" ZEp,.fn "_law_renamed" ZDA,.fn "_law_spoilt" ZEg,.fn "_law_turned" ZCA,.fn "law" Je,.z "ValueError",.z "all",.z "bool",.z "int",.z "isinstance",.z "len",.z "max",.z "min",.z "range",.z "set",.z "sorted",.z "sum",.z "tuple",.gi "BRIM" 4,.gi "DELAY" 3,.gi "DOWN" 2,.gi "KIND" 0,.gs "LETTERS" "abcdefghijklmnopqrstuvwxyz",.gi "MOST" 4,.gi "NAME" 1,.gi "NEED" 4,.gi "PLACES" 1,.gi "PUMP" 6,.gi "PUMP_DELAY" 1,.gi "PUMP_MOST" 2,.gi "PUMP_TO" 0,.gi "RANK" 5,.gi "RULE" 5,.gs "SEA" "sea",.gi "YEAR" 0,.mt "NoName" "__init__" "NoName.__init__" ZDF,.mt "NoNumber" "__init__" "NoNumber.__init__" ZDq,.mt "NoPump" "__init__" "NoPump.__init__" ZFO,.mt "NoRiver" "__init__" "NoRiver.__init__" ZBw,.mt "NoRule" "__init__" "NoRule.__init__" ZEf,.ck (Nu "NoName" "place"),.ck (Nu "NoNumber" "place"),.ck (Nu "NoPump" "place"),.ck (Nu "NoRiver" "place"),.ck (Nu "NoRule" "place"),.ck (et0Ok "NoHouse"),.ck (ZBJ "WaterError"),.ck (λK=>gOk K "NoAsk"),.ck (λK=>gOk K "NoBounds"),.ck (λK=>gOk K "NoHouse"),.ck (λK=>gOk K "NoLevel"),.ck (λK=>gOk K "NoName"),.ck (λK=>gOk K "NoNumber"),.ck (λK=>gOk K "NoPump"),.ck (λK=>gOk K "NoRiver"),.ck (λK=>gOk K "NoRow"),.ck (λK=>gOk K "NoRule"),.ck (λK=>gOk K "NoText"),.ck (λK=>gOk K "NoWay"),.ck (λK=>gOk K "TooLong"),.ck (λK=>gOk K "WaterError"),.ck (λK=>Fx K (Ab K "NoHouse") (Ab K "WaterError") vX),.ck (λK=>Fx K (Ab K "NoName") (Ab K "WaterError") vX),.ck (λK=>Fx K (Ab K "NoNumber") (Ab K "WaterError") vX),.ck (λK=>Fx K (Ab K "NoPump") (Ab K "WaterError") vX),.ck (λK=>Fx K (Ab K "NoRiver") (Ab K "WaterError") vX),.ck (λK=>Fx K (Ab K "NoRule") (Ab K "WaterError") vX),.ck (λK=>An (PySem.W.kitOne K (.ref (Ab K "NoHouse")) (.ref (Ab K "NoAsk"))) vV),.ck (λK=>An (PySem.W.kitOne K (.ref (Ab K "NoName")) (.ref (Ab K "NoAsk"))) vV),.ck (λK=>An (PySem.W.kitOne K (.ref (Ab K "NoNumber")) (.ref (Ab K "NoAsk"))) vV),.ck (λK=>An (PySem.W.kitOne K (.ref (Ab K "NoPump")) (.ref (Ab K "NoAsk"))) vV),.ck (λK=>An (PySem.W.kitOne K (.ref (Ab K "NoRiver")) (.ref (Ab K "NoAsk"))) vV),.ck (λK=>An (PySem.W.kitOne K (.ref (Ab K "NoRule")) (.ref (Ab K "NoAsk"))) vV),.ck (λK=>An (PySem.W.kitOne K (.ref (Ab K "NoHouse")) (.ref (Ab K "NoBounds"))) vV),.ck (λK=>An (PySem.W.kitOne K (.ref (Ab K "NoName")) (.ref (Ab K "NoBounds"))) vV),.ck (λK=>An (PySem.W.kitOne K (.ref (Ab K "NoNumber")) (.ref (Ab K "NoBounds"))) vV),.ck (λK=>An (PySem.W.kitOne K (.ref (Ab K "NoPump")) (.ref (Ab K "NoBounds"))) vV),.ck (λK=>An (PySem.W.kitOne K (.ref (Ab K "NoRiver")) (.ref (Ab K "NoBounds"))) vV),.ck (λK=>An (PySem.W.kitOne K (.ref (Ab K "NoRule")) (.ref (Ab K "NoBounds"))) vV),.ck (λK=>An (PySem.W.kitOne K (.ref (Ab K "NoHouse")) (.ref (Ab K "NoHouse"))) vX),.ck (λK=>An (PySem.W.kitOne K (.ref (Ab K "NoName")) (.ref (Ab K "NoHouse"))) vV),.ck (λK=>An (PySem.W.kitOne K (.ref (Ab K "NoNumber")) (.ref (Ab K "NoHouse"))) vV),.ck (λK=>An (PySem.W.kitOne K (.ref (Ab K "NoPump")) (.ref (Ab K "NoHouse"))) vV),.ck (λK=>An (PySem.W.kitOne K (.ref (Ab K "NoRiver")) (.ref (Ab K "NoHouse"))) vV),.ck (λK=>An (PySem.W.kitOne K (.ref (Ab K "NoRule")) (.ref (Ab K "NoHouse"))) vV),.ck (λK=>An (PySem.W.kitOne K (.ref (Ab K "NoHouse")) (.ref (Ab K "NoLevel"))) vV),.ck (λK=>An (PySem.W.kitOne K (.ref (Ab K "NoName")) (.ref (Ab K "NoLevel"))) vV),.ck (λK=>An (PySem.W.kitOne K (.ref (Ab K "NoNumber")) (.ref (Ab K "NoLevel"))) vV),.ck (λK=>An (PySem.W.kitOne K (.ref (Ab K "NoPump")) (.ref (Ab K "NoLevel"))) vV),.ck (λK=>An (PySem.W.kitOne K (.ref (Ab K "NoRiver")) (.ref (Ab K "NoLevel"))) vV),.ck (λK=>An (PySem.W.kitOne K (.ref (Ab K "NoRule")) (.ref (Ab K "NoLevel"))) vV),.ck (λK=>An (PySem.W.kitOne K (.ref (Ab K "NoHouse")) (.ref (Ab K "NoName"))) vV),.ck (λK=>An (PySem.W.kitOne K (.ref (Ab K "NoName")) (.ref (Ab K "NoName"))) vX),.ck (λK=>An (PySem.W.kitOne K (.ref (Ab K "NoNumber")) (.ref (Ab K "NoName"))) vV),.ck (λK=>An (PySem.W.kitOne K (.ref (Ab K "NoPump")) (.ref (Ab K "NoName"))) vV),.ck (λK=>An (PySem.W.kitOne K (.ref (Ab K "NoRiver")) (.ref (Ab K "NoName"))) vV),.ck (λK=>An (PySem.W.kitOne K (.ref (Ab K "NoRule")) (.ref (Ab K "NoName"))) vV),.ck (λK=>An (PySem.W.kitOne K (.ref (Ab K "NoHouse")) (.ref (Ab K "NoNumber"))) vV),.ck (λK=>An (PySem.W.kitOne K (.ref (Ab K "NoName")) (.ref (Ab K "NoNumber"))) vV),.ck (λK=>An (PySem.W.kitOne K (.ref (Ab K "NoNumber")) (.ref (Ab K "NoNumber"))) vX),.ck (λK=>An (PySem.W.kitOne K (.ref (Ab K "NoPump")) (.ref (Ab K "NoNumber"))) vV),.ck (λK=>An (PySem.W.kitOne K (.ref (Ab K "NoRiver")) (.ref (Ab K "NoNumber"))) vV),.ck (λK=>An (PySem.W.kitOne K (.ref (Ab K "NoRule")) (.ref (Ab K "NoNumber"))) vV),.ck (λK=>An (PySem.W.kitOne K (.ref (Ab K "NoHouse")) (.ref (Ab K "NoPump"))) vV),.ck (λK=>An (PySem.W.kitOne K (.ref (Ab K "NoName")) (.ref (Ab K "NoPump"))) vV),.ck (λK=>An (PySem.W.kitOne K (.ref (Ab K "NoNumber")) (.ref (Ab K "NoPump"))) vV),.ck (λK=>An (PySem.W.kitOne K (.ref (Ab K "NoPump")) (.ref (Ab K "NoPump"))) vX),.ck (λK=>An (PySem.W.kitOne K (.ref (Ab K "NoRiver")) (.ref (Ab K "NoPump"))) vV),.ck (λK=>An (PySem.W.kitOne K (.ref (Ab K "NoRule")) (.ref (Ab K "NoPump"))) vV),.ck (λK=>An (PySem.W.kitOne K (.ref (Ab K "NoHouse")) (.ref (Ab K "NoRiver"))) vV),.ck (λK=>An (PySem.W.kitOne K (.ref (Ab K "NoName")) (.ref (Ab K "NoRiver"))) vV),.ck (λK=>An (PySem.W.kitOne K (.ref (Ab K "NoNumber")) (.ref (Ab K "NoRiver"))) vV),.ck (λK=>An (PySem.W.kitOne K (.ref (Ab K "NoPump")) (.ref (Ab K "NoRiver"))) vV),.ck (λK=>An (PySem.W.kitOne K (.ref (Ab K "NoRiver")) (.ref (Ab K "NoRiver"))) vX),.ck (λK=>An (PySem.W.kitOne K (.ref (Ab K "NoRule")) (.ref (Ab K "NoRiver"))) vV),.ck (λK=>An (PySem.W.kitOne K (.ref (Ab K "NoHouse")) (.ref (Ab K "NoRow"))) vV),.ck (λK=>An (PySem.W.kitOne K (.ref (Ab K "NoName")) (.ref (Ab K "NoRow"))) vV),.ck (λK=>An (PySem.W.kitOne K (.ref (Ab K "NoNumber")) (.ref (Ab K "NoRow"))) vV),.ck (λK=>An (PySem.W.kitOne K (.ref (Ab K "NoPump")) (.ref (Ab K "NoRow"))) vV),.ck (λK=>An (PySem.W.kitOne K (.ref (Ab K "NoRiver")) (.ref (Ab K "NoRow"))) vV),.ck (λK=>An (PySem.W.kitOne K (.ref (Ab K "NoRule")) (.ref (Ab K "NoRow"))) vV),.ck (λK=>An (PySem.W.kitOne K (.ref (Ab K "NoHouse")) (.ref (Ab K "NoRule"))) vV),.ck (λK=>An (PySem.W.kitOne K (.ref (Ab K "NoName")) (.ref (Ab K "NoRule"))) vV),.ck (λK=>An (PySem.W.kitOne K (.ref (Ab K "NoNumber")) (.ref (Ab K "NoRule"))) vV),.ck (λK=>An (PySem.W.kitOne K (.ref (Ab K "NoPump")) (.ref (Ab K "NoRule"))) vV),.ck (λK=>An (PySem.W.kitOne K (.ref (Ab K "NoRiver")) (.ref (Ab K "NoRule"))) vV),.ck (λK=>An (PySem.W.kitOne K (.ref (Ab K "NoRule")) (.ref (Ab K "NoRule"))) vX),.ck (λK=>An (PySem.W.kitOne K (.ref (Ab K "NoHouse")) (.ref (Ab K "NoText"))) vV),.ck (λK=>An (PySem.W.kitOne K (.ref (Ab K "NoName")) (.ref (Ab K "NoText"))) vV),.ck (λK=>An (PySem.W.kitOne K (.ref (Ab K "NoNumber")) (.ref (Ab K "NoText"))) vV),.ck (λK=>An (PySem.W.kitOne K (.ref (Ab K "NoPump")) (.ref (Ab K "NoText"))) vV),.ck (λK=>An (PySem.W.kitOne K (.ref (Ab K "NoRiver")) (.ref (Ab K "NoText"))) vV),.ck (λK=>An (PySem.W.kitOne K (.ref (Ab K "NoRule")) (.ref (Ab K "NoText"))) vV),.ck (λK=>An (PySem.W.kitOne K (.ref (Ab K "NoHouse")) (.ref (Ab K "NoWay"))) vV),.ck (λK=>An (PySem.W.kitOne K (.ref (Ab K "NoName")) (.ref (Ab K "NoWay"))) vV),.ck (λK=>An (PySem.W.kitOne K (.ref (Ab K "NoNumber")) (.ref (Ab K "NoWay"))) vV),.ck (λK=>An (PySem.W.kitOne K (.ref (Ab K "NoPump")) (.ref (Ab K "NoWay"))) vV),.ck (λK=>An (PySem.W.kitOne K (.ref (Ab K "NoRiver")) (.ref (Ab K "NoWay"))) vV),.ck (λK=>An (PySem.W.kitOne K (.ref (Ab K "NoRule")) (.ref (Ab K "NoWay"))) vV),.ck (λK=>An (PySem.W.kitOne K (.ref (Ab K "NoHouse")) (.ref (Ab K "TooLong"))) vV),.ck (λK=>An (PySem.W.kitOne K (.ref (Ab K "NoName")) (.ref (Ab K "TooLong"))) vV),.ck (λK=>An (PySem.W.kitOne K (.ref (Ab K "NoNumber")) (.ref (Ab K "TooLong"))) vV),.ck (λK=>An (PySem.W.kitOne K (.ref (Ab K "NoPump")) (.ref (Ab K "TooLong"))) vV),.ck (λK=>An (PySem.W.kitOne K (.ref (Ab K "NoRiver")) (.ref (Ab K "TooLong"))) vV),.ck (λK=>An (PySem.W.kitOne K (.ref (Ab K "NoRule")) (.ref (Ab K "TooLong"))) vV),.ck (λK=>An (PySem.W.kitOne K (.ref (Ab K "NoHouse")) (.type "ValueError")) vX),.ck (λK=>An (PySem.W.kitOne K (.ref (Ab K "NoName")) (.type "ValueError")) vX),.ck (λK=>An (PySem.W.kitOne K (.ref (Ab K "NoNumber")) (.type "ValueError")) vX),.ck (λK=>An (PySem.W.kitOne K (.ref (Ab K "NoPump")) (.type "ValueError")) vX),.ck (λK=>An (PySem.W.kitOne K (.ref (Ab K "NoRiver")) (.type "ValueError")) vX),.ck (λK=>An (PySem.W.kitOne K (.ref (Ab K "NoRule")) (.type "ValueError")) vX)]
abbrev rw_:OpenLaw:=PySem.Challenge.rw_sluiceway_k04_whole_the_first_refusal
abbrev pw:jI:=OpenLaw.prog PySem.Challenge.rw_sluiceway_k04_whole_the_first_refusal
def vw:jI:=view pw (zy 72)
theorem ZLCb:∀w os,(ZE7 pw w os).map (λs=>PySem.W.Fast.tw4187177175401517315 vw [] (PySem.W.Fast.tw5923862056798008813 pw.main.body) (XtOf rw_ vw) vX s.abs)=vZ (openGood vw []):=λw os=>by kernel_rfl
theorem ZLCa:∀w os,(ZE7 pw w os).map (λs=>(ZAr pw w s.abs,ZCO asks s.abs.heap))=vZ (vX,ZAq asks):=λw os=>by kernel_rfl
theorem ZLC:∀w os,(ZE7 pw w os).map (λs=>(ZAr pw w s.abs,PySem.W.Fast.tw4187177175401517315 vw [] (PySem.W.Fast.tw5923862056798008813 pw.main.body) (XtOf rw_ vw) vX s.abs,ZCO asks s.abs.heap))=vZ (vX,openGood vw [],ZAq asks):=λw os=>by
 have h1:=ZLCb w os
 have h2:=ZLCa w os
 revert h1 h2
 generalize ZE7 pw w os=o
 intro h1 h2
 cases o with
 |none=>cases h2
 |some s=>exact congrArg some (Prod.ext (Prod.mk.inj (Option.some.inj h2)).1 (Prod.ext (Option.some.inj h1) (Prod.mk.inj (Option.some.inj h2)).2))
end _W
namespace _L
open PySem PySem.Spec PyProof.Rows
variable{us:List jO}{u:jO}{a b:jD}{P:jI}{w:jP}{h base:Heap}{t' i k:Nat}{ch fp:List jD}{x:Str}{Q:Unit->jM->Prop}{e tg:jF}{E:jO->jM->Prop}{s:jM}{vQ:List (jD×Obj)}{K:PySem.W.Frag}{f:jO->jO->Sem jO}{op:CmpOp}{mg:Str->Option jO}{kindOf:Str->Option jH}
noncomputable abbrev Key:=Sum Int Str
def ZGX:Key->jO->Bool
 |.inl k,v=>Value.isInt k v
 |.inr x,v=>Value.isStrOf x v
def keyH(w:jP):Key->Int
 |.inl k=>hashInt k
 |.inr x=>hashStr w x
theorem Lk:∀{k:Key}{v:jO},ZGX k v=vX->(∃i t,k=Sum.inl i/\v=Value.int i t)∨(∃x t,k=Sum.inr x/\v=Value.str x t)
 |.inl i,v,h=>by obtain⟨t,e⟩:=Value.isInt_shape (k:=i) (v:=v) h;exact .inl ⟨i,t,rfl,e⟩
 |.inr x,v,h=>by obtain⟨t,e⟩:=Value.isStrOf_shape (x:=x) (v:=v) h;exact .inr ⟨x,t,rfl,e⟩
theorem ZMU(a b:Int):decide ((Sum.inl a:Key)=Sum.inl b)=(a==b):=by
 by_cases e:a=b
 ·subst e;simp
 ·have h:¬(Sum.inl a:Key)=Sum.inl b:=λq=>e (Sum.inl.inj q)
  rw[decide_eq_false h];exact(beq_eq_false_iff_ne.mpr e).symm
theorem ZPC(a b:Str):decide ((Sum.inr a:Key)=Sum.inr b)=decide (a=b):=by
 by_cases e:a=b
 ·subst e;simp
 ·have h:¬(Sum.inr a:Key)=Sum.inr b:=λq=>e (Sum.inr.inj q)
  rw[decide_eq_false h,decide_eq_false e]
theorem ZKg(a:Int)(b:Str):decide ((Sum.inl a:Key)=Sum.inr b)=vV:=decide_eq_false (λq=>nomatch q)
theorem ZMC(a:Str)(b:Int):decide ((Sum.inr a:Key)=Sum.inl b)=vV:=decide_eq_false (λq=>nomatch q)
def ZGp(prog:jI)(w:jP):PySem.KeyKind prog w Key where
 is:=ZGX
 hash:=keyH w
 inj:=λv a b ha hb=>by
  rcases Lk ha with⟨i,t,rfl,rfl⟩|⟨x,t,rfl,rfl⟩
  ·rcases Lk hb with⟨j,u,rfl,e⟩|⟨y,u,rfl,e⟩
   ·injection e with e1 _;rw[e1]
   ·exact nomatch e
  ·rcases Lk hb with⟨j,u,rfl,e⟩|⟨y,u,rfl,e⟩
   ·exact nomatch e
   ·injection e with e1 _;rw[e1]
 byValue:=λk v h=>by rcases Lk h with⟨i,t,rfl,rfl⟩|⟨x,t,rfl,rfl⟩<;>rfl
 pyHash:=λhv h=>by
  rcases Lk hv with⟨i,t,rfl,rfl⟩|⟨x,t,rfl,rfl⟩
  ·exact wpAny_pyHash_int h
  ·exact wpAny_pyHash_str h
 eqBool:=λhu hv h=>by
  rcases Lk hu with⟨i,t,rfl,rfl⟩|⟨x,t,rfl,rfl⟩
  ·rcases Lk hv with⟨j,u,rfl,rfl⟩|⟨y,u,rfl,rfl⟩
   ·rw[ZMU]at h;exact wpAny_eqBool_int h
   ·rw[ZKg]at h;exact SeqAt.EqAt.int_str i t y u _ _ _ _ h
  ·rcases Lk hv with⟨j,u,rfl,rfl⟩|⟨y,u,rfl,rfl⟩
   ·rw[ZMC]at h;exact SeqAt.EqAt.str_int x t j u _ _ _ _ h
   ·rw[ZPC]at h;exact wpAny_eqBool_str h
 «strs»:=λk x t v h=>by
  rcases Lk h with⟨i,u,rfl,e⟩|⟨y,u,rfl,e⟩
  ·exact nomatch e
  ·injection e with e1 _
   subst e1
   cases v<;>rfl
inductive V where
 |non|bl (b:Bool)|int (i:Int)|str (x:Str)|byt (b:Array UInt8)|flt (b:UInt64)|ref (a:jD)|ty (n:String)
 deriving DecidableEq
variable{v:V}
def RelV:V->jO->Prop
 |.non,u=>u=Value.none
 |.bl b,u=>u=Value.bool b
 |.int i,u=>∃t,u=Value.int i t
 |.str x,u=>∃t,u=Value.str x t
 |.byt b,u=>∃t,u=Value.bytes b t
 |.flt b,u=>∃t,u=Value.float b t
 |.ref a,u=>u=Value.ref a
 |.ty n,u=>u=Value.type n
abbrev Vals:List V->List jO->Prop:=Paired RelV
theorem Vals.length{xs:List V}(r:Vals xs us):xs.length=us.length:=Paired.length r
theorem Vals.get:∀{xs:List V}{us:List jO}{i:Nat}{x:V},Vals xs us->xs[i]?=vZ x->∃u,us[i]?=vZ u/\RelV x u
 |_,_,_,_,.nil,e=>by simp at e
 |_,_,0,_,.cons r _,e=>by simp at e;subst e;exact⟨_,rfl,r⟩
 |_,_,i+1,x,.cons _ t,e=>by obtain⟨u,h1,h2⟩:=Vals.get (i:=i) (x:=x) t (by simpa using e);exact⟨u,by simpa using h1,h2⟩
theorem Vals.set{x:V}(r:RelV x u):∀{xs:List V}{us:List jO}(i:Nat),Vals xs us->Vals (xs.set i x) (us.set i u)
 |_,_,_,.nil=>.nil
 |_,_,0,.cons _ t=>.cons r t
 |_,_,i+1,.cons q t=>.cons q (Vals.set r i t)
theorem Vals.append:∀{xs ys:List V}{us ws:List jO},Vals xs us->Vals ys ws->Vals (xs++ys) (us++ws)
 |_,_,_,_,.nil,s=>s
 |_,_,_,_,.cons r t,s=>.cons r (Vals.append t s)
theorem Vals.take:∀{xs:List V}{us:List jO}(n:Nat),Vals xs us->Vals (xs.take n) (us.take n)
 |_,_,0,_=>.nil
 |_,_,_+1,.nil=>.nil
 |_,_,n+1,.cons r t=>.cons r (Vals.take n t)
theorem Vals.drop:∀{xs:List V}{us:List jO}(n:Nat),Vals xs us->Vals (xs.drop n) (us.drop n)
 |_,_,0,r=>r
 |_,_,_+1,.nil=>.nil
 |_,_,n+1,.cons _ t=>Vals.drop n t
def RelO:Option V->Option jO->Prop
 |some v,vZ u=>RelV v u
 |none,vJ=>True
 |_,_=>False
def KV{κ:Type}:List (κ×V)->List (κ×jO)->Prop:=Paired λ(p:κ×V)(q:κ×jO)=>p.1=q.1/\RelV p.2 q.2
def kV:Key->V
 |.inl i=>.int i
 |.inr x=>.str x
inductive HO where
 |lst (xs:List V)
 |tup (xs:List V)
 |dK (kvs:List (Key×V))|dT (kvs:List (List Key×V))
 |set (S:Int->Bool) (n:Nat)
 |ins (C dx:jD) (fs:List (Str×V))
 |own (x:jD)
 |xd (fs:List (Str×V))
 |met (f x:jD)
 |rng (lo hi:Int)
 |frz (o:Obj) (u:HO)
 |tbl (ps:Array jO)
 |ext (φ:Heap->Prop)
variable{o:HO}
noncomputable abbrev Hp:=jD->Option HO
variable{H:Hp}
noncomputable def upd(H:Hp)(a:jD)(o:HO):Hp:=λb=>if b=a then vZ o else H b
theorem Jt:upd H a o a=vZ o:=by unfold upd;rw[if_pos rfl]
theorem Bu(h:b≠a):upd H a o b=H b:=by unfold upd;rw[if_neg h]
theorem Ja(h:H a=vZ o)(h':H b=vJ):a≠b:=by intro e;subst e;rw[h]at h';cases h'
section
variable(P:jI)(w:jP)
def ObjOk(H:Hp)(h:Heap)(a:jD):HO->Prop
 |.lst xs=>xs.length<=sizeLine/\∃(its:List jO)(n:Nat),Vals xs its/\h.get? a=vZ {cls:=.type "list",data:=.seq its.toArray n}
 |.tup xs=>xs.length<=sizeLine/\∃its:List jO,Vals xs its/\IsTup h a its.toArray
 |.dK kvs=>kvs.length<=sizeLine/\(a==sysModules)=vV/\∃vs,KV kvs vs/\h.DictOf (ZGp P w) a vs
 | .dT kvs=>kvs.length<=sizeLine/\(a==sysModules)=vV/\∃xs:List (List Key×jD×jO),
   Paired (λ(p:List Key×V)(q:List Key×jD×jO)=>p.1=q.1/\H q.2.1=vZ (.tup (p.1.map kV))/\RelV p.2 q.2.2) kvs xs/\
   ∃o es ep,h.get? a=vZ o/\o.ExactDict/\o.data=.dict es ep/\es.toList=xs.map (entryOfKey (tupleKind (ZGp P w)))/\(xs.map (·.1)).Nodup
 |.set S n=>h.SetOf (intKind P w) a S n
 | .ins C dx fs=>H dx=vZ (.own a)/\fs.length<=1000/\dx≠a/\h.get? a=vZ (PySem.W.instObj C dx)/\
   ∃mA,h.Ns1 dx mA/\(∀f,RelO (fs.lookup f) (mA f))/\PySem.Within mA (fs.map (·.1))
 |.own _=>∃o,h.get? a=vZ o
 |.xd fs=>∃mA,h.Ns1 a mA/\∀f,RelO (fs.lookup f) (mA f)
 |.rng lo hi=>∃t u v,h.get? a=vZ {cls:=.type "range",data:=.fields #[.int lo t,.int hi u,.int 1 v]}
 |.frz o u=>h.get? a=vZ o/\ObjOk H h a u
 |.tbl ps=>h.get? a=vZ {cls:=.none,data:=.fields ps}
 |.met f x=>h.get? a=vZ (PySem.W.methodObj (.ref f) (.ref x))
 |.ext φ=>φ h/\(∃o,h.get? a=vZ o)/\∀h1 h2:Heap,φ h1->(∀o,h1.get? a=vZ o->h2.get? a=vZ o)->φ h2
def HOk(H:Hp)(h:Heap):Prop:=∀a o,H a=vZ o->ObjOk P w H h a o
end
section
variable{P:jI}{w:jP}{H H':Hp}{h h':Heap}{a:jD}{o:HO}
theorem ObjOk.lt(x:ObjOk P w H h a o):a<h.objs.size:=by
 cases o with
 |lst xs=>obtain⟨_,_,_,_,e⟩:=x;exact zj e
 |tup xs=>obtain⟨_,_,_,p⟩:=x;exact p.lt
 |dK kvs=>obtain⟨_,_,_,_,o,_,_,e,_⟩:=x;exact zj e
 |dT kvs=>obtain⟨_,_,_,_,o,_,_,e,_⟩:=x;exact zj e
 |set S n=>obtain⟨o,_,_,_,e,_⟩:=x;exact zj e
 |ins C dx fs=>obtain⟨_,_,_,e,_⟩:=x;exact zj e
 |own y=>obtain⟨_,e⟩:=x;exact zj e
 |xd fs=>obtain⟨_,⟨_,_,_,e,_⟩,_⟩:=x;exact zj e
 |rng lo hi=>obtain⟨_,_,_,e⟩:=x;exact zj e
 |frz ob u=>obtain⟨e,_⟩:=x;exact zj e
 |tbl ps=>exact zj (show h.get? a=vZ _ from x)
 |met f y=>exact zj (show h.get? a=vZ _ from x)
 |ext φ=>obtain⟨_,⟨_,e⟩,_⟩:=x;exact zj e
theorem Paired.mapP{α β:Type}{F G:α->β->Prop}:∀{l₁:List α}{l₂:List β},Paired F l₁ l₂->(∀a b,F a b->G a b)->Paired G l₁ l₂
 |_,_,.nil,_=>.nil
 |_,_,.cons r t,f=>.cons (f _ _ r) (Paired.mapP t f)
theorem ObjOk.stay(x:ObjOk P w H h a o)(k:∀b u,(b=a∨H b=vZ (.own a))->h.get? b=vZ u->h'.get? b=vZ u)
  (ho:∀b,H b=vZ (.own a)->H' b=vZ (.own a)) (ht:∀b xs,H b=vZ (.tup xs)->H' b=vZ (.tup xs)):ObjOk P w H' h' a o:=by
 induction o with
 |lst xs=>obtain⟨z,its,n,r,e⟩:=x;exact⟨z,its,n,r,k _ _ (.inl rfl) e⟩
 |tup xs=>obtain⟨z,its,r,ob,e,c⟩:=x;exact⟨z,its,r,ob,k _ _ (.inl rfl) e,c⟩
 |dK kvs=>obtain⟨z,y,vs,r,ob,es,ep,e,c⟩:=x;exact⟨z,y,vs,r,ob,es,ep,k _ _ (.inl rfl) e,c⟩
 |dT kvs=>
  obtain⟨z,y,xs,r,ob,es,ep,e,c⟩:=x;exact⟨z,y,xs,Paired.mapP r λp q z=>⟨z.1,ht _ _ z.2.1,z.2.2⟩,ob,es,ep,k _ _ (.inl rfl) e,c⟩
 |set S n=>obtain⟨ob,es,ep,t,e,c⟩:=x;exact⟨ob,es,ep,t,k _ _ (.inl rfl) e,c⟩
 |ins C dx fs=>
  obtain⟨d,z,ne,e,mA,⟨od,es,ep,e2,c⟩,r⟩:=x;exact⟨ho _ d,z,ne,k _ _ (.inl rfl) e,mA,⟨od,es,ep,k _ _ (.inr d) e2,c⟩,r⟩
 |own y=>obtain⟨ob,e⟩:=x;exact⟨ob,k _ _ (.inl rfl) e⟩
 |xd fs=>obtain⟨mA,⟨od,es,ep,e,c⟩,r⟩:=x;exact⟨mA,⟨od,es,ep,k _ _ (.inl rfl) e,c⟩,r⟩
 |rng lo hi=>obtain⟨t,u,v,e⟩:=x;exact⟨t,u,v,k _ _ (.inl rfl) e⟩
 |frz ob u ih=>obtain⟨e,q⟩:=x;exact⟨k _ _ (.inl rfl) e,ih q⟩
 |tbl ps=>
  have e:h.get? a=vZ {cls:=.none,data:=.fields ps}:=x;show h'.get? a=vZ {cls:=.none,data:=.fields ps};exact k a _ (.inl rfl) e
 |met f y=>
  have e:h.get? a=vZ (PySem.W.methodObj (.ref f) (.ref y)):=x;show h'.get? a=vZ (PySem.W.methodObj (.ref f) (.ref y));exact k a _ (.inl rfl) e
 |ext φ=>obtain⟨p,⟨o,e⟩,st⟩:=x;exact⟨st _ _ p λo q=>k _ _ (.inl rfl) q,⟨o,k _ _ (.inl rfl) e⟩,st⟩
theorem HOk.lt(x:HOk P w H h)(e:H a=vZ o):a<h.objs.size:=(x a o e).lt
theorem HOk.fresh(x:HOk P w H h)(e:h.objs.size<=a):H a=vJ:=by
 cases q:H a with
 |none=>rfl
 |some u=>exact absurd (zW (x.lt q) e) (zN _)
theorem HOk.kept(x:HOk P w H h)(k:∀b u,h.get? b=vZ u->h'.get? b=vZ u):HOk P w H h':=λa o e=>
 (x a o e).stay (λb u _ q=>k b u q) (λ_ q=>q) λ_ _ q=>q
theorem HOk.laid(x:HOk P w H h)(k:∀b u,h.get? b=vZ u->h'.get? b=vZ u)(hp:h.objs.size<=a)(new:ObjOk P w (upd H a o) h' a o):HOk P w (upd H a o) h':=λb u e=>by
 have hn:=x.fresh hp;by_cases hb:b=a
 ·subst hb;rw[Jt]at e;cases e;exact new
 ·rw[Bu hb]at e;exact(x b u e).stay (λc v _ q=>k c v q) (λc q=>by rw[Bu (Ja q hn)];exact q) λc xs q=>by rw[Bu (Ja q hn)];exact q
end
def Rd(H:Hp)(a:jD)(u:HO):Prop:=H a=vZ u∨∃o,H a=vZ (.frz o u)
theorem Rd.ok{u:HO}(r:Rd H a u)(x:HOk P w H h):ObjOk P w H h a u:=by
 rcases r with r|⟨o,r⟩
 ·exact x a u r
 ·obtain⟨_,q⟩:=x a _ r;exact q
def Mut:Option HO->Prop
 |some (.lst _)=>True
 |some (.dK _)=>True
 |some (.dT _)=>True
 |some (.set _ _)=>True
 |some (.ins _ _ _)=>True
 |some (.ext _)=>True
 |_=>False
section
variable{P:jI}{w:jP}{H:Hp}{h h':Heap}{x e:jD}{o':HO}
theorem HOk.write(ok:HOk P w H h)(mu:Mut (H x))(he:e=x∨H e=vZ (.own x))(k:∀b u,b≠e->h.get? b=vZ u->h'.get? b=vZ u)(heo:∃u,h'.get? e=vZ u)
  (new:ObjOk P w (upd H x o') h' x o'):HOk P w (upd H x o') h':=λb u q=>by
 have nown:∀c y,H c=vZ (.own y)->c≠x:=λc y r z=>by subst z;rw[r]at mu;exact mu
 have ntup:∀c xs,H c=vZ (.tup xs)->c≠x:=λc xs r z=>by subst z;rw[r]at mu;exact mu
 by_cases hb:b=x
 ·subst hb;rw[Jt]at q;cases q;exact new
 ·rw[Bu hb]at q;by_cases hbe:b=e
  ·have q':H b=vZ (.own x):=by
    rcases he with z|z
    ·exact absurd (hbe.trans z) hb
    ·rw[hbe];exact z
   rw[q]at q';cases q';obtain⟨v,hv⟩:=heo;exact⟨v,by rw[hbe];exact hv⟩
  ·refine(ok b u q).stay (λc v hc r=>k c v ?_ r) (λc r=>by rw[Bu (nown c b r)];exact r) λc xs r=>by rw[Bu (ntup c xs r)];exact r
   rcases hc with rfl|hc
   ·exact hbe
   ·rintro rfl;rcases he with z|z
    ·exact nown c b hc z
    ·rw[hc]at z;cases z;exact hb rfl
end
structure Un (fs ex:List jD) (H H':Hp) (h h':Heap):Prop where
 keep:∀b o,h.get? b=vZ o->H b=vJ->b∉fs->b∉ex->h'.get? b=vZ o
 slot:∀b o,h.get? b=vZ o->H b=vJ->b∈fs->b∉ex->∃sl,h'.get? b=vZ {o with slots:=sl}
 free:∀b o,h.get? b=vZ o->H b=vJ->b∉ex->H' b=vJ
 there:∀b o,h.get? b=vZ o->b∉ex->∃o',h'.get? b=vZ o'
 tups:∀b xs,H b=vZ (.tup xs)->H' b=vZ (.tup xs)
 frzs:∀b o u,H b=vZ (.frz o u)->H' b=vZ (.frz o u)
 tbls:∀b ps,H b=vZ (.tbl ps)->∃more,H' b=vZ (.tbl (ps++more))
section
variable{fs fs' ex ex':List jD}{H H1 H2:Hp}{h h1 h2 h':Heap}{a x e:jD}{o:HO}
theorem Un.any(u:Un fs ex H H1 h h1){ob:Obj}(q:h.get? b=vZ ob)(n:H b=vJ)(hx:b∉ex):∃sl,h1.get? b=vZ {ob with slots:=sl}:=by
 by_cases hb:b∈fs
 ·exact u.slot b ob q n hb hx
 ·exact⟨ob.slots,u.keep b ob q n hb hx⟩
theorem Un.kept(k:∀b u,h.get? b=vZ u->h'.get? b=vZ u):Un fs ex H H h h':=
 ⟨λb ob q _ _ _=>k b ob q,λb ob q _ _ _=>⟨ob.slots,k b ob q⟩,λ_ _ _ n _=>n,λb ob q _=>⟨ob,k b ob q⟩,λ_ _ q=>q,λ_ _ _ q=>q,λ_ ps q=>⟨#[],by rw[q];simp⟩⟩
theorem Un.refl:Un fs ex H H h h:=Un.kept λ_ _ q=>q
theorem Un.laid(k:∀b u,h.get? b=vZ u->h'.get? b=vZ u)(hp:h.objs.size<=a)(hn:H a=vJ):Un fs ex H (upd H a o) h h' where
 keep:=λb u q _ _ _=>k b u q
 slot:=λb u q _ _ _=>⟨u.slots,k b u q⟩
 free:=λb u q n _=>by rw[Bu (zL (zW (zj q) hp))];exact n
 there:=λb u q _=>⟨u,k b u q⟩
 tups:=λb xs q=>by rw[Bu (Ja q hn)];exact q
 frzs:=λb u xs q=>by rw[Bu (Ja q hn)];exact q
 tbls:=λb ps q=>⟨#[],by rw[Bu (Ja q hn),q];simp⟩
theorem Un.write(mu:Mut (H x))(he:e=x∨H e=vZ (.own x))(k:∀b u,b≠e->h.get? b=vZ u->h'.get? b=vZ u)(heo:∃u,h'.get? e=vZ u):Un fs ex H (upd H x o) h h':=by
 have hx:∀b,H b=vJ->b≠x:=λb n z=>by subst z;rw[n]at mu;exact mu
 have hb:∀b,H b=vJ->b≠e:=λb n z=>by
  subst z;rcases he with r|r
  ·exact hx b n r
  ·rw[n]at r;cases r
 have hm:∀b u,H b=vZ u->¬Mut (vZ u)->b≠x:=λb u q nm z=>by subst z;rw[q]at mu;exact nm mu
 refine⟨λb u q n _ _=>k b u (hb b n) q,λb u q n _ _=>⟨u.slots,k b u (hb b n) q⟩,λb u q n _=>by rw[Bu (hx b n)];exact n,λb u q _=>?_,
  λb xs q=>by rw[Bu (hm b _ q λz=>z)];exact q,λb u xs q=>by rw[Bu (hm b _ q λz=>z)];exact q,λb ps q=>⟨#[],by rw[Bu (hm b _ q λz=>z),q];simp⟩⟩
 by_cases hbe:b=e
 ·subst hbe;exact heo
 ·exact⟨u,k b u hbe q⟩
end
noncomputable def trk(h:Heap)(H:Hp):List jD:=(zy h.objs.size).filter λa=>(H a).isSome
def M7(h:Heap)(H:Hp):Heap:=PySem.W.hideAll h (trk h H)
theorem ZOV(h:Heap)(H:Hp):(M7 h H).objs.size=h.objs.size:=PySem.W.hideAll_size _ _
theorem ZNd{o:Obj}(e:h.get? b=vZ o)(n:H b=vJ):(M7 h H).get? b=vZ o:=
 PySem.W.hideAll_get _ e λhm=>by have q:(H b).isSome=vX:=(jv.mp hm).2;rw[n]at q;simp at q
theorem ZNh{o:Obj}(e:(M7 h H).get? b=vZ o):h.get? b=vZ o/\H b=vJ:=by
 have e':h.get? b=vZ o:=PySem.W.of_hideAll (trk h H) e;refine⟨e',?_⟩;cases q:H b with
 |none=>rfl
 |some x=>
  have hm:b∈trk h H:=jv.mpr ⟨q9.mpr (zj e'),by simp[q]⟩;have z:(M7 h H).get? b=vJ:=PySem.W.hideAll_none (trk h H) hm;rw[z]at e;cases e
noncomputable def ZKp(g h:Heap)(L:jD):List (jD×Obj):=(zy h.objs.size).filterMap λa=>if a=L∨(g.get? a).isSome=vX then vJ else(h.get? a).map λo=>(a,o)
def rest(g h:Heap)(L d:jD):List (jD×Obj):=(ZKp g h L).filter λp=>decide (p.1≠d)
structure Mod (K:PySem.W.Frag) (mg:Str->Option jO) (base:Heap):Prop where
 kin:K.In base
 glob:base.Ns x9 mg
 blt:∃mb,base.Ns builtinsNs mb/\∀x:Str,x≠"__name__"->mb x=xZ x
 nolimit:base.NoLimit
structure Cx where
 prog:jI
 w:jP
 K:PySem.W.Frag
 mg:Str->Option jO
 base:Heap
 A:jE
 N:List Str
 s₀:jM
 H₀:Hp
 env:Env
 outer:List Env
 stack:List Env
 ex:List jD
 fn:Str->Bool
 calm:Bool
 pn:List (jD×Obj)
 xe:jO->jM->Prop
variable{X:Cx}
noncomputable def frs(l:List Env):List jD:=l.filterMap (·.frame)
noncomputable abbrev Cx.fs(X:Cx):List jD:=frs X.outer
def Vis(sc:jL)(x:Str):Prop:=sc.names.lookup x=vZ .local∨sc.names.lookup x=vZ .cell∨sc.names.lookup x=vZ .free
def Loc(sc:jL)(x:Str):Prop:=sc.names.lookup x=vZ .local∨sc.names.lookup x=vZ .cell
def Look(env:Env)(h:Heap)(m:Str->Option jO)(x:Str)(u:jO):Prop:=
 (env.kindOf x=vZ .local/\m x=vZ u)∨((env.kindOf x=vZ .cell∨env.kindOf x=vZ .free)/\∃c,env.cells.lookup x=vZ c/\h.IsCell c (vZ u))
structure Cx.Ok (X:Cx):Prop where
 mod:Mod X.K X.mg X.base
 kind:X.env.scope.kind=.function
 glob:X.env.globals=x9
 blt:X.env.builtins=builtinsNs
 above:X.s₀.heap.objs.size<=X.env.locals
 inj:∀x y c,X.env.cells.lookup x=vZ c->X.env.cells.lookup y=vZ c->x=y
 has:∀x,(X.env.kindOf x=vZ .cell∨X.env.kindOf x=vZ .free)->∃c,X.env.cells.lookup x=vZ c
 cab:∀x c,X.fn x=vX->X.env.cells.lookup x=vZ c->X.s₀.heap.objs.size<=c
 hd:X.calm=vX->X.A.handled=vJ
 frames:X.A.frames=vZ X.stack
 stk:X.stack=X.outer∨(X.stack=X.env::X.outer/\X.env.frame=vZ X.env.locals)
 exf:∀b∈X.ex,b≠X.env.locals/\∀x c,X.env.cells.lookup x=vZ c->c≠b
 bs:∀b o,X.base.get? b=vZ o->X.s₀.heap.get? b=vZ o/\X.H₀ b=vJ
 bsz:X.base.objs.size<=X.s₀.heap.objs.size
 noex:∀b o,X.base.get? b=vZ o->b∉X.ex
 exfs:∀b∈X.ex,b∉X.fs
 funs:X.s₀.heap.FunFrames X.base X.outer
 frf:∀b∈X.fs,X.H₀ b=vJ
structure Inv (X:Cx) (vQ:List (jD×Obj)) (σ:List (Option V)) (H:Hp) (s:jM):Prop where
 ok:X.Ok
 os:s.os=X.s₀.os
 bare:AllBare s.gens
 base:Un X.fs X.ex X.H₀ H X.s₀.heap s.heap
 loc:∃m,s.heap.Ns X.env.locals m/\∀(i:Nat)(x:Str)(v:V),X.N[i]?=vZ x->σ[i]?=vZ (vZ v)->Vis X.env.scope x->∃u,RelV v u/\Look X.env s.heap m x u
 cell:∀x c,X.env.cells.lookup x=vZ c->∃v,s.heap.IsCell c v
 free:H X.env.locals=vJ
 Iz:∀x c,X.env.cells.lookup x=vZ c->H c=vJ
 pin:∀p∈X.pn++vQ,s.heap.get? p.1=vZ p.2/\H p.1=vJ/\p.1≠X.env.locals/\p.1∉X.fs/\∀v,p.2.data≠ .cell v
 hok:HOk X.prog X.w H s.heap
 len:σ.length=X.N.length
section
variable{X:Cx}{vQ:List (jD×Obj)}{σ:List (Option V)}{H H':Hp}{s:jM}{h':Heap}
theorem Cx.Ok.nofr(ok:X.Ok){o:Obj}(e:X.base.get? b=vZ o):b∉X.fs:=λhb=>by have:=(ok.funs.mem hb).1;rw[e]at this;cases this
theorem Inv.bs(I:Inv X vQ σ H s):∀b o,X.base.get? b=vZ o->s.heap.get? b=vZ o/\H b=vJ:=λb o e=>
 ⟨I.base.keep b o (I.ok.bs b o e).1 (I.ok.bs b o e).2 (I.ok.nofr e) (I.ok.noex b o e),I.base.free b o (I.ok.bs b o e).1 (I.ok.bs b o e).2 (I.ok.noex b o e)⟩
theorem Inv.bk(I:Inv X vQ σ H s):∀b o,X.base.get? b=vZ o->s.heap.get? b=vZ o:=λb o e=>(I.bs b o e).1
theorem Inv.mod(I:Inv X vQ σ H s):Mod X.K X.mg X.base:=I.ok.mod
theorem Inv.kIn(I:Inv X vQ σ H s):X.K.In s.heap:=I.ok.mod.kin.keeps I.bk
theorem Inv.lt(I:Inv X vQ σ H s):X.env.locals<s.heap.objs.size:=let⟨_,hn,_⟩:=I.loc;hn.lt
theorem Inv.sz(I:Inv X vQ σ H s):X.s₀.heap.objs.size<=s.heap.objs.size:=z9 I.ok.above (Nat.le_of_lt I.lt)
theorem Inv.nofs(I:Inv X vQ σ H s)(h:s.heap.objs.size<=a):a∉X.fs:=λhb=>by obtain⟨_,o,ho,_⟩:=I.ok.funs.mem hb;exact absurd (zW (zj ho) (z9 I.sz h)) (zN _)
theorem Inv.cne(I:Inv X vQ σ H s):∀x c,X.env.cells.lookup x=vZ c->c≠X.env.locals:=λx c e z=>by obtain⟨v,o,ho,hd⟩:=I.cell x c e;obtain⟨m,⟨o',es,ep,ho',hd',_⟩,_⟩:=I.loc;rw[z,ho']at ho;cases ho;rw[hd']at hd;cases hd
theorem Inv.funs(I:Inv X vQ σ H s):s.heap.FunFrames X.base X.outer:=by
 have all:∀(l:List Env),(∀b∈frs l,b∈X.fs)->X.s₀.heap.FunFrames X.base l->s.heap.FunFrames X.base l:=by
  intro l
  induction l with
  |nil=>intro _ _;trivial
  |cons env r ih=>
   intro hs hl;obtain⟨hk,⟨L,o,hf,hn,ho,hd⟩,hr⟩:=hl;have hL:L∈X.fs:=hs L (by unfold frs;rw[zH,hf];exact z8);obtain⟨sl,e⟩:=I.base.slot L o ho (I.ok.frf L hL) hL λz=>I.ok.exfs L z hL
   exact⟨hk,⟨L,_,hf,hn,e,hd⟩,ih (λb hb=>hs b (by unfold frs;rw[zH,hf];exact zY _ hb)) hr⟩
 exact all X.outer (λ_ hb=>hb) I.ok.funs
theorem Inv.stack(I:Inv X vQ σ H s):s.heap.FunFrames X.base X.stack:=by
 rcases I.ok.stk with e|⟨e,hf⟩
 ·rw[e];exact I.funs
 ·rw[e];obtain⟨m,hn,_⟩:=I.loc;refine .cons (by rw[I.ok.kind];decide) hf hn ?_ I.funs;exact j7 (z9 I.ok.bsz I.ok.above)
theorem Inv.Vf(I:Inv X vQ σ H s):∀b∈frs X.stack,b∈X.env.locals::X.fs:=λb hb=>by
 rcases I.ok.stk with e|⟨e,hf⟩
 ·rw[e]at hb;exact zY _ hb
 ·rw[e]at hb;unfold frs at hb;rw[zH,hf]at hb;exact hb
theorem Inv.Wr(I:Inv X vQ σ H s):∀b∈frs X.stack,H b=vJ:=λb hb=>by
 rcases zq.mp (I.Vf b hb)with e|hb
 ·rw[e];exact I.free
 ·obtain⟨_,o,ho,_⟩:=I.ok.funs.mem hb;exact I.base.free b o ho (I.ok.frf b hb) λz=>I.ok.exfs b z hb
theorem Inv.step{g':Array GenState}{d':Drawn}(I:Inv X vQ σ H s)
  (hch:∀b∈ch,(b∈X.ex∨X.s₀.heap.objs.size<=b)/\b≠X.env.locals/\(∀x c,X.env.cells.lookup x=vZ c->c≠b)/\∀p∈X.pn++vQ,p.1≠b)
  (keep:∀b o,b≠X.env.locals->b∉X.fs->b∉ch->s.heap.get? b=vZ o->H b=vJ->h'.get? b=vZ o)
  (slot:∀b o,b≠X.env.locals->b∈X.fs->b∉ch->s.heap.get? b=vZ o->H b=vJ->∃sl,h'.get? b=vZ {o with slots:=sl}) (free:∀b o,b∉ch->s.heap.get? b=vZ o->H b=vJ->H' b=vJ)
  (there:∀b o,b∉ch->s.heap.get? b=vZ o->∃o',h'.get? b=vZ o')
  (tups:∀b xs,H b=vZ (.tup xs)->H' b=vZ (.tup xs)) (frzs:∀b o u,H b=vZ (.frz o u)->H' b=vZ (.frz o u)) (tbls:∀b ps,H b=vZ (.tbl ps)->∃more,H' b=vZ (.tbl (ps++more)))
  (ns:∀m,s.heap.Ns X.env.locals m->h'.Ns X.env.locals m) (hok:HOk X.prog X.w H' h') (hg:AllBare g'):
  Inv X vQ σ H' {s with heap:=h',gens:=g',drawn:=d',toks:=t'}:=by
 have neL:∀b o,X.s₀.heap.get? b=vZ o->b≠X.env.locals:=λb o e=>zL (zW (zj e) I.ok.above)
 have neC:∀b o,X.s₀.heap.get? b=vZ o->b∉X.ex->b∉ch:=λb o e hx hb=>by
  rcases(hch b hb).1 with z|z
  ·exact hx z
  ·exact absurd (zW (zj e) z) (zN _)
 have cellK:∀x c,X.env.cells.lookup x=vZ c->∀v,s.heap.IsCell c v->h'.IsCell c v:=λx c e v ⟨o,ho,hd⟩=>by
  have nch:c∉ch:=λz=>(hch c z).2.2.1 x c e rfl
  by_cases hc:c∈X.fs
  ·obtain⟨sl,q⟩:=slot c o (I.cne x c e) hc nch ho (I.Iz x c e);exact⟨_,q,hd⟩
  ·exact⟨o,keep c o (I.cne x c e) hc nch ho (I.Iz x c e),hd⟩
 refine⟨I.ok,I.os,hg,⟨λb o e n hb hx=>?_,λb o e n hb hx=>?_,λb o e n hx=>?_,λb o e hx=>?_,λb xs e=>tups b xs (I.base.tups b xs e),λb o xs e=>frzs b o xs (I.base.frzs b o xs e),λb ps e=>?_⟩,?_,λx c e=>?_,?_,λx c e=>?_,λp hp=>?_,hok,I.len⟩
 ·exact keep b o (neL b o e) hb (neC b o e hx) (I.base.keep b o e n hb hx) (I.base.free b o e n hx)
 ·obtain⟨sl,e1⟩:=I.base.slot b o e n hb hx;obtain⟨sl',e2⟩:=slot b _ (neL b o e) hb (neC b o e hx) e1 (I.base.free b o e n hx);exact⟨sl',e2⟩
 ·obtain⟨o',e1⟩:=I.base.there b o e hx;exact free b o' (neC b o e hx) e1 (I.base.free b o e n hx)
 ·obtain⟨o',e1⟩:=I.base.there b o e hx;exact there b o' (neC b o e hx) e1
 ·obtain⟨m1,e1⟩:=I.base.tbls b ps e;obtain⟨m2,e2⟩:=tbls b _ e1;exact⟨m1++m2,by rw[e2,Array.append_assoc]⟩
 ·obtain⟨m,hn,hl⟩:=I.loc;refine⟨m,ns m hn,λi x v e1 e2 e3=>?_⟩;obtain⟨u,r,l⟩:=hl i x v e1 e2 e3;refine⟨u,r,?_⟩;rcases l with l|⟨k,c,e,z⟩
  ·exact .inl l
  ·exact .inr ⟨k,c,e,cellK x c e _ z⟩
 ·obtain⟨v,z⟩:=I.cell x c e;exact⟨v,cellK x c e v z⟩
 ·obtain⟨m,⟨o,_,_,ho,_⟩,_⟩:=I.loc;exact free _ o (λz=>(hch _ z).2.1 rfl) ho I.free
 ·obtain⟨v,o,ho,hd⟩:=I.cell x c e;exact free c o (λz=>(hch c z).2.2.1 x c e rfl) ho (I.Iz x c e)
 ·obtain⟨e,n,ne,nf,d⟩:=I.pin p hp;have nch:p.1∉ch:=λz=>(hch p.1 z).2.2.2 p hp rfl
  exact⟨keep p.1 p.2 ne nf nch e n,free p.1 p.2 nch e n,ne,nf,d⟩
theorem Inv.un(I:Inv X vQ σ H s)(u:Un X.fs [] H H' s.heap h')(hok:HOk X.prog X.w H' h'):Inv X vQ σ H' {s with heap:=h',toks:=t'}:=by
 obtain⟨m,⟨o,es,ep,ho,r⟩,_⟩:=id I.loc;obtain⟨sl,hL⟩:=u.any ho I.free (by simp)
 exact I.step (g':=s.gens) (d':=s.drawn) (ch:=[]) (λ_ z=>nomatch z) (λb o _ hb _ e n=>u.keep b o e n hb (by simp)) (λb o _ hb _ e n=>u.slot b o e n hb (by simp)) (λb o _ e n=>u.free b o e n (by simp)) (λb o _ e=>u.there b o e (by simp)) u.tups u.frzs u.tbls (λm' hm=>by obtain⟨o',es',ep',ho',r'⟩:=hm;rw[ho]at ho';cases ho';exact⟨_,es',ep',hL,r'⟩) hok I.bare
theorem Inv.call{g':Array GenState}{d':Drawn}(I:Inv X vQ σ H s)(u:Un (frs X.stack) ch H H' s.heap h')(hok:HOk X.prog X.w H' h')(hg:AllBare g')
  (hch:∀b∈ch,(b∈X.ex∨X.s₀.heap.objs.size<=b)/\b≠X.env.locals/\(∀x c,X.env.cells.lookup x=vZ c->c≠b)/\∀p∈X.pn++vQ,p.1≠b):
  Inv X vQ σ H' {s with heap:=h',gens:=g',drawn:=d',toks:=t'}:=by
 obtain⟨m,⟨o,es,ep,ho,r⟩,_⟩:=id I.loc;obtain⟨sl,hL⟩:=u.any ho I.free λz=>(hch _ z).2.1 rfl
 exact I.step (ch:=ch) hch (λb o hL hb hc e n=>u.keep b o e n (λz=>(zq.mp (I.Vf b z)).elim hL hb) hc) (λb o _ _ hc e n=>u.any e n hc) (λb o hc e n=>u.free b o e n hc) (λb o hc e=>u.there b o e hc) u.tups u.frzs u.tbls (λm' hm=>by obtain⟨o',es',ep',ho',r'⟩:=hm;rw[ho]at ho';cases ho';exact⟨_,es',ep',hL,r'⟩) hok hg
theorem Inv.turned{it:jD}(I:Inv X vQ σ H s)(k:∀b o,b≠it->s.heap.get? b=vZ o->h'.get? b=vZ o)(hn:H it=vJ)(hL:it≠X.env.locals)
  (h1:it∈X.ex∨X.s₀.heap.objs.size<=it) (h2:∀x c,X.env.cells.lookup x=vZ c->c≠it) (h3:∀p∈X.pn++vQ,p.1≠it):Inv X vQ σ H {s with heap:=h',toks:=t'}:=by
 have nit:∀b u,H b=vZ u->b≠it:=λb u e z=>by rw[z,hn]at e;cases e
 refine I.step (g':=s.gens) (d':=s.drawn) (ch:=[it]) (λb hb=>?_) (λb o _ _ hc e _=>k b o (λz=>hc (by simp[z])) e) (λb o _ _ hc e _=>⟨o.slots,k b o (λz=>hc (by simp[z])) e⟩) (λ_ _ _ _ n=>n)
  (λb o hc e=>⟨o,k b o (λz=>hc (by simp[z])) e⟩) (λ_ _ e=>e) (λ_ _ _ e=>e) (λb ps e=>⟨#[],by rw[e];simp⟩) (λm hm=>?_) (λb u e=>?_) I.bare
 ·have e:b=it:=by simpa using hb
  subst e;exact⟨h1,hL,h2,h3⟩
 ·obtain⟨o,es,ep,ho,r⟩:=hm;exact⟨o,es,ep,k _ o (Ne.symm hL) ho,r⟩
 ·refine(I.hok b u e).stay (λc v hc q=>k c v ?_ q) (λ_ q=>q) λ_ _ q=>q
  rcases hc with z|z
  ·rw[z];exact nit b u e
  ·exact nit c _ z
theorem Inv.tok(I:Inv X vQ σ H s)(t:Nat):Inv X vQ σ H {s with toks:=t}:=I.un (h':=s.heap) (t':=t) Un.refl I.hok
theorem Inv.kept(I:Inv X vQ σ H s)(k:∀b u,s.heap.get? b=vZ u->h'.get? b=vZ u):Inv X vQ σ H {s with heap:=h',toks:=t'}:=I.un (Un.kept k) (I.hok.kept k)
theorem Inv.laid(I:Inv X vQ σ H s)(k:∀b u,s.heap.get? b=vZ u->h'.get? b=vZ u)(hp:s.heap.objs.size<=a)(new:ObjOk X.prog X.w (upd H a o) h' a o):
  Inv X vQ σ (upd H a o) {s with heap:=h',toks:=t'}:=I.un (Un.laid k hp (I.hok.fresh hp)) (I.hok.laid k hp new)
theorem Inv.write{x e:jD}(I:Inv X vQ σ H s)(mu:Mut (H x))(he:e=x∨H e=vZ (.own x))(k:∀b u,b≠e->s.heap.get? b=vZ u->h'.get? b=vZ u)(heo:∃u,h'.get? e=vZ u)
  (new:ObjOk X.prog X.w (upd H x o) h' x o):Inv X vQ σ (upd H x o) {s with heap:=h',toks:=t'}:=I.un (Un.write mu he k heo) (I.hok.write mu he k heo new)
theorem Inv.Mm{pins':List (jD×Obj)}(I:Inv X vQ σ H s)(h:∀p∈pins',s.heap.get? p.1=vZ p.2/\H p.1=vJ/\p.1≠X.env.locals/\p.1∉X.fs/\∀v,p.2.data≠ .cell v):Inv X pins' σ H s:=
 ⟨I.ok,I.os,I.bare,I.base,I.loc,I.cell,I.free,I.Iz,λp hp=>(zM.mp hp).elim (λz=>I.pin p (j8 _ z)) (h p),I.hok,I.len⟩
theorem ZCx{N:List Str}(hN:N.Nodup){j:Nat}(a:N[i]?=vZ x)(b:N[j]?=vZ x):i=j:=by obtain⟨h1,e1⟩:=zX.mp a;obtain⟨h2,e2⟩:=zX.mp b;exact(List.getElem_inj hN).mp (e1.trans e2.symm)
theorem ZFx{M:Model}{A:jE}{E:jO->jM->Prop}(I:Inv X vQ σ H s)(hN:X.N.Nodup)(hi:X.N[i]?=vZ x)(hx:Loc X.env.scope x)(r:RelV v u)
  (h:∀s',Inv X vQ (σ.set i (vZ v)) H s'->(∃a,Heap.SameBut a s.heap s'.heap/\(a=X.env.locals∨X.env.cells.lookup x=vZ a))->Q () s') (hf:X.fn x=vX∨X.env.scope.names.lookup x=vZ .local:=by first|exact .inl rfl|exact .inr rfl|assumption):xG M A (storeName X.env x u) Q E s:=by
 obtain⟨m,hn,hl⟩:=id I.loc;have hcls:(X.env.scope.kind == .class||(X.env.scope.kind == .module&&X.env.locals != X.env.globals))=vV:=by rw[I.ok.kind];rfl
 have hiσ:i<σ.length:=by rw[I.len];exact(zX.mp hi).1
 have cne:=I.cne;have tracked:∀{a:jD}{h':Heap},(∃o,s.heap.get? a=vZ o/\H a=vJ)->Heap.SameBut a s.heap h'->HOk X.prog X.w H h':=λ{a h'}ha hs b ob e=>by
  obtain⟨_,_,hfree⟩:=ha;refine(I.hok b ob e).stay (λc w' hc q=>(hs.2 c ?_).trans q) (λ_ q=>q) λ_ _ q=>q
  rintro rfl;rcases hc with rfl|hc
  ·rw[hfree]at e;cases e
  ·rw[hfree]at hc;cases hc
 rcases hx with hk|hk
 ·refine wpAny_storeName_local hk hn (λh' hn' hs=>?_) hcls;obtain⟨oL,_,_,hoL,_⟩:=id hn;refine h _ ⟨I.ok,I.os,I.bare,⟨λb o e n hb hx=>?_,λb o e n hb hx=>?_,I.base.free,λb o e hx=>?_,I.base.tups,I.base.frzs,I.base.tbls⟩,⟨_,hn',λj y v' e1 e2 e3=>?_⟩,λy c e=>?_,I.free,I.Iz,λp hp=>?_,tracked ⟨oL,hoL,I.free⟩ hs,by simpa using I.len⟩ ⟨_,hs,.inl rfl⟩
  ·exact(hs.2 b (zL (zW (zj e) I.ok.above))).trans (I.base.keep b o e n hb hx)
  ·obtain⟨sl,e1⟩:=I.base.slot b o e n hb hx;exact⟨sl,(hs.2 b (zL (zW (zj e) I.ok.above))).trans e1⟩
  ·obtain⟨o',e1⟩:=I.base.there b o e hx;exact⟨o',(hs.2 b (zL (zW (zj e) I.ok.above))).trans e1⟩
  ·by_cases hj:j=i
   ·subst hj;rw[hi]at e1;cases e1;rw[qI hiσ]at e2;cases e2;exact⟨u,r,.inl ⟨hk,by simp⟩⟩
   ·rw[qk (Ne.symm hj)]at e2;obtain⟨u',r',q⟩:=hl j y v' e1 e2 e3;refine⟨u',r',?_⟩;rcases q with⟨k,e⟩|⟨k,c,e,z⟩
    ·refine .inl ⟨k,?_⟩;have:y≠x:=λe=>hj (ZCx hN e1 (e▸hi))
     simp[this,e]
    ·exact .inr ⟨k,c,e,z.sameBut hs (cne y c e)⟩
  ·obtain⟨w',z⟩:=I.cell y c e;exact⟨w',z.sameBut hs (cne y c e)⟩
  ·obtain⟨e,n,ne,nf,d⟩:=I.pin p hp;exact⟨(hs.2 p.1 ne).trans e,n,ne,nf,d⟩
 ·have hfn:X.fn x=vX:=by
   rcases hf with z|z
   ·exact z
   ·rw[z]at hk;cases hk
  obtain⟨c,hc⟩:=I.ok.has x (.inl hk);obtain⟨w',z⟩:=I.cell x c hc;refine wpAny_storeName_cell I.ok.kind hk hc z (λh' hc' hs=>?_);obtain⟨oc,hoc,hocd⟩:=id z;refine h {s with heap:=h'} ⟨I.ok,I.os,I.bare,⟨λb o e n hb hx=>?_,λb o e n hb hx=>?_,I.base.free,λb o e hx=>?_,I.base.tups,I.base.frzs,I.base.tbls⟩,⟨m,hn.sameBut hs (Ne.symm (cne x c hc)),λj y v' e1 e2 e3=>?_⟩,λy c' e=>?_,I.free,I.Iz,λp hp=>?_,tracked ⟨oc,hoc,I.Iz x c hc⟩ hs,by simpa using I.len⟩ ⟨c,hs,.inr hc⟩
  ·exact(hs.2 b (zL (zW (zj e) (I.ok.cab x c hfn hc)))).trans (I.base.keep b o e n hb hx)
  ·obtain⟨sl,e1⟩:=I.base.slot b o e n hb hx;exact⟨sl,(hs.2 b (zL (zW (zj e) (I.ok.cab x c hfn hc)))).trans e1⟩
  ·obtain⟨o',e1⟩:=I.base.there b o e hx;exact⟨o',(hs.2 b (zL (zW (zj e) (I.ok.cab x c hfn hc)))).trans e1⟩
  ·by_cases hj:j=i
   ·subst hj;rw[hi]at e1;cases e1;rw[qI hiσ]at e2;cases e2;exact⟨u,r,.inr ⟨.inl hk,c,hc,hc'⟩⟩
   ·rw[qk (Ne.symm hj)]at e2;obtain⟨u',r',q⟩:=hl j y v' e1 e2 e3;refine⟨u',r',?_⟩;rcases q with q|⟨k,c',e,z'⟩
    ·exact .inl q
    ·refine .inr ⟨k,c',e,z'.sameBut hs ?_⟩;rintro rfl;exact hj (ZCx hN e1 (I.ok.inj _ _ _ e hc▸hi))
  ·by_cases hcc:c'=c
   ·subst hcc;exact⟨_,hc'⟩
   ·obtain⟨w2,z2⟩:=I.cell y c' e;exact⟨w2,z2.sameBut hs hcc⟩
  ·obtain⟨e,n,ne,nf,d⟩:=I.pin p hp;refine⟨(hs.2 p.1 ?_).trans e,n,ne,nf,d⟩;intro q;rw[q,hoc]at e;have q':oc=p.2:=Option.some.inj e;exact d w' (by rw[<-q'];exact hocd)
theorem ZD1{M:Model}{A:jE}{E:jO->jM->Prop}(I:Inv X vQ σ H s)(hN:X.N.Nodup)(hi:X.N[i]?=vZ x)(hx:Loc X.env.scope x)(r:RelV v u)
  (h:∀s',Inv X vQ (σ.set i (vZ v)) H s'->Q () s') (hf:X.fn x=vX∨X.env.scope.names.lookup x=vZ .local:=by first|exact .inl rfl|exact .inr rfl|assumption):xG M A (storeName X.env x u) Q E s:=
 ZFx I hN hi hx r (λs' I' _=>h s' I') hf
theorem Inv.call'{s':jM}(I:Inv X vQ σ H s)(ho:s'.os=s.os)(u:Un (frs X.stack) ch H H' s.heap s'.heap)(hok:HOk X.prog X.w H' s'.heap)(hg:AllBare s'.gens)
  (hch:∀b∈ch,(b∈X.ex∨X.s₀.heap.objs.size<=b)/\b≠X.env.locals/\(∀x c,X.env.cells.lookup x=vZ c->c≠b)/\∀p∈X.pn++vQ,p.1≠b):Inv X vQ σ H' s':=by
 obtain⟨h',g',d',t',o'⟩:=s';have e:o'=s.os:=ho;subst e;exact I.call (g':=g') (t':=t') (d':=d') u hok hg hch
end
noncomputable abbrev XK:=jO->Option jD->Hp->Prop
noncomputable abbrev St:=List (Option V)
variable{σ:St}
noncomputable abbrev VK:=V->Hp->Prop
noncomputable abbrev TE:=St->Hp->VK->Prop
noncomputable abbrev TT:=St->Hp->(Bool->Hp->Prop)->Prop
noncomputable abbrev TA:=St->Hp->(List V->Hp->Prop)->Prop
structure Ends where
 nx:St->Hp->Prop
 rt:VK
 bk:St->Hp->Prop:=λ_ _=>False
 ct:St->Hp->Prop:=λ_ _=>False
noncomputable abbrev TS:=Ends->St->Hp->Prop
def EP(X:Cx)(vQ:List (jD×Obj))(σ:St)(Q:VK)(u:jO)(s':jM):Prop:=∃v H',Inv X vQ σ H' s'/\RelV v u/\Q v H'
def TP(X:Cx)(vQ:List (jD×Obj))(σ:St)(Q:Bool->Hp->Prop)(b:Bool)(s':jM):Prop:=∃H',Inv X vQ σ H' s'/\Q b H'
def AP(X:Cx)(vQ:List (jD×Obj))(σ:St)(Q:List V->Hp->Prop)(us:List jO)(s':jM):Prop:=∃vs H',Inv X vQ σ H' s'/\Vals vs us/\Q vs H'
def SP(X:Cx)(vQ:List (jD×Obj))(D:Ends)(f:Flow)(s':jM):Prop:=
 match f with
 |.next=>∃σ' H',Inv X vQ σ' H' s'/\D.nx σ' H'
 |.brk=>∃σ' H',Inv X vQ σ' H' s'/\D.bk σ' H'
 |.cont=>∃σ' H',Inv X vQ σ' H' s'/\D.ct σ' H'
 |.ret u=>∃v σ' H',Inv X vQ σ' H' s'/\RelV v u/\D.rt v H'
def PE(X:Cx)(e:jF)(t:TE):Prop:=
 ∀(vQ:List (jD×Obj))(s:jM)(σ:St)(H:Hp)(Q:VK),Inv X vQ σ H s->t σ H Q->xG (xA X.prog X.w) X.A (eval e X.env) (EP X vQ σ Q) X.xe s
def PT(X:Cx)(e:jF)(t:TT):Prop:=
 ∀(vQ:List (jD×Obj))(s:jM)(σ:St)(H:Hp)(Q:Bool->Hp->Prop),Inv X vQ σ H s->t σ H Q->xG (xA X.prog X.w) X.A (isTrue e X.env (eval e X.env)) (TP X vQ σ Q) X.xe s
def PW(X:Cx)(e:jF)(t:TT):Prop:=
 ∀(whole:Sem jO)(vQ:List (jD×Obj))(s:jM)(σ:St)(H:Hp)(Q:Bool->Hp->Prop),Inv X vQ σ H s->t σ H Q->xG (xA X.prog X.w) X.A (isTrue e X.env whole) (TP X vQ σ Q) X.xe s
theorem PW.pt{t:TT}(h:PW X e t):PT X e t:=h _
def PA(X:Cx)(es:List jF)(t:TA):Prop:=
 ∀(pos:Pos)(vQ:List (jD×Obj))(s:jM)(σ:St)(H:Hp)(Q:List V->Hp->Prop),Inv X vQ σ H s->t σ H Q->xG (xA X.prog X.w) X.A (spliced (jT pos (xE es X.env))) (AP X vQ σ Q) X.xe s
def PS(X:Cx)(st:jN)(t:TS):Prop:=
 ∀(vQ:List (jD×Obj))(s:jM)(σ:St)(H:Hp)(D:Ends),Inv X vQ σ H s->t D σ H->xG (xA X.prog X.w) X.A (exec st X.env) (SP X vQ D) X.xe s
def PSs(X:Cx)(st:List jN)(t:TS):Prop:=
 ∀(vQ:List (jD×Obj))(s:jM)(σ:St)(H:Hp)(D:Ends),Inv X vQ σ H s->t D σ H->xG (xA X.prog X.w) X.A (execs st X.env) (SP X vQ D) X.xe s
theorem thn{α:Type}{t:Sem α}{Q Q':α->jM->Prop}{M:Model}{A:jE}(h:xG M A t Q E s)(hQ:∀a s,Q a s->Q' a s):xG M A t Q' E s:=xN h hQ λ_ _ x=>x
section
variable{X:Cx}
noncomputable def Oe(i:Nat):TE:=λσ H Q=>∃v,σ[i]?=vZ (vZ v)/\Q v H
noncomputable def tC(v:V):TE:=λ_ H Q=>Q v H
theorem U9{pos:Pos}(hN:X.N[i]?=vZ x)(hv:Vis X.env.scope x)(hd:(x==("__debug__":Str))=vV:=by decide)(hcd:(x==("__classdict__":Str))=vV:=by decide):PE X (.Name x pos) (Oe i):=by
 intro vQ s σ H Q I h;obtain⟨v,e,h⟩:=h;obtain⟨m,hn,hl⟩:=I.loc;obtain⟨u,r,l⟩:=hl i x v hN e hv;have fin:EP X vQ σ Q u s:=⟨v,H,I,r,h⟩;rcases l with⟨hk,hm⟩|⟨hk,c,hc,hcell⟩
 ·exact wpAny_Name (wpAny_loadName_local I.ok.kind hk hn hm fin) hd
 ·rcases hk with hk|hk
  ·exact wpAny_Name (wpAny_loadName_cell I.ok.kind hk hc hcell fin) hd
  ·exact wpAny_Name (wpAny_loadName_free I.ok.kind hk hc hcell fin hcd) hd
theorem ZQv{i j pos}:PE X (.Constant (.int i) j pos) (tC (.int i)):=λ_ _ _ H _ I h=>wpAny_Constant_int ⟨.int i,H,I.tok _,⟨_,rfl⟩,h⟩
theorem ZPG{b j pos}:PE X (.Constant (.bool b) j pos) (tC (.bl b)):=λ_ _ _ H _ I h=>Constant_bool ⟨.bl b,H,I,rfl,h⟩
theorem ZKk{j pos}:PE X (.Constant .none j pos) (tC .non):=λ_ _ _ H _ I h=>Constant_none ⟨.non,H,I,rfl,h⟩
theorem W2{x j pos}:PE X (.Constant (.str x) j pos) (tC (.str x)):=λ_ _ _ H _ I h=>Calls.Constant_str ⟨.str x,H,I.tok _,⟨_,rfl⟩,h⟩
def Gl(X:Cx)(x:Str):Prop:=X.env.kindOf x=vZ .globalImplicit
theorem Nk{E:jO->jM->Prop}{pos:Pos}{Q:jO->jM->Prop}(I:Inv X vQ σ H s)(hg:Gl X x)(hm:X.mg x=vZ u)(h:Q u s)
  (hd:(x==("__debug__":Str))=vV:=by decide):xG (xA X.prog X.w) X.A (eval (.Name x pos) X.env) Q E s:=
 Calls.Name_function_global I.ok.kind hg (Calls.loadGlobal_global (by rw[I.ok.glob];exact I.mod.glob.keeps I.bk) hm h) hd
theorem R9{E:jO->jM->Prop}{pos:Pos}{Q:jO->jM->Prop}(I:Inv X vQ σ H s)(hg:Gl X x)(hm:X.mg x=vJ)(hv:xZ x=vZ u)(h:Q u s)
  (hn:x≠"__name__":=by decide) (hd:(x==("__debug__":Str))=vV:=by decide):xG (xA X.prog X.w) X.A (eval (.Name x pos) X.env) Q E s:=by
 obtain⟨mb,h1,h2⟩:=I.mod.blt;exact Calls.Name_function_global I.ok.kind hg (Calls.loadGlobal_builtin (by rw[I.ok.glob];exact I.mod.glob.keeps I.bk) hm (by rw[I.ok.blt];exact h1.keeps I.bk) ((h2 x hn).trans hv) h) hd
theorem ZGR{pos:Pos}(hg:Gl X x)(hm:X.mg x=vZ u)(r:RelV v u)(hd:(x==("__debug__":Str))=vV:=by decide):PE X (.Name x pos) (tC v):=
 λ_ _ _ H _ I h=>Nk I hg hm ⟨v,H,I,r,h⟩ hd
theorem ZJh{pos:Pos}(hg:Gl X x)(hm:X.mg x=vJ)(hv:xZ x=vZ u)(r:RelV v u)(hn:x≠"__name__":=by decide)(hd:(x==("__debug__":Str))=vV:=by decide):PE X (.Name x pos) (tC v):=
 λ_ _ _ H _ I h=>R9 I hg hm hv ⟨v,H,I,r,h⟩ hn hd
variable{a b:jF}{ta tb:TE}{pos:Pos}
noncomputable def tB(t:TE):TT:=λσ H Q=>t σ H λx H1=>∃c,x=.bl c/\Q c H1
theorem ZQM{t:TE}(h:PE X e t)(he:∀whole,isTrue e X.env whole=(do let v<-whole;standAt e.pos;holding [v] (truthy v)):=by intro _;rfl):PT X e (tB t):=by intro vQ s σ H Q I hw;refine isTrue_plain (thn (h vQ s σ H _ I hw) λv s1 ⟨x,H1,I1,r1,q1⟩=>?_) (he _);obtain⟨d,rfl,q⟩:=q1;cases r1;exact xS ⟨H1,I1,q⟩
variable{tA tB':TT}{rest:List jF}
noncomputable def tAnd(t u:TT):TT:=λσ H Q=>t σ H λc H1=>if c=vX then u σ H1 Q else Q vV H1
noncomputable def tOr(t u:TT):TT:=λσ H Q=>t σ H λc H1=>if c=vX then Q vX H1 else u σ H1 Q
noncomputable def tNot(t:TT):TT:=λσ H Q=>t σ H λc H1=>Q (!c) H1
theorem pw_and1(ha:PT X a tA):PW X (.BoolOp .And [a] pos) tA:=by
 intro wh vQ s σ H Q I h;refine isTrue_and (thn (ha vQ s σ H Q I h) λc s1 e=>?_);cases c with
 |true=>exact isTrue_and_nil e
 |false=>exact e
theorem pw_or1(ha:PT X a tA):PW X (.BoolOp .Or [a] pos) tA:=by
 intro wh vQ s σ H Q I h;refine isTrue_or (thn (ha vQ s σ H Q I h) λc s1 e=>?_);cases c with
 |false=>exact isTrue_or_nil e
 |true=>exact e
theorem pw_and(ha:PT X a tA)(hb:PW X (.BoolOp .And (b::rest) pos) tB'):PW X (.BoolOp .And (a::b::rest) pos) (tAnd tA tB'):=by
 intro wh vQ s σ H Q I h;refine isTrue_and (thn (ha vQ s σ H _ I h) λc s1 ⟨H1,I1,q1⟩=>?_);cases c with
 |true=>exact hb wh vQ s1 σ H1 Q I1 q1
 |false=>exact⟨H1,I1,q1⟩
theorem pw_or(ha:PT X a tA)(hb:PW X (.BoolOp .Or (b::rest) pos) tB'):PW X (.BoolOp .Or (a::b::rest) pos) (tOr tA tB'):=by
 intro wh vQ s σ H Q I h;refine isTrue_or (thn (ha vQ s σ H _ I h) λc s1 ⟨H1,I1,q1⟩=>?_);cases c with
 |true=>exact⟨H1,I1,q1⟩
 |false=>exact hb wh vQ s1 σ H1 Q I1 q1
theorem ZNx(ha:PT X a tA):PT X (.UnaryOp .Not a pos) (tNot tA):=by intro vQ s σ H Q I h;exact isTrue_not (ha vQ s σ H (λc H1=>Q (!c) H1) I h)
noncomputable def ZOy(ta tb:TE):TE:=λσ H Q=>ta σ H λx H1=>∃c,x=.bl c/\if c=vX then tb σ H1 Q else Q (.bl vV) H1
noncomputable def tOrV(ta tb:TE):TE:=λσ H Q=>ta σ H λx H1=>∃c,x=.bl c/\if c=vX then Q (.bl vX) H1 else tb σ H1 Q
noncomputable def ZOS(ta:TE):TE:=λσ H Q=>ta σ H λx H1=>∃c,x=.bl c/\Q (.bl (!c)) H1
theorem ZP4{op}{t:TE}(h:PE X a t):PE X (.BoolOp op [a] pos) t:=λvQ s σ H Q I hw=>BoolOp_one (h vQ s σ H Q I hw)
theorem ZLP(ha:PE X a ta)(hb:PE X (.BoolOp .And (b::rest) pos) tb):PE X (.BoolOp .And (a::b::rest) pos) (ZOy ta tb):=by
 intro vQ s σ H Q I h;refine BoolOp_and (thn (ha vQ s σ H _ I h) λv s1 ⟨x,H1,I1,r1,q1⟩=>?_);obtain⟨c,rfl,q1⟩:=q1;cases r1;refine xS ?_;cases c with
 |true=>exact hb vQ s1 σ H1 Q I1 q1
 |false=>exact⟨.bl vV,H1,I1,rfl,q1⟩
theorem ZQu(ha:PE X a ta)(hb:PE X (.BoolOp .Or (b::rest) pos) tb):PE X (.BoolOp .Or (a::b::rest) pos) (tOrV ta tb):=by
 intro vQ s σ H Q I h;refine BoolOp_or (thn (ha vQ s σ H _ I h) λv s1 ⟨x,H1,I1,r1,q1⟩=>?_);obtain⟨c,rfl,q1⟩:=q1;cases r1;refine xS ?_;cases c with
 |false=>exact hb vQ s1 σ H1 Q I1 q1
 |true=>exact⟨.bl vX,H1,I1,rfl,q1⟩
theorem ZPO(ha:PE X a ta):PE X (.UnaryOp .Not a pos) (ZOS ta):=by intro vQ s σ H Q I h;refine UnaryOp_ (thn (ha vQ s σ H _ I h) λv s1 ⟨x,H1,I1,r1,q1⟩=>?_);obtain⟨c,rfl,q1⟩:=q1;cases r1;exact not_of (xS ⟨.bl (!c),H1,I1,rfl,q1⟩)
end
def SqL(K:PySem.W.Frag)(H:Hp)(a:jD)(xs:List V):Prop:=
 Rd H a (.lst xs)∨
  ∃(o:Obj)(its:Array jO)(n:Nat),K.lookup a=vZ o/\o.cls=.type "list"/\o.dict=vJ/\o.data=.seq its n/\its.size<=sizeLine/\Vals xs its.toList
def SqT(K:PySem.W.Frag)(H:Hp)(a:jD)(xs:List V):Prop:=
 Rd H a (.tup xs)∨
  ∃(o:Obj)(its:Array jO)(n:Nat),K.lookup a=vZ o/\o.cls=.type "tuple"/\o.data=.seq its n/\its.size<=sizeLine/\Vals xs its.toList
noncomputable def absV:jO->Option V
 |.none=>vZ .non
 |.bool b=>vZ (.bl b)
 |.int i _=>vZ (.int i)
 |.str x _=>vZ (.str x)
 |.bytes b _=>vZ (.byt b)
 |.float b _=>vZ (.flt b)
 |.ref a=>vZ (.ref a)
 |.type n=>vZ (.ty n)
 |_=>vJ
theorem RelV.abs{x:V}(r:RelV x u):absV u=vZ x:=by
 cases x with
 |non=>cases r;rfl
 |bl _=>cases r;rfl
 |int _=>obtain⟨t,rfl⟩:=r;rfl
 |str _=>obtain⟨t,rfl⟩:=r;rfl
 |byt _=>obtain⟨t,rfl⟩:=r;rfl
 |flt _=>obtain⟨t,rfl⟩:=r;rfl
 |ref _=>cases r;rfl
 |ty _=>cases r;rfl
theorem RelV.inj{x y:V}(r:RelV x u)(q:RelV y u):x=y:=Option.some.inj (r.abs.symm.trans q.abs)
theorem Vals.inj:∀{xs ys:List V}{us:List jO},Vals xs us->Vals ys us->xs=ys
 |_,_,_,.nil,.nil=>rfl
 |_,_,_,.cons r t,.cons r' t'=>by rw[r.inj r',Vals.inj t t']
section
variable{X:Cx}{vQ:List (jD×Obj)}{σ:St}{H:Hp}{s:jM}{a:jD}{xs ys:List V}
theorem SqL.of(h:H a=vZ (.lst xs)):SqL K H a xs:=.inl (.inl h)
theorem SqT.of(h:H a=vZ (.tup xs)):SqT K H a xs:=.inl (.inl h)
theorem Inv.list(I:Inv X vQ σ H s)(h:SqL X.K H a xs):∃its:List jO,Vals xs its/\PlainL s.heap a its.toArray/\xs.length<=sizeLine:=by
 rcases h with h|⟨o,its,n,hk,hc,hd,hs,hz,r⟩
 ·obtain⟨z,its,n,r,e⟩:=h.ok I.hok;exact⟨its,r,⟨_,n,e,rfl,rfl,rfl⟩,z⟩
 ·refine⟨its.toList,r,⟨o,n,I.kIn a o hk,hc,hd,by simpa using hs⟩,?_⟩;have e:=r.length;simp only[jY]at e;lia
theorem Inv.tuple(I:Inv X vQ σ H s)(h:SqT X.K H a xs):∃its:List jO,Vals xs its/\IsTup s.heap a its.toArray/\xs.length<=sizeLine:=by
 rcases h with h|⟨o,its,n,hk,hc,hs,hz,r⟩
 ·obtain⟨z,its,r,p⟩:=h.ok I.hok;exact⟨its,r,p,z⟩
 ·refine⟨its.toList,r,⟨o,I.kIn a o hk,hc,n,by simpa using hs⟩,?_⟩;have e:=r.length;simp only[jY]at e;lia
theorem Inv.ZFZ(I:Inv X vQ σ H s)(h:SqL X.K H a xs)(h':SqL X.K H a ys):xs=ys:=by
 obtain⟨its,r,⟨o,n,e,_,_,d⟩,_⟩:=I.list h;obtain⟨its',r',⟨o',n',e',_,_,d'⟩,_⟩:=I.list h';rw[e]at e';cases e';rw[d]at d';injection d' with d1 _
 have:its=its':=by simpa using congrArg Array.toList d1
 subst this;exact r.inj r'
theorem Inv.ZFR(I:Inv X vQ σ H s)(h:SqT X.K H a xs)(h':SqT X.K H a ys):xs=ys:=by
 obtain⟨its,r,⟨o,e,_,n,d⟩,_⟩:=I.tuple h;obtain⟨its',r',⟨o',e',_,n',d'⟩,_⟩:=I.tuple h';rw[e]at e';cases e';rw[d]at d';injection d' with d1 _
 have:its=its':=by simpa using congrArg Array.toList d1
 subst this;exact r.inj r'
end
noncomputable abbrev Cx.wish(X:Cx)(E:jO->jM->Prop):Cx:={X with xe:=E}
noncomputable abbrev Cx.nox(X:Cx):Cx:=X.wish λ_ _=>False
theorem Cx.Ok.wish(ok:X.Ok)(E:jO->jM->Prop):(X.wish E).Ok:=
 ⟨ok.mod,ok.kind,ok.glob,ok.blt,ok.above,ok.inj,ok.has,ok.cab,ok.hd,ok.frames,ok.stk,ok.exf,ok.bs,ok.bsz,ok.noex,ok.exfs,ok.funs,ok.frf⟩
theorem Cx.Ok.unwish(ok:(X.wish E).Ok):X.Ok:=
 ⟨ok.mod,ok.kind,ok.glob,ok.blt,ok.above,ok.inj,ok.has,ok.cab,ok.hd,ok.frames,ok.stk,ok.exf,ok.bs,ok.bsz,ok.noex,ok.exfs,ok.funs,ok.frf⟩
section
variable{X:Cx}{vQ:List (jD×Obj)}{σ:St}{H:Hp}{s:jM}{E:jO->jM->Prop}
theorem Inv.wish(I:Inv X vQ σ H s)(E:jO->jM->Prop):Inv (X.wish E) vQ σ H s:=⟨I.ok.wish E,I.os,I.bare,I.base,I.loc,I.cell,I.free,I.Iz,I.pin,I.hok,I.len⟩
theorem Inv.unwish(I:Inv (X.wish E) vQ σ H s):Inv X vQ σ H s:=⟨I.ok.unwish,I.os,I.bare,I.base,I.loc,I.cell,I.free,I.Iz,I.pin,I.hok,I.len⟩
theorem SP.unwish{D:Ends}{f:Flow}{s':jM}(h:SP (X.wish E) vQ D f s'):SP X vQ D f s':=by
 cases f with
 |next=>obtain⟨σ',H',I,q⟩:=h;exact⟨σ',H',I.unwish,q⟩
 |brk=>obtain⟨σ',H',I,q⟩:=h;exact⟨σ',H',I.unwish,q⟩
 |cont=>obtain⟨σ',H',I,q⟩:=h;exact⟨σ',H',I.unwish,q⟩
 |ret u=>obtain⟨v,σ',H',I,r,q⟩:=h;exact⟨v,σ',H',I.unwish,r,q⟩
theorem PSs.nox{st:List jN}{t:TS}(h:PSs X.nox st t):PSs X st t:=λvQ s σ H D I hw=>
 xN (h vQ s σ H D (I.wish _) hw) (λ_ _ q=>q.unwish) λ_ _ z=>False.elim z
end
section
variable{X:Cx}{st:jN}{rest:List jN}{t u:TS}{e:jF}{te:TE}{pos:Pos}
noncomputable def ZMH:TS:=λD σ H=>D.nx σ H
noncomputable def tSeq(t u:TS):TS:=λD σ H=>t {D with nx:=u D} σ H
theorem ZL1:PSs X [] ZMH:=λ_ _ σ H _ I h=>wpAny_execs_nil ⟨σ,H,I,h⟩
theorem ZJV(h1:PS X st t)(h2:PSs X rest u):PSs X (st::rest) (tSeq t u):=by
 intro vQ s σ H D I h;refine wpAny_execs_cons (thn (h1 vQ s σ H {D with nx:=u D} I h) λf s1 q=>?_);cases f with
 |next=>
  obtain⟨σ',H',I',q⟩:=q;exact h2 vQ s1 σ' H' D I' q
 |ret v=>exact q
 |brk=>exact q
 |cont=>exact q
theorem ZF1(h1:PS X st t):PSs X [st] t:=by
 intro vQ s σ H D I h;refine wpAny_execs_cons (thn (h1 vQ s σ H D I h) λf s1 q=>?_);cases f with
 |next=>exact wpAny_execs_nil q
 |ret v=>exact q
 |brk=>exact q
 |cont=>exact q
theorem Inv.quiet(I:Inv X vQ σ H s):interactive X.env=vV:=by simp[interactive,I.ok.kind]
noncomputable def ZN2(te:TE):TS:=λD σ H=>te σ H λ_ H1=>D.nx σ H1
theorem ZJN(he:PE X e te)(hs:swapsWith e vJ pos.line X.env=pure vV:=by rfl):PS X (.Expr e pos) (ZN2 te):=by intro vQ s σ H D I h;exact wpAny_Expr_any (thn (he vQ s σ H _ I h) λv s1 ⟨x,H1,I1,r1,q1⟩=>⟨σ,H1,I1,q1⟩) I.quiet hs
noncomputable def tRet(te:TE):TS:=λD σ H=>te σ H D.rt
theorem ZLl(he:PE X e te):PS X (.Return (vZ e) pos) (tRet te):=by intro vQ s σ H D I h;exact wpAny_Return_some (thn (he vQ s σ H _ I h) λv s1 ⟨x,H1,I1,r1,q1⟩=>⟨x,σ,H1,I1,r1,q1⟩)
noncomputable def tIfS(c:TT)(t u:TS):TS:=λD σ H=>c σ H λb H1=>if b=vX then t D σ H1 else u D σ H1
theorem ZPW{c:jF}{a b:List jN}{tc:TT}(hc:PT X c tc)(ha:PSs X a t)(hb:PSs X b u):PS X (.If c a b pos) (tIfS tc t u):=by
 intro vQ s σ H D I h;refine wpAny_If (thn (hc vQ s σ H _ I h) λd s1 ⟨H1,I1,q1⟩=>?_);cases d with
 |true=>exact ha vQ s1 σ H1 D I1 q1
 |false=>exact hb vQ s1 σ H1 D I1 q1
end
noncomputable abbrev TG:=V->St->Hp->(St->Hp->Prop)->Prop
noncomputable abbrev TGs:=List V->St->Hp->(St->Hp->Prop)->Prop
def PG(X:Cx)(target:jF)(t:TG):Prop:=
 ∀(vQ:List (jD×Obj))(s:jM)(σ:St)(H:Hp)(v:V)(u:jO)(Q:St->Hp->Prop),Inv X vQ σ H s->RelV v u->t v σ H Q->
  xG (xA X.prog X.w) X.A (assign target X.env u) (λ_ s'=>∃σ' H',Inv X vQ σ' H' s'/\Q σ' H') X.xe s
def PGs(X:Cx)(ts:List jF)(t:TGs):Prop:=
 ∀(vQ:List (jD×Obj))(s:jM)(σ:St)(H:Hp)(vs:List V)(us:List jO)(Q:St->Hp->Prop),Inv X vQ σ H s->Vals vs us->t vs σ H Q->
  xG (xA X.prog X.w) X.A (assignInOrder ((jR ts X.env).map (·.2)) us) (λ_ s'=>∃σ' H',Inv X vQ σ' H' s'/\Q σ' H') X.xe s
noncomputable abbrev TSet:=V->V->V->Hp->(Hp->Prop)->Prop
def PSet(X:Cx)(t:TSet):Prop:=
 ∀(vQ:List (jD×Obj))(s:jM)(σ:St)(H:Hp)(o i v:V)(ov iv u:jO)(Q:Hp->Prop),Inv X vQ σ H s->RelV o ov->RelV i iv->RelV v u->t o i v H Q->
  xG (xA X.prog X.w) X.A (setItem ov iv u) (λ_ s'=>∃H',Inv X vQ σ H' s'/\Q H') X.xe s
section
variable{X:Cx}{pos:Pos}
noncomputable def ZF3(i:Nat):TG:=λv σ H Q=>Q (σ.set i (vZ v)) H
theorem ZJ7(hN:X.N.Nodup)(hi:X.N[i]?=vZ x)(hx:Loc X.env.scope x)(hf:X.fn x=vX∨X.env.scope.names.lookup x=vZ .local:=by first|exact .inl rfl|exact .inr rfl|assumption):PG X (.Name x pos) (ZF3 i):=by intro vQ s σ H v u Q I r h;exact wpAny_assign_Name (ZD1 I hN hi hx r (λs' I'=>⟨_,H,I',h⟩) hf)
noncomputable def gNil:TGs:=λvs σ H Q=>vs=[]/\Q σ H
noncomputable def ZQE(t:TG)(u:TGs):TGs:=λvs σ H Q=>∃v r,vs=v::r/\t v σ H λσ' H'=>u r σ' H' Q
theorem ZLp:PGs X [] gNil:=by intro vQ s σ H vs us Q I r h;obtain⟨e,h⟩:=h;subst e;cases r;exact assignInOrder_nil ⟨σ,H,I,h⟩
theorem ZO8{es:List jF}{t:TG}{u:TGs}(h1:PG X e t)(h2:PGs X es u)
  (hs:(jR (e::es) X.env).map (·.2)=assign e X.env::(jR es X.env).map (·.2):=by rfl):PGs X (e::es) (ZQE t u):=by
 intro vQ s σ H vs us Q I r h;obtain⟨v,vr,e1,h⟩:=h;subst e1;cases r with
 |cons r rr=>
  rw[hs];refine assignInOrder_cons (thn (h1 vQ s σ H _ _ _ I r h) λ_ s1 ⟨σ1,H1,I1,q1⟩=>?_);exact h2 vQ s1 σ1 H1 _ _ Q I1 rr q1
noncomputable def gTup(K:PySem.W.Frag)(n:Nat)(t:TGs):TG:=λv σ H Q=>∃a xs,v=.ref a/\SqT K H a xs/\xs.length=n/\t xs σ H Q
theorem ZQH{es:List jF}{k:Nat}{t:TGs}{n:Nat}(hc:X.calm=vX)(h:PGs X es t)
  (hn:(jR es X.env).length=n:=by rfl) (hst:(jR es X.env).findIdx? (·.1)=vJ:=by rfl):PG X (.Tuple es k pos) (gTup X.K n t):=by
 intro vQ s σ H v u Q I r hw;obtain⟨a,xs,e1,hq,hl,hw⟩:=hw;subst e1;cases r;obtain⟨its,rv,ht,hz⟩:=I.tuple hq;refine assign_Tuple_tuple (I.ok.hd hc) ht (by simp[hn,<-hl,rv.length]) hst λh' hx=>?_
 have I1:Inv X vQ σ H {s with heap:=h'}:=I.kept (t':=s.toks) λb o e=>hx b o (zL (zj e)) e
 exact h vQ _ σ H xs _ Q I1 (by simpa using rv) hw
noncomputable def gSub(to ti:TE)(t:TSet):TG:=λv σ H Q=>to σ H λo H1=>ti σ H1 λi H2=>t o i v H2 λH3=>Q σ H3
theorem ZQJ{o i:jF}{to ti:TE}{t:TSet}(ho:PE X o to)(hi:PE X i ti)(hs:PSet X t)
  (ha:∀v,assign (.Subscript o i pos) X.env v=(do
   let ov<-holding [v] (eval o X.env);let iv<-holding [v,ov] (eval i X.env)
   standAt pos
   holding [v,ov,iv] (setItem ov iv v)
   release [v,ov,iv] []):=by intro _;rfl):PG X (.Subscript o i pos) (gSub to ti t):=by
 intro vQ s σ H v u Q I r h;rw[ha];refine xI (xM (thn (ho vQ s σ H _ I h) λov s1 ⟨x,H1,I1,r1,q1⟩=>?_));refine xI (xM (thn (hi vQ s1 σ H1 _ I1 q1) λiv s2 ⟨y,H2,I2,r2,q2⟩=>?_));refine xI (wpAny_standAt (xI (xM (thn (hs vQ s2 σ H2 x y v ov iv u _ I2 r1 r2 r q2) λ_ s3 ⟨H3,I3,q3⟩=>?_))));exact wpAny_release ⟨σ,H3,I3,q3⟩
noncomputable def ZEb(te:TE)(g:TG):TS:=λD σ H=>te σ H λx H1=>g x σ H1 D.nx
theorem ZQn{te:TE}{g:TG}(he:PE X e te)(hg:PG X tg g)(hs:swapsWithSole [tg] e pos.line X.env=pure vV:=by rfl)(hw:swappedStores [tg] e X.env=pure vJ:=by rfl)
  (h1:(jR [tg] X.env).map (·.2)=[assign tg X.env]:=by rfl):PS X (.Assign [tg] e pos) (ZEb te g):=by
 intro vQ s σ H D I h;refine wpAny_Assign_stores (thn (he vQ s σ H _ I h) λv s1 ⟨x,H1,I1,r1,q1⟩=>?_) hs hw;rw[h1];exact thn (hg vQ s1 σ H1 x v _ I1 r1 q1) λ_ s2 q=>q
theorem ZMx{te:TE}{pos':Pos}(hN:X.N.Nodup)(hi:X.N[i]?=vZ x)(hx:Loc X.env.scope x)(he:PE X e te)(hs:swapsWith e (vZ (.Name x pos')) pos.line X.env=pure vV:=by rfl)(hf:X.fn x=vX∨X.env.scope.names.lookup x=vZ .local:=by first|exact .inl rfl|exact .inr rfl|assumption):
  PS X (.Assign [.Name x pos'] e pos) (ZEb te (ZF3 i)):=by
 intro vQ s σ H D I h;refine wpAny_Assign_Name (thn (he vQ s σ H _ I h) λv s1 ⟨y,H1,I1,r1,q1⟩=>?_) hs;exact ZD1 I1 hN hi hx r1 (λs2 I2=>⟨_,H1,I2,q1⟩) hf
end
section
variable{X:Cx}{pos:Pos}
end
structure It where
 go:Nat->Hp->Prop
 yld:Nat->Hp->V->Hp->Prop
 stop:Nat->Hp->Prop
def FpOk(X:Cx)(vQ:List (jD×Obj))(H:Hp)(b:jD):Prop:=
 H b=vJ/\b≠X.env.locals/\b∉X.fs/\(b∈X.ex∨X.s₀.heap.objs.size<=b)/\(∀x c,X.env.cells.lookup x=vZ c->c≠b)/\∀p∈X.pn++vQ,p.1≠b
theorem Inv.T3{H':Hp}(I:Inv X vQ σ H s)(hb:s.heap.objs.size<=b)(hn:H' b=vJ):FpOk X vQ H' b:=by
 refine⟨hn,Nat.ne_of_gt (zW I.lt hb),I.nofs hb,.inr (z9 I.sz hb),λx c e z=>?_,λp hp z=>?_⟩
 ·obtain⟨v,q⟩:=I.cell x c e;exact absurd (zW q.lt (by rw[z];exact hb)) (zN _)
 ·exact absurd (zW (zj (I.pin p hp).1) (by rw[z];exact hb)) (zN _)
structure Turn (P:jI) (w:jP) (K:PySem.W.Frag) (tg:jF) (J:It) (fp:List jD) (it:jD) (tn:Nat->Heap->Prop):Prop where
 mem:it∈fp
 obj:∀i h,tn i h->∀b∈fp,∃o,h.get? b=vZ o/\∀v,o.data≠ .cell v
 keep:∀i h h',tn i h->(∀b∈fp,∀o,h.get? b=vZ o->h'.get? b=vZ o)->tn i h'
 item:∀(X:Cx),X.prog=P->X.w=w->X.K=K->X.calm=vX->∀(i:Nat)(vQ:List (jD×Obj))(s:jM)(σ:St)(H:Hp)(E:jO->jM->Prop),Inv X vQ σ H s->(∀b∈fp,FpOk X vQ H b)->tn i s.heap->J.go i H->
  xG (xA P w) X.A (pyNext (.ref it)) (λr s1=>∃u,r=vZ u/\
   xG (xA P w) X.A (xy tg (.ref it) u) (λ_ s2=>∃x H',Inv X vQ σ H' s2/\RelV x u/\J.yld i H x H'/\tn (i+1) s2.heap/\∀b∈fp,H' b=vJ) E s1) E s
 done:∀(X:Cx),X.prog=P->X.w=w->X.K=K->X.calm=vX->∀(i:Nat)(vQ:List (jD×Obj))(s:jM)(σ:St)(H:Hp)(E:jO->jM->Prop),Inv X vQ σ H s->(∀b∈fp,FpOk X vQ H b)->tn i s.heap->J.stop i H->
  xG (xA P w) X.A (pyNext (.ref it)) (λr s1=>r=vJ/\Inv X vQ σ H s1) E s
 self:∀(A:jE)(i:Nat)(s:jM)(Q:jO->jM->Prop)(E:jO->jM->Prop),tn i s.heap->Q (.ref it) s->xG (xA P w) A (pyIter (.ref it)) Q E s
noncomputable abbrev TI:=St->Hp->(It->Hp->Prop)->Prop
def PIE(X:Cx)(vQ:List (jD×Obj))(σ:St)(tg:jF)(R:It->Hp->Prop)(itv:jO)(s2:jM):Prop:=
 ∃(it:jD)(fp:List jD)(tn:Nat->Heap->Prop)(J:It)(H':Hp),itv=.ref it/\Inv X vQ σ H' s2/\Turn X.prog X.w X.K tg J fp it tn/\tn 0 s2.heap/\(∀b∈fp,FpOk X vQ H' b)/\R J H'
def PI(X:Cx)(tg iter:jF)(wi:TI):Prop:=
 ∀(vQ:List (jD×Obj))(s:jM)(σ:St)(H:Hp)(R:It->Hp->Prop),Inv X vQ σ H s->wi σ H R->
  xG (xA X.prog X.w) X.A (eval iter X.env) (λv s1=>xG (xA X.prog X.w) X.A (pyIter v) (PIE X vQ σ tg R) X.xe s1) X.xe s
theorem Uu{M:Model}{A:jE}{it:jD}{o:Obj}{n:String}{vs:Array jO}(ho:s.heap.get? it=vZ o)(hc:o.cls=.type n)(hd:o.data=.fields vs)
  (hn: ["enumerate","zip","dict_itemiterator","dict_reverseitemiterator","odict_iterator","itertools.zip_longest","itertools.pairwise"].contains n=vV) (hQ:Q () s):xG M A (xy tg (.ref it) u) Q E s:=by
 unfold xy
 cases tg<;>first
  |exact xR hQ
  | (cases u<;>first
    |exact xR hQ
    | (
      refine xI (wpAny_load ho ?_);rw[hc,hd];show xG M A (if(["enumerate","zip","dict_itemiterator","dict_reverseitemiterator","odict_iterator","itertools.zip_longest","itertools.pairwise"].contains n&&vs[0]?==vZ (xB _))=vX then _ else _) Q E s;rw[if_neg (by intro h;rw[hn,Bool.false_and]at h;cases h)];exact xR hQ))
noncomputable def Itl(K:PySem.W.Frag)(a:jD):It:=
 ⟨λi H=>∃xs x,SqL K H a xs/\xs[i]?=vZ x,λi H x H'=>H'=H/\∀xs,SqL K H a xs->xs[i]?=vZ x,λi H=>∃xs,SqL K H a xs/\xs.length<=i⟩
noncomputable def Itt(K:PySem.W.Frag)(a:jD):It:=
 ⟨λi H=>∃xs x,SqT K H a xs/\xs[i]?=vZ x,λi H x H'=>H'=H/\∀xs,SqT K H a xs->xs[i]?=vZ x,λi H=>∃xs,SqT K H a xs/\xs.length<=i⟩
noncomputable def Itr(lo:Int)(n:Nat):It:=⟨λi _=>i<n,λi H x H'=>H'=H/\x=.int (lo+i),λi _=>n<=i⟩
theorem ZPX(a it:jD):Turn P w K tg (Itl K a) [it] it (λi h=>h.IsListIter it a i) where
 mem:=by simp
 obj:=λi h st b hb=>by
  have e:b=it:=by simpa using hb
  subst e;obtain⟨o,e,c,d⟩:=st;exact⟨o,e,λv z=>by rw[d]at z;cases z⟩
 keep:=λi h h' st k=>st.at λo e=>k it (by simp) o e
 item:=by
  intro X hP hw hK hc i vQ s σ H E I hf st hg;subst hP hw hK;obtain⟨xs,x,hq,hx⟩:=hg;obtain⟨its,rv,p,hz⟩:=I.list hq;obtain⟨u,hu,ru⟩:=rv.get hx;obtain⟨f0,f1,f2,f3,f4,f5⟩:=hf it (by simp);refine wpAny_pyNext_list_item st p.isList (x:=u) (by simpa using hu) λh' st' sb=>?_
  have I1:Inv X vQ σ H {s with heap:=h'}:=I.turned (t':=s.toks) (λb o hb e=>(sb.2 b hb).trans e) f0 f1 f3 f4 f5;obtain⟨o,e,c,d⟩:=id st';exact⟨u,rfl,Uu (s:={s with heap:=h'}) e c d (by decide) ⟨x,H,I1,ru,⟨rfl,λys hy=>by rw[I.ZFZ hy hq];exact hx⟩,st',λb hb=>(hf b hb).1⟩⟩
 done:=by intro X hP hw hK hc i vQ s σ H E I hf st hg;subst hP hw hK;obtain⟨xs,hq,hx⟩:=hg;obtain⟨its,rv,p,hz⟩:=I.list hq;obtain⟨f0,f1,f2,f3,f4,f5⟩:=hf it (by simp);have hl:=rv.length;exact wpAny_pyNext_list_end (I.ok.hd hc) st p.isList (by simp;lia) λh' eb=>⟨rfl,I.turned (t':=s.toks) (λb o hb e=>eb b o hb e) f0 f1 f3 f4 f5⟩
 self:=λ_ _ _ _ _ st h=>wpAny_pyIter_listiter st h
theorem ZN3(a it:jD):Turn P w K tg (Itt K a) [it] it (λi h=>h.IsTupleIter it a i) where
 mem:=by simp
 obj:=λi h st b hb=>by
  have e:b=it:=by simpa using hb
  subst e;obtain⟨o,e,c,d⟩:=st;exact⟨o,e,λv z=>by rw[d]at z;cases z⟩
 keep:=λi h h' st k=>st.at λo e=>k it (by simp) o e
 item:=by
  intro X hP hw hK hc i vQ s σ H E I hf st hg;subst hP hw hK;obtain⟨xs,x,hq,hx⟩:=hg;obtain⟨its,rv,p,hz⟩:=I.tuple hq;obtain⟨u,hu,ru⟩:=rv.get hx;obtain⟨f0,f1,f2,f3,f4,f5⟩:=hf it (by simp)
  refine wpAny_pyNext_tuple_item st (show s.heap.IsTuple a its.toArray from p) (x:=u) (by simpa using hu) λh' st' sb=>?_
  have I1:Inv X vQ σ H {s with heap:=h'}:=I.turned (t':=s.toks) (λb o hb e=>(sb.2 b hb).trans e) f0 f1 f3 f4 f5;obtain⟨o,e,c,d⟩:=id st';exact⟨u,rfl,Uu (s:={s with heap:=h'}) e c d (by decide) ⟨x,H,I1,ru,⟨rfl,λys hy=>by rw[I.ZFR hy hq];exact hx⟩,st',λb hb=>(hf b hb).1⟩⟩
 done:=by
  intro X hP hw hK hc i vQ s σ H E I hf st hg;subst hP hw hK;obtain⟨xs,hq,hx⟩:=hg;obtain⟨its,rv,p,hz⟩:=I.tuple hq;obtain⟨f0,f1,f2,f3,f4,f5⟩:=hf it (by simp);have hl:=rv.length
  exact wpAny_pyNext_tuple_end (I.ok.hd hc) st (show s.heap.IsTuple a its.toArray from p) (by simp;lia) λh' eb=>⟨rfl,I.turned (t':=s.toks) (λb o hb e=>eb b o hb e) f0 f1 f3 f4 f5⟩
 self:=λ_ _ _ _ _ st h=>wpAny_pyIter_tupleiter st h
theorem ZKR(it:jD)(lo:Int)(n:Nat):Turn P w K tg (Itr lo n) [it] it (λi h=>IsRangeIter h it (lo+(i:Nat)*1) ((n:Int)-(i:Nat)) 1) where
 mem:=by simp
 obj:=λi h st b hb=>by
  have e:b=it:=by simpa using hb
  subst e;exact⟨_,st,λv z=>by have z':Data.fields _=Data.cell v:=z;cases z'⟩
 keep:=λi h h' st k=>k it (by simp) _ st
 item:=by
  intro X hP hw hK hc i vQ s σ H E I hf st hg;subst hP hw hK;obtain⟨f0,f1,f2,f3,f4,f5⟩:=hf it (by simp);have W:=Walks.range (prog:=X.prog) (w:=X.w) (I.ok.hd hc) it lo 1 n;refine W.item i s _ _ hg st λv h' tk hv st' kk=>?_
  obtain⟨t,rfl⟩:=hv;have I1:Inv X vQ σ H {s with heap:=h',toks:=tk}:=I.turned (λb o hb e=>kk b o (by simpa using hb) e) f0 f1 f3 f4 f5;refine⟨_,rfl,Uu (s:={s with heap:=h',toks:=tk}) (n:="range_iterator") st' rfl rfl (by decide) ⟨.int (lo+i),H,I1,⟨t,?_⟩,⟨rfl,rfl⟩,st',λb hb=>(hf b hb).1⟩⟩;rw[Int.mul_one]
 done:=by intro X hP hw hK hc i vQ s σ H E I hf st hg;subst hP hw hK;obtain⟨f0,f1,f2,f3,f4,f5⟩:=hf it (by simp);exact wpAny_pyNext_range_end (I.ok.hd hc) st (by have:n<=i:=hg;lia) λh' eb=>⟨rfl,I.turned (t':=s.toks) (λb o hb e=>eb b o hb e) f0 f1 f3 f4 f5⟩
 self:=λ_ _ _ _ _ st h=>wpAny_pyIter_rangeiter st h
section
variable{X:Cx}{tg:jF}
def ZLm(K:PySem.W.Frag)(tl:TE):TI:=λσ H R=>tl σ H λx H1=>∃a,x=.ref a/\(∃xs,SqL K H1 a xs)/\R (Itl K a) H1
def iTup(K:PySem.W.Frag)(tl:TE):TI:=λσ H R=>tl σ H λx H1=>∃a,x=.ref a/\(∃xs,SqT K H1 a xs)/\R (Itt K a) H1
theorem ZBe{l:jF}{tl:TE}(hl:PE X l tl):PI X tg l (ZLm X.K tl):=by
 intro vQ s σ H R I h;refine thn (hl vQ s σ H _ I h) λv s1 ⟨x,H1,I1,r1,q1⟩=>?_
 obtain⟨a,e,⟨xs,hq⟩,q⟩:=q1;subst e;cases r1;obtain⟨its,rv,p,hz⟩:=I1.list hq;refine wpAny_pyIter_list p.isList ?_;refine⟨s1.heap.objs.size,[s1.heap.objs.size],_,_,H1,rfl,I1.kept (t':=s1.toks) λb o e=>zJ _ e,ZPX a _,⟨_,zI _ rfl,rfl,rfl⟩,λb hb=>?_,q⟩;have e:b=s1.heap.objs.size:=by simpa using hb
 subst e;exact I1.T3 (zx _) (I1.hok.fresh (zx _))
theorem ZNX{l:jF}{tl:TE}(hl:PE X l tl):PI X tg l (iTup X.K tl):=by
 intro vQ s σ H R I h;refine thn (hl vQ s σ H _ I h) λv s1 ⟨x,H1,I1,r1,q1⟩=>?_
 obtain⟨a,e,⟨xs,hq⟩,q⟩:=q1;subst e;cases r1;obtain⟨its,rv,p,hz⟩:=I1.tuple hq
 refine wpAny_pyIter_tuple (show s1.heap.IsTuple a its.toArray from p) ?_
 refine⟨s1.heap.objs.size,[s1.heap.objs.size],_,_,H1,rfl,I1.kept (t':=s1.toks) λb o e=>zJ _ e,ZN3 a _,⟨_,zI _ rfl,rfl,rfl⟩,λb hb=>?_,q⟩;have e:b=s1.heap.objs.size:=by simpa using hb
 subst e;exact I1.T3 (zx _) (I1.hok.fresh (zx _))
theorem ZQ0{R:It->Hp->Prop}{lo hi:Int}{t u v:Tok}{tk:Nat}(I:Inv X vQ σ H s)(h1: -(2^62)<=lo)(h2:lo<2^62)(h3: -(2^62)<=hi)(h4:hi<2^62)
  (q:R (Itr lo (hi-lo).toNat) H):xG (xA X.prog X.w) X.A (pyIter (.ref s.heap.objs.size)) (PIE X vQ σ tg R) E {s with heap:=s.heap.push {cls:=.type "range",data:=.fields #[.int lo t,.int hi u,.int 1 v]},toks:=tk}:=by
 refine wpAny_pyIter_range (IsRange.new ..) (small_one h1 h2 h3 h4) ?_;have I1:Inv X vQ σ H {s with heap:=s.heap.push {cls:=.type "range",data:=.fields #[.int lo t,.int hi u,.int 1 v]},toks:=tk}:=I.kept λb o e=>zJ _ e
 refine⟨(s.heap.push {cls:=.type "range",data:=.fields #[.int lo t,.int hi u,.int 1 v]}).objs.size,[(s.heap.push {cls:=.type "range",data:=.fields #[.int lo t,.int hi u,.int 1 v]}).objs.size],_,_,H,rfl,
  I1.kept (t':=tk) λb o e=>zJ _ e,ZKR _ lo (hi-lo).toNat,?_,λb hb=>?_,q⟩
 ·have e1:lo+((0:Nat):Int)*1=lo:=by simp
  have e2:(((hi-lo).toNat:Nat):Int)-((0:Nat):Int)=Builtin.Range.rangeSize lo hi 1:=by rw[rangeSize_one];split <;> lia
  show IsRangeIter _ _ (lo+((0:Nat):Int)*1) ((((hi-lo).toNat:Nat):Int)-((0:Nat):Int)) 1;rw[e1,e2];exact zI _ rfl
 ·have e:b=(s.heap.push {cls:=.type "range",data:=.fields #[.int lo t,.int hi u,.int 1 v]}).objs.size:=by simpa using hb
  subst e;exact I1.T3 (zx _) (I1.hok.fresh (zx _))
def ZJl(ta:TA):TI:=λσ H R=>ta σ H λvs H1=>∃j:Int,vs=[.int j]/\ -(2^62)<=j/\j<2^62/\R (Itr 0 j.toNat) H1
theorem ZKo{a:jF}{ta:TA}{p pos:Pos}(hg:Gl X "range")(hm:X.mg "range"=vJ)(ha:PA X [a] ta)(hs:xE [a] X.env=[(vV,eval a X.env)]:=by rfl):PI X tg (.Call (.Name "range" p) [a] [] pos) (ZJl ta):=by
 intro vQ s σ H R I h;refine Call_ (R9 I hg hm boot_range (PyProof.Rows.callWith_type1 (thn (ha pos vQ s σ H _ I h) λus s1 ⟨vs,H1,I1,r1,q1⟩=>?_) hs rfl));obtain⟨j,e,q1,q2,q⟩:=q1;subst e;cases r1 with
 |cons r rr=>
  cases rr;obtain⟨t,rfl⟩:=r;exact call_range_1 (ZQ0 I1 (by lia) (by lia) q1 q2 (by simpa using q))
def tFor(wi:TI)(g:TG)(tb:TS):TS:=λD σ H=>wi σ H λJ H1=>∃W:Nat->Nat->St->Hp->Prop,(∃m,W 0 m σ H1)/\∀i m σ H,W i m σ H->
 (J.stop i H/\D.nx σ H)∨(J.go i H/\∃N:St->Hp->Prop,(∀σ' H',N σ' H'->∃m',m'<m/\W (i+1) m' σ' H')/\∀x H',J.yld i H x H'->g x σ H' λσ2 H2=>tb {D with nx:=N,ct:=N,bk:=D.nx} σ2 H2)
noncomputable def Qm(fp:List jD)(h:Heap):List (jD×Obj):=fp.filterMap λb=>(h.get? b).map λo=>(b,o)
theorem Zy{o:Obj}(hb:b∈fp)(e:h.get? b=vZ o):(b,o)∈Qm fp h:=List.mem_filterMap.mpr ⟨b,hb,by rw[e];rfl⟩
theorem ZIA{p:jD×Obj}(hp:p∈Qm fp h):p.1∈fp/\h.get? p.1=vZ p.2:=by
 obtain⟨b,hb,e⟩:=List.mem_filterMap.mp hp;cases q:h.get? b with
 |none=>rw[q]at e;cases e
 |some o=>
  rw[q]at e;have e':(b,o)=p:=Option.some.inj e;subst e';exact⟨hb,q⟩
theorem Inv.pinned(I:Inv X vQ σ H s)(hf:∀b∈fp,FpOk X vQ H b)(ho:∀b∈fp,∃o,s.heap.get? b=vZ o/\∀v,o.data≠ .cell v):Inv X (vQ++Qm fp s.heap) σ H s:=
 I.Mm λp hp=>(zM.mp hp).elim (λz=>I.pin p (zD _ z)) λz=>by obtain⟨hb,e⟩:=ZIA z;obtain⟨f0,f1,f2,_⟩:=hf p.1 hb;obtain⟨o,e',d⟩:=ho p.1 hb;rw[e]at e';cases e';exact⟨e,f0,f1,f2,d⟩
theorem Inv.unpinned{pl:List (jD×Obj)}(I:Inv X (vQ++pl) σ H s):Inv X vQ σ H s:=I.Mm λp hp=>I.pin p (zD _ (j8 _ hp))
theorem ZJy{iter:jF}{body:List jN}{wi:TI}{g:TG}{tb:TS}{pos:Pos}(hp:PassesOwn (xA X.prog X.w) X.A X.env X.xe)(hc:X.calm=vX)(hi:PI X tg iter wi)(hg:PG X tg g)(hb:PSs X body tb)
  (hs:∀x,foldedSetIterable iter X.env x=pure x:=by intro _;rfl):PS X (.For tg iter body [] pos) (tFor wi g tb):=by
 intro vQ s σ H D I h;refine wpAny_For (thn (hi vQ s σ H _ I h) λv s1 h1=>thn h1 λitv s2 h2=>?_) hs;obtain⟨it,fp,tn,J,H2,e,I2,T,st2,f2,W,⟨m0,w0⟩,turn⟩:=h2;subst e;have stat:∀{H':Hp},(∀b∈fp,H' b=vJ)->∀b∈fp,FpOk X vQ H' b:=λhn b hb=>⟨hn b hb,(f2 b hb).2⟩
 refine codeAny_forLoop_any (λn s'=>∃i σ' H',Inv X vQ σ' H' s'/\tn i s'.heap/\(∀b∈fp,H' b=vJ)/\W i n σ' H') ?_ m0 ⟨0,σ,H2,I2,st2,λb hb=>(f2 b hb).1,w0⟩;rintro n s3 ⟨i,σ3,H3,I3,st3,fr3,w3⟩;rcases turn i n σ3 H3 w3 with⟨stop,qn⟩|⟨go,N,hN,step⟩
 ·refine xP hp (thn (T.done X rfl rfl rfl hc i vQ s3 σ3 H3 X.xe I3 (stat fr3) st3 stop) λr s4 ⟨hr,I4⟩=>?_);subst hr;exact wpAny_execs_nil ⟨σ3,H3,I4,qn⟩
 ·refine xP hp (thn (T.item X rfl rfl rfl hc i vQ s3 σ3 H3 X.xe I3 (stat fr3) st3 go) λr s4 ⟨u,hr,h4⟩=>?_);subst hr;refine xP hp (thn h4 λ_ s5 ⟨x,H5,I5,r5,y5,st5,fr5⟩=>?_);have I5':=I5.pinned (stat fr5) (T.obj _ _ st5);refine xP hp (thn (hg _ s5 σ3 H5 x u _ I5' r5 (step x H5 y5)) λ_ s6 ⟨σ6,H6,I6,q6⟩=>?_);refine xP hp (thn (hb _ s6 σ6 H6 _ I6 q6) λf s7 q7=>?_)
  have again:∀{σ7:St}{H7:Hp},Inv X (vQ++Qm fp s5.heap) σ7 H7 s7->N σ7 H7->∃m,m<n/\∃i σ' H',Inv X vQ σ' H' s7/\tn i s7.heap/\(∀b∈fp,H' b=vJ)/\W i m σ' H':=λ{σ7 H7}I7 n7=>by obtain⟨m',hm,w7⟩:=hN σ7 H7 n7;refine⟨m',hm,i+1,σ7,H7,I7.unpinned,T.keep _ _ _ st5 λb hb o e=>(I7.pin (b,o) (zD _ (zD _ (Zy hb e)))).1,λb hb=>?_,w7⟩;obtain⟨o,e,d⟩:=T.obj _ _ st5 b hb;exact(I7.pin (b,o) (zD _ (zD _ (Zy hb e)))).2.1
  cases f with
  |next=>obtain⟨σ7,H7,I7,n7⟩:=q7;exact again I7 n7
  |cont=>obtain⟨σ7,H7,I7,n7⟩:=q7;exact again I7 n7
  |brk=>obtain⟨σ7,H7,I7,q7⟩:=q7;exact⟨σ7,H7,I7.unpinned,q7⟩
  |ret v=>obtain⟨x7,σ7,H7,I7,r7,q7⟩:=q7;exact⟨x7,σ7,H7,I7.unpinned,r7,q7⟩
end
noncomputable abbrev R2:=V->V->Hp->VK->Prop
variable{r r':R2}
def OpR(X:Cx)(f:jO->jO->Sem jO)(r:R2):Prop:=
 ∀(vQ:List (jD×Obj))(s:jM)(σ:St)(H:Hp)(x y:V)(v u:jO)(Q:VK),Inv X vQ σ H s->RelV x v->RelV y u->r x y H Q->
  xG (xA X.prog X.w) X.A (f v u) (EP X vQ σ Q) X.xe s
def UnR(X:Cx)(f:jO->Sem jO)(r:V->Hp->VK->Prop):Prop:=
 ∀(vQ:List (jD×Obj))(s:jM)(σ:St)(H:Hp)(x:V)(v:jO)(Q:VK),Inv X vQ σ H s->RelV x v->r x H Q->
  xG (xA X.prog X.w) X.A (f v) (EP X vQ σ Q) X.xe s
def CallR(X:Cx)(f:jO)(r:List V->Hp->VK->Prop):Prop:=
 ∀(vQ:List (jD×Obj))(s:jM)(σ:St)(H:Hp)(xs:List V)(us:List jO)(Q:VK),Inv X vQ σ H s->Vals xs us->r xs H Q->
  xG (xA X.prog X.w) X.A (call f us) (EP X vQ σ Q) X.xe s
noncomputable def tOp(r:R2)(ta tb:TE):TE:=λσ H Q=>ta σ H λx H1=>tb σ H1 λy H2=>r x y H2 Q
noncomputable def tUn(r:V->Hp->VK->Prop)(ta:TE):TE:=λσ H Q=>ta σ H λx H1=>r x H1 Q
noncomputable def rI(C:Int->Int->Prop)(g:Int->Int->V):R2:=λx y H Q=>∃i j,x=.int i/\y=.int j/\C i j/\Q (g i j) H
noncomputable def rI0(g:Int->Int->V):R2:=λx y H Q=>∃i j,x=.int i/\y=.int j/\Q (g i j) H
def rU(g:Int->V):V->Hp->VK->Prop:=λx H Q=>∃i,x=.int i/\Q (g i) H
section
variable{X:Cx}{a b c:jF}{ta tb tc:TE}{pos:Pos}
theorem ZAc(ha:PE X a ta)(hb:PE X b tb){R:V->V->Hp->Prop}(I:Inv X vQ σ H s)
  (h:ta σ H λx H1=>tb σ H1 λy H2=>R x y H2) {Q:jO->jM->Prop} {f:jO->jO->Sem jO}
  (hf:∀v u s2 x y H2,Inv X vQ σ H2 s2->RelV x v->RelV y u->R x y H2->xG (xA X.prog X.w) X.A (f v u) Q X.xe s2):
  xG (xA X.prog X.w) X.A (eval a X.env) (λv s₁=>xG (xA X.prog X.w) X.A (eval b X.env) (λu s₂=>xG (xA X.prog X.w) X.A (f v u) Q X.xe s₂) X.xe s₁) X.xe s:=by
 refine thn (ha vQ s σ H _ I h) λv s1 ⟨x,H1,I1,r1,q1⟩=>?_
 refine thn (hb vQ s1 σ H1 _ I1 q1) λu s2 ⟨y,H2,I2,r2,q2⟩=>?_
 exact hf v u s2 x y H2 I2 r1 r2 q2
theorem ZPk{op:Operator}(ho:OpR X (xQ op) r)(ha:PE X a ta)(hb:PE X b tb):PE X (.BinOp a op b pos) (tOp r ta tb):=by intro vQ s σ H Q I h;exact wpAny_BinOp (ZAc ha hb I h λv u s2 x y H2 I2 rx ry q=>ho vQ s2 σ H2 x y v u Q I2 rx ry q)
theorem ZPl{op:UnaryOp}{r:V->Hp->VK->Prop}(ho:UnR X (unaryOp op) r)(ha:PE X a ta):PE X (.UnaryOp op a pos) (tUn r ta):=by intro vQ s σ H Q I h;exact UnaryOp_ (thn (ha vQ s σ H _ I h) λv s1 ⟨x,H1,I1,r1,q1⟩=>ho vQ s1 σ H1 x v Q I1 r1 q1)
theorem opI{C:Int->Int->Prop}{g:Int->Int->Int}
  (rule:∀(i j:Int)(t u:Tok)(s:jM)(Q:jO->jM->Prop)(E:jO->jM->Prop),C i j->Q (.int (g i j) s.toks) {s with toks:=s.toks+1}->xG (xA X.prog X.w) X.A (f (.int i t) (.int j u)) Q E s):
  OpR X f (rI C λi j=>.int (g i j)):=by
 intro vQ s σ H x y v u Q I rx ry h;obtain⟨i,j,rfl,rfl,hc,q⟩:=h;obtain⟨t,rfl⟩:=rx;obtain⟨t',rfl⟩:=ry;exact rule i j t t' s _ _ hc ⟨.int (g i j),H,I.tok _,⟨_,rfl⟩,q⟩
theorem opI0{g:Int->Int->Int}
  (rule:∀(i j:Int)(t u:Tok)(s:jM)(Q:jO->jM->Prop)(E:jO->jM->Prop),Q (.int (g i j) s.toks) {s with toks:=s.toks+1}->xG (xA X.prog X.w) X.A (f (.int i t) (.int j u)) Q E s):
  OpR X f (rI0 λi j=>.int (g i j)):=by
 intro vQ s σ H x y v u Q I rx ry h;obtain⟨i,j,rfl,rfl,q⟩:=h;obtain⟨t,rfl⟩:=rx;obtain⟨t',rfl⟩:=ry;exact rule i j t t' s _ _ ⟨.int (g i j),H,I.tok _,⟨_,rfl⟩,q⟩
theorem Xe{g:Int->Int->Bool}
  (rule:∀(i j:Int)(t u:Tok)(s:jM)(Q:jO->jM->Prop)(E:jO->jM->Prop),Q (.bool (g i j)) s->xG (xA X.prog X.w) X.A (f (.int i t) (.int j u)) Q E s):
  OpR X f (rI0 λi j=>.bl (g i j)):=by
 intro vQ s σ H x y v u Q I rx ry h;obtain⟨i,j,rfl,rfl,q⟩:=h;obtain⟨t,rfl⟩:=rx;obtain⟨t',rfl⟩:=ry;exact rule i j t t' s _ _ ⟨.bl (g i j),H,I,rfl,q⟩
def CPow(i j:Int):Prop:=0<=j/\j<=1000000/\i.natAbs<2^64
def CMul(i j:Int):Prop:=(-(2^64)<i/\i<2^64)∨(-(2^64)<j/\j<2^64)
theorem CMul.ok{i j:Int}(h:CMul i j):IntMulOk i j:=by
 rcases h with⟨h1,h2⟩|⟨h1,h2⟩
 ·exact .of_left (intBits_le_64 h1 h2)
 ·exact .of_right (intBits_le_64 h1 h2)
theorem ZOE:OpR X (xQ .Add) (rI0 λi j=>.int (i+j)):=opI0 λ_ _ _ _ _ _ _ q=>add_int q
theorem ZMS:OpR X (xQ .Sub) (rI0 λi j=>.int (i-j)):=opI0 λ_ _ _ _ _ _ _ q=>sub_int q
theorem ZPN:OpR X (xQ .Mod) (rI (λ_ j=>0<j) λi j=>.int (i%j)):=opI λi j _ _ _ _ _ hc q=>by have h1:(0:Int)<j:=hc;exact mod_int' (by lia) (by rw[Int.fmod_eq_emod_of_nonneg i (by lia)];exact q)
theorem ZM9:OpR X (xQ .Pow) (rI CPow λi j=>.int (i^j.toNat)):=opI λ_ _ _ _ _ _ _ hc q=>pow_int_small hc.1 hc.2.1 hc.2.2 q
theorem unI{f:jO->Sem jO}{g:Int->Int}
  (rule:∀(i:Int)(t:Tok)(s:jM)(Q:jO->jM->Prop)(E:jO->jM->Prop),Q (.int (g i) s.toks) {s with toks:=s.toks+1}->xG (xA X.prog X.w) X.A (f (.int i t)) Q E s):
  UnR X f (rU λi=>.int (g i)):=by
 intro vQ s σ H x v Q I rx h;obtain⟨i,rfl,q⟩:=h;obtain⟨t,rfl⟩:=rx;exact rule i t s _ _ ⟨.int (g i),H,I.tok _,⟨_,rfl⟩,q⟩
theorem ZNI:UnR X (unaryOp .USub) (rU λi=>.int (-i)):=unI λ_ _ _ _ _ q=>neg_int q
end
section
variable{X:Cx}{a b c:jF}{ta tb tc:TE}{pos:Pos}
theorem Uz{Q:VK}{k k':Bool}(I:Inv X vQ σ H s)(q:Q (.bl k) H)(e:k=k'):EP X vQ σ Q (.bool k') s:=by subst e;exact⟨.bl k,H,I,rfl,q⟩
theorem ZK7:OpR X (xV .Lt) (rI0 λi j=>.bl (decide (i<j))):=Xe λ_ _ _ _ _ _ _ q=>lt_int q
theorem ZKA:OpR X (xV .LtE) (rI0 λi j=>.bl (decide (i<=j))):=Xe λ_ _ _ _ _ _ _ q=>le_int q
theorem ZMm:OpR X (xV .Gt) (rI0 λi j=>.bl (decide (j<i))):=Xe λ_ _ _ _ _ _ _ q=>gt_int q
theorem ZPI:OpR X (xV .GtE) (rI0 λi j=>.bl (decide (j<=i))):=Xe λ_ _ _ _ _ _ _ q=>ge_int q
theorem ZQd:OpR X (xV .Lt) (λx y H Q=>∃i j,x=.str i/\y=.str j/\Q (.bl (decide (i.cps.toList<j.cps.toList))) H):=by intro vQ s σ H x y v u Q I rx ry h;obtain⟨i,j,rfl,rfl,q⟩:=h;obtain⟨t,rfl⟩:=rx;obtain⟨t',rfl⟩:=ry;exact lt_str (Uz I q rfl)
theorem ZOJ:OpR X (xV .In) (λx y H Q=>∃i j,x=.str i/\y=.str j/\Q (.bl (!(Builtin.Str.occurrences j i 0 j.length 1).isEmpty)) H):=by intro vQ s σ H x y v u Q I rx ry h;obtain⟨i,j,rfl,rfl,q⟩:=h;obtain⟨t,rfl⟩:=rx;obtain⟨t',rfl⟩:=ry;exact in_str (Uz I q rfl)
theorem ZNB:OpR X (xV .Is) (λx y H Q=>y=.non/\Q (.bl (decide (x=.non))) H):=by
 intro vQ s σ H x y v u Q I rx ry h;obtain⟨rfl,q⟩:=h;cases ry;refine is_none_gen (Uz I q ?_)
 cases x<;>first
  |(cases rx;rfl)
  |(obtain⟨t,rfl⟩:=rx;rfl)
theorem ZNi:OpR X (xV .IsNot) (λx y H Q=>y=.non/\Q (.bl (!decide (x=.non))) H):=by
 intro vQ s σ H x y v u Q I rx ry h;obtain⟨rfl,q⟩:=h;cases ry;refine isnot_none_gen (Uz I q ?_)
 cases x<;>first
  |(cases rx;rfl)
  |(obtain⟨t,rfl⟩:=rx;rfl)
theorem ZQ7:OpR X (xV .NotIn) (λx y H Q=>∃i j,x=.str i/\y=.str j/\Q (.bl (!(!(Builtin.Str.occurrences j i 0 j.length 1).isEmpty))) H):=by intro vQ s σ H x y v u Q I rx ry h;obtain⟨i,j,rfl,rfl,q⟩:=h;obtain⟨t,rfl⟩:=rx;obtain⟨t',rfl⟩:=ry;exact notIn_str (Uz I q rfl)
theorem OpR.or(h:OpR X f r)(h':OpR X f r'):OpR X f (λx y H Q=>r x y H Q∨r' x y H Q):=by
 intro vQ s σ H x y v u Q I rx ry q;rcases q with q|q
 ·exact h vQ s σ H x y v u Q I rx ry q
 ·exact h' vQ s σ H x y v u Q I rx ry q
theorem nomark(b:jF)(h:op≠ .In:=by decide)(h2:op≠ .NotIn:=by decide):jU op b=vV:=by
 have e1:(op==CmpOp.In)=vV:=by cases op<;>first|rfl|exact absurd rfl h
 have e2:(op==CmpOp.NotIn)=vV:=by cases op<;>first|rfl|exact absurd rfl h2
 cases b<;>simp[jU,e1,e2]
theorem ZPd(ho:OpR X (xV op) r)(ha:PE X a ta)(hb:PE X b tb)(hm:jU op b=vV):PE X (.Compare a [op] [b] pos) (tOp r ta tb):=by intro vQ s σ H Q I h;exact wpAny_Compare1 (ZAc ha hb I h λv u s2 x y H2 I2 rx ry q=>ho vQ s2 σ H2 x y v u Q I2 rx ry q) hm
noncomputable def Tc(t:TE):TT:=λσ H Q=>t σ H λx H'=>∃k,x=.bl k/\Q k H'
theorem ZPQ(ho:OpR X (xV op) r)(ha:PE X a ta)(hb:PE X b tb)(hm:jU op b=vV):PT X (.Compare a [op] [b] pos) (Tc (tOp r ta tb)):=by
 intro vQ s σ H Q I h;refine wpAny_isTrue_Compare1 (thn (ha vQ s σ H _ I h) λv s1 ⟨x,H1,I1,r1,q1⟩=>thn (hb vQ s1 σ H1 _ I1 q1) λu s2 ⟨y,H2,I2,r2,q2⟩=>
  thn (ho vQ s2 σ H2 x y v u _ I2 r1 r2 q2) λc s3 ⟨z,H3,I3,r3,k,e,q3⟩=>?_) hm
 subst e;cases r3;exact xS ⟨H3,I3,q3⟩
noncomputable def ZBz(r r':R2)(ta tb tc:TE):TE:=λσ H Q=>ta σ H λx H1=>tb σ H1 λy H2=>r x y H2 λz H3=>∃k,z=.bl k/\
 (if k=vX then tc σ H3 λw' H4=>r' y w' H4 Q else Q (.bl vV) H3)
theorem ZLh{op':CmpOp}(ho:OpR X (xV op) r)(ho':OpR X (xV op') r')(ha:PE X a ta)(hb:PE X b tb)(hc:PE X c tc)
  (hm:lastMarks [op,op'] [b,c]=vV:=by with_unfolding_all rfl):PE X (.Compare a [op,op'] [b,c] pos) (ZBz r r' ta tb tc):=by
 intro vQ s σ H Q I h;refine Compare_chain (thn (ha vQ s σ H _ I h) λv s1 ⟨x,H1,I1,r1,q1⟩=>chain_link (thn (hb vQ s1 σ H1 _ I1 q1) λu s2 ⟨y,H2,I2,r2,q2⟩=>
  thn (ho vQ s2 σ H2 x y v u _ I2 r1 r2 q2) λd s3 ⟨z,H3,I3,r3,k,e,q3⟩=>?_)) hm
 subst e;cases r3;refine xS ?_;cases k with
 |false=>exact ite_ff ⟨.bl vV,H3,I3,rfl,q3⟩
 |true=>exact ite_tt (chain_last (thn (hc vQ s3 σ H3 _ I3 q3) λw' s4 ⟨z',H4,I4,r4,q4⟩=>ho' vQ s4 σ H4 y z' u w' Q I4 r2 r4 q4))
theorem ZNn{op':CmpOp}(ho:OpR X (xV op) r)(ho':OpR X (xV op') r')(ha:PE X a ta)(hb:PE X b tb)(hc:PE X c tc)
  (hm:lastMarks [op,op'] [b,c]=vV:=by with_unfolding_all rfl):PT X (.Compare a [op,op'] [b,c] pos) (Tc (ZBz r r' ta tb tc)):=by
 intro vQ s σ H Q I h;refine isTrue_chain (thn (ha vQ s σ H _ I h) λv s1 ⟨x,H1,I1,r1,q1⟩=>test_link (thn (hb vQ s1 σ H1 _ I1 q1) λu s2 ⟨y,H2,I2,r2,q2⟩=>
  thn (ho vQ s2 σ H2 x y v u _ I2 r1 r2 q2) λd s3 ⟨z,H3,I3,r3,k,e,q3⟩=>?_)) hm
 subst e;cases r3;refine xS ?_;cases k with
 |false=>
  obtain⟨k',e',q'⟩:=q3;cases e';exact ite_ff ⟨H3,I3,q'⟩
 |true=>
  refine ite_tt (test_last (thn (hc vQ s3 σ H3 _ I3 q3) λw' s4 ⟨z',H4,I4,r4,q4⟩=>thn (ho' vQ s4 σ H4 y z' u w' _ I4 r2 r4 q4) λd' s5 ⟨z2,H5,I5,r5,k2,e2,q5⟩=>?_));subst e2;cases r5;exact xS ⟨H5,I5,q5⟩
theorem line63:(sizeLine:Nat)<2^63:=by rw[xC];decide
theorem ZQC:OpR X (xQ .Add) (λx y H Q=>∃i j,x=.str i/\y=.str j/\i.length+j.length<=sizeLine/\Q (.str (i++j)) H):=by intro vQ s σ H x y v u Q I rx ry h;obtain⟨i,j,rfl,rfl,hz,q⟩:=h;obtain⟨t,rfl⟩:=rx;obtain⟨t',rfl⟩:=ry;exact add_str (λt' tk=>⟨.str (i++j),H,I.tok _,⟨_,rfl⟩,q⟩) hz
theorem vals1{x:V}(r:Vals [x] us):∃u,us=[u]/\RelV x u:=by
 cases r with
 |cons r1 r2=>cases r2;exact⟨_,rfl,r1⟩
theorem vals2{x y:V}(r:Vals [x,y] us):∃u w',us=[u,w']/\RelV x u/\RelV y w':=by
 cases r with
 |cons r1 r2=>
  cases r2 with
  |cons r3 r4=>cases r4;exact⟨_,_,rfl,r1,r3⟩
theorem ZO9(hc:X.calm=vX):CallR X (.builtin "max") (λxs H Q=>∃i j,xs=[.int i,.int j]/\Q (.int (if j>i then j else i)) H):=by
 intro vQ s σ H xs us Q I r h;obtain⟨i,j,rfl,q⟩:=h;obtain⟨u,w',rfl,⟨t,rfl⟩,⟨t',rfl⟩⟩:=vals2 r;refine max_two_ints (I.ok.hd hc) λh' tk k=>⟨_,H,I.kept k,?_,q⟩
 by_cases hj:j>i
 ·rw[if_pos hj,if_pos hj];exact⟨_,rfl⟩
 ·rw[if_neg hj,if_neg hj];exact⟨_,rfl⟩
theorem ZKL:CallR X (.type "int") (λxs H Q=>(∃i,xs=[.int i]/\Q (.int i) H)∨∃k,xs=[.bl k]/\Q (.int (if k then 1 else 0)) H):=by
 intro vQ s σ H xs us Q I r h;rcases h with⟨i,rfl,q⟩|⟨k,rfl,q⟩
 ·obtain⟨u,rfl,t,rfl⟩:=vals1 r;exact call_int_int ⟨.int i,H,I,⟨_,rfl⟩,q⟩
 ·obtain⟨u,rfl,r1⟩:=vals1 r;cases r1;exact call_int_bool ⟨.int (if k then 1 else 0),H,I.tok _,⟨_,rfl⟩,q⟩
end
theorem ZIc{dx:jD}{mA:Str->Option jO}(n:h.Ns1 dx mA):∃od,h.get? dx=vZ od/\∀name,PySem.W.lookIn name od=vZ (mA name):=by
 obtain⟨o,es,ep,ho,hd,hk,_,hm⟩:=n;refine⟨o,ho,λname=>?_⟩;have e:=hm name;unfold nsFind findBy at e;rw[<-Array.find?_toList]at e;unfold PySem.W.lookIn;rw[hd];dsimp only;split
 ·rename_i y q;rw[q]at e;exact congrArg vZ e
 ·rename_i q;rw[q]at e
  have a:es.toList.any (·.refKey)=vV:=by rw[List.any_eq_false];intro y hy;obtain⟨z,t,hkey⟩:=hk y (Array.mem_toList_iff.mp hy);simp[DictEntry.refKey,hkey]
  have a':¬es.toList.any (·.refKey)=vX:=by rw[a];exact zv
  rw[if_neg a'];exact congrArg vZ e
section
variable{prog:jI}{w:jP}{A:jE}{E:jO->jM->Prop}{s:jM}{K:PySem.W.Frag}{x dx C f:jD}{mA:Str->Option jO}{name:Str}{v:jO}
end
theorem RelO.some_of{o:Option jO}(r:RelO (vZ v) o):∃u,o=vZ u/\RelV v u:=by
 cases o with
 |none=>exact(show False from r).elim
 |some u=>exact⟨u,rfl,r⟩
theorem ZQF(r:RelV v u):PySem.W.handedIn u=vX:=by
 cases v with
 |non=>cases(show u=Value.none from r);rfl
 |bl b=>cases(show u=Value.bool b from r);rfl
 |int i=>obtain⟨t,e⟩:=(show∃t,u=Value.int i t from r);cases e;rfl
 |str x=>obtain⟨t,e⟩:=(show∃t,u=Value.str x t from r);cases e;rfl
 |byt b=>obtain⟨t,e⟩:=(show∃t,u=Value.bytes b t from r);cases e;rfl
 |flt b=>obtain⟨t,e⟩:=(show∃t,u=Value.float b t from r);cases e;rfl
 |ref a=>cases(show u=Value.ref a from r);rfl
 |ty n=>cases(show u=Value.type n from r);rfl
section
variable{P:jI}{w:jP}{H H':Hp}{h h':Heap}{a C dx:jD}{fs fs':List (Str×V)}
end
def NoAttr(K:PySem.W.Frag)(C:jD)(f:Str):Prop:=PySem.W.findIn K (.ref C) f=vZ vJ
structure Meth (K:PySem.W.Frag) (C:jD) (m:Str) (f:jD):Prop where
 at_:PySem.W.findIn K (.ref C) m=vZ (vZ (.ref f))
 fn:PySem.W.isFn K (.ref f)=vX
 kp:PySem.W.keepIn K (.ref f)=vX
section
variable{X:Cx}{vQ:List (jD×Obj)}{σ:St}{H:Hp}{s:jM}{a C dx:jD}{fs:List (Str×V)}{f:Str}{v:V}{A:jE}{E:jO->jM->Prop}
theorem ZNj{prog:jI}{env:Env}{f:Str}{pos:Pos}{Q:jO->jM->Prop}(hb:jS e f env (eval e env)=eval e env)
  (h:xG (xA prog w) A (eval e env) (λo s₁=>xG (xA prog w) A (getAttr o f vX) Q E s₁) E s):xG (xA prog w) A (eval (.Attribute e f pos) env) Q E s:=
 Attribute_any_ h (by rw[arm_eval_Attribute,hb])
end
section
variable{X:Cx}{o e value:jF}{f:Str}{pos pos' tpos:Pos}{ta tv:TE}
end
section
variable{X:Cx}{vQ:List (jD×Obj)}{σ:St}{H:Hp}{s:jM}{A:jE}{E:jO->jM->Prop}{Q:jO->jM->Prop}{c:jO}{b:Bool}
end
structure Room (k:Nat) (A:jE):Prop where
 hd:A.handled=vJ
 dp:A.depth+3*k+5<recursionLimit
 un:A.units+16*k+200<cLine
theorem Room.mono{j:Nat}{A:jE}(r:Room k A)(h:j<=k):Room j A:=⟨r.hd,by have:=r.dp;lia,by have:=r.un;lia⟩
theorem Room.deeper{A:jE}(r:Room (k+1) A)(env:Env):Room k (A.deeper env):=
 ⟨r.hd,by have:=r.dp;show A.depth+1+3*k+5<_;lia,by have:=r.un;show A.units+3+16*k+200<_;lia⟩
theorem ZQZ{A:jE}{C:jD}{kw:List (Str×jO)}:(A.under (.builtin "type.__call__" ⟨.ref C::us,kw⟩)).depth=A.depth+1:=by
 first|rfl|simp[Around.under,Code.weight,Code.isCreation,Code.isGuard,Code.isCaller,Code.frames,Code.isFrame,guardIds]
theorem ZLQ{A:jE}{C:jD}{kw:List (Str×jO)}:(A.under (.builtin "type.__call__" ⟨.ref C::us,kw⟩)).units=A.units+1:=by
 first|rfl|simp[Around.under,Code.cUnits,Code.frames,Code.isFrame]
theorem Room.make{A:jE}(r:Room (k+1) A)(C:jD)(us:List jO)(kw:List (Str×jO)):Room k (A.under (.builtin "type.__call__" ⟨.ref C::us,kw⟩)):=
 ⟨r.hd,by have:=r.dp;rw[ZQZ];lia,by have:=r.un;rw[ZLQ];lia⟩
theorem Room.depth{A:jE}(r:Room k A):A.depth<recursionLimit:=by have:=r.dp;lia
theorem Room.units{A:jE}(r:Room k A):A.units+64<cLine:=by have:=r.un;lia
noncomputable def tNil:TA:=λ_ H Q=>Q [] H
noncomputable def ZBE(ta:TE)(tr:TA):TA:=λσ H Q=>ta σ H λx H1=>tr σ H1 λxs H2=>Q (x::xs) H2
section
variable{X:Cx}{e:jF}{es:List jF}{te:TE}{t:TA}{pos:Pos}
theorem ZDg:PA X [] tNil:=λ_ _ _ _ H Q I h=>Calls.spliced_nil ⟨[],H,I,.nil,h⟩
theorem T5(ha:PE X e te)(hr:PA X es t)(hs:xE (e::es) X.env=(vV,eval e X.env)::xE es X.env:=by rfl):PA X (e::es) (ZBE te t):=by intro pos vQ s σ H Q I h;rw[hs];show xG _ _ (spliced ((vV,eval e X.env)::jT pos (xE es X.env))) _ _ s;refine Calls.spliced_cons (thn (ha vQ s σ H _ I h) λu s1 ⟨x,H1,I1,r1,q1⟩=>?_);exact thn (hr pos vQ s1 σ H1 _ I1 q1) λus s2 ⟨xs,H2,I2,r2,q2⟩=>⟨x::xs,H2,I2,.cons r1 r2,q2⟩
def tTup(t:TA):TE:=λσ H Q=>t σ H λxs H1=>xs.length<=sizeLine/\∀p,H1 p=vJ->Q (.ref p) (upd H1 p (.tup xs))
def tLst(t:TA):TE:=λσ H Q=>t σ H λxs H1=>xs.length<=sizeLine/\∀p,H1 p=vJ->Q (.ref p) (upd H1 p (.lst xs))
theorem ZOx{x1}(h:PA X es t):PE X (.Tuple es x1 pos) (tTup t):=by intro vQ s σ H Q I hq;refine wpAny_Tuple_spliced (thn (h pos vQ s σ H _ I hq) λus s1 ⟨xs,H1,I1,r,z,q⟩=>⟨by rw[<-r.length];exact z,?_⟩);have hf:H1 s1.heap.objs.size=vJ:=I1.hok.fresh (zx _);refine⟨.ref s1.heap.objs.size,upd H1 s1.heap.objs.size (.tup xs),I1.laid (t':=s1.toks) (λb u e=>zJ _ e) (zx _) ?_,rfl,q _ hf⟩;exact⟨z,us,r,⟨_,zI _ rfl,rfl,_,rfl⟩⟩
theorem ZQ1(h:PA X es t):PE X (.List es pos) (tLst t):=by intro vQ s σ H Q I hq;refine wpAny_List_spliced (thn (h pos vQ s σ H _ I hq) λus s1 ⟨xs,H1,I1,r,z,q⟩=>⟨by rw[<-r.length];exact z,?_⟩);have hf:H1 s1.heap.objs.size=vJ:=I1.hok.fresh (zx _);refine⟨.ref s1.heap.objs.size,upd H1 s1.heap.objs.size (.lst xs),I1.laid (t':=s1.toks) (λb u e=>zJ _ e) (zx _) ?_,rfl,q _ hf⟩;exact⟨z,us,0,r,zI _ rfl⟩
end
noncomputable abbrev Sp:=List V->Hp->VK->XK->Prop
noncomputable abbrev CXT:=List Env->Hp->jM->XK->jO->jM->Prop
structure Env0 (P:jI) (w:jP) (K:PySem.W.Frag) (mg:Str->Option jO) (base:Heap) (A:jE) (outer:List Env) (s:jM) (H:Hp):Prop where
 frames:A.frames=vZ outer
 mod:Mod K mg base
 bs:∀b o,base.get? b=vZ o->s.heap.get? b=vZ o/\H b=vJ
 bsz:base.objs.size<=s.heap.objs.size
 funs:s.heap.FunFrames base outer
 frf:∀b∈frs outer,H b=vJ
 hok:HOk P w H s.heap
 bare:AllBare s.gens
def CE(outer:List Env)(P:jI)(w:jP)(H:Hp)(s:jM)(Q:VK)(u:jO)(s':jM):Prop:=
 ∃v H',s'.os=s.os/\AllBare s'.gens/\Un (frs outer) [] H H' s.heap s'.heap/\HOk P w H' s'.heap/\RelV v u/\Q v H'
def CR(CX:CXT)(outer:List Env)(P:jI)(w:jP)(H:Hp)(s:jM)(Q:VK)(E:XK)(r:Result)(s':jM):Prop:=
 match r with
 |.ok (.ret u)=>CE outer P w H s Q u s'
 |.ok _=>False
 |.error e=>CX outer H s E e s'
structure FnOk (P:jI) (w:jP) (K:PySem.W.Frag) (mg:Str->Option jO) (base:Heap) (CX:CXT) (k:Nat) (f:jD) (fd:jG) (ps:List Str) (sp:Sp):Prop where
 len:∀vs H Q E,sp vs H Q E->vs.length=ps.length
 run:∀(A:jE)(outer:List Env)(s:jM)(H:Hp)(args:Args)(us:List jO)(vs:List V)(Q:VK)(E:XK),Room k A->Env0 P w K mg base A outer s H->BindsTo s fd args (ps.zip us)->Vals vs us->sp vs H Q E->
  codeAny (xA P w) A (.call (.ref f) args) (CR CX outer P w H s Q E) s
theorem Env0.make{A:jE}{outer:List Env}(e:Env0 P w K mg base A outer s H)(C:jD)(us:List jO)(kw:List (Str×jO)):
  Env0 P w K mg base (A.under (.builtin "type.__call__" ⟨.ref C::us,kw⟩)) outer s H:=⟨by first|exact e.frames|(simpa[Around.under,Code.envs,Code.isFrame,pushEnvs]using e.frames),e.mod,e.bs,e.bsz,e.funs,e.frf,e.hok,e.bare⟩
section
variable{X:Cx}{vQ:List (jD×Obj)}{σ:St}{H:Hp}{s s':jM}
theorem Inv.env0(I:Inv X vQ σ H s):Env0 X.prog X.w X.K X.mg X.base X.A X.stack s H:=
 ⟨I.ok.frames,I.ok.mod,I.bs,z9 I.ok.bsz I.sz,I.stack,I.Wr,I.hok,I.bare⟩
theorem Inv.after{Q:VK}(I:Inv X vQ σ H s)(h:CE X.stack X.prog X.w H s Q u s'):EP X vQ σ Q u s':=by obtain⟨v,H',os,bare,un,hok,r,q⟩:=h;obtain⟨hh,g,d,t,os'⟩:=s';obtain rfl:os'=s.os:=os;exact⟨v,H',I.call (h':=hh) (g':=g) (d':=d) (t':=t) (ch:=[]) un hok bare (λb z=>absurd z (by simp)),r,q⟩
end
noncomputable def ZOq(sp:Sp)(dvs:List V)(E:XK)(t:TA):TE:=λσ H Q=>t σ H λvs H1=>sp (vs++dvs) H1 Q E
def Binds(K:PySem.W.Frag)(fd:jG)(ps:List Str)(ds:List jO):Prop:=
 ∀(s:jM)(us:List jO),K.In s.heap->(us++ds).length=ps.length->BindsTo s fd ⟨us,[]⟩ (ps.zip (us++ds))
theorem Binds.all{fd:jG}{ps:List Str}(h:∀us:List jO,us.length=ps.length->bindArgs fd ⟨us,[]⟩=pure (ps.zip us)):Binds K fd ps []:=λs us _ hl=>by rw[zP]at hl⊢;exact .of_eq (h us hl)
def Passes(CX:CXT)(X:Cx)(E:XK):Prop:=∀(vQ:List (jD×Obj))(σ:St)(H:Hp)(s:jM)(e:jO)(s':jM),Inv X vQ σ H s->CX X.stack H s E e s'->X.xe e s'
section
variable{X:Cx}{CX:CXT}{k:Nat}{f C:jD}{fd:jG}{ps:List Str}{sp:Sp}{dvs:List V}{ds:List jO}{E:XK}{x m:Str}{p pos apos:Pos}{e o:jF}{es:List jF}{ta:TE}{t:TA}
theorem ZQT{Q:VK}{vs:List V}(F:FnOk X.prog X.w X.K X.mg X.base CX k f fd ps sp)(hr:Room k X.A)(hb:Binds X.K fd ps ds)(hd:Vals dvs ds)(hx:Passes CX X E)
  (I:Inv X vQ σ H s) (r:Vals vs us) (h:sp (vs++dvs) H Q E):xG (xA X.prog X.w) X.A (call (.ref f) us) (EP X vQ σ Q) X.xe s:=by
 have r2:Vals (vs++dvs) (us++ds):=r.append hd;have hl:(us++ds).length=ps.length:=by rw[<-r2.length];exact F.len _ _ _ _ h
 refine wpAny_call (xX (F.run X.A X.stack s H ⟨us,[]⟩ (us++ds) (vs++dvs) Q E hr I.env0 (hb s us I.kIn hl) r2 h) λr s' hq=>?_);cases r with
 |error e=>exact hx vQ σ H s e s' I hq
 |ok fl=>
  cases fl with
  |ret u=>exact I.after hq
  |next=>exact False.elim hq
  |brk=>exact False.elim hq
  |cont=>exact False.elim hq
theorem ZCJ(F:FnOk X.prog X.w X.K X.mg X.base CX k f fd ps sp)(hr:Room k X.A)(hg:Gl X x)(hm:X.mg x=vZ (.ref f))(hk:PySem.W.keepIn X.K (.ref f)=vX)(hb:Binds X.K fd ps ds)(hd:Vals dvs ds)(hx:Passes CX X E)
  (ha:PA X (e::es) t) (hdb:(x==("__debug__":Str))=vV:=by decide) (he:xE (e::es) X.env=(vV,eval e X.env)::xE es X.env:=by rfl) (hpl:(jT pos (xE es X.env)).any (·.1)=vV:=by rfl):
  PE X (.Call (.Name x p) (e::es) [] pos) (ZOq sp dvs E t):=by
 intro vQ s σ H Q I h;refine xH (Nk I hg hm ?_ hdb);refine PySem.W.callWith_K (h₀:=X.base) I.ok.mod.kin hk (thn (ha pos vQ s σ H _ I h) λus s1 ⟨vs,H1,I1,r,q⟩=>⟨I1.kIn,?_⟩) he hpl;exact ZQT F hr hb hd hx I1 r q
end
section
variable{X:Cx}{CX:CXT}{k:Nat}{f C:jD}{fd:jG}{ps ks:List Str}{sp:Sp}{E:XK}{x m:Str}{p pos apos kpos:Pos}{e o:jF}{es:List jF}{kws:List Keyword}{te ta:TE}{t tk:TA}{nm:Option Str}
variable{g:List jO->List jO->List jO}{gV:List V->List V->List V}
end
structure FnScope (N P:List Str) (sc:jL):Prop where
 kind:sc.kind=.function
 co:sc.isCoroutine=vV
 gen:sc.isGenerator=vV
 nd:N.Nodup
 pre:N.take P.length=P
 par:∀x∈P,sc.names.lookup x=vZ .local∨sc.names.lookup x=vZ .cell
 nofree:∀y∈sc.names,y.2≠ .free
theorem ZGZ:∀{binds:List (Str×jO)}{m:Str->Option jO},(∀v,(x,v)∉binds)->bindL kindOf binds m x=m x
 |[],_,_=>rfl
 | (n,v)::r,m,h=>by
  unfold bindL;rw[ZGZ λw hw=>h w (zY _ hw)];split
  ·have:x≠n:=by rintro rfl;exact h v z8
   simp[this]
  ·rfl
theorem ZHt:∀{binds:List (Str×jO)}{m:Str->Option jO},(∀v,(x,v)∉binds)->bindC kindOf binds m x=m x
 |[],_,_=>rfl
 | (n,v)::r,m,h=>by
  unfold bindC;rw[ZHt λw hw=>h w (zY _ hw)];split
  ·rfl
  ·have:x≠n:=by rintro rfl;exact h v z8
   simp[this]
theorem ZIy{v:jO}:∀{P:List Str}{vs:List jO}{i:Nat}{m:Str->Option jO},P.Nodup->P[i]?=vZ x->vs[i]?=vZ v->kindOf x=vZ .local->
  bindL kindOf (P.zip vs) m x=vZ v
 |[],_,_,_,_,h,_,_=>by simp at h
 |_::_,[],_,_,_,_,h,_=>by simp at h
 |p::P,w::vs,0,m,nd,h1,h2,hk=>by simp at h1 h2;subst h1;subst h2;show bindL kindOf ((p,w)::P.zip vs) m p=_;unfold bindL;rw[ZGZ λv hv=>(jZ.mp nd).1 (List.of_mem_zip hv).1,if_pos hk];simp
 |p::P,w::vs,i+1,m,nd,h1,h2,hk=>by show bindL kindOf ((p,w)::P.zip vs) m x=_;unfold bindL;exact ZIy (i:=i) (jZ.mp nd).2 (by simpa using h1) (by simpa using h2) hk
theorem ZHH{v:jO}:∀{P:List Str}{vs:List jO}{i:Nat}{m:Str->Option jO},P.Nodup->P[i]?=vZ x->vs[i]?=vZ v->kindOf x≠vZ .local->
  bindC kindOf (P.zip vs) m x=vZ v
 |[],_,_,_,_,h,_,_=>by simp at h
 |_::_,[],_,_,_,_,h,_=>by simp at h
 |p::P,w::vs,0,m,nd,h1,h2,hk=>by simp at h1 h2;subst h1;subst h2;show bindC kindOf ((p,w)::P.zip vs) m p=_;unfold bindC;rw[ZHt λv hv=>(jZ.mp nd).1 (List.of_mem_zip hv).1,if_neg hk];simp
 |p::P,w::vs,i+1,m,nd,h1,h2,hk=>by show bindC kindOf ((p,w)::P.zip vs) m x=_;unfold bindC;exact ZHH (i:=i) (jZ.mp nd).2 (by simpa using h1) (by simpa using h2) hk
noncomputable def start(N:List Str)(vs:List V):St:=vs.map vZ++zk (N.length-vs.length) vJ
noncomputable def J6(CX:CXT)(P:jI)(w:jP)(K:PySem.W.Frag)(mg:Str->Option jO)(base:Heap)(N:List Str)(qual:Str)(scope:jL)(f:jD)(cd:jO)(A:jE)(outer:List Env)(s:jM)(H:Hp)(E:XK):Cx where
 prog:=P
 w:=w
 K:=K
 mg:=mg
 base:=base
 A:=A.deeper (envOfC qual scope s.heap.objs.size f cd)
 N:=N
 s₀:=s
 H₀:=H
 env:=envOfC qual scope s.heap.objs.size f cd
 outer:=outer
 stack:=envOfC qual scope s.heap.objs.size f cd::outer
 ex:=[]
 calm:=vX
 fn:=λ_=>vX
 pn:=[]
 xe:=λe s'=>xG (xA P w) (A.deeper (envOfC qual scope s.heap.objs.size f cd)) (leaving (envOfC qual scope s.heap.objs.size f cd) e) (λ_ s''=>CX outer H s E e s'') (λe' s''=>CX outer H s E e' s'') s'
theorem ZH9{sc:jL}{n:Nat}(h:sc.names.lookup x=vZ .cell):∃c,(cellsFrom n sc.names []).lookup x=vZ c:=by have q:=PySem.W.cellsFrom_some sc.names n [] (.inl h);exact Option.isSome_iff_exists.mp q
theorem ZPj{CX:CXT}{N ps:List Str}{qual:Str}{scope:jL}{f:jD}{cd:jO}{A:jE}{outer:List Env}{s1:jM}{E:XK}{vs:List V}
  (S:FnScope N ps scope) (hd:A.handled=vJ) (e0:Env0 P w K mg base A outer s H) (hl:vs.length=ps.length) (r:Vals vs us)
  (x:InCallC s s.heap.objs.size (bindL (envOfC qual scope s.heap.objs.size f cd).kindOf (ps.zip us) λ_=>vJ) (cellsFrom (s.heap.objs.size+1) scope.names []) (bindC (envOfC qual scope s.heap.objs.size f cd).kindOf (ps.zip us) λ_=>vJ) s1):
  Inv (J6 CX P w K mg base N qual scope f cd A outer s H E) [] (start N vs) H s1:=by
 have hpl:ps.length<=N.length:=by have:=congrArg List.length S.pre;rw[qW]at this;lia
 obtain⟨h1,tk,rfl,hk⟩:=x.done
 have noA:∀b:jD,b∉(J6 CX P w K mg base N qual scope f cd A outer s H E).ex:=λb z=>absurd (show b∈([]:List jD)from z) (by simp)
 refine⟨⟨e0.mod,S.kind,rfl,rfl,zx _,λy z c h1 h2=>?_,λy hy=>?_,λy c _ h=>?_,λ_=>hd,Around.frames_deeper e0.frames,.inr ⟨rfl,rfl⟩,λb z=>absurd z (noA b),e0.bs,e0.bsz,λb _ _=>noA b,λb z=>absurd z (noA b),e0.funs,e0.frf⟩,
  rfl,e0.bare,Un.kept hk,⟨_,x.toInCall.ns,λi y v h1 h2 h3=>?_⟩,λy c h=>⟨_,x.cell y c h⟩,e0.hok.fresh (zx _),λy c h=>?_,λp hp=>absurd (show p∈([]:List (jD×Obj))from hp) (by simp),e0.hok.kept hk,?_⟩
 ·exact name_of_addr x.apart (PySem.mem_of_lookup h1) (PySem.mem_of_lookup h2)
 ·have hy:scope.names.lookup y=vZ .cell∨scope.names.lookup y=vZ .free:=hy;rcases hy with hy|hy
  ·exact ZH9 hy
  ·exact absurd rfl (S.nofree _ (PySem.mem_of_lookup hy))
 ·exact Nat.le_of_lt (x.above y c (PySem.mem_of_lookup h))
 ·have hi:i<vs.length:=by
   unfold start at h2;by_cases hi:i<vs.length
   ·exact hi
   ·rw[zG (by simpa using hi)]at h2;rw[qG]at h2
    split at h2<;>cases h2
  have ha:vs[i]?=vZ v:=by
   unfold start at h2;rw[zS (by simpa using hi),zw]at h2;cases e:vs[i]? with
   |none=>rw[e]at h2;cases h2
   |some a=>rw[e]at h2;cases h2;rfl
  obtain⟨u,hu,rv⟩:=r.get ha;have hp:ps[i]?=vZ y:=by rw[<-S.pre,qS (by lia)];exact h1
  have ndP:ps.Nodup:=by rw[<-S.pre];exact S.nd.sublist (List.take_sublist _ _)
  refine⟨u,rv,?_⟩;rcases S.par y (jV hp)with k|k
  ·exact .inl ⟨k,ZIy ndP hp hu k⟩
  ·obtain⟨c,e⟩:=ZH9 (n:=s.heap.objs.size+1) k;refine .inr ⟨.inl k,c,e,?_⟩;have q:=x.cell y c e;rw[ZHH ndP hp hu (by show scope.names.lookup y≠_;rw[k];decide)]at q;exact q
 ·exact e0.hok.fresh (Nat.le_of_lt (x.above y c (PySem.mem_of_lookup h)))
 ·unfold start;show _=N.length;rw[zU,zZ,qN];lia
theorem ZI7{CX:CXT}{f:jD}{name qual:Str}{params:Arguments}{body:List jN}{scope:jL}{dV kV doc pm cdv ct oc:jO}{an od:Option jD}
  {osl:Array (Option jO)} {N ps:List Str} {sp:Sp} (lk:K.lookup f=vZ ⟨oc,od,.func (PySem.W.fnOf name qual params body scope dV kV doc pm an cdv ct),osl⟩) (hcd:PySem.W.codeIn K cdv qual=vX) (S:FnScope N ps scope)
  (len:∀vs H Q E,sp vs H Q E->vs.length=ps.length)
  (hbody:∀(A:jE)(outer:List Env)(s:jM)(H:Hp)(vs:List V)(Q:VK)(E:XK),Room k (A.deeper (envOfC qual scope s.heap.objs.size f cdv))->sp vs H Q E->
   ∃t,PSs (J6 CX P w K mg base N qual scope f cdv A outer s H E) body t/\t {nx:=λ_ H'=>Q .non H',rt:=Q} (start N vs) H):
  FnOk P w K mg base CX (k+1) f (PySem.W.fnOf name qual params body scope dV kV doc pm an cdv ct) ps sp:=by
 refine⟨len,λA outer s H args us vs Q E hr e0 hb r hsp=>?_⟩;have hl:=len _ _ _ _ hsp;have KX:K.In s.heap:=e0.mod.kin.keeps λb o e=>(e0.bs b o e).1
 have lim:s.heap.NoLimit:=e0.mod.nolimit.keeps λb o e=>(e0.bs b o e).1
 have hkind:∀y∈ps.zip us,scope.names.lookup y.1=vZ .local∨(scope.names.lookup y.1=vZ .cell/\((cellsFrom (s.heap.objs.size+1) scope.names []).lookup y.1).isSome=vX):=λ⟨n,v⟩ hy=>by
  rcases S.par n (List.of_mem_zip hy).1 with q|q
  ·exact .inl q
  ·exact .inr ⟨q,PySem.W.cellsFrom_some _ _ _ (.inl q)⟩
 refine codeAny_call_function hr.depth (KX _ _ lk) rfl S.co S.gen rfl (PySem.W.codeRec_of KX hcd) (hb _ _ _ _ ?_);refine wpAny_newFunctionEnv_cells S.kind hkind λenv he s1 x=>?_
 subst he;refine⟨lim.keeps x.toInCall.keep,codeAny_func ?_⟩;obtain⟨t,ht,hq⟩:=hbody A outer s H vs Q E (hr.deeper _) hsp;have I:Inv (J6 CX P w K mg base N qual scope f cdv A outer s H E) [] (start N vs) H s1:=ZPj S hr.hd e0 hl r x;refine xN (ht [] s1 (start N vs) H _ I hq) (λfl s' hs=>?_) λe s' hs=>hs
 have fin:∀{σ':St}{H':Hp}{v:V}{u:jO},Inv (J6 CX P w K mg base N qual scope f cdv A outer s H E) [] σ' H' s'->RelV v u->Q v H'->CE outer P w H s Q u s':=
  λ{σ' H' v u}J rv q=>⟨v,H',J.os,J.bare,J.base,J.hok,rv,q⟩
 cases fl with
 |ret u=>
  obtain⟨v,σ',H',J,rv,q⟩:=hs;exact fin J rv q
 |next=>
  obtain⟨σ',H',J,q⟩:=hs;exact fin (v:=V.non) (u:=Value.none) J rfl q
 |brk=>
  obtain⟨_,_,_,q⟩:=hs;exact False.elim q
 |cont=>
  obtain⟨_,_,_,q⟩:=hs;exact False.elim q
section
variable{X:Cx}{x:Str}{p pos:Pos}{e:jF}{es:List jF}{t:TA}{id T:String}{r:List V->Hp->VK->Prop}
noncomputable def tCB(r:List V->Hp->VK->Prop)(t:TA):TE:=λσ H Q=>t σ H λvs H1=>r vs H1 Q
theorem ZGv(hc:CallR X (.builtin id) r)(hg:Gl X x)(hm:X.mg x=vJ)(hv:xZ x=vZ (.builtin id))(ha:PA X (e::es) t)(hn:x≠"__name__":=by decide)(hdb:(x==("__debug__":Str))=vV:=by decide)
  (he:xE (e::es) X.env=(vV,eval e X.env)::xE es X.env:=by rfl) (hpl:(jT pos (xE es X.env)).any (·.1)=vV:=by rfl):PE X (.Call (.Name x p) (e::es) [] pos) (tCB r t):=by
 intro vQ s σ H Q I h;refine xH (R9 I hg hm hv ?_ hn hdb);exact PyProof.Rows.callWith_builtin1 (thn (ha pos vQ s σ H _ I h) λus s1 ⟨vs,H1,I1,r1,q1⟩=>hc vQ s1 σ H1 vs us Q I1 r1 q1) he hpl
theorem ZOz(hc:CallR X (.type T) r)(hg:Gl X x)(hm:X.mg x=vJ)(hv:xZ x=vZ (.type T))(ha:PA X (e::es) t)(hn:x≠"__name__":=by decide)(hdb:(x==("__debug__":Str))=vV:=by decide)
  (he:xE (e::es) X.env=(vV,eval e X.env)::xE es X.env:=by rfl) (hpl:(jT pos (xE es X.env)).any (·.1)=vV:=by rfl):PE X (.Call (.Name x p) (e::es) [] pos) (tCB r t):=by
 intro vQ s σ H Q I h;refine xH (R9 I hg hm hv ?_ hn hdb);exact PyProof.Rows.callWith_type1 (thn (ha pos vQ s σ H _ I h) λus s1 ⟨vs,H1,I1,r1,q1⟩=>hc vQ s1 σ H1 vs us Q I1 r1 q1) he hpl
end
end _L
namespace HT
open PySem PyProof.Rows
section
open PySem.SeqAt
open PySem.AutoSeq1 (wpAny_loadPart')
open PySem.MeetsSeq PySem.MeetsSeq2 PySem.MeetsSeq3
end
section
variable{prog:jI}{w:jP}{A:jE}{E:jO->jM->Prop}{s:jM}
theorem ZMt{t b:jD}{vs ws:List jO}{Q:jO->jM->Prop}(ht:IsTup s.heap t vs.toArray)(hb:IsTup s.heap b ws.toArray)(hv:vs≠[])
  (h1:ws=[]->Q (.ref t) s) (h2:ws≠[]->Q (.ref s.heap.objs.size) {s with heap:=s.heap.push {cls:=.type "tuple",data:=.seq (vs++ws).toArray}})
  (hsz:vs.length+ws.length<=sizeLine):xG (xA prog w) A (xQ .Add (.ref t) (.ref b)) Q E s:=by
 obtain⟨⟨cls,dd,data,sl⟩,ho,hc,n,hd⟩:=id ht;obtain⟨⟨cls2,dd2,data2,sl2⟩,ho2,hc2,n2,hd2⟩:=id hb;simp only at hc hd hc2 hd2;subst hc hd hc2 hd2;have e:vs.toArray++ws.toArray=(vs++ws).toArray:=by simp
 by_cases hw:ws=[]
 ·exact concat_meets ⟨_,ho,rfl⟩ ⟨_,ho2,rfl⟩ noFill_tuple_add seq_tuple_add PySem.F.slot_tuple_add PySem.F.entry_tuple_add (PySem.F.args_tuple_add_2 _ _)
   (tuple_addW1 t b vs.toArray ws.toArray n n2 dd dd2 sl sl2 (by simpa using hv) (by simp[hw])) ⟨ho,ho2,h1 hw⟩
 ·refine concat_meets ⟨_,ho,rfl⟩ ⟨_,ho2,rfl⟩ noFill_tuple_add seq_tuple_add PySem.F.slot_tuple_add PySem.F.entry_tuple_add (PySem.F.args_tuple_add_2 _ _)
   (tuple_addW2 t b vs.toArray ws.toArray n n2 dd dd2 sl sl2 (by simpa using hv) (by simpa using hw) (by rw[zK,zK];exact hsz)) ⟨ho,ho2,?_⟩
  rw[e];exact h2 hw
noncomputable def sIx(n d:Nat):Option Int->Nat
 |none=>d
 |some v=>if v<0 then(v+(n:Int)).toNat else min v.toNat n
theorem ZFz(n d:Nat)(hd:d<=n)(o:Option Int):sIx n d o<=n:=by
 cases o with
 |none=>exact hd
 |some v=>
  show(if v<0 then(v+(n:Int)).toNat else min v.toNat n)<=n;by_cases hv:v<0
  ·rw[if_pos hv];lia
  ·rw[if_neg hv];exact Nat.min_le_right _ _
theorem ZIj(v:Int)(n d:Nat):(if v<0 then max (v+(n:Int)) 0 else min v (n:Int))=((sIx n d (vZ v):Nat):Int):=by
 show(if v<0 then max (v+(n:Int)) 0 else min v (n:Int))=(((if v<0 then(v+(n:Int)).toNat else min v.toNat n):Nat):Int);by_cases hv:v<0
 ·simp only[if_pos hv];lia
 ·simp only[if_neg hv];lia
theorem ZLO(lo hi:Option Int)(n:Nat):Builtin.Slice.sliceAdjust lo hi 1 (n:Int)=(((sIx n 0 lo:Nat):Int),((sIx n n hi:Nat):Int)):=by
 have h1:¬((1:Int)<0):=by lia
 unfold Builtin.Slice.sliceAdjust;simp only[h1,if_false];refine Prod.ext ?_ ?_
 ·cases lo with
  |none=>rfl
  |some v=>exact ZIj v n 0
 ·cases hi with
  |none=>rfl
  |some v=>exact ZIj v n n
theorem ZKK(i j:Nat):Builtin.Slice.slicePlaces (i:Int) (j:Int) 1=j-i:=by
 unfold Builtin.Slice.slicePlaces;have h1:(1:Int)>0:=by lia
 simp only[h1,if_true,Int.ediv_one]
 split <;> lia
theorem ZJf{v:jO}{o:Option Int}{Q:Option Int->jM->Prop}(p:IsPart v o)(h:Q o s):xG (xA prog w) A (Builtin.Slice.slicePartIndex v) Q E s:=by
 cases p with
 |none=>exact slicePart_none h
 |int i t=>exact slicePart_int h
theorem ZJd{sl:jD}{vl vu:jO}{lo hi:Option Int}{n:Nat}{Q:Int×Int×Nat->jM->Prop}(hs:s.heap.IsSliceOf sl vl vu .none)(pl:IsPart vl lo)(pu:IsPart vu hi)
  (h:Q (((sIx n 0 lo:Nat):Int),1,sIx n n hi-sIx n 0 lo) s):xG (xA prog w) A (Builtin.Slice.sliceApplied (.ref sl) (pure (n:Int))) Q E s:=by
 obtain⟨os,hos,hcs,hds⟩:=id hs;unfold Builtin.Slice.sliceApplied Builtin.Slice.sliceFields;refine xI (xI (xL hos hds (x:=vl) rfl (xI (xL hos hds (x:=vu) rfl (xI (xL hos hds (x:=.none) rfl (xR ?_)))))));refine xI (slicePart_none ?_);show xG _ _ (if((1:Int)==0)=vX then _ else _) _ _ s;rw[if_neg (by decide)];refine xI (ZJf pl (xI (ZJf pu (xI (xR ?_)))))
 show xG _ _ (match Builtin.Slice.sliceAdjust lo hi 1 (n:Int)with |(lo,hi)=>pure (lo,(1:Int),Builtin.Slice.slicePlaces lo hi 1)) _ _ s
 rw[ZLO lo hi n];show xG _ _ (pure (((sIx n 0 lo:Nat):Int),(1:Int),Builtin.Slice.slicePlaces ((sIx n 0 lo:Nat):Int) ((sIx n n hi:Nat):Int) 1)) _ _ s;rw[ZKK];exact xR h
theorem ZKV(xs:Array jO)(i k:Nat):((zy k).filterMap λ(m:Nat)=>xs[((i:Int)+(m:Int)*1).toNat]?).toArray=((xs.toList.drop i).take k).toArray:=by
 have e:(λ(m:Nat)=>xs[((i:Int)+(m:Int)*1).toNat]?)=λm=>xs[i+m]? :=by
  funext m;have:((i:Int)+(m:Int)*1).toNat=i+m:=by lia
  rw[this]
 rw[e];have:=pick_run xs i k;rw[qU]at this;have e2:((λx=>xs[x]?) ∘ λx=>i+x)=λm=>xs[i+m]? :=rfl
 rw[e2]at this;rw[this]
theorem ZMz{t sl:jD}{items:Array jO}{vl vu:jO}{lo hi:Option Int}{Q:jO->jM->Prop}(ht:IsTup s.heap t items)(hs:s.heap.IsSliceOf sl vl vu .none)(pl:IsPart vl lo)(pu:IsPart vu hi)
  (hw:¬(sIx items.size 0 lo=0/\sIx items.size items.size hi=items.size))
  (h:Q (.ref s.heap.objs.size) {s with heap:=s.heap.push {cls:=.type "tuple",data:=.seq ((items.toList.drop (sIx items.size 0 lo)).take (sIx items.size items.size hi-sIx items.size 0 lo)).toArray}})
  (hsz:items.size<=sizeLine):xG (xA prog w) A (getItem (.ref t) (.ref sl)) Q E s:=by
 have htake:sizeOk (.seq ((items.toList.drop (sIx items.size 0 lo)).take (sIx items.size items.size hi-sIx items.size 0 lo)).toArray):=by show((items.toList.drop (sIx items.size 0 lo)).take (sIx items.size items.size hi-sIx items.size 0 lo)).toArray.size<=sizeLine;rw[zK,qW,qK,jY];lia
 have hj:sIx items.size items.size hi<=items.size:=ZFz _ _ (zx _) hi;obtain⟨os,hos,hcs,hds⟩:=id hs;have hTs:s.TypeIs (.ref sl) "slice":=⟨os,hos,hcs⟩;unfold getItem
 try with_reducible refine xM ?_
 first|refine xI (xR ?_)|skip
 refine xI (wpAny_sequenceKey ht.typeIs (by decide) ?_);refine xI (wpAny_callSpecial?_slot (name:=Str.ofString "__getitem__") ht.typeIs PyProof.Rows.slot_tuple_getitem
  (wpAny_call_entry PyProof.Rows.slot_tuple_getitem ht.typeIs entry_tuple_getitem ?_ (args_tuple_getitem _ _)))
 show xG _ _ (Builtin.Tuple.tupleItemsOf (.ref t) >>=_) _ _ s;refine xI (tupleItemsOf_ ht ?_);refine xI (wpAny_typeOf hTs ?_);rw[if_pos (by decide)];refine xI (ZJd hs pl pu ?_);have hno:¬((((sIx items.size 0 lo:Nat):Int)==0&&(1:Int)==1&&(sIx items.size items.size hi-sIx items.size 0 lo)==items.size)=vX):=by intro q;rw[zV,zV]at q;have q1:((sIx items.size 0 lo:Nat):Int)=0:=eq_of_beq q.1.1;have q2:sIx items.size items.size hi-sIx items.size 0 lo=items.size:=eq_of_beq q.2;exact hw ⟨by lia,by lia⟩
 show xG _ _ (if(((sIx items.size 0 lo:Nat):Int)==0&&(1:Int)==1&&(sIx items.size items.size hi-sIx items.size 0 lo)==items.size)=vX then _ else _) _ _ s;rw[if_neg hno,ZKV]
 first
  |exact xI (m:=Builtin.Tuple.tupleExact _) (xO (xR ⟨_,rfl,xR h⟩) htake)
  |exact xI (m:=Builtin.Tuple.tupleExact _) (xO (xI (xR (xR ⟨_,rfl,xR h⟩))) htake)
  |exact xI (xI (m:=Builtin.Tuple.tupleExact _) (xO (xR (xR ⟨_,rfl,xR h⟩)) htake))
  |exact xI (xI (m:=Builtin.Tuple.tupleExact _) (xO (xR ⟨_,rfl,xR h⟩) htake))
end
end HT
namespace _L
open PySem PySem.Spec PyProof.Rows
variable{xs:List V}{vQ:List (jD×Obj)}{σ:St}{H:Hp}{s:jM}{its:List jO}
noncomputable abbrev TO:=St->Hp->(Option Int->Hp->Prop)->Prop
def PO(X:Cx)(e:Option jF)(t:TO):Prop:=
 ∀(vQ:List (jD×Obj))(s:jM)(σ:St)(H:Hp)(Q:Option Int->Hp->Prop),Inv X vQ σ H s->t σ H Q->
  xG (xA X.prog X.w) X.A (evalPart e X.env) (λu s'=>∃o H',Inv X vQ σ H' s'/\IsPart u o/\Q o H') X.xe s
noncomputable def ZK6:TO:=λ_ H Q=>Q vJ H
noncomputable def ZJq(t:TE):TO:=λσ H Q=>t σ H λx H1=>∃i,x=.int i/\Q (vZ i) H1
section
variable{X:Cx}{e:jF}{te:TE}{lo hi:Option jF}{tl th:TO}{pos p2:Pos}
theorem ZMo:PO X vJ ZK6:=by intro vQ s σ H Q I h;rw[evalPart_none];exact xR ⟨vJ,H,I,.none,h⟩
theorem ZNE(h:PE X e te):PO X (vZ e) (ZJq te):=by
 intro vQ s σ H Q I hw;rw[evalPart_some];refine thn (h vQ s σ H _ I hw) λu s1 ⟨x,H1,I1,r1,q1⟩=>?_
 obtain⟨i,rfl,q⟩:=q1;obtain⟨t,rfl⟩:=r1;exact⟨vZ i,H1,I1,.int i t,q⟩
def SlR(X:Cx)(r:V->Option Int->Option Int->Hp->VK->Prop):Prop:=
 ∀(vQ:List (jD×Obj))(s:jM)(σ:St)(H:Hp)(x:V)(v vl vu:jO)(lo hi:Option Int)(sl:jD)(Q:VK),Inv X vQ σ H s->RelV x v->s.heap.IsSliceOf sl vl vu .none->IsPart vl lo->IsPart vu hi->r x lo hi H Q->
  ∃T id,typeLookup (.type T) "__getitem__"=pure (vZ (.builtin id))/\s.TypeIs v T/\xG (xA X.prog X.w) X.A (getItem v (.ref sl)) (EP X vQ σ Q) X.xe s
theorem SlR.or{r r':V->Option Int->Option Int->Hp->VK->Prop}(h:SlR X r)(h':SlR X r'):SlR X (λx lo hi H Q=>r x lo hi H Q∨r' x lo hi H Q):=by
 intro vQ s σ H x v vl vu lo hi sl Q I rx hs pl pu q;rcases q with q|q
 ·exact h vQ s σ H x v vl vu lo hi sl Q I rx hs pl pu q
 ·exact h' vQ s σ H x v vl vu lo hi sl Q I rx hs pl pu q
noncomputable def tSl(r:V->Option Int->Option Int->Hp->VK->Prop)(te:TE)(tl th:TO):TE:=λσ H Q=>te σ H λx H1=>tl σ H1 λl H2=>th σ H2 λu H3=>r x l u H3 Q
theorem ZP6{r:V->Option Int->Option Int->Hp->VK->Prop}(hr:SlR X r)(he:PE X e te)(hl:PO X lo tl)(hu:PO X hi th):PE X (.Subscript e (.Slice lo hi vJ p2) pos) (tSl r te tl th):=by
 intro vQ s σ H Q I h;refine Subscript_ (thn (he vQ s σ H _ I h) λv s1 ⟨x,H1,I1,r1,q1⟩=>?_);refine wpAny_Slice (thn (hl vQ s1 σ H1 _ I1 q1) λvl s2 ⟨l,H2,I2,pl,q2⟩=>thn (hu vQ s2 σ H2 _ I2 q2) λvu s3 ⟨u,H3,I3,pu,q3⟩=>?_);rw[evalPart_none];refine xR ?_;have I4:Inv X vQ σ H3 {s3 with heap:=s3.heap.push {cls:=.type "slice",data:=.fields #[vl,vu,.none]}}:=I3.kept (t':=s3.toks) λb ob q=>zJ _ q
 obtain⟨T,id,hT,ht,hg⟩:=hr vQ {s3 with heap:=s3.heap.push {cls:=.type "slice",data:=.fields #[vl,vu,.none]}} σ H3 x v vl vu l u s3.heap.objs.size Q I4 r1 (Heap.IsSliceOf.new ..) pl pu q3;show xG (xA X.prog X.w) X.A (subscriptTail e (.Slice lo hi vJ p2) v (.ref s3.heap.objs.size)) (EP X vQ σ Q) X.xe {s3 with heap:=s3.heap.push {cls:=.type "slice",data:=.fields #[vl,vu,.none]}}
 exact tail_any (ops:=[.ref s3.heap.objs.size,v]) ht hT hg (by with_unfolding_all rfl)
def Ms(xs:List V)(lo hi:Option Int):List V:=(xs.drop (HT.sIx xs.length 0 lo)).take (HT.sIx xs.length xs.length hi-HT.sIx xs.length 0 lo)
theorem ZF4(xs:List V)(lo hi:Option Int):(Ms xs lo hi).length<=xs.length:=by unfold Ms;rw[qW,qK];lia
def rSlT(K:PySem.W.Frag):V->Option Int->Option Int->Hp->VK->Prop:=λx lo hi H Q=>∃a xs,x=.ref a/\SqT K H a xs/\
 ¬(HT.sIx xs.length 0 lo=0/\HT.sIx xs.length xs.length hi=xs.length)/\∀p,H p=vJ->Q (.ref p) (upd H p (.tup (Ms xs lo hi)))
theorem ZOu:SlR X (rSlT X.K):=by
 intro vQ s σ H x v vl vu lo hi sl Q I rx hs pl pu h;obtain⟨a,xs,rfl,hx,hw,q⟩:=h;cases rx;obtain⟨its,r,ht,hz⟩:=I.tuple hx;have hlen:its.toArray.size=xs.length:=by rw[zK];exact r.length.symm
 refine⟨"tuple",_,PyProof.Rows.slot_tuple_getitem.lookup,ht.typeIs,?_⟩;refine HT.ZMz ht hs pl pu (by rw[hlen];exact hw) ?_ (by rw[hlen];exact hz);rw[hlen];refine⟨.ref s.heap.objs.size,_,I.laid (t':=s.toks) (o:=.tup (Ms xs lo hi)) (λb ob q=>zJ _ q) (zx _) ?_,rfl,q _ (I.hok.fresh (zx _))⟩;exact⟨z9 (ZF4 xs lo hi) hz,_,(r.drop (HT.sIx xs.length 0 lo)).take (HT.sIx xs.length xs.length hi-HT.sIx xs.length 0 lo),IsTup.new _ _⟩
def ZHV(K:PySem.W.Frag):R2:=λx y H Q=>∃a b xs ys,x=.ref a/\y=.ref b/\SqT K H a xs/\SqT K H b ys/\xs≠[]/\xs.length+ys.length<=sizeLine/\
 (ys=[]->Q (.ref a) H)/\(ys≠[]->∀p,H p=vJ->Q (.ref p) (upd H p (.tup (xs++ys))))
theorem Vals.ZEC{us:List jO}(r:Vals xs us):us=[]↔xs=[]:=by
 cases r with
 |nil=>simp
 |cons _ _=>simp
theorem ZJo:OpR X (xQ .Add) (ZHV X.K):=by
 intro vQ s σ H x y v u Q I rx ry h;obtain⟨a,b,xs,ys,rfl,rfl,ha,hb,hx,hz,q1,q2⟩:=h;cases rx;cases ry;obtain⟨its,r1,p1,_⟩:=I.tuple ha;obtain⟨its2,r2,p2,_⟩:=I.tuple hb;refine HT.ZMt p1 p2 (λz=>hx (r1.ZEC.mp z)) (λz=>⟨.ref a,H,I,rfl,q1 (r2.ZEC.mp z)⟩) (λz=>?_) (by rw[<-r1.length,<-r2.length];exact hz);refine⟨.ref s.heap.objs.size,_,I.laid (t':=s.toks) (o:=.tup (xs++ys)) (λb ob q=>zJ _ q) (zx _) ?_,rfl,q2 (λw=>z (r2.ZEC.mpr w)) _ (I.hok.fresh (zx _))⟩
 exact⟨by rw[zU];exact hz,_,r1.append r2,IsTup.new _ _⟩
end
noncomputable def ixN(n:Nat)(i:Int):Option Nat:=if 0<=i then(if i<n then vZ i.toNat else vJ)else if -(n:Int)<=i then vZ (i+n).toNat else vJ
def atI{α:Type}(xs:List α)(i:Int):Option α:=(ixN xs.length i).bind λj=>xs[j]?
theorem ZHp{n:Nat}{i:Int}{j:Nat}(h:ixN n i=vZ j):seqIndex? i n=vZ j/\j<n/\ -(n:Int)<=i/\i<n:=by
 unfold ixN at h;by_cases h0:0<=i
 ·rw[if_pos h0]at h;by_cases h1:i<n
  ·rw[if_pos h1]at h;have e:i.toNat=j:=Option.some.inj h;exact⟨by rw[seqIndex_of h0 h1,e],by lia,by lia,h1⟩
  ·rw[if_neg h1]at h;cases h
 ·rw[if_neg h0]at h;by_cases h1: -(n:Int)<=i
  ·rw[if_pos h1]at h;have e:(i+n).toNat=j:=Option.some.inj h;exact⟨by rw[seqIndex_neg (by lia) h1,e],by lia,h1,by lia⟩
  ·rw[if_neg h1]at h;cases h
theorem ZDa{α:Type}{xs:List α}{i:Int}{v:α}(h:atI xs i=vZ v):∃j,seqIndex? i xs.length=vZ j/\xs[j]?=vZ v/\j<xs.length/\ -(xs.length:Int)<=i/\i<xs.length:=by
 unfold atI at h;cases e:ixN xs.length i with
 |none=>rw[e]at h;cases h
 |some j=>
  rw[e]at h;obtain⟨h1,h2,h3,h4⟩:=ZHp e;exact⟨j,h1,h,h2,h3,h4⟩
def PlainIx(b:jF):Prop:=∀o i,subscripted b vV o i=operate [o,i] (getItem o i)
def IxR(X:Cx)(r:R2):Prop:=
 ∀(value slice:jF)(vQ:List (jD×Obj))(s:jM)(σ:St)(H:Hp)(x y:V)(v u:jO)(Q:VK),Inv X vQ σ H s->RelV x v->RelV y u->r x y H Q->
  subscripted slice vV v u=operate [v,u] (getItem v u)->xG (xA X.prog X.w) X.A (subscriptTail value slice v u) (EP X vQ σ Q) X.xe s
def MtR(X:Cx)(id:String)(r:V->List V->Hp->VK->Prop):Prop:=
 ∀(vQ:List (jD×Obj))(s:jM)(σ:St)(H:Hp)(x:V)(xs:List V)(v:jO)(us:List jO)(Q:VK),Inv X vQ σ H s->RelV x v->Vals xs us->r x xs H Q->
  xG (xA X.prog X.w) X.A (call (.builtin id) (v::us)) (EP X vQ σ Q) X.xe s
section
variable{X:Cx}{a b:jF}{ta tb:TE}{pos:Pos}
theorem IxR.or{r r':R2}(h:IxR X r)(h':IxR X r'):IxR X (λx y H Q=>r x y H Q∨r' x y H Q):=by
 intro value slice vQ s σ H x y v u Q I rx ry q hs;rcases q with q|q
 ·exact h value slice vQ s σ H x y v u Q I rx ry q hs
 ·exact h' value slice vQ s σ H x y v u Q I rx ry q hs
theorem ZLR{r:R2}(hr:IxR X r)(ha:PE X a ta)(hb:PE X b tb)(hs:PlainIx b):PE X (.Subscript a b pos) (tOp r ta tb):=by intro vQ s σ H Q I h;exact Subscript_ (ZAc ha hb I h λv u s2 x y H2 I2 rx ry q=>hr a b vQ s2 σ H2 x y v u Q I2 rx ry q (hs _ _))
def rIxL(K:PySem.W.Frag):R2:=λx y H Q=>∃p xs i v,x=.ref p/\y=.int i/\SqL K H p xs/\atI xs i=vZ v/\Q v H
def rIxT(K:PySem.W.Frag):R2:=λx y H Q=>∃p xs i v,x=.ref p/\y=.int i/\SqT K H p xs/\atI xs i=vZ v/\Q v H
def rIxS:R2:=λx y H Q=>∃z i c,x=.str z/\y=.int i/\z.length<=sizeLine/\atI z.cps.toList i=vZ c/\Q (.str ⟨#[c]⟩) H
theorem ZLu:IxR X (rIxL X.K):=by
 intro value slice vQ s σ H x y v u Q I rx ry h hs;obtain⟨p,xs,i,z,rfl,rfl,hq,he,q⟩:=h;cases rx;obtain⟨t,rfl⟩:=ry;obtain⟨its,r,pl,hz⟩:=I.list hq;obtain⟨j,h1,h2,h3,h4,h5⟩:=ZDa he;obtain⟨w,ew,rw'⟩:=r.get h2;have hl:=r.length;have hn:=line63;have fin:EP X vQ σ Q w s:=⟨z,H,I,rw',q⟩;by_cases h0:0<=i
 ·have hj:i.toNat=j:=by rw[seqIndex_of h0 h5]at h1;exact Option.some.inj h1
  exact item_listR pl.isList h0 (by lia) (by rw[hj];simpa using ew) fin hs
 ·have hj:(i+(its.toArray.size:Int)).toNat=j:=by rw[seqIndex_neg (by lia) h4]at h1;rw[zK,<-hl];exact Option.some.inj h1
  exact subscriptTail_builtinR (x:=w) pl.isList.typeIs slot_list_getitem.lookup
   (wpAny_getItem_list_neg (Q:=λr s'=>r=w/\EP X vQ σ Q r s') pl.isList (by lia) (by rw[zK]<;>lia) (by lia) (by rw[hj];simpa using ew) ⟨rfl,fin⟩) hs
theorem ZKQ:IxR X (rIxT X.K):=by
 intro value slice vQ s σ H x y v u Q I rx ry h hs;obtain⟨p,xs,i,z,rfl,rfl,hq,he,q⟩:=h;cases rx;obtain⟨t,rfl⟩:=ry;obtain⟨its,r,pl,hz⟩:=I.tuple hq;obtain⟨j,h1,h2,h3,h4,h5⟩:=ZDa he;obtain⟨w,ew,rw'⟩:=r.get h2;have hl:=r.length;have hn:=line63;have fin:EP X vQ σ Q w s:=⟨z,H,I,rw',q⟩;exact subscriptTail_builtinR (x:=w) pl.typeIs slot_tuple_getitem.lookup
  (getItem_tuple (j:=j) (Q:=λr s'=>r=w/\EP X vQ σ Q r s') pl (by lia) (by lia) (by rw[zK,<-hl];exact h1) (by simpa using ew) ⟨rfl,fin⟩) hs
theorem ZQa:IxR X rIxS:=by
 intro value slice vQ s σ H x y v u Q I rx ry h hs;obtain⟨z,i,c,rfl,rfl,hz,he,q⟩:=h;obtain⟨t,rfl⟩:=rx;obtain⟨t',rfl⟩:=ry;obtain⟨j,h1,h2,h3,h4,h5⟩:=ZDa he;have hl:z.cps.toList.length=z.length:=by simp[Str.length]
 rw[hl]at h1 h4 h5;have hn:=line63;exact tail_any (typeIs_str s z t) slot_str_getitem.lookup (getItem_str (c:=c) (by have e1:decide (i < -(2^63:Int))=vV:=decide_eq_false (by lia);have e2:decide (i ≥ 2^63)=vV:=decide_eq_false (by lia);rw[e1,e2,Bool.or_false]) (by rw[h1];simpa using h2) ⟨.str ⟨#[c]⟩,H,I.tok _,⟨_,rfl⟩,q⟩) hs
def rIx(K:PySem.W.Frag):R2:=λx y H Q=>rIxL K x y H Q∨rIxT K x y H Q∨rIxS x y H Q
theorem ZPJ:IxR X (rIx X.K):=ZLu.or (ZKQ.or ZQa)
theorem ZLz(its:List jO)(n j:Nat)(u:jO):Obj.mapSeq (·.setIfInBounds j u) {cls:=.type "list",data:=.seq its.toArray n}={cls:=.type "list",data:=.seq (its.set j u).toArray n}:=by simp[Obj.mapSeq]
theorem Inv.lst{p:jD}(I:Inv X vQ σ H s)(h:H p=vZ (.lst xs)):
  ∃(its:List jO)(n:Nat),Vals xs its/\s.heap.get? p=vZ {cls:=.type "list",data:=.seq its.toArray n}/\xs.length<=sizeLine:=by
 obtain⟨z,its,n,r,e⟩:=I.hok p _ h;exact⟨its,n,r,e,z⟩
theorem Inv.ZLr{p:jD}{ys:List V}{its':List jO}{n n':Nat}{f:Obj->Obj}(I:Inv X vQ σ H s)(h:H p=vZ (.lst xs))
  (ho:s.heap.get? p=vZ {cls:=.type "list",data:=.seq its.toArray n}) (hf:f {cls:=.type "list",data:=.seq its.toArray n}={cls:=.type "list",data:=.seq its'.toArray n'}) (r:Vals ys its') (hz:ys.length<=sizeLine) (t:Nat):
  Inv X vQ σ (upd H p (.lst ys)) {s with heap:=s.heap.update p f,toks:=t}:=by
 have e:(s.heap.update p f).get? p=vZ {cls:=.type "list",data:=.seq its'.toArray n'}:=by rw[qj f ho (by rw[hf]<;>rfl),hf]
 refine I.write (x:=p) (e:=p) (by rw[h];trivial) (.inl rfl) (λb u hb q=>(qQ _ _ (Ne.symm hb)).trans q) ⟨_,e⟩ ?_;exact⟨hz,its',n',r,e⟩
def ZN6:V->V->V->Hp->(Hp->Prop)->Prop:=λo i v H Q=>∃p xs k j,o=.ref p/\i=.int k/\H p=vZ (.lst xs)/\ixN xs.length k=vZ j/\Q (upd H p (.lst (xs.set j v)))
theorem set_list:PSet X ZN6:=by
 intro vQ s σ H o i v ov iv u Q I ro ri rv h;obtain⟨p,xs,k,j,rfl,rfl,hp,hj,q⟩:=h;cases ro;obtain⟨t,rfl⟩:=ri;obtain⟨its,n,r,ho,hz⟩:=I.lst hp;obtain⟨h1,h2,h3,h4⟩:=ZHp hj;have hl:=r.length;have hn:=line63
 have I':Inv X vQ σ (upd H p (.lst (xs.set j v))) {s with heap:=s.heap.update p (Obj.mapSeq (·.setIfInBounds j u))}:=
  I.ZLr hp ho (ZLz its n j u) (r.set rv j) (by rw[jk];exact hz) s.toks
 by_cases h0:0<=k
 ·have hk:k.toNat=j:=by rw[seqIndex_of h0 h4]at h1;exact Option.some.inj h1
  exact PySem.W.ki_setAt ho h0 (by lia) (by rw[zK,<-hl];exact h4) (by rw[hk];exact⟨_,I',q⟩)
 ·have hk:(k+(its.toArray.size:Int)).toNat=j:=by rw[seqIndex_neg (by lia) h3]at h1;rw[zK,<-hl];exact Option.some.inj h1
  exact PySem.W.ki_setBack ho (by lia) (by rw[zK,<-hl];exact h3) (by lia) (by rw[hk];exact⟨_,I',q⟩)
theorem ZLF(lo hi:Option Int)(n:Nat):(xD lo hi vJ n).1=((HT.sIx n 0 lo:Nat):Int)/\(xD lo hi vJ n).2.1=((HT.sIx n n hi:Nat):Int)/\(xD lo hi vJ n).2.2=1:=by
 refine⟨?_,?_,rfl⟩
 ·cases lo with
  |none=>simp[xD,HT.sIx]
  |some i=>
   simp only[xD,HT.sIx,Option.getD_none,show(1:Int)>0 by decide,if_true];by_cases h:i<0
   ·simp only[h,if_true]<;>lia
   ·simp only[h,if_false]<;>lia
 ·cases hi with
  |none=>simp[xD,HT.sIx]
  |some i=>
   simp only[xD,HT.sIx,Option.getD_none,show(1:Int)>0 by decide,if_true];by_cases h:i<0
   ·simp only[h,if_true]<;>lia
   ·simp only[h,if_false]<;>lia
theorem ZNJ(its:List jO)(lo hi:Option Int):slicePick its.toArray lo hi vJ=((its.drop (HT.sIx its.length 0 lo)).take (HT.sIx its.length its.length hi-HT.sIx its.length 0 lo)).toArray:=by
 obtain⟨h1,h2,h3⟩:=ZLF lo hi its.toArray.size;unfold slicePick;rw[h1,h2,h3]
 simp only[sliceRange_one,pick_run,zK]<;>rfl
def rSlL(K:PySem.W.Frag):V->Option Int->Option Int->Hp->VK->Prop:=λx lo hi H Q=>∃a xs,x=.ref a/\SqL K H a xs/\∀p,H p=vJ->Q (.ref p) (upd H p (.lst (Ms xs lo hi)))
theorem ZO6:SlR X (rSlL X.K):=by
 intro vQ s σ H x v vl vu lo hi sl Q I rx hs pl pu h;obtain⟨a,xs,rfl,hx,q⟩:=h;cases rx;obtain⟨its,r,ht,hz⟩:=I.list hx;have hlen:=r.length;refine⟨"list",_,slot_list_getitem.lookup,ht.isList.typeIs,?_⟩
 refine wpAny_getItem_list_slice ht.isList hs pl pu .none (by simp) ?_ (by rw[zK]<;>lia)
 rw[ZNJ,<-hlen];refine⟨.ref s.heap.objs.size,_,I.laid (t':=s.toks) (o:=.lst (Ms xs lo hi)) (λb ob q=>zJ _ q) (zx _) ?_,rfl,q _ (I.hok.fresh (zx _))⟩;exact⟨z9 (ZF4 xs lo hi) hz,_,0,(r.drop (HT.sIx xs.length 0 lo)).take (HT.sIx xs.length xs.length hi-HT.sIx xs.length 0 lo),zI _ rfl⟩
noncomputable def Et:V->Bool
 |.non=>vX
 |.bl _=>vX
 |.int _=>vX
 |.str _=>vX
 |_=>vV
noncomputable def eqV:V->V->Bool
 |.non,.non=>vX
 |.bl a,.bl b=>a==b
 |.bl a,.int b=>(if a then 1 else 0)==b
 |.int a,.bl b=>a==(if b then 1 else 0)
 |.int a,.int b=>a==b
 |.str a,.str b=>a==b
 |_,_=>vV
theorem ZI5{A:jE}{y x:V}{u v:jO}(ry:RelV y u)(rx:RelV x v)(fy:Et y=vX)(fx:Et x=vX):SeqAt.EqAt A s u v (eqV y x):=by
 cases y with
 |non=>
  cases ry;cases x with
  |non=>cases rx;exact SeqAt.EqAt.same _
  |bl b=>cases rx;exact SeqAt.EqAt.none_bool b
  |int b=>obtain⟨t,rfl⟩:=rx;exact SeqAt.EqAt.none_int b t
  |str b=>obtain⟨t,rfl⟩:=rx;exact SeqAt.EqAt.none_str b t
  |_=>exact absurd (show vV=vX from fx) zv
 |bl a=>
  cases ry;cases x with
  |non=>cases rx;exact SeqAt.EqAt.bool_none a
  |bl b=>cases rx;exact SeqAt.EqAt.bool_bool a b
  |int b=>obtain⟨t,rfl⟩:=rx;exact SeqAt.EqAt.bool_int a b t
  |str b=>obtain⟨t,rfl⟩:=rx;exact SeqAt.EqAt.bool_str a b t
  |_=>exact absurd (show vV=vX from fx) zv
 |int a=>
  obtain⟨t',rfl⟩:=ry;cases x with
  |non=>cases rx;exact SeqAt.EqAt.int_none a t'
  |bl b=>cases rx;exact SeqAt.EqAt.int_bool a t' b
  |int b=>obtain⟨t,rfl⟩:=rx;exact SeqAt.EqAt.int_int a t' b t
  |str b=>obtain⟨t,rfl⟩:=rx;exact SeqAt.EqAt.int_str a t' b t
  |_=>exact absurd (show vV=vX from fx) zv
 |str a=>
  obtain⟨t',rfl⟩:=ry;cases x with
  |non=>cases rx;exact SeqAt.EqAt.str_none a t'
  |bl b=>cases rx;exact SeqAt.EqAt.str_bool a t' b
  |int b=>obtain⟨t,rfl⟩:=rx;exact SeqAt.EqAt.str_int a t' b t
  |str b=>obtain⟨t,rfl⟩:=rx;exact SeqAt.EqAt.str_str a t' b t
  |_=>exact absurd (show vV=vX from fx) zv
 |_=>exact absurd (show vV=vX from fy) zv
def eqU(x:V)(u:jO):Bool:=match u with
 |.none=>eqV .non x
 |.bool b=>eqV (.bl b) x
 |.int i _=>eqV (.int i) x
 |.str z _=>eqV (.str z) x
 |_=>vV
theorem ZHu{x y:V}{u:jO}(r:RelV y u)(f:Et y=vX):eqU x u=eqV y x:=by
 cases y with
 |non=>cases r;rfl
 |bl b=>cases r;rfl
 |int i=>obtain⟨t,rfl⟩:=r;rfl
 |str z=>obtain⟨t,rfl⟩:=r;rfl
 |_=>exact absurd (show vV=vX from f) zv
theorem Ry{x:V}:∀{xs:List V}{us:List jO},Vals xs us->xs.all Et=vX->us.any (eqU x)=xs.any λy=>eqV y x
 |_,_,.nil,_=>rfl
 |y::xs,u::us,.cons r t,f=>by rw[qH,zV]at f;rw[List.any_cons,List.any_cons,ZHu r f.1,Ry t f.2]
theorem Rm{A:jE}{x:V}{v:jO}(rx:RelV x v)(fx:Et x=vX):∀{xs:List V}{us:List jO},Vals xs us->xs.all Et=vX->∀u∈us,SeqAt.EqAt A s u v (eqU x u)
 |_,_,.nil,_=>λu hu=>by cases hu
 |y::xs,u::us,.cons r t,f=>λu' hu=>by
  rw[qH,zV]at f;rcases zq.mp hu with rfl|hu
  ·rw[ZHu r f.1];exact ZI5 r rx f.1 fx
  ·exact Rm rx fx t f.2 u' hu
def inV(x:V)(xs:List V):Bool:=xs.any λy=>eqV y x
def rIn(K:PySem.W.Frag)(neg:Bool):R2:=λx y H Q=>∃p xs,y=.ref p/\(SqL K H p xs∨SqT K H p xs)/\Et x=vX/\xs.all Et=vX/\Q (.bl (if neg then !inV x xs else inV x xs)) H
theorem ZJm:OpR X (xV .In) (rIn X.K vV):=by
 intro vQ s σ H x y v u Q I rx ry h;obtain⟨p,xs,rfl,hq,fx,fs,q⟩:=h;cases ry;rcases hq with hq|hq
 ·obtain⟨its,r,pl,hz⟩:=I.list hq;refine SeqAt.in_listAt (eqU x) pl.isList (λw hw=>Rm rx fx r fs w (by simpa using hw)) ⟨.bl _,H,I,rfl,?_⟩;rw[show its.toArray.any (eqU x)=its.any (eqU x) by simp,Ry r fs];exact q
 ·obtain⟨its,r,pl,hz⟩:=I.tuple hq;refine SeqAt.in_tupleAt (eqU x) pl (λw hw=>Rm rx fx r fs w (by simpa using hw)) ⟨.bl _,H,I,rfl,?_⟩;rw[show its.toArray.any (eqU x)=its.any (eqU x) by simp,Ry r fs];exact q
theorem ZL6:OpR X (xV .NotIn) (rIn X.K vX):=by
 intro vQ s σ H x y v u Q I rx ry h;obtain⟨p,xs,rfl,hq,fx,fs,q⟩:=h;cases ry;rcases hq with hq|hq
 ·obtain⟨its,r,pl,hz⟩:=I.list hq;refine SeqAt.notIn_listAt (eqU x) pl.isList (λw hw=>Rm rx fx r fs w (by simpa using hw)) ⟨.bl _,H,I,rfl,?_⟩;rw[show its.toArray.any (eqU x)=its.any (eqU x) by simp,Ry r fs];exact q
 ·obtain⟨its,r,pl,hz⟩:=I.tuple hq;refine SeqAt.notIn_tupleAt (eqU x) pl (λw hw=>Rm rx fx r fs w (by simpa using hw)) ⟨.bl _,H,I,rfl,?_⟩;rw[show its.toArray.any (eqU x)=its.any (eqU x) by simp,Ry r fs];exact q
theorem ZJn:CallR X (.builtin "len") (λxs H Q=>∃p ys,xs=[.ref p]/\(SqL X.K H p ys∨SqT X.K H p ys)/\Q (.int ys.length) H):=by
 intro vQ s σ H xs us Q I r h;obtain⟨p,ys,rfl,hq,q⟩:=h;obtain⟨u,rfl,rx⟩:=vals1 r;cases rx;have hn:=line63;rcases hq with hq|hq
 ·obtain⟨its,r',pl,hz⟩:=I.list hq;have hlen:=r'.length
  exact Calls.call_len_list pl.isList (by simp only[zK]<;>lia) ⟨.int ys.length,H,I.tok _,⟨s.toks+1,by rw[zK,hlen]⟩,q⟩
 ·obtain⟨its,r',pl,hz⟩:=I.tuple hq;have hlen:=r'.length
  exact len_tuple pl (by simp only[zK]<;>lia) ⟨.int ys.length,H,I.tok _,⟨s.toks+1,by rw[zK,hlen]⟩,q⟩
theorem ZPL:CallR X (.builtin "len") (λxs H Q=>∃z,xs=[.str z]/\z.length<=sizeLine/\Q (.int z.length) H):=by intro vQ s σ H xs us Q I r h;obtain⟨z,rfl,hz,q⟩:=h;obtain⟨u,rfl,t,rfl⟩:=vals1 r;have hn:=line63;exact len_str (by lia) ⟨.int z.length,H,I.tok _,⟨_,rfl⟩,q⟩
theorem CallR.or{f:jO}{r r':List V->Hp->VK->Prop}(h:CallR X f r)(h':CallR X f r'):CallR X f (λxs H Q=>r xs H Q∨r' xs H Q):=by
 intro vQ s σ H xs us Q I rs q;rcases q with q|q
 ·exact h vQ s σ H xs us Q I rs q
 ·exact h' vQ s σ H xs us Q I rs q
theorem ZMT:CallR X (.type "tuple") (λxs H Q=>∃p ys,xs=[.ref p]/\((SqL X.K H p ys/\∀l,H l=vJ->Q (.ref l) (upd H l (.tup ys)))∨(SqT X.K H p ys/\Q (.ref p) H))):=by
 intro vQ s σ H xs us Q I r h;obtain⟨p,ys,rfl,h⟩:=h;obtain⟨u,rfl,rx⟩:=vals1 r;cases rx;rcases h with⟨hq,q⟩|⟨hq,q⟩
 ·obtain⟨its,r',pl,hz⟩:=I.list hq;have hlen:=r'.length
  refine call_tuple_list pl.isList (λh' kp=>?_) (by simp only[zK]<;>lia)
  have I1:Inv X vQ σ H {s with heap:=h'}:=I.kept (t':=s.toks) kp;have I2:Inv X vQ σ (upd H h'.objs.size (.tup ys)) {s with heap:=h'.push {cls:=.type "tuple",data:=.seq its.toArray}}:=
   I1.laid (t':=s.toks) (λb o e=>zJ _ e) (zx _) (show ObjOk X.prog X.w _ _ _ (.tup ys)from⟨hz,its,r',IsTup.new _ _⟩)
  exact⟨.ref h'.objs.size,_,I2,rfl,q _ (I1.hok.fresh (zx _))⟩
 ·obtain⟨its,r',pl,hz⟩:=I.tuple hq;exact call_tuple_same pl ⟨.ref p,H,I,rfl,q⟩
def tyV(K:PySem.W.Frag)(T:String)(x:V)(H:Hp):Prop:=match x with
 |.str _=>T="str"
 |.int _=>T="int"
 | .ref p=>(T="list"/\∃xs,SqL K H p xs)∨(T="tuple"/\∃o,K.lookup p=vZ o/\o.cls=.type "tuple"/\o.dict=vJ)∨
   (T="dict"/\((∃kvs,H p=vZ (.dK kvs))∨∃kvs,H p=vZ (.dT kvs)))∨(T="set"/\∃S n,H p=vZ (.set S n))
 |_=>False
theorem ZMJ{T:String}{x:V}{v:jO}(I:Inv X vQ σ H s)(r:RelV x v)(ty:tyV X.K T x H):
  s.TypeIs v T/\∀a,v=.ref a->∃ob,s.heap.get? a=vZ ob/\ob.dict=vJ:=by
 cases x with
 |str z=>
  obtain⟨t,rfl⟩:=r
  cases(show T="str" from ty)
  exact⟨typeIs_str s z t,λ_ e=>nomatch e⟩
 |int i=>
  obtain⟨t,rfl⟩:=r
  cases(show T="int" from ty)
  exact⟨typeIs_int s i t,λ_ e=>nomatch e⟩
 | ref p=>
  cases r;rcases ty with⟨rfl,xs,hq⟩|⟨rfl,o,hk,hc,hd⟩|⟨rfl,hk⟩|⟨rfl,S,n,hk⟩
  ·obtain⟨its,_,pl,_⟩:=I.list hq;refine⟨pl.isList.typeIs,λa e=>?_⟩;cases e;obtain⟨o,n,e,c,hd,_⟩:=pl;exact⟨o,e,hd⟩
  ·refine⟨⟨o,I.kIn p o hk,hc⟩,λa e=>?_⟩;cases e;exact⟨o,I.kIn _ o hk,hd⟩
  ·have z:∃o,s.heap.get? p=vZ o/\o.ExactDict:=by
    rcases hk with⟨kvs,hk⟩|⟨kvs,hk⟩
    ·obtain⟨_,_,_,_,o,_,_,e,ex,_⟩:=I.hok p _ hk;exact⟨o,e,ex⟩
    ·obtain⟨_,_,_,_,o,_,_,e,ex,_⟩:=I.hok p _ hk;exact⟨o,e,ex⟩
   obtain⟨o,e,ex⟩:=z;refine⟨⟨o,e,ex.1⟩,λa e2=>?_⟩;cases e2;exact⟨o,e,ex.2.1⟩
  ·obtain⟨o,_,_,_,e,ex,_⟩:=I.hok p _ hk;refine⟨⟨o,e,ex.1⟩,λa e2=>?_⟩;cases e2;exact⟨o,e,ex.2.1⟩
 |_=>exact False.elim ty
noncomputable def tBM(K:PySem.W.Frag)(T:String)(r:V->List V->Hp->VK->Prop)(to:TE)(t:TA):TE:=λσ H Q=>to σ H λx H1=>tyV K T x H1/\t σ H1 λxs H2=>r x xs H2 Q
variable{o e:jF}{es:List jF}{to:TE}{t:TA}{name:Str}{apos cpos:Pos}{T id:String}{r:V->List V->Hp->VK->Prop}
theorem ZJW(pa:PlainAttrs T)(slot:Slot T name id)(hty:typeOf (.builtin id)=pure (.type "method_descriptor"))(hm:MtR X id r)(ho:PE X o to)(ha:PA X (e::es) t)
  (hbase:jS o name X.env (eval o X.env)=eval o X.env:=by rfl)
  (hfew:((jT cpos (xE (e::es) X.env)).all (λx=> !x.1)&&(backToKw cpos (keywordEach [] X.env)).all (λx=>x.1.isSome)
   && decide ((e::es).length+([]:List Keyword).length+(if([]:List Keyword).isEmpty then 0 else 1)<30))=vX:=by rfl)
  (hline:(apos.endLine==cpos.line)=vX:=by rfl) (hs:xE (e::es) X.env=(vV,eval e X.env)::xE es X.env:=by rfl) (hplain:(jT cpos (xE es X.env)).any (·.1)=vV:=by rfl):
  PE X (.Call (.Attribute o name apos) (e::es) [] cpos) (tBM X.K T r to t):=by
 intro vQ s σ H Q I h;refine wpAny_Call_method_late hbase hfew hline rfl (thn (ho vQ s σ H _ I h) λv s1 ⟨x,H1,I1,r1,ty,q1⟩=>?_);obtain⟨h1,h2⟩:=ZMJ I1 r1 ty;refine⟨T,id,pa,slot,hty,h1,h2,?_⟩;have hA:=ha cpos vQ s1 σ H1 _ I1 q1;rw[hs]at hA⊢
 refine Calls.callWith_builtin (by show(vV||(jT cpos (xE es X.env)).any (·.1))=vV;rw[hplain]<;>rfl) (Calls.evalArgs_plain ?_)
 exact thn hA λus s2 ⟨vs,H2,I2,r2,q2⟩=>hm vQ s2 σ H2 x vs v us Q I2 r1 r2 q2
end
def MtM(X:Cx)(id:String)(r:V->List V->Hp->VK->Prop):Prop:=
 ∀(vQ:List (jD×Obj))(s:jM)(σ:St)(H:Hp)(x:V)(xs:List V)(v:jO)(us:List jO)(Q:VK),Inv X vQ σ H s->RelV x v->Vals xs us->r x xs H Q->
  xG (xA X.prog X.w) X.A (call (.builtin id) (v::us)) (EP X vQ σ Q) X.xe s
theorem Vals.one:∀{x:V}{us:List jO},Vals [x] us->∃u,us=[u]/\RelV x u
 |_,_,.cons r .nil=>⟨_,rfl,r⟩
theorem foldl_rep(its:List jO):∀(k:Nat)(acc:List jO),
  List.foldl (λx1 x2=>x1++x2) acc.toArray (zk k its.toArray)=(acc++(zk k its).flatten).toArray
 |0,acc=>by simp
 |k+1,acc=>by
  have e:acc.toArray++its.toArray=(acc++its).toArray:=by simp
  have e2:(acc++its)++(zk k its).flatten=acc++(zk (k+1) its).flatten:=by rw[qq,List.flatten_cons,qR]
  rw[<-e2,<-foldl_rep its k (acc++its),<-e,qq,qP]
section
variable{X:Cx}{vQ:List (jD×Obj)}{σ:St}{H:Hp}{s:jM}{l b:jD}{xs ys zs:List V}
theorem Inv.lset{its':List jO}{n:Nat}{f:Array jO->Array jO}{t':Nat}(I:Inv X vQ σ H s)(hH:H l=vZ (.lst xs))
  (e:s.heap.get? l=vZ {cls:=.type "list",data:=.seq its.toArray n}) (hf:f its.toArray=its'.toArray) (hv:Vals ys its') (hz:ys.length<=sizeLine):
  Inv X vQ σ (upd H l (.lst ys)) {s with heap:=s.heap.update l (Obj.mapSeq f),toks:=t'}:=by
 have q:=PySem.IsL.update e f;rw[hf]at q;refine I.write (x:=l) (e:=l) (by rw[hH];exact trivial) (.inl rfl) (λb' u hb hu=>(qQ s.heap (Obj.mapSeq f) (Ne.symm hb)).trans hu) ⟨_,q⟩ ?_;exact⟨hz,its',_,hv,q⟩
theorem Inv.lnew{t':Nat}(I:Inv X vQ σ H s)(hv:Vals ys its)(hz:ys.length<=sizeLine):
  Inv X vQ σ (upd H s.heap.objs.size (.lst ys)) {s with heap:=s.heap.push {cls:=.type "list",data:=.seq its.toArray},toks:=t'}:=
 I.laid (λ_ _ q=>zJ _ q) (zx _) ⟨hz,its,0,hv,zI _ rfl⟩
theorem Inv.fresh(I:Inv X vQ σ H s):H s.heap.objs.size=vJ:=I.hok.fresh (zx _)
theorem Inv.lstM(I:Inv X vQ σ H s)(hH:H l=vZ (.lst xs)):xs.length<=sizeLine/\∃(its:List jO)(n:Nat),Vals xs its/\xs.length=its.length/\s.heap.get? l=vZ {cls:=.type "list",data:=.seq its.toArray n}:=by obtain⟨z,its,n,r,e⟩:=I.hok l _ hH;exact⟨z,its,n,r,r.length,e⟩
end
section
variable{X:Cx}
def ZP2:V->List V->Hp->VK->Prop:=λx vs H Q=>∃l xs y,x=.ref l/\vs=[y]/\H l=vZ (.lst xs)/\xs.length<sizeLine/\Q .non (upd H l (.lst (xs++[y])))
theorem ZOg:MtM X "list.append" ZP2:=by
 intro vQ s σ H x vs v us Q I rx rv h;obtain⟨l,xs,y,rfl,rfl,hH,hz,q⟩:=h;cases rx;obtain⟨u,rfl,ru⟩:=rv.one;obtain⟨z,its,n,r,hl,e⟩:=I.lstM hH;refine call_meets F.slot_list_append ⟨_,e,rfl⟩ F.entry_list_append (F.args_list_append_2 _ _) (PySem.list_append l its.toArray n u (by rw[zK];lia)) ⟨e,?_⟩;refine⟨.non,_,I.lset (its':=its++[u]) hH e (by simp) (r.append (.cons ru .nil)) ?_,rfl,q⟩
 rw[zU,j1];lia
end
section
variable{prog:jI}{w:jP}{A:jE}{E:jO->jM->Prop}{s:jM}
end
section
variable{X:Cx}
end
end _L
namespace Att
open PySem PySem.W PySem.Calls PyProof.Rows
theorem ZQW{P:Params}{h:Heap}:∀(ns:List Int)(vs:List jO),WellAll P h vs (ns.map WData.int)->IntsAre vs ns:=by
 intro ns
 induction ns with
 |nil=>
  intro vs w;rw[qA]at w;cases w;exact .nil
 | cons n ns ih=>
  intro vs w;rw[zz]at w;cases w with
  |cons a b=>
   cases a;exact .cons _ _ (ih _ b)
theorem ZML{l:OpenLaw}{n:Nat}(hn:l.most=vZ n){P:Params}{h:Heap}{args:List WData}{vals:List jO}
  (hpre:l.row.toRowW.claim.pre args=vX) (hwl:WellAll P h vals args):
  ∃a vs ns,vals=[Value.ref a]/\args=[WData.list (ns.map WData.int)]/\h.get? a=vZ {cls:=.type "list",data:=.seq vs.toArray}/\IntsAre vs ns/\ns.length<=n:=by
 have hsh:WShape.hasAll [] args [.list .int]=vX:=(pre_splitW hpre).1;have hc:l.pre.holds [] {args:=args}=vX:=(pre_splitW hpre).2;obtain⟨d,r,rfl,h1,h2⟩:=hasAllW_cons hsh;obtain rfl:=hasAllW_nil h2;obtain⟨xs,rfl,h3⟩:=hasW_list h1;obtain⟨ns,rfl⟩:=items_int h3;have hlen:ns.length<=n:=by
  unfold OpenLaw.pre at hc;have h4:(WTm.not (.lt (.lit (.int (n:Int))) (.len (.arg 0)))).holds [] {args:=[.list (ns.map .int)]}=vX:=by have h4:=(holds_andW hc).1;rw[hn]at h4;exact h4
  have h5:=condW_of h4 (w_not (w_lt w_lit (w_len_list (w_arg rfl))));rw[zZ]at h5;refine Nat.le_of_not_lt λq=>?_
  have q':(n:Int)<((ns.length:Nat):Int):=by lia
  first
   |(rw[decide_eq_true q']at h5;exact absurd h5 (by decide))
   |(simp at h5;lia)
 cases hwl with
 |cons w1 w2=>
  cases w2;cases w1 with
  |list ho hall=>exact⟨_,_,ns,rfl,rfl,ho,ZQW ns _ hall,hlen⟩
theorem ZOY(l:OpenLaw)(args:List WData):l.row.toRowW.claim.post args (.bool vX) args=vX:=
 postW_of (r:=l.row.toRowW) (X:=(vX==vX))
  (show WShape.has [] (.bool vX) .bool=vX by first|rfl|decide|simp[WShape.has,WShape.arms,WShape.armsAll])
  (show(WTm.eq .res (.lit (.bool vX))).value [] {args:=args,res:=vZ (.bool vX),after:=args}=vZ (.bool (vX==vX))from w_eq_bool (w_res rfl) w_lit) rfl
section
variable{prog:jI}{w:jP}{A:jE}{E:jO->jM->Prop}{s:jM}{K:xT}
end
end Att
namespace _L
open PySem PySem.Spec PyProof.Rows
variable{fd:jG}{x:Str}
theorem Zf:∀{vs:List jO}{ns:List Int},IntsAre vs ns->Vals (ns.map V.int) vs
 |_,_,.nil=>.nil
 |_,_,.cons n t h=>.cons ⟨t,rfl⟩ (Zf h)
def Only(H:Hp):Prop:=∀b,H b=vJ∨∃o xs,H b=vZ (.frz o (.lst xs))
theorem ZQ6{P:jI}{w:jP}{K:PySem.W.Frag}{mg mb:Str->Option jO}{CX:CXT}{k:Nat}{fa a:jD}{sp:Sp}{s₁:jM}{vs:List jO}{ns:List Int}
  (KX:K.In s₁.heap) (hns:s₁.heap.Ns x9 mg) (hb:s₁.heap.Ns builtinsNs mb) (hbb:∀x:Str,x≠"__name__"->mb x=xZ x) (hlim:s₁.heap.NoLimit) (hg:s₁.gens= #[])
  (ha:s₁.heap.get? a=vZ {cls:=.type "list",data:=.seq vs.toArray}) (hi:IntsAre vs ns) (hl:ns.length<=sizeLine) (hr:Room k callerA)
  (F:∀base:Heap,K.In base->base.Ns x9 mg->FnOk P w K mg base CX k fa fd [x] sp) (hbind:∀(s:jM)(u:jO),BindsTo s fd ⟨[u],[]⟩ [(x,u)])
  (hsp:∀H:Hp,Only H->SqL K H a (ns.map V.int)->sp [.ref a] H (λv _=>v=.bl vX) λ_ _ _=>False)
  (hCX:∀H e s',CX [] H s₁ (λ_ _ _=>False) e s'->False):
  codeAny (xA P w) callerA (.call (.ref fa) ⟨[.ref a],[]⟩) (λr s'=>r=.ok (.ret (.bool vX))/\OldK s₁.heap s'.heap/\s'.os=s₁.os/\AllBare s'.gens) s₁:=by
 have rv:=Zf hi;have lenV:=hi.length;have core:∀H:Hp,Only H->SqL K H a (ns.map V.int)->HOk P w H s₁.heap->(∀b,H b≠vJ->b=a)->(H a≠vJ->K.lookup a=vJ)->
   codeAny (xA P w) callerA (.call (.ref fa) ⟨[.ref a],[]⟩) (λr s'=>r=.ok (.ret (.bool vX))/\OldK s₁.heap s'.heap/\s'.os=s₁.os/\AllBare s'.gens) s₁:=by
  intro H hO hS hok hA hK;have base_of:∀{b:jD}{o:Obj},s₁.heap.get? b=vZ o->H b=vJ->(M7 s₁.heap H).get? b=vZ o:=λe n=>ZNd e n
  have noA:∀{b:jD}{o:Obj}{es:Array DictEntry}{ep:Nat},s₁.heap.get? b=vZ o->o.data=.dict es ep->H b=vJ:=λ{b o es ep}e d=>by
   cases q:H b with
   |none=>rfl
   |some u=>
    have e':b=a:=hA b (by rw[q];simp);subst e';rw[ha]at e;cases e;have d':Data.seq vs.toArray _=Data.dict es ep:=d;cases d'
  have nsK:∀{b:jD}{m:Str->Option jO},s₁.heap.Ns b m->(M7 s₁.heap H).Ns b m:=λ{b m}⟨o,es,ep,e,d,r⟩=>⟨o,es,ep,base_of e (noA e d),d,r⟩
  have hKb:K.In (M7 s₁.heap H):=λb o e=>base_of (KX b o e) (by
   cases q:H b with
   |none=>rfl
   |some u=>
    have e':b=a:=hA b (by rw[q];simp);subst e';rw[hK (by rw[q];simp)]at e;cases e)
  have hM:Mod K mg (M7 s₁.heap H):=⟨hKb,nsK hns,⟨mb,nsK hb,hbb⟩,let⟨mc,h1,h2⟩:=hlim;⟨mc,nsK h1,h2⟩⟩
  have e0:Env0 P w K mg (M7 s₁.heap H) callerA [] s₁ H:=⟨rfl,hM,λb o e=>ZNh e,Nat.le_of_eq (ZOV _ _),trivial,λb hb=>absurd (show b∈([]:List jD)from hb) (by simp),hok,.of_eq hg⟩
  refine xX ((F _ hKb (nsK hns)).run callerA [] s₁ H ⟨[.ref a],[]⟩ [.ref a] [.ref a] _ _ hr e0 (hbind s₁ (.ref a)) (.cons rfl .nil) (hsp H hO hS)) λr s' h=>?_
  cases r with
  |error e=>exact(hCX H e s' h).elim
  | ok fl=>
   cases fl with
   |next=>exact False.elim h
   |brk=>exact False.elim h
   |cont=>exact False.elim h
   | ret u=>
    obtain⟨v,H',os,bare,un,hok',r',q⟩:=h;have q':v=.bl vX:=q;subst q';obtain rfl:u=Value.bool vX:=r';refine⟨rfl,OldK.of_keep λb o e=>?_,os,bare⟩;cases q:H b with
    |none=>exact un.keep b o e q (by intro z;exact absurd (show b∈([]:List jD)from z) (by simp)) (by simp)
    |some u=>
     rcases hO b with z|⟨ob,xs,z⟩
     ·rw[q]at z;cases z
     ·have z2:=un.frzs b ob _ z;obtain⟨e1,_⟩:=hok b _ z;obtain⟨e2,_⟩:=hok' b _ z2;rw[e]at e1;cases e1;exact e2
 cases hk:K.lookup a with
 |some o=>
  have e:=KX a o hk;rw[ha]at e;cases e;refine core (λ_=>vJ) (λ_=>.inl rfl) (.inr ⟨_,vs.toArray,_,hk,rfl,rfl,rfl,by rw[zK,lenV];exact hl,by simpa using rv⟩) (λb u z=>by have z':(vJ:Option HO)=vZ u:=z;cases z') (λb z=>absurd rfl z) λz=>absurd rfl z
 | none=>
  refine core (λb=>if b=a then vZ (.frz {cls:=.type "list",data:=.seq vs.toArray} (.lst (ns.map V.int)))else vJ) (λb=>?_) (.inl (.inr ⟨{cls:=.type "list",data:=.seq vs.toArray},if_pos rfl⟩)) (λb u z=>?_) (λb z=>?_) λ_=>hk
  ·by_cases hb:b=a
   ·exact .inr ⟨_,_,if_pos hb⟩
   ·exact .inl (if_neg hb)
  ·by_cases hb:b=a
   ·have z':=(if_pos hb).symm.trans z;cases z';subst hb;exact⟨ha,by rw[zZ];exact hl,vs,_,rv,ha⟩
   ·have z':=(if_neg hb).symm.trans z;cases z'
  ·by_cases hb:b=a
   ·exact hb
   ·exact absurd (if_neg hb) z
noncomputable abbrev CX0:CXT:=λ_ _ _ _ _ _=>False
noncomputable abbrev E0:XK:=λ_ _ _=>False
theorem pass0{X:Cx}:Passes CX0 X E0:=λ_ _ _ _ _ _ _ h=>h.elim
structure Fun (K:PySem.W.Frag) (x qual:Str) (st:jN) (f:jD) (fd:jG):Prop where
 ex:∃(oc:jO)(od:Option jD)(kV doc pm:jO)(an:Option jD)(cdv ct:jO)(osl:Array (Option jO)),
  fd=PySem.W.fnOf x qual (Jr st) (Fq st) (Bd st) .none kV doc pm an cdv ct/\K.lookup f=vZ ⟨oc,od,.func fd,osl⟩/\PySem.W.codeIn K cdv qual=vX
 kp:PySem.W.keepIn K (.ref f)=vX
section
variable{P:jI}{w:jP}{K:PySem.W.Frag}{mg:Str->Option jO}{base:Heap}
theorem Fun.ok{qual:Str}{st:jN}{f:jD}{N ps:List Str}{k:Nat}{sp:Sp}(F:Fun K x qual st f fd)(S:FnScope N ps (Bd st))(len:∀vs H Q E,sp vs H Q E->vs.length=ps.length)
  (hbody:∀(cdv:jO)(A:jE)(outer:List Env)(s:jM)(H:Hp)(vs:List V)(Q:VK)(E:XK),Room k (A.deeper (envOfC qual (Bd st) s.heap.objs.size f cdv))->sp vs H Q E->
   ∃t,PSs (J6 CX0 P w K mg base N qual (Bd st) f cdv A outer s H E).nox (Fq st) t/\t {nx:=λ_ H'=>Q .non H',rt:=Q} (start N vs) H):FnOk P w K mg base CX0 (k+1) f fd ps sp:=by
 obtain⟨oc,od,kV,doc,pm,an,cdv,ct,osl,rfl,lk,hcd⟩:=F.ex;refine ZI7 lk hcd S len λA outer s H vs Q E hr hsp=>?_
 obtain⟨t,h,q⟩:=hbody cdv A outer s H vs Q E hr hsp;exact⟨t,h.nox,q⟩
theorem Fun.binds{qual:Str}{st:jN}{f:jD}{ps:List Str}(F:Fun K x qual st f fd)
  (h:∀(kV doc pm:jO)(an:Option jD)(cdv ct:jO)(us:List jO),us.length=ps.length->bindArgs (PySem.W.fnOf x qual (Jr st) (Fq st) (Bd st) .none kV doc pm an cdv ct) ⟨us,[]⟩=pure (ps.zip us)):Binds K fd ps []:=by
 obtain⟨oc,od,kV,doc,pm,an,cdv,ct,osl,rfl,lk,hcd⟩:=F.ex;exact .all (h kV doc pm an cdv ct)
end
section
variable{X:Cx}
theorem pv(i:Nat){pos:Pos}(hN:X.N[i]?=vZ x:=by rfl)(hv:Vis X.env.scope x:=by first|exact Or.inl rfl|exact Or.inr (Or.inl rfl)|exact Or.inr (Or.inr rfl))(hd:(x==("__debug__":Str))=vV:=by decide)
  (hcd:(x==("__classdict__":Str))=vV:=by decide):PE X (.Name x pos) (Oe i):=U9 hN hv hd hcd
end
section
variable{κ:Type}[DecidableEq κ]
end
section
variable{P:jI}{w:jP}{H:Hp}{h:Heap}{a:jD}
end
section
variable{X:Cx}{vQ:List (jD×Obj)}{σ:St}{H:Hp}{s:jM}{a:jD}{y v:V}{u r:jO}{o:Option V}{A:jE}{E:jO->jM->Prop}
end
section
variable{X:Cx}{vQ:List (jD×Obj)}{σ:St}{H:Hp}{s:jM}{a:jD}{kvs:List (Key×V)}{k:Key}{u:jO}{A:jE}{E:jO->jM->Prop}
end
section
variable{X:Cx}{o i e value:jF}{pos pos' tpos:Pos}{td ty tv:TE}
end
section
variable{X:Cx}{pos:Pos}
end
section
variable{X:Cx}{vQ:List (jD×Obj)}{σ:St}{H:Hp}{s:jM}{a:jD}{y d:V}{u r:jO}{o:Option V}{A:jE}{E:jO->jM->Prop}
end
section
variable{X:Cx}{o e f:jF}{apos cpos:Pos}{td ty tx:TE}
end
section
variable{X:Cx}{vQ:List (jD×Obj)}{σ:St}{H:Hp}{s:jM}{a:jD}{kvs:List (Key×V)}{A:jE}{E:jO->jM->Prop}
end
section
variable{X:Cx}{vQ:List (jD×Obj)}{σ:St}{H:Hp}{s:jM}{a:jD}{y:V}{u:jO}{A:jE}{E:jO->jM->Prop}
end
section
variable{X:Cx}
end
end _L
namespace _L
section
variable{κ:Type}[DecidableEq κ]
end
end _L
namespace _D
open PySem PySem.Spec _L
open PyProof.Rows hiding St
variable{α β:Type}{H:Hp}{p:jD}{v:V}{vs:List V}{σ:St}{E:XK}{Q:VK}{W:Ends}{e tg:jF}{ho:HO}{i j k nt:Nat}{x:Str}{op:CmpOp}{s:jM}{P:jI}{w:jP}{scope:jL}{env:Env}{X:Cx}{lo hi:Option Int}
inductive D where
 |non|bl (b:Bool)|int (i:Int)|str (x:Str)|ty (n:String)
 |tup (xs:List D)
 |fl (xs:List D)
 |ref (i:Nat)
variable{d:D}{ds xs:List D}
inductive DO where
 |lst (xs:List D)
 |dct (kvs:List (Key×D))
 |ins (c:Str) (fs:List (Str×D))
 |tab (c m:Str)
 |exc (c:Str) (fs:List (Str×D))
 |gone
variable{o:DO}
noncomputable abbrev DH:=List DO
variable{G G' L:DH}
noncomputable abbrev DSt:=List (Option D)
variable{S:DSt}
structure Xn where
 cls:Str
 fs:List (Str×D)
inductive R (α:Type) where
 |ok (a:α) (G:DH)
 |err (x:Xn) (G:DH)
 |bad
variable{r:R D}
noncomputable def R.bind{α β:Type}(r:R α)(f:α->DH->R β):R β:=match r with
 |.ok a G=>f a G
 |.err x G=>.err x G
 |.bad=>.bad
@[simp]theorem R.ZAb(a:α)(G:DH)(f:α->DH->R β):(R.ok a G).bind f=f a G:=id rfl
@[simp]theorem R.ZRY(f:α->DH->R β):(R.bad:R α).bind f=.bad:=id rfl
inductive SR where
 |nx (S:DSt) (G:DH)
 |rt (d:D) (G:DH)
 |bk (S:DSt) (G:DH)
 |ct (S:DSt) (G:DH)
 |err (x:Xn) (G:DH)
 |bad
noncomputable abbrev DE:=DSt->DH->R D
variable{t te:DE}
noncomputable abbrev DB:=DSt->DH->R Bool
noncomputable abbrev DA:=DSt->DH->R (List D)
noncomputable abbrev DS:=DSt->DH->SR
variable{u:DS}
def FzL(K:PySem.W.Frag)(H:Hp)(a:jD)(xs:List V):Prop:=
 (∃o,H a=vZ (.frz o (.lst xs)))∨
  ∃(o:Obj)(its:Array jO)(n:Nat),K.lookup a=vZ o/\o.cls=.type "list"/\o.dict=vJ/\o.data=.seq its n/\its.size<=sizeLine/\Vals xs its.toList
theorem FzL.sq{K:PySem.W.Frag}{a:jD}{xs:List V}(h:FzL K H a xs):SqL K H a xs:=by
 rcases h with⟨o,h⟩|h
 ·exact .inl (.inr ⟨o,h⟩)
 ·exact .inr h
structure Wd where
 K:PySem.W.Frag
 n:Nat
 m:Nat->jD
 H:Hp
variable{a b c:Wd}
mutual
def Rep(a:Wd):D->V->Prop
 |.non,v=>v=.non
 |.bl b,v=>v=.bl b
 |.int i,v=>v=.int i
 |.str x,v=>v=.str x
 |.ty n,v=>v=.ty n
 |.tup ds,v=>∃p vs,v=.ref p/\SqT a.K a.H p vs/\Reps a ds vs
 |.fl ds,v=>∃p vs,v=.ref p/\FzL a.K a.H p vs/\Reps a ds vs
 |.ref i,v=>i<a.n/\v=.ref (a.m i)
def Reps(a:Wd):List D->List V->Prop
 |[],vs=>vs=[]
 |d::ds,vs=>∃v r,vs=v::r/\Rep a d v/\Reps a ds r
end
noncomputable def lamQ:Str:="Sending.send_by.<locals>.<lambda>"
def TabOk(H:Hp)(P:jD):Prop:=
 ∃ps:Array jO,H P=vZ (.tbl ps)/\TriplesOk ps.toList/\∀pos cv,codeAmong pos ps.toList=vZ cv->∃(c:jD)(oc:Obj)(vs:Array jO)(t:Tok),cv=.ref c/\H c=vZ (.frz oc (.own 0))/\oc.data=.fields vs/\vs[1]?=vZ (.str lamQ t)
theorem TabOk.mono{H':Hp}{P:jD}(h:TabOk H P)(ht:∀p ps,H p=vZ (.tbl ps)->H' p=vZ (.tbl ps))(hf:∀p o u,H p=vZ (.frz o u)->H' p=vZ (.frz o u)):TabOk H' P:=by obtain⟨ps,e,t,k⟩:=h;refine⟨ps,ht _ _ e,t,λpos cv hc=>?_⟩;obtain⟨c,oc,vs,tk,e1,e2,e3,e4⟩:=k pos cv hc;exact⟨c,oc,vs,tk,e1,hf _ _ _ e2,e3,e4⟩
def TabAt(K:PySem.W.Frag)(C m:Str)(c P:jD):Prop:=
 ∃(Ca f:jD)(oc:jO)(od:Option jD)(fd:jG)(sl:Array (Option jO)),PySem.W.nsIn K x9 C=vZ (vZ (.ref Ca))/\PySem.W.findIn K (.ref Ca) m=vZ (vZ (.ref f))/\K.lookup f=vZ ⟨oc,od,.func fd,sl⟩/\fd.code=.ref c/\PySem.W.codeHdIn K c P=vX
structure Ext (a b:Wd):Prop where
 k:b.K=a.K
 n:a.n<=b.n
 m:∀i,i<a.n->b.m i=a.m i
 tup:∀p xs,a.H p=vZ (.tup xs)->b.H p=vZ (.tup xs)
 frz:∀p o u,a.H p=vZ (.frz o u)->b.H p=vZ (.frz o u)
 tab:∀p,TabOk a.H p->TabOk b.H p
theorem Ext.refl(a:Wd):Ext a a:=⟨rfl,zx _,λ_ _=>rfl,λ_ _ h=>h,λ_ _ _ h=>h,λ_ h=>h⟩
theorem Ext.trans(x:Ext a b)(y:Ext b c):Ext a c:=
 ⟨y.k.trans x.k,z9 x.n y.n,λi h=>(y.m i (zW h x.n)).trans (x.m i h),λp xs h=>y.tup p xs (x.tup p xs h),λp o u h=>y.frz p o u (x.frz p o u h),λp h=>y.tab p (x.tab p h)⟩
theorem Ext.sqT(x:Ext a b){xs:List V}(h:SqT a.K a.H p xs):SqT b.K b.H p xs:=by
 rcases h with(h|⟨o,h⟩)|h
 ·exact .inl (.inl (x.tup _ _ h))
 ·exact .inl (.inr ⟨o,x.frz _ _ _ h⟩)
 ·exact .inr (by rw[x.k];exact h)
theorem Ext.fzL(x:Ext a b){xs:List V}(h:FzL a.K a.H p xs):FzL b.K b.H p xs:=by
 rcases h with⟨o,h⟩|h
 ·exact .inl ⟨o,x.frz _ _ _ h⟩
 ·exact .inr (by rw[x.k];exact h)
mutual
theorem Rep.mono(x:Ext a b):∀{d:D}{v:V},Rep a d v->Rep b d v
 |.non,_,h=>h
 |.bl _,_,h=>h
 |.int _,_,h=>h
 |.str _,_,h=>h
 |.ty _,_,h=>h
 |.tup ds,v,h=>by obtain⟨p,vs,e,q,r⟩:=h;exact⟨p,vs,e,x.sqT q,Reps.mono x r⟩
 |.fl ds,v,h=>by obtain⟨p,vs,e,q,r⟩:=h;exact⟨p,vs,e,x.fzL q,Reps.mono x r⟩
 |.ref i,v,h=>by obtain⟨l,e⟩:=h;exact⟨zW l x.n,by rw[x.m i l];exact e⟩
theorem Reps.mono(x:Ext a b):∀{ds:List D}{vs:List V},Reps a ds vs->Reps b ds vs
 |[],_,h=>h
 |d::ds,vs,h=>by obtain⟨v,r,e,h1,h2⟩:=h;exact⟨v,r,e,Rep.mono x h1,Reps.mono x h2⟩
end
theorem Reps.length:∀{ds:List D}{vs:List V},Reps a ds vs->ds.length=vs.length
 |[],vs,h=>by cases(show vs=[]from h);rfl
 |d::ds,vs,h=>by obtain⟨v,r,e,h1,h2⟩:=h;subst e;show ds.length+1=r.length+1;rw[Reps.length h2]
theorem Reps.get:∀{ds:List D}{vs:List V}{i:Nat}{d:D},Reps a ds vs->ds[i]?=vZ d->∃v,vs[i]?=vZ v/\Rep a d v
 |[],vs,_,_,h,e=>by simp at e
 |d::ds,vs,0,d',h,e=>by obtain⟨v,r,e1,h1,h2⟩:=h;subst e1;simp at e;subst e;exact⟨v,rfl,h1⟩
 |d::ds,vs,i+1,d',h,e=>by obtain⟨v,r,e1,h1,h2⟩:=h;subst e1;obtain⟨w,e2,h3⟩:=Reps.get (i:=i) (d:=d') h2 (by simpa using e);exact⟨w,by simpa using e2,h3⟩
theorem Reps.get':∀{ds:List D}{vs:List V}{i:Nat}{v:V},Reps a ds vs->vs[i]?=vZ v->∃d,ds[i]?=vZ d/\Rep a d v
 |[],vs,_,_,h,e=>by cases(show vs=[]from h);simp at e
 |d::ds,vs,0,v',h,e=>by obtain⟨v,r,e1,h1,h2⟩:=h;subst e1;simp at e;subst e;exact⟨d,rfl,h1⟩
 |d::ds,vs,i+1,v',h,e=>by obtain⟨v,r,e1,h1,h2⟩:=h;subst e1;obtain⟨w,e2,h3⟩:=Reps.get' (i:=i) (v:=v') h2 (by simpa using e);exact⟨w,by simpa using e2,h3⟩
theorem Reps.append:∀{ds es:List D}{vs us:List V},Reps a ds vs->Reps a es us->Reps a (ds++es) (vs++us)
 |[],_,vs,_,h,h'=>by cases(show vs=[]from h);exact h'
 |d::ds,es,vs,us,h,h'=>by obtain⟨v,r,e1,h1,h2⟩:=h;subst e1;exact⟨v,r++us,rfl,h1,Reps.append h2 h'⟩
theorem Reps.cons(h:Rep a d v)(r:Reps a ds vs):Reps a (d::ds) (v::vs):=⟨v,vs,rfl,h,r⟩
theorem Reps.nil:Reps a [] []:=rfl
theorem Reps.set(h:Rep a d v):∀{ds:List D}{vs:List V}(i:Nat),Reps a ds vs->Reps a (ds.set i d) (vs.set i v)
 |[],vs,_,r=>by cases(show vs=[]from r);exact rfl
 |d'::ds,vs,0,r=>by obtain⟨v',r',e1,h1,h2⟩:=r;subst e1;exact⟨v,r',rfl,h,h2⟩
 |d'::ds,vs,i+1,r=>by obtain⟨v',r',e1,h1,h2⟩:=r;subst e1;exact⟨v',r'.set i v,rfl,h1,Reps.set h i h2⟩
theorem Reps.take:∀{ds:List D}{vs:List V}(i:Nat),Reps a ds vs->Reps a (ds.take i) (vs.take i)
 |_,_,0,_=>rfl
 |[],vs,_+1,r=>by cases(show vs=[]from r);exact rfl
 |d'::ds,vs,i+1,r=>by obtain⟨v',r',e1,h1,h2⟩:=r;subst e1;exact⟨v',r'.take i,rfl,h1,Reps.take i h2⟩
theorem Reps.drop:∀{ds:List D}{vs:List V}(i:Nat),Reps a ds vs->Reps a (ds.drop i) (vs.drop i)
 |_,_,0,r=>r
 |[],vs,_+1,r=>by cases(show vs=[]from r);exact rfl
 |d'::ds,vs,i+1,r=>by obtain⟨v',r',e1,h1,h2⟩:=r;subst e1;exact Reps.drop i h2
theorem Reps.ints:∀(ns:List Int),Reps a (ns.map D.int) (ns.map V.int)
 |[]=>rfl
 |n::ns=>⟨.int n,ns.map V.int,rfl,rfl,Reps.ints ns⟩
def RepKV(a:Wd)(kvs:List (Key×D))(us:List (Key×V)):Prop:=kvs.map (·.1)=us.map (·.1)/\Reps a (kvs.map (·.2)) (us.map (·.2))
def RepF(a:Wd)(fs:List (Str×D))(us:List (Str×V)):Prop:=fs.map (·.1)=us.map (·.1)/\Reps a (fs.map (·.2)) (us.map (·.2))
def XD(a:Wd)(od:Option jD)(fs:List (Str×D)):Prop:=(fs=[]/\od=vJ)∨∃dx o us,od=vZ dx/\a.H dx=vZ (.frz o (.xd us))/\RepF a fs us
def ORep(a:Wd):DO->Option HO->Prop
 |.lst ds,o=>∃vs,o=vZ (.lst vs)/\Reps a ds vs
 |.dct kvs,o=>∃us,o=vZ (.dK us)/\RepKV a kvs us
 |.ins c fs,o=>∃C dx us,PySem.W.nsIn a.K x9 c=vZ (vZ (.ref C))/\o=vZ (.ins C dx us)/\RepF a fs us
 |.tab C m,_=>∃c P,TabAt a.K C m c P/\TabOk a.H P
 |.exc c fs,o=>∃C oe u vs,PySem.W.nsIn a.K x9 c=vZ (vZ (.ref C))/\o=vZ (.frz oe u)/\oe.cls=.ref C/\oe.data=.fields vs/\XD a oe.dict fs
 |.gone,_=>True
structure Sim (a:Wd) (G:DH):Prop where
 len:G.length=a.n
 inj:∀i j,i<a.n->j<a.n->a.m i=a.m j->i=j
 obj:∀(i:Nat)(o:DO),G[i]?=vZ o->ORep a o (a.H (a.m i))
 tr:∀i,i<a.n->a.H (a.m i)≠vJ
structure RepS (a:Wd) (S:DSt) (σ:St):Prop where
 len:S.length=σ.length
 get:∀(i:Nat)(d:D),S[i]?=vZ (vZ d)->∃v,σ[i]?=vZ (vZ v)/\Rep a d v
theorem RepS.mono(x:Ext a b)(r:RepS a S σ):RepS b S σ:=⟨r.len,λi d h=>let⟨v,e,q⟩:=r.get i d h;⟨v,e,q.mono x⟩⟩
theorem RepS.set(r:RepS a S σ)(i:Nat)(h:Rep a d v):RepS a (S.set i (vZ d)) (σ.set i (vZ v)):=by
 refine⟨by simpa using r.len,λj e he=>?_⟩;rw[qF]at he⊢;by_cases hij:i=j
 ·subst hij;rw[if_pos rfl]at he⊢;by_cases hl:i<S.length
  ·rw[if_pos hl]at he;have e1:d=e:=by simpa using he
   subst e1;rw[if_pos (by rw[<-r.len];exact hl)];exact⟨v,rfl,h⟩
  ·rw[if_neg hl]at he;cases he
 ·rw[if_neg hij]at he⊢;exact r.get j e he
def XOk(E:XK)(a:Wd)(x:Xn)(G:DH):Prop:=E≠E0/\∀(b:Wd)(C:jD)(od:Option jD),Ext a b->Sim b G->PySem.W.nsIn b.K x9 x.cls=vZ (vZ (.ref C))->XD b od x.fs->E (.ref C) od b.H
def out(E:XK)(a:Wd)(r:R D)(Q:VK):Prop:=match r with
 |.ok d G=>∀(b:Wd)(v:V),Ext a b->Sim b G->Rep b d v->Q v b.H
 |.err x G=>XOk E a x G
 |.bad=>False
def Gy(E:XK)(a:Wd)(r:R Bool)(Q:Bool->Hp->Prop):Prop:=match r with
 |.ok k G=>∀(b:Wd),Ext a b->Sim b G->Q k b.H
 |.err x G=>XOk E a x G
 |.bad=>False
def Hc(E:XK)(a:Wd)(r:R (List D))(Q:List V->Hp->Prop):Prop:=match r with
 |.ok ds G=>∀(b:Wd)(vs:List V),Ext a b->Sim b G->Reps b ds vs->Q vs b.H
 |.err x G=>XOk E a x G
 |.bad=>False
def Df(E:XK)(a:Wd)(r:SR)(W:Ends):Prop:=match r with
 |.nx S G=>∀(b:Wd)(σ:St),Ext a b->Sim b G->RepS b S σ->W.nx σ b.H
 |.bk S G=>∀(b:Wd)(σ:St),Ext a b->Sim b G->RepS b S σ->W.bk σ b.H
 |.ct S G=>∀(b:Wd)(σ:St),Ext a b->Sim b G->RepS b S σ->W.ct σ b.H
 |.rt d G=>∀(b:Wd)(v:V),Ext a b->Sim b G->Rep b d v->W.rt v b.H
 |.err x G=>XOk E a x G
 |.bad=>False
theorem XOk.mono(x:Ext a b){e:Xn}(h:XOk E a e G):XOk E b e G:=⟨h.1,λc C od y s n q=>h.2 c C od (x.trans y) s n q⟩
theorem out.mono(x:Ext a b)(h:out E a r Q):out E b r Q:=by
 cases r with
 |ok d G=>exact λc v y s q=>h c v (x.trans y) s q
 |err e G=>exact XOk.mono (E:=E) (e:=e) (G:=G) x h
 |bad=>exact h
theorem Gy.mono(x:Ext a b){r:R Bool}{Q:Bool->Hp->Prop}(h:Gy E a r Q):Gy E b r Q:=by
 cases r with
 |ok d G=>exact λc y s=>h c (x.trans y) s
 |err e G=>exact XOk.mono (E:=E) (e:=e) (G:=G) x h
 |bad=>exact h
theorem Hc.mono(x:Ext a b){r:R (List D)}{Q:List V->Hp->Prop}(h:Hc E a r Q):Hc E b r Q:=by
 cases r with
 |ok d G=>exact λc vs y s q=>h c vs (x.trans y) s q
 |err e G=>exact XOk.mono (E:=E) (e:=e) (G:=G) x h
 |bad=>exact h
theorem Df.mono(x:Ext a b){r:SR}(h:Df E a r W):Df E b r W:=by
 cases r with
 |nx d G=>exact λc vs y s q=>h c vs (x.trans y) s q
 |bk d G=>exact λc vs y s q=>h c vs (x.trans y) s q
 |ct d G=>exact λc vs y s q=>h c vs (x.trans y) s q
 |rt d G=>exact λc vs y s q=>h c vs (x.trans y) s q
 |err e G=>exact XOk.mono (E:=E) (e:=e) (G:=G) x h
 |bad=>exact h
def lE(K:PySem.W.Frag)(E:XK)(t:DE):TE:=λσ H Q=>∃(a:Wd)(S:DSt)(G:DH),a.K=K/\a.H=H/\Sim a G/\RepS a S σ/\out E a (t S G) Q
def lB(K:PySem.W.Frag)(E:XK)(t:DB):TT:=λσ H Q=>∃(a:Wd)(S:DSt)(G:DH),a.K=K/\a.H=H/\Sim a G/\RepS a S σ/\Gy E a (t S G) Q
def lA(K:PySem.W.Frag)(E:XK)(t:DA):TA:=λσ H Q=>∃(a:Wd)(S:DSt)(G:DH),a.K=K/\a.H=H/\Sim a G/\RepS a S σ/\Hc E a (t S G) Q
def lS(K:PySem.W.Frag)(E:XK)(t:DS):TS:=λW σ H=>∃(a:Wd)(S:DSt)(G:DH),a.K=K/\a.H=H/\Sim a G/\RepS a S σ/\Df E a (t S G) W
def lR2(K:PySem.W.Frag)(E:XK)(f:D->D->DH->R D):R2:=λx y H Q=>∃(a:Wd)(G:DH)(d e:D),a.K=K/\a.H=H/\Sim a G/\Rep a d x/\Rep a e y/\out E a (f d e G) Q
def lR1(K:PySem.W.Frag)(E:XK)(f:D->DH->R D):V->Hp->VK->Prop:=λx H Q=>∃(a:Wd)(G:DH)(d:D),a.K=K/\a.H=H/\Sim a G/\Rep a d x/\out E a (f d G) Q
def lRn(K:PySem.W.Frag)(E:XK)(f:List D->DH->R D):List V->Hp->VK->Prop:=λxs H Q=>∃(a:Wd)(G:DH)(ds:List D),a.K=K/\a.H=H/\Sim a G/\Reps a ds xs/\out E a (f ds G) Q
def lF(K:PySem.W.Frag)(f:List D->DH->R D):Sp:=λxs H Q _=>∃(a:Wd)(G:DH)(ds:List D),a.K=K/\a.H=H/\Sim a G/\Reps a ds xs/\out E0 a (f ds G) Q
def lFx(K:PySem.W.Frag)(f:List D->DH->R D):Sp:=λxs H Q E=>∃(a:Wd)(G:DH)(ds:List D),a.K=K/\a.H=H/\Sim a G/\Reps a ds xs/\out E a (f ds G) Q
section
variable{X:Cx}{E:XK}
def QE(X:Cx)(E:XK)(e:jF)(t:DE):Prop:=PE X e (lE X.K E t)
def QT(X:Cx)(E:XK)(e:jF)(t:DB):Prop:=PT X e (lB X.K E t)
def QA(X:Cx)(E:XK)(es:List jF)(t:DA):Prop:=PA X es (lA X.K E t)
def QS(X:Cx)(E:XK)(st:jN)(t:DS):Prop:=PS X st (lS X.K E t)
def QSs(X:Cx)(E:XK)(st:List jN)(t:DS):Prop:=PSs X st (lS X.K E t)
theorem _root_._L.PE.mono{t t':TE}(h:PE X e t)(w:∀σ H Q,t' σ H Q->t σ H Q):PE X e t':=λvQ s σ H Q I q=>h vQ s σ H Q I (w σ H Q q)
theorem _root_._L.PT.mono{t t':TT}(h:PT X e t)(w:∀σ H Q,t' σ H Q->t σ H Q):PT X e t':=λvQ s σ H Q I q=>h vQ s σ H Q I (w σ H Q q)
theorem _root_._L.PA.mono{e:List jF}{t t':TA}(h:PA X e t)(w:∀σ H Q,t' σ H Q->t σ H Q):PA X e t':=λpos vQ s σ H Q I q=>h pos vQ s σ H Q I (w σ H Q q)
theorem _root_._L.PS.mono{e:jN}{t t':TS}(h:PS X e t)(w:∀W σ H,t' W σ H->t W σ H):PS X e t':=λvQ s σ H W I q=>h vQ s σ H W I (w W σ H q)
theorem _root_._L.PSs.mono{e:List jN}{t t':TS}(h:PSs X e t)(w:∀W σ H,t' W σ H->t W σ H):PSs X e t':=λvQ s σ H W I q=>h vQ s σ H W I (w W σ H q)
theorem _root_._L.OpR.mono{f:jO->jO->Sem jO}{r r':R2}(h:OpR X f r)(w:∀x y H Q,r' x y H Q->r x y H Q):OpR X f r':=λvQ s σ H x y v u Q I rx ry q=>h vQ s σ H x y v u Q I rx ry (w _ _ _ _ q)
end
theorem Hf{f:D->DH->R D}(h:out E a (r.bind f) Q):
  out E a r (λv H=>∃(b:Wd)(d:D)(G:DH),b.H=H/\Ext a b/\Sim b G/\Rep b d v/\r=.ok d G/\out E b (f d G) Q):=by
 cases r with
 |ok d G=>exact λb v x s q=>⟨b,d,G,rfl,x,s,q,rfl,out.mono x h⟩
 |err e G=>exact h
 |bad=>exact h
theorem Qp{r:R (List D)}{f:List D->DH->R D}(h:out E a (r.bind f) Q):
  Hc E a r (λvs H=>∃(b:Wd)(ds:List D)(G:DH),b.H=H/\Ext a b/\Sim b G/\Reps b ds vs/\r=.ok ds G/\out E b (f ds G) Q):=by
 cases r with
 |ok d G=>exact λb v x s q=>⟨b,d,G,rfl,x,s,q,rfl,out.mono x h⟩
 |err e G=>exact h
 |bad=>exact h
theorem ZLb{r:R Bool}{f:Bool->DH->R D}(h:out E a (r.bind f) Q):
  Gy E a r (λk H=>∃(b:Wd)(G:DH),b.H=H/\Ext a b/\Sim b G/\r=.ok k G/\out E b (f k G) Q):=by
 cases r with
 |ok d G=>exact λb x s=>⟨b,G,rfl,x,s,rfl,out.mono x h⟩
 |err e G=>exact h
 |bad=>exact h
theorem ZK8{f:D->DH->R Bool}{Q:Bool->Hp->Prop}(h:Gy E a (r.bind f) Q):
  out E a r (λv H=>∃(b:Wd)(d:D)(G:DH),b.H=H/\Ext a b/\Sim b G/\Rep b d v/\r=.ok d G/\Gy E b (f d G) Q):=by
 cases r with
 |ok d G=>exact λb v x s q=>⟨b,d,G,rfl,x,s,q,rfl,Gy.mono x h⟩
 |err e G=>exact h
 |bad=>exact h
theorem ZAz{r:R Bool}{f:Bool->DH->R Bool}{Q:Bool->Hp->Prop}(h:Gy E a (r.bind f) Q):
  Gy E a r (λk H=>∃(b:Wd)(G:DH),b.H=H/\Ext a b/\Sim b G/\r=.ok k G/\Gy E b (f k G) Q):=by
 cases r with
 |ok d G=>exact λb x s=>⟨b,G,rfl,x,s,rfl,Gy.mono x h⟩
 |err e G=>exact h
 |bad=>exact h
theorem ZPR{f:D->DH->R (List D)}{Q:List V->Hp->Prop}(h:Hc E a (r.bind f) Q):
  out E a r (λv H=>∃(b:Wd)(d:D)(G:DH),b.H=H/\Ext a b/\Sim b G/\Rep b d v/\r=.ok d G/\Hc E b (f d G) Q):=by
 cases r with
 |ok d G=>exact λb v x s q=>⟨b,d,G,rfl,x,s,q,rfl,Hc.mono x h⟩
 |err e G=>exact h
 |bad=>exact h
theorem ZPT{r:R (List D)}{f:List D->DH->R (List D)}{Q:List V->Hp->Prop}(h:Hc E a (r.bind f) Q):
  Hc E a r (λvs H=>∃(b:Wd)(ds:List D)(G:DH),b.H=H/\Ext a b/\Sim b G/\Reps b ds vs/\r=.ok ds G/\Hc E b (f ds G) Q):=by
 cases r with
 |ok d G=>exact λb v x s q=>⟨b,d,G,rfl,x,s,q,rfl,Hc.mono x h⟩
 |err e G=>exact h
 |bad=>exact h
noncomputable def R.toS{α:Type}(r:R α)(f:α->DH->SR):SR:=match r with
 |.ok a G=>f a G
 |.err x G=>.err x G
 |.bad=>.bad
@[simp]theorem R.Ib(a:α)(G:DH)(f:α->DH->SR):(R.ok a G).toS f=f a G:=id rfl
@[simp]theorem R.ZRt(x:Xn)(G:DH)(f:α->DH->SR):(R.err x G:R α).toS f=.err x G:=id rfl
@[simp]theorem R.ZRi(f:α->DH->SR):(R.bad:R α).toS f=.bad:=id rfl
theorem Tg{f:D->DH->SR}(h:Df E a (r.toS f) W):
  out E a r (λv H=>∃(b:Wd)(d:D)(G:DH),b.H=H/\Ext a b/\Sim b G/\Rep b d v/\r=.ok d G/\Df E b (f d G) W):=by
 cases r with
 |ok d G=>exact λb v x s q=>⟨b,d,G,rfl,x,s,q,rfl,Df.mono x h⟩
 |err e G=>exact h
 |bad=>exact h
theorem ZKe{r:R Bool}{f:Bool->DH->SR}(h:Df E a (r.toS f) W):
  Gy E a r (λk H=>∃(b:Wd)(G:DH),b.H=H/\Ext a b/\Sim b G/\r=.ok k G/\Df E b (f k G) W):=by
 cases r with
 |ok d G=>exact λb x s=>⟨b,G,rfl,x,s,rfl,Df.mono x h⟩
 |err e G=>exact h
 |bad=>exact h
section
theorem out.imp{Q':VK}(h:out E a r Q)(w:∀v H,Q v H->Q' v H):out E a r Q':=by
 cases r with
 |ok d G=>exact λb v x s q=>w _ _ (h b v x s q)
 |err e G=>exact h
 |bad=>exact h
theorem Hc.imp{r:R (List D)}{Q Q':List V->Hp->Prop}(h:Hc E a r Q)(w:∀v H,Q v H->Q' v H):Hc E a r Q':=by
 cases r with
 |ok d G=>exact λb v x s q=>w _ _ (h b v x s q)
 |err e G=>exact h
 |bad=>exact h
theorem Gy.imp{r:R Bool}{Q Q':Bool->Hp->Prop}(h:Gy E a r Q)(w:∀v H,Q v H->Q' v H):Gy E a r Q':=by
 cases r with
 |ok d G=>exact λb x s=>w _ _ (h b x s)
 |err e G=>exact h
 |bad=>exact h
def Wd.push(a:Wd)(p:jD)(ho:HO):Wd:=⟨a.K,a.n+1,λk=>if k=a.n then p else a.m k,upd a.H p ho⟩
def Wd.put(a:Wd)(p:jD)(ho:HO):Wd:={a with H:=upd a.H p ho}
theorem Ext.put(h:a.H p=vJ):Ext a (a.put p ho):=
 ⟨rfl,zx _,λ_ _=>rfl,λq xs e=>by show upd a.H p ho q=_;rw[Bu (Ja e h)];exact e,λq o u e=>by show upd a.H p ho q=_;rw[Bu (Ja e h)];exact e,λ_ t=>t.mono (λq ps e=>by show upd a.H p ho q=_;rw[Bu (Ja e h)];exact e) (λq o u e=>by show upd a.H p ho q=_;rw[Bu (Ja e h)];exact e)⟩
theorem Ext.push(h:a.H p=vJ):Ext a (a.push p ho):=
 ⟨rfl,qT _,λi hi=>by show(if i=a.n then p else a.m i)=a.m i;rw[if_neg (zL hi)],λq xs e=>by show upd a.H p ho q=_;rw[Bu (Ja e h)];exact e,λq o u e=>by show upd a.H p ho q=_;rw[Bu (Ja e h)];exact e,λ_ t=>t.mono (λq ps e=>by show upd a.H p ho q=_;rw[Bu (Ja e h)];exact e) (λq o u e=>by show upd a.H p ho q=_;rw[Bu (Ja e h)];exact e)⟩
theorem XD.mono(x:Ext a b){od:Option jD}{fs:List (Str×D)}(h:XD a od fs):XD b od fs:=by
 rcases h with h|⟨dx,o,us,e,f,k,r⟩
 ·exact .inl h
 ·exact .inr ⟨dx,o,us,e,x.frz _ _ _ f,k,r.mono x⟩
theorem ORep.mono(x:Ext a b){q:Option HO}(h:ORep a o q):ORep b o q:=by
 cases o with
 |lst ds=>obtain⟨vs,e,r⟩:=h;exact⟨vs,e,r.mono x⟩
 |dct kvs=>obtain⟨us,e,k,r⟩:=h;exact⟨us,e,k,r.mono x⟩
 |ins c fs=>obtain⟨C,dx,us,n,e,k,r⟩:=h;exact⟨C,dx,us,by rw[x.k];exact n,e,k,r.mono x⟩
 |tab C m=>obtain⟨c,P,e,t⟩:=h;exact⟨c,P,by rw[x.k];exact e,x.tab _ t⟩
 |exc c fs=>obtain⟨C,oe,u,vs,n,e,k1,k2,z⟩:=h;exact⟨C,oe,u,vs,by rw[x.k];exact n,e,k1,k2,z.mono x⟩
 |gone=>trivial
theorem Sim.lt(s:Sim a G)(h:G[i]?=vZ o):i<a.n:=by rw[<-s.len];exact(zX.mp h).1
theorem Sim.put(s:Sim a G)(h:a.H p=vJ):Sim (a.put p ho) G:=by
 refine⟨s.len,s.inj,λi o e=>?_,λi hi=>?_⟩
 ·have z:a.H (a.m i)≠vJ:=s.tr i (s.lt e);have ne:a.m i≠p:=λq=>z (by rw[q];exact h)
  show ORep _ o (upd a.H p ho (a.m i));rw[Bu ne];exact(s.obj i o e).mono (Ext.put h)
 ·have z:a.H (a.m i)≠vJ:=s.tr i hi;have ne:a.m i≠p:=λq=>z (by rw[q];exact h)
  show upd a.H p ho (a.m i)≠vJ;rw[Bu ne];exact z
theorem Sim.push(s:Sim a G)(h:a.H p=vJ)(r:ORep (a.push p ho) o (vZ ho)):Sim (a.push p ho) (G++[o]):=by
 have nep:∀i,i<a.n->a.m i≠p:=λi hi q=>s.tr i hi (by rw[q];exact h)
 have old:∀i,i<a.n->(a.push p ho).m i=a.m i:=λi hi=>by show(if i=a.n then p else a.m i)=_;rw[if_neg (zL hi)]
 have new:(a.push p ho).m a.n=p:=by show(if a.n=a.n then p else a.m a.n)=_;rw[if_pos rfl]
 refine⟨by simp[s.len,Wd.push],λi j hi hj e=>?_,λi u e=>?_,λi hi=>?_⟩
 ·have hi':i<a.n+1:=hi;have hj':j<a.n+1:=hj;by_cases h1:i<a.n
  ·by_cases h2:j<a.n
   ·rw[old i h1,old j h2]at e;exact s.inj i j h1 h2 e
   ·have:j=a.n:=by lia
    subst this;rw[old i h1,new]at e;exact absurd e (nep i h1)
  ·have:i=a.n:=by lia
   subst this;by_cases h2:j<a.n
   ·rw[old j h2,new]at e;exact absurd e.symm (nep j h2)
   ·lia
 ·by_cases h1:i<a.n
  ·rw[zS (by rw[s.len];exact h1)]at e;rw[old i h1];show ORep _ u (upd a.H p ho (a.m i));rw[Bu (nep i h1)];exact(s.obj i u e).mono (Ext.push h)
  ·have hl:i<(G++[o]).length:=(zX.mp e).1;have:i=a.n:=by rw[zU,s.len]at hl;simp at hl;lia
   subst this;rw[zG (by rw[s.len];exact zx _),s.len]at e;simp at e;subst e;rw[new];show ORep _ o (upd a.H p ho p);rw[Jt];exact r
 ·have hi':i<a.n+1:=hi;by_cases h1:i<a.n
  ·rw[old i h1];show upd a.H p ho (a.m i)≠vJ;rw[Bu (nep i h1)];exact s.tr i h1
  ·have:i=a.n:=by lia
   subst this;rw[new];show upd a.H p ho p≠vJ;rw[Jt];simp
theorem Ext.wr(h:a.H p=vZ (.lst vs)):Ext a (a.put p ho):=
 ⟨rfl,zx _,λ_ _=>rfl,λq xs e=>by
  show upd a.H p ho q=_;rw[Bu (λz=>by subst z;rw[h]at e;cases e)];exact e,λq o u e=>by
  show upd a.H p ho q=_;rw[Bu (λz=>by subst z;rw[h]at e;cases e)];exact e,λ_ t=>t.mono (λq ps e=>by show upd a.H p ho q=_;rw[Bu (λz=>by subst z;rw[h]at e;cases e)];exact e) (λq o u e=>by show upd a.H p ho q=_;rw[Bu (λz=>by subst z;rw[h]at e;cases e)];exact e)⟩
theorem Sim.wr(s:Sim a G)(hi:i<a.n){vs':List V}{ds':List D}(h:a.H (a.m i)=vZ (.lst vs))(r:Reps (a.put (a.m i) (.lst vs')) ds' vs'):Sim (a.put (a.m i) (.lst vs')) (G.set i (.lst ds')):=by
 refine⟨by rw[jk];exact s.len,s.inj,λj o e=>?_,λj hj=>?_⟩
 ·rw[qF]at e;show ORep _ o (upd a.H (a.m i) (.lst vs') (a.m j));by_cases hij:i=j
  ·subst hij;rw[if_pos rfl,if_pos (by rw[s.len];exact hi)]at e;cases e;rw[Jt];exact⟨vs',rfl,r⟩
  ·rw[if_neg hij]at e;rw[Bu λz=>hij (s.inj _ _ (s.lt e) hi z).symm];exact(s.obj j o e).mono (Ext.wr h)
 ·show upd a.H (a.m i) (.lst vs') (a.m j)≠vJ;by_cases hij:a.m j=a.m i
  ·rw[hij,Jt];simp
  ·rw[Bu hij];exact s.tr j hj
mutual
noncomputable def bel(n:Nat):D->Bool
 |.ref i=>decide (i<n)
 |.tup ds=>bels n ds
 |.fl ds=>bels n ds
 |_=>vX
noncomputable def bels(n:Nat):List D->Bool
 |[]=>vX
 |d::ds=>bel n d&&bels n ds
end
def Nt(n:Nat):DO->Bool
 |.lst ds=>bels n ds
 |.dct kvs=>bels n (kvs.map (·.2))
 |.ins _ fs=>bels n (fs.map (·.2))
 |.tab _ _=>vX
 |.exc _ fs=>bels n (fs.map (·.2))
 |.gone=>vX
mutual
theorem Rep.bel:∀{d:D}{v:V},Rep a d v->bel a.n d=vX
 |.non,_,_=>by simp[_D.bel]
 |.bl _,_,_=>by simp[_D.bel]
 |.int _,_,_=>by simp[_D.bel]
 |.str _,_,_=>by simp[_D.bel]
 |.ty _,_,_=>by simp[_D.bel]
 |.tup ds,v,h=>by obtain⟨p,vs,e,q,r⟩:=h;simp only[_D.bel];exact Reps.bels r
 |.fl ds,v,h=>by obtain⟨p,vs,e,q,r⟩:=h;simp only[_D.bel];exact Reps.bels r
 |.ref i,v,h=>by obtain⟨l,e⟩:=h;simp only[_D.bel];exact decide_eq_true l
theorem Reps.bels:∀{ds:List D}{vs:List V},Reps a ds vs->bels a.n ds=vX
 |[],_,_=>by simp[_D.bels]
 |d::ds,vs,h=>by
  obtain⟨v,r,e,h1,h2⟩:=h;simp only[_D.bels];rw[Rep.bel h1,Reps.bels h2]
  rfl
end
structure Cut (b c:Wd):Prop where
 k:c.K=b.K
 h:c.H=b.H
mutual
theorem Rep.cut(x:Cut b c){n:Nat}(hn:n<=c.n)(hm:∀i,i<n->c.m i=b.m i):∀{d:D}{v:V},Rep b d v->bel n d=vX->Rep c d v
 |.non,_,h,_=>h
 |.bl _,_,h,_=>h
 |.int _,_,h,_=>h
 |.str _,_,h,_=>h
 |.ty _,_,h,_=>h
 |.tup ds,v,h,q=>by obtain⟨p,vs,e,t,r⟩:=h;simp only[_D.bel]at q;exact⟨p,vs,e,by rw[x.k,x.h];exact t,Reps.cut x hn hm r q⟩
 |.fl ds,v,h,q=>by obtain⟨p,vs,e,t,r⟩:=h;simp only[_D.bel]at q;exact⟨p,vs,e,by rw[x.k,x.h];exact t,Reps.cut x hn hm r q⟩
 |.ref i,v,h,q=>by obtain⟨l,e⟩:=h;simp only[_D.bel]at q;have q':=of_decide_eq_true q;exact⟨zW q' hn,by rw[hm i q'];exact e⟩
theorem Reps.cut(x:Cut b c){n:Nat}(hn:n<=c.n)(hm:∀i,i<n->c.m i=b.m i):∀{ds:List D}{vs:List V},Reps b ds vs->bels n ds=vX->Reps c ds vs
 |[],_,h,_=>h
 |d::ds,vs,h,q=>by obtain⟨v,r,e,h1,h2⟩:=h;simp only[_D.bels,zV]at q;exact⟨v,r,e,Rep.cut x hn hm h1 q.1,Reps.cut x hn hm h2 q.2⟩
end
theorem ORep.cut(x:Cut b c){n:Nat}(hn:n<=c.n)(hm:∀i,i<n->c.m i=b.m i){q:Option HO}(h:ORep b o q)(l:Nt n o=vX):ORep c o q:=by
 cases o with
 |lst ds=>obtain⟨vs,e,r⟩:=h;exact⟨vs,e,Reps.cut x hn hm r l⟩
 |dct kvs=>obtain⟨us,e,k,r⟩:=h;exact⟨us,e,k,Reps.cut x hn hm r l⟩
 |ins c fs=>obtain⟨C,dx,us,n,e,k,r⟩:=h;exact⟨C,dx,us,by rw[x.k];exact n,e,k,Reps.cut x hn hm r l⟩
 |tab C m=>obtain⟨c,P,e,t⟩:=h;exact⟨c,P,by rw[x.k];exact e,by rw[x.h];exact t⟩
 |exc c fs=>
  obtain⟨C,oe,u,vs,n,e,k1,k2,z⟩:=h;refine⟨C,oe,u,vs,by rw[x.k];exact n,e,k1,k2,?_⟩;rcases z with z|⟨dx,o,us,e,f,k,r⟩
  ·exact .inl z
  ·exact .inr ⟨dx,o,us,e,by rw[x.h];exact f,k,Reps.cut x hn hm r l⟩
 |gone=>trivial
theorem ORep.Nt{q:Option HO}(h:ORep a o q):Nt a.n o=vX:=by
 cases o with
 |lst ds=>obtain⟨vs,e,r⟩:=h;exact r.bels
 |dct kvs=>obtain⟨us,e,k,r⟩:=h;exact r.bels
 |ins c fs=>obtain⟨C,dx,us,n,e,k,r⟩:=h;exact r.bels
 |tab C m=>rfl
 |exc c fs=>
  obtain⟨C,oe,u,vs,n,e,k1,k2,z⟩:=h;rcases z with⟨z,_⟩|⟨dx,o,us,e,f,k,r⟩
  ·rw[z];rfl
  ·exact r.bels
 |gone=>rfl
open Classical in
def tidy (G:DH) (r:R D):R D:=match r with
 | .ok d G'=>if G'.take G.length=G then
   (if bel G.length d=vX then .ok d G else match d with
    |.ref i=>match G'[i]? with
     |some o=>if Nt G.length o=vX then .ok (.ref G.length) (G++[o])else .ok d G'
     |none=>.ok d G'
    |_=>.ok d G')else .ok d G'
 |r=>r
theorem ZCD (s:Sim a G) (h:out E a (tidy G r) Q):out E a r Q:=by
 cases r with
 |err e G'=>exact h
 |bad=>exact h
 | ok d G'=>
  intro b v x sb rb;unfold tidy at h;dsimp only at h;split at h
  ·rename_i hG;have hlen:∀i o,G[i]?=vZ o->G'[i]?=vZ o:=λi o e=>by have hi:i<G.length:=(zX.mp e).1;rw[<-hG,qS hi]at e;exact e
   have base:∀(c:Wd),Cut b c->a.n<=c.n->(∀i,i<a.n->c.m i=b.m i)->∀i o,G[i]?=vZ o->ORep c o (c.H (c.m i)):=λc cc hn hm i o e=>by have q:=sb.obj i o (hlen i o e);rw[cc.h,hm i (s.lt e)];exact q.cut cc hn hm (s.obj i o e).Nt
   split at h
   ·rename_i hb;rw[s.len]at hb;let c:Wd:=⟨b.K,a.n,b.m,b.H⟩;have cc:Cut b c:=⟨rfl,rfl⟩;refine h c v ⟨x.k,zx _,x.m,x.tup,x.frz,x.tab⟩ ⟨s.len,λi j hi hj=>sb.inj i j (zW hi x.n) (zW hj x.n),base c cc (zx _) (λ_ _=>rfl),λi hi=>sb.tr i (zW hi x.n)⟩ ?_;exact rb.cut cc (zx _) (λ_ _=>rfl) hb
   ·rename_i hb;split at h
    ·rename_i i;obtain⟨il,iv⟩:=rb;split at h
     ·rename_i o ho;split at h
      ·rename_i hbo;rw[s.len]at hbo hb h;simp only[_D.bel,decide_eq_true_eq]at hb;let c:Wd:=⟨b.K,a.n+1,λk=>if k=a.n then b.m i else b.m k,b.H⟩;have cc:Cut b c:=⟨rfl,rfl⟩;have cm:∀j,j<a.n->c.m j=b.m j:=λj hj=>by show(if j=a.n then b.m i else b.m j)=_;rw[if_neg (zL hj)]
       have cn:c.m a.n=b.m i:=by show(if a.n=a.n then b.m i else b.m a.n)=_;rw[if_pos rfl]
       have lt':∀j,j<a.n->j<b.n:=λj hj=>zW hj x.n
       refine h c v ⟨x.k,qT _,λj hj=>(cm j hj).trans (x.m j hj),x.tup,x.frz,x.tab⟩ ⟨by simp[s.len,c],λj k hj hk e=>?_,λj u e=>?_,λj hj=>?_⟩ ⟨qY _,by rw[cn];exact iv⟩
       ·have hj':j<a.n+1:=hj;have hk':k<a.n+1:=hk;by_cases h1:j<a.n
        ·by_cases h2:k<a.n
         ·rw[cm j h1,cm k h2]at e;exact sb.inj j k (lt' j h1) (lt' k h2) e
         ·have:k=a.n:=by lia
          subst this;rw[cm j h1,cn]at e;have:=sb.inj j i (lt' j h1) il e;lia
        ·have:j=a.n:=by lia
         subst this;by_cases h2:k<a.n
         ·rw[cm k h2,cn]at e;have:=sb.inj i k il (lt' k h2) e;lia
         ·lia
       ·by_cases h1:j<a.n
        ·rw[zS (by rw[s.len];exact h1)]at e;exact base c cc (qT _) cm j u e
        ·have hl:j<(G++[o]).length:=(zX.mp e).1;have:j=a.n:=by rw[zU,s.len]at hl;simp at hl;lia
         subst this;rw[zG (by rw[s.len];exact zx _),s.len]at e;simp at e;subst e;rw[cn];exact(sb.obj i o ho).cut cc (qT _) cm hbo
       ·have hj':j<a.n+1:=hj;by_cases h1:j<a.n
        ·rw[cm j h1];exact sb.tr j (lt' j h1)
        ·have:j=a.n:=by lia
         subst this;rw[cn];exact sb.tr i il
      ·exact h b v x sb ⟨il,iv⟩
     ·exact h b v x sb ⟨il,iv⟩
    ·exact h b v x sb rb
  ·exact h b v x sb rb
end
noncomputable def dV(i:Nat):DE:=λS G=>match S[i]? with
 |some (vZ d)=>.ok d G
 |_=>.bad
noncomputable def dC(d:D):DE:=λ_ G=>.ok d G
def dOp(f:D->D->DH->R D)(a b:DE):DE:=λS G=>(a S G).bind λx G1=>(b S G1).bind λy G2=>f x y G2
def dUn(f:D->DH->R D)(a:DE):DE:=λS G=>(a S G).bind f
noncomputable def Ah:DA:=λ_ G=>.ok [] G
def Ad(a:DE)(r:DA):DA:=λS G=>(a S G).bind λx G1=>(r S G1).bind λxs G2=>.ok (x::xs) G2
def dFn(f:List D->DH->R D)(t:DA):DE:=λS G=>(t S G).bind f
def Kr(t:DE):DE:=λS G=>tidy G (t S G)
def asB:D->DH->R Bool
 |.bl k,G=>.ok k G
 |_,_=>.bad
def Ao(t:DE):DB:=λS G=>(t S G).bind asB
def Dc(t u:DB):DB:=λS G=>(t S G).bind λk G1=>if k=vX then u S G1 else .ok vV G1
def dOr(t u:DB):DB:=λS G=>(t S G).bind λk G1=>if k=vX then .ok vX G1 else u S G1
def Eh(t:DB):DB:=λS G=>(t S G).bind λk G1=>.ok (!k) G1
def Kh(t u:DE):DE:=λS G=>(t S G).bind λx G1=>(asB x G1).bind λk G2=>if k=vX then u S G2 else .ok (.bl vV) G2
def Rp(t u:DE):DE:=λS G=>(t S G).bind λx G1=>(asB x G1).bind λk G2=>if k=vX then .ok (.bl vX) G2 else u S G2
def ZCs(t:DE):DE:=λS G=>(t S G).bind λx G1=>(asB x G1).bind λk G2=>.ok (.bl (!k)) G2
def Jp(f g:D->D->DH->R D)(a b c:DE):DE:=λS G=>(a S G).bind λx G1=>(b S G1).bind λy G2=>(f x y G2).bind λz G3=>(asB z G3).bind λk G4=>
 if k=vX then(c S G4).bind λw G5=>g y w G5 else .ok (.bl vV) G4
noncomputable def Bl(ds:List D)(G:DH):R D:=if ds.length<=1000000 then .ok (.tup ds) G else .bad
noncomputable def Bb(ds:List D)(G:DH):R D:=if ds.length<=1000000 then .ok (.ref G.length) (G++[.lst ds])else .bad
noncomputable def Ei(d:D)(G:DH):Option (List D):=match d with
 |.tup xs=>vZ xs
 |.fl xs=>vZ xs
 |.ref i=>match G[i]? with
  |some (.lst xs)=>vZ xs
  |_=>vJ
 |_=>vJ
theorem size6:(1000000:Nat)<=sizeLine:=by decide
section
variable{X:Cx}{E:XK}{a b c:jF}{ta tb tc:DE}{pos:Pos}
theorem two{K:PySem.W.Frag}{f:D->D->DH->R D}(h:lE K E (dOp f ta tb) σ H Q):tOp (lR2 K E f) (lE K E ta) (lE K E tb) σ H Q:=by obtain⟨a,S,G,hk,rfl,s,r,h⟩:=h;refine⟨a,S,G,hk,rfl,s,r,(Hf h).imp ?_⟩;rintro v _ ⟨b,d,G1,rfl,x,s1,q,_,h1⟩;refine⟨b,S,G1,x.k.trans hk,rfl,s1,r.mono x,(Hf h1).imp ?_⟩;rintro w _ ⟨c,e,G2,rfl,y,s2,q2,_,h2⟩;exact⟨c,G2,d,e,y.k.trans (x.k.trans hk),rfl,s2,q.mono y,q2,h2⟩
theorem Aa(i:Nat){pos:Pos}(hN:X.N[i]?=vZ x:=by rfl)(hv:Vis X.env.scope x:=by first|exact Or.inl rfl|exact Or.inr (Or.inl rfl)|exact Or.inr (Or.inr rfl))(hd:(x==("__debug__":Str))=vV:=by decide)
  (hcd:(x==("__classdict__":Str))=vV:=by decide):QE X E (.Name x pos) (dV i):=by
 refine(U9 hN hv hd hcd).mono λσ H Q h=>?_
 obtain⟨a,S,G,hk,rfl,s,r,h⟩:=h;unfold dV at h;split at h
 ·rename_i d e;obtain⟨v,e',q⟩:=r.get i d e;exact⟨v,e',h a v (Ext.refl a) s q⟩
 ·exact h.elim
theorem Pb{K:PySem.W.Frag}(h:lE K E (dC d) σ H Q)(r:∀a:Wd,a.K=K->Rep a d v):Q v H:=by obtain⟨a,S,G,hk,rfl,s,_,h⟩:=h;exact h a v (Ext.refl a) s (r a hk)
theorem Ac{i:Int}:QE X E (.Constant (.int i) j pos) (dC (.int i)):=ZQv.mono λσ H Q h=>Pb h λ_ _=>rfl
theorem Hk{i:Bool}:QE X E (.Constant (.bool i) j pos) (dC (.bl i)):=ZPG.mono λσ H Q h=>Pb h λ_ _=>rfl
theorem Fg:QE X E (.Constant .none j pos) (dC .non):=ZKk.mono λσ H Q h=>Pb h λ_ _=>rfl
theorem Bt{i:Str}:QE X E (.Constant (.str i) j pos) (dC (.str i)):=W2.mono λσ H Q h=>Pb h λ_ _=>rfl
theorem Do{u:jO}(hg:Gl X x)(hm:X.mg x=vZ u)(r:RelV v u)(rd:∀a:Wd,a.K=X.K->Rep a d v)(hd:(x==("__debug__":Str))=vV:=by decide):QE X E (.Name x pos) (dC d):=
 (ZGR hg hm r hd).mono λσ H Q h=>Pb h rd
theorem Ag{op:Operator}{f:D->D->DH->R D}(ho:OpR X (xQ op) (lR2 X.K E f))(ha:QE X E a ta)(hb:QE X E b tb):QE X E (.BinOp a op b pos) (dOp f ta tb):=
 (ZPk ho ha hb).mono λ_ _ _ h=>two h
theorem Fi{f:D->D->DH->R D}(ho:OpR X (xV op) (lR2 X.K E f))(ha:QE X E a ta)(hb:QE X E b tb)(hm:jU op b=vV):QE X E (.Compare a [op] [b] pos) (dOp f ta tb):=
 (ZPd ho ha hb hm).mono λ_ _ _ h=>two h
theorem ZEA{K:PySem.W.Frag}{Q:Bool->Hp->Prop}(h:lB K E (Ao t) σ H Q):Tc (lE K E t) σ H Q:=by
 obtain⟨a,S,G,hk,rfl,s,r,h⟩:=h;refine⟨a,S,G,hk,rfl,s,r,(ZK8 h).imp ?_⟩;rintro v _ ⟨b,d,G1,rfl,x,s1,q,_,h1⟩;cases d with
 |bl k=>exact⟨k,q,h1 b (Ext.refl b) s1⟩
 |_=>exact h1.elim
theorem ZG7{t t':TE}(w:∀σ H Q,t' σ H Q->t σ H Q)(σ:St)(H:Hp)(Q:Bool->Hp->Prop)(h:Tc t' σ H Q):Tc t σ H Q:=w _ _ _ h
theorem Ax{f:D->D->DH->R D}(ho:OpR X (xV op) (lR2 X.K E f))(ha:QE X E a ta)(hb:QE X E b tb)(hm:jU op b=vV):QT X E (.Compare a [op] [b] pos) (Ao (dOp f ta tb)):=
 (ZPQ ho ha hb hm).mono λσ H Q h=>ZG7 (λ_ _ _ z=>two z) σ H Q (ZEA h)
theorem chain{K:PySem.W.Frag}{f g:D->D->DH->R D}(h:lE K E (Jp f g ta tb tc) σ H Q):ZBz (lR2 K E f) (lR2 K E g) (lE K E ta) (lE K E tb) (lE K E tc) σ H Q:=by
 obtain⟨a,S,G,hk,rfl,s,r,h⟩:=h;refine⟨a,S,G,hk,rfl,s,r,(Hf h).imp ?_⟩;rintro v _ ⟨b,d,G1,rfl,x,s1,q,_,h1⟩;refine⟨b,S,G1,x.k.trans hk,rfl,s1,r.mono x,(Hf h1).imp ?_⟩;rintro w _ ⟨c,e,G2,rfl,y,s2,q2,_,h2⟩;refine⟨c,G2,d,e,y.k.trans (x.k.trans hk),rfl,s2,q.mono y,q2,(Hf h2).imp ?_⟩;rintro z _ ⟨c3,e3,G3,rfl,y3,s3,q3,_,h3⟩;cases e3 with
 | bl k=>
  refine⟨k,q3,?_⟩;cases k with
  |false=>exact h3 c3 (.bl vV) (Ext.refl _) s3 rfl
  |true=>
   refine⟨c3,S,G3,(y3.k.trans (y.k.trans (x.k.trans hk))),rfl,s3,((r.mono x).mono y).mono y3,(Hf h3).imp ?_⟩;rintro z4 _ ⟨c4,e4,G4,rfl,y4,s4,q4,_,h4⟩;exact⟨c4,G4,e,e4,y4.k.trans (y3.k.trans (y.k.trans (x.k.trans hk))),rfl,s4,(q2.mono y3).mono y4,q4,h4⟩
 |_=>exact h3.elim
theorem ZE3{op':CmpOp}{f g:D->D->DH->R D}(ho:OpR X (xV op) (lR2 X.K E f))(ho':OpR X (xV op') (lR2 X.K E g))(ha:QE X E a ta)(hb:QE X E b tb)(hc:QE X E c tc)
  (hm:lastMarks [op,op'] [b,c]=vV:=by with_unfolding_all rfl):QE X E (.Compare a [op,op'] [b,c] pos) (Jp f g ta tb tc):=
 (ZLh ho ho' ha hb hc hm).mono λ_ _ _ h=>chain h
theorem Sw{op':CmpOp}{f g:D->D->DH->R D}(ho:OpR X (xV op) (lR2 X.K E f))(ho':OpR X (xV op') (lR2 X.K E g))(ha:QE X E a ta)(hb:QE X E b tb)(hc:QE X E c tc)
  (hm:lastMarks [op,op'] [b,c]=vV:=by with_unfolding_all rfl):QT X E (.Compare a [op,op'] [b,c] pos) (Ao (Jp f g ta tb tc)):=
 (ZNn ho ho' ha hb hc hm).mono λσ H Q h=>ZG7 (λ_ _ _ z=>chain z) σ H Q (ZEA h)
theorem Jh(ha:QE X E a ta)(he:∀whole,isTrue a X.env whole=(do let v<-whole;standAt a.pos;holding [v] (truthy v)):=by intro _;rfl):QT X E a (Ao ta):=
 (ZQM ha he).mono λσ H Q h=>ZEA h
theorem N6(ha:QE X E a ta):QE X E a (Kr ta):=_L.PE.mono ha λσ H Q h=>by obtain⟨w,S,G,hk,rfl,s,r,h⟩:=h;exact⟨w,S,G,hk,rfl,s,r,ZCD s h⟩
def QW(X:Cx)(E:XK)(e:jF)(t:DB):Prop:=PW X e (lB X.K E t)
theorem _root_._L.PW.mono{t t':TT}(h:PW X e t)(w:∀σ H Q,t' σ H Q->t σ H Q):PW X e t':=λwh vQ s σ H Q I q=>h wh vQ s σ H Q I (w σ H Q q)
variable{u t:DB}{rest:List jF}
theorem ZNL{K:PySem.W.Frag}{Q:Bool->Hp->Prop}(h:lB K E (Dc t u) σ H Q):tAnd (lB K E t) (lB K E u) σ H Q:=by
 obtain⟨a,S,G,hk,rfl,s,r,h⟩:=h;refine⟨a,S,G,hk,rfl,s,r,(ZAz h).imp ?_⟩;rintro k _ ⟨b,G1,rfl,x,s1,_,h1⟩;cases k with
 |true=>exact⟨b,S,G1,x.k.trans hk,rfl,s1,r.mono x,h1⟩
 |false=>exact h1 b (Ext.refl b) s1
theorem ZJ3{K:PySem.W.Frag}{Q:Bool->Hp->Prop}(h:lB K E (dOr t u) σ H Q):tOr (lB K E t) (lB K E u) σ H Q:=by
 obtain⟨a,S,G,hk,rfl,s,r,h⟩:=h;refine⟨a,S,G,hk,rfl,s,r,(ZAz h).imp ?_⟩;rintro k _ ⟨b,G1,rfl,x,s1,_,h1⟩;cases k with
 |true=>exact h1 b (Ext.refl b) s1
 |false=>exact⟨b,S,G1,x.k.trans hk,rfl,s1,r.mono x,h1⟩
theorem Ef(ha:QT X E a t):QW X E (.BoolOp .And [a] pos) t:=pw_and1 ha
theorem Fp(ha:QT X E a t):QW X E (.BoolOp .Or [a] pos) t:=pw_or1 ha
theorem Dq(ha:QT X E a t)(hb:QW X E (.BoolOp .And (b::rest) pos) u):QW X E (.BoolOp .And (a::b::rest) pos) (Dc t u):=(pw_and ha hb).mono λ_ _ _ h=>ZNL h
theorem En(ha:QT X E a t)(hb:QW X E (.BoolOp .Or (b::rest) pos) u):QW X E (.BoolOp .Or (a::b::rest) pos) (dOr t u):=(pw_or ha hb).mono λ_ _ _ h=>ZJ3 h
theorem Cj(h:QW X E a t):QT X E a t:=_L.PW.pt h
theorem I9(ha:QT X E a t):QT X E (.UnaryOp .Not a pos) (Eh t):=(ZNx ha).mono λσ H Q h=>by obtain⟨a,S,G,hk,rfl,s,r,h⟩:=h;refine⟨a,S,G,hk,rfl,s,r,(ZAz h).imp ?_⟩;rintro k _ ⟨b,G1,rfl,x,s1,_,h1⟩;exact h1 b (Ext.refl b) s1
theorem Ke{op}(h:QE X E a ta):QE X E (.BoolOp op [a] pos) ta:=ZP4 h
theorem Ni(ha:QE X E a ta)(hb:QE X E (.BoolOp .And (b::rest) pos) tb):QE X E (.BoolOp .And (a::b::rest) pos) (Kh ta tb):=(ZLP ha hb).mono λσ H Q h=>by
 obtain⟨a,S,G,hk,rfl,s,r,h⟩:=h;refine⟨a,S,G,hk,rfl,s,r,(Hf h).imp ?_⟩;rintro v _ ⟨b,d,G1,rfl,x,s1,q,_,h1⟩;cases d with
 |bl k=>
  refine⟨k,q,?_⟩;cases k with
  |true=>exact⟨b,S,G1,x.k.trans hk,rfl,s1,r.mono x,h1⟩
  |false=>exact h1 b _ (Ext.refl b) s1 rfl
 |_=>exact h1.elim
theorem ZCZ(ha:QE X E a ta)(hb:QE X E (.BoolOp .Or (b::rest) pos) tb):QE X E (.BoolOp .Or (a::b::rest) pos) (Rp ta tb):=(ZQu ha hb).mono λσ H Q h=>by
 obtain⟨a,S,G,hk,rfl,s,r,h⟩:=h;refine⟨a,S,G,hk,rfl,s,r,(Hf h).imp ?_⟩;rintro v _ ⟨b,d,G1,rfl,x,s1,q,_,h1⟩;cases d with
 |bl k=>
  refine⟨k,q,?_⟩;cases k with
  |false=>exact⟨b,S,G1,x.k.trans hk,rfl,s1,r.mono x,h1⟩
  |true=>exact h1 b _ (Ext.refl b) s1 rfl
 |_=>exact h1.elim
theorem ZKm(ha:QE X E a ta):QE X E (.UnaryOp .Not a pos) (ZCs ta):=(ZPO ha).mono λσ H Q h=>by
 obtain⟨a,S,G,hk,rfl,s,r,h⟩:=h;refine⟨a,S,G,hk,rfl,s,r,(Hf h).imp ?_⟩;rintro v _ ⟨b,d,G1,rfl,x,s1,q,_,h1⟩;cases d with
 |bl k=>exact⟨k,q,h1 b _ (Ext.refl b) s1 rfl⟩
 |_=>exact h1.elim
variable{es:List jF}{tr:DA}
theorem Ai:QA X E [] Ah:=ZDg.mono λσ H Q h=>by obtain⟨a,S,G,hk,rfl,s,r,h⟩:=h;exact h a [] (Ext.refl a) s rfl
noncomputable def notStar:jF->Bool
 |.Starred _ _=>vV
 |_=>vX
theorem Ji(a:jF)(es:List jF)(env:Env)(h:notStar a=vX):xE (a::es) env=(vV,eval a env)::xE es env:=by
 cases a<;>first
  |exact absurd h zv
  |rfl
theorem Ou(pos:Pos)(env:Env):∀es:List jF,es.all notStar=vX->(jT pos (xE es env)).any (·.1)=vV
 |[],_=>rfl
 |a::es,h=>by
  rw[qH,zV]at h;rw[Ji a es env h.1];have ih:=Ou pos env es h.2;unfold jT at ih⊢;rw[zz,List.any_cons,ih]
  rfl
theorem Ae(ha:QE X E a ta)(hr:QA X E es tr)(hs:notStar a=vX:=by rfl):QA X E (a::es) (Ad ta tr):=(T5 ha hr (Ji a es X.env hs)).mono λσ H Q h=>by obtain⟨a,S,G,hk,rfl,s,r,h⟩:=h;refine⟨a,S,G,hk,rfl,s,r,(ZPR h).imp ?_⟩;rintro v _ ⟨b,d,G1,rfl,x,s1,q,_,h1⟩;refine⟨b,S,G1,x.k.trans hk,rfl,s1,r.mono x,(ZPT h1).imp ?_⟩;rintro vs _ ⟨c,ds,G2,rfl,y,s2,q2,_,h2⟩;exact h2 c _ (Ext.refl c) s2 (Reps.cons (q.mono y) q2)
theorem Bw{x1}(h:QA X E es tr):QE X E (.Tuple es x1 pos) (dFn Bl tr):=(ZOx h).mono λσ H Q h=>by
 obtain⟨a,S,G,hk,rfl,s,r,h⟩:=h;refine⟨a,S,G,hk,rfl,s,r,(Qp h).imp ?_⟩;rintro vs _ ⟨b,ds,G1,rfl,x,s1,q,_,h1⟩;unfold Bl at h1;split at h1
 ·rename_i hl;refine⟨by rw[<-q.length];exact z9 hl size6,λp hp=>?_⟩;exact h1 (b.put p (.tup vs)) (.ref p) (Ext.put hp) (s1.put hp) ⟨p,vs,rfl,.of Jt,q.mono (Ext.put hp)⟩
 ·exact h1.elim
theorem Dk(h:QA X E es tr):QE X E (.List es pos) (dFn Bb tr):=(ZQ1 h).mono λσ H Q h=>by
 obtain⟨a,S,G,hk,rfl,s,r,h⟩:=h;refine⟨a,S,G,hk,rfl,s,r,(Qp h).imp ?_⟩;rintro vs _ ⟨b,ds,G1,rfl,x,s1,q,_,h1⟩;unfold Bb at h1;split at h1
 ·rename_i hl;refine⟨by rw[<-q.length];exact z9 hl size6,λp hp=>?_⟩;refine h1 (b.push p (.lst vs)) (.ref p) (Ext.push hp) (s1.push hp ⟨vs,rfl,q.mono (Ext.push hp)⟩) ⟨?_,?_⟩
  ·rw[s1.len];exact qY _
  ·rw[s1.len];show V.ref p=.ref (if b.n=b.n then p else b.m b.n);rw[if_pos rfl]
 ·exact h1.elim
variable{e:jF}{x:Str}{p:Pos}
theorem U0{K:PySem.W.Frag}{f:List D->DH->R D}(h:lE K E (dFn f tr) σ H Q):lA K E tr σ H (λvs H1=>lRn K E f vs H1 Q):=by obtain⟨a,S,G,hk,rfl,s,r,h⟩:=h;refine⟨a,S,G,hk,rfl,s,r,(Qp h).imp ?_⟩;rintro vs _ ⟨b,ds,G1,rfl,x,s1,q,_,h1⟩;exact⟨b,G1,ds,x.k.trans hk,rfl,s1,q,h1⟩
theorem Cm{id:String}{f:List D->DH->R D}(hc:CallR X (.builtin id) (lRn X.K E f))(hg:Gl X x)(hm:X.mg x=vJ)(hv:xZ x=vZ (.builtin id))(ha:QA X E (e::es) tr)(hn:x≠"__name__":=by decide)(hdb:(x==("__debug__":Str))=vV:=by decide)
  (he:notStar e=vX:=by rfl) (hpl:es.all notStar=vX:=by rfl):QE X E (.Call (.Name x p) (e::es) [] pos) (dFn f tr):=
 (ZGv hc hg hm hv ha hn hdb (Ji e es X.env he) (Ou pos X.env es hpl)).mono λσ H Q h=>U0 h
theorem Qi{id:String}{f:List D->DH->R D}(hc:CallR X (.type id) (lRn X.K E f))(hg:Gl X x)(hm:X.mg x=vJ)(hv:xZ x=vZ (.type id))(ha:QA X E (e::es) tr)(hn:x≠"__name__":=by decide)(hdb:(x==("__debug__":Str))=vV:=by decide)
  (he:notStar e=vX:=by rfl) (hpl:es.all notStar=vX:=by rfl):QE X E (.Call (.Name x p) (e::es) [] pos) (dFn f tr):=
 (ZOz hc hg hm hv ha hn hdb (Ji e es X.env he) (Ou pos X.env es hpl)).mono λσ H Q h=>U0 h
theorem ZNH{CX:CXT}{f:jD}{fd:jG}{ps:List Str}{F:List D->DH->R D}(FF:FnOk X.prog X.w X.K X.mg X.base CX k f fd ps (lF X.K F))(hr:Room k X.A)(hg:Gl X x)(hm:X.mg x=vZ (.ref f))(hk:PySem.W.keepIn X.K (.ref f)=vX)(hb:Binds X.K fd ps [])
  (hx:Passes CX X E0) (ha:QA X E0 (e::es) tr) (hdb:(x==("__debug__":Str))=vV:=by decide) (he:notStar e=vX:=by rfl) (hpl:es.all notStar=vX:=by rfl):
  QE X E0 (.Call (.Name x p) (e::es) [] pos) (dFn F tr):=
 (ZCJ FF hr hg hm hk hb .nil hx ha hdb (Ji e es X.env he) (Ou pos X.env es hpl)).mono λσ H Q h=>by obtain⟨a,S,G,hk,rfl,s,r,h⟩:=U0 h;refine⟨a,S,G,hk,rfl,s,r,h.imp ?_⟩;rintro vs _ ⟨b,G1,ds,hk,rfl,s1,q,h1⟩;exact⟨b,G1,ds,hk,rfl,s1,by rw[zP];exact q,h1⟩
theorem Am{f:D->D->DH->R D}(hr:IxR X (lR2 X.K E f))(ha:QE X E a ta)(hb:QE X E b tb)(hs:PlainIx b:=by intro _ _;rfl):QE X E (.Subscript a b pos) (dOp f ta tb):=
 (ZLR hr ha hb hs).mono λ_ _ _ h=>two h
end
noncomputable instance (i j:Int):Decidable (CMul i j):=by unfold CMul;infer_instance
noncomputable instance (i j:Int):Decidable (CPow i j):=by unfold CPow;infer_instance
def CDivL(j:Int):Prop:=0<j/\j.natAbs.log2<9000
noncomputable instance (j:Int):Decidable (CDivL j):=by unfold CDivL;infer_instance
def Fd:D->D->DH->R D
 |.int i,.int j,G=>.ok (.int (i-j)) G
 |_,_,_=>.bad
def Dz:D->D->DH->R D
 |.int i,.int j,G=>if CDivL j then .ok (.int (i/j)) G else .bad
 |_,_,_=>.bad
def Bg:D->D->DH->R D
 |.int i,.int j,G=>if 0<j then .ok (.int (i%j)) G else .bad
 |_,_,_=>.bad
def Jb:D->D->DH->R D
 |.int i,.int j,G=>if CPow i j then .ok (.int (i^j.toNat)) G else .bad
 |_,_,_=>.bad
def Du:D->D->DH->R D
 |.int i,.int j,G=>.ok (.bl (decide (i<j))) G
 |.str i,.str j,G=>.ok (.bl (decide (i.cps.toList<j.cps.toList))) G
 |_,_,_=>.bad
def G6:D->D->DH->R D
 |.int i,.int j,G=>.ok (.bl (decide (i<=j))) G
 |.str i,.str j,G=>.ok (.bl (!decide (j.cps.toList<i.cps.toList))) G
 |_,_,_=>.bad
def Es:D->D->DH->R D
 |.int i,.int j,G=>.ok (.bl (decide (j<i))) G
 |.str i,.str j,G=>.ok (.bl (decide (j.cps.toList<i.cps.toList))) G
 |_,_,_=>.bad
def Yg:D->D->DH->R D
 |.int i,.int j,G=>.ok (.bl (decide (j<=i))) G
 |.str i,.str j,G=>.ok (.bl (!decide (i.cps.toList<j.cps.toList))) G
 |_,_,_=>.bad
noncomputable def Ik(d:D)(G:DH):Option (List D):=match d with
 |.fl xs=>vZ xs
 |.ref i=>match G[i]? with
  |some (.lst xs)=>vZ xs
  |_=>vJ
 |_=>vJ
def Ba:D->D->DH->R D
 |.int i,.int j,G=>.ok (.int (i+j)) G
 |.str i,.str j,G=>if i.length+j.length<=1000000 then .ok (.str (i++j)) G else .bad
 |.tup xs,.tup ys,G=>if xs≠[]/\xs.length+ys.length<=1000000 then .ok (.tup (xs++ys)) G else .bad
 |d,e,G=>match Ik d G,Ik e G with
  |some xs,vZ ys=>if xs.length+ys.length<=1000000 then .ok (.ref G.length) (G++[.lst (xs++ys)])else .bad
  |_,_=>.bad
section
variable{X:Cx}{E:XK}
theorem Ht{f:jO->jO->Sem jO}{r:R2}{F:D->D->DH->R D}(ho:OpR X f r)
  (h:∀(a:Wd)(G:DH)(d e:D)(x y:V)(Q:VK),a.K=X.K->Sim a G->Rep a d x->Rep a e y->out E a (F d e G) Q->r x y a.H Q):OpR X f (lR2 X.K E F):=
 ho.mono λx y H Q ⟨a,G,d,e,hk,hH,s,rd,re,q⟩=>by subst hH;exact h a G d e x y Q hk s rd re q
theorem Gv:OpR X (xQ .Sub) (lR2 X.K E Fd):=Ht ZMS λa G d e x y Q hk s rd re q=>by
 cases d<;>cases e<;>first
  |exact q.elim
  |exact⟨_,_,rd,re,q a _ (Ext.refl a) s rfl⟩
theorem ZKu:OpR X (xQ .FloorDiv) (rI (λ_ j=>CDivL j) λi j=>.int (i/j)):=opI λi j _ _ _ _ _ hc q=>by have e:i.fdiv j=i/j:=Int.fdiv_eq_ediv_of_nonneg _ (Int.le_of_lt hc.1);refine floordiv_int (by have:=hc.1;lia) (by rw[e];exact q) (.inl (PyProof.noPylong_of_log2 hc.2))
theorem Eg:OpR X (xQ .FloorDiv) (lR2 X.K E Dz):=Ht ZKu λa G d e x y Q hk s rd re q=>by
 cases d<;>cases e<;>first
  |exact q.elim
  | (
    rename_i i j;unfold Dz at q;dsimp only at q;split at q
    ·exact⟨_,_,rd,re,by assumption,q a _ (Ext.refl a) s rfl⟩
    ·exact q.elim)
theorem Bk:OpR X (xQ .Mod) (lR2 X.K E Bg):=Ht ZPN λa G d e x y Q hk s rd re q=>by
 cases d<;>cases e<;>first
  |exact q.elim
  | (
    rename_i i j;unfold Bg at q;dsimp only at q;split at q
    ·exact⟨_,_,rd,re,by assumption,q a _ (Ext.refl a) s rfl⟩
    ·exact q.elim)
theorem La:OpR X (xQ .Pow) (lR2 X.K E Jb):=Ht ZM9 λa G d e x y Q hk s rd re q=>by
 cases d<;>cases e<;>first
  |exact q.elim
  | (
    rename_i i j;unfold Jb at q;dsimp only at q;split at q
    ·exact⟨_,_,rd,re,by assumption,q a _ (Ext.refl a) s rfl⟩
    ·exact q.elim)
theorem Em:OpR X (xV .Lt) (lR2 X.K E Du):=Ht (ZK7.or ZQd) λa G d e x y Q hk s rd re q=>by
 cases d<;>cases e<;>first
  |exact q.elim
  |exact .inl ⟨_,_,rd,re,q a _ (Ext.refl a) s rfl⟩
  |exact .inr ⟨_,_,rd,re,q a _ (Ext.refl a) s rfl⟩
theorem ZKv:OpR X (xV .LtE) (λx y H Q=>∃i j,x=.str i/\y=.str j/\Q (.bl (!decide (j.cps.toList<i.cps.toList))) H):=by intro vQ s σ H x y v u Q I rx ry h;obtain⟨i,j,rfl,rfl,q⟩:=h;obtain⟨t,rfl⟩:=rx;obtain⟨t',rfl⟩:=ry;exact PySem.P.le_str ⟨.bl _,H,I,rfl,q⟩
theorem ZMj:OpR X (xV .Gt) (λx y H Q=>∃i j,x=.str i/\y=.str j/\Q (.bl (decide (j.cps.toList<i.cps.toList))) H):=by intro vQ s σ H x y v u Q I rx ry h;obtain⟨i,j,rfl,rfl,q⟩:=h;obtain⟨t,rfl⟩:=rx;obtain⟨t',rfl⟩:=ry;exact PySem.P.gt_str ⟨.bl _,H,I,rfl,q⟩
theorem ZQ5:OpR X (xV .GtE) (λx y H Q=>∃i j,x=.str i/\y=.str j/\Q (.bl (!decide (i.cps.toList<j.cps.toList))) H):=by intro vQ s σ H x y v u Q I rx ry h;obtain⟨i,j,rfl,rfl,q⟩:=h;obtain⟨t,rfl⟩:=rx;obtain⟨t',rfl⟩:=ry;exact PySem.P.ge_str ⟨.bl _,H,I,rfl,q⟩
theorem Ir:OpR X (xV .LtE) (lR2 X.K E G6):=Ht (ZKA.or ZKv) λa G d e x y Q hk s rd re q=>by
 cases d<;>cases e<;>first
  |exact q.elim
  |exact .inl ⟨_,_,rd,re,q a _ (Ext.refl a) s rfl⟩
  |exact .inr ⟨_,_,rd,re,q a _ (Ext.refl a) s rfl⟩
theorem Fj:OpR X (xV .Gt) (lR2 X.K E Es):=Ht (ZMm.or ZMj) λa G d e x y Q hk s rd re q=>by
 cases d<;>cases e<;>first
  |exact q.elim
  |exact .inl ⟨_,_,rd,re,q a _ (Ext.refl a) s rfl⟩
  |exact .inr ⟨_,_,rd,re,q a _ (Ext.refl a) s rfl⟩
theorem o_ge:OpR X (xV .GtE) (lR2 X.K E Yg):=Ht (ZPI.or ZQ5) λa G d e x y Q hk s rd re q=>by
 cases d<;>cases e<;>first
  |exact q.elim
  |exact .inl ⟨_,_,rd,re,q a _ (Ext.refl a) s rfl⟩
  |exact .inr ⟨_,_,rd,re,q a _ (Ext.refl a) s rfl⟩
theorem Sim.lst(s:Sim a G)(h:G[i]?=vZ (.lst xs)):∃vs,a.H (a.m i)=vZ (.lst vs)/\Reps a xs vs:=s.obj i _ h
theorem Ws(s:Sim a G)(r:Reps a ds vs)(h:out E a (.ok (.ref G.length) (G++[.lst ds])) Q)(p:jD)(hp:a.H p=vJ):Q (.ref p) (upd a.H p (.lst vs)):=by
 refine h (a.push p (.lst vs)) (.ref p) (Ext.push hp) (s.push hp ⟨vs,rfl,r.mono (Ext.push hp)⟩) ⟨?_,?_⟩
 ·rw[s.len];exact qY _
 ·rw[s.len];show V.ref p=.ref (if a.n=a.n then p else a.m a.n);rw[if_pos rfl]
theorem Vx(s:Sim a G)(r:Reps a ds vs)(h:out E a (.ok (.tup ds) G) Q)(p:jD)(hp:a.H p=vJ):Q (.ref p) (upd a.H p (.tup vs)):=
 h (a.put p (.tup vs)) (.ref p) (Ext.put hp) (s.put hp) ⟨p,vs,rfl,.of Jt,r.mono (Ext.put hp)⟩
theorem Uj{x:V}(s:Sim a G)(r:Rep a d x)(h:Ik d G=vZ xs):∃p vs,x=.ref p/\SqL a.K a.H p vs/\Reps a xs vs:=by
 cases d with
 |fl ys=>
  have e:ys=xs:=Option.some.inj h;subst e;obtain⟨p,vs,e,q,rr⟩:=r;exact⟨p,vs,e,q.sq,rr⟩
 |ref i=>
  unfold Ik at h;dsimp only at h;split at h
  ·rename_i ys hi;have e:ys=xs:=Option.some.inj h;subst e;obtain⟨vs,e1,r1⟩:=s.lst hi;exact⟨a.m i,vs,r.2,.of e1,r1⟩
  ·cases h
 |_=>cases h
def ZFm(K:PySem.W.Frag):R2:=λx y H Q=>∃l b xs zs,x=.ref l/\y=.ref b/\SqL K H l xs/\SqL K H b zs/\xs.length+zs.length<=sizeLine/\∀p,H p=vJ->Q (.ref p) (upd H p (.lst (xs++zs)))
theorem ZPF:OpR X (xQ .Add) (ZFm X.K):=by
 intro vQ s σ H x y v u Q I rx ry h;obtain⟨l,b,xs,zs,rfl,rfl,hH,hB,hz,q⟩:=h;cases rx;cases ry;obtain⟨its,r,p1,_⟩:=I.list hH;obtain⟨its2,r2,p2,_⟩:=I.list hB;obtain⟨⟨cls,dd,data,sl⟩,n,ho,hc,_,hd⟩:=p1;obtain⟨⟨cls2,dd2,data2,sl2⟩,n2,ho2,hc2,_,hd2⟩:=p2;cases hc;cases hd;cases hc2;cases hd2;have hl:=r.length;have hl2:=r2.length;refine concat_meets ⟨_,ho,rfl⟩ ⟨_,ho2,rfl⟩ noFill_list_add seq_list_add PySem.F.slot_list_add PySem.F.entry_list_add (PySem.F.args_list_add_2 _ _) (list_addW l b its.toArray its2.toArray n n2 dd dd2 sl sl2 (by rw[zK,zK];lia)) ⟨ho,ho2,?_⟩
 have ea:its.toArray++its2.toArray=(its++its2).toArray:=by simp
 rw[ea];exact⟨.ref _,_,I.lnew (t':=s.toks) (r.append r2) (by rw[zU];lia),rfl,q _ I.fresh⟩
theorem Bm:OpR X (xQ .Add) (lR2 X.K E Ba):=Ht (ZOE.or (ZQC.or (ZPF.or ZJo))) λa G d e x y Q hk s rd re q=>by
 have lst:out E a (match Ik d G,Ik e G with
  |some xs,vZ ys=>if xs.length+ys.length<=1000000 then .ok (.ref G.length) (G++[.lst (xs++ys)])else .bad
  |_,_=>.bad) Q->ZFm X.K x y a.H Q:=λq=>by
  split at q
  ·rename_i xs ys h1 h2;split at q
   ·rename_i hl;obtain⟨p,vs,e1,q1,r1⟩:=Uj s rd h1;obtain⟨p',vs',e2,q2,r2⟩:=Uj s re h2;rw[hk]at q1 q2;exact⟨p,p',vs,vs',e1,e2,q1,q2,by rw[<-r1.length,<-r2.length];exact z9 hl size6,λp hp=>Ws s (r1.append r2) q p hp⟩
   ·exact q.elim
  ·exact q.elim
 have L:=λq=>Or.inr (a:=rI0 (λi j=>V.int (i+j)) x y a.H Q) (Or.inr (a:=∃i j,x=.str i/\y=.str j/\i.length+j.length<=sizeLine/\Q (.str (i++j)) a.H) (Or.inl (b:=ZHV X.K x y a.H Q) (lst q)))
 cases d<;>cases e<;>first
  |exact .inl ⟨_,_,rd,re,q a _ (Ext.refl a) s rfl⟩
  |exact L q
  |skip
 ·rename_i i j;unfold Ba at q;dsimp only at q;split at q
  ·rename_i hl;exact .inr (.inl ⟨_,_,rd,re,z9 hl size6,q a _ (Ext.refl a) s rfl⟩)
  ·exact q.elim
 ·rename_i xs ys;unfold Ba at q;dsimp only at q;split at q
  ·rename_i hl;obtain⟨p,vs,e1,h1,r1⟩:=rd;obtain⟨p',vs',e2,h2,r2⟩:=re;rw[hk]at h1 h2;refine .inr (.inr (.inr ⟨p,p',vs,vs',e1,e2,h1,h2,λz=>hl.1 (qZ (by rw[r1.length,z];rfl)),by rw[<-r1.length,<-r2.length];exact z9 hl.2 size6,λz=>?_,λ_ p0 hp=>?_⟩))
   ·refine q a (.ref p) (Ext.refl a) s ⟨p,vs,rfl,by rw[hk];exact h1,?_⟩;have e3:ys=[]:=qZ (by rw[r2.length,z];rfl);rw[e3,zP];exact r1
   ·exact Vx s (r1.append r2) q p0 hp
  ·exact q.elim
inductive VD where
 |flat (v:V)
 |lst (xs:List D)
 |tup (xs:List D)
 |bad
def view(G:DH):D->VD
 |.non=>.flat .non
 |.bl b=>.flat (.bl b)
 |.int i=>.flat (.int i)
 |.str x=>.flat (.str x)
 |.ty _=>.bad
 |.tup xs=>.tup xs
 |.fl xs=>.lst xs
 |.ref i=>match G[i]? with
  |some (.lst xs)=>.lst xs
  |_=>.bad
noncomputable def eqZ(f:D->D->Option Bool):List D->List D->Option Bool
 |x::xs,y::ys=>match f x y,eqZ f xs ys with
  |some a,vZ b=>vZ (a&&b)
  |_,_=>vJ
 |_,_=>vZ vX
def eqD:Nat->DH->D->D->Option Bool
 |0=>λ_ _ _=>vJ
 | n+1=>λG d e=>match view G d,view G e with
  |.flat a,.flat b=>vZ (eqV a b)
  |.lst xs,.lst ys=>if xs.length=ys.length then eqZ (eqD n G) xs ys else vZ vV
  |.tup xs,.tup ys=>match eqZ (eqD n G) xs ys with
   |some b=>vZ (b&&xs.length==ys.length)
   |none=>vJ
  |.bad,_=>vJ
  |_,.bad=>vJ
  |_,_=>vZ vV
theorem Ve{f:D->D->Option Bool}:∀{xs ys:List D}{k:Bool},eqZ f xs ys=vZ k->∃e:Nat->Bool,(∀(j:Nat)(x y:D),xs[j]?=vZ x->ys[j]?=vZ y->f x y=vZ (e j))/\k=(zy (min xs.length ys.length)).all e
 | [],ys,k,h=>⟨λ_=>vX,λj x y e1 _=>by simp at e1,by
   have h':vZ vX=vZ k:=by cases ys<;>exact h
   cases h';simp⟩
 |x::xs,[],k,h=>⟨λ_=>vX,λj x y _ e1=>by simp at e1,by have h':vZ vX=vZ k:=h;cases h';simp⟩
 | x::xs,y::ys,k,h=>by
  unfold eqZ at h;split at h
  ·rename_i a b h1 h2;obtain⟨e,he,hk⟩:=Ve h2;have h':(a&&b)=k:=Option.some.inj h
   refine⟨λj=>match j with |0=>a|j+1=>e j,λj x' y' e1 e2=>?_,?_⟩
   ·cases j with
    |zero=>simp at e1 e2;subst e1;subst e2;exact h1
    |succ j=>exact he j x' y' (by simpa using e1) (by simpa using e2)
   ·rw[<-h',hk];have:min (x::xs).length (y::ys).length=min xs.length ys.length+1:=by simp only[qw];lia
    rw[this,j0,qH,List.all_map]
    rfl
  ·cases h
theorem Yx(s:Sim a G){x:V}(r:Rep a d x):match view G d with
  |.flat v=>x=v/\Et v=vX
  |.lst xs=>∃p vs,x=.ref p/\SqL a.K a.H p vs/\Reps a xs vs
  |.tup xs=>∃p vs,x=.ref p/\SqT a.K a.H p vs/\Reps a xs vs
  |.bad=>True:=by
 cases d with
 |non=>exact⟨r,rfl⟩
 |bl b=>exact⟨r,rfl⟩
 |int b=>exact⟨r,rfl⟩
 |str b=>exact⟨r,rfl⟩
 |ty n=>trivial
 |tup xs=>
  obtain⟨p,vs,e,h,q⟩:=r;exact⟨p,vs,e,h,q⟩
 |fl xs=>
  obtain⟨p,vs,e,h,q⟩:=r;exact⟨p,vs,e,h.sq,q⟩
 | ref i=>
  unfold view;dsimp only;split
  ·rename_i v hv
   split at hv<;>cases hv
  ·rename_i xs hv;split at hv
   ·rename_i ys hi;cases hv;obtain⟨vs,e1,r1⟩:=s.lst hi;exact⟨a.m i,vs,r.2,.of e1,r1⟩
   ·cases hv
  ·rename_i xs hv
   split at hv<;>cases hv
  ·trivial
theorem ZL2{A:jE}{y x:V}{u v:jO}(ry:RelV y u)(rx:RelV x v)(fy:Et y=vX)(fx:Et x=vX):SeqAt.RcAt A s u v (eqV y x):=by
 cases y with
 |non=>
  cases ry;cases x with
  |non=>cases rx;exact SeqAt.RcAt.none_none
  |bl b=>cases rx;exact SeqAt.RcAt.none_bool b
  |int b=>obtain⟨t,rfl⟩:=rx;exact SeqAt.RcAt.none_int b t
  |str b=>obtain⟨t,rfl⟩:=rx;exact SeqAt.RcAt.none_str b t
  |_=>exact absurd (show vV=vX from fx) zv
 |bl a=>
  cases ry;cases x with
  |non=>cases rx;exact SeqAt.RcAt.bool_none a
  |bl b=>cases rx;exact SeqAt.RcAt.bool_bool a b
  |int b=>obtain⟨t,rfl⟩:=rx;exact SeqAt.RcAt.bool_int a b t
  |str b=>obtain⟨t,rfl⟩:=rx;exact SeqAt.RcAt.bool_str a b t
  |_=>exact absurd (show vV=vX from fx) zv
 |int a=>
  obtain⟨t',rfl⟩:=ry;cases x with
  |non=>cases rx;exact SeqAt.RcAt.int_none a t'
  |bl b=>cases rx;exact SeqAt.RcAt.int_bool a t' b
  |int b=>obtain⟨t,rfl⟩:=rx;exact SeqAt.RcAt.int_int a t' b t
  |str b=>obtain⟨t,rfl⟩:=rx;exact SeqAt.RcAt.int_str a t' b t
  |_=>exact absurd (show vV=vX from fx) zv
 |str a=>
  obtain⟨t',rfl⟩:=ry;cases x with
  |non=>cases rx;exact SeqAt.RcAt.str_none a t'
  |bl b=>cases rx;exact SeqAt.RcAt.str_bool a t' b
  |int b=>obtain⟨t,rfl⟩:=rx;exact SeqAt.RcAt.str_int a t' b t
  |str b=>obtain⟨t,rfl⟩:=rx;exact SeqAt.RcAt.str_str a t' b t
  |_=>exact absurd (show vV=vX from fx) zv
 |_=>exact absurd (show vV=vX from fy) zv
theorem ZMg{A:jE}{y x:V}{u v:jO}(ry:RelV y u)(rx:RelV x v)(fy:Et y=vX)(fx:Et x=vX):SeqAt.RcNeAt A s u v (!eqV y x):=by
 cases y with
 |non=>
  cases ry;cases x with
  |non=>cases rx;exact SeqAt.RcNeAt.none_none
  |bl b=>cases rx;exact SeqAt.RcNeAt.none_bool b
  |int b=>obtain⟨t,rfl⟩:=rx;exact SeqAt.RcNeAt.none_int b t
  |str b=>obtain⟨t,rfl⟩:=rx;exact SeqAt.RcNeAt.none_str b t
  |_=>exact absurd (show vV=vX from fx) zv
 |bl a=>
  cases ry;cases x with
  |non=>cases rx;exact SeqAt.RcNeAt.bool_none a
  |bl b=>cases rx;exact SeqAt.RcNeAt.bool_bool a b
  |int b=>obtain⟨t,rfl⟩:=rx;exact SeqAt.RcNeAt.bool_int a b t
  |str b=>obtain⟨t,rfl⟩:=rx;exact SeqAt.RcNeAt.bool_str a b t
  |_=>exact absurd (show vV=vX from fx) zv
 |int a=>
  obtain⟨t',rfl⟩:=ry;cases x with
  |non=>cases rx;exact SeqAt.RcNeAt.int_none a t'
  |bl b=>cases rx;exact SeqAt.RcNeAt.int_bool a t' b
  |int b=>obtain⟨t,rfl⟩:=rx;exact SeqAt.RcNeAt.int_int a t' b t
  |str b=>obtain⟨t,rfl⟩:=rx;exact SeqAt.RcNeAt.int_str a t' b t
  |_=>exact absurd (show vV=vX from fx) zv
 |str a=>
  obtain⟨t',rfl⟩:=ry;cases x with
  |non=>cases rx;exact SeqAt.RcNeAt.str_none a t'
  |bl b=>cases rx;exact SeqAt.RcNeAt.str_bool a t' b
  |int b=>obtain⟨t,rfl⟩:=rx;exact SeqAt.RcNeAt.str_int a t' b t
  |str b=>obtain⟨t,rfl⟩:=rx;exact SeqAt.RcNeAt.str_str a t' b t
  |_=>exact absurd (show vV=vX from fx) zv
 |_=>exact absurd (show vV=vX from fy) zv
end
section
variable{X:Cx}{E:XK}{vQ:List (jD×Obj)}{σ:St}{s:jM}
theorem ZME(v:V)(h:Et v=vX):eqV v v=vX:=by cases v<;>first|rfl|exact absurd (show vV=vX from h) zv|(simp[eqV])
theorem ZGO(I:Inv X vQ σ a.H s)(hk:a.K=X.K)(sm:Sim a G):∀(n:Nat){d e:D}{x:V}{k:Bool},Rep a d x->Rep a e x->eqD n G d e=vZ k->k=vX
 |0,_,_,_,_,_,_,h=>by cases h
 | n+1,d,e,x,k,rd,re,h=>by
  have vd:=Yx sm rd;have ve:=Yx sm re;have items:∀{xs ys:List D}{vs:List V}{b:Bool},Reps a xs vs->Reps a ys vs->eqZ (eqD n G) xs ys=vZ b->b=vX:=λ{xs ys vs b}r1 r2 hz=>by obtain⟨f,hf,hb⟩:=Ve hz;rw[hb,qJ];intro j hj;have hj':j<min xs.length ys.length:=q9.mp hj;have h1:xs[j]?=vZ (xs[j]'(by lia)):=zQ (by lia);have h2:ys[j]?=vZ (ys[j]'(by lia)):=zQ (by lia);obtain⟨v1,e1,q1⟩:=r1.get h1;obtain⟨v2,e2,q2⟩:=r2.get h2;rw[e1]at e2;cases e2;exact ZGO I hk sm n q1 q2 (hf j _ _ h1 h2)
  unfold eqD at h
  try dsimp only at h
  revert h vd ve
  cases view G d<;>cases view G e<;>intro vd ve h<;>dsimp only at h vd ve<;>first
   |cases h
   |skip
  ·
   rename_i v w;obtain⟨rfl,f1⟩:=vd;obtain⟨rfl,f2⟩:=ve;exact ZME _ f1
  ·obtain⟨rfl,f1⟩:=vd;obtain⟨p,vs,e1,_⟩:=ve;subst e1;cases f1
  ·obtain⟨rfl,f1⟩:=vd;obtain⟨p,vs,e1,_⟩:=ve;subst e1;cases f1
  ·obtain⟨rfl,f1⟩:=ve;obtain⟨p,vs,e1,_⟩:=vd;subst e1;cases f1
  ·obtain⟨p,vs,e1,h1,r1⟩:=vd;obtain⟨p',vs',e2,h2,r2⟩:=ve;rw[e1]at e2;cases e2;rw[hk]at h1 h2;cases I.ZFZ h1 h2;split at h
   ·exact items r1 r2 h
   ·rename_i hl;exact absurd (r1.length.trans r2.length.symm) hl
  ·obtain⟨p,vs,e1,h1,r1⟩:=vd;obtain⟨p',vs',e2,h2,r2⟩:=ve;rw[e1]at e2;cases e2;rw[hk]at h1 h2;obtain⟨_,_,pl,_⟩:=I.list h1;obtain⟨_,_,pt,_⟩:=I.tuple h2;exact absurd rfl (SeqAt.ne_of_list_tuple pl.isList pt)
  ·obtain⟨rfl,f1⟩:=ve;obtain⟨p,vs,e1,_⟩:=vd;subst e1;cases f1
  ·obtain⟨p,vs,e1,h1,r1⟩:=vd;obtain⟨p',vs',e2,h2,r2⟩:=ve;rw[e1]at e2;cases e2;rw[hk]at h1 h2;obtain⟨_,_,pl,_⟩:=I.list h2;obtain⟨_,_,pt,_⟩:=I.tuple h1;exact absurd rfl (SeqAt.ne_of_list_tuple pl.isList pt)
  ·obtain⟨p,vs,e1,h1,r1⟩:=vd;obtain⟨p',vs',e2,h2,r2⟩:=ve;rw[e1]at e2;cases e2;rw[hk]at h1 h2;cases I.ZFR h1 h2;split at h
   ·rename_i b hz;have h':(b&&_)=k:=Option.some.inj h;rw[<-h',items r1 r2 hz,r1.length,r2.length];simp
   ·cases h
theorem Zx{its:List jO}(r:Reps a xs vs)(q:Vals vs its)(h:j<its.toArray.size):∃d v,xs[j]?=vZ d/\Rep a d v/\RelV v its.toArray[j]:=by
 have hl:j<its.length:=by simpa using h
 have h2:j<vs.length:=by rw[q.length];exact hl
 obtain⟨v,e1⟩:∃v,vs[j]?=vZ v:=⟨vs[j],zQ h2⟩;obtain⟨d,e2,rd⟩:=r.get' e1;obtain⟨u,e3,ru⟩:=q.get e1;have e4:u=its.toArray[j]:=by have:its[j]?=vZ its[j]:=zQ hl;rw[this]at e3;simpa using(Option.some.inj e3).symm
 exact⟨d,v,e2,rd,by rw[<-e4];exact ru⟩
theorem Wt(I:Inv X vQ σ a.H s)(hk:a.K=X.K)(sm:Sim a G):∀(n:Nat){A:jE}{d e:D}{x y:V}{u w:jO}{k:Bool},A.units+n<cLine->Rep a d x->Rep a e y->RelV x u->RelV y w->eqD n G d e=vZ k->
  SeqAt.EqAt A s u w k/\SeqAt.RcAt A s u w k/\SeqAt.RcNeAt A s u w (!k)
 |0,_,_,_,_,_,_,_,_,_,_,_,_,_,h=>by cases h
 | n + 1,A,d,e,x,y,u,w,k,hu,rd,re,ru,rw',h=>by
  have vd:=Yx sm rd;have ve:=Yx sm re;have hu1:A.units<cLine:=by lia
  have hu2:A.in1.units+n<cLine:=by show A.units+1+n<cLine;lia
  have same:∀{z:V},Rep a d z->Rep a e z->eqD (n+1) G d e=vZ k->k=vX:=λr1 r2 r3=>ZGO I hk sm (n+1) r1 r2 r3
  have h0:=h;unfold eqD at h
  try dsimp only at h
  have refs:∀{p q:jD}{k:Bool},(p=q->k=vX)->SeqAt.RcAt A s (.ref p) (.ref q) k->SeqAt.EqAt A s (.ref p) (.ref q) k:=λ{p q k}hs hr=>by
   by_cases e:p=q
   ·rw[hs e,e];exact SeqAt.EqAt.same _
   ·exact SeqAt.EqAt.of_refs e hr
  revert h vd ve
  cases hvd:view G d<;>cases hve:view G e<;>intro vd ve h<;>dsimp only at h vd ve<;>first
   |cases h
   |skip
  ·
   obtain⟨rfl,f1⟩:=vd;obtain⟨rfl,f2⟩:=ve;exact⟨ZI5 ru rw' f1 f2,ZL2 ru rw' f1 f2,ZMg ru rw' f1 f2⟩
  ·
   obtain⟨rfl,f1⟩:=vd;obtain⟨q,vs,rfl,h2,r2⟩:=ve;cases rw';rw[hk]at h2;obtain⟨its,qv,pl,_⟩:=I.list h2;cases x with
   |non=>cases ru;exact⟨SeqAt.EqAt.none_list pl.isList hu1,SeqAt.RcAt.none_list pl.isList hu1,SeqAt.RcNeAt.none_list pl.isList hu1⟩
   |bl b=>cases ru;exact⟨SeqAt.EqAt.bool_list b pl.isList hu1,SeqAt.RcAt.bool_list b pl.isList hu1,SeqAt.RcNeAt.bool_list b pl.isList hu1⟩
   |int b=>obtain⟨t,rfl⟩:=ru;exact⟨SeqAt.EqAt.int_list b t pl.isList hu1,SeqAt.RcAt.int_list b t pl.isList hu1,SeqAt.RcNeAt.int_list b t pl.isList hu1⟩
   |str b=>obtain⟨t,rfl⟩:=ru;exact⟨SeqAt.EqAt.str_list b t pl.isList hu1,SeqAt.RcAt.str_list b t pl.isList hu1,SeqAt.RcNeAt.str_list b t pl.isList hu1⟩
   |_=>exact absurd (show vV=vX from f1) zv
  ·
   obtain⟨rfl,f1⟩:=vd;obtain⟨q,vs,rfl,h2,r2⟩:=ve;cases rw';rw[hk]at h2;obtain⟨its,qv,pl,_⟩:=I.tuple h2;cases x with
   |non=>cases ru;exact⟨SeqAt.EqAt.none_tuple pl hu1,SeqAt.RcAt.none_tuple pl hu1,SeqAt.RcNeAt.none_tuple pl hu1⟩
   |bl b=>cases ru;exact⟨SeqAt.EqAt.bool_tuple b pl hu1,SeqAt.RcAt.bool_tuple b pl hu1,SeqAt.RcNeAt.bool_tuple b pl hu1⟩
   |int b=>obtain⟨t,rfl⟩:=ru;exact⟨SeqAt.EqAt.int_tuple b t pl hu1,SeqAt.RcAt.int_tuple b t pl hu1,SeqAt.RcNeAt.int_tuple b t pl hu1⟩
   |str b=>obtain⟨t,rfl⟩:=ru;exact⟨SeqAt.EqAt.str_tuple b t pl hu1,SeqAt.RcAt.str_tuple b t pl hu1,SeqAt.RcNeAt.str_tuple b t pl hu1⟩
   |_=>exact absurd (show vV=vX from f1) zv
  ·
   obtain⟨rfl,f1⟩:=ve;obtain⟨q,vs,rfl,h2,r2⟩:=vd;cases ru;rw[hk]at h2;obtain⟨its,qv,pl,_⟩:=I.list h2;cases y with
   |non=>cases rw';exact⟨SeqAt.EqAt.list_none pl.isList hu1,SeqAt.RcAt.list_none pl.isList hu1,SeqAt.RcNeAt.list_none pl.isList hu1⟩
   |bl b=>cases rw';exact⟨SeqAt.EqAt.list_bool b pl.isList hu1,SeqAt.RcAt.list_bool b pl.isList hu1,SeqAt.RcNeAt.list_bool b pl.isList hu1⟩
   |int b=>obtain⟨t,rfl⟩:=rw';exact⟨SeqAt.EqAt.list_int b t pl.isList hu1,SeqAt.RcAt.list_int b t pl.isList hu1,SeqAt.RcNeAt.list_int b t pl.isList hu1⟩
   |str b=>obtain⟨t,rfl⟩:=rw';exact⟨SeqAt.EqAt.list_str b t pl.isList hu1,SeqAt.RcAt.list_str b t pl.isList hu1,SeqAt.RcNeAt.list_str b t pl.isList hu1⟩
   |_=>exact absurd (show vV=vX from f1) zv
  ·
   obtain⟨p,vs,rfl,h1,r1⟩:=vd;obtain⟨q,vs',rfl,h2,r2⟩:=ve;cases ru;cases rw';rw[hk]at h1 h2;obtain⟨its,q1,p1,_⟩:=I.list h1;obtain⟨its',q2,p2,_⟩:=I.list h2;have sz1:its.toArray.size=vs.length:=by rw[zK];exact q1.length.symm
   have sz2:its'.toArray.size=vs'.length:=by rw[zK];exact q2.length.symm
   split at h
   ·rename_i hl;obtain⟨f,hf,hb⟩:=Ve h;have hsz:its.toArray.size=its'.toArray.size:=by rw[sz1,sz2,<-r1.length,<-r2.length];exact hl
    have he:∀j(g1:j<its.toArray.size)(g2:j<its'.toArray.size),SeqAt.EqAt A.in1 s its.toArray[j] its'.toArray[j] (f j):=λj g1 g2=>by obtain⟨d1,v1,e1,rd1,rv1⟩:=Zx r1 q1 g1;obtain⟨d2,v2,e2,rd2,rv2⟩:=Zx r2 q2 g2;exact(Wt I hk sm n hu2 rd1 rd2 rv1 rv2 (hf j d1 d2 e1 e2)).1
    have hk':k=(zy its.toArray.size).all f:=by
     rw[hb]
     congr 2
     rw[sz1,<-r1.length,hl];lia
    have rc:SeqAt.RcAt A s (.ref p) (.ref q) k:=by rw[hk'];exact SeqAt.RcAt.lists p1.isList p2.isList hsz hu1 he
    refine⟨refs (λe=>?_) rc,rc,by rw[hk'];exact SeqAt.RcNeAt.lists p1.isList p2.isList hsz hu1 he⟩;subst e;exact same rd re h0
   ·rename_i hl;have h':vV=k:=Option.some.inj h;subst h';have hsz:(its.toArray.size != its'.toArray.size)=vX:=by rw[bne_iff_ne,sz1,sz2,<-r1.length,<-r2.length];exact hl
    refine⟨refs (λe=>?_) (SeqAt.RcAt.lists_lengths p1.isList p2.isList hsz hu1),SeqAt.RcAt.lists_lengths p1.isList p2.isList hsz hu1,SeqAt.RcNeAt.lists_lengths p1.isList p2.isList hsz hu1⟩;subst e;exact same rd re h0
  ·
   obtain⟨p,vs,rfl,h1,r1⟩:=vd;obtain⟨q,vs',rfl,h2,r2⟩:=ve;cases ru;cases rw';rw[hk]at h1 h2;obtain⟨its,q1,p1,_⟩:=I.list h1;obtain⟨its',q2,p2,_⟩:=I.tuple h2;exact⟨SeqAt.EqAt.list_tuple p1.isList p2 hu1,SeqAt.RcAt.list_tuple p1.isList p2 hu1,SeqAt.RcNeAt.list_tuple p1.isList p2 hu1⟩
  ·
   obtain⟨rfl,f1⟩:=ve;obtain⟨q,vs,rfl,h2,r2⟩:=vd;cases ru;rw[hk]at h2;obtain⟨its,qv,pl,_⟩:=I.tuple h2;cases y with
   |non=>cases rw';exact⟨SeqAt.EqAt.tuple_none pl hu1,SeqAt.RcAt.tuple_none pl hu1,SeqAt.RcNeAt.tuple_none pl hu1⟩
   |bl b=>cases rw';exact⟨SeqAt.EqAt.tuple_bool b pl hu1,SeqAt.RcAt.tuple_bool b pl hu1,SeqAt.RcNeAt.tuple_bool b pl hu1⟩
   |int b=>obtain⟨t,rfl⟩:=rw';exact⟨SeqAt.EqAt.tuple_int b t pl hu1,SeqAt.RcAt.tuple_int b t pl hu1,SeqAt.RcNeAt.tuple_int b t pl hu1⟩
   |str b=>obtain⟨t,rfl⟩:=rw';exact⟨SeqAt.EqAt.tuple_str b t pl hu1,SeqAt.RcAt.tuple_str b t pl hu1,SeqAt.RcNeAt.tuple_str b t pl hu1⟩
   |_=>exact absurd (show vV=vX from f1) zv
  ·
   obtain⟨p,vs,rfl,h1,r1⟩:=vd;obtain⟨q,vs',rfl,h2,r2⟩:=ve;cases ru;cases rw';rw[hk]at h1 h2;obtain⟨its,q1,p1,_⟩:=I.tuple h1;obtain⟨its',q2,p2,_⟩:=I.list h2;exact⟨SeqAt.EqAt.tuple_list p1 p2.isList hu1,SeqAt.RcAt.tuple_list p1 p2.isList hu1,SeqAt.RcNeAt.tuple_list p1 p2.isList hu1⟩
  ·
   rename_i xs ys;obtain⟨p,vs,rfl,h1,r1⟩:=vd;obtain⟨q,vs',rfl,h2,r2⟩:=ve;cases ru;cases rw';rw[hk]at h1 h2;obtain⟨its,q1,p1,_⟩:=I.tuple h1;obtain⟨its',q2,p2,_⟩:=I.tuple h2;have sz1:its.toArray.size=xs.length:=by rw[zK,r1.length];exact q1.length.symm
   have sz2:its'.toArray.size=ys.length:=by rw[zK,r2.length];exact q2.length.symm
   split at h
   ·rename_i b hz;have h':(b&&xs.length==ys.length)=k:=Option.some.inj h;obtain⟨f,hf,hb⟩:=Ve hz;have he:∀j(g1:j<its.toArray.size)(g2:j<its'.toArray.size),SeqAt.EqAt A.in1 s its.toArray[j] its'.toArray[j] (f j):=λj g1 g2=>by obtain⟨d1,v1,e1,rd1,rv1⟩:=Zx r1 q1 g1;obtain⟨d2,v2,e2,rd2,rv2⟩:=Zx r2 q2 g2;exact(Wt I hk sm n hu2 rd1 rd2 rv1 rv2 (hf j d1 d2 e1 e2)).1
    have hk':k=((zy (min its.toArray.size its'.toArray.size)).all f&&its.toArray.size==its'.toArray.size):=by rw[<-h',hb,sz1,sz2]
    have rc:SeqAt.RcAt A s (.ref p) (.ref q) k:=by rw[hk'];exact SeqAt.RcAt.tuples p1 p2 hu1 he
    refine⟨refs (λe=>?_) rc,rc,by rw[hk'];exact SeqAt.RcNeAt.tuples p1 p2 hu1 he⟩;subst e;exact same rd re h0
   ·cases h
def Bj(d e:D)(G:DH):R D:=match eqD 30 G d e with
 |some k=>.ok (.bl k) G
 |none=>.bad
def Ff(d e:D)(G:DH):R D:=match eqD 30 G d e with
 |some k=>.ok (.bl (!k)) G
 |none=>.bad
theorem Bo(hu:X.A.units+64<cLine):OpR X (xV .Eq) (lR2 X.K E Bj):=by
 intro vQ s σ H x y v u Q I rx ry ⟨a,G,d,e,hk,hH,sm,rd,re,q⟩;subst hH;unfold Bj at q;split at q
 ·rename_i k hd;exact(Wt I hk sm 30 (by lia) rd re rx ry hd).2.1 _ _ _ _ ⟨.bl k,a.H,I,rfl,q a _ (Ext.refl a) sm rfl⟩
 ·exact q.elim
theorem K9(hu:X.A.units+64<cLine):OpR X (xV .NotEq) (lR2 X.K E Ff):=by
 intro vQ s σ H x y v u Q I rx ry ⟨a,G,d,e,hk,hH,sm,rd,re,q⟩;subst hH;unfold Ff at q;split at q
 ·rename_i k hd;exact(Wt I hk sm 30 (by lia) rd re rx ry hd).2.2 _ _ _ _ ⟨.bl (!k),a.H,I,rfl,q a _ (Ext.refl a) sm rfl⟩
 ·exact q.elim
end
noncomputable abbrev DG:=D->DSt->DH->R DSt
variable{g:DG}
def G9(E:XK)(a:Wd)(r:R DSt)(Q:St->Hp->Prop):Prop:=match r with
 |.ok S G=>∀(b:Wd)(σ:St),Ext a b->Sim b G->RepS b S σ->Q σ b.H
 |.err x G=>XOk E a x G
 |.bad=>False
def lG(K:PySem.W.Frag)(E:XK)(t:DG):TG:=λv σ H Q=>∃(a:Wd)(S:DSt)(G:DH)(d:D),a.K=K/\a.H=H/\Sim a G/\RepS a S σ/\Rep a d v/\G9 E a (t d S G) Q
def QG(X:Cx)(E:XK)(tg:jF)(t:DG):Prop:=PG X tg (lG X.K E t)
noncomputable abbrev DGs:=List D->DSt->DH->R DSt
def lGs(K:PySem.W.Frag)(E:XK)(t:DGs):TGs:=λvs σ H Q=>∃(a:Wd)(S:DSt)(G:DH)(ds:List D),a.K=K/\a.H=H/\Sim a G/\RepS a S σ/\Reps a ds vs/\G9 E a (t ds S G) Q
def QGs(X:Cx)(E:XK)(tg:List jF)(t:DGs):Prop:=PGs X tg (lGs X.K E t)
noncomputable def gV(i:Nat):DG:=λd S G=>.ok (S.set i (vZ d)) G
noncomputable def Ds:DGs:=λds S G=>match ds with
 |[]=>.ok S G
 |_=>.bad
def Bq(t:DG)(u:DGs):DGs:=λds S G=>match ds with
 |d::r=>(t d S G).bind λS1 G1=>u r S1 G1
 |[]=>.bad
noncomputable def Dn(n:Nat)(t:DGs):DG:=λd S G=>match d with
 |.tup ds=>if ds.length=n then t ds S G else .bad
 |_=>.bad
theorem G9.imp{r:R DSt}{Q Q':St->Hp->Prop}(h:G9 E a r Q)(w:∀v H,Q v H->Q' v H):G9 E a r Q':=by
 cases r with
 |ok d G=>exact λb v x s q=>w _ _ (h b v x s q)
 |err e G=>exact h
 |bad=>exact h
theorem G9.mono(x:Ext a b){r:R DSt}{Q:St->Hp->Prop}(h:G9 E a r Q):G9 E b r Q:=by
 cases r with
 |ok d G=>exact λc v y s q=>h c v (x.trans y) s q
 |err e G=>exact XOk.mono (E:=E) (e:=e) (G:=G) x h
 |bad=>exact h
theorem ZMF{r:R DSt}{f:DSt->DH->R DSt}{Q:St->Hp->Prop}(h:G9 E a (r.bind f) Q):
  G9 E a r (λσ H=>∃(b:Wd)(S:DSt)(G:DH),b.H=H/\Ext a b/\Sim b G/\RepS b S σ/\r=.ok S G/\G9 E b (f S G) Q):=by
 cases r with
 |ok d G=>exact λb v x s q=>⟨b,d,G,rfl,x,s,q,rfl,G9.mono x h⟩
 |err e G=>exact h
 |bad=>exact h
theorem ZHj{f:D->DH->R DSt}{Q:St->Hp->Prop}(h:G9 E a (r.bind f) Q):
  out E a r (λv H=>∃(b:Wd)(d:D)(G:DH),b.H=H/\Ext a b/\Sim b G/\Rep b d v/\r=.ok d G/\G9 E b (f d G) Q):=by
 cases r with
 |ok d G=>exact λb v x s q=>⟨b,d,G,rfl,x,s,q,rfl,G9.mono x h⟩
 |err e G=>exact h
 |bad=>exact h
theorem ZIl{r:R DSt}{f:DSt->DH->SR}(h:Df E a (r.toS f) W):
  G9 E a r (λσ H=>∃(b:Wd)(S:DSt)(G:DH),b.H=H/\Ext a b/\Sim b G/\RepS b S σ/\r=.ok S G/\Df E b (f S G) W):=by
 cases r with
 |ok d G=>exact λb v x s q=>⟨b,d,G,rfl,x,s,q,rfl,Df.mono x h⟩
 |err e G=>exact h
 |bad=>exact h
section
variable{X:Cx}{E:XK}
theorem _root_._L.PG.mono{t t':TG}(h:PG X e t)(w:∀v σ H Q,t' v σ H Q->t v σ H Q):PG X e t':=λvQ s σ H v u Q I r q=>h vQ s σ H v u Q I r (w v σ H Q q)
theorem _root_._L.PGs.mono{e:List jF}{t t':TGs}(h:PGs X e t)(w:∀v σ H Q,t' v σ H Q->t v σ H Q):PGs X e t':=λvQ s σ H v u Q I r q=>h vQ s σ H v u Q I r (w v σ H Q q)
theorem Br(i:Nat){pos:Pos}(hN:X.N.Nodup)(hi:X.N[i]?=vZ x:=by rfl)(hx:Loc X.env.scope x:=by first|exact Or.inl rfl|exact Or.inr rfl)
  (hf:X.fn x=vX∨X.env.scope.names.lookup x=vZ .local:=by first|exact .inl rfl|exact .inr rfl|assumption):QG X E (.Name x pos) (gV i):=
 (ZJ7 hN hi hx hf).mono λv σ H Q h=>by obtain⟨a,S,G,d,hk,rfl,s,r,q,h⟩:=h;exact h a _ (Ext.refl a) s (r.set i q)
theorem Hw:QGs X E [] Ds:=ZLp.mono λvs σ H Q h=>by
 obtain⟨a,S,G,ds,hk,rfl,s,r,q,h⟩:=h;cases ds with
 |nil=>exact⟨q,h a σ (Ext.refl a) s r⟩
 |cons d ds=>exact h.elim
theorem De{es:List jF}{t:DG}{u:DGs}(h1:QG X E e t)(h2:QGs X E es u)
  (hs:(jR (e::es) X.env).map (·.2)=assign e X.env::(jR es X.env).map (·.2):=by rfl):QGs X E (e::es) (Bq t u):=(ZO8 h1 h2 hs).mono λvs σ H Q h=>by
 obtain⟨a,S,G,ds,hk,rfl,s,r,q,h⟩:=h;cases ds with
 |nil=>exact h.elim
 |cons d ds=>
  obtain⟨v,rest,e1,q1,q2⟩:=q;refine⟨v,rest,e1,a,S,G,d,hk,rfl,s,r,q1,(ZMF h).imp ?_⟩;rintro σ' _ ⟨b,S1,G1,rfl,x,s1,r1,_,h1⟩;exact⟨b,S1,G1,ds,x.k.trans hk,rfl,s1,r1,q2.mono x,h1⟩
theorem Hq{es:List jF}{k:Nat}{t:DGs}{n:Nat}{pos:Pos}(hc:X.calm=vX)(h:QGs X E es t)
  (hn:(jR es X.env).length=n:=by rfl) (hst:(jR es X.env).findIdx? (·.1)=vJ:=by rfl):QG X E (.Tuple es k pos) (Dn n t):=(ZQH hc h hn hst).mono λv σ H Q h=>by
 obtain⟨a,S,G,d,hk,rfl,s,r,q,h⟩:=h;cases d with
 |tup ds=>
  obtain⟨p,vs,e,h1,r1⟩:=q;unfold Dn at h;dsimp only at h;split at h
  ·rename_i hl;exact⟨p,vs,e,by rw[<-hk];exact h1,by rw[<-r1.length];exact hl,a,S,G,ds,hk,rfl,s,r,r1,h⟩
  ·exact h.elim
 |_=>exact h.elim
def Xv(o i v:D)(G:DH):R D:=match o,i with
 | .ref p,.int k=>match G[p]? with
  |some (.lst xs)=>match ixN xs.length k with
   |some j=>.ok .non (G.set p (.lst (xs.set j v)))
   |none=>.bad
  |_=>.bad
 |_,_=>.bad
def gIx(to ti:DE):DG:=λv S G=>(to S G).bind λo G1=>(ti S G1).bind λi G2=>(Xv o i v G2).bind λ_ G3=>.ok S G3
theorem ZIm{vs':List V}{ds':List D}(s:Sim a G)(hi:i<a.n)(h:a.H (a.m i)=vZ (.lst vs))(r:Reps a ds' vs'):
  Ext a (a.put (a.m i) (.lst vs'))/\Sim (a.put (a.m i) (.lst vs')) (G.set i (.lst ds')):=⟨Ext.wr h,s.wr hi h (r.mono (Ext.wr h))⟩
theorem ZJK{o i:jF}{to ti:DE}{pos:Pos}(ho:QE X E o to)(hi:QE X E i ti)
  (ha:∀v,assign (.Subscript o i pos) X.env v=(do
   let ov<-holding [v] (eval o X.env);let iv<-holding [v,ov] (eval i X.env)
   standAt pos
   holding [v,ov,iv] (setItem ov iv v)
   release [v,ov,iv] []):=by intro _;rfl):QG X E (.Subscript o i pos) (gIx to ti):=(ZQJ ho hi set_list ha).mono λv σ H Q h=>by
 obtain⟨a,S,G,d,hk,rfl,s,r,q,h⟩:=h;refine⟨a,S,G,hk,rfl,s,r,(ZHj h).imp ?_⟩;rintro ov _ ⟨b,e,G1,rfl,x,s1,q1,_,h1⟩;refine⟨b,S,G1,x.k.trans hk,rfl,s1,r.mono x,(ZHj h1).imp ?_⟩;rintro iv _ ⟨c,f,G2,rfl,y,s2,q2,_,h2⟩;cases e with
 | ref p=>
  cases f with
  | int k=>
   unfold Xv at h2;dsimp only at h2;split at h2
   ·rename_i xs hx;split at h2
    ·rename_i j hj;obtain⟨vs,e1,r1⟩:=s2.lst hx;have q1':=q1.mono y;have rv:=(q.mono x).mono y;obtain⟨x3,s3⟩:=ZIm s2 q1'.1 e1 (r1.set rv j);refine⟨c.m p,vs,k,j,q1'.2,q2,e1,by rw[<-r1.length];exact hj,?_⟩;exact h2 _ σ x3 s3 (((r.mono x).mono y).mono x3)
    ·exact h2.elim
   ·exact h2.elim
  |_=>exact h2.elim
 |_=>exact h2.elim
variable{st:jN}{rest:List jN}{t u:DS}{e:jF}{te:DE}{pos:Pos}
noncomputable def sNx:DS:=λS G=>.nx S G
noncomputable def Aj(t u:DS):DS:=λS G=>match t S G with
 |.nx S1 G1=>u S1 G1
 |r=>r
def sEx(te:DE):DS:=λS G=>(te S G).toS λ_ G1=>.nx S G1
def sRt(te:DE):DS:=λS G=>(te S G).toS λd G1=>.rt d G1
def sIf(c:DB)(t u:DS):DS:=λS G=>(c S G).toS λk G1=>if k=vX then t S G1 else u S G1
def sAs(te:DE)(g:DG):DS:=λS G=>(te S G).toS λd G1=>(g d S G1).toS λS2 G2=>.nx S2 G2
theorem Be:QSs X E [] sNx:=ZL1.mono λW σ H h=>by obtain⟨a,S,G,hk,rfl,s,r,h⟩:=h;exact h a σ (Ext.refl a) s r
theorem Df.nxOf{t:DS}{K:PySem.W.Frag}(hk:a.K=K)(h:Df E a (Aj t u S G) W):Df E a (t S G) {W with nx:=lS K E u W}:=by
 unfold Aj at h
 revert h
 cases t S G<;>intro h
 ·exact λb σ x s r=>⟨b,_,_,x.k.trans hk,rfl,s,r,Df.mono x h⟩
 all_goals exact h
theorem Ak(h1:QS X E st t)(h2:QSs X E rest u):QSs X E (st::rest) (Aj t u):=(ZJV h1 h2).mono λW σ H h=>by obtain⟨a,S,G,hk,rfl,s,r,h⟩:=h;exact⟨a,S,G,hk,rfl,s,r,h.nxOf hk⟩
theorem Av(h1:QS X E st t):QSs X E [st] t:=ZF1 h1
theorem Nm(he:QE X E e te)(hs:swapsWith e vJ pos.line X.env=pure vV:=by rfl):QS X E (.Expr e pos) (sEx te):=(ZJN he hs).mono λW σ H h=>by obtain⟨a,S,G,hk,rfl,s,r,h⟩:=h;refine⟨a,S,G,hk,rfl,s,r,(Tg h).imp ?_⟩;rintro v _ ⟨b,d,G1,rfl,x,s1,q,_,h1⟩;exact h1 b σ (Ext.refl b) s1 (r.mono x)
theorem Bc(he:QE X E e te):QS X E (.Return (vZ e) pos) (sRt te):=(ZLl he).mono λW σ H h=>by obtain⟨a,S,G,hk,rfl,s,r,h⟩:=h;refine⟨a,S,G,hk,rfl,s,r,(Tg h).imp ?_⟩;rintro v _ ⟨b,d,G1,rfl,x,s1,q,_,h1⟩;exact h1 b v (Ext.refl b) s1 q
theorem Bf{c:jF}{tc:DB}{a b:List jN}(hc:QT X E c tc)(ha:QSs X E a t)(hb:QSs X E b u):QS X E (.If c a b pos) (sIf tc t u):=(ZPW hc ha hb).mono λW σ H h=>by
 obtain⟨a,S,G,hk,rfl,s,r,h⟩:=h;refine⟨a,S,G,hk,rfl,s,r,(ZKe h).imp ?_⟩;rintro k _ ⟨b,G1,rfl,x,s1,_,h1⟩;cases k with
 |true=>exact⟨b,S,G1,x.k.trans hk,rfl,s1,r.mono x,h1⟩
 |false=>exact⟨b,S,G1,x.k.trans hk,rfl,s1,r.mono x,h1⟩
theorem ZL9{K:PySem.W.Frag}(h:lS K E (sAs te g) W σ H):ZEb (lE K E te) (lG K E g) W σ H:=by obtain⟨a,S,G,hk,rfl,s,r,h⟩:=h;refine⟨a,S,G,hk,rfl,s,r,(Tg h).imp ?_⟩;rintro v _ ⟨b,d,G1,rfl,x,s1,q,_,h1⟩;refine⟨b,S,G1,d,x.k.trans hk,rfl,s1,r.mono x,q,(ZIl h1).imp ?_⟩;rintro σ' _ ⟨c,S2,G2,rfl,y,s2,r2,_,h2⟩;exact h2 c σ' (Ext.refl c) s2 r2
theorem N8(he:QE X E e te)(hg:QG X E tg g)(hs:swapsWithSole [tg] e pos.line X.env=pure vV:=by rfl)(hw:swappedStores [tg] e X.env=pure vJ:=by rfl)
  (h1:(jR [tg] X.env).map (·.2)=[assign tg X.env]:=by rfl):QS X E (.Assign [tg] e pos) (sAs te g):=(ZQn he hg hs hw h1).mono λ_ _ _ h=>ZL9 h
theorem Az(i:Nat){pos':Pos}(hN:X.N.Nodup)(he:QE X E e te)(hi:X.N[i]?=vZ x:=by rfl)(hx:Loc X.env.scope x:=by first|exact Or.inl rfl|exact Or.inr rfl)(hs:swapsWith e (vZ (.Name x pos')) pos.line X.env=pure vV:=by rfl)
  (hf:X.fn x=vX∨X.env.scope.names.lookup x=vZ .local:=by first|exact .inl rfl|exact .inr rfl|assumption):QS X E (.Assign [.Name x pos'] e pos) (sAs te (gV i)):=
 (ZMx hN hi hx he hs hf).mono λW σ H h=>by obtain⟨a,S,G,hk,rfl,s,r,h⟩:=h;refine⟨a,S,G,hk,rfl,s,r,(Tg h).imp ?_⟩;rintro v _ ⟨b,d,G1,rfl,x,s1,q,_,h1⟩;exact h1 b _ (Ext.refl b) s1 ((r.mono x).set i q)
end
noncomputable def aft(r:SR)(k:DSt->DH->SR):SR:=match r with
 |.nx S G=>k S G
 |.ct S G=>k S G
 |.bk S G=>.nx S G
 |r=>r
def Dj(g:DG)(b:DS):List D->DS
 |[],S,G=>.nx S G
 |x::xs,S,G=>(g x S G).toS λS1 G1=>aft (b S1 G1) (Dj g b xs)
def forM(i:Nat)(g:DG)(b:DS):Nat->Nat->DS
 |0,j,S,G=>match G[i]? with
  |some (.lst xs)=>if xs.length<=j then .nx S G else .bad
  |_=>.bad
 | k+1,j,S,G=>match G[i]? with
  |some (.lst xs)=>match xs[j]? with
   |some x=>(g x S G).toS λS1 G1=>aft (b S1 G1) (forM i g b k (j+1))
   |none=>.nx S G
  |_=>.bad
def Jf(f:Nat->DH->Option (Option D))(g:DG)(b:DS):Nat->Nat->DS
 |0,j,S,G=>match f j G with
  |some vJ=>.nx S G
  |_=>.bad
 |k+1,j,S,G=>match f j G with
  |some (vZ x)=>(g x S G).toS λS1 G1=>aft (b S1 G1) (Jf f g b k (j+1))
  |some vJ=>.nx S G
  |none=>.bad
inductive ItD where
 |pure (xs:List D)
 |mt (i:Nat)
 |fn (n:Nat) (f:Nat->DH->Option (Option D))
noncomputable abbrev DI:=DSt->DH->R ItD
def Gb(it:DI)(g:DG)(b:DS):DS:=λS G=>(it S G).toS λJ G1=>match J with
 |.pure xs=>Dj g b xs S G1
 |.mt i=>match G1[i]? with
  |some (.lst xs)=>forM i g b xs.length 0 S G1
  |_=>.bad
 |.fn n f=>Jf f g b n 0 S G1
def RepI(a:Wd):ItD->It->Prop
 |.pure xs,J=>∃vs:List V,Reps a xs vs/\∀b:Wd,Ext a b->∀i,(∀v,vs[i]?=vZ v->J.go i b.H/\∀x H',J.yld i b.H x H'->x=v/\H'=b.H)/\(vs.length<=i->J.stop i b.H)
 |.mt k,J=>k<a.n/\∀b:Wd,Ext a b->∀vs,b.H (b.m k)=vZ (.lst vs)->∀i,(∀v,vs[i]?=vZ v->J.go i b.H/\∀x H',J.yld i b.H x H'->x=v/\H'=b.H)/\(vs.length<=i->J.stop i b.H)
 |.fn _ f,J=>∀b:Wd,Ext a b->∀G,Sim b G->∀i,(∀d,f i G=vZ (vZ d)->J.go i b.H/\∀x H',J.yld i b.H x H'->∃c:Wd,c.H=H'/\Ext b c/\Sim c G/\Rep c d x)/\(f i G=vZ vJ->J.stop i b.H)
def outI(E:XK)(a:Wd)(r:R ItD)(Q:It->Hp->Prop):Prop:=match r with
 |.ok J G=>∀(b:Wd)(JJ:It),Ext a b->Sim b G->RepI b J JJ->Q JJ b.H
 |.err x G=>XOk E a x G
 |.bad=>False
def lI(K:PySem.W.Frag)(E:XK)(t:DI):TI:=λσ H Q=>∃(a:Wd)(S:DSt)(G:DH),a.K=K/\a.H=H/\Sim a G/\RepS a S σ/\outI E a (t S G) Q
def QI(X:Cx)(E:XK)(tg iter:jF)(t:DI):Prop:=PI X tg iter (lI X.K E t)
theorem outI.imp{r:R ItD}{Q Q':It->Hp->Prop}(h:outI E a r Q)(w:∀v H,Q v H->Q' v H):outI E a r Q':=by
 cases r with
 |ok d G=>exact λb v x s q=>w _ _ (h b v x s q)
 |err e G=>exact h
 |bad=>exact h
theorem ZP9{r:R ItD}{f:ItD->DH->SR}(h:Df E a (r.toS f) W):
  outI E a r (λJ H=>∃(b:Wd)(d:ItD)(G:DH),b.H=H/\Ext a b/\Sim b G/\RepI b d J/\r=.ok d G/\Df E b (f d G) W):=by
 cases r with
 |ok d G=>exact λb v x s q=>⟨b,d,G,rfl,x,s,q,rfl,Df.mono x h⟩
 |err e G=>exact h
 |bad=>exact h
theorem ZLX {r:SR} {k:DSt->DH->SR} (h:Df E a (aft r k) W):
  Df E a r {W with
            nx:=λσ H=>∃(b:Wd)(S:DSt)(G:DH),b.H=H/\Ext a b/\Sim b G/\RepS b S σ/\Df E b (k S G) W,
            ct:=λσ H=>∃(b:Wd)(S:DSt)(G:DH),b.H=H/\Ext a b/\Sim b G/\RepS b S σ/\Df E b (k S G) W,bk:=W.nx}:=by
 cases r with
 |nx S G=>exact λb σ x s q=>⟨b,S,G,rfl,x,s,q,Df.mono x h⟩
 |ct S G=>exact λb σ x s q=>⟨b,S,G,rfl,x,s,q,Df.mono x h⟩
 |bk S G=>exact h
 |rt d G=>exact h
 |err x G=>exact h
 |bad=>exact h
noncomputable def mtF(i j:Nat)(G:DH):Option (Option D):=match G[i]? with
 |some (.lst xs)=>vZ xs[j]?
 |_=>vJ
theorem ZHK{J:It}{n:Nat}(r:RepI a (.pure xs) J):RepI a (.fn n λj _=>vZ xs[j]?) J:=by
 obtain⟨vs,rv,h⟩:=r;refine λb x G sm i=>⟨λd e=>?_,λe=>?_⟩
 ·obtain⟨v,ev,q⟩:=rv.get (Option.some.inj e);obtain⟨h1,h2⟩:=(h b x i).1 v ev;refine⟨h1,λy H' hy=>?_⟩;obtain⟨rfl,rfl⟩:=h2 y H' hy;exact⟨b,rfl,Ext.refl b,sm,q.mono x⟩
 ·exact(h b x i).2 (by rw[<-rv.length];exact List.getElem?_eq_none_iff.mp (Option.some.inj e))
theorem ZH6{J:It}{n:Nat}(r:RepI a (.mt k) J):RepI a (.fn n (mtF k)) J:=by
 obtain⟨hk,h⟩:=r;refine λb x G sm i=>?_
 unfold mtF;cases hG:G[k]? with
 |none=>exact⟨λd e=>(by cases e),λe=>(by cases e)⟩
 | some o=>
  cases o with
  |lst xs=>
   obtain⟨vs,e1,rv⟩:=sm.lst hG;refine⟨λd e=>?_,λe=>?_⟩
   ·obtain⟨v,ev,q⟩:=rv.get (Option.some.inj e);obtain⟨h1,h2⟩:=(h b x vs e1 i).1 v ev;refine⟨h1,λy H' hy=>?_⟩;obtain⟨rfl,rfl⟩:=h2 y H' hy;exact⟨b,rfl,Ext.refl b,sm,q⟩
   ·exact(h b x vs e1 i).2 (by rw[<-rv.length];exact List.getElem?_eq_none_iff.mp (Option.some.inj e))
  |_=>exact⟨λd e=>(by cases e),λe=>(by cases e)⟩
theorem ZJO{b:DS}:∀(n j:Nat),j+n=xs.length->Dj g b (xs.drop j)=Jf (λj _=>vZ xs[j]?) g b n j
 |0,j,h=>by
  funext S G;rw[qL (by lia)]
  show SR.nx S G=(match vZ xs[j]? with |some vJ=>SR.nx S G|_=>.bad)
  rw[qx (by lia)]
 |n+1,j,h=>by
  funext S G;have hj:j<xs.length:=by lia
  rw[qz hj]
  show(g xs[j] S G).toS (λS1 G1=>aft (b S1 G1) (Dj g b (xs.drop (j+1))))=(match vZ xs[j]? with |some (vZ x)=>(g x S G).toS (λS1 G1=>aft (b S1 G1) (Jf (λj _=>vZ xs[j]?) g b n (j+1)))|some vJ=>SR.nx S G|none=>.bad)
  rw[zQ hj,ZJO n (j+1) (by lia)]
theorem ZIb{b:DS}:∀(n j:Nat),forM i g b n j=Jf (mtF i) g b n j
 | 0,j=>by
  funext S G;unfold forM Jf mtF;cases G[i]? with
  |none=>rfl
  | some o=>
   cases o with
   |lst xs=>
    dsimp only;by_cases hj:j<xs.length
    ·rw[if_neg (by lia),zQ hj]
    ·rw[if_pos (by lia),qx (by lia)]
   |_=>rfl
 | n+1,j=>by
  funext S G;unfold forM Jf;rw[ZIb n (j+1)];unfold mtF;cases G[i]? with
  |none=>rfl
  | some o=>
   cases o with
   |lst xs=>
    dsimp only
    cases xs[j]?<;>rfl
   |_=>rfl
section
variable{X:Cx}{E:XK}{tg iter:jF}{pos:Pos}
theorem ZNk{K:PySem.W.Frag}{it:DI}{b:DS}(h:lS K E (Gb it g b) W σ H):tFor (lI K E it) (lG K E g) (lS K E b) W σ H:=by
 obtain⟨a,S,G,hk,rfl,s,r,h⟩:=h;refine⟨a,S,G,hk,rfl,s,r,(ZP9 h).imp ?_⟩;rintro J _ ⟨a1,d,G1,rfl,x1,s1,q1,_,h1⟩;have k1:a1.K=K:=x1.k.trans hk
 suffices fnc:∃n f,RepI a1 (.fn n f) J/\Df E a1 (Jf f g b n 0 S G1) W by
  obtain⟨n,f,q1,h1⟩:=fnc;have walk:∀b:Wd,Ext a1 b->∀G,Sim b G->∀i,(∀d,f i G=vZ (vZ d)->J.go i b.H/\∀x H',J.yld i b.H x H'->∃c:Wd,c.H=H'/\Ext b c/\Sim c G/\Rep c d x)/\(f i G=vZ vJ->J.stop i b.H):=q1;refine⟨λi m σ H=>∃(c:Wd)(S:DSt)(G:DH),c.H=H/\Ext a1 c/\Sim c G/\RepS c S σ/\Df E c (Jf f g b m i S G) W,⟨_,a1,S,G1,rfl,Ext.refl _,s1,r.mono x1,h1⟩,?_⟩;rintro i m σ2 _ ⟨c,S2,G2,rfl,x2,s2,r2,h2⟩
  cases m with
  |zero=>
   unfold Jf at h2;split at h2
   ·rename_i hf;exact .inl ⟨(walk c x2 G2 s2 i).2 hf,h2 c σ2 (Ext.refl c) s2 r2⟩
   ·exact h2.elim
  | succ m=>
   unfold Jf at h2;split at h2
   ·rename_i d hf;obtain⟨go,yl⟩:=(walk c x2 G2 s2 i).1 d hf;refine .inr ⟨go,λσ' H'=>∃(c:Wd)(S:DSt)(G:DH),c.H=H'/\Ext a1 c/\Sim c G/\RepS c S σ'/\Df E c (Jf f g b m (i+1) S G) W,λσ' H' z=>⟨m,qY _,z⟩,λw H' y=>?_⟩;obtain⟨cc,rfl,xx,ss,rd⟩:=yl w H' y;refine⟨cc,S2,G2,d,xx.k.trans (x2.k.trans k1),rfl,ss,r2.mono xx,rd,(ZIl (Df.mono xx h2)).imp ?_⟩;rintro σ3 _ ⟨c3,S3,G3,rfl,x3,s3,r3,_,h3⟩
    have fin:=ZLX h3;refine⟨c3,S3,G3,x3.k.trans (xx.k.trans (x2.k.trans k1)),rfl,s3,r3,?_⟩
    revert fin
    cases b S3 G3 with
    | nx S4 G4=>
      intro fin c4 σ4 x4 s4 q4;obtain⟨c5,S5,G5,hh,x5,s5,r5,h5⟩:=fin c4 σ4 x4 s4 q4;exact⟨c5,S5,G5,hh,x2.trans (xx.trans (x3.trans x5)),s5,r5,h5⟩
    | ct S4 G4=>
      intro fin c4 σ4 x4 s4 q4;obtain⟨c5,S5,G5,hh,x5,s5,r5,h5⟩:=fin c4 σ4 x4 s4 q4;exact⟨c5,S5,G5,hh,x2.trans (xx.trans (x3.trans x5)),s5,r5,h5⟩
    |bk S4 G4=>exact λfin=>fin
    |rt S4 G4=>exact λfin=>fin
    |err S4 G4=>exact λfin=>fin
    |bad=>exact λfin=>fin
   ·rename_i hf;exact .inl ⟨(walk c x2 G2 s2 i).2 hf,h2 c σ2 (Ext.refl c) s2 r2⟩
   ·exact h2.elim
 cases d with
 |pure xs=>
  have h1':Df E a1 (Dj g b (xs.drop 0) S G1) W:=h1;rw[ZJO xs.length 0 (by lia)]at h1';exact⟨_,_,ZHK q1,h1'⟩
 |mt k=>
  dsimp only at h1;split at h1
  ·rw[ZIb]at h1;exact⟨_,_,ZH6 q1,h1⟩
  ·exact h1.elim
 |fn n f=>exact⟨n,f,q1,h1⟩
theorem Il{body:List jN}{it:DI}{b:DS}(hp:PassesOwn (xA X.prog X.w) X.A X.env X.xe)(hc:X.calm=vX)(hi:QI X E tg iter it)(hg:QG X E tg g)(hb:QSs X E body b)
  (hs:∀x,foldedSetIterable iter X.env x=pure x:=by intro _;rfl):QS X E (.For tg iter body [] pos) (Gb it g b):=(ZJy hp hc hi hg hb hs).mono λ_ _ _ h=>ZNk h
theorem _root_._L.PI.mono{t t':TI}(h:PI X tg iter t)(w:∀σ H Q,t' σ H Q->t σ H Q):PI X tg iter t':=λvQ s σ H Q I q=>h vQ s σ H Q I (w σ H Q q)
noncomputable def sgn(c:Nat):D:=.str ⟨#[c]⟩
def signs(x:Str):List D:=x.cps.toList.map sgn
noncomputable def Its(x:Str):It:=⟨λi _=>i<x.cps.size,λi H v H'=>H'=H/\∃c,x.cps[i]?=vZ c/\v=.str ⟨#[c]⟩,λi _=>x.cps.size<=i⟩
theorem ZMG{K:PySem.W.Frag}(it:jD)(x:Str)(t:Tok):Turn P w K tg (Its x) [it] it (λi h=>h.IsStrIter it "str_ascii_iterator" x t i) where
 mem:=by simp
 obj:=λi h st b hb=>by
  have e:b=it:=by simpa using hb
  subst e;obtain⟨o,e,c,d⟩:=st;exact⟨o,e,λv z=>by rw[d]at z;cases z⟩
 keep:=λi h h' st k=>let⟨o,ho,r⟩:=st;⟨o,k it (by simp) o ho,r⟩
 item:=by
  intro X hP hw hK hc i vQ s σ H E I hf st hg;subst hP hw hK;obtain⟨f0,f1,f2,f3,f4,f5⟩:=hf it (by simp);have hi:i<x.cps.size:=hg;refine wpAny_pyNext_ascii_item st (c:=x.cps[i]) (by simp[hi]) λh' st' sb=>?_
  have I1:Inv X vQ σ H {s with heap:=h',toks:=s.toks+1}:=I.turned (λb o hb e=>(sb.2 b hb).trans e) f0 f1 f3 f4 f5;obtain⟨o,e,c,d⟩:=id st';exact⟨_,rfl,Uu (s:={s with heap:=h',toks:=s.toks+1}) e c d (by decide) ⟨.str ⟨#[x.cps[i]]⟩,H,I1,⟨_,rfl⟩,⟨rfl,_,by simp[hi],rfl⟩,st',λb hb=>(hf b hb).1⟩⟩
 done:=by intro X hP hw hK hc i vQ s σ H E I hf st hg;subst hP hw hK;obtain⟨f0,f1,f2,f3,f4,f5⟩:=hf it (by simp);have hi:x.cps.size<=i:=hg;exact wpAny_pyNext_ascii_end (I.ok.hd hc) st (by simp[hi]) λh' eb=>⟨rfl,I.turned (t':=s.toks) (λb o hb e=>eb b o hb e) f0 f1 f3 f4 f5⟩
 self:=λ_ _ _ _ _ st h=>wpAny_pyIter_striter_ascii st h
theorem ZJ4{K:PySem.W.Frag}(it:jD)(x:Str)(t:Tok):Turn P w K tg (Its x) [it] it (λi h=>h.IsStrIter it "str_iterator" x t i) where
 mem:=by simp
 obj:=λi h st b hb=>by
  have e:b=it:=by simpa using hb
  subst e;obtain⟨o,e,c,d⟩:=st;exact⟨o,e,λv z=>by rw[d]at z;cases z⟩
 keep:=λi h h' st k=>let⟨o,ho,r⟩:=st;⟨o,k it (by simp) o ho,r⟩
 item:=by
  intro X hP hw hK hc i vQ s σ H E I hf st hg;subst hP hw hK;obtain⟨f0,f1,f2,f3,f4,f5⟩:=hf it (by simp);have hi:i<x.cps.size:=hg;refine wpAny_pyNext_wide_item st (c:=x.cps[i]) (by simp[hi]) λh' st' sb=>?_
  have I1:Inv X vQ σ H {s with heap:=h',toks:=s.toks+1}:=I.turned (λb o hb e=>(sb.2 b hb).trans e) f0 f1 f3 f4 f5;obtain⟨o,e,c,d⟩:=id st';exact⟨_,rfl,Uu (s:={s with heap:=h',toks:=s.toks+1}) e c d (by decide) ⟨.str ⟨#[x.cps[i]]⟩,H,I1,⟨_,rfl⟩,⟨rfl,_,by simp[hi],rfl⟩,st',λb hb=>(hf b hb).1⟩⟩
 done:=by intro X hP hw hK hc i vQ s σ H E I hf st hg;subst hP hw hK;obtain⟨f0,f1,f2,f3,f4,f5⟩:=hf it (by simp);have hi:x.cps.size<=i:=hg;exact wpAny_pyNext_wide_end (I.ok.hd hc) st (by simp[hi]) λh' eb=>⟨rfl,I.turned (t':=s.toks) (λb o hb e=>eb b o hb e) f0 f1 f3 f4 f5⟩
 self:=λ_ _ _ _ _ st h=>wpAny_pyIter_striter_wide st h
def iStr(tl:TE):TI:=λσ H R=>tl σ H λx H1=>∃z,x=.str z/\R (Its z) H1
theorem ZPE{l:jF}{tl:TE}(hl:PE X l tl):PI X tg l (iStr tl):=by
 intro vQ s σ H R I h;refine thn (hl vQ s σ H _ I h) λv s1 ⟨x,H1,I1,r1,q1⟩=>?_
 obtain⟨z,e,q⟩:=q1;subst e;obtain⟨t,rfl⟩:=r1;have fp:∀b∈[s1.heap.objs.size],FpOk X vQ H1 b:=λb hb=>by
  have e:b=s1.heap.objs.size:=by simpa using hb
  subst e;exact I1.T3 (zx _) (I1.hok.fresh (zx _))
 cases ha:z.cps.all (· < 128)
 ·refine wpAny_pyIter_wide ha ?_;exact⟨s1.heap.objs.size,[s1.heap.objs.size],_,_,H1,rfl,I1.kept (t':=s1.toks) λb o e=>zJ _ e,ZJ4 _ z t,⟨_,zI _ rfl,rfl,rfl⟩,fp,q⟩
 ·refine wpAny_pyIter_ascii ha ?_;exact⟨s1.heap.objs.size,[s1.heap.objs.size],_,_,H1,rfl,I1.kept (t':=s1.toks) λb o e=>zJ _ e,ZMG _ z t,⟨_,zI _ rfl,rfl,rfl⟩,fp,q⟩
theorem Reps.signs(x:Str):Reps a (signs x) (x.cps.toList.map λc=>V.str ⟨#[c]⟩):=by
 unfold _D.signs
 induction x.cps.toList with
 |nil=>exact rfl
 |cons c r ih=>exact⟨_,_,rfl,rfl,ih⟩
def J9:D->DH->R ItD
 |.tup xs,G=>.ok (.pure xs) G
 |.str x,G=>.ok (.pure (signs x)) G
 |.fl xs,G=>.ok (.pure xs) G
 |.ref i,G=>match G[i]? with
  |some (.lst _)=>.ok (.mt i) G
  |_=>.bad
 |_,_=>.bad
def Ej(te:DE):DI:=λS G=>(te S G).bind J9
theorem Fb(he:QE X E iter te):QI X E tg iter (Ej te):=by
 intro vQ s σ H R I h;obtain⟨a,S,G,hk,rfl,sm,r,h⟩:=h;cases ht:te S G with
 |bad=>
  have h':outI E a ((te S G).bind J9) R:=h;rw[ht]at h';exact h'.elim
 |err e G1=>
  have h':outI E a ((te S G).bind J9) R:=h;rw[ht]at h';refine ZBe (tg:=tg) he vQ s σ a.H R I ⟨a,S,G,hk,rfl,sm,r,?_⟩;rw[ht];exact h'
 | ok d G1=>
  have h':outI E a ((te S G).bind J9) R:=h;rw[ht]at h';cases d with
  |tup xs=>
   refine ZNX (tg:=tg) he vQ s σ a.H R I ⟨a,S,G,hk,rfl,sm,r,?_⟩;rw[ht];rintro b v x sb ⟨p,vs,rfl,hq,rv⟩;have hq':SqT X.K b.H p vs:=by rw[<-hk,<-x.k];exact hq
   refine⟨p,rfl,⟨vs,hq'⟩,h' b _ x sb ⟨vs,rv,λc y i=>⟨λv hv=>⟨⟨vs,v,?_,hv⟩,λw H' z=>?_⟩,λhl=>⟨vs,?_,hl⟩⟩⟩⟩
   ·have:=y.sqT hq;rw[y.k,x.k,hk]at this;exact this
   ·have:=y.sqT hq;rw[y.k,x.k,hk]at this;exact⟨Option.some.inj ((z.2 vs this).symm.trans hv),z.1⟩
   ·have:=y.sqT hq;rw[y.k,x.k,hk]at this;exact this
  |fl xs=>
   refine ZBe (tg:=tg) he vQ s σ a.H R I ⟨a,S,G,hk,rfl,sm,r,?_⟩;rw[ht];rintro b v x sb ⟨p,vs,rfl,hq,rv⟩;have hq':SqL X.K b.H p vs:=by rw[<-hk,<-x.k];exact hq.sq
   refine⟨p,rfl,⟨vs,hq'⟩,h' b _ x sb ⟨vs,rv,λc y i=>⟨λv hv=>⟨⟨vs,v,?_,hv⟩,λw H' z=>?_⟩,λhl=>⟨vs,?_,hl⟩⟩⟩⟩
   ·have:=(y.fzL hq).sq;rw[y.k,x.k,hk]at this;exact this
   ·have:=(y.fzL hq).sq;rw[y.k,x.k,hk]at this;exact⟨Option.some.inj ((z.2 vs this).symm.trans hv),z.1⟩
   ·have:=(y.fzL hq).sq;rw[y.k,x.k,hk]at this;exact this
  |ref k=>
   have h2:outI E a (J9 (.ref k) G1) R:=h';unfold J9 at h2;dsimp only at h2;split at h2
   ·rename_i xs hx;refine ZBe (tg:=tg) he vQ s σ a.H R I ⟨a,S,G,hk,rfl,sm,r,?_⟩;rw[ht];rintro b v x sb ⟨hkn,rfl⟩;obtain⟨vs,hx,_⟩:=sb.lst hx;refine⟨b.m k,rfl,⟨vs,.of hx⟩,h2 b _ x sb ⟨hkn,λc y us hu i=>?_⟩⟩;rw[y.m k hkn]at hu;exact⟨λv hv=>⟨⟨us,v,.of hu,hv⟩,λw H' z=>⟨Option.some.inj ((z.2 us (.of hu)).symm.trans hv),z.1⟩⟩,λhl=>⟨us,.of hu,hl⟩⟩
   ·exact h2.elim
  | str z=>
   refine ZPE (tg:=tg) he vQ s σ a.H R I ⟨a,S,G,hk,rfl,sm,r,?_⟩;rw[ht];intro b v x sb rv
   cases(show v=V.str z from rv)
   refine⟨z,rfl,h' b _ x sb ⟨_,Reps.signs z,λc y i=>⟨λv hv=>?_,λhl=>?_⟩⟩⟩
   ·rw[zw,zA]at hv;obtain⟨k,hk1,rfl⟩:=hv;have hk2:z.cps[i]?=vZ k:=by rw[<-Array.getElem?_toList];exact hk1
    refine⟨(zO.mp hk2).1,λw H' q=>?_⟩;obtain⟨e1,k',e2,e3⟩:=q;rw[hk2]at e2;cases e2;exact⟨e3,e1⟩
   ·rw[zZ,jY]at hl;exact hl
  |_=>exact h'.elim
end
noncomputable def Cr(lo:Int)(n:Nat):List D:=(zy n).map λ(k:Nat)=>D.int (lo+(k:Int))
def inR(j:Int):Prop:= -(2^62)<=j/\j<2^62
noncomputable instance (j:Int):Decidable (inR j):=by unfold inR;infer_instance
def rng1(ds:List D)(G:DH):R ItD:=match ds with
 |[.int j]=>if inR j then .ok (.pure (Cr 0 j.toNat)) G else .bad
 |_=>.bad
def Ga(f:List D->DH->R ItD)(ta:DA):DI:=λS G=>(ta S G).bind f
def Cd(np nl:Nat)(b:DS):List D->DH->R D:=λds G=>if ds.length=np then tidy G (match b (ds.map vZ++zk nl vJ) G with
 |.nx _ G'=>.ok .non G'
 |.rt d G'=>.ok d G'
 |.err x G'=>.err x G'
 |_=>.bad)else .bad
theorem outI.mono(x:Ext a b){r:R ItD}{Q:It->Hp->Prop}(h:outI E a r Q):outI E b r Q:=by
 cases r with
 |ok d G=>exact λc v y s q=>h c v (x.trans y) s q
 |err e G=>exact XOk.mono (E:=E) (e:=e) (G:=G) x h
 |bad=>exact h
theorem ZPp{r:R (List D)}{f:List D->DH->R ItD}{Q:It->Hp->Prop}(h:outI E a (r.bind f) Q):
  Hc E a r (λvs H=>∃(b:Wd)(ds:List D)(G:DH),b.H=H/\Ext a b/\Sim b G/\Reps b ds vs/\r=.ok ds G/\outI E b (f ds G) Q):=by
 cases r with
 |ok d G=>exact λb v x s q=>⟨b,d,G,rfl,x,s,q,rfl,outI.mono x h⟩
 |err e G=>exact h
 |bad=>exact h
section
variable{X:Cx}{E:XK}{tg iter:jF}{pos:Pos}
theorem ZPx(lo:Int)(n:Nat):RepI a (.pure (Cr lo n)) (Itr lo n):=by
 refine⟨(zy n).map λ(k:Nat)=>V.int (lo+(k:Int)),?_,λb x i=>⟨λv hv=>?_,λhl=>?_⟩⟩
 ·unfold Cr;generalize zy n=l
  induction l with
  |nil=>exact rfl
  |cons k l ih=>exact⟨_,_,rfl,rfl,ih⟩
 ·rw[zw]at hv;by_cases hi:i<n
  ·rw[List.getElem?_range hi]at hv;have hv':V.int (lo+(i:Int))=v:=by simpa using hv
   exact⟨hi,λw H' y=>⟨y.2.trans hv',y.1⟩⟩
  ·rw[qx (by simpa using hi)]at hv;cases hv
 ·show n<=i;simpa using hl
theorem I8{ta:DA}{p pos:Pos}(hg:Gl X "range")(hm:X.mg "range"=vJ)(ha:QA X E [e] ta)(hs:xE [e] X.env=[(vV,eval e X.env)]:=by rfl):QI X E tg (.Call (.Name "range" p) [e] [] pos) (Ga rng1 ta):=
 (ZKo hg hm ha hs).mono λσ H Q h=>by
  obtain⟨a,S,G,hk,rfl,s,r,h⟩:=h;refine⟨a,S,G,hk,rfl,s,r,(ZPp h).imp ?_⟩;rintro vs _ ⟨b,ds,G1,rfl,x,s1,q,-,h1⟩;unfold rng1 at h1;split at h1
  ·rename_i j;split at h1
   ·rename_i hj;obtain⟨v,r,e1,q1,q2⟩:=q
    cases(show v=V.int j from q1)
    cases(show r=[]from q2)
    exact⟨j,e1,hj.1,hj.2,h1 b _ (Ext.refl b) s1 (ZPx 0 j.toNat)⟩
   ·exact h1.elim
  ·exact h1.elim
end
theorem ZII(r:Reps a ds vs)(n m:Nat)(h:n=m):RepS a (ds.map vZ++zk n vJ) (vs.map vZ++zk m vJ):=by
 subst h;refine⟨by simp[r.length],λi d hd=>?_⟩;by_cases hi:i<ds.length
 ·rw[zS (by simpa using hi),zw]at hd;cases e:ds[i]? with
  |none=>rw[e]at hd;cases hd
  |some d'=>
   rw[e]at hd;have hd':d'=d:=by simpa using hd
   subst hd';obtain⟨v,ev,q⟩:=r.get e;exact⟨v,by rw[zS (by rw[zZ,<-r.length];exact hi),zw,ev];rfl,q⟩
 ·rw[zG (by simpa using hi),qG]at hd
  split at hd<;>cases hd
theorem Cz{K:PySem.W.Frag}{mg:Str->Option jO}{base:Heap}{qual:Str}{st:jN}{f:jD}{fd:jG}{N ps:List Str}{b:DS}(F:Fun K x qual st f fd)(S:FnScope N ps (Bd st))
  (hbody:∀(cdv:jO)(A:jE)(outer:List Env)(s:jM)(H:Hp)(E:XK),Room k (A.deeper (envOfC qual (Bd st) s.heap.objs.size f cdv))->QSs (J6 CX0 P w K mg base N qual (Bd st) f cdv A outer s H E).nox E0 (Fq st) b):
  FnOk P w K mg base CX0 (k+1) f fd ps (lF K (Cd ps.length (N.length-ps.length) b)):=by
 have hlen:∀vs H Q E,lF K (Cd ps.length (N.length-ps.length) b) vs H Q E->vs.length=ps.length:=λvs H Q E h=>by
  obtain⟨a,G,ds,hk,rfl,sm,r,h⟩:=h;unfold Cd at h;split at h
  ·rename_i hl;rw[<-r.length];exact hl
  ·exact h.elim
 refine F.ok S hlen (λcdv A outer s H vs Q E hr h=>?_);refine⟨lS K E0 b,hbody cdv A outer s H E hr,?_⟩;have hl:=hlen vs H Q E h;obtain⟨a,G,ds,hk,rfl,sm,r,h⟩:=h;unfold Cd at h;split at h
 ·have h2:=ZCD sm h;refine⟨a,ds.map vZ++zk (N.length-ps.length) vJ,G,hk,rfl,sm,ZII r _ _ (by rw[hl]),?_⟩
  revert h2
  cases b (ds.map vZ++zk (N.length-ps.length) vJ) G with
  |nx S1 G1=>exact λh2 c σ x s1 _=>h2 c .non x s1 rfl
  |rt d G1=>exact λh2=>h2
  |err e G1=>exact λh2=>h2
  |bk S1 G1=>exact λh2=>h2.elim
  |ct S1 G1=>exact λh2=>h2.elim
  |bad=>exact λh2=>h2
 ·exact h.elim
theorem M5{x:V}(s:Sim a G)(r:Rep a d x)(h:Ei d G=vZ xs):∃p vs,x=.ref p/\(SqL a.K a.H p vs∨SqT a.K a.H p vs)/\Reps a xs vs:=by
 cases d with
 |tup ys=>
  have e:ys=xs:=Option.some.inj h;subst e;obtain⟨p,vs,e,q,rr⟩:=r;exact⟨p,vs,e,.inr q,rr⟩
 |fl ys=>
  have e:ys=xs:=Option.some.inj h;subst e;obtain⟨p,vs,e,q,rr⟩:=r;exact⟨p,vs,e,.inl q.sq,rr⟩
 |ref i=>
  unfold Ei at h;dsimp only at h;split at h
  ·rename_i ys hi;have e:ys=xs:=Option.some.inj h;subst e;obtain⟨vs,e1,r1⟩:=s.lst hi;exact⟨a.m i,vs,r.2,.inl (.of e1),r1⟩
  ·cases h
 |_=>cases h
def Af (d e:D) (G:DH):R D:=match e with
 | .int i=>match d with
  | .str z=>if z.length<=1000000 then(match atI z.cps.toList i with
    |some c=>.ok (.str ⟨#[c]⟩) G
    |none=>.bad)else .bad
  | d=>match Ei d G with
   |some xs=>match atI xs i with
    |some v=>.ok v G
    |none=>.bad
   |none=>.bad
 |_=>.bad
theorem ZKU{i:Int}(r:Reps a xs vs)(h:atI xs i=vZ d):∃v,atI vs i=vZ v/\Rep a d v:=by
 unfold atI at h⊢;rw[<-r.length];cases e:ixN xs.length i with
 |none=>rw[e]at h;cases h
 |some j=>
  rw[e]at h
  obtain⟨v,ev,q⟩:=r.get (show xs[j]?=vZ d from h)
  exact⟨v,ev,q⟩
section
variable{X:Cx}{E:XK}
theorem _root_._L.IxR.mono{r r':R2}(h:IxR X r)(w:∀x y H Q,r' x y H Q->r x y H Q):IxR X r':=λvalue slice vQ s σ H x y v u Q I rx ry q hs=>h value slice vQ s σ H x y v u Q I rx ry (w _ _ _ _ q) hs
theorem _root_._L.CallR.mono{f:jO}{r r':List V->Hp->VK->Prop}(h:CallR X f r)(w:∀xs H Q,r' xs H Q->r xs H Q):CallR X f r':=λvQ s σ H xs us Q I rs q=>h vQ s σ H xs us Q I rs (w _ _ _ q)
theorem _root_._L.MtM.mono{id:String}{r r':V->List V->Hp->VK->Prop}(h:MtM X id r)(w:∀x xs H Q,r' x xs H Q->r x xs H Q):MtM X id r':=λvQ s σ H x xs v us Q I rx rs q=>h vQ s σ H x xs v us Q I rx rs (w _ _ _ _ q)
theorem Al:IxR X (lR2 X.K E Af):=ZPJ.mono λx y H Q h=>by
 obtain⟨a,G,d,e,hk,rfl,s,rd,re,q⟩:=h;cases e with
 | int i=>
  have fin:∀{xs:List D},Ei d G=vZ xs->out E a (match atI xs i with |some v=>.ok v G|none=>.bad) Q->rIx X.K x y a.H Q:=λ{xs}hs q=>by
   obtain⟨p,vs,e1,h1,r1⟩:=M5 s rd hs;rw[hk]at h1;split at q
   ·rename_i v hv;obtain⟨u,hu,ru⟩:=ZKU r1 hv;have z:=q a u (Ext.refl a) s ru;rcases h1 with h1|h1
    ·exact .inl ⟨p,vs,i,u,e1,re,h1,hu,z⟩
    ·exact .inr (.inl ⟨p,vs,i,u,e1,re,h1,hu,z⟩)
   ·exact q.elim
  have fin':out E a (match Ei d G with |some xs=>(match atI xs i with |some v=>.ok v G|none=>.bad)|none=>.bad) Q->rIx X.K x y a.H Q:=λq=>by
   cases hs:Ei d G with
   |none=>rw[hs]at q;exact q.elim
   |some xs=>rw[hs]at q;exact fin hs q
  cases d with
  | str z=>
   unfold Af at q;dsimp only at q;split at q
   ·rename_i hl;split at q
    ·rename_i c hc;exact .inr (.inr ⟨z,i,c,rd,re,z9 hl size6,hc,q a _ (Ext.refl a) s rfl⟩)
    ·exact q.elim
   ·exact q.elim
  |tup ys=>exact fin' q
  |fl ys=>exact fin' q
  |ref j=>exact fin' q
  |_=>exact fin' q
 |_=>exact q.elim
def Dl(ds:List D)(G:DH):R D:=match ds with
 |[.str z]=>if z.length<=1000000 then .ok (.int z.length) G else .bad
 |[d]=>match Ei d G with
  |some xs=>.ok (.int xs.length) G
  |none=>.bad
 |_=>.bad
theorem reps1(r:Reps a [d] vs):∃v,vs=[v]/\Rep a d v:=by
 obtain⟨v,r',e,q,z⟩:=r
 cases(show r'=[]from z)
 exact⟨v,e,q⟩
theorem reps2{d':D}(r:Reps a [d,d'] vs):∃v v',vs=[v,v']/\Rep a d v/\Rep a d' v':=by obtain⟨v,r',e,q,z⟩:=r;obtain⟨v',e',q'⟩:=reps1 z;subst e';exact⟨v,v',e,q,q'⟩
theorem Ea:CallR X (.builtin "len") (lRn X.K E Dl):=(ZJn.or ZPL).mono λvs H Q h=>by
 obtain⟨a,G,ds,hk,rfl,s,r,q⟩:=h;unfold Dl at q;split at q
 ·rename_i z;split at q
  ·rename_i hl;obtain⟨v,rfl,rv⟩:=reps1 r
   cases(show v=V.str z from rv)
   exact .inr ⟨z,rfl,z9 hl size6,q a _ (Ext.refl a) s rfl⟩
  ·exact q.elim
 ·rename_i d _;split at q
  ·rename_i xs hs;obtain⟨v,rfl,rv⟩:=reps1 r;obtain⟨p,us,rfl,h1,r1⟩:=M5 s rv hs;rw[hk]at h1;exact .inl ⟨p,us,rfl,h1,q a _ (Ext.refl a) s (by rw[<-r1.length];exact rfl)⟩
  ·exact q.elim
 ·exact q.elim
def Lw(ds:List D)(G:DH):R D:=match ds with
 |[d]=>match Ei d G with
  |some xs=>.ok (.tup xs) G
  |none=>.bad
 |_=>.bad
theorem Xg:CallR X (.type "tuple") (lRn X.K E Lw):=ZMT.mono λvs H Q h=>by
 obtain⟨a,G,ds,hk,rfl,s,r,q⟩:=h;unfold Lw at q;split at q
 ·rename_i d;split at q
  ·rename_i xs hs;obtain⟨v,rfl,rv⟩:=reps1 r;obtain⟨p,us,rfl,h1,r1⟩:=M5 s rv hs;refine⟨p,us,rfl,?_⟩;rcases h1 with h1|h1
   ·exact .inl ⟨by rw[<-hk];exact h1,λl hl=>Vx s r1 q l hl⟩
   ·exact .inr ⟨by rw[<-hk];exact h1,q a _ (Ext.refl a) s ⟨p,us,rfl,h1,r1⟩⟩
  ·exact q.elim
 ·exact q.elim
noncomputable def Oq(ds:List D)(G:DH):R D:=match ds with
 |[.int i,.int j]=>.ok (.int (if j>i then j else i)) G
 |_=>.bad
theorem Yy(hc:X.calm=vX):CallR X (.builtin "max") (lRn X.K E Oq):=(ZO9 hc).mono λvs H Q h=>by
 obtain⟨a,G,ds,hk,rfl,s,r,q⟩:=h;unfold Oq at q;split at q
 ·obtain⟨v,v',rfl,h1,h2⟩:=reps2 r
  cases(show v=V.int _ from h1)
  cases(show v'=V.int _ from h2)
  exact⟨_,_,rfl,q a _ (Ext.refl a) s rfl⟩
 ·exact q.elim
noncomputable def V5(ds:List D)(G:DH):R D:=match ds with
 |[.int i]=>.ok (.int i) G
 |[.bl k]=>.ok (.int (if k then 1 else 0)) G
 |_=>.bad
theorem ZFa:CallR X (.type "int") (lRn X.K E V5):=ZKL.mono λvs H Q h=>by
 obtain⟨a,G,ds,hk,rfl,s,r,q⟩:=h;unfold V5 at q;split at q
 ·obtain⟨v,rfl,h1⟩:=reps1 r
  cases(show v=V.int _ from h1)
  exact .inl ⟨_,rfl,q a _ (Ext.refl a) s rfl⟩
 ·obtain⟨v,rfl,h1⟩:=reps1 r
  cases(show v=V.bl _ from h1)
  exact .inr ⟨_,rfl,q a _ (Ext.refl a) s rfl⟩
 ·exact q.elim
noncomputable def Lg(o:D)(ds:List D)(G:DH):R D:=match o,ds with
 |.ref i,[d]=>match G[i]? with
  |some (.lst xs)=>if xs.length<1000000 then .ok .non (G.set i (.lst (xs++[d])))else .bad
  |_=>.bad
 |_,_=>.bad
def lRm(K:PySem.W.Frag)(E:XK)(f:D->List D->DH->R D):V->List V->Hp->VK->Prop:=λx xs H Q=>∃(a:Wd)(G:DH)(d:D)(ds:List D),a.K=K/\a.H=H/\Sim a G/\Rep a d x/\Reps a ds xs/\out E a (f d ds G) Q
theorem Sim.isList(s:Sim a G)(h:G[i]?=vZ (.lst xs)):∃vs,SqL a.K a.H (a.m i) vs:=let⟨vs,e,_⟩:=s.lst h;⟨vs,.of e⟩
theorem Rc:MtM X "list.append" (lRm X.K E Lg):=ZOg.mono λx xs H Q h=>by
 obtain⟨a,G,d,ds,hk,rfl,s,rd,r,q⟩:=h;unfold Lg at q;split at q
 ·rename_i i d;obtain⟨v,rfl,rv⟩:=reps1 r;split at q
  ·rename_i ys hy;split at q
   ·rename_i hl;obtain⟨vs,e1,r1⟩:=s.lst hy;obtain⟨x3,s3⟩:=ZIm s rd.1 e1 (r1.append (Reps.cons rv Reps.nil));refine⟨a.m i,vs,v,rd.2,rfl,e1,by rw[<-r1.length];exact zW hl size6,?_⟩;exact q _ .non x3 s3 rfl
   ·exact q.elim
  ·exact q.elim
 ·exact q.elim
variable{o e:jF}{es:List jF}{to:DE}{t:DA}{name:Str}{apos cpos:Pos}{T id:String}{f:D->List D->DH->R D}
noncomputable def isL(d:D)(G:DH):Bool:=match d with
 |.ref i=>match G[i]? with
  |some (.lst _)=>vX
  |_=>vV
 |.fl _=>vX
 |_=>vV
def Nf(f:D->List D->DH->R D)(o:DE)(t:DA):DE:=λS G=>(o S G).bind λx G1=>if isL x G1=vX then(t S G1).bind λxs G2=>f x xs G2 else .bad
theorem ZNG{x:V}(s:Sim a G)(r:Rep a d x)(h:isL d G=vX):tyV a.K "list" x a.H:=by
 cases d with
 |ref i=>
  unfold isL at h;dsimp only at h;split at h
  ·rename_i xs hx;cases r.2;exact .inl ⟨rfl,s.isList hx⟩
  ·cases h
 |fl xs=>
  obtain⟨p,vs,rfl,q,_⟩:=r;exact .inl ⟨rfl,vs,q.sq⟩
 |_=>cases h
theorem Pr(slot:Slot "list" name id)(hty:typeOf (.builtin id)=pure (.type "method_descriptor"))(hm:MtM X id (lRm X.K E f))(ho:QE X E o to)(ha:QA X E (e::es) t)
  (hbase:jS o name X.env (eval o X.env)=eval o X.env:=by rfl)
  (hfew:((jT cpos (xE (e::es) X.env)).all (λx=> !x.1)&&(backToKw cpos (keywordEach [] X.env)).all (λx=>x.1.isSome)
   && decide ((e::es).length+([]:List Keyword).length+(if([]:List Keyword).isEmpty then 0 else 1)<30))=vX:=by rfl)
  (hline:(apos.endLine==cpos.line)=vX:=by rfl) (hs:xE (e::es) X.env=(vV,eval e X.env)::xE es X.env:=by rfl) (hplain:(jT cpos (xE es X.env)).any (·.1)=vV:=by rfl):
  QE X E (.Call (.Attribute o name apos) (e::es) [] cpos) (Nf f to t):=(ZJW PySem.F.plainAttrs_list slot hty hm ho ha hbase hfew hline hs hplain).mono λσ H Q h=>by
 obtain⟨a,S,G,hk,rfl,s,r,h⟩:=h;refine⟨a,S,G,hk,rfl,s,r,(Hf h).imp ?_⟩;rintro v _ ⟨b,d,G1,rfl,x,s1,q,-,h1⟩;split at h1
 ·rename_i hl;have ty:=ZNG s1 q hl;rw[x.k,hk]at ty;refine⟨ty,b,S,G1,x.k.trans hk,rfl,s1,r.mono x,(Qp h1).imp ?_⟩;rintro vs _ ⟨c,ds,G2,rfl,y,s2,q2,-,h2⟩;exact⟨c,G2,d,ds,y.k.trans (x.k.trans hk),rfl,s2,q.mono y,q2,h2⟩
 ·exact h1.elim
end
inductive Ty where|non|bl|int|str|tup|lst
def tyD(G:DH):D->Option Ty
 |.non=>vZ .non
 |.bl _=>vZ .bl
 |.int _=>vZ .int
 |.str _=>vZ .str
 |.tup _=>vZ .tup
 |.fl _=>vZ .lst
 |.ref i=>match G[i]? with
  |some (.lst _)=>vZ .lst
  |_=>vJ
 |.ty _=>vJ
noncomputable def Ty.sub(t:Ty):String->Option Bool
 |"int"=>vZ (match t with | .int=>vX | .bl=>vX|_=>vV)
 |"bool"=>vZ (match t with | .bl=>vX|_=>vV)
 |"str"=>vZ (match t with | .str=>vX|_=>vV)
 |"tuple"=>vZ (match t with | .tup=>vX|_=>vV)
 |"list"=>vZ (match t with | .lst=>vX|_=>vV)
 |_=>vJ
def K8(ds:List D)(G:DH):R D:=match ds with
 | [d,.ty T]=>match tyD G d with
  |some t=>match t.sub T with
   |some k=>.ok (.bl k) G
   |none=>.bad
  |none=>.bad
 |_=>.bad
section
variable{prog:jI}{w:jP}{A:jE}{E:jO->jM->Prop}{s:jM}
theorem Ox{x:jO}{Tx T:String}{Q:jO->jM->Prop}(hx:s.TypeIs x Tx)(hty:typeOf (.type T)=pure (.type "type"))(hsub:xK (.type Tx) (.type T)=pure vX)(h:Q (.bool vX) s):
  xG (xA prog w) A (call (.builtin "isinstance") [x,.type T]) Q E s:=xJ (isinstance_true hty hsub) ⟨hx,h⟩
end
theorem ty_int:typeOf (.type "int")=pure (.type "type"):=by with_unfolding_all rfl
theorem ty_bool:typeOf (.type "bool")=pure (.type "type"):=by with_unfolding_all rfl
theorem ty_str:typeOf (.type "str")=pure (.type "type"):=by with_unfolding_all rfl
theorem ty_tuple:typeOf (.type "tuple")=pure (.type "type"):=by with_unfolding_all rfl
theorem ty_list:typeOf (.type "list")=pure (.type "type"):=by with_unfolding_all rfl
theorem ZPr:xK (.type "NoneType") (.type "int")=pure vV:=by with_unfolding_all rfl
theorem ZRB:xK (.type "NoneType") (.type "bool")=pure vV:=by with_unfolding_all rfl
theorem ZJp:xK (.type "NoneType") (.type "str")=pure vV:=by with_unfolding_all rfl
theorem ZLw:xK (.type "NoneType") (.type "tuple")=pure vV:=by with_unfolding_all rfl
theorem ZP1:xK (.type "NoneType") (.type "list")=pure vV:=by with_unfolding_all rfl
theorem ZNF:xK (.type "bool") (.type "int")=pure vX:=by with_unfolding_all rfl
theorem ZON:xK (.type "bool") (.type "bool")=pure vX:=by with_unfolding_all rfl
theorem ZN9:xK (.type "bool") (.type "str")=pure vV:=by with_unfolding_all rfl
theorem ZLD:xK (.type "bool") (.type "tuple")=pure vV:=by with_unfolding_all rfl
theorem ZOB:xK (.type "bool") (.type "list")=pure vV:=by with_unfolding_all rfl
theorem ZMn:xK (.type "int") (.type "int")=pure vX:=by with_unfolding_all rfl
theorem ZPU:xK (.type "int") (.type "bool")=pure vV:=by with_unfolding_all rfl
theorem ZKw:xK (.type "int") (.type "str")=pure vV:=by with_unfolding_all rfl
theorem ZM7:xK (.type "int") (.type "tuple")=pure vV:=by with_unfolding_all rfl
theorem ZPz:xK (.type "int") (.type "list")=pure vV:=by with_unfolding_all rfl
theorem ZJ9:xK (.type "str") (.type "int")=pure vV:=by with_unfolding_all rfl
theorem ZO1:xK (.type "str") (.type "bool")=pure vV:=by with_unfolding_all rfl
theorem ZNV:xK (.type "str") (.type "str")=pure vX:=by with_unfolding_all rfl
theorem ZK5:xK (.type "str") (.type "tuple")=pure vV:=by with_unfolding_all rfl
theorem ZMW:xK (.type "str") (.type "list")=pure vV:=by with_unfolding_all rfl
theorem ZPS:xK (.type "tuple") (.type "int")=pure vV:=by with_unfolding_all rfl
theorem ZQN:xK (.type "tuple") (.type "bool")=pure vV:=by with_unfolding_all rfl
theorem ZLx:xK (.type "tuple") (.type "str")=pure vV:=by with_unfolding_all rfl
theorem ZQc:xK (.type "tuple") (.type "tuple")=pure vX:=by with_unfolding_all rfl
theorem ZLI:xK (.type "tuple") (.type "list")=pure vV:=by with_unfolding_all rfl
theorem ZGB:xK (.type "list") (.type "int")=pure vV:=by with_unfolding_all rfl
theorem ZFX:xK (.type "list") (.type "bool")=pure vV:=by with_unfolding_all rfl
theorem ZIV:xK (.type "list") (.type "str")=pure vV:=by with_unfolding_all rfl
theorem ZIt:xK (.type "list") (.type "tuple")=pure vV:=by with_unfolding_all rfl
theorem ZIU:xK (.type "list") (.type "list")=pure vX:=by with_unfolding_all rfl
section
variable{X:Cx}{E:XK}
theorem ZDh:CallR X (.builtin "isinstance") (lRn X.K E K8):=by
 intro vQ s σ H vs us Q I rs h;obtain⟨a,G,ds,hk,rfl,sm,r,q⟩:=h;unfold K8 at q;split at q
 ·rename_i d T;obtain⟨v,v',rfl,h1,h2⟩:=reps2 r
  cases(show v'=V.ty T from h2)
  obtain⟨u,u',rfl,ru,ru'⟩:∃u u',us=[u,u']/\RelV v u/\RelV (.ty T) u':=by
   cases rs with
   |cons p q=>cases q with
    |cons p' q'=>cases q';exact⟨_,_,rfl,p,p'⟩
  cases(show u'=Value.type T from ru')
  split at q
  ·rename_i t ht;split at q
   ·rename_i k hk';have fin:∀{n:Nat},EP X vQ σ Q (.bool k) {s with toks:=n}:=λ{n}=>⟨.bl k,a.H,I.tok _,rfl,q a _ (Ext.refl a) sm rfl⟩
    have fin0:EP X vQ σ Q (.bool k) s:=⟨.bl k,a.H,I,rfl,q a _ (Ext.refl a) sm rfl⟩;unfold Ty.sub at hk';split at hk'
    ·cases d with
     |non=>
      cases ht;cases hk'
      cases(show v=_ from h1)
      cases ru;exact xJ (xz (by decide) ty_int ZPr) fin
     |bl b=>
      cases ht;cases hk'
      cases(show v=_ from h1)
      cases ru;exact Ox (Tx:="bool") rfl ty_int ZNF fin0
     |int b=>
      cases ht;cases hk'
      cases(show v=_ from h1)
      obtain⟨tk,rfl⟩:=ru;exact Ox (Tx:="int") (typeIs_int s _ _) ty_int ZMn fin0
     |str b=>
      cases ht;cases hk'
      cases(show v=_ from h1)
      obtain⟨tk,rfl⟩:=ru;exact xJ (xj (by decide) ty_int ZJ9) fin
     |tup b=>
      cases ht;cases hk';obtain⟨p,ws,rfl,hq,_⟩:=h1;cases ru;rw[hk]at hq;obtain⟨its,_,pl,_⟩:=I.tuple hq;exact xJ (xk (by decide) ty_int ZPS) ⟨(let⟨o,e,c,_⟩:=pl;⟨o,e,c⟩),fin⟩
     |fl b=>
      cases ht;cases hk';obtain⟨p,ws,rfl,hq,_⟩:=h1;cases ru;have hq:=hq.sq;rw[hk]at hq;obtain⟨its,_,pl,_⟩:=I.list hq;exact xJ (xq (by decide) ty_int ZGB) ⟨(let⟨o,e,c,_⟩:=pl.isList;⟨o,e,c⟩),fin⟩
     |ref b=>
      unfold tyD at ht;dsimp only at ht;split at ht
      ·rename_i xs hx;cases ht;cases hk';obtain⟨ws,e1,_⟩:=sm.lst hx;cases h1.2;cases ru;obtain⟨its,_,pl,_⟩:=I.list (.of e1);exact xJ (xq (by decide) ty_int ZGB) ⟨(let⟨o,e,c,_⟩:=pl.isList;⟨o,e,c⟩),fin⟩
      ·cases ht
     |ty n=>cases ht
    ·cases d with
     |non=>
      cases ht;cases hk'
      cases(show v=_ from h1)
      cases ru;exact xJ (xz (by decide) ty_bool ZRB) fin
     |bl b=>
      cases ht;cases hk'
      cases(show v=_ from h1)
      cases ru;exact Ox (Tx:="bool") rfl ty_bool ZON fin0
     |int b=>
      cases ht;cases hk'
      cases(show v=_ from h1)
      obtain⟨tk,rfl⟩:=ru;exact xJ (xY (by decide) ty_bool ZPU) fin
     |str b=>
      cases ht;cases hk'
      cases(show v=_ from h1)
      obtain⟨tk,rfl⟩:=ru;exact xJ (xj (by decide) ty_bool ZO1) fin
     |tup b=>
      cases ht;cases hk';obtain⟨p,ws,rfl,hq,_⟩:=h1;cases ru;rw[hk]at hq;obtain⟨its,_,pl,_⟩:=I.tuple hq;exact xJ (xk (by decide) ty_bool ZQN) ⟨(let⟨o,e,c,_⟩:=pl;⟨o,e,c⟩),fin⟩
     |fl b=>
      cases ht;cases hk';obtain⟨p,ws,rfl,hq,_⟩:=h1;cases ru;have hq:=hq.sq;rw[hk]at hq;obtain⟨its,_,pl,_⟩:=I.list hq;exact xJ (xq (by decide) ty_bool ZFX) ⟨(let⟨o,e,c,_⟩:=pl.isList;⟨o,e,c⟩),fin⟩
     |ref b=>
      unfold tyD at ht;dsimp only at ht;split at ht
      ·rename_i xs hx;cases ht;cases hk';obtain⟨ws,e1,_⟩:=sm.lst hx;cases h1.2;cases ru;obtain⟨its,_,pl,_⟩:=I.list (.of e1);exact xJ (xq (by decide) ty_bool ZFX) ⟨(let⟨o,e,c,_⟩:=pl.isList;⟨o,e,c⟩),fin⟩
      ·cases ht
     |ty n=>cases ht
    ·cases d with
     |non=>
      cases ht;cases hk'
      cases(show v=_ from h1)
      cases ru;exact xJ (xz (by decide) ty_str ZJp) fin
     |bl b=>
      cases ht;cases hk'
      cases(show v=_ from h1)
      cases ru;exact xJ (isinstance_false_bool (by decide) ty_str ZN9) fin
     |int b=>
      cases ht;cases hk'
      cases(show v=_ from h1)
      obtain⟨tk,rfl⟩:=ru;exact xJ (xY (by decide) ty_str ZKw) fin
     |str b=>
      cases ht;cases hk'
      cases(show v=_ from h1)
      obtain⟨tk,rfl⟩:=ru;exact Ox (Tx:="str") (typeIs_str s _ _) ty_str ZNV fin0
     |tup b=>
      cases ht;cases hk';obtain⟨p,ws,rfl,hq,_⟩:=h1;cases ru;rw[hk]at hq;obtain⟨its,_,pl,_⟩:=I.tuple hq;exact xJ (xk (by decide) ty_str ZLx) ⟨(let⟨o,e,c,_⟩:=pl;⟨o,e,c⟩),fin⟩
     |fl b=>
      cases ht;cases hk';obtain⟨p,ws,rfl,hq,_⟩:=h1;cases ru;have hq:=hq.sq;rw[hk]at hq;obtain⟨its,_,pl,_⟩:=I.list hq;exact xJ (xq (by decide) ty_str ZIV) ⟨(let⟨o,e,c,_⟩:=pl.isList;⟨o,e,c⟩),fin⟩
     |ref b=>
      unfold tyD at ht;dsimp only at ht;split at ht
      ·rename_i xs hx;cases ht;cases hk';obtain⟨ws,e1,_⟩:=sm.lst hx;cases h1.2;cases ru;obtain⟨its,_,pl,_⟩:=I.list (.of e1);exact xJ (xq (by decide) ty_str ZIV) ⟨(let⟨o,e,c,_⟩:=pl.isList;⟨o,e,c⟩),fin⟩
      ·cases ht
     |ty n=>cases ht
    ·cases d with
     |non=>
      cases ht;cases hk'
      cases(show v=_ from h1)
      cases ru;exact xJ (xz (by decide) ty_tuple ZLw) fin
     |bl b=>
      cases ht;cases hk'
      cases(show v=_ from h1)
      cases ru;exact xJ (isinstance_false_bool (by decide) ty_tuple ZLD) fin
     |int b=>
      cases ht;cases hk'
      cases(show v=_ from h1)
      obtain⟨tk,rfl⟩:=ru;exact xJ (xY (by decide) ty_tuple ZM7) fin
     |str b=>
      cases ht;cases hk'
      cases(show v=_ from h1)
      obtain⟨tk,rfl⟩:=ru;exact xJ (xj (by decide) ty_tuple ZK5) fin
     |tup b=>
      cases ht;cases hk';obtain⟨p,ws,rfl,hq,_⟩:=h1;cases ru;rw[hk]at hq;obtain⟨its,_,pl,_⟩:=I.tuple hq;exact Ox (Tx:="tuple") pl.typeIs ty_tuple ZQc fin0
     |fl b=>
      cases ht;cases hk';obtain⟨p,ws,rfl,hq,_⟩:=h1;cases ru;have hq:=hq.sq;rw[hk]at hq;obtain⟨its,_,pl,_⟩:=I.list hq;exact xJ (xq (by decide) ty_tuple ZIt) ⟨(let⟨o,e,c,_⟩:=pl.isList;⟨o,e,c⟩),fin⟩
     |ref b=>
      unfold tyD at ht;dsimp only at ht;split at ht
      ·rename_i xs hx;cases ht;cases hk';obtain⟨ws,e1,_⟩:=sm.lst hx;cases h1.2;cases ru;obtain⟨its,_,pl,_⟩:=I.list (.of e1);exact xJ (xq (by decide) ty_tuple ZIt) ⟨(let⟨o,e,c,_⟩:=pl.isList;⟨o,e,c⟩),fin⟩
      ·cases ht
     |ty n=>cases ht
    ·cases d with
     |non=>
      cases ht;cases hk'
      cases(show v=_ from h1)
      cases ru;exact xJ (xz (by decide) ty_list ZP1) fin
     |bl b=>
      cases ht;cases hk'
      cases(show v=_ from h1)
      cases ru;exact xJ (isinstance_false_bool (by decide) ty_list ZOB) fin
     |int b=>
      cases ht;cases hk'
      cases(show v=_ from h1)
      obtain⟨tk,rfl⟩:=ru;exact xJ (xY (by decide) ty_list ZPz) fin
     |str b=>
      cases ht;cases hk'
      cases(show v=_ from h1)
      obtain⟨tk,rfl⟩:=ru;exact xJ (xj (by decide) ty_list ZMW) fin
     |tup b=>
      cases ht;cases hk';obtain⟨p,ws,rfl,hq,_⟩:=h1;cases ru;rw[hk]at hq;obtain⟨its,_,pl,_⟩:=I.tuple hq;exact xJ (xk (by decide) ty_list ZLI) ⟨(let⟨o,e,c,_⟩:=pl;⟨o,e,c⟩),fin⟩
     |fl b=>
      cases ht;cases hk';obtain⟨p,ws,rfl,hq,_⟩:=h1;cases ru;have hq:=hq.sq;rw[hk]at hq;obtain⟨its,_,pl,_⟩:=I.list hq;exact Ox (Tx:="list") pl.isList.typeIs ty_list ZIU fin0
     |ref b=>
      unfold tyD at ht;dsimp only at ht;split at ht
      ·rename_i xs hx;cases ht;cases hk';obtain⟨ws,e1,_⟩:=sm.lst hx;cases h1.2;cases ru;obtain⟨its,_,pl,_⟩:=I.list (.of e1);exact Ox (Tx:="list") pl.isList.typeIs ty_list ZIU fin0
      ·cases ht
     |ty n=>cases ht
    ·cases hk'
   ·exact q.elim
  ·exact q.elim
 ·exact q.elim
end
noncomputable def G7:List D->Option (List Int)
 |[]=>vZ []
 |.int i::r=>(G7 r).map (i::·)
 |_=>vJ
noncomputable def Jg:List D->Option (List Bool)
 |[]=>vZ []
 |.bl i::r=>(Jg r).map (i::·)
 |_=>vJ
@[simp]theorem ZHB(ns:List Int):G7 (ns.map D.int)=vZ ns:=by
 induction ns with
 |nil=>rfl
 |cons n ns ih=>simp[G7,ih]
@[simp]theorem ZR1(ns:List Bool):Jg (ns.map D.bl)=vZ ns:=by
 induction ns with
 |nil=>rfl
 |cons n ns ih=>simp[Jg,ih]
theorem Qz:∀{xs:List D}{ns:List Int},G7 xs=vZ ns->xs=ns.map D.int
 |[],ns,h=>by cases h;rfl
 |.int i::r,ns,h=>by simp only[G7,zA]at h;obtain⟨ms,h1,rfl⟩:=h;rw[zz,Qz h1]
 |.non::r,ns,h=>by simp[G7]at h
 |.bl _::r,ns,h=>by simp[G7]at h
 |.str _::r,ns,h=>by simp[G7]at h
 |.ty _::r,ns,h=>by simp[G7]at h
 |.tup _::r,ns,h=>by simp[G7]at h
 |.fl _::r,ns,h=>by simp[G7]at h
 |.ref _::r,ns,h=>by simp[G7]at h
theorem ZFY:∀{xs:List D}{ns:List Bool},Jg xs=vZ ns->xs=ns.map D.bl
 |[],ns,h=>by cases h;rfl
 |.bl i::r,ns,h=>by simp only[Jg,zA]at h;obtain⟨ms,h1,rfl⟩:=h;rw[zz,ZFY h1]
 |.non::r,ns,h=>by simp[Jg]at h
 |.int _::r,ns,h=>by simp[Jg]at h
 |.str _::r,ns,h=>by simp[Jg]at h
 |.ty _::r,ns,h=>by simp[Jg]at h
 |.tup _::r,ns,h=>by simp[Jg]at h
 |.fl _::r,ns,h=>by simp[Jg]at h
 |.ref _::r,ns,h=>by simp[Jg]at h
def Lh(ds:List D)(G:DH):R D:=match ds with
 | [d]=>match Ei d G with
  |some xs=>match G7 xs with
   |some ns=>.ok (.int ns.sum) G
   |none=>.bad
  |none=>.bad
 |_=>.bad
def Pn(ds:List D)(G:DH):R D:=match ds with
 | [d]=>match Ei d G with
  |some xs=>match Jg xs with
   |some ns=>.ok (.bl (ns.all id)) G
   |none=>.bad
  |none=>.bad
 |_=>.bad
section
variable{X:Cx}{E:XK}{vQ:List (jD×Obj)}{σ:St}{s:jM}{H:Hp}
theorem Xa(I:Inv X vQ σ H s)(hc:X.calm=vX)(h:SqL X.K H p vs∨SqT X.K H p vs){E':jO->jM->Prop}{Q:jO->jM->Prop}
  (hQ:∀(it:jD)(fp wr:List jD)(its:List jO)(St:Nat->Heap->Prop)(s₂:jM),Vals vs its->Walks X.prog X.w X.A.in1 it fp wr its.toArray.size (λi v=>its.toArray[i]?=vZ v) St->St 0 s₂.heap->(∀b∈fp,b<s₂.heap.objs.size)->
   (∀h' tk,(∀b o,b∉wr->s₂.heap.get? b=vZ o->h'.get? b=vZ o)->Inv X vQ σ H {s₂ with heap:=h',toks:=tk})->Q (.ref it) s₂):
  xG (xA X.prog X.w) X.A.in1 (pyIter (.ref p)) Q E' s:=by
 have hh:X.A.in1.handled=vJ:=I.ok.hd hc;rcases h with h|h
 ·obtain⟨its,r,pl,hz⟩:=I.list h;refine wpAny_pyIter_list pl.isList ?_;have hp:p<s.heap.objs.size:=by obtain⟨o,e,_⟩:=pl.isList;exact zj e
  refine hQ _ _ _ its _ _ r (Walks.list hh _ p (zL hp) its.toArray) ⟨⟨_,zI _ rfl,rfl,rfl⟩,?_⟩ (λb hb=>?_) λh' tk kk=>?_
  ·obtain⟨o,e,c⟩:=pl.isList;exact⟨o,zJ _ e,c⟩
  ·show b<(s.heap.push _).objs.size;rw[jB];rcases zq.mp hb with rfl|hb
   ·exact qY _
   ·have e:b=p:=by simpa using hb
    subst e;exact Nat.lt_succ_of_lt hp
  ·refine I.kept λb o e=>kk b o (λhb=>?_) (zJ _ e)
   have e2:b=s.heap.objs.size:=by simpa using hb
   subst e2;exact absurd (zj e) (zN _)
 ·obtain⟨its,r,pl,hz⟩:=I.tuple h
  refine wpAny_pyIter_tuple (show s.heap.IsTuple p its.toArray from pl) ?_
  have hp:p<s.heap.objs.size:=by obtain⟨o,e,_⟩:=pl;exact zj e
  refine hQ _ _ _ its _ _ r (Walks.tuple hh _ p (zL hp) its.toArray) ⟨⟨_,zI _ rfl,rfl,rfl⟩,?_⟩ (λb hb=>?_) λh' tk kk=>?_
  ·obtain⟨o,e,c⟩:=pl;exact⟨o,zJ _ e,c⟩
  ·show b<(s.heap.push _).objs.size;rw[jB];rcases zq.mp hb with rfl|hb
   ·exact qY _
   ·have e:b=p:=by simpa using hb
    subst e;exact Nat.lt_succ_of_lt hp
  ·refine I.kept λb o e=>kk b o (λhb=>?_) (zJ _ e)
   have e2:b=s.heap.objs.size:=by simpa using hb
   subst e2;exact absurd (zj e) (zN _)
theorem ZJj(ns:List Int):∀n,n<=ns.length->preSum (λi=>ns.getD i 0) n=(ns.take n).sum
 |0,_=>by simp[preSum]
 |n+1,h=>by have hn:n<ns.length:=h;rw[preSum,ZJj ns n (by lia),List.take_succ_eq_append_getElem hn,List.sum_append];simp[hn]
theorem ZAV:∀{ns:List Int}{vs:List V},Reps a (ns.map D.int) vs->vs=ns.map V.int
 |[],vs,h=>h
 |n::ns,vs,h=>by
  obtain⟨v,r,e,h1,h2⟩:=h
  cases(show v=V.int n from h1)
  rw[e,ZAV h2]
  rfl
theorem ZIo:∀{ns:List Bool}{vs:List V},Reps a (ns.map D.bl) vs->vs=ns.map V.bl
 |[],vs,h=>h
 |n::ns,vs,h=>by
  obtain⟨v,r,e,h1,h2⟩:=h
  cases(show v=V.bl n from h1)
  rw[e,ZIo h2]
  rfl
theorem ZCv(hc:X.calm=vX):CallR X (.builtin "sum") (lRn X.K E Lh):=by
 intro vQ s σ H vs us Q I rs h;obtain⟨a,G,ds,hk,rfl,sm,r,q⟩:=h;unfold Lh at q;split at q
 ·rename_i d;obtain⟨v,rfl,rv⟩:=reps1 r;split at q
  ·rename_i xs hs;split at q
   ·rename_i ns hn;cases Qz hn;obtain⟨p,ws,rfl,h1,r1⟩:=M5 sm rv hs;cases ZAV r1;rw[hk]at h1;obtain⟨u,rfl,ru⟩:=vals1 rs;cases ru;refine call_sum_walkG (Xa I hc h1 λit fp wr its St s₂ hv W st hfp fin=>⟨it,fp,wr,its.toArray.size,_,St,λi=>ns.getD i 0,rfl,W,st,hfp,λi w hw=>?_,λh' tk t' kk=>?_⟩)
    ·have hw':its[i]?=vZ w:=by simpa using hw
     have hl:i<(ns.map V.int).length:=by rw[hv.length];exact(zX.mp hw').1
     have hl':i<ns.length:=by simpa using hl
     obtain⟨u,hu,ru⟩:=hv.get (i:=i) (x:=V.int ns[i]) (by simp[hl']);rw[hw']at hu;cases hu;obtain⟨t,rfl⟩:=ru;exact⟨t,by simp[hl']⟩
    ·refine⟨.int ns.sum,a.H,fin h' tk kk,⟨t',?_⟩,q a _ (Ext.refl a) sm rfl⟩;have hl:its.toArray.size=ns.length:=by rw[zK,<-hv.length];simp
     rw[hl,ZJj ns ns.length (zx _),jW]
   ·exact q.elim
  ·exact q.elim
 ·exact q.elim
theorem all_range(ns:List Bool):(zy ns.length).all (λi=>ns.getD i vX)=ns.all id:=by
 rw[Bool.eq_iff_iff,qJ,qJ];constructor
 ·intro h b hb;obtain⟨i,hi,rfl⟩:=jq hb;simpa[hi]using h i (q9.mpr hi)
 ·intro h i hi;have hi':i<ns.length:=q9.mp hi;simpa[hi']using h ns[i] (qB hi')
theorem ZHi(hc:X.calm=vX):CallR X (.builtin "all") (lRn X.K E Pn):=by
 intro vQ s σ H vs us Q I rs h;obtain⟨a,G,ds,hk,rfl,sm,r,q⟩:=h;unfold Pn at q;split at q
 ·rename_i d;obtain⟨v,rfl,rv⟩:=reps1 r;split at q
  ·rename_i xs hs;split at q
   ·rename_i ns hn;cases ZFY hn;obtain⟨p,ws,rfl,h1,r1⟩:=M5 sm rv hs;cases ZIo r1;rw[hk]at h1;obtain⟨u,rfl,ru⟩:=vals1 rs;cases ru;refine call_all_walk (Xa I hc h1 λit fp wr its St s₂ hv W st hfp fin=>⟨it,fp,wr,its.toArray.size,_,St,λi=>ns.getD i vX,rfl,W,st,λi w s' Q' E' hw hQ'=>?_,λh' tk kk=>?_⟩)
    ·have hw':its[i]?=vZ w:=by simpa using hw
     have hl:i<(ns.map V.bl).length:=by rw[hv.length];exact(zX.mp hw').1
     have hl':i<ns.length:=by simpa using hl
     obtain⟨u,hu,ru⟩:=hv.get (i:=i) (x:=V.bl ns[i]) (by simp[hl']);rw[hw']at hu;cases hu;cases ru;refine xS ?_;simpa[hl']using hQ'
    ·refine⟨.bl (ns.all id),a.H,fin h' tk kk,?_,q a _ (Ext.refl a) sm rfl⟩;have hl:its.toArray.size=ns.length:=by rw[zK,<-hv.length];simp
     rw[hl,all_range]
     rfl
   ·exact q.elim
  ·exact q.elim
 ·exact q.elim
end
section
variable{X:Cx}{vQ:List (jD×Obj)}{σ:St}{H:Hp}{s:jM}
theorem ZFd{a:jD}{o:HO}(I:Inv X vQ σ H s)(hn:H a=vJ)(hy:X.s₀.heap.objs.size<=a)(hL:a≠X.env.locals)(hc:∀x c,X.env.cells.lookup x=vZ c->c≠a)(hp:∀p∈X.pn++vQ,p.1≠a)
  (new:ObjOk X.prog X.w (upd H a o) s.heap a o):Inv X vQ σ (upd H a o) s:=by
 have ne:∀b u,H b=vZ u->b≠a:=λb u e z=>by rw[z,hn]at e;cases e
 refine⟨I.ok,I.os,I.bare,⟨I.base.keep,I.base.slot,λb ob q n hx=>?_,I.base.there,λb xs q=>?_,λb ob u q=>?_,λb ps q=>?_⟩,I.loc,I.cell,?_,λx c e=>?_,λp hp'=>?_,λb u e=>?_,I.len⟩
 ·rw[Bu (zL (zW (zj q) hy))];exact I.base.free b ob q n hx
 ·have:=I.base.tups b xs q;rw[Bu (ne _ _ this)];exact this
 ·have:=I.base.frzs b ob u q;rw[Bu (ne _ _ this)];exact this
 ·obtain⟨more,this⟩:=I.base.tbls b ps q;exact⟨more,by rw[Bu (ne _ _ this)];exact this⟩
 ·rw[Bu (Ne.symm hL)];exact I.free
 ·rw[Bu (hc x c e)];exact I.Iz x c e
 ·obtain⟨e1,e2,e3⟩:=I.pin p hp';exact⟨e1,by rw[Bu (hp p hp')];exact e2,e3⟩
 ·by_cases hb:b=a
  ·subst hb;rw[Jt]at e;cases e;exact new
  ·rw[Bu hb]at e;exact(I.hok b u e).stay (λ_ _ _ q=>q) (λc q=>by rw[Bu (ne _ _ q)];exact q) λc xs q=>by rw[Bu (ne _ _ q)];exact q
end
noncomputable def Fo(env:Env):List (Str×jH)->List (Str×jD)->List (Str×jD)
 |[],cs=>cs
 |(n,k)::r,cs=>if(k==NameKind.free)=vX then Fo env r ((n,(env.cells.lookup n).getD 0)::cs)else Fo env r cs
theorem ZHT(h:∀y∈scope.names,y.2=.free->∃c,env.cells.lookup y.1=vZ c):closureFor scope env=pure (Fo env scope.names []):=by
 unfold closureFor;obtain⟨kind,names,g1,g2⟩:=scope;have key:∀(names:List (Str×jH))(cs:List (Str×jD)),(∀y∈names,y.2=.free->∃c,env.cells.lookup y.1=vZ c)->
   (forIn names cs (λx r=>match x with
    |(name,kind)=>if(kind==NameKind.free)=vX then(do let c<-cellOf env name;pure (ForInStep.yield ((name,c)::r)))else pure (ForInStep.yield r)):Sem (List (Str×jD)))=pure (Fo env names cs):=by
  intro names
  induction names with
  |nil=>intro cs _;rfl
  | cons y r ih=>
   intro cs hy;obtain⟨n,k⟩:=y;rw[List.forIn_cons];by_cases hk:(k==NameKind.free)=vX
   ·obtain⟨c,hc⟩:=hy (n,k) z8 (by simpa using hk)
    have e1:cellOf env n=pure c:=by unfold cellOf;rw[show env.cells.lookup n=vZ c from hc]
    have e2:Fo env ((n,k)::r) cs=Fo env r ((n,c)::cs):=by rw[Fo,if_pos hk,show env.cells.lookup n=vZ c from hc];rfl
    rw[e2,<-ih ((n,c)::cs) λy' hy'=>hy y' (zY _ hy')];simp only[hk,if_true,e1]
    rfl
   ·have e2:Fo env ((n,k)::r) cs=Fo env r cs:=by rw[Fo,if_neg hk]
    rw[e2,<-ih cs λy' hy'=>hy y' (zY _ hy')];simp only[hk]
    rfl
 have:=key names [] h;exact congrArg (λm:Sem (List (Str×jD))=>m >>=λr=>pure r) this
theorem ZEO:∀{names:List (Str×jH)}{cs:List (Str×jD)},(∀y∈names,y.2=.free->∃c,env.cells.lookup y.1=vZ c)->(∀p∈cs,env.cells.lookup p.1=vZ p.2)->∀p∈Fo env names cs,env.cells.lookup p.1=vZ p.2
 |[],cs,_,hc,p,hp=>hc p hp
 | (n,k)::r,cs,hn,hc,p,hp=>by
  rw[Fo]at hp;split at hp
  ·rename_i hk;obtain⟨c,e⟩:=hn (n,k) z8 (by simpa using hk);refine ZEO (λy hy=>hn y (zY _ hy)) (λq hq=>?_) p hp;rcases zq.mp hq with rfl|hq
   ·rw[show env.cells.lookup n=vZ c from e];rfl
   ·exact hc q hq
  ·exact ZEO (λy hy=>hn y (zY _ hy)) hc p hp
theorem Vr:∀{names:List (Str×jH)}{cs:List (Str×jD)},((x,.free)∈names∨∃c,(x,c)∈cs)->∃c,(x,c)∈Fo env names cs
 |[],cs,h=>by
  rcases h with h|h
  ·cases h
  ·exact h
 | (n,k)::r,cs,h=>by
  rw[Fo];split
  ·refine Vr ?_;rcases h with h|⟨c,h⟩
   ·rcases zq.mp h with e|h
    ·cases e;exact .inr ⟨_,z8⟩
    ·exact .inl h
   ·exact .inr ⟨c,zY _ h⟩
  ·rename_i hk;refine Vr ?_;rcases h with h|h
   ·rcases zq.mp h with e|h
    ·cases e;exact absurd rfl hk
    ·exact .inl h
   ·exact .inr h
theorem ZFL{c:jD}:∀{l:List (Str×jD)},(x,c)∈l->∃d,l.lookup x=vZ d
 |[],h=>by cases h
 | (y,d)::l,h=>by
  by_cases e:x=y
  ·subst e;exact⟨d,by simp⟩
  ·rcases zq.mp h with z|h
   ·cases z;exact absurd rfl e
   ·obtain⟨d',q⟩:=ZFL h;exact⟨d',by rw[qM,beq_eq_false_iff_ne.mpr e];exact q⟩
theorem ZJI(x:Str):(relabel scope env).names.lookup x=(scope.names.lookup x).map λk=>if(k==NameKind.free&&env.scope.kind == .function&&env.kindOf x==vZ .cell)=vX then .cell else k:=by
 unfold relabel;generalize scope.names=l
 induction l with
 |nil=>rfl
 | cons y r ih=>
  obtain⟨n,k⟩:=y;by_cases e:x=n
  ·subst e;simp only[zz]
   cases hc:(k==NameKind.free&&env.scope.kind==ScopeKind.function&&env.kindOf x==vZ NameKind.cell) <;>
    simp only[hc,if_true,qM,beq_self_eq_true,j9,Bool.false_eq_true,if_false]
  ·have hb:(x==n)=vV:=beq_eq_false_iff_ne.mpr e;simp only[zz];split
   ·rw[qM,qM,hb];exact ih
   ·rw[qM,qM,hb];exact ih
def blk(X:Cx)(N:List Str)(scope:jL)(C:jD)(s₀:jM)(H₀:Hp)(ex:List jD):Cx where
 prog:=X.prog
 w:=X.w
 K:=X.K
 mg:=X.mg
 base:=X.base
 A:=X.A
 N:=N
 s₀:=s₀
 H₀:=H₀
 env:=compEnvC scope (Fo X.env scope.names []) C X.env
 outer:=X.stack
 stack:=X.stack
 ex:=ex
 fn:=λ_=>vV
 calm:=X.calm
 pn:=[]
 xe:=λ_ _=>False
structure CompSc (X:Cx) (N:List Str) (scope:jL) (nt:Nat) (caps:List Nat):Prop where
 kind:scope.kind=.function
 names:∀y∈scope.names,y.2=.local->scope.names.lookup y.1=vZ .local
 nocell:∀y∈scope.names,y.2≠ .cell
 free:∀y∈scope.names,y.2=.free->X.env.kindOf y.1=vZ .cell∨X.env.kindOf y.1=vZ .free
 nd:N.Nodup
 len:N.length=nt+caps.length
 cap:∀(k j:Nat),caps[k]?=vZ j->∃x,X.N[j]?=vZ x/\N[nt+k]?=vZ x/\scope.names.lookup x=vZ .free
section
variable{X:Cx}{vQ:List (jD×Obj)}{σ:St}{H:Hp}{s:jM}{N:List Str}{scope:jL}{nt:Nat}{caps:List Nat}
theorem CompSc.cells(c:CompSc X N scope nt caps)(ok:X.Ok):∀y∈scope.names,y.2=.free->∃c,X.env.cells.lookup y.1=vZ c:=λy hy hk=>ok.has y.1 (c.free y hy hk)
theorem CompSc.cl(c:CompSc X N scope nt caps)(ok:X.Ok){d:jD}(h:(Fo X.env scope.names []).lookup x=vZ d):X.env.cells.lookup x=vZ d:=
 ZEO (c.cells ok) (λp hp=>by cases hp) (x,d) (PySem.mem_of_lookup h)
theorem ZMa(c:CompSc X N scope nt caps)(I:Inv X vQ σ H s){fp:List jD}(hf:∀b∈fp,FpOk X vQ H b){C:jD}(hC:s.heap.objs.size<=C)(hCf:C∉fp):(blk X N scope C s H fp).Ok where
 mod:=I.ok.mod
 kind:=c.kind
 glob:=I.ok.glob
 blt:=I.ok.blt
 above:=hC
 inj:=λx y d h1 h2=>I.ok.inj x y d (c.cl I.ok h1) (c.cl I.ok h2)
 has:=λx h=>by
  have h':(relabel scope X.env).names.lookup x=vZ .cell∨(relabel scope X.env).names.lookup x=vZ .free:=h;rw[ZJI]at h';have hfree:scope.names.lookup x=vZ .free:=by
   cases e:scope.names.lookup x with
   |none=>rw[e]at h';rcases h' with h'|h'<;>cases h'
   |some k=>
    rw[e]at h';cases k with
    |free=>rfl
    |cell=>exact absurd rfl (c.nocell _ (PySem.mem_of_lookup e))
    |_=>rcases h' with h'|h'<;>(simp at h')
  obtain⟨d,hd⟩:=Vr (env:=X.env) (x:=x) (names:=scope.names) (cs:=[]) (.inl (PySem.mem_of_lookup hfree));exact ZFL hd
 cab:=λx d h=>by cases h
 hd:=I.ok.hd
 frames:=I.ok.frames
 stk:=.inl rfl
 exf:=λb hb=>⟨λz=>hCf (by rw[<-show b=C from z];exact hb),λx d h=>(hf b hb).2.2.2.2.1 x d (c.cl I.ok h)⟩
 bs:=I.bs
 bsz:=z9 I.ok.bsz I.sz
 noex:=λb o e hb=>by
  rcases(hf b hb).2.2.2.1 with h|h
  ·exact I.ok.noex b o e h
  ·exact absurd (zW (zj (I.ok.bs b o e).1) h) (zN _)
 exfs:=λb hb hz=>by
  rcases zq.mp (I.Vf b hz)with z|z
  ·exact(hf b hb).2.1 z
  ·exact(hf b hb).2.2.1 z
 funs:=I.stack
 frf:=I.Wr
end
def Cw(g:DG)(c:DB)(te:DE)(S:DSt):List D->DH->R (List D)
 |[],G=>.ok [] G
 | x::xs,G=>(g x S G).bind λS1 G1=>(c S1 G1).bind λk G2=>
   if k=vX then(te S1 G2).bind λd G3=>(Cw g c te S xs G3).bind λds G4=>.ok (d::ds) G4 else Cw g c te S xs G2
def Ip(i:Nat)(g:DG)(c:DB)(te:DE)(S:DSt):Nat->Nat->DH->R (List D)
 |0,j,G=>match G[i]? with
  |some (.lst xs)=>if xs.length<=j then .ok [] G else .bad
  |_=>.bad
 | n + 1,j,G=>match G[i]? with
  |some (.lst xs)=>match xs[j]? with
   | some x=>(g x S G).bind λS1 G1=>(c S1 G1).bind λk G2=>
     if k=vX then(te S1 G2).bind λd G3=>(Ip i g c te S n (j+1) G3).bind λds G4=>.ok (d::ds) G4 else Ip i g c te S n (j+1) G2
   |none=>.ok [] G
  |_=>.bad
def G8(f:Nat->DH->Option (Option D))(g:DG)(c:DB)(te:DE)(S:DSt):Nat->Nat->DH->R (List D)
 |0,j,G=>match f j G with
  |some vJ=>.ok [] G
  |_=>.bad
 | n + 1,j,G=>match f j G with
  |some (vZ x)=>(g x S G).bind λS1 G1=>(c S1 G1).bind λk G2=>
     if k=vX then(te S1 G2).bind λd G3=>(G8 f g c te S n (j+1) G3).bind λds G4=>.ok (d::ds) G4 else G8 f g c te S n (j+1) G2
  |some vJ=>.ok [] G
  |none=>.bad
noncomputable def Bx(nt:Nat)(caps:List Nat)(S:DSt):DSt:=zk nt vJ++caps.map λj=>(S[j]?).join
def Ed(it:DI)(nt:Nat)(caps:List Nat)(g:DG)(c:DB)(te:DE):DE:=λS G=>(it S G).bind λJ G1=>(match J with
 |.pure xs=>Cw g c te (Bx nt caps S) xs G1
 |.mt i=>match G1[i]? with
  |some (.lst xs)=>Ip i g c te (Bx nt caps S) xs.length 0 G1
  |_=>.bad
 |.fn n f=>G8 f g c te (Bx nt caps S) n 0 G1).bind Bb
noncomputable def Cu:DB:=λ_ G=>.ok vX G
def GK(nt:Nat)(g:DG):Prop:=∀d S G S1 G1,g d S G=.ok S1 G1->∀i e,nt<=i->S[i]?=vZ (vZ e)->S1[i]?=vZ (vZ e)
def GKs(nt:Nat)(g:DGs):Prop:=∀d S G S1 G1,g d S G=.ok S1 G1->∀i e,nt<=i->S[i]?=vZ (vZ e)->S1[i]?=vZ (vZ e)
theorem Dr(h:i<nt):GK nt (gV i):=λd S G S1 G1 e j x hj hx=>by cases e;rw[qk (by lia)];exact hx
theorem Rf:GKs nt Ds:=λd S G S1 G1 e j x hj hx=>by
 cases d with
 |nil=>cases e;exact hx
 |cons _ _=>cases e
theorem Hz{t:DG}{u:DGs}(h1:GK nt t)(h2:GKs nt u):GKs nt (Bq t u):=λd S G S1 G1 e j x hj hx=>by
 cases d with
 |nil=>cases e
 |cons a r=>
  have e':(t a S G).bind (λS1 G1=>u r S1 G1)=.ok S1 G1:=e;cases ht:t a S G with
  |ok S2 G2=>rw[ht]at e';exact h2 _ _ _ _ _ e' j x hj (h1 _ _ _ _ _ ht j x hj hx)
  |err _ _=>rw[ht]at e';cases e'
  |bad=>rw[ht]at e';cases e'
theorem R4{n:Nat}{t:DGs}(h:GKs nt t):GK nt (Dn n t):=λd S G S1 G1 e j x hj hx=>by
 cases d with
 |tup ds=>
  unfold Dn at e;dsimp only at e;split at e
  ·exact h _ _ _ _ _ e j x hj hx
  ·cases e
 |_=>cases e
theorem ZLM{r:R DSt}{f:DSt->DH->R D}(h:out E a (r.bind f) Q):
  G9 E a r (λσ H=>∃(b:Wd)(S:DSt)(G:DH),b.H=H/\Ext a b/\Sim b G/\RepS b S σ/\r=.ok S G/\out E b (f S G) Q):=by
 cases r with
 |ok d G=>exact λb v x s q=>⟨b,d,G,rfl,x,s,q,rfl,out.mono x h⟩
 |err e G=>exact h
 |bad=>exact h
theorem R.bind_assoc{γ:Type}(r:R α)(f:α->DH->R β)(g:β->DH->R γ):(r.bind f).bind g=r.bind λa G=>(f a G).bind g:=by cases r<;>rfl
theorem ZGV{r:R ItD}{f:ItD->DH->R D}(h:out E a (r.bind f) Q):
  outI E a r (λJ H=>∃(b:Wd)(d:ItD)(G:DH),b.H=H/\Ext a b/\Sim b G/\RepI b d J/\r=.ok d G/\out E b (f d G) Q):=by
 cases r with
 |ok d G=>exact λb v x s q=>⟨b,d,G,rfl,x,s,q,rfl,out.mono x h⟩
 |err e G=>exact h
 |bad=>exact h
section
variable{prog:jI}{w:jP}{A:jE}{R':Result->jM->Prop}{s:jM}
theorem ZM4{elt target iter:jF}{ifs:List jF}{scope:jL}{pos:Pos}{it acc:jO}{env:Env}(I:Nat->jM->Prop)
  (turn:∀n s,I n s->xG (xA prog w) A (pyNext it) (λr s₁=>match r with
   |none=>R' (.ok .next) s₁
   | some v=>xG (xA prog w) A (xy target it v) (λ_ s₁=>xG (xA prog w) A (assign target env v) (λ_ s₂=>
     xG (xA prog w) A (forIn ifs vX λc r=>if r=vX then do let ok<-isTrue c env (eval c env);pure (ForInStep.yield ok)else pure (ForInStep.yield r)) (λok s₃=>
      if ok=vX then xG (xA prog w) A (eval elt env) (λx s₄=>
       xG (xA prog w) A (call (.builtin "list.append") [acc,x]) (λ_ s₅=>∃m,m<n/\I m s₅) (λ_ _=>False) s₄) (λ_ _=>False) s₃
      else∃m,m<n/\I m s₃) (λ_ _=>False) s₂) (λ_ _=>False) s₁) (λ_ _=>False) s₁) (λ_ _=>False) s)
  (n:Nat) (h:I n s):
  codeAny (xA prog w) A (.compLoop (.ListComp elt [⟨target,iter,ifs,0⟩] scope pos) 0 it acc env) R' s:=by
 refine codeAny_loop rfl I (λn s hI=>?_) n h
 show xG _ A ((compTurn (.ListComp elt [⟨target,iter,ifs,0⟩] scope pos) 0 it acc env).onRaise (λx=>do noteFrame x env;theTreesLotGoes x)) _ _ s
 refine wpAny_noted ?_;rw[compTurn_list];refine xN ?_ (λ_ _ q=>q) (λ_ _(f:False)=>f.elim);refine xI (wpAny_standAt (xI (xN (turn n s hI) (λr s₁ h₁=>?_) λ_ _ h'=>h')));cases r with
 |none=>exact xR h₁
 | some v=>
  refine xI (xN h₁ (λ_ s₂' h₁=>?_) λ_ _ h'=>h');refine xI (xN h₁ (λ_ s₂ h₂=>xI (xN h₂ (λok s₃ h₃=>?_) λ_ _ h'=>h')) λ_ _ h'=>h');cases ok with
  |false=>exact xR ⟨rfl,h₃⟩
  |true=>
   exact xI (xI (xN h₃ (λx s₄ h₄=>xI (xN h₄ (λ_ s₅ h₅=>xR (xR ⟨rfl,h₅⟩)) λ_ _ h'=>h')) λ_ _ h'=>h'))
end
def QTs(X:Cx)(E:XK)(ifs:List jF)(t:DB):Prop:=
 ∀(vQ:List (jD×Obj))(s:jM)(σ:St)(H:Hp)(Q:Bool->Hp->Prop),Inv X vQ σ H s->lB X.K E t σ H Q->
  xG (xA X.prog X.w) X.A (forIn ifs vX λc r=>if r=vX then do let ok<-isTrue c X.env (eval c X.env);pure (ForInStep.yield ok)else pure (ForInStep.yield r)) (TP X vQ σ Q) X.xe s
theorem Hv:QTs X E [] Cu:=λvQ s σ H Q I h=>by obtain⟨a,S,G,hk,rfl,sm,r,h⟩:=h;exact wpAny_tests_nil ⟨a.H,I,h a (Ext.refl a) sm⟩
theorem Qt{c:jF}{t:DB}(hc:QT X E c t):QTs X E [c] t:=λvQ s σ H Q I h=>wpAny_tests_one (hc vQ s σ H Q I h)
section
variable{X:Cx}{E:XK}{N:List Str}{scope:jL}{nt:Nat}{caps:List Nat}{tg elt iter:jF}{ifs:List jF}{pos:Pos}{it:DI}{g:DG}{c:DB}{te:DE}
theorem ZO3(r:RepS a S σ):RepS a (Bx nt caps S) (zk nt vJ++caps.map λj=>(σ[j]?).join):=by
 refine⟨by simp[Bx],λi d h=>?_⟩;unfold Bx at h;by_cases hi:i<nt
 ·rw[zS (by simpa using hi),qG]at h
  split at h<;>cases h
 ·rw [zG (by simpa using hi),zw]at h;rw[zG (by simpa using hi),zw];rw[qN]at h⊢;cases e:caps[i-nt]? with
  |none=>rw[e]at h;cases h
  | some j=>
   rw[e]at h;have h1:(S[j]?).join=vZ d:=by simpa using h
   have h2:S[j]?=vZ (vZ d):=by
    cases q:S[j]? with
    |none=>rw[q]at h1;cases h1
    |some o=>
     rw[q]at h1;have h1':o=vZ d:=h1;rw[h1']
   obtain⟨v,ev,rv⟩:=r.get j d h2;exact⟨v,by simp[ev],rv⟩
theorem ZQe(h:(Bx nt caps S)[i]?=vZ (vZ d)):nt<=i:=by
 unfold Bx at h;by_cases hi:i<nt
 ·rw[zS (by simpa using hi),qG]at h
  split at h<;>cases h
 ·lia
theorem ZBZ (hc:X.calm=vX) (cs:CompSc X N scope nt caps)
  (hg:∀C s₀ H₀ ex,QG (blk X N scope C s₀ H₀ ex) E0 tg g) (gk:GK nt g) (hts:∀C s₀ H₀ ex,QTs (blk X N scope C s₀ H₀ ex) E0 ifs c) (he:∀C s₀ H₀ ex,QE (blk X N scope C s₀ H₀ ex) E0 elt te)
  {vQ:List (jD×Obj)} {σ:St} {s:jM} {a:Wd} {S:DSt} {G:DH} {J:It} {n0:Nat} {f:Nat->DH->Option (Option D)} {i0:jD} {fp:List jD} {tn:Nat->Heap->Prop} (I:Inv X vQ σ a.H s) (hk:a.K=X.K) (sm:Sim a G) (rS:RepS a S σ)
  (T:Turn X.prog X.w X.K tg J fp i0 tn) (t0:tn 0 s.heap) (hf:∀b∈fp,FpOk X vQ a.H b) (rJ:RepI a (.fn n0 f) J) {Q:VK}
  (h:out E0 a ((G8 f g c te (Bx nt caps S) n0 0 G).bind Bb) Q)
  {RR:jO->jD->Result->jM->Prop} {E':jO->jM->Prop}
  (hRR:∀(D C:jD)(s':jM)(b:Wd)(vs:List V),Inv X vQ σ (upd b.H D (.lst vs)) s'->b.H D=vJ->s.heap.objs.size<=C->D≠C->(∃m,s'.heap.Ns C m)->b.H C=vJ->Q (.ref D) (upd b.H D (.lst vs))->RR (.ref D) C (.ok .next) s'):
  xG (xA X.prog X.w) X.A (newList []) (λacc s₃=>xG (xA X.prog X.w) X.A (newFunctionEnv scope X.env.globals (Fo X.env scope.names []) [] X.env.qual vJ .none (vZ X.env)) (λcenv s₄=>
   codeAny (xA X.prog X.w) X.A (.compStart (.ListComp elt [⟨tg,iter,ifs,0⟩] scope pos) 0 (.ref i0) acc {cenv with scope:=relabel scope X.env}) (RR acc cenv.locals) s₄) E' s₃) E' s:=by
 refine xO (wpAny_newFunctionEnv cs.nocell (by intro y hy;simp at hy) (λh₁ hns₁ hsb₁=>?_) cs.kind);dsimp only at hns₁ hsb₁⊢;generalize hH2:s.heap.push {cls:=.type "list",dict:=vJ,data:=.seq ([]:List jO).toArray}=H2 at hns₁ hsb₁⊢;have hC:H2.objs.size=s.heap.objs.size+1:=by rw[<-hH2,jB]
 have hDC:s.heap.objs.size≠H2.objs.size:=by rw[hC];exact zL (qY _)
 have hCle:s.heap.objs.size<=H2.objs.size:=by rw[hC];exact qT _
 have fpOld:∀b∈fp,b<s.heap.objs.size:=λb hb=>by obtain⟨o,e,_⟩:=T.obj 0 _ t0 b hb;exact zj e
 have hDf:s.heap.objs.size∉fp:=λhm=>zN _ (fpOld _ hm)
 have hCf:H2.objs.size∉fp:=λhm=>by have:=fpOld _ hm;rw[hC]at this;exact zN _ (Nat.lt_of_succ_lt this)
 have old:∀b o,s.heap.get? b=vZ o->h₁.get? b=vZ o:=λb o e=>
  hsb₁.extBut b o (by rw[hC];exact zL (Nat.lt_succ_of_lt (zj e))) (zJ _ (hH2▸zJ _ e))
 have hacc:h₁.PlainList s.heap.objs.size ([]:List jO).toArray:=⟨_,hsb₁.extBut _ _ hDC (zJ _ (hH2▸zI _ rfl))⟩;generalize hCe:H2.objs.size=C at*;generalize hDe:s.heap.objs.size=Dd at*;let B:=blk X N scope C s a.H fp;have okB:B.Ok:=ZMa cs I hf (by rw[hDe];exact hCle) hCf;let σ0:St:=zk nt vJ++caps.map λj=>(σ[j]?).join
 have start:∀tk,Inv B [] σ0 a.H {s with heap:=h₁,toks:=tk}:=λtk=>by
  refine⟨okB,rfl,I.bare,Un.kept old,⟨_,hns₁,λi x v e1 e2 e3=>?_⟩,λx d' e=>?_,I.hok.fresh (by rw[hDe];exact hCle),λx d' e=>?_,λp hp=>?_,I.hok.kept old,?_⟩
  ·have hi:nt<=i:=by
    by_cases hi:i<nt
    ·have e2':σ0[i]?=vZ (vZ v):=e2;rw[zS (by simpa using hi),qG]at e2'
     split at e2'<;>cases e2'
    ·lia
   have e2':σ0[i]?=vZ (vZ v):=e2;rw[zG (by simpa using hi),zw,qN]at e2';cases ej:caps[i-nt]? with
   |none=>rw[ej]at e2';cases e2'
   | some j=>
    rw[ej]at e2';have h1:(σ[j]?).join=vZ v:=by simpa using e2'
    have h2:σ[j]?=vZ (vZ v):=by
     cases q:σ[j]? with
     |none=>rw[q]at h1;cases h1
     |some o=>
      rw[q]at h1;have h1':o=vZ v:=h1;rw[h1']
    obtain⟨y,ey,en,ek⟩:=cs.cap (i-nt) j ej;have exy:x=y:=by
     have:nt+(i-nt)=i:=by lia
     rw[this]at en;have e1':N[i]?=vZ x:=e1;rw[e1']at en;exact Option.some.inj en
    subst exy;have kx:=cs.free (x,.free) (PySem.mem_of_lookup ek) rfl;have vis:Vis X.env.scope x:=by
     rcases kx with kx|kx
     ·exact .inr (.inl kx)
     ·exact .inr (.inr kx)
    obtain⟨m,hn,hl⟩:=I.loc;obtain⟨u,ru,lk⟩:=hl j x v ey h2 vis;refine⟨u,ru,?_⟩;rcases lk with⟨k1,_⟩|⟨k1,c1,ec,hcell⟩
    ·rcases kx with kx|kx
     ·rw[k1]at kx;cases kx
     ·rw[k1]at kx;cases kx
    ·refine .inr ⟨?_,c1,?_,?_⟩
     ·show(relabel scope X.env).names.lookup x=vZ .cell∨(relabel scope X.env).names.lookup x=vZ .free;rw[ZJI,ek];simp only[j9];split
      ·exact .inl rfl
      ·exact .inr rfl
     ·obtain⟨d1,hd1⟩:=Vr (env:=X.env) (x:=x) (names:=scope.names) (cs:=[]) (.inl (PySem.mem_of_lookup ek));obtain⟨d2,hd2⟩:=ZFL hd1;have:=cs.cl I.ok hd2;rw[ec]at this;cases this;exact hd2
     ·obtain⟨o,e,dd⟩:=hcell;exact⟨o,old _ _ e,dd⟩
  ·obtain⟨v,o,e',dd⟩:=I.cell x d' (cs.cl I.ok e);exact⟨v,o,old _ _ e',dd⟩
  ·exact I.Iz x d' (cs.cl I.ok e)
  ·exact absurd hp (by simp[B,blk])
  ·show σ0.length=N.length;rw[cs.len];simp[σ0]
 have rS0:RepS a (Bx nt caps S) σ0:=ZO3 rS;have aD:a.H Dd=vJ:=I.hok.fresh (by rw[hDe];exact zx _);have young:∀b∈fp,b≠C:=λb hb z=>hCf (z▸hb)
 have fpB:∀{H':Hp}{ps:List (jD×Obj)},(∀b∈fp,H' b=vJ)->(∀p∈ps,p.1∉fp)->∀b∈fp,FpOk B ps H' b:=λ{H' ps}hn hps b hb=>
  ⟨hn b hb,young b hb,okB.exfs b hb,.inl hb,λx d' e=>(hf b hb).2.2.2.2.1 x d' (cs.cl I.ok e),λp hp z=>by
   have hp':p∈ps:=by simpa[B,blk]using hp
   exact hps p hp' (z▸hb)⟩
 have nstk:Dd∉frs X.stack:=λz=>by
  rcases zq.mp (I.Vf Dd z)with z|z
  ·have:=I.lt;rw[hDe,<-z]at this;exact zN _ this
  ·exact I.nofs (by rw[hDe];exact zx _) z
 have pinD:∀{σ':St}{H':Hp}{s':jM}{its:List jO}{nD:Nat},Inv B [] σ' H' s'->s'.heap.get? Dd=vZ {cls:=.type "list",data:=.seq its.toArray nD}->H' Dd=vJ->Inv B [(Dd,{cls:=.type "list",data:=.seq its.toArray nD})] σ' H' s':=λ{σ' H' s' its nD}J e n=>
  J.Mm λp hp=>by
   have ep:p=(Dd,{cls:=.type "list",data:=.seq its.toArray nD}):=by simpa using hp
   subst ep;exact⟨e,n,hDC,nstk,λv' z=>by cases z⟩
 have fin:∀(s':jM)(b:Wd)(σ':St)(its:List jO)(ds:List D)(G':DH),Inv B [] σ' b.H s'->Ext a b->Sim b G'->s'.heap.PlainList Dd its.toArray->b.H Dd=vJ->(∃vs,Vals vs its/\Reps b ds vs)->out E0 b (Bb ds G') Q->RR (.ref Dd) C (.ok .next) s':=by
  intro s' b σ' its ds G' IB x sb pl hD ⟨vs,hv,rv⟩ hq;have hz:ds.length<=1000000:=by
   unfold Bb at hq;split at hq
   ·assumption
   ·exact hq.elim
  have Ix:Inv X vQ σ b.H s':=I.call' IB.os IB.base IB.hok IB.bare λb hb=>⟨(hf b hb).2.2.2.1,(hf b hb).2.1,(hf b hb).2.2.2.2.1,(hf b hb).2.2.2.2.2⟩
  obtain⟨n,eD⟩:=pl;have ylt:∀{q:jD}{o:Obj},s.heap.get? q=vZ o->q≠Dd:=λe z=>by rw[z,<-hDe]at e;exact absurd (zj e) (zN _)
  have Ia:Inv X vQ σ (upd b.H Dd (.lst vs)) s':=by
   refine ZFd Ix hD (by rw[<-hDe];exact I.sz) ?_ (λy c' ec=>?_) (λp hp=>?_) ⟨?_,its,n,hv,eD⟩
   ·rw[<-hDe];exact Nat.ne_of_gt I.lt
   ·obtain⟨v,o,e,_⟩:=I.cell y c' ec;exact ylt e
   ·exact ylt (I.pin p hp).1
   ·rw[<-rv.length];exact z9 hz size6
  refine hRR Dd C s' b vs Ia hD hCle hDC (let⟨m,hn,_⟩:=IB.loc;⟨m,hn⟩) IB.free ?_;unfold Bb at hq;rw[if_pos hz]at hq;exact Ws sb rv hq Dd hD
 have turnX:∀(n:Nat)(P:Nat->jM->Prop)(rest:DH->R (List D))(s1:jM)(b:Wd)(G1:DH)(σ1:St)(its:List jO)(acc:List D)(u:jO)(v:V)(x:D)(i:Nat),Inv B [] σ1 b.H s1->Ext a b->Sim b G1->RepS b (Bx nt caps S) σ1->tn i s1.heap->(∀q∈fp,b.H q=vJ)->
   s1.heap.PlainList Dd its.toArray->b.H Dd=vJ->(∃vs,Vals vs its/\Reps b acc vs)->RelV v u->Rep b x v->
   out E0 b (((g x (Bx nt caps S) G1).bind λS1 G1=>(c S1 G1).bind λk G2=>if k=vX then(te S1 G2).bind λd G3=>(rest G3).bind λds G4=>.ok (d::ds) G4 else rest G2).bind λds G=>Bb (acc++ds) G) Q->
   (∀(s2:jM)(b2:Wd)(G2:DH)(σ2:St)(its2:List jO)(acc2:List D),Inv B [] σ2 b2.H s2->Ext a b2->Sim b2 G2->RepS b2 (Bx nt caps S) σ2->tn i s2.heap->(∀q∈fp,b2.H q=vJ)->
    s2.heap.PlainList Dd its2.toArray->b2.H Dd=vJ->(∃vs,Vals vs its2/\Reps b2 acc2 vs)->out E0 b2 ((rest G2).bind λds G=>Bb (acc2++ds) G) Q->∃m,m<n/\P m s2)->
   xG (xA X.prog X.w) X.A (assign tg B.env u) (λ_ s₂=>
     xG (xA X.prog X.w) X.A (forIn ifs vX λc r=>if r=vX then do let ok<-isTrue c B.env (eval c B.env);pure (ForInStep.yield ok)else pure (ForInStep.yield r)) (λok s₃=>
      if ok=vX then xG (xA X.prog X.w) X.A (eval elt B.env) (λx s₄=>
       xG (xA X.prog X.w) X.A (call (.builtin "list.append") [.ref Dd,x]) (λ_ s₅=>∃m,m<n/\P m s₅) (λ_ _=>False) s₄) (λ_ _=>False) s₃
      else∃m,m<n/\P m s₃) (λ_ _=>False) s₂) (λ_ _=>False) s1:=by
  intro n P rest s1 b G1 σ1 its acc u v x i I1 x1 sb rSb t1 hfp pl hD hacc' ru rx hq next
  rw[R.bind_assoc]at hq;obtain⟨nD,eD⟩:=id pl;let pinD:List (jD×Obj):=[(Dd,{cls:=.type "list",data:=.seq its.toArray nD})];have pinOk:∀{σ':St}{H':Hp}{s':jM},Inv B (pinD++Qm fp s1.heap) σ' H' s'->s'.heap.PlainList Dd its.toArray/\H' Dd=vJ/\tn i s'.heap/\∀q∈fp,H' q=vJ:=λ{σ' H' s'}J=>by
   have p1:=J.pin (Dd,{cls:=.type "list",data:=.seq its.toArray nD}) (zD _ (j8 _ (by simp[pinD])));refine⟨⟨nD,p1.1⟩,p1.2.1,T.keep _ _ _ t1 λq hq' o e=>(J.pin (q,o) (zD _ (zD _ (Zy hq' e)))).1,λq hq'=>?_⟩;obtain⟨o,e,_⟩:=T.obj _ _ t1 q hq';exact(J.pin (q,o) (zD _ (zD _ (Zy hq' e)))).2.1
  have I2:Inv B (pinD++Qm fp s1.heap) σ1 b.H s1:=I1.Mm λp hp=>by
   rcases zM.mp hp with hp|hp
   ·have e:p=(Dd,{cls:=.type "list",data:=.seq its.toArray nD}):=by simpa[pinD]using hp
    subst e;refine⟨eD,hD,hDC,λz=>?_,λv' z=>by cases z⟩;exact nstk z
   ·obtain⟨hb,e⟩:=ZIA hp;obtain⟨f0,f1,f2,_⟩:=fpB (ps:=[]) hfp (λp hp=>by cases hp) p.1 hb;obtain⟨o,e',dd⟩:=T.obj _ _ t1 p.1 hb;rw[e]at e';cases e';exact⟨e,f0,f1,f2,dd⟩
  refine thn (hg C s a.H fp _ s1 σ1 b.H v u _ I2 ru ⟨b,Bx nt caps S,G1,x,x1.k.trans hk,rfl,sb,rSb,rx,(ZLM hq).imp λ_ _ z=>z⟩) ?_;rintro _ s2 ⟨σ2,H2',J2,b2,S2,G2,rfl,y2,sb2,rS2,eg,hq2⟩;rw[R.bind_assoc]at hq2;have rS2':RepS b2 (Bx nt caps S) σ2:=⟨by have h1:=J2.len;have h2:σ1.length=N.length:=I1.len;rw[rSb.len,h2];exact h1.symm,λj e' hj=>rS2.get j e' (gk _ _ _ _ _ eg j e' (ZQe hj) hj)⟩
  refine thn (hts C s a.H fp _ s2 σ2 b2.H _ J2 ⟨b2,S2,G2,y2.k.trans (x1.k.trans hk),rfl,sb2,rS2,(ZLb hq2).imp λ_ _ z=>z⟩) ?_;rintro k s3 ⟨H3,J3,b3,G3,rfl,y3,sb3,_,hq3⟩;cases k with
  |false=>
   obtain⟨p1,p2,p3,p4⟩:=pinOk J3;have Jn:Inv B [] σ2 b3.H s3:=J3.Mm λp hp=>by cases hp
   obtain⟨vs,hv,rv⟩:=hacc'
   exact next s3 b3 G3 σ2 its acc Jn (x1.trans (y2.trans y3)) sb3 (rS2'.mono y3) p3 p4 p1 p2 ⟨vs,hv,(rv.mono y2).mono y3⟩ hq3
  | true=>
   have hq3':out E0 b3 (((te S2 G3).bind λd G3=>(rest G3).bind λds G4=>.ok (d::ds) G4).bind λds G=>Bb (acc++ds) G) Q:=hq3;rw[R.bind_assoc]at hq3';refine thn (he C s a.H fp _ s3 σ2 b3.H _ J3 ⟨b3,S2,G3,y3.k.trans (y2.k.trans (x1.k.trans hk)),rfl,sb3,rS2.mono y3,(Hf hq3').imp λ_ _ z=>z⟩) ?_;rintro w s4 ⟨vw,H4,J4,rw',b4,d4,G4,rfl,y4,sb4,q4,_,hq4⟩;obtain⟨p1,p2,p3,p4⟩:=pinOk J4;rw[R.bind_assoc]at hq4
   have hq4':out E0 b4 ((rest G4).bind λds G=>Bb ((acc++[d4])++ds) G) Q:=by
    have e:(λ(ds:List D)(G:DH)=>(R.ok (d4::ds) G).bind λds G=>Bb (acc++ds) G)=λds G=>Bb ((acc++[d4])++ds) G:=by funext ds G;simp
    rw[<-e];exact hq4
   obtain⟨vs,hv,rv⟩:=hacc';have hsz:its.toArray.size<=sizeLine:=by
    have:acc.length<=1000000:=by
     cases hr:rest G4 with
     |ok ds G5=>
      rw[hr]at hq4';have hq5:out E0 b4 (Bb ((acc++[d4])++ds) G5) Q:=hq4';unfold Bb at hq5;split at hq5
      ·rename_i hl;simp at hl;lia
      ·exact hq5.elim
     |err e' G5=>rw[hr]at hq4';exact(hq4'.1 rfl).elim
     |bad=>rw[hr]at hq4';exact hq4'.elim
    rw[zK,<-hv.length,<-rv.length];exact z9 this size6
   refine wpAny_list_append_plain p1 (λh' hpl hsb=>?_) hsz;have Jn:Inv B [] σ2 b4.H s4:=J4.Mm λp hp=>by cases hp
   have J5:Inv B [] σ2 b4.H {s4 with heap:=h'}:=by refine Jn.turned (it:=Dd) (t':=s4.toks) (λq o hq' e=>(hsb.2 q hq').trans e) p2 hDC (.inr (by show s.heap.objs.size<=Dd;rw[hDe];exact zx _)) (λy c' ec=>?_) (λp hp=>absurd hp (by simp[B,blk]));obtain⟨v',o,e,_⟩:=I.cell y c' (cs.cl I.ok ec);intro z;rw[z,<-hDe]at e;exact absurd (zj e) (zN _)
   refine next _ b4 G4 σ2 (its++[w]) (acc++[d4]) J5 (x1.trans (y2.trans (y3.trans y4))) sb4 ((rS2'.mono y3).mono y4) (T.keep _ _ _ p3 λq hq' o e=>(hsb.2 q (λz=>hDf (z▸hq'))).trans e) p4 (by simpa using hpl) p2 ⟨vs++[vw],hv.append (.cons rw' .nil),(((rv.mono y2).mono y3).mono y4).append (Reps.cons q4 Reps.nil)⟩ hq4'
 have loop:∀s₃:jM,s₃={s with heap:=h₁,toks:=s.toks+([]:List (Str×jO)).length}->
   codeAny (xA X.prog X.w) X.A (.compLoop (.ListComp elt [⟨tg,iter,ifs,0⟩] scope pos) 0 (.ref i0) (.ref Dd) B.env) (RR (.ref Dd) C) s₃:=by
  rintro s₃ rfl;have t1:tn 0 h₁:=T.keep _ _ _ t0 λq _ o e=>old q o e
  have fp0:∀q∈fp,a.H q=vJ:=λq hq=>(hf q hq).1
  have walk:∀b:Wd,Ext a b->∀G,Sim b G->∀i,(∀d,f i G=vZ (vZ d)->J.go i b.H/\∀x H',J.yld i b.H x H'->∃c:Wd,c.H=H'/\Ext b c/\Sim c G/\Rep c d x)/\(f i G=vZ vJ->J.stop i b.H):=rJ;refine ZM4 (λm s'=>∃(i:Nat)(b:Wd)(G':DH)(σ':St)(its:List jO)(acc:List D),Inv B [] σ' b.H s'/\Ext a b/\Sim b G'/\RepS b (Bx nt caps S) σ'/\tn i s'.heap/\(∀q∈fp,b.H q=vJ)/\s'.heap.PlainList Dd its.toArray/\b.H Dd=vJ/\(∃vs,Vals vs its/\Reps b acc vs)/\
   out E0 b ((G8 f g c te (Bx nt caps S) m i G').bind λds G=>Bb (acc++ds) G) Q) ?_ n0 ⟨0,a,G,σ0,[],[],start _,Ext.refl a,sm,rS0,t1,fp0,hacc,aD,⟨[],.nil,rfl⟩,by simpa using h⟩
  rintro m s' ⟨i,b,G',σ',its,acc,IB,x,sb,rSb,ti,hfp,pl,hD,hac,hq⟩;obtain⟨nD,eD⟩:=pl;have I0:=pinD IB eD hD;have f0:=fpB (ps:=[(Dd,{cls:=.type "list",data:=.seq its.toArray nD})]) hfp (λp hp=>by
   have ep:p=(Dd,{cls:=.type "list",data:=.seq its.toArray nD}):=by simpa using hp
   subst ep;exact hDf)
  have stop:J.stop i b.H->out E0 b (Bb acc G') Q->xG (xA X.prog X.w) X.A (pyNext (.ref i0)) (λr s₁=>match r with
    |none=>RR (.ref Dd) C (.ok .next) s₁
    | some v=>xG (xA X.prog X.w) X.A (xy tg (.ref i0) v) (λ_ s₁=>xG (xA X.prog X.w) X.A (assign tg B.env v) (λ_ s₂=>
     xG (xA X.prog X.w) X.A (forIn ifs vX λc r=>if r=vX then do let ok<-isTrue c B.env (eval c B.env);pure (ForInStep.yield ok)else pure (ForInStep.yield r)) (λok s₃=>
      if ok=vX then xG (xA X.prog X.w) X.A (eval elt B.env) (λx s₄=>
       xG (xA X.prog X.w) X.A (call (.builtin "list.append") [.ref Dd,x]) (λ_ s₅=>∃m',m'<m/\∃(i:Nat)(b:Wd)(G':DH)(σ':St)(its:List jO)(acc:List D),Inv B [] σ' b.H s₅/\Ext a b/\Sim b G'/\RepS b (Bx nt caps S) σ'/\tn i s₅.heap/\(∀q∈fp,b.H q=vJ)/\s₅.heap.PlainList Dd its.toArray/\b.H Dd=vJ/\(∃vs,Vals vs its/\Reps b acc vs)/\
        out E0 b ((G8 f g c te (Bx nt caps S) m' i G').bind λds G=>Bb (acc++ds) G) Q) (λ_ _=>False) s₄) (λ_ _=>False) s₃
      else∃m',m'<m/\∃(i:Nat)(b:Wd)(G':DH)(σ':St)(its:List jO)(acc:List D),Inv B [] σ' b.H s₃/\Ext a b/\Sim b G'/\RepS b (Bx nt caps S) σ'/\tn i s₃.heap/\(∀q∈fp,b.H q=vJ)/\s₃.heap.PlainList Dd its.toArray/\b.H Dd=vJ/\(∃vs,Vals vs its/\Reps b acc vs)/\
        out E0 b ((G8 f g c te (Bx nt caps S) m' i G').bind λds G=>Bb (acc++ds) G) Q) (λ_ _=>False) s₂) (λ_ _=>False) s₁) (λ_ _=>False) s₁) (λ_ _=>False) s':=by
   intro st hq';refine thn (T.done B rfl rfl rfl hc i _ s' σ' b.H _ I0 f0 ti st) ?_;rintro r s1 ⟨rfl,I2⟩;have pD:=(I2.pin (Dd,{cls:=.type "list",data:=.seq its.toArray nD}) (zD _ (by simp))).1;exact fin s1 b σ' its acc G' (I2.Mm λp hp=>by cases hp) x sb ⟨nD,pD⟩ hD hac hq'
  cases m with
  |zero=>
   unfold G8 at hq;split at hq
   ·rename_i hf;exact stop ((walk b x G' sb i).2 hf) (by have hq':out E0 b (Bb (acc++[]) G') Q:=hq;rw[zP]at hq';exact hq')
   ·exact hq.elim
  | succ m=>
   unfold G8 at hq;split at hq
   ·rename_i d1 hf;obtain⟨go,yl⟩:=(walk b x G' sb i).1 d1 hf;refine thn (T.item B rfl rfl rfl hc i _ s' σ' b.H _ I0 f0 ti go) ?_;rintro r s1 ⟨u,rfl,hgo⟩;refine thn hgo ?_;rintro _ s2 ⟨v,H',I2,ru,y,t2,hfp2⟩;obtain⟨cc,rfl,xx,ss,rd⟩:=yl v H' y;have pD:=I2.pin (Dd,{cls:=.type "list",data:=.seq its.toArray nD}) (zD _ (by simp));obtain⟨vs1,hv1,rv1⟩:=hac;refine turnX _ _ (λG3=>G8 f g c te (Bx nt caps S) m (i+1) G3) s2 cc G' σ' its acc u _ d1 (i+1) (I2.Mm λp hp=>by cases hp) (x.trans xx) ss (rSb.mono xx) t2 hfp2 ⟨nD,pD.1⟩ pD.2.1 ⟨vs1,hv1,rv1.mono xx⟩ ru rd (out.mono xx hq) ?_
    intro s3 b3 G3 σ3 its3 acc3 a1 a2 a3 a4 a5 a6 a7 a8 a9 a10;exact⟨m,qY _,i+1,b3,G3,σ3,its3,acc3,a1,a2,a3,a4,a5,a6,a7,a8,a9,a10⟩
   ·rename_i hf;exact stop ((walk b x G' sb i).2 hf) (by have hq':out E0 b (Bb (acc++[]) G') Q:=hq;rw[zP]at hq';exact hq')
   ·exact hq.elim
 exact codeAny_compStart_list (loop _ rfl) (T.self _ 0 _ _ _ (T.keep _ _ _ t0 λq _ o e=>old q o e) (loop _ rfl))
theorem ZCF{c:DB}:∀(n j:Nat)(G:DH),j+n=xs.length->Cw g c te S (xs.drop j) G=G8 (λj _=>vZ xs[j]?) g c te S n j G
 |0,j,G,h=>by
  rw[qL (by lia)]
  show _=(match vZ xs[j]? with |some vJ=>R.ok [] G|_=>.bad)
  rw[qx (by lia)]
  rfl
 |n+1,j,G,h=>by
  have hj:j<xs.length:=by lia
  rw[qz hj]
  show(g xs[j] S G).bind _=(match vZ xs[j]? with |some (vZ x)=>_|some vJ=>R.ok [] G|none=>.bad)
  rw[zQ hj];dsimp only
  congr 1
  funext S1 G1
  congr 1
  funext k G2;rw[ZCF n (j+1) G2 (by lia)]
  congr 1
  congr 1
  funext d G3;rw[ZCF n (j+1) G3 (by lia)]
theorem ZI6{c:DB}:∀(n j:Nat)(G:DH),Ip i g c te S n j G=G8 (mtF i) g c te S n j G
 | 0,j,G=>by
  unfold Ip G8 mtF;cases G[i]? with
  |none=>rfl
  | some o=>
   cases o with
   |lst xs=>
    dsimp only;by_cases hj:j<xs.length
    ·rw[if_neg (by lia),zQ hj]
    ·rw[if_pos (by lia),qx (by lia)]
   |_=>rfl
 | n+1,j,G=>by
  have ih:(Ip i g c te S n (j+1))=G8 (mtF i) g c te S n (j+1):=funext λG=>ZI6 n (j+1) G
  unfold Ip G8;rw[ih];unfold mtF;cases G[i]? with
  |none=>rfl
  | some o=>
   cases o with
   |lst xs=>
    dsimp only
    cases xs[j]?<;>rfl
   |_=>rfl
theorem ZJT(hc:X.calm=vX)(cs:CompSc X N scope nt caps)
  (hg:∀C s₀ H₀ ex,QG (blk X N scope C s₀ H₀ ex) E0 tg g) (gk:GK nt g) (hts:∀C s₀ H₀ ex,QTs (blk X N scope C s₀ H₀ ex) E0 ifs c) (he:∀C s₀ H₀ ex,QE (blk X N scope C s₀ H₀ ex) E0 elt te)
  {vQ:List (jD×Obj)} {σ:St} {s:jM} {a:Wd} {S:DSt} {G:DH} {J:It} {d:ItD} {i0:jD} {fp:List jD} {tn:Nat->Heap->Prop} (I:Inv X vQ σ a.H s) (hk:a.K=X.K) (sm:Sim a G) (rS:RepS a S σ)
  (T:Turn X.prog X.w X.K tg J fp i0 tn) (t0:tn 0 s.heap) (hf:∀b∈fp,FpOk X vQ a.H b) (rJ:RepI a d J) {Q:VK}
  (h:out E0 a ((match d with
   |.pure xs=>Cw g c te (Bx nt caps S) xs G
   |.mt i=>match G[i]? with
    |some (.lst xs)=>Ip i g c te (Bx nt caps S) xs.length 0 G
    |_=>.bad
   |.fn n f=>G8 f g c te (Bx nt caps S) n 0 G).bind Bb) Q)
  {RR:jO->jD->Result->jM->Prop} {E':jO->jM->Prop}
  (hRR:∀(D C:jD)(s':jM)(b:Wd)(vs:List V),Inv X vQ σ (upd b.H D (.lst vs)) s'->b.H D=vJ->s.heap.objs.size<=C->D≠C->(∃m,s'.heap.Ns C m)->b.H C=vJ->Q (.ref D) (upd b.H D (.lst vs))->RR (.ref D) C (.ok .next) s'):
  xG (xA X.prog X.w) X.A (newList []) (λacc s₃=>xG (xA X.prog X.w) X.A (newFunctionEnv scope X.env.globals (Fo X.env scope.names []) [] X.env.qual vJ .none (vZ X.env)) (λcenv s₄=>
   codeAny (xA X.prog X.w) X.A (.compStart (.ListComp elt [⟨tg,iter,ifs,0⟩] scope pos) 0 (.ref i0) acc {cenv with scope:=relabel scope X.env}) (RR acc cenv.locals) s₄) E' s₃) E' s:=by
 cases d with
 |pure xs=>
  have h':out E0 a ((Cw g c te (Bx nt caps S) (xs.drop 0) G).bind Bb) Q:=h;rw[ZCF xs.length 0 G (by lia)]at h';exact ZBZ hc cs hg gk hts he I hk sm rS T t0 hf (ZHK rJ) h' hRR
 |mt k=>
  dsimp only at h;split at h
  ·rename_i xs hx;rw[ZI6]at h;exact ZBZ hc cs hg gk hts he I hk sm rS T t0 hf (ZH6 rJ) h hRR
  ·exact h.elim
 |fn n0 f=>exact ZBZ hc cs hg gk hts he I hk sm rS T t0 hf rJ h hRR
end
section
variable{X:Cx}{N:List Str}{scope:jL}{nt:Nat}{caps:List Nat}{tg elt iter:jF}{ifs:List jF}{pos:Pos}{it:DI}{g:DG}{c:DB}{te:DE}
theorem letGo{vQ:List (jD×Obj)}{s2 s':jM}{h':Heap}{C:jD}{t':Nat}{σ2:St}{H2:Hp}(I2:Inv X vQ σ2 H2 s2)(Ia:Inv X vQ σ H s')(hC:s2.heap.objs.size<=C)(hn:H C=vJ)(hsb:Heap.SameBut C s'.heap h'):Inv X vQ σ H {s' with heap:=h',toks:=t'}:=by
 have young:∀{b:jD}{o:Obj},s2.heap.get? b=vZ o->b≠C:=λe z=>by rw[z]at e;exact absurd (zW (zj e) hC) (zN _)
 refine Ia.turned (it:=C) (λb o hb e=>(hsb.2 b hb).trans e) hn (Nat.ne_of_gt (zW I2.lt hC)) (.inr (z9 I2.sz hC)) (λx c' e=>?_) λp hp=>?_
 ·obtain⟨v,o,e',_⟩:=I2.cell x c' e;exact young e'
 ·exact young (I2.pin p hp).1
theorem Jy(hc:X.calm=vX)(cs:CompSc X N scope nt caps)(hi:QI X E0 tg iter it)
  (hg:∀C s₀ H₀ ex,QG (blk X N scope C s₀ H₀ ex) E0 tg g) (gk:GK nt g) (hts:∀C s₀ H₀ ex,QTs (blk X N scope C s₀ H₀ ex) E0 ifs c) (he:∀C s₀ H₀ ex,QE (blk X N scope C s₀ H₀ ex) E0 elt te)
  (hs:∀x,foldedSetIterable iter X.env x=pure x:=by intro _;rfl):QE X E0 (.ListComp elt [⟨tg,iter,ifs,0⟩] scope pos) (Ed it nt caps g c te):=by
 intro vQ s σ H Q I h;obtain⟨a,S,G,hk,rfl,sm,r,h⟩:=h;rw[eval_ListComp];refine wpAny_comprehension_free (use:=vJ) rfl hs (ZHT (cs.cells I.ok)) cs.kind cs.names (thn (hi vQ s σ a.H _ I ⟨a,S,G,hk,rfl,sm,r,(ZGV h).imp λ_ _ z=>z⟩) λxv s1 h1=>thn h1 λitv s2 h2=>?_);obtain⟨i0,fp,tn,J,H2,rfl,I2,T,t0,f2,b,d,G1,rfl,x,sb,rJ,_,h1⟩:=h2;refine ZJT hc cs hg gk hts he I2 (x.k.trans hk) sb (r.mono x) T t0 f2 rJ h1 (RR:=λacc C=>compPost (xA X.prog X.w) X.A X.xe vJ (EP X vQ σ Q) acc C) ?_
 intro D C s' b vs Ia hD hCle hDC ⟨m,hn⟩ hCn hq;refine⟨m,hn,λh' hsb=>⟨.ref D,_,letGo I2 Ia hCle ?_ hsb,rfl,hq⟩⟩;rw[Bu (Ne.symm hDC)];exact hCn
theorem Kc(i:Nat){y:Str}{py spos:Pos}(hc:X.calm=vX)(hN:X.N.Nodup)(cs:CompSc X N scope nt caps)(hi:QI X E0 tg iter it)
  (hg:∀C s₀ H₀ ex,QG (blk X N scope C s₀ H₀ ex) E0 tg g) (gk:GK nt g) (hts:∀C s₀ H₀ ex,QTs (blk X N scope C s₀ H₀ ex) E0 ifs c) (he:∀C s₀ H₀ ex,QE (blk X N scope C s₀ H₀ ex) E0 elt te)
  (hy:X.N[i]?=vZ y:=by rfl) (hx:Loc X.env.scope y:=by first|exact Or.inl rfl|exact Or.inr rfl) (hf:X.fn y=vX∨X.env.scope.names.lookup y=vZ .local:=by first|exact .inl rfl|exact .inr rfl|assumption)
  (hsw:swapsWith (.ListComp elt [⟨tg,iter,ifs,0⟩] scope pos) (vZ (.Name y py)) spos.line X.env=pure vX:=by rfl)
  (hs:∀x,foldedSetIterable iter X.env x=pure x:=by intro _;rfl):QS X E0 (.Assign [.Name y py] (.ListComp elt [⟨tg,iter,ifs,0⟩] scope pos) spos) (sAs (Ed it nt caps g c te) (gV i)):=by
 intro vQ s σ H W I h;obtain⟨a,S,G,hk,rfl,sm,r,h⟩:=h;have h0:=Tg h;rw[exec_Assign_Name_used _ _ _ _ hsw];refine xI (wpAny_standAt (xI ?_))
 show xG _ X.A (do let _<-comprehension (.ListComp elt [⟨tg,iter,ifs,0⟩] scope pos) scope X.env _ (newList []) vV (eval iter X.env) (vZ (assign (.Name y py) X.env))) _ _ s
 refine xI (xN (wpAny_comprehension_free (use:=vZ (assign (.Name y py) X.env)) (Q:=λ_ s'=>SP X vQ W .next s') rfl hs (ZHT (cs.cells I.ok)) cs.kind cs.names
  (thn (hi vQ s σ a.H _ I ⟨a,S,G,hk,rfl,sm,r,(ZGV h0).imp λ_ _ z=>z⟩) λxv s1 h1=>thn h1 λitv s2 h2=>?_)) (λ_ s' hq=>xR (xR hq)) λ_ _ e=>e)
 obtain⟨i0,fp,tn,J,H2,rfl,I2,T,t0,f2,b,d,G1,rfl,x,sb,rJ,_,h1⟩:=h2
 refine ZJT hc cs hg gk hts he I2 (x.k.trans hk) sb (r.mono x) T t0 f2 rJ h1 (RR:=λacc C=>compPost (xA X.prog X.w) X.A X.xe (vZ (assign (.Name y py) X.env)) (λ_ s'=>SP X vQ W .next s') acc C) ?_
 intro D C s' b' vs Ia hD hCle hDC ⟨m,hn⟩ hCn hq;show xG _ X.A (assign (.Name y py) X.env (.ref D)) _ _ _;refine wpAny_assign_Name (ZFx Ia hN hy hx (v:=.ref D) rfl (λs'' I'' hch=>?_) hf);obtain⟨a',hsb',ha'⟩:=hch;have hCa:C≠a':=by
  rintro rfl;rcases ha' with rfl|ha'
  ·exact absurd (zW I2.lt hCle) (zN _)
  ·obtain⟨v,o,e',_⟩:=I2.cell _ _ ha';exact absurd (zW (zj e') hCle) (zN _)
 refine⟨m,hn.sameBut hsb' hCa,λh' hsb=>⟨_,_,letGo I2 I'' hCle ?_ hsb,?_⟩⟩
 ·rw[Bu (Ne.symm hDC)];exact hCn
 ·obtain⟨b3,d3,G3,e3,x3,s3,q3,_,h3⟩:=hq;rw[<-e3];exact h3 b3 _ (Ext.refl b3) s3 ((r.mono x3).set i q3)
end
def Ho:D->DH->R D
 |.int i,G=>.ok (.int (-i)) G
 |_,_=>.bad
noncomputable def Cq:D->Bool
 |.non=>vX
 |_=>vV
def Kw:D->D->DH->R D
 |d,.non,G=>.ok (.bl (Cq d)) G
 |_,_,_=>.bad
def Ka:D->D->DH->R D
 |d,.non,G=>.ok (.bl (!Cq d)) G
 |_,_,_=>.bad
noncomputable def Nr:D->Option V
 |.non=>vZ .non
 |.bl b=>vZ (.bl b)
 |.int i=>vZ (.int i)
 |.str x=>vZ (.str x)
 |_=>vJ
def Lb:List D->Option (List V)
 |[]=>vZ []
 |d::r=>match Nr d,Lb r with
  |some v,vZ vs=>vZ (v::vs)
  |_,_=>vJ
def inD(d e:D)(G:DH):Option Bool:=match e with
 |.str j=>match d with
  |.str i=>vZ (!(Builtin.Str.occurrences j i 0 j.length 1).isEmpty)
  |_=>vJ
 |e=>match Ei e G,Nr d with
  |some xs,vZ v=>(Lb xs).map λvs=>inV v vs
  |_,_=>vJ
def Ie(d e:D)(G:DH):R D:=match inD d e G with
 |some k=>.ok (.bl k) G
 |none=>.bad
def Lf(d e:D)(G:DH):R D:=match inD d e G with
 |some k=>.ok (.bl (!k)) G
 |none=>.bad
section
variable{X:Cx}{E:XK}{a b:jF}{ta tb:DE}{pos:Pos}
theorem Kq:UnR X (unaryOp .USub) (lR1 X.K E Ho):=λvQ s σ H x v Q I rx h=>by
 obtain⟨a,G,d,hk,rfl,sm,rd,q⟩:=h;cases d with
 |int i=>exact ZNI vQ s σ a.H x v Q I rx ⟨i,rd,q a _ (Ext.refl a) sm rfl⟩
 |_=>exact q.elim
theorem K5{op:UnaryOp}{f:D->DH->R D}(ho:UnR X (unaryOp op) (lR1 X.K E f))(ha:QE X E a ta):QE X E (.UnaryOp op a pos) (dUn f ta):=(ZPl ho ha).mono λσ H Q h=>by obtain⟨a,S,G,hk,rfl,s,r,h⟩:=h;refine⟨a,S,G,hk,rfl,s,r,(Hf h).imp ?_⟩;rintro v _ ⟨b,d,G1,rfl,x,s1,q,-,h1⟩;exact⟨b,G1,d,x.k.trans hk,rfl,s1,q,h1⟩
theorem ZFA{n:String}(hg:Gl X x)(hm:X.mg x=vJ)(hv:xZ x=vZ (.type n))(hn:x≠"__name__":=by decide)(hd:(x==("__debug__":Str))=vV:=by decide):QE X E (.Name x pos) (dC (.ty n)):=
 (ZJh (v:=.ty n) hg hm hv rfl hn hd).mono λσ H Q h=>Pb h λ_ _=>rfl
theorem ZFS{a:Wd}{x:V}(rd:Rep a d x):decide (x=V.non)=Cq d:=by
 cases d with
 |non=>rw[show x=V.non from rd];rfl
 |bl _=>rw[show x=V.bl _ from rd];rfl
 |int _=>rw[show x=V.int _ from rd];rfl
 |str _=>rw[show x=V.str _ from rd];rfl
 |ty _=>rw[show x=V.ty _ from rd];rfl
 |tup _=>obtain⟨p,vs,rfl,_⟩:=rd;rfl
 |fl _=>obtain⟨p,vs,rfl,_⟩:=rd;rfl
 |ref _=>rw[rd.2];rfl
theorem Np:OpR X (xV .Is) (lR2 X.K E Kw):=Ht ZNB λa G d e x y Q hk s rd re q=>by
 cases e with
 |non=>exact⟨re,by rw[ZFS rd];cases d<;>exact q a _ (Ext.refl a) s rfl⟩
 |_=>cases d<;>exact q.elim
theorem Mw:OpR X (xV .IsNot) (lR2 X.K E Ka):=Ht ZNi λa G d e x y Q hk s rd re q=>by
 cases e with
 |non=>exact⟨re,by rw[ZFS rd];cases d<;>exact q a _ (Ext.refl a) s rfl⟩
 |_=>cases d<;>exact q.elim
theorem ZI1{a:Wd}{x:V}(r:Rep a d x)(h:Nr d=vZ v):x=v/\Et v=vX:=by
 cases d<;>first
  |(cases h;exact⟨r,rfl⟩)
  |cases h
theorem ZFl{a:Wd}:∀{ds:List D}{xs vs:List V},Reps a ds xs->Lb ds=vZ vs->xs=vs/\vs.all Et=vX
 |[],xs,vs,r,h=>by cases h;exact⟨r,rfl⟩
 |d::ds,xs,vs,r,h=>by
  obtain⟨x,r',rfl,r1,r2⟩:=r;unfold Lb at h;split at h
  ·rename_i v ws h1 h2;cases h;obtain⟨e1,f1⟩:=ZI1 r1 h1;obtain⟨e2,f2⟩:=ZFl r2 h2;subst e1;subst e2;exact⟨rfl,by rw[qH,f1,f2];rfl⟩
  ·cases h
theorem ZHn{a:Wd}{e:D}{x y:V}{k:Bool}(s:Sim a G)(rd:Rep a d x)(re:Rep a e y)(h:inD d e G=vZ k):
  (∃i j,x=.str i/\y=.str j/\k= !(Builtin.Str.occurrences j i 0 j.length 1).isEmpty)∨(∃p xs,y=.ref p/\(SqL a.K a.H p xs∨SqT a.K a.H p xs)/\Et x=vX/\xs.all Et=vX/\k=inV x xs):=by
 have seq:(match Ei e G,Nr d with |some xs,vZ v=>(Lb xs).map λvs=>inV v vs|_,_=>vJ)=vZ k->(∃p xs,y=.ref p/\(SqL a.K a.H p xs∨SqT a.K a.H p xs)/\Et x=vX/\xs.all Et=vX/\k=inV x xs):=λh=>by
  split at h
  ·rename_i xs v h1 h2;obtain⟨p,ws,e1,q,r1⟩:=M5 s re h1;obtain⟨e2,f2⟩:=ZI1 rd h2;subst e2;rw[zA]at h;obtain⟨us,h3,h4⟩:=h;obtain⟨e3,f3⟩:=ZFl r1 h3;subst e3;exact⟨p,ws,e1,q,f2,f3,h4.symm⟩
  ·cases h
 cases e with
 |str j=>
  cases d with
  |str i=>exact .inl ⟨i,j,rd,re,(Option.some.inj h).symm⟩
  |_=>cases h
 |tup xs=>exact .inr (seq h)
 |fl xs=>exact .inr (seq h)
 |ref i=>exact .inr (seq h)
 |_=>exact .inr (seq h)
theorem Sx:OpR X (xV .In) (lR2 X.K E Ie):=Ht (ZOJ.or ZJm) λa G d e x y Q hk s rd re q=>by
 unfold Ie at q;split at q
 ·rename_i k h;have z:=q a _ (Ext.refl a) s rfl;rcases ZHn s rd re h with⟨i,j,e1,e2,rfl⟩|⟨p,xs,e1,hq,f1,f2,rfl⟩
  ·exact .inl ⟨i,j,e1,e2,z⟩
  ·exact .inr ⟨p,xs,e1,by rw[<-hk];exact hq,f1,f2,z⟩
 ·exact q.elim
theorem ZEk:OpR X (xV .NotIn) (lR2 X.K E Lf):=Ht (ZQ7.or ZL6) λa G d e x y Q hk s rd re q=>by
 unfold Lf at q;split at q
 ·rename_i k h;have z:=q a _ (Ext.refl a) s rfl;rcases ZHn s rd re h with⟨i,j,e1,e2,rfl⟩|⟨p,xs,e1,hq,f1,f2,rfl⟩
  ·exact .inl ⟨i,j,e1,e2,z⟩
  ·exact .inr ⟨p,xs,e1,by rw[<-hk];exact hq,f1,f2,z⟩
 ·exact q.elim
end
theorem Xp:xZ "isinstance"=vZ (.builtin "isinstance"):=by decide +kernel
theorem ZIu:xZ "all"=vZ (.builtin "all"):=by decide +kernel
theorem ZAm:xZ "sum"=vZ (.builtin "sum"):=by decide +kernel
theorem Rz:xZ "max"=vZ (.builtin "max"):=by decide +kernel
theorem ZNq:xZ "min"=vZ (.builtin "min"):=by decide +kernel
theorem Dy:xZ "len"=vZ (.builtin "len"):=by decide +kernel
theorem ZEx:xZ "int"=vZ (.type "int"):=by decide +kernel
theorem ZOs:xZ "bool"=vZ (.type "bool"):=by decide +kernel
theorem U8:xZ "tuple"=vZ (.type "tuple"):=by decide +kernel
noncomputable def J0:jH->Bool | .local=>vX|_=>vV
noncomputable def Le:jH->Bool | .cell=>vX|_=>vV
noncomputable def Kg:jH->Bool | .free=>vX|_=>vV
noncomputable def isK(p:jH->Bool):Option jH->Bool|some k=>p k|none=>vV
theorem ZHe{k:jH}(h:J0 k=vX):k=.local:=by cases k<;>first|rfl|cases h
theorem ZOU{k:jH}(h:Le k=vX):k=.cell:=by cases k<;>first|rfl|cases h
theorem ZJA{k:jH}(h:Kg k=vX):k=.free:=by cases k<;>first|rfl|cases h
theorem Ss{p:jH->Bool}{k:jH}(hp:∀k',p k'=vX->k'=k){o:Option jH}(h:isK p o=vX):o=vZ k:=by
 cases o with
 |none=>cases h
 |some k'=>rw[hp _ h]
def ZFW(dn:List (Str×jH))(N0 N:List Str)(names:List (Str×jH))(nt:Nat)(caps:List Nat):Bool:=
 names.all (λy=>(!J0 y.2||isK J0 (names.lookup y.1)) && !Le y.2&&(!Kg y.2||isK Le (dn.lookup y.1)||isK Kg (dn.lookup y.1)))&&decide N.Nodup&&decide (N.length=nt+caps.length) &&
 (zy caps.length).all λk=>match caps[k]? with
  |some j=>match N0[j]? with
   |some x=>decide (N[nt+k]?=vZ x)&&isK Kg (names.lookup x)
   |none=>vV
  |none=>vX
theorem Ez{X:Cx}{N0 N:List Str}{nt:Nat}{caps:List Nat}{dn:List (Str×jH)}(hk:scope.kind=.function:=by rfl)(hdn:∀x,X.env.kindOf x=dn.lookup x:=by intro _;rfl)(hN:X.N=N0:=by rfl)
  (h:ZFW dn N0 N scope.names nt caps=vX:=by decide +kernel):CompSc X N scope nt caps:=by
 unfold ZFW at h;rw[zV,zV,zV]at h;obtain⟨⟨⟨h1,h2⟩,h3⟩,h4⟩:=h;rw[qJ]at h1 h4;have key:=λ(y:Str×jH)(hy:y∈scope.names)=>(by have:=h1 y hy;rw[zV,zV]at this;exact this:((!J0 y.2||isK J0 (scope.names.lookup y.1))=vX/\(!Le y.2)=vX)/\(!Kg y.2||isK Le (dn.lookup y.1)||isK Kg (dn.lookup y.1))=vX)
 refine⟨hk,λy hy hl=>?_,λy hy hl=>?_,λy hy hl=>?_,of_decide_eq_true h2,of_decide_eq_true h3,λk j hj=>?_⟩
 ·have:=(key y hy).1.1;rw[hl]at this;exact Ss (p:=J0) (λ_ h=>ZHe h) (by have t:(vV||isK J0 (scope.names.lookup y.1))=vX:=this;simpa using t)
 ·have:=(key y hy).1.2;rw[hl]at this;exact absurd this (by decide)
 ·have:=(key y hy).2;rw[hl,Bool.or_eq_true]at this;rw[hdn];rcases this with h|h
  ·exact .inl (Ss (p:=Le) (λ_ h=>ZOU h) (by have t:(vV||isK Le (dn.lookup y.1))=vX:=h;simpa using t))
  ·exact .inr (Ss (p:=Kg) (λ_ h=>ZJA h) h)
 ·have hk':k<caps.length:=(zX.mp hj).1;have:=h4 k (q9.mpr hk');rw[hj]at this;dsimp only at this;cases e:N0[j]? with
  |none=>rw[e]at this;cases this
  |some x=>
   rw[e]at this;dsimp only at this;rw[zV]at this;exact⟨x,by rw[hN];exact e,of_decide_eq_true this.1,Ss (p:=Kg) (λ_ h=>ZJA h) this.2⟩
section
section
variable{X:Cx}{vQ:List (jD×Obj)}{σ:St}{H:Hp}{s:jM}
theorem ZOa{xs:List V}(I:Inv X vQ σ H s)(h:H p=vZ (.lst xs)):∃o,Inv X vQ σ (upd H p (.frz o (.lst xs))) s:=by
 obtain⟨hl,its,n,r,e⟩:=I.hok p _ h;have nt:∀b(u:HO),H b=vZ u->u≠ .lst xs->b≠p:=λb u q d z=>by subst z;rw[h]at q;exact d (Option.some.inj q).symm
 refine⟨_,I.un (t':=s.toks) (H':=upd H p (.frz {cls:=.type "list",data:=.seq its.toArray n} (.lst xs))) ⟨λb o q _ _ _=>q,λb o q _ _ _=>⟨o.slots,q⟩,λb o q z _=>?_,λb o q _=>⟨o,q⟩,λb ys q=>?_,λb o u q=>?_,λb ps q=>⟨#[],?_⟩⟩ ?_⟩
 ·rw[Bu (λz'=>by subst z';rw[h]at z;cases z)];exact z
 ·rw[Bu (nt b _ q (by intro z;cases z))];exact q
 ·rw[Bu (nt b _ q (by intro z;cases z))];exact q
 ·rw[Bu (nt b _ q (by intro z;cases z)),Array.append_empty];exact q
 ·intro b u q;by_cases hb:b=p
  ·subst hb;rw[Jt]at q;cases q;exact⟨e,hl,its,n,r,e⟩
  ·rw[Bu hb]at q;exact(I.hok b u q).stay (λc v _ z=>z) (λc z=>by rw[Bu (nt c _ z (by intro z;cases z))];exact z) λc ys z=>by rw[Bu (nt c _ z (by intro z;cases z))];exact z
def Fz(P:jD->Prop)(H H':Hp):Prop:=∀p,(H' p=H p/\(∀vs,H p=vZ (.lst vs)->¬P p))∨∃o vs,P p/\H p=vZ (.lst vs)/\H' p=vZ (.frz o (.lst vs))
theorem ZIx(I:Inv X vQ σ H s)(m:Nat->jD)(n:Nat):∀k:Nat,∃H',Inv X vQ σ H' s/\Fz (λp=>∃i,n<=i/\i<n+k/\p=m i) H H'
 |0=>⟨H,I,λp=>.inl ⟨rfl,λ_ _ ⟨i,h1,h2,_⟩=>by lia⟩⟩
 | k + 1=>by
  obtain⟨H',I',F⟩:=ZIx I m n k;have keep:(∀vs,H' (m (n+k))≠vZ (.lst vs))->Fz (λp=>∃i,n<=i/\i<n+(k+1)/\p=m i) H H':=λno p=>by
   rcases F p with⟨e,z⟩|⟨o,vs,⟨i,h1,h2,h3⟩,e1,e2⟩
   ·refine .inl ⟨e,λvs e1 ⟨i,h1,h2,h3⟩=>?_⟩;by_cases hi:i<n+k
    ·exact z vs e1 ⟨i,h1,hi,h3⟩
    ·have:i=n+k:=by lia
     subst this;subst h3;exact no vs (e.trans e1)
   ·exact .inr ⟨o,vs,⟨i,h1,by lia,h3⟩,e1,e2⟩
  cases hH:H' (m (n+k))with
  |none=>exact⟨H',I',keep λvs z=>by rw[hH]at z;cases z⟩
  | some u=>
   cases u with
   | lst vs=>
    obtain⟨o,I2⟩:=ZOa I' hH;refine⟨_,I2,λp=>?_⟩;by_cases hp:p=m (n+k)
    ·subst hp;rcases F (m (n+k))with⟨e,z⟩|⟨o',vs',_,e1,e2⟩
     ·exact .inr ⟨o,vs,⟨n+k,by lia,by lia,rfl⟩,e.symm.trans hH,Jt⟩
     ·rw[hH]at e2;cases e2
    ·rcases F p with⟨e,z⟩|⟨o',vs',⟨i,h1,h2,h3⟩,e1,e2⟩
     ·refine .inl ⟨by rw[Bu hp];exact e,λvs' e1 ⟨i,h1,h2,h3⟩=>?_⟩;by_cases hi:i<n+k
      ·exact z vs' e1 ⟨i,h1,hi,h3⟩
      ·have:i=n+k:=by lia
       subst this;exact hp h3
     ·exact .inr ⟨o',vs',⟨i,h1,by lia,h3⟩,e1,by rw[Bu hp];exact e2⟩
   |_=>exact⟨H',I',keep λvs z=>by rw[hH]at z;cases z⟩
end
noncomputable def Ng(f:D->Option D):List D->Option (List D)
 |[]=>vZ []
 |d::r=>match f d,Ng f r with
  |some d',vZ r'=>vZ (d'::r')
  |_,_=>vJ
def Jm(G:DH)(n:Nat):Nat->D->Option D
 |0,_=>vJ
 | k+1,d=>if bel n d=vX then vZ d else match d with
  |.ref i=>match G[i]? with
   |some (.lst xs)=>(Ng (Jm G n k) xs).map .fl
   |_=>vJ
  |.tup xs=>(Ng (Jm G n k) xs).map .tup
  |.fl xs=>(Ng (Jm G n k) xs).map .fl
  |_=>vJ
open Classical in
def freeze(G:DH)(r:R D):R D:=match r with
 | .ok d G'=>if G'.take G.length=G then(match Jm G' G.length 9 d with
   |some d'=>.ok d' G
   |none=>.ok d G')else .ok d G'
 |r=>r
def Ar(t:DE):DE:=λS G=>freeze G (t S G)
structure CutF (b c:Wd) (n:Nat):Prop where
 k:c.K=b.K
 n:c.n=n
 m:c.m=b.m
 tup:∀p xs,b.H p=vZ (.tup xs)->c.H p=vZ (.tup xs)
 frz:∀p o u,b.H p=vZ (.frz o u)->c.H p=vZ (.frz o u)
theorem CutF.sqT{n:Nat}(x:CutF b c n){xs:List V}(h:SqT b.K b.H p xs):SqT c.K c.H p xs:=by
 rcases h with(h|⟨o,h⟩)|h
 ·exact .inl (.inl (x.tup _ _ h))
 ·exact .inl (.inr ⟨o,x.frz _ _ _ h⟩)
 ·exact .inr (by rw[x.k];exact h)
theorem CutF.fzL{n:Nat}(x:CutF b c n){xs:List V}(h:FzL b.K b.H p xs):FzL c.K c.H p xs:=by
 rcases h with⟨o,h⟩|h
 ·exact .inl ⟨o,x.frz _ _ _ h⟩
 ·exact .inr (by rw[x.k];exact h)
mutual
theorem Rep.Jw{n:Nat}(x:CutF b c n):∀{d:D}{v:V},Rep b d v->bel n d=vX->Rep c d v
 |.non,_,h,_=>h
 |.bl _,_,h,_=>h
 |.int _,_,h,_=>h
 |.str _,_,h,_=>h
 |.ty _,_,h,_=>h
 |.tup ds,v,h,q=>by obtain⟨p,vs,e,t,r⟩:=h;simp only[_D.bel]at q;exact⟨p,vs,e,x.sqT t,Reps.Jw x r q⟩
 |.fl ds,v,h,q=>by obtain⟨p,vs,e,t,r⟩:=h;simp only[_D.bel]at q;exact⟨p,vs,e,x.fzL t,Reps.Jw x r q⟩
 |.ref i,v,h,q=>by obtain⟨l,e⟩:=h;simp only[_D.bel]at q;have q':=of_decide_eq_true q;exact⟨by rw[x.n];exact q',by rw[x.m];exact e⟩
theorem Reps.Jw{n:Nat}(x:CutF b c n):∀{ds:List D}{vs:List V},Reps b ds vs->bels n ds=vX->Reps c ds vs
 |[],_,h,_=>h
 |d::ds,vs,h,q=>by obtain⟨v,r,e,h1,h2⟩:=h;simp only[_D.bels,zV]at q;exact⟨v,r,e,Rep.Jw x h1 q.1,Reps.Jw x h2 q.2⟩
end
theorem Xo{f:D->Option D}(hf:∀d d' v,f d=vZ d'->Rep b d v->Rep c d' v):∀{ds ds':List D}{vs:List V},Ng f ds=vZ ds'->Reps b ds vs->Reps c ds' vs
 |[],ds',vs,e,h=>by cases e;exact h
 |d::ds,ds',vs,e,h=>by
  obtain⟨v,r,rfl,h1,h2⟩:=h;unfold Ng at e;split at e
  ·rename_i d' r' e1 e2;cases e;exact⟨v,r,rfl,hf _ _ _ e1 h1,Xo hf e2 h2⟩
  ·cases e
theorem ZGm{n:Nat}(s:Sim b G')(x:CutF b c n)(hz:∀i,n<=i->i<b.n->∀vs,b.H (b.m i)=vZ (.lst vs)->∃o,c.H (b.m i)=vZ (.frz o (.lst vs))):∀(k:Nat)(d d':D)(v:V),Jm G' n k d=vZ d'->Rep b d v->Rep c d' v
 |0,d,d',v,e,h=>by cases e
 | k + 1,d,d',v,e,h=>by
  have ih:=ZGm s x hz k;unfold Jm at e;split at e
  ·rename_i hb;cases e;exact h.Jw x hb
  ·rename_i hb;cases d with
   | ref i=>
    dsimp only at e;split at e
    ·rename_i xs hx;rw[zA]at e;obtain⟨ys,e1,rfl⟩:=e;obtain⟨vs,e2,r2⟩:=s.obj i _ hx;obtain⟨il,rfl⟩:=h;have hi:n<=i:=by simp only[_D.bel,decide_eq_true_eq]at hb;lia
     obtain⟨o,e3⟩:=hz i hi il vs e2;exact⟨_,vs,rfl,.inl ⟨o,e3⟩,Xo ih e1 r2⟩
    ·cases e
   |tup xs=>
    dsimp only at e;rw[zA]at e;obtain⟨ys,e1,rfl⟩:=e;obtain⟨p,vs,rfl,t,r⟩:=h;exact⟨p,vs,rfl,x.sqT t,Xo ih e1 r⟩
   |fl xs=>
    dsimp only at e;rw[zA]at e;obtain⟨ys,e1,rfl⟩:=e;obtain⟨p,vs,rfl,t,r⟩:=h;exact⟨p,vs,rfl,x.fzL t,Xo ih e1 r⟩
   |_=>cases e
theorem ZI2{vQ:List (jD×Obj)}{sh:jM}(s:Sim a G)(hG:G'.take G.length=G)(x:Ext a b)(sb:Sim b G')(I:Inv X vQ σ b.H sh):
  ∃c:Wd,Inv X vQ σ c.H sh/\Ext a c/\Sim c G/\CutF b c a.n/\∀(k:Nat)(d d':D)(v:V),Jm G' G.length k d=vZ d'->Rep b d v->Rep c d' v:=by
 have hlen:∀i o,G[i]?=vZ o->G'[i]?=vZ o:=λi o e=>by have hi:i<G.length:=(zX.mp e).1;rw[<-hG,qS hi]at e;exact e
 obtain⟨H',I',F⟩:=ZIx I b.m a.n (b.n-a.n);have hbn:a.n+(b.n-a.n)=b.n:=by have:=x.n;lia
 rw[hbn]at F;have ct:∀p(u:HO),(∀vs,u≠ .lst vs)->b.H p=vZ u->H' p=vZ u:=λp u nu e=>by
  rcases F p with⟨e1,_⟩|⟨o,vs,_,e1,_⟩
  ·exact e1.trans e
  ·rw[e]at e1;exact absurd (Option.some.inj e1) (nu vs)
 have tabs:∀p,TabOk b.H p->TabOk H' p:=λp t=>t.mono (λp ps e=>ct p _ (by intro _ z;cases z) e) λp o u e=>ct p _ (by intro _ z;cases z) e
 have cc:CutF b ⟨b.K,a.n,b.m,H'⟩ a.n:=⟨rfl,rfl,rfl,λp xs e=>ct p _ (by intro _ z;cases z) e,λp o u e=>ct p _ (by intro _ z;cases z) e⟩;have old:∀i,i<a.n->H' (b.m i)=b.H (b.m i):=λi hi=>by
  rcases F (b.m i)with⟨e1,_⟩|⟨o,vs,⟨j,h1,h2,h3⟩,e1,e2⟩
  ·exact e1
  ·have:=sb.inj i j (zW hi x.n) h2 h3;lia
 refine⟨⟨b.K,a.n,b.m,H'⟩,I',⟨x.k,zx _,x.m,λp xs e=>cc.tup p xs (x.tup p xs e),λp o u e=>cc.frz p o u (x.frz p o u e),λp t=>tabs p (x.tab p t)⟩,⟨s.len,λi j hi hj=>sb.inj i j (zW hi x.n) (zW hj x.n),λi o e=>?_,λi hi=>?_⟩,cc,λk d d' v hd rb=>?_⟩
 ·show ORep ⟨b.K,a.n,b.m,H'⟩ o (H' (b.m i));rw[old i (s.lt e)];have q:=sb.obj i o (hlen i o e);have lb:=(s.obj i o e).Nt;cases o with
  |lst ds=>obtain⟨vs,e1,r1⟩:=q;exact⟨vs,e1,r1.Jw cc lb⟩
  |dct kvs=>obtain⟨us,e1,k1,r1⟩:=q;exact⟨us,e1,k1,r1.Jw cc lb⟩
  |ins c fs=>obtain⟨C,dx,us,n1,e1,k1,r1⟩:=q;exact⟨C,dx,us,n1,e1,k1,r1.Jw cc lb⟩
  |tab C m=>obtain⟨c1,P1,e1,t1⟩:=q;exact⟨c1,P1,e1,tabs _ t1⟩
  |exc c fs=>
   obtain⟨C,oe,u,vs,n1,e1,k1,k2,z⟩:=q;refine⟨C,oe,u,vs,n1,e1,k1,k2,?_⟩;rcases z with z|⟨dx,o,us,e2,f2,k3,r1⟩
   ·exact .inl z
   ·exact .inr ⟨dx,o,us,e2,cc.frz _ _ _ f2,k3,r1.Jw cc lb⟩
  |gone=>trivial
 ·show H' (b.m i)≠vJ;rw[old i hi];exact sb.tr i (zW hi x.n)
 ·rw[s.len]at hd;refine ZGm sb cc (λi h1 h2 vs e=>?_) k d d' v hd rb;rcases F (b.m i)with⟨e1,z⟩|⟨o,vs',_,e1,e2⟩
  ·exact absurd ⟨i,h1,h2,rfl⟩ (z vs e)
  ·rw[e]at e1;cases e1;exact⟨o,e2⟩
theorem ZLK(s:Sim a G)(h:out E a (freeze G r) Q):
  out E a r λv H=>∀(vQ:List (jD×Obj))(σ:St)(sh:jM),Inv X vQ σ H sh->∃H',Inv X vQ σ H' sh/\Q v H':=by
 cases r with
 |err e G'=>exact h
 |bad=>exact h
 | ok d G'=>
  intro b v x sb rb vQ σ sh I;unfold freeze at h;dsimp only at h;split at h
  ·rename_i hG;split at h
   ·rename_i d' hd;obtain⟨c,Ic,xc,sc,cc,hr⟩:=ZI2 s hG x sb I;exact⟨c.H,Ic,h c v xc sc (hr _ _ _ _ hd rb)⟩
   ·exact⟨_,I,h b v x sb rb⟩
  ·exact⟨_,I,h b v x sb rb⟩
theorem Ay(ha:QE X E e t):QE X E e (Ar t):=λvQ s σ H Q I h=>by
 obtain⟨a,S,G,hk,rfl,sm,r,h⟩:=h;refine thn (ha vQ s σ a.H _ I ⟨a,S,G,hk,rfl,sm,r,ZLK (X:=X) sm h⟩) λu s' ⟨v,H',I',rv,q⟩=>?_
 obtain⟨H2,I2,q2⟩:=q vQ σ s' I';exact⟨v,H2,I2,rv,q2⟩
theorem N7 {st:jN} (ha:QS X E st (sAs t (gV i))):QS X E st (sAs (Ar t) (gV i)):=λvQ s σ H W I h=>by
 obtain ⟨a,S,G,hk,rfl,sm,r,h⟩:=h;have h2:Df E a (sAs t (gV i) S G) {W with nx:=λσ H=>∀(vQ:List (jD×Obj))(sh:jM),Inv X vQ σ H sh->∃H',Inv X vQ σ H' sh/\W.nx σ H'}:=by
  unfold sAs Ar at h;unfold sAs;cases ht:t S G with
  |err e G'=>rw[ht]at h;exact h
  |bad=>rw[ht]at h;exact h
  | ok d G'=>
   rw[ht]at h;intro b σ' x sb rb vQ sh I;unfold freeze at h;dsimp only at h;split at h
   ·rename_i hG;split at h
    ·rename_i d' hd;obtain⟨c,Ic,xc,sc,cc,hr⟩:=ZI2 sm hG x sb I;refine⟨c.H,Ic,h c σ' xc sc ⟨?_,λj e he=>?_⟩⟩
     ·rw[jk,<-rb.len,jk]
     ·rw[qF]at he;by_cases hij:i=j
      ·subst hij;rw[if_pos rfl]at he;by_cases hl:i<S.length
       ·rw[if_pos hl]at he;have e1:d'=e:=by simpa using he
        subst e1;obtain⟨v,e2,rv⟩:=rb.get i d (by rw[qF,if_pos rfl,if_pos hl]);exact⟨v,e2,hr _ _ _ _ hd rv⟩
       ·rw[if_neg hl]at he;cases he
      ·rw[if_neg hij]at he;obtain⟨v,e2,rv⟩:=rb.get j e (by rw[qF,if_neg hij];exact he);obtain⟨v',_,rv'⟩:=r.get j e he;exact⟨v,e2,rv.Jw cc rv'.bel⟩
    ·exact⟨_,I,h b σ' x sb rb⟩
   ·exact⟨_,I,h b σ' x sb rb⟩
 refine thn (ha vQ s σ a.H _ I ⟨a,S,G,hk,rfl,sm,r,h2⟩) λf s' hf=>?_
 cases f with
 |next=>
  obtain⟨σ',H',I',q⟩:=hf;obtain⟨H2,I2,q2⟩:=q vQ s' I';exact⟨σ',H2,I2,q2⟩
 |brk=>exact hf
 |cont=>exact hf
 |ret u=>exact hf
end
section
variable{S:DSt}{G:DH}
@[simp]theorem Gm:dV i S G=(match S[i]? with |some (vZ d)=>.ok d G|_=>.bad):=id rfl
@[simp]theorem ev_C:dC d S G=.ok d G:=id rfl
@[simp]theorem ev_Op{f:D->D->DH->R D}{a b:DE}:dOp f a b S G=(a S G).bind λx G1=>(b S G1).bind λy G2=>f x y G2:=id rfl
@[simp]theorem ev_Un{f:D->DH->R D}{a:DE}:dUn f a S G=(a S G).bind f:=id rfl
@[simp]theorem ev_Nil:Ah S G=.ok [] G:=id rfl
@[simp]theorem ZRj{a:DE}{r:DA}:Ad a r S G=(a S G).bind λx G1=>(r S G1).bind λxs G2=>.ok (x::xs) G2:=id rfl
@[simp]theorem ev_Fn{f:List D->DH->R D}{t:DA}:dFn f t S G=(t S G).bind f:=id rfl
@[simp]theorem ZRZ:Kr t S G=tidy G (t S G):=id rfl
@[simp]theorem ev_Frz:Ar t S G=freeze G (t S G):=id rfl
@[simp]theorem ev_asB{k:Bool}:asB (.bl k) G=.ok k G:=id rfl
@[simp]theorem ev_Tst:Ao t S G=(t S G).bind asB:=id rfl
@[simp]theorem ev_And{t u:DB}:Dc t u S G=(t S G).bind λk G1=>if k=vX then u S G1 else .ok vV G1:=id rfl
@[simp]theorem ev_Or{t u:DB}:dOr t u S G=(t S G).bind λk G1=>if k=vX then .ok vX G1 else u S G1:=id rfl
@[simp]theorem ev_Not{t:DB}:Eh t S G=(t S G).bind λk G1=>.ok (!k) G1:=id rfl
@[simp]theorem ZSD{u:DE}:Kh t u S G=(t S G).bind λx G1=>(asB x G1).bind λk G2=>if k=vX then u S G2 else .ok (.bl vV) G2:=id rfl
@[simp]theorem ev_OrV{u:DE}:Rp t u S G=(t S G).bind λx G1=>(asB x G1).bind λk G2=>if k=vX then .ok (.bl vX) G2 else u S G2:=id rfl
@[simp]theorem ZRy:ZCs t S G=(t S G).bind λx G1=>(asB x G1).bind λk G2=>.ok (.bl (!k)) G2:=id rfl
@[simp]theorem ZSE{f g:D->D->DH->R D}{a b c:DE}:Jp f g a b c S G=(a S G).bind λx G1=>(b S G1).bind λy G2=>(f x y G2).bind λz G3=>(asB z G3).bind λk G4=>
 if k=vX then(c S G4).bind λw G5=>g y w G5 else .ok (.bl vV) G4:=id rfl
@[simp]theorem ev_sNx:sNx S G=.nx S G:=id rfl
noncomputable def SR.then(r:SR)(u:DS):SR:=match r with
 |.nx S1 G1=>u S1 G1
 |r=>r
@[simp]theorem ZR7{t:DS}:Aj t u S G=(t S G).then u:=id rfl
@[simp]theorem ZRn:(SR.nx S G).then u=u S G:=id rfl
@[simp]theorem ZRl:(SR.rt d G).then u=.rt d G:=id rfl
@[simp]theorem ZRs{x:Xn}:(SR.err x G).then u=.err x G:=id rfl
@[simp]theorem ev_sEx:sEx t S G=(t S G).toS λ_ G1=>.nx S G1:=id rfl
@[simp]theorem ev_sRt:sRt t S G=(t S G).toS λd G1=>.rt d G1:=id rfl
@[simp]theorem ev_sIf{c:DB}{t:DS}:sIf c t u S G=(c S G).toS λk G1=>if k=vX then t S G1 else u S G1:=id rfl
@[simp]theorem ev_sAs:sAs t g S G=(t S G).toS λd G1=>(g d S G1).toS λS2 G2=>.nx S2 G2:=id rfl
@[simp]theorem ZRp{it:DI}{b:DS}:Gb it g b S G=(it S G).toS λJ G1=>(match J with
 |.pure xs=>Dj g b xs S G1
 |.mt i=>match G1[i]? with
  |some (.lst xs)=>forM i g b xs.length 0 S G1
  |_=>.bad
 |.fn n f=>Jf f g b n 0 S G1):=id rfl
@[simp]theorem ZRW:Ej t S G=(t S G).bind J9:=id rfl
@[simp]theorem ZRS{f:List D->DH->R ItD}{t:DA}:Ga f t S G=(t S G).bind f:=id rfl
@[simp]theorem Di:gV i d S G=.ok (S.set i (vZ d)) G:=id rfl
@[simp]theorem ZRU:Ds [] S G=.ok S G:=id rfl
@[simp]theorem ZRe{t:DG}{u:DGs}{r:List D}:Bq t u (d::r) S G=(t d S G).bind λS1 G1=>u r S1 G1:=id rfl
@[simp]theorem ZSC{n:Nat}{t:DGs}:Dn n t (.tup ds) S G=if ds.length=n then t ds S G else .bad:=id rfl
@[simp]theorem ev_gIx{o i:DE}{v:D}:gIx o i v S G=(o S G).bind λo G1=>(i S G1).bind λi G2=>(Xv o i v G2).bind λ_ G3=>.ok S G3:=id rfl
@[simp]theorem ev_MtL{f:D->List D->DH->R D}{o:DE}{t:DA}:Nf f o t S G=(o S G).bind λx G1=>if isL x G1=vX then(t S G1).bind λxs G2=>f x xs G2 else .bad:=id rfl
@[simp]theorem ZRh{it:DI}{caps:List Nat}{c:DB}:Ed it nt caps g c te S G=(it S G).bind λJ G1=>(match J with
 |.pure xs=>Cw g c te (Bx nt caps S) xs G1
 |.mt i=>match G1[i]? with
  |some (.lst xs)=>Ip i g c te (Bx nt caps S) xs.length 0 G1
  |_=>.bad
 |.fn n f=>G8 f g c te (Bx nt caps S) n 0 G1).bind Bb:=id rfl
@[simp]theorem ZMp:Cu S G=.ok vX G:=id rfl
@[simp]theorem Ii{k:DSt->DH->SR}:aft (.nx S G) k=k S G:=id rfl
@[simp]theorem aft_rt{k:DSt->DH->SR}:aft (.rt d G) k=.rt d G:=id rfl
@[simp]theorem ZQS{k:DSt->DH->SR}{x:Xn}:aft (.err x G) k=.err x G:=id rfl
theorem Im{b:DS}:Dj g b [] S G=.nx S G:=id rfl
theorem Gn{b:DS}{x:D}:Dj g b (x::xs) S G=(g x S G).toS λS1 G1=>aft (b S1 G1) (Dj g b xs):=id rfl
theorem Q0{c:DB}:Cw g c te S [] G=.ok [] G:=id rfl
theorem Jc{c:DB}{x:D}:Cw g c te S (x::xs) G=(g x S G).bind λS1 G1=>(c S1 G1).bind λk G2=>
   if k=vX then(te S1 G2).bind λd G3=>(Cw g c te S xs G3).bind λds G4=>.ok (d::ds) G4 else Cw g c te S xs G2:=id rfl
noncomputable def SR.ret(r:SR):R D:=match r with
 |.nx _ G'=>.ok .non G'
 |.rt d G'=>.ok d G'
 |.err x G'=>.err x G'
 |_=>.bad
@[simp]theorem ret_nx:(SR.nx S G).ret=.ok .non G:=id rfl
@[simp]theorem ret_rt:(SR.rt d G).ret=.ok d G:=id rfl
@[simp]theorem ZRg{x:Xn}:(SR.err x G).ret=.err x G:=id rfl
theorem Bv{np nl:Nat}{b:DS}:Cd np nl b ds G=if ds.length=np then tidy G (b (ds.map vZ++zk nl vJ) G).ret else .bad:=id rfl
end
section
variable{n:Nat}{G:DH}
@[simp]theorem ZRX:bel n .non=vX:=by simp[_D.bel]
@[simp]theorem ZKO{b:Bool}:bel n (.bl b)=vX:=by simp[_D.bel]
@[simp]theorem ZLd{b:Int}:bel n (.int b)=vX:=by simp[_D.bel]
@[simp]theorem ZNA{b:Str}:bel n (.str b)=vX:=by simp[_D.bel]
@[simp]theorem Mg{b:List D}:bel n (.tup b)=bels n b:=by simp[_D.bel]
@[simp]theorem ZRk{b:Nat}:bel n (.ref b)=decide (b<n):=by simp[_D.bel]
@[simp]theorem ZRV:bels n []=vX:=by simp[_D.bels]
@[simp]theorem ZN1:bels n (d::ds)=(bel n d&&bels n ds):=by simp[_D.bels]
theorem ZOn:bels n ds=vX↔∀d∈ds,bel n d=vX:=by
 induction ds with
 |nil=>simp
 |cons d ds ih=>simp[ih]
@[simp]theorem Mz{es:List D}:bels n (ds++es)=(bels n ds&&bels n es):=by
 induction ds with
 |nil=>simp
 |cons d ds ih=>simp[ih,Bool.and_assoc]
theorem Jd{f:α->D}{xs:List α}(h:∀x∈xs,bel n (f x)=vX):bels n (xs.map f)=vX:=by rw[ZOn];intro d hd;obtain⟨x,hx,rfl⟩:=zC.mp hd;exact h x hx
@[simp]theorem Iw{xs:List Int}:bels n (xs.map D.int)=vX:=Jd λ_ _=>ZLd
@[simp]theorem ZHx{xs:List Bool}:bels n (xs.map D.bl)=vX:=Jd λ_ _=>ZKO
@[simp]theorem Ft{xs:List Str}:bels n (xs.map D.str)=vX:=Jd λ_ _=>ZNA
theorem Bp(h:bel G.length d=vX):tidy G (.ok d G)=.ok d G:=by unfold tidy;simp[h]
theorem R8(h:bel G.length d=vX):tidy G (.ok d (G++L))=.ok d G:=by unfold tidy;simp[h]
theorem ZGC(L:DH)(hk:L[k]?=vZ (.lst ds))(h:bels G.length ds=vX):tidy G (.ok (.ref (G.length+k)) (G++L))=.ok (.ref G.length) (G++[.lst ds]):=by
 unfold tidy;have e:(G++L)[G.length+k]?=vZ (.lst ds):=by rw[zG (by lia)];simpa using hk
 simp[e,Nt,h]
theorem Jv(h:bels G.length ds=vX):tidy G (.ok (.ref G.length) (G++ .lst ds::L))=.ok (.ref G.length) (G++[.lst ds]):=ZGC (.lst ds::L) (k:=0) rfl h
@[simp]theorem ZR8{x:Xn}:tidy G (.err x G')=.err x G':=id rfl
theorem Fw(h:bel G.length d=vX):freeze G (.ok d G)=.ok d G:=by unfold freeze;simp[h,Jm]
theorem ZHX{n:Nat}:∀{ds:List D},bels n ds=vX->Ng (Jm G' n (k+1)) ds=vZ ds
 |[],_=>rfl
 |d::ds,h=>by simp only[ZN1,zV]at h;unfold Ng;rw[ZHX h.2];simp[Jm,h.1]
theorem ZJ5(L:DH)(hk:L[k]?=vZ (.lst ds))(h:bels G.length ds=vX):freeze G (.ok (.ref (G.length+k)) (G++L))=.ok (.fl ds) G:=by
 unfold freeze;have e:(G++L)[G.length+k]?=vZ (.lst ds):=by rw[zG (by lia)];simpa using hk
 have m:Jm (G++L) G.length 9 (.ref (G.length+k))=vZ (.fl ds):=by unfold Jm;simp[e,ZHX h]
 simp[m]
theorem Ck(h:bels G.length ds=vX):freeze G (.ok (.ref G.length) (G++ .lst ds::L))=.ok (.fl ds) G:=ZJ5 (.lst ds::L) (k:=0) rfl h
theorem ZOv(L:DH)(k:Nat):(G++L)[G.length+k]?=L[k]? :=by rw[zG (by lia)];simp
theorem J8(L:DH):(G++L)[G.length]?=L[0]? :=ZOv L 0
theorem ZKW(L:DH)(k:Nat)(o:DO):(G++L).set (G.length+k) o=G++L.set k o:=by rw[List.set_append_right _ _ (by lia)];simp
theorem Ld(L:DH)(o:DO):(G++L).set G.length o=G++L.set 0 o:=ZKW L 0 o
theorem Jo{lo:Int}:Cr lo 0=[]:=id rfl
theorem Iv{lo:Int}{n:Nat}:Cr lo (n+1)=.int lo::Cr (lo+1) n:=by
 unfold Cr;rw[j0,zz,q8]
 congr 1
 ·simp
 ·apply jj;intro k _;simp only[Function.comp]
  congr 1
  lia
end
section
variable{G:DH}{i j:Int}{x y:Str}{k l:Bool}
@[simp]theorem ev_add:Ba (.int i) (.int j) G=.ok (.int (i+j)) G:=id rfl
@[simp]theorem Ma:Ba (.str x) (.str y) G=if x.length+y.length<=1000000 then .ok (.str (x++y)) G else .bad:=id rfl
@[simp]theorem R1{ys:List D}:Ba (.tup xs) (.tup ys) G=if xs≠[]/\xs.length+ys.length<=1000000 then .ok (.tup (xs++ys)) G else .bad:=id rfl
@[simp]theorem ev_sub:Fd (.int i) (.int j) G=.ok (.int (i-j)) G:=id rfl
theorem log2_small{n:Nat}(h:n<10^100):n.log2<9000:=by
 by_cases hn:n=0
 ·subst hn;decide
 ·rw[Nat.log2_lt hn];exact Nat.lt_trans h (by decide)
@[simp]theorem ZR4{n:Nat}[NeZero n](h:n<10^100):Dz (.int i) (.int (no_index (OfNat.ofNat n))) G=.ok (.int (i/OfNat.ofNat n)) G:=
 if_pos ⟨Int.ofNat_lt.mpr (Nat.pos_of_ne_zero (NeZero.ne n)),log2_small h⟩
@[simp]theorem ev_mod:Bg (.int i) (.int j) G=if 0<j then .ok (.int (i%j)) G else .bad:=id rfl
@[simp]theorem ev_pow:Jb (.int i) (.int j) G=if 0<=j/\j<=1000000/\i.natAbs<18446744073709551616 then .ok (.int (i^j.toNat)) G else .bad:=id rfl
@[simp]theorem ev_lt:Du (.int i) (.int j) G=.ok (.bl (decide (i<j))) G:=id rfl
@[simp]theorem ev_le:G6 (.int i) (.int j) G=.ok (.bl (decide (i<=j))) G:=id rfl
@[simp]theorem ev_gt:Es (.int i) (.int j) G=.ok (.bl (decide (j<i))) G:=id rfl
@[simp]theorem ev_ge:Yg (.int i) (.int j) G=.ok (.bl (decide (j<=i))) G:=id rfl
@[simp]theorem ev_eq:Bj (.int i) (.int j) G=.ok (.bl (decide (i=j))) G:=id rfl
@[simp]theorem ev_ne:Ff (.int i) (.int j) G=.ok (.bl (!decide (i=j))) G:=id rfl
@[simp]theorem ev_eqS:Bj (.str x) (.str y) G=.ok (.bl (decide (x=y))) G:=id rfl
@[simp]theorem ev_neS:Ff (.str x) (.str y) G=.ok (.bl (!decide (x=y))) G:=id rfl
@[simp]theorem ev_neg:Ho (.int i) G=.ok (.int (-i)) G:=id rfl
@[simp]theorem ev_is:Kw d .non G=.ok (.bl (Cq d)) G:=by cases d<;>exact id rfl
@[simp]theorem ZRc:Ka d .non G=.ok (.bl (!Cq d)) G:=by cases d<;>exact id rfl
@[simp]theorem ev_max:Oq [.int i,.int j] G=.ok (.int (max i j)) G:=by
 show R.ok (D.int (if j>i then j else i)) G=_
 congr 2
 split <;> lia
@[simp]theorem ZSB:V5 [.bl k] G=.ok (.int (if k then 1 else 0)) G:=id rfl
@[simp]theorem ZRd:Ei (.fl ds) G=vZ ds:=id rfl
@[simp]theorem ZH3{n:Nat}:Ei (.ref n) G=(match G[n]? with |some (.lst xs)=>vZ xs|_=>vJ):=id rfl
@[simp]theorem ZRv:Dl [.str x] G=if x.length<=1000000 then .ok (.int x.length) G else .bad:=id rfl
@[simp]theorem ZRx:Dl [.tup ds] G=.ok (.int ds.length) G:=id rfl
@[simp]theorem ZRm:Dl [.fl ds] G=.ok (.int ds.length) G:=id rfl
@[simp]theorem ev_ixT:Af (.tup ds) (.int i) G=(match atI ds i with |some v=>.ok v G|none=>.bad):=id rfl
@[simp]theorem ev_ixF:Af (.fl ds) (.int i) G=(match atI ds i with |some v=>.ok v G|none=>.bad):=id rfl
@[simp]theorem ev_ixR{n:Nat}:Af (.ref n) (.int i) G=(match G[n]? with |some (.lst xs)=>(match atI xs i with |some v=>.ok v G|none=>.bad)|_=>.bad):=by
 unfold Af;simp only[ZH3];cases G[n]? with
 |none=>rfl
 |some o=>cases o<;>rfl
theorem ZMD{n k:Nat}(h:k<n):ixN n (k:Int)=vZ k:=by unfold ixN;rw[if_pos (by lia),if_pos (by lia)];simp
theorem ZLV{xs:List α}{k:Nat}{d:α}(h:xs[k]?=vZ d):atI xs (k:Int)=vZ d:=by unfold atI;rw[ZMD (zX.mp h).1];exact h
theorem Ec{xs:List α}{j:Int}{k:Nat}{d:α}(e:j=k)(h:xs[k]?=vZ d):atI xs j=vZ d:=by subst e;exact ZLV h
theorem ZOC{xs:List α}{j:Int}(h0:j<0)(h: -(xs.length:Int)<=j):atI xs j=vZ (xs[(j+xs.length).toNat]'(by lia)):=by unfold atI ixN;rw[if_neg (by lia),if_pos h];exact zQ (by lia)
@[simp]theorem atI_0{a:α}{xs:List α}:atI (a::xs) 0=vZ a:=Ec (k:=0) rfl rfl
@[simp]theorem atI_1{a b:α}{xs:List α}:atI (a::b::xs) 1=vZ b:=Ec (k:=1) rfl rfl
@[simp]theorem atI_2{a b c:α}{xs:List α}:atI (a::b::c::xs) 2=vZ c:=Ec (k:=2) rfl rfl
@[simp]theorem atI_3{a b c d:α}{xs:List α}:atI (a::b::c::d::xs) 3=vZ d:=Ec (k:=3) rfl rfl
@[simp]theorem atI_4{a b c d e:α}{xs:List α}:atI (a::b::c::d::e::xs) 4=vZ e:=Ec (k:=4) rfl rfl
@[simp]theorem atI_5{a b c d e f:α}{xs:List α}:atI (a::b::c::d::e::f::xs) 5=vZ f:=Ec (k:=5) rfl rfl
@[simp]theorem atI_6{a b c d e f g:α}{xs:List α}:atI (a::b::c::d::e::f::g::xs) 6=vZ g:=Ec (k:=6) rfl rfl
@[simp]theorem ZRw:Bl ds G=if ds.length<=1000000 then .ok (.tup ds) G else .bad:=id rfl
@[simp]theorem ZRo:Bb ds G=if ds.length<=1000000 then .ok (.ref G.length) (G++[.lst ds])else .bad:=id rfl
@[simp]theorem ZR9:Lw [.fl ds] G=.ok (.tup ds) G:=id rfl
@[simp]theorem ZR0{n:Nat}:Lw [.ref n] G=(match G[n]? with |some (.lst xs)=>.ok (.tup xs) G|_=>.bad):=by
 unfold Lw;simp only[ZH3];cases G[n]? with
 |none=>rfl
 |some o=>cases o<;>rfl
@[simp]theorem ev_itT:J9 (.tup ds) G=.ok (.pure ds) G:=id rfl
@[simp]theorem ev_itF:J9 (.fl ds) G=.ok (.pure ds) G:=id rfl
@[simp]theorem ZR2:rng1 [.int j] G=if inR j then .ok (.pure (Cr 0 j.toNat)) G else .bad:=id rfl
theorem Hm(h0: -1000000000<=i)(h:i<=1000000000):inR i:=⟨by lia,by lia⟩
@[simp]theorem ZSF{n:Nat}:isL (.ref n) G=(match G[n]? with |some (.lst _)=>vX|_=>vV):=id rfl
@[simp]theorem ev_app{n:Nat}:Lg (.ref n) [d] G=(match G[n]? with |some (.lst xs)=>if xs.length<1000000 then .ok .non (G.set n (.lst (xs++[d])))else .bad|_=>.bad):=id rfl
@[simp]theorem ZRR{n:Nat}:Xv (.ref n) (.int i) d G=(match G[n]? with |some (.lst xs)=>(match ixN xs.length i with |some j=>.ok .non (G.set n (.lst (xs.set j d)))|none=>.bad)|_=>.bad):=id rfl
@[simp]theorem ZHw{ks:List Bool}:Pn [.fl (ks.map D.bl)] G=.ok (.bl (ks.all id)) G:=by simp[Pn]
@[simp]theorem ZJQ{ks:List Int}:Lh [.fl (ks.map D.int)] G=.ok (.int ks.sum) G:=by simp[Lh]
@[simp]theorem ZR3:K8 [d,.ty "int"] G=(match tyD G d with |some .int=>.ok (.bl vX) G|some .bl=>.ok (.bl vX) G|some _=>.ok (.bl vV) G|none=>.bad):=by
 unfold K8;dsimp only;cases tyD G d with
 |none=>rfl
 |some t=>cases t<;>rfl
@[simp]theorem ZRr:K8 [d,.ty "bool"] G=(match tyD G d with |some .bl=>.ok (.bl vX) G|some _=>.ok (.bl vV) G|none=>.bad):=by
 unfold K8;dsimp only;cases tyD G d with
 |none=>rfl
 |some t=>cases t<;>rfl
end
section
variable{c:Prop}[Decidable c]
@[simp]theorem ite_ok{a b:α}:(if c then R.ok a G else R.ok b G)=R.ok (if c then a else b) G:=by split <;> rfl
theorem ZNZ{S':DSt}:(if c then SR.nx S G else SR.nx S' G')=SR.nx (if c then S else S') (if c then G else G'):=by split <;> rfl
theorem ZOk{a b:α}{l m:List α}:(if c then a::l else b::m)=(if c then a else b)::(if c then l else m):=by split <;> rfl
theorem ZOo{a b:α}:(if c then vZ a else vZ b)=vZ (if c then a else b):=by split <;> rfl
theorem ite_int{a b:Int}:(if c then D.int a else D.int b)=D.int (if c then a else b):=by split <;> rfl
end
section
variable{X:Cx}{E:XK}
end
section
variable{S:DSt}{G:DH}{n:Nat}{kvs:List (Key×D)}
end
section
noncomputable def okD:Nat->D->Bool
 |0,_=>vV
 |_+1,.non=>vX
 |_+1,.int _=>vX
 |_+1,.str _=>vX
 |n+1,.tup ds=>ds.all (okD n)
 |n+1,.fl ds=>ds.all (okD n)
 |_+1,_=>vV
theorem ZAR:∀{n m:Nat}{d:D},okD n d=vX->n<=m->okD m d=vX
 |0,_,_,h,_=>by cases h
 |n+1,0,_,_,h=>by lia
 | n+1,m+1,d,h,hm=>by
  cases d with
  |tup ds=>
   simp only[okD,qJ]at h⊢;exact λx hx=>ZAR (h x hx) (by lia)
  |fl ds=>
   simp only[okD,qJ]at h⊢;exact λx hx=>ZAR (h x hx) (by lia)
  |_=>first|rfl|(simp[okD]at h)
theorem ZDR{f:D->D->Option Bool}{P:D->Prop}(hf:∀x y,P x->P y->∃b,f x y=vZ b/\(b=vX↔x=y)):∀{xs ys:List D},(∀x∈xs,P x)->(∀y∈ys,P y)->
  ∃b,eqZ f xs ys=vZ b/\(b=vX↔xs.take ys.length=ys.take xs.length)
 |[],ys,_,_=>⟨vX,by cases ys<;>rfl,by simp⟩
 |x::xs,[],_,_=>⟨vX,rfl,by simp⟩
 |x::xs,y::ys,hx,hy=>by obtain⟨b,e1,h1⟩:=hf x y (hx x (by simp)) (hy y (by simp));obtain⟨c,e2,h2⟩:=ZDR hf (λz hz=>hx z (zY _ hz)) (λz hz=>hy z (zY _ hz));refine⟨b&&c,by simp[eqZ,e1,e2],?_⟩;simp[h1,h2]
theorem ZED{G:DH}:∀(n:Nat)(d e:D),okD n d=vX->okD n e=vX->∃b,eqD n G d e=vZ b/\(b=vX↔d=e)
 |0,d,e,h,_=>by cases h
 | n+1,d,e,h1,h2=>by
  have ih:=ZED (G:=G) n;cases d with
  |bl _=>simp[okD]at h1
  |ty _=>simp[okD]at h1
  |ref _=>simp[okD]at h1
  | tup xs=>
   cases e with
   |bl _=>simp[okD]at h2
   |ty _=>simp[okD]at h2
   |ref _=>simp[okD]at h2
   |tup ys=>
    simp only[okD,qJ]at h1 h2;obtain⟨b,e1,h3⟩:=ZDR ih (λx hx=>h1 x hx) (λx hx=>h2 x hx);refine⟨b&&xs.length==ys.length,by simp[eqD,view,e1],?_⟩;simp only[zV,h3,beq_iff_eq,D.tup.injEq];constructor
    ·rintro⟨e,hl⟩;rw[<-hl,jW]at e;rw[e,hl,jW]
    ·rintro rfl;exact⟨rfl,rfl⟩
   |_=>exact⟨vV,by simp[eqD,view],by simp⟩
  | fl xs=>
   cases e with
   |bl _=>simp[okD]at h2
   |ty _=>simp[okD]at h2
   |ref _=>simp[okD]at h2
   |fl ys=>
    simp only[okD,qJ]at h1 h2;by_cases hl:xs.length=ys.length
    ·obtain⟨b,e1,h3⟩:=ZDR ih (λx hx=>h1 x hx) (λx hx=>h2 x hx);refine⟨b,by simp[eqD,view,hl,e1],?_⟩;rw[h3,<-hl,jW,hl,jW];simp
    ·exact⟨vV,by simp[eqD,view,hl],by simp;rintro rfl;exact hl rfl⟩
   |_=>exact⟨vV,by simp[eqD,view],by simp⟩
  |non=>cases e<;>first|(simp[okD]at h2;done)|exact⟨_,rfl,by simp[eqV]⟩
  |int i=>cases e<;>first|(simp[okD]at h2;done)|exact⟨_,rfl,by simp[eqV]⟩
  |str i=>cases e<;>first|(simp[okD]at h2;done)|exact⟨_,rfl,by simp[eqV]⟩
open Classical in
theorem ZK1{e:D}(h1:okD 30 d=vX)(h2:okD 30 e=vX):Bj d e G=.ok (.bl (decide (d=e))) G:=by
 obtain⟨b,e1,h⟩:=ZED (G:=G) 30 d e h1 h2;unfold Bj;rw[e1];cases b with
 |true=>simp[h.mp rfl]
 |false=>simp[show¬d=e from λz=>zv (h.mpr z)]
open Classical in
theorem ZM1{e:D}(h1:okD 30 d=vX)(h2:okD 30 e=vX):Ff d e G=.ok (.bl (!decide (d=e))) G:=by
 obtain⟨b,e1,h⟩:=ZED (G:=G) 30 d e h1 h2;unfold Ff;rw[e1];cases b with
 |true=>simp[h.mp rfl]
 |false=>simp[show¬d=e from λz=>zv (h.mpr z)]
theorem ZL7(h1:okD 30 d=vX):Bj d d G=.ok (.bl vX) G:=by rw[ZK1 h1 h1];simp
theorem Px{n:Nat}(h:∀d∈ds,okD n d=vX):okD (n+1) (.tup ds)=vX:=by simpa[okD]using h
theorem ZJi{n:Nat}(h:∀d∈ds,okD n d=vX):okD (n+1) (.fl ds)=vX:=by simpa[okD]using h
end
def cutD{α:Type}(xs:List α)(lo hi:Option Int):List α:=(xs.drop (HT.sIx xs.length 0 lo)).take (HT.sIx xs.length xs.length hi-HT.sIx xs.length 0 lo)
def Qk(z:Str)(lo hi:Option Int):Str:=⟨(cutD z.cps.toList lo hi).toArray⟩
theorem Lx(xs:List α)(lo hi:Option Int):(cutD xs lo hi).length<=xs.length:=by unfold cutD;rw[qW,qK];lia
def Dp(t:Option DE)(S:DSt)(G:DH):R (Option Int):=match t with
 |none=>.ok vJ G
 |some t=>(t S G).bind λd G1=>match d with
  |.int i=>.ok (vZ i) G1
  |_=>.bad
def Ln(d:D)(lo hi:Option Int)(G:DH):R D:=match d with
 |.str z=>if z.length<=1000000 then .ok (.str (Qk z lo hi)) G else .bad
 |.tup xs=>.ok (.tup (cutD xs lo hi)) G
 |d=>match Ik d G with
  |some xs=>.ok (.ref G.length) (G++[.lst (cutD xs lo hi)])
  |none=>.bad
def dSl(e:DE)(lo hi:Option DE):DE:=λS G=>(e S G).bind λd G1=>(Dp lo S G1).bind λl G2=>(Dp hi S G2).bind λh G3=>Ln d l h G3
theorem Jq(n:Nat)(v:Int):((HT.sIx n n (vZ v):Nat):Int)=max 0 (min (if v<0 then v+(n:Int)else v) n)/\((HT.sIx n 0 (vZ v):Nat):Int)=max 0 (min (if v<0 then v+(n:Int)else v) n):=by
 unfold HT.sIx;by_cases hv:v<0
 ·simp only[if_pos hv];lia
 ·simp only[if_neg hv];lia
theorem ZNU(xs:Array Nat)(i k:Nat):(zy k).filterMap (λm=>xs[i+m]?)=(xs.toList.drop i).take k:=by
 induction k generalizing i with
 |zero=>simp
 | succ k ih=>
  rw[j0,zH];have e:(List.map Nat.succ (zy k)).filterMap (λm=>xs[i+m]?)=(zy k).filterMap (λm=>xs[i+1+m]?):=by
   rw[qU]
   congr 1
   funext m;simp only[Function.comp]
   congr 1
   lia
  rw[e,ih (i+1)];by_cases hi:i<xs.size
  ·have h1:xs[i+0]?=vZ xs[i]:=by simp[hi]
   rw[h1];have h2:xs.toList.drop i=xs[i]::xs.toList.drop (i+1):=by rw[qz (by simpa using hi)];simp
   rw[h2];simp
  ·have h1:xs[i+0]?=vJ:=by simp;lia
   rw[h1];simp only;rw[qL (by simp;lia),qL (by simp;lia)];simp
theorem ZPq(x:Str)(lo hi:Option Int):Txt.slice x lo hi=Qk x lo hi:=by
 have hlen:x.length=x.cps.toList.length:=by simp[Str.length]
 have key:(Builtin.Str.strSliceIndices lo hi 1 x.length).filterMap (x.cps[·]?)=cutD x.cps.toList lo hi:=by
  have e1:∀(v:Option Int),(match v with |none=>(0:Int)|some i=>max 0 (min (if i<0 then i+(x.length:Int)else i) x.length))=((HT.sIx x.length 0 v:Nat):Int):=λv=>by
   cases v with
   |none=>rfl
   |some i=>exact(Jq x.length i).2.symm
  have e2:∀(v:Option Int),(match v with |none=>(x.length:Int)|some i=>max 0 (min (if i<0 then i+(x.length:Int)else i) x.length))=((HT.sIx x.length x.length v:Nat):Int):=λv=>by
   cases v with
   |none=>rfl
   |some i=>exact(Jq x.length i).1.symm
  have e3:Builtin.Str.strSliceIndices lo hi 1 x.length=sliceRange ((HT.sIx x.length 0 lo:Nat):Int) ((HT.sIx x.length x.length hi:Nat):Int) 1:=by
   rw[<-e1 lo,<-e2 hi];unfold Builtin.Str.strSliceIndices
   cases lo<;>cases hi<;>simp
  rw[e3];unfold sliceRange cutD;rw[qU,<-hlen];generalize HT.sIx x.length 0 lo=i;generalize HT.sIx x.length x.length hi=j;have e4:((λa=>x.cps[a]?) ∘ λ(k:Nat)=>((i:Int)+1*(k:Int)).toNat)=λk=>x.cps[i+k]? :=by
   funext k;simp only[Function.comp]
   congr 1
   lia
  have e5:(if(1:Int)>0 then if(i:Int)<(j:Int)then((j:Int)-i+1-1)/1 else 0 else if(i:Int)>(j:Int)then((i:Int)-j-1-1) / -1 else 0).toNat=j-i:=by
   rw[if_pos (by lia)];split
   ·rw[Int.ediv_one];lia
   ·lia
  rw[e4,e5];exact ZNU x.cps i (j-i)
 unfold Txt.slice Qk;split
 ·rename_i h;have h':(Builtin.Str.strSliceIndices lo hi 1 x.length).length=x.length:=by simpa using h
  have hsz:(cutD x.cps.toList lo hi).length=x.cps.toList.length∨(cutD x.cps.toList lo hi).length<x.cps.toList.length:=by have:=Lx x.cps.toList lo hi;lia
  have hall:(cutD x.cps.toList lo hi).length=x.cps.toList.length:=by
   have e3:(Builtin.Str.strSliceIndices lo hi 1 x.length).length=HT.sIx x.length x.length hi-HT.sIx x.length 0 lo:=by
    have e1:∀(v:Option Int),(match v with |none=>(0:Int)|some i=>max 0 (min (if i<0 then i+(x.length:Int)else i) x.length))=((HT.sIx x.length 0 v:Nat):Int):=λv=>by
     cases v with
     |none=>rfl
     |some i=>exact(Jq x.length i).2.symm
    have e2:∀(v:Option Int),(match v with |none=>(x.length:Int)|some i=>max 0 (min (if i<0 then i+(x.length:Int)else i) x.length))=((HT.sIx x.length x.length v:Nat):Int):=λv=>by
     cases v with
     |none=>rfl
     |some i=>exact(Jq x.length i).1.symm
    have e3:Builtin.Str.strSliceIndices lo hi 1 x.length=sliceRange ((HT.sIx x.length 0 lo:Nat):Int) ((HT.sIx x.length x.length hi:Nat):Int) 1:=by
     rw[<-e1 lo,<-e2 hi];unfold Builtin.Str.strSliceIndices
     cases lo<;>cases hi<;>simp
    rw[e3];unfold sliceRange;rw[zZ,List.length_range];generalize HT.sIx x.length 0 lo=i;generalize HT.sIx x.length x.length hi=j;rw[if_pos (by lia)];split
    ·rw[Int.ediv_one];lia
    ·lia
   have hj:HT.sIx x.length x.length hi<=x.length:=HT.ZFz _ _ (zx _) hi;unfold cutD;rw[qW,qK,<-hlen];lia
  have hs:(cutD x.cps.toList lo hi).Sublist x.cps.toList:=(List.take_sublist _ _).trans (List.drop_sublist _ _);rw[hs.eq_of_length hall]
 ·rw[key]
section
variable{X:Cx}{E:XK}
theorem Io:SlR X (λx lo hi H Q=>∃z:Str,x=.str z/\z.length<=sizeLine/\Q (.str (Qk z lo hi)) H):=by
 intro vQ s σ H x v vl vu lo hi sl Q I rx hs pl pu h;obtain⟨z,rfl,hz,q⟩:=h;obtain⟨t,rfl⟩:=rx;refine⟨"str",_,PySem.F.slot_str_getitem.lookup,typeIs_str _ _ _,?_⟩
 have fin:∀(l u:Option (Int×Tok)),vl=partValue l->vu=partValue u->l.map (·.1)=lo->u.map (·.1)=hi->xG (xA X.prog X.w) X.A (getItem (.str z t) (.ref sl)) (EP X vQ σ Q) X.xe s:=by
  rintro l u rfl rfl rfl rfl
  refine wpAny_getItem_str_slice (l:=l) (u:=u) (st:=vJ) (show s.heap.IsSlice sl l u vJ from hs) rfl ?_
  have e:∀Q',(Txt.slice z (l.map (·.1)) (u.map (·.1))).length<=sizeLine/\(∀t' k,Q' (.str (Txt.slice z (l.map (·.1)) (u.map (·.1))) t') {s with toks:=k})->(sliceMade z t l u vJ).post Q' s:=λQ' hq=>post_val_or_str hq
  refine e _ ⟨z9 (Txt.slice_le z _ _) hz,λt' k=>?_⟩;rw[ZPq];exact⟨.str _,H,I.tok k,⟨t',rfl⟩,q⟩
 cases pl with
 |none=>cases pu with
  |none=>exact fin vJ vJ rfl rfl rfl rfl
  |int j tj=>exact fin vJ (vZ (j,tj)) rfl rfl rfl rfl
 |int i ti=>cases pu with
  |none=>exact fin (vZ (i,ti)) vJ rfl rfl rfl rfl
  |int j tj=>exact fin (vZ (i,ti)) (vZ (j,tj)) rfl rfl rfl rfl
theorem ZMV{prog:jI}{A:jE}{E:jO->jM->Prop}{t sl:jD}{items:Array jO}{vl vu:jO}{Q:jO->jM->Prop}(ht:IsTup s.heap t items)(hs:s.heap.IsSliceOf sl vl vu .none)(pl:IsPart vl lo)(pu:IsPart vu hi)
  (hw:HT.sIx items.size 0 lo=0/\HT.sIx items.size items.size hi=items.size) (h:Q (.ref t) s):xG (xA prog w) A (getItem (.ref t) (.ref sl)) Q E s:=by
 obtain⟨os,hos,hcs,hds⟩:=id hs;have hTs:s.TypeIs (.ref sl) "slice":=⟨os,hos,hcs⟩;unfold getItem
 try with_reducible refine xM ?_
 first|refine xI (xR ?_)|skip
 refine xI (wpAny_sequenceKey ht.typeIs (by decide) ?_);refine xI (wpAny_callSpecial?_slot (name:=Str.ofString "__getitem__") ht.typeIs PyProof.Rows.slot_tuple_getitem
  (wpAny_call_entry PyProof.Rows.slot_tuple_getitem ht.typeIs entry_tuple_getitem ?_ (args_tuple_getitem _ _)))
 show xG _ _ (Builtin.Tuple.tupleItemsOf (.ref t) >>=_) _ _ s;refine xI (tupleItemsOf_ ht ?_);refine xI (wpAny_typeOf hTs ?_);rw[if_pos (by decide)];refine xI (HT.ZJd hs pl pu ?_);have hyes:(((HT.sIx items.size 0 lo:Nat):Int)==0&&(1:Int)==1&&(HT.sIx items.size items.size hi-HT.sIx items.size 0 lo)==items.size)=vX:=by rw[hw.1,hw.2];simp
 show xG _ _ (if(((HT.sIx items.size 0 lo:Nat):Int)==0&&(1:Int)==1&&(HT.sIx items.size items.size hi-HT.sIx items.size 0 lo)==items.size)=vX then _ else _) _ _ s;rw[if_pos hyes];refine xI ?_;unfold Builtin.Tuple.tupleIsExact;refine xI (wpAny_typeOf ht.typeIs (xR ?_));rw[if_pos (by decide)];exact xI (wpAny_rule (xR ⟨_,rfl,xR h⟩))
theorem ZLG:SlR X (λx lo hi H Q=>∃a xs,x=.ref a/\SqT X.K H a xs/\(HT.sIx xs.length 0 lo=0/\HT.sIx xs.length xs.length hi=xs.length)/\Q (.ref a) H):=by
 intro vQ s σ H x v vl vu lo hi sl Q I rx hs pl pu h;obtain⟨a,xs,rfl,hx,hw,q⟩:=h;cases rx;obtain⟨its,r,ht,hz⟩:=I.tuple hx;have hlen:its.toArray.size=xs.length:=by rw[zK];exact r.length.symm
 exact⟨"tuple",_,PyProof.Rows.slot_tuple_getitem.lookup,ht.typeIs,ZMV ht hs pl pu (by rw[hlen];exact hw) ⟨.ref a,H,I,rfl,q⟩⟩
def Qn(E:XK)(a:Wd)(r:R (Option Int))(Q:Option Int->Hp->Prop):Prop:=match r with
 |.ok k G=>∀(b:Wd),Ext a b->Sim b G->Q k b.H
 |.err x G=>XOk E a x G
 |.bad=>False
def QO(X:Cx)(E:XK)(e:Option jF)(t:Option DE):Prop:=PO X e (λσ H Q=>∃(a:Wd)(S:DSt)(G:DH),a.K=X.K/\a.H=H/\Sim a G/\RepS a S σ/\Qn E a (Dp t S G) Q)
theorem _root_._L.PO.mono{e:Option jF}{t t':TO}(h:PO X e t)(w:∀σ H Q,t' σ H Q->t σ H Q):PO X e t':=λvQ s σ H Q I q=>h vQ s σ H Q I (w σ H Q q)
theorem Dg:QO X E vJ vJ:=ZMo.mono λσ H Q h=>by obtain⟨a,S,G,hk,rfl,s,r,h⟩:=h;exact h a (Ext.refl a) s
theorem By(he:QE X E e t):QO X E (vZ e) (vZ t):=(ZNE he).mono λσ H Q h=>by
 obtain⟨a,S,G,hk,rfl,s,r,h⟩:=h;refine⟨a,S,G,hk,rfl,s,r,?_⟩
 have h':Qn E a ((t S G).bind λd G1=>match d with | .int i=>.ok (vZ i) G1|_=>.bad) Q:=h
 cases ht:t S G with
 |ok d G1=>
  rw[ht]at h';intro b v x sb rv;cases d with
  |int i=>exact⟨i,rv,h' b x sb⟩
  |_=>exact h'.elim
 |err x G1=>rw[ht]at h';exact h'
 |bad=>rw[ht]at h';exact h'
theorem Reps.cutD(r:Reps a ds vs)(lo hi:Option Int):Reps a (_D.cutD ds lo hi) (Ms vs lo hi):=by unfold _D.cutD Ms;rw[r.length];exact(r.drop _).take _
theorem Qn.imp{r:R (Option Int)}{Q Q':Option Int->Hp->Prop}(h:Qn E a r Q)(w:∀v H,Q v H->Q' v H):Qn E a r Q':=by
 cases r with
 |ok d G=>exact λb x s=>w _ _ (h b x s)
 |err e G=>exact h
 |bad=>exact h
theorem ZGc{r:R (Option Int)}{f:Option Int->DH->R D}(h:out E a (r.bind f) Q):
  Qn E a r (λk H=>∃(b:Wd)(G:DH),b.H=H/\Ext a b/\Sim b G/\r=.ok k G/\out E b (f k G) Q):=by
 cases r with
 |ok d G=>exact λb x s=>⟨b,G,rfl,x,s,rfl,out.mono x h⟩
 |err e G=>exact h
 |bad=>exact h
theorem Cp{lo hi:Option jF}{tl th:Option DE}{p2 pos:Pos}(he:QE X E e te)(hl:QO X E lo tl)(hu:QO X E hi th):QE X E (.Subscript e (.Slice lo hi vJ p2) pos) (dSl te tl th):=
 (ZP6 (ZO6.or (ZOu.or (ZLG.or Io))) he hl hu).mono λσ H Q h=>by
 obtain⟨a,S,G,hk,rfl,s,r,h⟩:=h;refine⟨a,S,G,hk,rfl,s,r,(Hf h).imp ?_⟩;rintro v _ ⟨b,d,G1,rfl,x,s1,q,_,h1⟩;refine⟨b,S,G1,x.k.trans hk,rfl,s1,r.mono x,(ZGc h1).imp ?_⟩;rintro l _ ⟨c,G2,rfl,y,s2,_,h2⟩;refine⟨c,S,G2,y.k.trans (x.k.trans hk),rfl,s2,(r.mono x).mono y,(ZGc h2).imp ?_⟩;rintro u _ ⟨c3,G3,rfl,y3,s3,_,h3⟩;have hk3:=y3.k.trans (y.k.trans (x.k.trans hk));have q3:=(q.mono y).mono y3
 have lst:out E c3 (match Ik d G3 with |some xs=>.ok (.ref G3.length) (G3++[.lst (cutD xs l u)])|none=>.bad) Q->rSlL X.K v l u c3.H Q:=λh3=>by
  split at h3
  ·rename_i xs hx;obtain⟨p,vs,e1,q1,r1⟩:=Uj s3 q3 hx;exact⟨p,vs,e1,by rw[<-hk3];exact q1,λp hp=>Ws s3 (Reps.cutD r1 l u) h3 p hp⟩
  ·exact h3.elim
 cases d with
 | str z=>
  have h4:out E c3 (if z.length<=1000000 then .ok (.str (Qk z l u)) G3 else .bad) Q:=h3;split at h4
  ·rename_i hl
   cases(show v=V.str z from q3)
   exact .inr (.inr (.inr ⟨z,rfl,z9 hl size6,h4 c3 _ (Ext.refl _) s3 rfl⟩))
  ·exact h4.elim
 | tup xs=>
  have h4:out E c3 (.ok (.tup (cutD xs l u)) G3) Q:=h3;obtain⟨p,vs,e1,q1,r1⟩:=q3;by_cases hw:HT.sIx vs.length 0 l=0/\HT.sIx vs.length vs.length u=vs.length
  ·refine .inr (.inr (.inl ⟨p,vs,e1,by rw[<-hk3];exact q1,hw,h4 c3 _ (Ext.refl _) s3 ⟨p,vs,rfl,q1,?_⟩⟩));have:cutD xs l u=xs:=by unfold cutD;rw[r1.length,hw.1,hw.2,<-r1.length];simp
   rw[this];exact r1
  ·exact .inr (.inl ⟨p,vs,e1,by rw[<-hk3];exact q1,hw,λp hp=>Vx s3 (Reps.cutD r1 l u) h4 p hp⟩)
 |fl xs=>exact .inl (lst h3)
 |ref i=>exact .inl (lst h3)
 |non=>exact(show False from h3).elim
 |bl _=>exact(show False from h3).elim
 |int _=>exact(show False from h3).elim
 |ty _=>exact(show False from h3).elim
noncomputable def isS:D->Bool
 |.str _=>vX
 |_=>vV
def ZAO(f:D->List D->DH->R D)(o:DE)(t:DA):DE:=λS G=>(o S G).bind λx G1=>if isS x=vX then(t S G1).bind λxs G2=>f x xs G2 else .bad
section
variable{name:Str}{id:String}{f:D->List D->DH->R D}{o e:jF}{es:List jF}{to:DE}{t:DA}{apos cpos:Pos}
theorem ZHa(slot:Slot "str" name id)(hty:typeOf (.builtin id)=pure (.type "method_descriptor"))(hm:MtM X id (lRm X.K E f))(ho:QE X E o to)(ha:QA X E (e::es) t)
  (hbase:jS o name X.env (eval o X.env)=eval o X.env:=by rfl)
  (hfew:((jT cpos (xE (e::es) X.env)).all (λx=> !x.1)&&(backToKw cpos (keywordEach [] X.env)).all (λx=>x.1.isSome)
   && decide ((e::es).length+([]:List Keyword).length+(if([]:List Keyword).isEmpty then 0 else 1)<30))=vX:=by rfl)
  (hline:(apos.endLine==cpos.line)=vX:=by rfl) (hs:xE (e::es) X.env=(vV,eval e X.env)::xE es X.env:=by rfl) (hplain:(jT cpos (xE es X.env)).any (·.1)=vV:=by rfl):
  QE X E (.Call (.Attribute o name apos) (e::es) [] cpos) (ZAO f to t):=(ZJW PySem.F.plainAttrs_str slot hty hm ho ha hbase hfew hline hs hplain).mono λσ H Q h=>by
 obtain⟨a,S,G,hk,rfl,s,r,h⟩:=h;refine⟨a,S,G,hk,rfl,s,r,(Hf h).imp ?_⟩;rintro v _ ⟨b,d,G1,rfl,x,s1,q,-,h1⟩;split at h1
 ·rename_i hl;have ty:tyV X.K "str" v b.H:=by
   cases d with
   |str z=>cases(show v=V.str z from q);exact rfl
   |_=>cases hl
  refine⟨ty,b,S,G1,x.k.trans hk,rfl,s1,r.mono x,(Qp h1).imp ?_⟩;rintro vs _ ⟨c,ds,G2,rfl,y,s2,q2,-,h2⟩;exact⟨c,G2,d,ds,y.k.trans (x.k.trans hk),rfl,s2,q.mono y,q2,h2⟩
 ·exact h1.elim
end
noncomputable def Pq:List D->Option (List Str)
 |[]=>vZ []
 |.str x::r=>(Pq r).map (x::·)
 |_=>vJ
@[simp]theorem ZRu(ns:List Str):Pq (ns.map D.str)=vZ ns:=by
 induction ns with
 |nil=>rfl
 |cons n ns ih=>simp[Pq,ih]
theorem ZIH:∀{xs:List D}{ns:List Str},Pq xs=vZ ns->xs=ns.map D.str
 |[],ns,h=>by cases h;rfl
 |.str i::r,ns,h=>by
  unfold Pq at h;rw[zA]at h;obtain⟨m,e,rfl⟩:=h;rw[ZIH e]
  rfl
 |.non::_,_,h=>by cases h
 |.bl _::_,_,h=>by cases h
 |.int _::_,_,h=>by cases h
 |.ty _::_,_,h=>by cases h
 |.tup _::_,_,h=>by cases h
 |.fl _::_,_,h=>by cases h
 |.ref _::_,_,h=>by cases h
noncomputable def Lz(sep:List Nat):List (List Nat)->List Nat
 |[]=>[]
 |[x]=>x
 |x::y::r=>x++sep++Lz sep (y::r)
def Qu(o:D)(ds:List D)(G:DH):R D:=match o,ds with
 | .str sep,[d]=>match Ei d G with
  |some xs=>match Pq xs with
   |some ys=>if(ys.map (·.length)).sum+ys.length*sep.length<=1000000 then .ok (.str (Txt.join sep ys)) G else .bad
   |none=>.bad
  |none=>.bad
 |_,_=>.bad
theorem ZE1:∀{ys:List Str}{us:List jO},Vals (ys.map V.str) us->StrsAre us ys
 |[],us,r=>by cases r;exact .nil
 | y::ys,us,r=>by
  cases r with
  |cons h t=>
   obtain⟨tk,rfl⟩:=h;exact .cons _ _ (ZE1 t)
theorem ZIp:∀{ys:List Str}{vs:List V},Reps a (ys.map D.str) vs->vs=ys.map V.str
 |[],vs,r=>r
 |y::ys,vs,r=>by
  obtain⟨v,w,rfl,h1,h2⟩:=r
  cases(show v=V.str y from h1)
  rw[ZIp h2]
  rfl
theorem ZPg:MtM X "str.join" (lRm X.K E Qu):=λvQ s σ H x xs v us Q I rx rs h=>by
 obtain⟨a,G,d,ds,hk,rfl,sm,rd,r,q⟩:=h;unfold Qu at q;split at q
 ·rename_i sep e;obtain⟨w,rfl,rw'⟩:=reps1 r
  cases(show x=V.str sep from rd)
  obtain⟨t,rfl⟩:=rx;split at q
  ·rename_i ys hs;split at q
   ·rename_i zs hz;split at q
    ·rename_i hl;obtain⟨p,vs,rfl,h1,r1⟩:=M5 sm rw' hs;rw[ZIH hz]at r1;have ev:=ZIp r1;subst ev;obtain⟨u,rfl,ru⟩:=vals1 rs;cases ru;rw[hk]at h1;rcases h1 with h1|h1
     ·obtain⟨its,r2,pl,_⟩:=I.list h1;exact join_list pl.isList (by simpa using ZE1 r2) (z9 hl (by decide)) λt' k=>⟨.str _,a.H,I.tok k,⟨t',rfl⟩,q a _ (Ext.refl a) sm rfl⟩
     ·obtain⟨its,r2,pl,_⟩:=I.tuple h1;exact join_tuple pl (by simpa using ZE1 r2) (z9 hl (by decide)) λt' k=>⟨.str _,a.H,I.tok k,⟨t',rfl⟩,q a _ (Ext.refl a) sm rfl⟩
    ·exact q.elim
   ·exact q.elim
  ·exact q.elim
 ·exact q.elim
noncomputable def Zg(o:D)(ds:List D)(G:DH):R D:=match o,ds with
 |.str x,[.str y]=>.ok (.int (Txt.find x y)) G
 |_,_=>.bad
theorem m_find:MtM X "str.find" (lRm X.K E Zg):=λvQ s σ H x xs v us Q I rx rs h=>by
 obtain⟨a,G,d,ds,hk,rfl,sm,rd,r,q⟩:=h;unfold Zg at q;split at q
 ·rename_i x' y;obtain⟨w,rfl,rw'⟩:=reps1 r
  cases(show x=V.str x' from rd)
  cases(show w=V.str y from rw')
  obtain⟨t,rfl⟩:=rx;obtain⟨u,rfl,u',rfl⟩:=vals1 rs;exact SC.find ⟨.int _,a.H,I.tok _,⟨_,rfl⟩,q a _ (Ext.refl a) sm rfl⟩
 ·exact q.elim
end
section
variable{S:DSt}{G:DH}
@[simp]theorem ev_Sl{e:DE}{lo hi:Option DE}:dSl e lo hi S G=(e S G).bind λd G1=>(Dp lo S G1).bind λl G2=>(Dp hi S G2).bind λh G3=>Ln d l h G3:=id rfl
@[simp]theorem ZRq:Dp vJ S G=.ok vJ G:=id rfl
@[simp]theorem ZR6:Dp (vZ t) S G=(t S G).bind λd G1=>match d with | .int i=>.ok (vZ i) G1|_=>.bad:=id rfl
@[simp]theorem Ks{z:Str}:Ln (.str z) lo hi G=if z.length<=1000000 then .ok (.str (Qk z lo hi)) G else .bad:=id rfl
@[simp]theorem ev_slT:Ln (.tup xs) lo hi G=.ok (.tup (cutD xs lo hi)) G:=id rfl
@[simp]theorem ev_slF:Ln (.fl xs) lo hi G=.ok (.ref G.length) (G++[.lst (cutD xs lo hi)]):=id rfl
@[simp]theorem ev_MtS{f:D->List D->DH->R D}{o:DE}{t:DA}:ZAO f o t S G=(o S G).bind λx G1=>if isS x=vX then(t S G1).bind λxs G2=>f x xs G2 else .bad:=id rfl
@[simp]theorem ev_isS:isS (.str x)=vX:=id rfl
@[simp]theorem ZRz{y:Str}:Zg (.str x) [.str y] G=.ok (.int (Txt.find x y)) G:=id rfl
@[simp]theorem ZOr:J9 (.str x) G=.ok (.pure (signs x)) G:=id rfl
@[simp]theorem Gd{ys:List D}:Ba (.fl xs) (.fl ys) G=if xs.length+ys.length<=1000000 then .ok (.ref G.length) (G++[.lst (xs++ys)])else .bad:=id rfl
@[simp]theorem My{z:Str}{i:Int}:Af (.str z) (.int i) G=if z.length<=1000000 then(match atI z.cps.toList i with |some c=>.ok (sgn c) G|none=>.bad)else .bad:=id rfl
theorem ZJk{sep:Str}{ys:List Str}(h:(ys.map (·.length)).sum+ys.length*sep.length<=1000000):Qu (.str sep) [.fl (ys.map D.str)] G=.ok (.str (Txt.join sep ys)) G:=by simp[Qu,h]
end
end _D
namespace _D
open PySem PySem.Spec _L
open PyProof.Rows hiding St
open Builtin.Str
variable{g:DG}{te:DE}{S:DSt}{G:DH}
section
variable(p:Nat->Bool)(m:Nat)
def K7(i:Nat)(st:Array Nat×Nat):Id (ForInStep (Array Nat×Nat)):=
 if(decide (st.1.size<1)&&decide (st.2<=i)&&p i)=vX then pure (ForInStep.yield (st.1.push i,i+m))else pure (ForInStep.yield (st.1,st.2))
theorem ZGL:∀(l:List Nat)(st:Array Nat×Nat),st.1.size=1->(forIn l st (K7 p m):Id _)=pure st
 |[],st,_=>rfl
 |i::l,st,h=>by
  rw[List.forIn_cons];have:K7 p m i st=pure (ForInStep.yield st):=by unfold K7;rw[if_neg (by simp[h])]
  rw[this];exact ZGL l st h
theorem occ_first(lo:Nat):∀(l:List Nat),(∀i∈l,lo<=i)->((forIn l (#[],lo) (K7 p m):Id (Array Nat×Nat))).run.1.toList=(l.find? p).toList
 |[],_=>rfl
 | i::l,h=>by
  rw[List.forIn_cons];by_cases hp:p i=vX
  ·have:K7 p m i (#[],lo)=pure (ForInStep.yield (#[i],i+m)):=by
    unfold K7;rw[if_pos (by simp[hp,h i (by simp)])]
    rfl
   rw[this];have e:=ZGL p m l (#[i],i+m) rfl;show(Id.run (forIn l (#[i],i+m) (K7 p m))).1.toList=_;rw[e];simp[List.find?_cons,hp]
  ·have:K7 p m i (#[],lo)=pure (ForInStep.yield (#[],lo)):=by unfold K7;rw[if_neg (by simp[hp])]
   rw[this];have:=occ_first lo l (λj hj=>h j (zY _ hj));rw[List.find?_cons_of_neg hp];exact this
end
theorem occ1(s sub:Str)(lo hi:Nat):occurrences s sub lo hi 1=((qX lo (hi+1-lo)).find? (λi=>decide (i+sub.length<=hi)&&subAt s sub i)).toList:=by
 unfold occurrences;simp only[Std.Legacy.Range.forIn_eq_forIn_range',Std.Legacy.Range.size,Nat.sub_one_add_one,Nat.add_one_sub_one,Nat.div_one];have:=occ_first (λi=>decide (i+sub.length<=hi)&&subAt s sub i) sub.length lo (qX lo (hi+1-lo)) (λi hi'=>by rw[List.mem_range'_1]at hi';exact hi'.1);rw[<-this];unfold K7;simp only[<-Bool.and_assoc]
 rfl
theorem ZIO(s sub:Str)(i:Nat)(h:i+sub.length<=s.length):subAt s sub i=vX↔(s.cps.toList.drop i).take sub.length=sub.cps.toList:=by unfold subAt;rw[beq_iff_eq,<-Array.toList_inj];rw[Array.toList_extract];simp[List.extract_eq_take_drop]
theorem contains1(s:Str)(c:Nat):(!(occurrences s ⟨#[c]⟩ 0 s.length 1).isEmpty)=decide (c∈s.cps.toList):=by
 rw[occ1];have hl:(⟨#[c]⟩:Str).length=1:=rfl;rw[hl];by_cases h:c∈s.cps.toList
 ·obtain⟨i,hi,e⟩:=List.mem_iff_getElem.mp h;have hi':i<s.length:=by simpa[Str.length]using hi
  have hf:((qX 0 (s.length+1-0)).find? (λi=>decide (i+1<=s.length)&&subAt s ⟨#[c]⟩ i)).isSome=vX:=by rw[List.find?_isSome];refine⟨i,by rw[List.mem_range'_1];lia,?_⟩;rw[zV];refine⟨decide_eq_true (by lia),?_⟩;rw[ZIO s ⟨#[c]⟩ i (by rw[hl];lia),hl,qz hi,e];simp
  cases hc:(qX 0 (s.length+1-0)).find? (λi=>decide (i+1<=s.length)&&subAt s ⟨#[c]⟩ i)with
  |none=>rw[hc]at hf;cases hf
  |some j=>simp[h]
 ·have hf:(qX 0 (s.length+1-0)).find? (λi=>decide (i+1<=s.length)&&subAt s ⟨#[c]⟩ i)=vJ:=by
   rw[List.find?_eq_none];intro i hi hp;rw[zV]at hp;have h1:i+1<=s.length:=by simpa using hp.1
   have h2:=(ZIO s ⟨#[c]⟩ i (by rw[hl];lia)).mp hp.2
   rw[hl,qz (show i<s.cps.toList.length from zW (qY i) (by simpa[Str.length]using h1))]at h2
   simp at h2;exact h (by rw[<-h2];simp)
  rw[hf];simp[h]
theorem ZMq(sep:Str):∀(xs:List Str),(Txt.join sep xs).cps.toList=Lz sep.cps.toList (xs.map (·.cps.toList))
 |[]=>rfl
 |[x]=>by simp[Txt.join,glued,Lz]
 | x::y::r=>by
  have key:∀(r:List Str)(acc:Array Nat),(r.foldl (λacc p=>acc++sep.cps++p.cps) acc).toList=acc.toList++(r.map λp=>sep.cps.toList++p.cps.toList).flatten:=by
   intro r
   induction r with
   |nil=>intro acc;simp
   |cons p r ih=>intro acc;rw[qP,ih];simp
  have j:∀(x:Str)(r:List Str),Lz sep.cps.toList ((x::r).map (·.cps.toList))=x.cps.toList++(r.map λp=>sep.cps.toList++p.cps.toList).flatten:=by
   intro x r
   induction r generalizing x with
   |nil=>simp[Lz]
   |cons p r ih=>
    have:=ih p;simp only[zz]at this⊢;rw[Lz,this];simp
  rw[j];show(glued sep (x::y::r)).cps.toList=_;unfold glued;simp only[List.drop_one,List.tail_cons,List.headD_cons];rw[key]
def CStep(g:DG)(c:DB)(te:DE)(S:DSt)(G:DH)(x:D)(r:Option D):Prop:=
 ∃S1,g x S G=.ok S1 G/\((c S1 G=.ok vV G/\r=vJ)∨(c S1 G=.ok vX G/\∃d,te S1 G=.ok d G/\r=vZ d))
theorem Ri{c:DB}{F:D->Option D}:∀{xs:List D},(∀x∈xs,CStep g c te S G x (F x))->Cw g c te S xs G=.ok (xs.filterMap F) G
 |[],_=>rfl
 |x::xs,h=>by
  obtain⟨S1,h1,h2⟩:=h x (by simp);have ih:=Ri (λy hy=>h y (zY _ hy));rw[Jc,h1];rcases h2 with⟨h2,h3⟩|⟨h2,d,h3,h4⟩
  ·simp[h2,h3,ih,zH]
  ·simp[h2,h3,h4,ih,zH]
theorem ZG1{i:Nat}{c:DB}{F:D->Option D}{xs:List D}(hG:G[i]?=vZ (.lst xs))(h:∀x∈xs,CStep g c te S G x (F x)):
  ∀(n j:Nat),j+n=xs.length->Ip i g c te S n j G=.ok ((xs.drop j).filterMap F) G
 |0,j,hj=>by
  unfold Ip;rw[hG];simp only;rw[if_pos (by lia),qL (by lia)]
  rfl
 |n+1,j,hj=>by
  have hlt:j<xs.length:=by lia
  have ih:=ZG1 hG h n (j+1) (by lia);obtain⟨S1,h1,h2⟩:=h xs[j] (qB hlt);unfold Ip;rw[hG];simp only;rw[zQ hlt];simp only[h1,R.ZAb];rw[qz hlt,zH];rcases h2 with⟨h2,h3⟩|⟨h2,d,h3,h4⟩
  ·simp[h2,h3,ih]
  ·simp[h2,h3,h4,ih]
theorem ZKf{i:Nat}{c:DB}{F:D->Option D}{xs:List D}(hG:G[i]?=vZ (.lst xs))(h:∀x∈xs,CStep g c te S G x (F x)):
  Ip i g c te S xs.length 0 G=.ok (xs.filterMap F) G:=ZG1 hG h xs.length 0 (by lia)
theorem ZJU:∀xs:List (List Nat),Lz [] xs=xs.flatten
 |[]=>rfl
 |[x]=>by simp[Lz]
 |x::y::r=>by rw[Lz,ZJU (y::r)];simp
theorem ZO5(cs:List Nat):Txt.join ("":Str) (cs.map λc=>(⟨#[c]⟩:Str))=⟨cs.toArray⟩:=by
 have h:=ZMq ("":Str) (cs.map λc=>(⟨#[c]⟩:Str));have e:("":Str).cps.toList=[]:=by decide +kernel
 rw[e,ZJU,q8]at h;have e2:(cs.map ((λx:Str=>x.cps.toList) ∘ λc=>(⟨#[c]⟩:Str))).flatten=cs:=by
  clear h
  induction cs with
  |nil=>rfl
  |cons c cs ih=>simp only[zz,List.flatten_cons,ih];rfl
 rw[e2]at h;generalize Txt.join ("":Str) (cs.map λc=>(⟨#[c]⟩:Str))=z at h;obtain⟨a⟩:=z;simp only at h;rw[<-h]
theorem ZRC{x y:Str}(h:x.cps.toList=y.cps.toList):x=y:=by obtain⟨a⟩:=x;obtain⟨b⟩:=y;simp only at h;rw[Array.toList_inj.mp h]
theorem ZGG{x y:Str}:x=y↔x.cps.toList=y.cps.toList:=⟨λh=>by rw[h],ZRC⟩
end _D
namespace _D
open PySem PySem.Spec _L
open PyProof.Rows hiding St
section
variable{prog:jI}{w:jP}{A:jE}{E:jO->jM->Prop}{s:jM}
end
section
variable{prog:jI}{w:jP}{A:jE}{E:jO->jM->Prop}{s:jM}
end
section
variable{prog:jI}{w:jP}{A:jE}{E:jO->jM->Prop}{s:jM}
end
section
variable{prog:jI}{w:jP}{A:jE}{E:jO->jM->Prop}{s:jM}
end
end _D
namespace _D
open PySem PySem.W PyProof.Rows
section
variable{lt:Nat->Nat->Bool}
noncomputable abbrev pt(p:Array Nat)(j:Nat):Nat:=p.getD j 0
end
end _D
namespace _D
open PySem PySem.Spec _L
open PyProof.Rows hiding St
section
variable{X:Cx}{vQ:List (jD×Obj)}{σ:St}{H:Hp}{s:jM}{h':Heap}
end
section
variable{X:Cx}{E:XK}
end
section
variable{X:Cx}{vQ:List (jD×Obj)}{σ:St}{H:Hp}{s:jM}
end
section
variable{X:Cx}{E:XK}
end
section
variable{X:Cx}{E:XK}
end
def Ny(ds:List D)(G:DH):R D:=match ds with
 | [d]=>match Ei d G with
  |some xs=>match G7 xs with
   |some (n::ns)=>.ok (.int (ns.foldl min n)) G
   |_=>.bad
  |none=>.bad
 |_=>.bad
def Q7(ds:List D)(G:DH):R D:=match ds with
 | [d]=>match Ei d G with
  |some xs=>match G7 xs with
   |some (n::ns)=>.ok (.int (ns.foldl max n)) G
   |_=>.bad
  |none=>.bad
 |_=>.bad
theorem ZHo:∀(ns:List Int)(n:Int),ns.foldl min n<=n/\(∀x∈ns,ns.foldl min n<=x)/\(ns.foldl min n=n∨ns.foldl min n∈ns)
 |[],n=>⟨jC _,λx h=>(by cases h),.inl rfl⟩
 | m::ns,n=>by
  obtain⟨h1,h2,h3⟩:=ZHo ns (min n m);rw[qP];refine⟨by lia,λx hx=>?_,?_⟩
  ·rcases zq.mp hx with rfl|hx
   ·lia
   ·exact h2 x hx
  ·rcases h3 with h|h
   ·by_cases e:n<=m
    ·exact .inl (by rw[h];lia)
    ·exact .inr (by rw[h];rw[show min n m=m by lia];exact z8)
   ·exact .inr (zY _ h)
theorem ZG3:∀(ns:List Int)(n:Int),n<=ns.foldl max n/\(∀x∈ns,x<=ns.foldl max n)/\(ns.foldl max n=n∨ns.foldl max n∈ns)
 |[],n=>⟨jC _,λx h=>(by cases h),.inl rfl⟩
 | m::ns,n=>by
  obtain⟨h1,h2,h3⟩:=ZG3 ns (max n m);rw[qP];refine⟨by lia,λx hx=>?_,?_⟩
  ·rcases zq.mp hx with rfl|hx
   ·lia
   ·exact h2 x hx
  ·rcases h3 with h|h
   ·by_cases e:m<=n
    ·exact .inl (by rw[h];lia)
    ·exact .inr (by rw[h];rw[show max n m=m by lia];exact z8)
   ·exact .inr (zY _ h)
section
variable{X:Cx}{E:XK}
theorem intAt{ns:List Int}{its:List jO}{i:Nat}{w:jO}(hv:Vals (ns.map V.int) its)(hw:its.toArray[i]?=vZ w):i<ns.length/\∃t,w=.int (ns.getD i 0) t:=by
 have hw':its[i]?=vZ w:=by simpa using hw
 have hl:i<(ns.map V.int).length:=by rw[hv.length];exact(zX.mp hw').1
 have hl':i<ns.length:=by simpa using hl
 obtain⟨u,hu,ru⟩:=hv.get (i:=i) (x:=V.int ns[i]) (by simp[hl']);rw[hw']at hu;cases hu;obtain⟨t,rfl⟩:=ru;exact⟨hl',t,by simp[hl']⟩
theorem ZL4(hc:X.calm=vX):CallR X (.builtin "min") (lRn X.K E Ny):=by
 intro vQ s σ H vs us Q I rs h;obtain⟨a,G,ds,hk,rfl,sm,r,q⟩:=h;unfold Ny at q;split at q
 ·rename_i d;obtain⟨v,rfl,rv⟩:=reps1 r;split at q
  ·rename_i xs hs;split at q
   ·rename_i n ns hn;cases Qz hn;obtain⟨p,ws,rfl,h1,r1⟩:=M5 sm rv hs;cases ZAV r1;rw[hk]at h1;obtain⟨u,rfl,ru⟩:=vals1 rs;cases ru;refine call_min_walk (Xa I hc h1 λit fp wr its St s₂ hv W st hfp fin=>⟨it,fp,wr,its.toArray.size,_,St,_,rfl,W,st,hfp,?_,CmpOf.ints_lt (λi=>(n::ns).getD i 0) (λi w hw=>(intAt hv hw).2),λw h' tk hw kk=>?_⟩)
    ·rw[zK,<-hv.length];simp
    ·obtain⟨hl,t,rfl⟩:=intAt hv hw;obtain⟨b1,b2⟩:=argBest_lt (λi=>(n::ns).getD i 0) (its.toArray.size-1);refine⟨.int (ns.foldl min n),a.H,fin h' tk kk,⟨t,?_⟩,q a _ (Ext.refl a) sm rfl⟩;have hsz:its.toArray.size=ns.length+1:=by rw[zK,<-hv.length];simp
     obtain⟨m1,m2,m3⟩:=ZHo ns n;have hle:∀x∈n::ns,ns.foldl min n<=x:=λx hx=>by
      rcases zq.mp hx with rfl|hx
      ·exact m1
      ·exact m2 x hx
     have hin:ns.foldl min n∈n::ns:=by
      rcases m3 with h|h
      ·rw[h];exact z8
      ·exact zY _ h
     obtain⟨j,hj,ej⟩:=jq hin;have c1:=b2 j (by simp at hj;lia);have c2:=hle _ (qB hl);have e1:(n::ns).getD j 0=ns.foldl min n:=by rw[zB,zQ hj];exact ej
     have e2:(n::ns).getD (argBest (λi j=>decide ((λi=>(n::ns).getD i 0) i<(λi=>(n::ns).getD i 0) j)) (its.toArray.size-1)) 0=(n::ns)[argBest (λi j=>decide ((λi=>(n::ns).getD i 0) i<(λi=>(n::ns).getD i 0) j)) (its.toArray.size-1)]:=by rw[zB,zQ hl];rfl
     have c1':=c1;rw[e1]at c1';rw[<-e2]at c2
     congr 1
     exact Int.le_antisymm c1' c2
   ·exact q.elim
  ·exact q.elim
 ·exact q.elim
theorem ZPa(hc:X.calm=vX):CallR X (.builtin "max") (lRn X.K E Q7):=by
 intro vQ s σ H vs us Q I rs h;obtain⟨a,G,ds,hk,rfl,sm,r,q⟩:=h;unfold Q7 at q;split at q
 ·rename_i d;obtain⟨v,rfl,rv⟩:=reps1 r;split at q
  ·rename_i xs hs;split at q
   ·rename_i n ns hn;cases Qz hn;obtain⟨p,ws,rfl,h1,r1⟩:=M5 sm rv hs;cases ZAV r1;rw[hk]at h1;obtain⟨u,rfl,ru⟩:=vals1 rs;cases ru;refine call_max_walk (Xa I hc h1 λit fp wr its St s₂ hv W st hfp fin=>⟨it,fp,wr,its.toArray.size,_,St,_,rfl,W,st,hfp,?_,CmpOf.ints_gt (λi=>(n::ns).getD i 0) (λi w hw=>(intAt hv hw).2),λw h' tk hw kk=>?_⟩)
    ·rw[zK,<-hv.length];simp
    ·obtain⟨hl,t,rfl⟩:=intAt hv hw;obtain⟨b1,b2⟩:=argBest_gt (λi=>(n::ns).getD i 0) (its.toArray.size-1);refine⟨.int (ns.foldl max n),a.H,fin h' tk kk,⟨t,?_⟩,q a _ (Ext.refl a) sm rfl⟩;have hsz:its.toArray.size=ns.length+1:=by rw[zK,<-hv.length];simp
     obtain⟨m1,m2,m3⟩:=ZG3 ns n;have hle:∀x∈n::ns,x<=ns.foldl max n:=λx hx=>by
      rcases zq.mp hx with rfl|hx
      ·exact m1
      ·exact m2 x hx
     have hin:ns.foldl max n∈n::ns:=by
      rcases m3 with h|h
      ·rw[h];exact z8
      ·exact zY _ h
     obtain⟨j,hj,ej⟩:=jq hin;have c1:=b2 j (by simp at hj;lia);have c2:=hle _ (qB hl);have e1:(n::ns).getD j 0=ns.foldl max n:=by rw[zB,zQ hj];exact ej
     have e2:(n::ns).getD (argBest (λi j=>decide ((λi=>(n::ns).getD i 0) i>(λi=>(n::ns).getD i 0) j)) (its.toArray.size-1)) 0=(n::ns)[argBest (λi j=>decide ((λi=>(n::ns).getD i 0) i>(λi=>(n::ns).getD i 0) j)) (its.toArray.size-1)]:=by rw[zB,zQ hl];rfl
     have c1':=c1;rw[e1]at c1';rw[<-e2]at c2
     congr 1
     exact Int.le_antisymm c2 c1'
   ·exact q.elim
  ·exact q.elim
 ·exact q.elim
end
end _D
namespace _D
open PySem PySem.W PyProof.Rows
end _D
namespace _D
open PySem PySem.Spec _L
open PyProof.Rows hiding St
variable{a:Wd}{d:D}
section
variable{prog:jI}{w:jP}{A:jE}{s:jM}
end
section
variable{X:Cx}{E:XK}{vQ:List (jD×Obj)}{σ:St}{s:jM}{H:Hp}{h':Heap}
theorem ZMN{t':Nat}(I:Inv X vQ σ H s)(k:∀b o,b≠X.env.locals->s.heap.get? b=vZ o->h'.get? b=vZ o)(ns:∀m,s.heap.Ns X.env.locals m->h'.Ns X.env.locals m):Inv X vQ σ H {s with heap:=h',toks:=t'}:=by
 refine I.step (g':=s.gens) (d':=s.drawn) (ch:=[]) (λ_ z=>nomatch z) (λb o hL _ _ e _=>k b o hL e) (λb o hL _ _ e _=>⟨o.slots,k b o hL e⟩) (λ_ _ _ _ n=>n) (λb o _ e=>?_) (λ_ _ e=>e) (λ_ _ _ e=>e)
  (λb ps e=>⟨#[],by rw[e];simp⟩) ns (λb u e=>?_) I.bare
 ·by_cases hb:b=X.env.locals
  ·obtain⟨m,hn,_⟩:=I.loc;obtain⟨o',_,_,ho',_⟩:=ns m hn;exact⟨o',by rw[hb];exact ho'⟩
  ·exact⟨o,k b o hb e⟩
 ·have nL:∀c w,H c=vZ w->c≠X.env.locals:=λc w e z=>by rw[z,I.free]at e;cases e
  refine(I.hok b u e).stay (λc v hc q=>k c v ?_ q) (λ_ q=>q) λ_ _ q=>q
  rcases hc with z|z
  ·rw[z];exact nL b u e
  ·exact nL c _ z
end
section
variable{prog:jI}{w:jP}{A:jE}{E:jO->jM->Prop}{s:jM}
end
theorem ZQf:xZ "sorted"=vZ (.builtin "sorted"):=by decide +kernel
section
variable{X:Cx}{E:XK}{vQ:List (jD×Obj)}{σ:St}{s:jM}{H:Hp}
theorem ZQP{G:DH}{ys:List D}{ws:List V}{us:List jO}{Q:VK}{h2:Heap}{c:Nat}(I:Inv X vQ σ a.H s)(sm:Sim a G)(q:out E a (.ok (.ref G.length) (G++[.lst ys])) Q)(r:Reps a ys ws)(v:Vals ws us)(hz:us.length<64)
  (hD:h2.get? (s.heap.objs.size+1)=vZ (seqObj "list" us.toArray c)) (k:∀b o,b≠X.env.locals->s.heap.get? b=vZ o->h2.get? b=vZ o) (ns:∀m,s.heap.Ns X.env.locals m->h2.Ns X.env.locals m):
  EP X vQ σ Q (.ref (s.heap.objs.size+1)) {s with heap:=h2}:=by
 have hle:s.heap.objs.size<=s.heap.objs.size+1:=qT _;obtain⟨g0,g1,g2,g3,g4,g5⟩:=I.T3 (H':=a.H) hle (I.hok.fresh hle);have I2:Inv X vQ σ a.H {s with heap:=h2}:=ZMN (t':=s.toks) I k ns;refine⟨.ref (s.heap.objs.size+1),_,ZFd I2 g0 (z9 I.sz hle) g1 g4 g5 (o:=.lst ws) ⟨?_,us,c,v,hD⟩,rfl,Ws sm r q _ g0⟩;rw[v.length,xC];lia
end
section
variable{X:Cx}{E:XK}
end
section
variable{S:DSt}{G:DH}
theorem ZKJ{n:Int}{ns:List Int}(h:Ei d G=vZ ((n::ns).map D.int)):Ny [d] G=.ok (.int (ns.foldl min n)) G:=by simp only[Ny,h,ZHB]
theorem ZOK{n:Int}{ns:List Int}(h:Ei d G=vZ ((n::ns).map D.int)):Q7 [d] G=.ok (.int (ns.foldl max n)) G:=by simp only[Q7,h,ZHB]
end
def Bts(i:Int):Prop:=i.natAbs.log2<33554432
def MulB(i j:Int):Prop:=CMul i j∨(Bts i/\Bts j)
noncomputable instance (i:Int):Decidable (Bts i):=by unfold Bts;infer_instance
noncomputable instance (i j:Int):Decidable (MulB i j):=by unfold MulB;infer_instance
theorem MulB.ok{i j:Int}(h:MulB i j):IntMulOk i j:=by
 rcases h with h|⟨h1,h2⟩
 ·exact h.ok
 ·have b:∀k:Int,Bts k->Builtin.Int.intBits k<=33554432:=λk hk=>by
   unfold Builtin.Int.intBits;split
   ·exact Nat.zero_le _
   ·exact hk
  have c1:=b i h1;have c2:=b j h2;have h:Builtin.Int.intTooBig (Builtin.Int.intBits i+Builtin.Int.intBits j)=vV:=by unfold Builtin.Int.intTooBig bitsLine;exact decide_eq_false (by lia)
  unfold IntMulOk;rw[h];simp
def Eb:D->D->DH->R D
 |.int i,.int j,G=>if MulB i j then .ok (.int (i*j)) G else .bad
 |_,_,_=>.bad
section
variable{X:Cx}{E:XK}
theorem ZKq:OpR X (xQ .Mult) (rI MulB λi j=>.int (i*j)):=opI λ_ _ _ _ _ _ _ hc q=>mul_int q hc.ok
theorem Fl:OpR X (xQ .Mult) (lR2 X.K E Eb):=Ht ZKq λa G d e x y Q hk s rd re q=>by
 cases d<;>cases e<;>first
  |exact q.elim
  | (
    rename_i i j;unfold Eb at q;dsimp only at q;split at q
    ·exact⟨_,_,rd,re,by assumption,q a _ (Ext.refl a) s rfl⟩
    ·exact q.elim)
end
section
variable{i j:Int}{G:DH}
theorem Mx(h1: -(2^64)<i)(h2:i<2^64):Eb (.int i) (.int j) G=.ok (.int (i*j)) G:=if_pos (.inl (.inl ⟨h1,h2⟩))
theorem Wy(h1: -(2^64)<j)(h2:j<2^64):Eb (.int i) (.int j) G=.ok (.int (i*j)) G:=if_pos (.inl (.inr ⟨h1,h2⟩))
@[simp]theorem ZRa{n:Nat}(h:n<18446744073709551616):Eb (.int (no_index (OfNat.ofNat n))) (.int j) G=.ok (.int (OfNat.ofNat n*j)) G:=
 Mx (by have:(0:Int)<=(OfNat.ofNat n:Int):=Int.natCast_nonneg n;lia) (by have:(OfNat.ofNat n:Int)<18446744073709551616:=Int.ofNat_lt.mpr h;lia)
end
theorem ZFq:∀{ns:List Int},PySem.W.WData.weightAll (ns.map PySem.W.WData.int)<=2^20->∀n∈ns,n.natAbs.log2<1048576
 |[],_,n,h=>nomatch h
 | m::ns,hw,n,h=>by
  rw[zz,PySem.W.WData.weightAll,PySem.W.WData.weight]at hw;rcases zq.mp h with rfl|h
  ·split at hw
   ·rename_i hz;have:n=0:=by simpa using hz
    rw[this];decide
   ·lia
  ·exact ZFq (by lia) n h
theorem ZOM{l:PySem.W.OpenLaw}{n k:Nat}{q:jI}{loose:List Str}{XP:(Str->Option jO)->Heap->Prop}{YP:jP->Heap->Prop}{d:DefRec}{K:jP->PySem.W.Frag}{CX:jP->CXT}{sp:jP->Sp}{x:Str}
  (hn:l.most=vZ n) (hn2:n<=sizeLine) (hdf:d.params.defaults=[]) (hr:Room k callerA) (hY:∀(w:jP)(h:Heap),YP w h->(K w).In h)
  (F:∀(w:jP)(mg:Str->Option jO)(fa:jD)(h:Heap),(K w).In h->h.Ns x9 mg->mg d.name=vZ (.ref fa)->
   ∃fd:jG,(∀(s:jM)(u:jO),BindsTo s fd ⟨[u],[]⟩ [(x,u)])/\∀base:Heap,(K w).In base->base.Ns x9 mg->FnOk l.prog w (K w) mg base (CX w) k fa fd [x] (sp w))
  (hsp:∀(w:jP)(H:Hp)(a:jD)(ns:List Int),ns.length<=n->(∀m∈ns,m.natAbs.log2<1048576)->Only H->SqL (K w) H a (ns.map V.int)->sp w [.ref a] H (λv _=>v=.bl vX) λ_ _ _=>False)
  (hCX:∀(w:jP)(H:Hp)(s:jM)(e:jO)(s':jM),CX w [] H s (λ_ _ _=>False) e s'->False):PySem.W.WalkO q loose XP YP l.row.toRowW d [] (λf vs=>PySem.call f vs):=by
 intro w s₀ s₁ mg mb G Y fa o pm cd doc dV kV ho hd hcd hD hmg hg args vals as hpre hlay hrd hwl hlo;obtain rfl:dV=.none:=PySem.W.Dflts.none hD hdf;obtain rfl:kV=.none:=PySem.W.Dflts.noKw hD;obtain⟨a,vs,ns,rfl,rfl,hobj,hints,hlen⟩:=Att.ZML hn hpre hwl;have KX:=hY w _ Y;obtain⟨fd,hb,hF⟩:=F w mg fa _ KX G.T.g hmg;have hw:PySem.W.WData.weightAll (ns.map PySem.W.WData.int)<=2^20:=by
  have h1:PySem.W.WData.layable (.list (ns.map PySem.W.WData.int))=vX:=by have:=hlay;simpa[PySem.W.WData.layableAll]using this
  have h2:=of_decide_eq_true (qy.mp h1).2;simpa only[PySem.W.WData.weight]using h2
 refine PySem.W.enter_call (xX (ZQ6 KX G.T.g G.T.b G.T.builtins G.T.nolimit hg hobj hints (z9 hlen hn2) hr hF hb (λH hO hS=>hsp w H a ns hlen (ZFq hw) hO hS) λH e s'=>hCX w H s₁ e s') λr s' hq=>?_);obtain⟨rfl,h2,h3,h4⟩:=hq
 exact⟨.inl ⟨.bool vX,.bool vX,[],rfl,λ_=>rfl,.bool vX,Att.ZOY l _,λ_=>⟨List.Pairwise.nil,λ_ hm=>(nomatch hm)⟩⟩,h2,h3,h4⟩
section
variable{X:Cx}{E:XK}
end
theorem RepF.uncons{g:Str}{fs:List (Str×D)}{us:List (Str×V)}(h:RepF a ((g,d)::fs) us):∃v us',us=(g,v)::us'/\Rep a d v/\RepF a fs us':=by
 obtain⟨h1,h2⟩:=h;cases us with
 |nil=>simp at h1
 |cons q us=>
  obtain⟨g',y⟩:=q;simp only[zz,List.cons.injEq]at h1;obtain⟨rfl,h1⟩:=h1;obtain⟨v,r,e1,r1,r2⟩:=h2;simp only[zz,List.cons.injEq]at e1;obtain⟨rfl,rfl⟩:=e1;exact⟨y,us,rfl,r1,h1,r2⟩
theorem lkc{α:Type}{f g:Str}{x:α}{fs:List (Str×α)}:j2 f ((g,x)::fs)=if(f==g)=vX then vZ x else fs.lookup f:=by
 show(match f==g with
  |true=>vZ x
  |false=>j2 f fs)=_
 cases f==g<;>rfl
theorem RepF.look{f:Str}:∀{fs:List (Str×D)}{us:List (Str×V)},RepF a fs us->fs.lookup f=vZ d->∃u,us.lookup f=vZ u/\Rep a d u
 |[],us,h,e=>by simp at e
 |(g,x)::fs,us,h,e=>by
  obtain⟨v,us',rfl,hv,hr⟩:=h.uncons;rw[lkc]at e⊢;by_cases q:(f==g)=vX
  ·rw[if_pos q]at e⊢;cases e;exact⟨v,rfl,hv⟩
  ·rw[if_neg q]at e⊢;exact RepF.look hr e
section
variable{X:Cx}{E:XK}{c f m:Str}{C:jD}{e o:jF}{es:List jF}{t ta tv:DE}{tr:DA}{pos apos pos':Pos}
end
theorem ZEl:∀{ns:List Int}{vs:List V},Reps a (ns.map D.int) vs->vs=ns.map V.int
 |[],vs,h=>h
 |n::ns,vs,h=>by
  obtain⟨v,r,e,h1,h2⟩:=h
  cases(show v=V.int n from h1)
  rw[e,ZEl h2]
  rfl
theorem Zf:∀{ns:List Int}{us:List jO},Vals (ns.map V.int) us->us.length=ns.length/\∀(j:Nat)(u:jO),us[j]?=vZ u->∃t,∃h:j<ns.length,u=.int ns[j] t
 |[],us,h=>by cases h;exact⟨rfl,λj u e=>by simp at e⟩
 | n::ns,us,h=>by
  cases h with
  | cons r rr=>
   obtain⟨h1,h2⟩:=Zf rr;obtain⟨t,rfl⟩:=r;refine⟨by simp[h1],λj u e=>?_⟩;cases j with
   |zero=>simp at e;exact⟨t,by simp,by simpa using e.symm⟩
   |succ j=>
    obtain⟨t',hj,e'⟩:=h2 j u (by simpa using e);exact⟨t',by simpa using hj,by simpa using e'⟩
section
variable{X:Cx}{E:XK}
end
section
variable{prog:jI}{w:jP}{A:jE}{E:jO->jM->Prop}{s:jM}
end
section
variable{X:Cx}{E:XK}
end
end _D
namespace _D
open PySem PySem.Spec _L
section
variable{S:DSt}{G:DH}{c f m:Str}{t to tv:DE}{ta:DA}{F:List D->DH->R D}{i:Nat}{fs:List (Str×D)}{v d:D}
end
end _D
namespace _D
open PySem PySem.Spec _L
open PyProof.Rows hiding St
section
variable{X:Cx}{E:XK}
end
section
variable{i j:Int}{G:DH}
end
def comp0(N:List Str)(names:List (Str×jH))(nt:Nat):Bool:=
 names.all (λy=>(!J0 y.2||isK J0 (names.lookup y.1)) && !Le y.2 && !Kg y.2)&&decide N.Nodup&&decide (N.length=nt)
theorem ZOm{X:Cx}{N:List Str}{scope:jL}{nt:Nat}(hk:scope.kind=.function:=by rfl)(h:comp0 N scope.names nt=vX:=by decide +kernel):CompSc X N scope nt []:=by
 unfold comp0 at h;rw[zV,zV]at h;obtain⟨⟨h1,h2⟩,h3⟩:=h;rw[qJ]at h1;have key:=λ(y:Str×jH)(hy:y∈scope.names)=>(by have:=h1 y hy;rw[zV,zV]at this;exact this:((!J0 y.2||isK J0 (scope.names.lookup y.1))=vX/\(!Le y.2)=vX)/\(!Kg y.2)=vX)
 refine⟨hk,λy hy hl=>?_,λy hy hl=>?_,λy hy hl=>?_,of_decide_eq_true h2,by rw[of_decide_eq_true h3];rfl,λk j hj=>?_⟩
 ·have:=(key y hy).1.1;rw[hl]at this;exact Ss (p:=J0) (λ_ h=>ZHe h) (by have t:(vV||isK J0 (scope.names.lookup y.1))=vX:=this;simpa using t)
 ·have:=(key y hy).1.2;rw[hl]at this;exact absurd this (by decide)
 ·have:=(key y hy).2;rw[hl]at this;exact absurd this (by decide)
 ·cases hj
section
variable{X:Cx}{E:XK}{e st:jF}{te:TE}{ts:TO}{p2 pos:Pos}
end
section
variable{S:DSt}{G:DH}
end
section
variable{X:Cx}{E:XK}
end
section
variable{S:DSt}{G:DH}
end
section
variable{X:Cx}{vQ:List (jD×Obj)}{σ:St}{H:Hp}{s:jM}{N:List Str}{scope:jL}{caps:List Nat}{x qual:Str}{f:jD}{cd:jO}{A:jE}
end
section
variable{X:Cx}{vQ:List (jD×Obj)}{σ:St}{s:jM}{scope:jL}{a:Wd}
end
section
variable{prog:jI}{w:jP}{A:jE}{E:jO->jM->Prop}{s:jM}
end
section
variable{X:Cx}{vQ:List (jD×Obj)}{σ:St}{H:Hp}{s:jM}{h':Heap}{m:Str->Option jO}
end
section
variable{X:Cx}{vQ:List (jD×Obj)}{σ:St}{N:List Str}{scope:jL}{caps:List Nat}{x:Str}{f:jD}{A:jE}{a:Wd}{S:DSt}{body:jF}{te:DE}{params:Arguments}{pm ctv:jO}{c':jD}{ob oc:Obj}{vs0:Array jO}{t0:Tok}{E:XK}
 {Dd kS:jD} {e1:Nat} {m:Str->Option jO} {h₀:Heap} {Q:VK}
end
end _D
namespace _D
open PySem PySem.Spec _L
open PyProof.Rows hiding St
open PySem.W (KatKeys KatFin katRev KatBack)
section
variable{prog:jI}{w:jP}{A:jE}{E:jO->jM->Prop}{s:jM}{h₀:Heap}{L a kS:jD}{m:Str->Option jO}{P:PySem.Fin->jM->Prop}
end
end _D
namespace _D
open PySem PySem.Spec _L
open PyProof.Rows hiding St
section
variable{X:Cx}{vQ:List (jD×Obj)}{σ:St}{N:List Str}{scope:jL}{caps:List Nat}{x:Str}{f:jD}{A:jE}{a:Wd}{S:DSt}{body:jF}{te:DE}{params:Arguments}{pm ctv:jO}{c':jD}{ob oc:Obj}{vs0:Array jO}{t0:Tok}
 {Dd kS:jD} {e1:Nat} {m:Str->Option jO} {h₀:Heap} {Q:VK}
end
section
variable{X:Cx}{vQ:List (jD×Obj)}{σ:St}{N:List Str}{scope:jL}{caps:List Nat}{x:Str}{f:jD}{A:jE}{a:Wd}{S:DSt}{body:jF}{te:DE}{params:Arguments}{pm ctv:jO}{c':jD}{ob oc:Obj}{vs0:Array jO}{t0:Tok}{Q:VK}
end
section
variable{X:Cx}{N:List Str}{scope:jL}{caps:List Nat}{x:Str}{body:jF}{te:DE}{params:Arguments}{e:jF}{tn:DA}{p p' pos pos' lp kp kp' cp:Pos}{C m:Str}{cj:Nat}
end
end _D
namespace _D
open PySem PySem.W _L
variable{K:xT}{C f:jD}{m x q:Str}{st:jN}
theorem ZFy{a:jD}{o:Obj}:∀{l:List Obj}{n:Nat},(Ob l n).lookup a=vZ o->n<=a/\l[a-n]?=vZ o/\∀x y z,o≠⟨x,y,.freed,z⟩
 |[],n,h=>by cases h
 | p::r,n,h=>by
  have next:(Ob r (n+1)).lookup a=vZ o->n<=a/\(p::r)[a-n]?=vZ o/\∀x y z,o≠⟨x,y,.freed,z⟩:=λh=>by obtain⟨h1,h2,h3⟩:=ZFy h;obtain⟨k,rfl⟩:=Nat.exists_eq_add_of_le h1;rw[Nat.add_sub_cancel_left]at h2;refine⟨z9 (qT n) h1,?_,h3⟩;rw[show n+1+k-n=k+1 by rw[Nat.add_assoc,Nat.add_sub_cancel_left,Nat.add_comm],List.getElem?_cons_succ];exact h2
  unfold Ob at h;split at h
  ·exact next h
  ·exact next h
  ·rename_i hz hf;rw[qM]at h;split at h
   ·rename_i e;have e':a=n:=by simpa using e
    subst e';cases h;refine⟨zx _,by simp,λx y z q=>?_⟩;subst q;exact hz rfl
   ·exact next h
theorem ZNT(h:Heap):(Te h).In h:=λa o e=>by
 obtain⟨_,h2,h3⟩:=ZFy e;have h4:h.objs[a]?=vZ o:=by simpa using h2
 unfold Heap.get?;rw[h4];split
 ·rename_i q;cases q;exact absurd rfl (h3 _ _ _)
 ·rfl
noncomputable def Mj(p:jI)(N:Nat)(w:jP):Heap:=match openEnds xF p w N with
 |some s=>s.heap
 |none=>default
def Stays(p:jI)(N:Nat)(w:jP)(h:Heap):Prop:=∀b o,(Mj p N w).get? b=vZ o->h.get? b=vZ o
theorem Stays.in{p:jI}{N:Nat}{w:jP}{h:Heap}(x:Stays p N w h):(Te (Mj p N w)).In h:=λa o e=>x a o (ZNT _ a o e)
def Vq(p:jI)(N:Nat):Hook:=
 ⟨Heap,λs=>s.heap,Mj p N,Stays p N,λw s e b o q=>by rw[show s.heap=Mj p N w from e];exact q,λw h h' x k b o q=>k b o (x b o q)⟩
section
variable{p q:jI}{loose:List Str}{Xt:jM->Bool}{N:Nat}{β:Type}{see:Heap->β}{val:β}
theorem ZQw(E:∀w,(openEnds xF p w N).map (λs=>(openSeen q loose (xW p.main.body) Xt vX s,see s.heap))=vZ (openGood q loose,val)):
  LeftO p q loose Xt (Vq p N).obs (Vq p N).val N:=λw=>by
 obtain⟨s,h1,h2⟩:=zA.mp (E w);show Option.map _ _=vZ (openGood q loose,Mj p N w);unfold Mj;rw[h1];show vZ (openSeen q loose (xW p.main.body) Xt vX s,s.heap)=_;rw[(Prod.mk.inj h2).1]
theorem ZM2(E:∀w,(openEnds xF p w N).map (λs=>(openSeen q loose (xW p.main.body) Xt vX s,see s.heap))=vZ (openGood q loose,val))(w:jP):see (Mj p N w)=val:=by obtain⟨s,h1,h2⟩:=zA.mp (E w);unfold Mj;rw[h1];exact(Prod.mk.inj h2).2
end
noncomputable def dOf(s:jN):DefRec:=match s with
 |Stmt.FunctionDef n a b _ _ _ s _ _ p=>⟨n,a,b,s,p⟩
 |_=>⟨Str.empty,⟨[],[],vJ,[],[],vJ,[]⟩,[],{kind:=.module,names:=[],isGenerator:=vV,isCoroutine:=vV,more:=[]},⟨0,0,0,0⟩⟩
theorem holds_top{l:OpenLaw}{q:jI}{loose:List Str}{N:Nat}{β:Type}{see:Heap->β}{val:β}{d:DefRec}(well:l.wellSaid=vX)
  (E:∀w,(openEnds xF l.prog w N).map (λs=>(openSeen q loose (xW l.prog.main.body) (XtOf l q) vX s,see s.heap))=vZ (openGood q loose,val))
  (hdef:defOf q l.row.name=vZ (d,[])) (hp:l.row.prog.theDef l.row.name=vZ (d.params,d.body,d.scope)) (hk:kwWritten? d.params.kwonlyargs d.params.kw_defaults=vZ []) (hwr:(!l.row.writes||l.row.records.isEmpty)=vX)
  (ok:(chainsOk q&&opensWell l.row.prog&&(frees l.row.toRowW&&l.row.within.isEmpty))=vX) (hb:l.row.prog.bare) (hw:l.row.toRowW.promised)
  (call:WalkO q loose (XL q []) (Stays l.prog N) l.row.toRowW d [] λf vs=>PySem.call f vs):l.Holds:=
 holds_law well λsaid=>holds_open (r:=l.row) (q:=q) (loose:=loose) (Xt:=XtOf l q) (XP:=XL q []) (YP:=Stays l.prog N) (N:=N) (ZQw E) (Vq l.prog N).of (Vq l.prog N).keeps
  (λs e=>xl_of s (qy.mp e).1) XL.keeps hdef hp hk (λs e=>recFacts_of (qy.mp e).2) hwr said ok hb hw call
theorem Lp{n:Str}(h:gOk K n=vX):nsIn K x9 n=vZ (vZ (.ref (Ab K n))):=by
 unfold gOk at h;unfold Ab;split at h
 ·rename_i e;rw[e]
 ·cases h
theorem ZGK(h:mOk K C m=vX):findIn K (.ref C) m=vZ (vZ (.ref (Dt K C m)))/\isFn K (.ref (Dt K C m))=vX:=by
 unfold mOk at h;unfold Dt;split at h
 ·rename_i e;rw[e];exact⟨rfl,h⟩
 ·cases h
theorem ZHs(h:noF K C m=vX):findIn K (.ref C) m=vZ vJ:=by
 unfold noF at h;split at h
 ·assumption
 ·cases h
theorem ZPe{n:Str}(h:zOk K n=vX):nsIn K x9 n=vZ vJ:=by
 unfold zOk at h;split at h
 ·assumption
 ·cases h
theorem ZFf(h:Vk K C=vX):findIn K (.ref C) "__setattr__"=vZ (vZ (.builtin "object.__setattr__")):=by
 unfold Vk at h;split at h
 ·rename_i e;rw[e,beq_iff_eq.mp h]
 ·cases h
noncomputable def Ek(K:xT)(n:Str):Tok:=match nsIn K x9 n with
 |some (vZ (.int _ t))=>t
 |some (vZ (.str _ t))=>t
 |_=>0
theorem ZOe{n:Str}{v:Int}(h:iOk K n v=vX):nsIn K x9 n=vZ (vZ (.int v (Ek K n))):=by
 unfold iOk at h;unfold Ek;split at h
 ·rename_i e;rw[e,of_decide_eq_true h]
 ·cases h
theorem ZNo{n:Str}{v:Str}(h:sOk K n v=vX):nsIn K x9 n=vZ (vZ (.str v (Ek K n))):=by
 unfold sOk at h;unfold Ek;split at h
 ·rename_i e;rw[e,of_decide_eq_true h]
 ·cases h
abbrev FnSaid(K:xT)(x q:Str)(st:jN)(f:jD):Prop:=
 K.lookup f=vZ ⟨(Jk K f).cls,(Jk K f).dict,.func (fnOf x q (Jr st) (Fq st) (Bd st) .none (Cg K f).kwdefaults (Cg K f).doc (Cg K f).pyModule (Cg K f).annotations (Cg K f).code (Cg K f).closureTuple),(Jk K f).slots⟩/\
  codeIn K (Cg K f).code q=vX/\keepIn K (.ref f)=vX
theorem ZG5(h:Yv K x q f=vX)(t:O5 K f=O7 st):FnSaid K x q st f:=by
 unfold Yv at h;split at h
 ·rename_i oc od fd sl e;have eo:Jk K f=⟨oc,od,.func fd,sl⟩:=by unfold Jk;rw[e]
  have ef:Cg K f=fd:=by unfold Cg;rw[eo]
  unfold O5 O7 at t;rw[ef]at t;obtain⟨t1,t2⟩:=Prod.mk.inj t;obtain⟨t2,t3⟩:=Prod.mk.inj t2;simp only[zV,decide_eq_true_eq,beq_iff_eq,List.isEmpty_iff]at h;obtain⟨⟨⟨h1,h2⟩,⟨⟨h3,h4⟩,h5⟩,h6⟩,h7,h8⟩:=h;unfold FnSaid;rw[ef,eo,e];refine⟨?_,h7,h8⟩;have h6':fd.defaults=.none:=by
   revert h6
   generalize fd.defaults=df;intro h6
   cases df<;>first|rfl|cases h6
  have h9:fd.body=.stmts (Fq st):=by
   revert t2
   generalize fd.body=bd;intro t2
   cases bd<;>first|(cases t2;rfl)|(cases t2)
  have ef':fd=fnOf x q (Jr st) (Fq st) (Bd st) .none fd.kwdefaults fd.doc fd.pyModule fd.annotations fd.code fd.closureTuple:=by show FuncData.mk fd.name fd.qualname fd.params fd.body fd.scope fd.globals fd.closure fd.defaults fd.kwdefaults fd.doc fd.pyModule fd.annotations fd.code fd.closureTuple fd.builtins=_;rw[h1,h2,t1,h9,t3,h3,h5,h6',h4]
  exact congrArg (λz=>vZ (Obj.mk oc od (.func z) sl)) ef'
 ·cases h
abbrev DfSaid(K:xT)(d:jO)(v:Int):Prop:=∃T o t n,d=.ref T/\K.lookup T=vZ o/\o.data=.seq #[.int v t] n
theorem ZK4{d:jO}{v:Int}(h:dfl K d v=vX):DfSaid K d v:=by
 unfold dfl at h;split at h
 ·rename_i T;split at h
  ·rename_i o e;split at h
   ·rename_i a n e2;split at h
    ·rename_i i t e3;cases of_decide_eq_true h;refine⟨T,o,t,n,rfl,e,?_⟩;rw[e2]
     congr 1
     rw[<-Array.toList_inj,e3]
    ·cases h
   ·cases h
  ·cases h
 ·cases h
abbrev FnSaidD(K:xT)(x q:Str)(st:jN)(f:jD)(v:Int):Prop:=
 K.lookup f=vZ ⟨(Jk K f).cls,(Jk K f).dict,.func (fnOf x q (Jr st) (Fq st) (Bd st) (Cg K f).defaults (Cg K f).kwdefaults (Cg K f).doc (Cg K f).pyModule (Cg K f).annotations (Cg K f).code (Cg K f).closureTuple),(Jk K f).slots⟩/\
  codeIn K (Cg K f).code q=vX/\keepIn K (.ref f)=vX/\DfSaid K (Cg K f).defaults v
theorem ZK9{v:Int}(h:ZDw K x q f v=vX)(t:O5 K f=O7 st):FnSaidD K x q st f v:=by
 unfold ZDw at h;split at h
 ·rename_i oc od fd sl e;have eo:Jk K f=⟨oc,od,.func fd,sl⟩:=by unfold Jk;rw[e]
  have ef:Cg K f=fd:=by unfold Cg;rw[eo]
  unfold O5 O7 at t;rw[ef]at t;obtain⟨t1,t2⟩:=Prod.mk.inj t;obtain⟨t2,t3⟩:=Prod.mk.inj t2;simp only[zV,decide_eq_true_eq,beq_iff_eq,List.isEmpty_iff]at h;obtain⟨⟨⟨h1,h2⟩,⟨⟨h3,h4⟩,h5⟩,h6⟩,h7,h8⟩:=h;unfold FnSaidD;rw[ef,eo,e];refine⟨?_,h7,h8,ZK4 h6⟩;have h9:fd.body=.stmts (Fq st):=by
   revert t2
   generalize fd.body=bd;intro t2
   cases bd<;>first|(cases t2;rfl)|(cases t2)
  have ef':fd=fnOf x q (Jr st) (Fq st) (Bd st) fd.defaults fd.kwdefaults fd.doc fd.pyModule fd.annotations fd.code fd.closureTuple:=by show FuncData.mk fd.name fd.qualname fd.params fd.body fd.scope fd.globals fd.closure fd.defaults fd.kwdefaults fd.doc fd.pyModule fd.annotations fd.code fd.closureTuple fd.builtins=_;rw[h1,h2,t1,h9,t3,h3,h5,h4]
  exact congrArg (λz=>vZ (Obj.mk oc od (.func z) sl)) ef'
 ·cases h
theorem ZAa:∀{l:List jO}{ss:List Str},strsOf l=vZ ss->Vals (ss.map V.str) l
 |[],ss,h=>by cases h;exact .nil
 |v::r,ss,h=>by
  unfold strsOf at h;split at h
  ·rename_i q;cases q
  ·rename_i s t r' q;cases q;obtain⟨ss',h1,rfl⟩:=zA.mp h;exact .cons ⟨_,rfl⟩ (ZAa h1)
  ·cases h
abbrev GtSaid(K:xT)(n:Str)(vs:List Str):Prop:=∃(p:jD)(od:Option jD)(sl:Array (Option jO))(k:Nat)(its:List jO),nsIn K x9 n=vZ (vZ (.ref p))/\K.lookup p=vZ ⟨.type "tuple",od,.seq its.toArray k,sl⟩/\its.length<=1000/\Vals (vs.map V.str) its
theorem ZLj{n:Str}{vs:List Str}(h:ZFC K n vs=vX):GtSaid K n vs:=by
 unfold ZFC at h;split at h
 ·rename_i p e;split at h
  ·rename_i t od its k sl e2;simp only[zV,beq_iff_eq,decide_eq_true_eq]at h;obtain⟨⟨rfl,h2⟩,h3⟩:=h;exact⟨p,od,sl,k,its.toList,e,by rw[e2],qO h3,ZAa h2⟩
  ·cases h
 ·cases h
abbrev GdSaid(K:xT)(n:Str)(kvs:List (Str×Str)):Prop:=∃(p:jD)(od:Option jD)(sl:Array (Option jO))(k:Nat)(es:Array DictEntry),nsIn K x9 n=vZ (vZ (.ref p))/\K.lookup p=vZ ⟨.type "dict",od,.dict es k,sl⟩/\(p==sysModules)=vV/\Vals ((kvs.map (·.1)).map V.str) (es.toList.map (·.key))/\Vals ((kvs.map (·.2)).map V.str) (es.toList.map (·.val))
theorem ZPs{n:Str}{kvs:List (Str×Str)}(h:ZBv K n kvs=vX):GdSaid K n kvs:=by
 unfold ZBv at h;split at h
 ·rename_i p e;split at h
  ·rename_i t od es k sl e2;simp only[zV,beq_iff_eq,decide_eq_true_eq,Bool.not_eq_true']at h;obtain⟨⟨⟨rfl,h2⟩,h3⟩,h4⟩:=h;exact⟨p,od,sl,k,es,e,by rw[e2],h2,ZAa h3,ZAa h4⟩
  ·cases h
 ·cases h
def Ask.Said(K:xT):Ask->Prop
 |.fn n st=>nsIn K x9 n=vZ (vZ (.ref (Ab K n)))/\FnSaid K n n st (Ab K n)
 |.mt c m q st=>findIn K (.ref (Ab K c)) m=vZ (vZ (.ref (Dt K (Ab K c) m)))/\isFn K (.ref (Dt K (Ab K c) m))=vX/\FnSaid K m q st (Dt K (Ab K c) m)
 | .cl c=>nsIn K x9 c=vZ (vZ (.ref (Ab K c)))/\plainGet K (Ab K c) Str.empty=vX/\hasDictIn K (Ab K c)=vX/\plainOver K (Ab K c)=vX/\
   findIn K (.ref (Ab K c)) "__setattr__"=vZ (vZ (.builtin "object.__setattr__"))/\makesIn K (Ab K c)=vX/\keepIn K (.ref (Ab K c))=vX
 |.no c x=>findIn K (.ref (Ab K c)) x=vZ vJ
 |.z n=>nsIn K x9 n=vZ vJ
 |.gi n v=>nsIn K x9 n=vZ (vZ (.int v (Ek K n)))
 |.gs n v=>nsIn K x9 n=vZ (vZ (.str v (Ek K n)))
 |.gt n vs=>GtSaid K n vs
 |.gd n kvs=>GdSaid K n kvs
 |.ck φ=>φ K=vX
 |.fd n st v=>nsIn K x9 n=vZ (vZ (.ref (Ab K n)))/\FnSaidD K n n st (Ab K n) v
theorem Ask.said:∀{a:Ask},a.chk K=vX->a.txt K=a.want->a.Said K
 |.fn n st,h,t=>by obtain⟨h1,h2⟩:=qy.mp h;exact⟨Lp h1,ZG5 h2 (Option.some.inj t)⟩
 |.mt c m q st,h,t=>by obtain⟨h1,h2⟩:=qy.mp h;exact⟨(ZGK h1).1,(ZGK h1).2,ZG5 h2 (Option.some.inj t)⟩
 |.cl c,h,_=>by simp only[Ask.chk,zV]at h;obtain⟨⟨h1,⟨h2,h3⟩,h4⟩,⟨h5,h6⟩,h7⟩:=h;exact⟨Lp h1,h2,h3,h4,ZFf h5,h6,h7⟩
 |.no c x,h,_=>ZHs h
 |.z n,h,_=>ZPe h
 |.gi n v,h,_=>ZOe h
 |.gs n v,h,_=>ZNo h
 |.gt n vs,h,_=>ZLj h
 |.gd n kvs,h,_=>ZPs h
 |.ck _,h,_=>h
 |.fd n st v,h,t=>by obtain⟨h1,h2⟩:=qy.mp h;exact⟨Lp h1,ZK9 h2 (Option.some.inj t)⟩
def AllSaid(K:xT):List Ask->Prop
 |[]=>True
 |a::r=>a.Said K/\AllSaid K r
theorem ZHR:∀{l:List Ask},(l.all (Ask.chk K),l.map (Ask.txt K))=(vX,l.map Ask.want)->AllSaid K l
 |[],_=>trivial
 |a::r,h=>by obtain⟨h1,h2⟩:=Prod.mk.inj h;rw[qH]at h1;obtain⟨h3,h4⟩:=qy.mp h1;rw[zz,zz]at h2;obtain⟨h5,h6⟩:=List.cons.inj h2;exact⟨Ask.said h3 h5,ZHR (by rw[h4,h6])⟩
theorem ZMY{a:Str}{fd:jG}{s:jM}{v:jO}(F:Fun K x q st f fd)
  (h:∀(kV doc pm:jO)(an:Option jD)(cdv ct:jO)(u:jO),bindArgs (fnOf x q (Jr st) (Fq st) (Bd st) .none kV doc pm an cdv ct) ⟨[u],[]⟩=pure [(a,u)]):BindsTo s fd ⟨[v],[]⟩ [(a,v)]:=by
 obtain⟨oc,od,kV,doc,pm,an,cdv,ct,osl,rfl,lk,hcd⟩:=F.ex;exact .of_eq (h kV doc pm an cdv ct v)
theorem ZI9{p:jI}{w:jP}{n₀:Nat}{ann:Option jO}:∀{n:Nat}{s s':SharedT}{t:Thread},ZAC p w n₀ ann n s t=vZ s'->topRun xF p w n₀ ann n s.abs t=vZ s'.abs
 |0,_,_,_,h=>by cases h
 | n+1,s,s',t,h=>by
  unfold ZAC at h;unfold topRun;rw[<-PySem.W.Fast.te6613529449190102663,<-PySem.W.Fast.te10156331382660048174,<-PySem.W.Fast.te11892475500146522536,<-PySem.W.Fast.te14364793385576792824]at h;cases ht:through t with
  |true=>
   rw[ht]at h;cases h
   rfl
  | false=>
   rw[ht]at h;dsimp only at h⊢;cases ho:stepOk n₀ ann t with
   |false=>rw[ho]at h;cases h
   |true=>
    rw[ho]at h;dsimp only at h⊢;split at h
    ·rename_i s2 t2 e;rw[stepT_spec e];exact ZI9 h
    ·cases h
theorem boot_abs:∀w os,(ZGz w os).abs=⟨xU w.params,Array.mk [],boot_drawn,boot_toks,os⟩:=λw os=>by kernel_rfl
theorem ZLa:∀w:jP,((xU w.params).isNs x9&&(Array.mk []:Array GenState).size==0)=vX:=λw=>by kernel_rfl
theorem ZOj{p q:jI}{loose:List Str}{Xt:jM->Bool}{β:Type}{see:Heap->β}{val:β}(e:opening p=plainProg p.main.scope.names)(f:∀s,fenceModules? p s=vZ s)
  (R:∀w os,(ZE7 p w os).map (λs=>(ZAr p w s.abs,PySem.W.Fast.tw4187177175401517315 q loose (PySem.W.Fast.tw5923862056798008813 p.main.body) Xt vX s.abs,see s.abs.heap))=vZ (vX,openGood q loose,val)):
  ∀w,(openEnds xF p w 100000).map (λs=>(openSeen q loose (xW p.main.body) Xt vX s,see s.heap))=vZ (openGood q loose,val):=λw=>by
 obtain⟨⟨h,gs,d,k,os⟩,h0,e0⟩:=zA.mp (boot_open (N:=100000) e rfl f w);obtain⟨rfl,rfl,rfl,rfl⟩:h=xU w.params/\gs=Array.mk []/\d=boot_drawn/\k=boot_toks:=by simpa using e0
 obtain⟨s,h1,h2⟩:=zA.mp (R w os);obtain⟨h3,h4⟩:=Prod.mk.inj h2;obtain⟨h4,h5⟩:=Prod.mk.inj h4;unfold ZE7 at h1;have r:=ZI9 h1;rw[boot_abs,<-PySem.W.Fast.te8920871248978507458]at r;rw[<-PySem.W.Fast.te4187177175401517315,<-PySem.W.Fast.te5923862056798008813]at h4;unfold ZAr at h3;rw[<-PySem.W.Fast.te5923862056798008813]at h3;have t:topFrom xF p w 100000 ⟨xU w.params,Array.mk [],boot_drawn,boot_toks,os⟩=vZ s.abs:=by
  unfold topFrom;dsimp only;rw[ZLa,r]
  show(match staticsOk (xW p.main.body) (xU w.params) s.abs.heap&&namesBound p s.abs.heap&&gensDone s.abs&&laidKept (xU w.params) s.abs.heap with |true=>_|false=>_)=_
  rw[h3]
 unfold openEnds;rw[h0];show(topFrom xF p w 100000 _).map _=_;rw[t];exact congrArg vZ (Prod.ext h4 h5)
theorem ZOF{l:OpenLaw}(h:PySem.W.Fast.tw9446332074065402090 l=vX):l.wellSaid=vX:=by rw[PySem.W.Fast.te9446332074065402090];exact h
structure FT (K:xT) (mg:Str->Option jO) (n:Str) (st:jN) (ps:List Str):Prop where
 F:Fun K n n st (Ab K n) (Cg K (Ab K n))
 b:Binds K (Cg K (Ab K n)) ps []
 m:mg n=vZ (.ref (Ab K n))
 k:keepIn K (.ref (Ab K n))=vX
structure MT (K:xT) (c m q:Str) (st:jN) (ps:List Str):Prop where
 F:Fun K m q st (Dt K (Ab K c) m) (Cg K (Dt K (Ab K c) m))
 b:Binds K (Cg K (Dt K (Ab K c) m)) ps []
 me:Meth K (Ab K c) m (Dt K (Ab K c) m)
theorem T4(s:FnSaid K x q st f):Fun K x q st f (Cg K f):=by
 have e:Cg K f=fnOf x q (Jr st) (Fq st) (Bd st) .none (Cg K f).kwdefaults (Cg K f).doc (Cg K f).pyModule (Cg K f).annotations (Cg K f).code (Cg K f).closureTuple:=by
  have h:=s.1
  conv=>lhs;unfold Cg Jk;rw[h]
 exact⟨⟨_,_,_,_,_,_,_,_,_,e,by rw[e];exact s.1,s.2.1⟩,s.2.2⟩
theorem Cv{h:Heap}{mg:Str->Option jO}{n:Str}{ps:List Str}(X:K.In h)(G:h.Ns x9 mg)(s:Ask.Said K (.fn n st))
  (hb:∀(kV doc pm:jO)(an:Option jD)(cdv ct:jO)(us:List jO),us.length=ps.length->bindArgs (fnOf n n (Jr st) (Fq st) (Bd st) .none kV doc pm an cdv ct) ⟨us,[]⟩=pure (ps.zip us)):FT K mg n st ps:=
 ⟨T4 s.2,(T4 s.2).binds hb,mg_of X G s.1,s.2.2.2⟩
theorem Rn{c:Str}{ps:List Str}(s:Ask.Said K (.mt c m q st))
  (hb:∀(kV doc pm:jO)(an:Option jD)(cdv ct:jO)(us:List jO),us.length=ps.length->bindArgs (fnOf m q (Jr st) (Fq st) (Bd st) .none kV doc pm an cdv ct) ⟨us,[]⟩=pure (ps.zip us)):MT K c m q st ps:=
 ⟨T4 s.2.2,(T4 s.2.2).binds hb,s.1,s.2.1,s.2.2.2.2⟩
abbrev FnO(P:jI)(w:jP)(K:xT)(mg:Str->Option jO)(base:Heap)(k:Nat)(n:Str)(ps:List Str)(F:List D->DH->R D):Prop:=FnOk P w K mg base CX0 k (Ab K n) (Cg K (Ab K n)) ps (lF K F)
theorem ZJv{fd:jG}{s:jM}{v:jO}{a:Str}(F:Fun K x q st f fd)
  (h:∀(kV doc pm:jO)(an:Option jD)(cdv ct:jO)(u:jO),bindArgs (fnOf x q (Jr st) (Fq st) (Bd st) .none kV doc pm an cdv ct) ⟨[u],[]⟩=pure [(a,u)]:=by intros;rfl):BindsTo s fd ⟨[v],[]⟩ [(a,v)]:=ZMY F h
end _D
namespace _D
open PySem PySem.Spec _L
open PyProof.Rows hiding St
variable{k i:Nat}{st:jN}{ps N:List Str}{F:List D->DH->R D}{cls:jO}{od:Option jD}{P:jI}{w:jP}{h base:Heap}{C f:jD}{H:Hp}{mg:Str->Option jO}{qual:Str}{fd:jG}{s:jM}{b:Wd}{G:DH}{fill expr:Bool}
section
variable{prog:jI}{w:jP}{A:jE}{E:jO->jM->Prop}{s:jM}
end
section
variable{X:Cx}{E:XK}{p:jD}{kvs:List (Str×Str)}{x:Str}{a:jF}{ta:DE}{np pos:Pos}
end
noncomputable def Et:D->Option V
 |.int i=>vZ (.int i)
 |.str x=>vZ (.str x)
 |_=>vJ
section
variable{X:Cx}{E:XK}{pos:Pos}
end
section
variable{S:DSt}{G:DH}
end
theorem Bs{X:Cx}{j:Nat}{n:Str}{p pos:Pos}{e:jF}{es:List jF}{tr:DA}(FF:FnO X.prog X.w X.K X.mg X.base k n ps F)(T:FT X.K X.mg n st ps)(hr:Room j X.A)(ha:QA X E0 (e::es) tr)
  (hj:k<=j:=by decide) (hg:Gl X n:=by exact rfl) (hd:(n==("__debug__":Str))=vV:=by decide) (he:notStar e=vX:=by exact rfl) (hp:es.all notStar=vX:=by exact rfl):QE X E0 (.Call (.Name n p) (e::es) [] pos) (dFn F tr):=
 ZNH FF (hr.mono hj) hg T.m T.k T.b pass0 ha hd he hp
theorem ZM0{f:Array jO->Array jO}{o:Obj}:(Obj.mapFields f o).dict=o.dict:=by
 obtain⟨c,d,dt,sl⟩:=o;unfold Obj.mapFields
 cases dt<;>rfl
def Trc(h B:Heap)(e:jD)(cls:jO)(od:Option jD)(fl:jO):Prop:=
 ∃oe vs T oT ts,h.get? e=vZ oe/\(oe.cls=cls/\oe.dict=od)/\oe.data=.fields vs/\vs[1]?=vZ (.ref T)/\(B.get? T=vJ/\T≠e)/\h.get? T=vZ oT/\oT.data=.fields ts/\ts[3]?=vZ fl
structure Noted (B:Heap) (l:List Env) (e:jD) (cls:jO) (od:Option jD) (fl:jO) (h h':Heap):Prop where
 st:B.StaysIn h'
 fr:h'.FunFrames B l
 tr:Trc h' B e cls od fl
 up:∀b o,h.get? b=vZ o->(∀vs,o.data≠ .fields vs)->∃sl,h'.get? b=vZ {o with slots:=sl}
 th:∀b o,h.get? b=vZ o->∃o',h'.get? b=vZ o'
section
variable{M:Model}{A:jE}{E:jO->jM->Prop}{s:jM}{B:Heap}{env:Env}{outer:List Env}{L e:jD}{oe:Obj}{vs:Array jO}{head:jO}{hn:Bool}{Q:Unit->jM->Prop}
theorem ZF6(fr:A.frames=vZ (env::outer))(hl:s.heap.FunFrames B (env::outer))(hf:env.frame=vZ L)(he:s.heap.get? e=vZ oe)(hk:B.StaysIn s.heap)(hb:B.get? e=vJ)(hd:oe.data=.fields vs)(hz:1<vs.size)
  (q:∀h',Noted B (env::outer) e oe.cls oe.dict (xB L) s.heap h'->Q () {s with heap:=h'}):
  xG M A (do let a<-frameOf env;let pl<-entryPlaceOf L hn;let b<-EntryCells.newEntry head a .none (xB L) .none pl;setField (.ref e) 1 b) Q E s:=by
 have ne:e∉(env::outer).filterMap (·.frame):=λhm=>by obtain⟨_,o,ho,nf⟩:=hl.mem hm;rw[he]at ho;cases ho;exact nf vs hd
 refine xI (wpAny_frameOf_fun fr hl hf λh1 k1=>?_);refine xI (wpAny_entryPlaceOf λpl hp=>?_);unfold EntryCells.newEntry newFields;refine xI (xO ?_ (hp.sizeOk5 _ _ _ _ _));generalize hO:({cls:=.type "traceback",dict:=vJ,data:=.fields ([head,.ref L,.none,xB L,.none]++(if pl.isEmpty then zk 6 Value.none else pl)).toArray}:Obj)=O;have hOd:O.data=.fields ([head,.ref L,.none,xB L,.none]++(if pl.isEmpty then zk 6 Value.none else pl)).toArray:=by rw[<-hO]
 have e1:h1.get? e=vZ oe:=(k1.2.1 e ne).trans he;have b1:B.StaysIn h1:=λb o hbo=>(k1.2.1 b λhm=>by rw[(hl.mem hm).1]at hbo;cases hbo).trans (hk b o hbo)
 have e2:(h1.push O).get? e=vZ oe:=zJ O e1;refine wpAny_setField e2 hd hz (q _ ?_);have nTe:h1.objs.size≠e:=Nat.ne_of_gt (zj e1)
 have d3:=Obj.data_mapFields hd (·.setIfInBounds 1 (Value.ref h1.objs.size))
 have e3:=qj (Obj.mapFields (·.setIfInBounds 1 (Value.ref h1.objs.size))) e2 (Obj.isFreed_of_fields d3)
 have t3:=(qQ (h1.push O) (Obj.mapFields (·.setIfInBounds 1 (Value.ref h1.objs.size))) (Ne.symm nTe)).trans (zI h1 (by rw[<-hO];rfl))
 have keep:∀b o,b≠e->h1.get? b=vZ o->((h1.push O).update e (Obj.mapFields (·.setIfInBounds 1 (Value.ref h1.objs.size)))).get? b=vZ o:=λb o n hb'=>by rw[qQ _ _ (Ne.symm n)];exact zJ _ hb'
 have nf:∀b o,s.heap.get? b=vZ o->(∀vs,o.data≠ .fields vs)->b≠e:=λb o hb' n z=>by rw[z,he]at hb';cases hb';exact n vs hd
 have fresh:B.get? h1.objs.size=vJ:=b1.fresh;refine⟨λb o hbo=>keep b o (λz=>by rw[z,hb]at hbo;cases hbo) (b1 b o hbo),hl.of_keeps λb o hb' n=>?_,⟨_,_,h1.objs.size,_,_,e3,⟨Obj.cls_mapFields _ _,ZM0⟩,d3,by simp[hz],⟨fresh,nTe⟩,t3,hOd,by simp⟩,λb o hb' n=>?_,λb o hb'=>?_⟩
 ·obtain⟨sl,hs⟩:=k1.2.2 b o hb';exact⟨_,keep b _ (nf b o hb' n) hs,rfl⟩
 ·obtain⟨sl,hs⟩:=k1.2.2 b o hb';exact⟨sl,keep b _ (nf b o hb' n) hs⟩
 ·obtain⟨sl,hs⟩:=k1.2.2 b o hb';by_cases z:b=e
  ·subst z;exact⟨_,e3⟩
  ·exact⟨_,keep b _ z hs⟩
theorem ZQ2(fr:A.frames=vZ (env::outer))(hl:s.heap.FunFrames B (env::outer))(hf:env.frame=vZ L)(he:s.heap.get? e=vZ oe)(hk:B.StaysIn s.heap)(hb:B.get? e=vJ)(hd:oe.data=.fields vs)(h1:vs[1]?=vZ .none)
  (q:∀h',Noted B (env::outer) e oe.cls oe.dict (xB L) s.heap h'->Q () {s with heap:=h'}):xG M A (noteFrame (.ref e) env) Q E s:=by
 unfold noteFrame;simp only[hf];refine xI (xL he hd h1 ?_);rw[if_neg (by decide)];exact ZF6 fr hl hf he hk hb hd (zO.mp h1).1 q
theorem ZHl(fr:A.frames=vZ (env::outer))(hl:s.heap.FunFrames B (env::outer))(hf:env.frame=vZ L)(ht:Trc s.heap B e cls od .none)(hk:B.StaysIn s.heap)(hb:B.get? e=vJ)
  (q:∀h',Noted B (env::outer) e cls od (xB L) s.heap h'->Q () {s with heap:=h'}):xG M A (noteFrame (.ref e) env) Q E s:=by
 obtain⟨oe,vs,T,oT,ts,he,⟨rfl,rfl⟩,hd,h1,⟨nT,nTe⟩,hT,dT,h3⟩:=ht;unfold noteFrame;simp only[hf];refine xI (xL he hd h1 ?_)
 rw[if_pos (show(Value.ref T != Value.none)=vX from by simp)]
 refine xI (xL hT dT h3 ?_)
 rw[if_neg (show¬((Value.none==xB L)=vX)from by simp[xB])]
 refine xI (wpAny_setField hT dT (zO.mp h3).1 ?_)
 have oth:∀b,b≠T->(s.heap.update T (Obj.mapFields (·.setIfInBounds 3 Value.none))).get? b=s.heap.get? b:=λb n=>qQ _ _ (Ne.symm n)
 have nf:∀b o,s.heap.get? b=vZ o->(∀vs,o.data≠ .fields vs)->b≠T:=λb o hb' n z=>by rw[z,hT]at hb';cases hb';exact n ts dT
 refine ZF6 fr (hl.of_keeps λb o hb' n=>⟨o,(oth b (nf b o hb' n)).trans hb',rfl⟩) hf ((oth e (Ne.symm nTe)).trans he)
  (λb o hbo=>(oth b λz=>by rw[z,nT]at hbo;cases hbo).trans (hk b o hbo)) hb hd (zO.mp h1).1
  λh' n=>q h' ⟨n.st,n.fr,n.tr,λb o hb' nn=>n.up b o ((oth b (nf b o hb' nn)).trans hb') nn,λb o hb'=>?_⟩
 by_cases z:b=T
 ·subst z;exact n.th b _ (qj _ hT (Obj.isFreed_of_fields (Obj.data_mapFields dT _)))
 ·exact n.th b o ((oth b z).trans hb')
theorem ZBB{fl:jO}{l:List Env}(hl:s.heap.FunFrames B l)(ht:Trc s.heap B e cls od fl)(hk:B.StaysIn s.heap)
  (q:∀h',Noted B l e cls od .none s.heap h'->Q () {s with heap:=h'}):xG M A (setFlight (.ref e) vJ) Q E s:=by
 obtain⟨oe,vs,T,oT,ts,he,⟨rfl,rfl⟩,hd,h1,⟨nT,nTe⟩,hT,dT,h3⟩:=ht;unfold setFlight;refine xI (xL he hd h1 ?_)
 rw[if_pos (show(Value.ref T != Value.none)=vX from by simp)]
 refine wpAny_setField hT dT (zO.mp h3).1 (q _ ?_)
 have oth:∀b,b≠T->(s.heap.update T (Obj.mapFields (·.setIfInBounds 3 ((vJ:Option jD).elim Value.none λf=>xB f)))).get? b=s.heap.get? b:=λb n=>qQ _ _ (Ne.symm n)
 have nf:∀b o,s.heap.get? b=vZ o->(∀vs,o.data≠ .fields vs)->b≠T:=λb o hb' n z=>by rw[z,hT]at hb';cases hb';exact n ts dT
 have dT':=Obj.data_mapFields dT (·.setIfInBounds 3 ((vJ:Option jD).elim Value.none λf=>xB f))
 have hT':=qj (Obj.mapFields (·.setIfInBounds 3 ((vJ:Option jD).elim Value.none λf=>xB f))) hT (Obj.isFreed_of_fields dT')
 have z3:=(zO.mp h3).1;refine⟨λb o hbo=>(oth b λz=>by rw[z,nT]at hbo;cases hbo).trans (hk b o hbo),hl.of_keeps λb o hb' n=>⟨o,(oth b (nf b o hb' n)).trans hb',rfl⟩,
  ⟨oe,vs,T,_,_,(oth e (Ne.symm nTe)).trans he,⟨rfl,rfl⟩,hd,h1,⟨nT,nTe⟩,hT',dT',by simp[z3]⟩,λb o hb' n=>⟨o.slots,(oth b (nf b o hb' n)).trans hb'⟩,λb o hb'=>?_⟩
 by_cases z:b=T
 ·subst z;exact⟨_,hT'⟩
 ·exact⟨o,(oth b z).trans hb'⟩
theorem Noted.trans{l:List Env}{f1 f2:jO}{h1 h2 h3:Heap}(x:Noted B l e cls od f1 h1 h2)(y:Noted B l e cls od f2 h2 h3):Noted B l e cls od f2 h1 h3:=
 ⟨y.st,y.fr,y.tr,λb o hb n=>by
  obtain⟨sl,k⟩:=x.up b o hb n;obtain⟨sl',k'⟩:=y.up b _ k n;exact⟨sl',k'⟩,λb o hb=>by
  obtain⟨o',k⟩:=x.th b o hb;exact y.th b o' k⟩
theorem ZKl(fr:A.frames=vZ (env::outer))(hl:s.heap.FunFrames B (env::outer))(hf:env.frame=vZ L)(he:s.heap.get? e=vZ oe)(hk:B.StaysIn s.heap)(hb:B.get? e=vJ)(hd:oe.data=.fields vs)(h1:vs[1]?=vZ .none)
  (q:∀h',Noted B (env::outer) e oe.cls oe.dict .none s.heap h'->Q () {s with heap:=h'}):xG M A (leaving env (.ref e)) Q E s:=by
 unfold leaving;exact xI (ZQ2 fr hl hf he hk hb hd h1 λh' n=>ZBB n.fr n.tr n.st λh'' n'=>q h'' (n.trans n'))
theorem ZQX(fr:A.frames=vZ (env::outer))(hl:s.heap.FunFrames B (env::outer))(hf:env.frame=vZ L)(ht:Trc s.heap B e cls od .none)(hk:B.StaysIn s.heap)(hb:B.get? e=vJ)
  (q:∀h',Noted B (env::outer) e cls od .none s.heap h'->Q () {s with heap:=h'}):xG M A (leaving env (.ref e)) Q E s:=by
 unfold leaving;exact xI (ZHl fr hl hf ht hk hb λh' n=>ZBB n.fr n.tr n.st λh'' n'=>q h'' (n.trans n'))
end
structure Fly (B:Heap) (l:List Env) (e:jD) (cls:jO) (od:Option jD) (H':Hp) (h:Heap):Prop where
 st:B.StaysIn h
 fr:h.FunFrames B l
 tr:Trc h B e cls od .none
 eb:B.get? e=vJ
 al:∀b,H' b≠vJ->∃o,B.get? b=vZ o
def CXx(P:jI)(w:jP):CXT:=λouter H s E e s'=>∃(ea:jD)(cls:jO)(od:Option jD)(H':Hp)(B:Heap),e=.ref ea/\s'.os=s.os/\AllBare s'.gens/\Un (frs outer) [] H H' s.heap s'.heap/\HOk P w H' s'.heap/\
 Fly B outer ea cls od H' s'.heap/\(∀b o,s.heap.get? b=vZ o->H b=vJ->b∉frs outer->B.get? b=vZ o)/\s.heap.get? ea=vJ/\E cls od H'/\∃C,cls=.ref C
section
variable{X:Cx}{vQ:List (jD×Obj)}{σ:St}{H H':Hp}{s s':jM}{B h'':Heap}{ea:jD}{cls:jO}{od:Option jD}{E:XK}
theorem ZHC{h':Heap}(hok:HOk P w H' h)(al:∀b,H' b≠vJ->∃o,B.get? b=vZ o)(s1:B.StaysIn h)(s2:B.StaysIn h'):HOk P w H' h':=λa o e=>
 (hok a o e).stay (λb u hb q=>by
  have hn:H' b≠vJ:=by
   rcases hb with rfl|hb
   ·rw[e];simp
   ·rw[hb];simp
  obtain⟨o',k⟩:=al b hn;have k1:=s1 b o' k;rw[q]at k1;cases k1;exact s2 b u k) (λ_ q=>q) λ_ _ q=>q
theorem ZIe(I:Inv X vQ σ H s)(hs:X.stack=X.env::X.outer)(hex:X.ex=[])(hfr:X.env.frame=vZ X.env.locals)(os:s'.os=s.os)(bare:AllBare s'.gens)(un:Un (frs X.stack) [] H H' s.heap s'.heap)(hok:HOk X.prog X.w H' s'.heap)
  (bb:∀b o,s.heap.get? b=vZ o->H b=vJ->b∉frs X.stack->B.get? b=vZ o) (al:∀b,H' b≠vJ->∃o,B.get? b=vZ o) (eb:B.get? ea=vJ) (st:B.StaysIn s'.heap) (new:s.heap.get? ea=vJ)
  (n:Noted B X.stack ea cls od .none s'.heap h'') (hE:E cls od H') (hc:∃C,cls=.ref C):CXx X.prog X.w X.outer X.H₀ X.s₀ E (.ref ea) {s' with heap:=h''}:=by
 have base:=I.base;rw[hex]at base;have fe:frs X.stack=X.env.locals::frs X.outer:=by rw[hs];unfold frs;rw[zH,hfr]
 have bb':∀b o,X.s₀.heap.get? b=vZ o->X.H₀ b=vJ->b∉frs X.outer->B.get? b=vZ o:=λb o q hn hb=>by
  refine bb b o (base.keep b o q hn hb (by simp)) (base.free b o q hn (by simp)) ?_;rw[fe];intro hm;rcases zq.mp hm with z|z
  ·exact absurd (zW (zj q) I.ok.above) (by rw[z];exact zN _)
  ·exact hb z
 have frO:h''.FunFrames B X.outer:=by have:=n.fr;rw[hs]at this;exact this.2.2
 refine⟨ea,cls,od,H',B,rfl,os.trans I.os,bare,⟨λb o q hn hb _=>n.st b o (bb' b o q hn hb),λb o q hn hb _=>?_,λb o q hn hx=>?_,λb o q hx=>?_,λb xs q=>un.tups b xs (base.tups b xs q),λb o u q=>un.frzs b o u (base.frzs b o u q),λb ps q=>?_⟩,ZHC hok al st n.st,⟨n.st,frO,n.tr,eb,al⟩,bb',?_,hE,hc⟩
 ·obtain⟨sl,k⟩:=base.slot b o q hn hb (by simp);have hm:b∈frs X.stack:=by rw[fe];exact zY _ hb
  obtain⟨sl',k'⟩:=un.slot b _ k (base.free b o q hn (by simp)) hm (by simp);obtain⟨_,o2,k2,nf⟩:=I.stack.mem hm;rw[k]at k2;cases k2;obtain⟨sl'',k3⟩:=n.up b _ k' nf;exact⟨sl'',k3⟩
 ·obtain⟨o1,k1⟩:=base.there b o q hx;exact un.free b o1 k1 (base.free b o q hn hx) hx
 ·obtain⟨o1,k1⟩:=base.there b o q hx;obtain⟨o2,k2⟩:=un.there b o1 k1 hx;exact n.th b o2 k2
 ·obtain⟨m1,k1⟩:=base.tbls b ps q;obtain⟨m2,k2⟩:=un.tbls b _ k1;exact⟨m1++m2,by rw[k2,Array.append_assoc]⟩
 ·cases q:X.s₀.heap.get? ea with
  |none=>rfl
  |some o=>
   obtain⟨o1,k1⟩:=base.there ea o q (by simp);rw[new]at k1;cases k1
def M8(X:Cx)(E:XK):jO->jM->Prop:=λe s'=>xG (xA X.prog X.w) X.A (leaving X.env e) (λ_ s''=>CXx X.prog X.w X.outer X.H₀ X.s₀ E e s'') (λe' s''=>CXx X.prog X.w X.outer X.H₀ X.s₀ E e' s'') s'
theorem ZQQ(hs:X.stack=X.env::X.outer)(hex:X.ex=[])(hfr:X.env.frame=vZ X.env.locals)(I:Inv X vQ σ H s){e:jO}(h:CXx X.prog X.w X.stack H s E e s'):M8 X E e s':=by
 obtain⟨ea,cls,od,H',B,rfl,os,bare,un,hok,fly,bb,new,hE,hc⟩:=h;have fr:=I.ok.frames;have ff:=fly.fr;unfold M8;refine ZQX (B:=B) (L:=X.env.locals) (outer:=X.outer) (by rw[fr,hs]) (by rw[<-hs];exact ff) hfr fly.tr fly.st fly.eb λh'' n=>?_
 rw[<-hs]at n;exact ZIe I hs hex hfr os bare un hok bb fly.al fly.eb fly.st new n hE hc
theorem ZIF{a:jD}{o:HO}(x:ObjOk P w H h a o):∃ob,h.get? a=vZ ob:=by
 cases o with
 |lst xs=>obtain⟨_,_,_,_,e⟩:=x;exact⟨_,e⟩
 |tup xs=>obtain⟨_,_,_,_,e,_⟩:=x;exact⟨_,e⟩
 |dK kvs=>obtain⟨_,_,_,_,o,_,_,e,_⟩:=x;exact⟨_,e⟩
 |dT kvs=>obtain⟨_,_,_,_,o,_,_,e,_⟩:=x;exact⟨_,e⟩
 |set S n=>obtain⟨o,_,_,_,e,_⟩:=x;exact⟨_,e⟩
 |ins C dx fs=>obtain⟨_,_,_,e,_⟩:=x;exact⟨_,e⟩
 |own y=>exact x
 |xd fs=>obtain⟨_,⟨_,_,_,e,_⟩,_⟩:=x;exact⟨_,e⟩
 |rng lo hi=>obtain⟨_,_,_,e⟩:=x;exact⟨_,e⟩
 |frz ob u=>obtain⟨e,_⟩:=x;exact⟨_,e⟩
 |tbl ps=>exact⟨_,x⟩
 |met f y=>exact⟨_,x⟩
 |ext φ=>exact x.2.1
theorem ZJP{h':Heap}:∀{l:List Env},h.FunFrames base l->(∀b∈frs l,∀o,h.get? b=vZ o->∃sl,h'.get? b=vZ {o with slots:=sl})->h'.FunFrames base l
 |[],_,_=>trivial
 |env::r,⟨hk,⟨L,o,hf,hn,ho,hd⟩,hr⟩,k=>by
  have fe:frs (env::r)=L::frs r:=by unfold frs;rw[zH,hf]
  obtain⟨sl,z⟩:=k L (by rw[fe];exact z8) o ho;exact⟨hk,⟨L,_,hf,hn,z,hd⟩,ZJP hr λb hb o' ho'=>k b (by rw[fe];exact zY _ hb) o' ho'⟩
structure Made (X:Cx) (H:Hp) (s:jM) (ea:jD) (cls:jO) (od:Option jD) (s':jM) (H':Hp):Prop where
 os:s'.os=s.os
 bare:AllBare s'.gens
 un:Un (frs X.stack) [] H H' s.heap s'.heap
 hok:HOk X.prog X.w H' s'.heap
 ob:∃oe vs,s'.heap.get? ea=vZ oe/\oe.cls=cls/\oe.dict=od/\oe.data=.fields vs/\vs[1]?=vZ .none
 fe:H' ea=vJ
 new:s.heap.get? ea=vJ
theorem ZFt(hs:X.stack=X.env::X.outer)(hex:X.ex=[])(hfr:X.env.frame=vZ X.env.locals)(I:Inv X vQ σ H s)(m:Made X H s ea cls od s' H')(hE:E cls od H')(hc:∃C,cls=.ref C):M8 X E (.ref ea) s':=by
 obtain⟨oe,vs,he,rfl,rfl,hd,h1⟩:=m.ob;have ne:ea∉frs X.stack:=λhm=>by obtain⟨_,o,ho,_⟩:=I.stack.mem hm;rw[m.new]at ho;cases ho
 have F':s'.heap.FunFrames X.base X.stack:=ZJP I.stack λb hb o ho=>m.un.slot b o ho (I.Wr b hb) hb (by simp)
 have FB:s'.heap.FunFrames (PySem.W.hideAll s'.heap (ea::frs X.stack)) X.stack:=PySem.W.funFrames_hide F' λenv hm a q=>zY _ (List.mem_filterMap.mpr ⟨env,hm,q⟩)
 have eb:(PySem.W.hideAll s'.heap (ea::frs X.stack)).get? ea=vJ:=by exact PySem.W.hideAll_none _ z8
 have st:(PySem.W.hideAll s'.heap (ea::frs X.stack)).StaysIn s'.heap:=λb o q=>PySem.W.of_hideAll _ q
 have bb:∀b o,s.heap.get? b=vZ o->H b=vJ->b∉frs X.stack->(PySem.W.hideAll s'.heap (ea::frs X.stack)).get? b=vZ o:=λb o q hn hb=>PySem.W.hideAll_get _ (m.un.keep b o q hn hb (by simp)) λhm=>by
  rcases zq.mp hm with z|z
  ·rw[z,m.new]at q;cases q
  ·exact hb z
 have al:∀b,H' b≠vJ->∃o,(PySem.W.hideAll s'.heap (ea::frs X.stack)).get? b=vZ o:=λb hb=>by
  cases q:H' b with
  |none=>exact absurd q hb
  |some u=>
   obtain⟨o,k⟩:=ZIF (m.hok b u q);refine⟨o,PySem.W.hideAll_get _ k λhm=>?_⟩;rcases zq.mp hm with z|z
   ·rw[z,m.fe]at q;cases q
   ·obtain⟨_,o1,k1,_⟩:=I.stack.mem z;rw[m.un.free b o1 k1 (I.Wr b z) (by simp)]at q;cases q
 unfold M8;refine ZKl (B:=PySem.W.hideAll s'.heap (ea::frs X.stack)) (L:=X.env.locals) (outer:=X.outer) (by rw[I.ok.frames,hs]) (by rw[<-hs];exact FB) hfr he st eb hd h1 λh'' n=>?_
 rw[<-hs]at n;exact ZIe I hs hex hfr m.os m.bare m.un m.hok bb al eb st m.new n hE hc
end
section
variable{prog:jI}{w:jP}{A:jE}{E:jO->jM->Prop}{h:Heap}{g:Array GenState}{d:Drawn}{t:Nat}{os:OsState}
variable{nm q:Str}{C N:jD}{bs bm bmB:List jO}{hdct:Bool}{sn:List Str}{sub:List jO}{ab:Bool}{col:Option Bool}{dd:Option jD}{k0 k1 k2 k3 k5:Option jO}{B newId initId:String}
theorem ZMc(F:ExcBaseFacts B newId initId bmB)(T:OwnTail h bmB bm){mN:Str->Option jO}{rest:List jO}{fI:jD}{oI:Obj}{Q:Fin->jM->Prop}
  (hC:h.get? C=vZ (excClassObj nm q C N bs bm hdct sn sub ab col dd k0 k1 k2 k3 k5 newId)) (hn:h.Ns N mN) (hi:mN "__init__"=vZ (.ref fI)) (hfI:h.get? fI=vZ oI) (hfc:oI.cls=.type "function")
  (hq:∀h' e,Heap.MadeExcOf h h' e (.ref C) rest->h.objs.size<=e->xG (xA prog w) A (call (.ref fI) (.ref e::rest)) (λr s'=>r=.none/\Q (.done (.ret (.ref e))) s') E ⟨h',g,d,t,os⟩) (hr:rest.length<=sizeLine):
  xG (xA prog w) A (Builtin.«type.__call__» ⟨.ref C::rest,[]⟩) Q E ⟨h,g,d,t,os⟩:=by
 repeat (first|with_reducible refine wpAny_loadPart_at hC ?_|with_reducible refine wpAny_madeBy_exc hC ?_|wp_step)
 refine codeAny_call_builtin_code (Code.quiet_builtin _ F.quiet) (wpAny_check_new_subT F T hC ?_);refine codeAny_exc_new_subT F T hC ?_ hr;show xG _ _ _ _ _ _;generalize hO1:({cls:=.type "tuple",data:=.seq rest.toArray}:Obj)=O1;generalize hO2:({cls:=.ref C,data:=.fields #[.ref h.objs.size,.none,.none,.none,.bool vV,.none]}:Obj)=O2;have kp:∀b o,h.get? b=vZ o->((h.push O1).push O2).get? b=vZ o:=λb o z=>zJ _ (zJ _ z)
 have hC1:=kp _ _ hC;have hf1:=kp _ _ hfI;have hn1:((h.push O1).push O2).Ns N mN:=hn.keeps kp;have T1:=T.keeps kp;have hg:((h.push O1).push O2).get? (h.objs.size+1)=vZ O2:=Heap.get?_push_at (by simp only[jB]) (by rw[<-hO2];rfl);have hc2:O2.cls=.ref C:=by rw[<-hO2]
 have cc:(Value.ref C::bm).contains (.ref C)=vX:=by simp
 unfold isInstance
 repeat (first|(with_reducible refine wpAny_loadPart_at hg ?_;rw[hc2])|(with_reducible refine wpAny_isSubtype_exc hC1 ?_;rw[cc])|wp_step)
 show xG _ _ (typeLookup (.ref C) _) _ _ _;refine wpAny_typeLookup_tail hC1 hn1 T1 F.mroIs F.init.lookup ?_;rw[hi];refine xM (xI ?_);unfold bindSpecial;refine xI (wpAny_typeOf (T:="function") ⟨_,hf1,hfc⟩ ?_);rw[if_pos (by decide)];refine xR (xI (xN (hq _ (h.objs.size+1) ⟨kp,j7 (qT _),h.objs.size,by rw[hg,<-hO2],j7 (zx _),?_⟩ ?_) (λr s' z=>?_) λ_ _ x=>x))
 ·rw[<-hO1];exact zJ _ (Heap.get?_push_at rfl rfl)
 ·exact qT _
 ·obtain⟨rfl,hQ⟩:=z
  wp_walk
  exact hQ
theorem ZMR(F:ExcBaseFacts B newId initId bmB)(T:OwnTail h bmB bm){mN:Str->Option jO}{rest:List jO}{fI:jD}{oI:Obj}{Q:jO->jM->Prop}
  (hC:h.get? C=vZ (excClassObj nm q C N bs bm hdct sn sub ab col dd k0 k1 k2 k3 k5 newId)) (hn:h.Ns N mN) (hi:mN "__init__"=vZ (.ref fI)) (hfI:h.get? fI=vZ oI) (hfc:oI.cls=.type "function")
  (hq:∀h' e,Heap.MadeExcOf h h' e (.ref C) rest->h.objs.size<=e->xG (xA prog w) (A.under (.builtin "type.__call__" ⟨.ref C::rest,[]⟩)) (call (.ref fI) (.ref e::rest)) (λr s'=>r=.none/\Q (.ref e) s') E ⟨h',g,d,t,os⟩) (hr:rest.length<=sizeLine):
  xG (xA prog w) A (call (.ref C) rest) Q E ⟨h,g,d,t,os⟩:=by
 have f1:=tc_lookup;have f2:=tc_bind (.ref C);have hT:(⟨h,g,d,t,os⟩:jM).TypeIs (.ref C) "type":=⟨_,hC,rfl⟩;refine wpAny_call (codeAny_of_tree ?_);show xG _ _ (callAny (.ref C) _) _ _ _
 repeat (any_goals (first|assumption|with_reducible refine wpAny_loadPart_at hC ?_|wp_step))
 refine⟨rfl,?_⟩;refine codeAny_call_builtin_at (Code.quiet_builtin _ (by decide +kernel)) entry_typeCall (wpAny_check_type_call_sub hC (ZMc F T hC hn hi hfI hfc (λh' e hm he=>?_) hr));exact hq h' e hm he
end
theorem ZOt{K:PySem.W.Frag}{N:jD}{m:Str->Option jO}{n:Str}{v:jO}(X:K.In h)(G:h.Ns N m)(e:PySem.W.nsIn K N n=vZ (vZ v)):m n=vZ v:=by
 obtain⟨o,es,ep,ho,hd,_,hf⟩:=G;unfold PySem.W.nsIn at e;split at e
 ·rename_i c d es' n' sl q;have:=X _ _ q;rw[ho]at this;cases this;cases hd;split at e
  ·rename_i y he;rw[<-hf];unfold nsFind findBy;rw[<-Array.find?_toList,he];exact Option.some.inj e
  ·split at e<;>cases e
 ·cases e
theorem Od{K:PySem.W.Frag}(X:K.In h)(q:Hu K C=vX):∃bm N nm qn bs sn sub ab col dd k0 k1 k2 k3 k5,h.get? C=vZ (excClassObj nm qn C N bs bm vX sn sub ab col dd k0 k1 k2 k3 k5 "ValueError.__new__")/\OwnTail h vmro bm/\
  (∃m,h.Ns N m/\∀f,Ov K C f=vX->m "__init__"=vZ (.ref f)):=by
 unfold Hu at q;split at q
 ·rename_i dd cd sl ho;split at q
  ·rename_i C' bm k0 k1 k2 k3 n k5 hm hs;simp only[zV,beq_iff_eq,Bool.not_eq_true']at q;obtain⟨⟨⟨⟨⟨rfl,rfl⟩,hdel⟩,hdc⟩,ht⟩,hok⟩:=q;have hi:∀f,Ov K C' f=vX->PySem.W.nsIn K cd.ns "__init__"=vZ (vZ (.ref f)):=λf z=>by unfold Ov at z;rw[ho]at z;exact beq_iff_eq.mp z
   obtain⟨nm,bs,mro,ns,qn,hd,sn,sub,ab,col,del⟩:=cd;dsimp only at hm hdel hok hdc hi;subst hm hdel hdc;have hsl:sl= #[k0,k1,k2,k3,vZ (.builtin "ValueError.__new__"),k5]:=by obtain⟨l⟩:=sl;simp only at hs;rw[hs]
   subst hsl;exact⟨bm,ns,nm,qn,bs,sn,sub,ab,col,dd,k0,k1,k2,k3,k5,X _ _ ho,PySem.W.tail_of_in X ht,_,.of_isNs (PySem.W.isNs_of_in X hok),λf z=>ZOt X (.of_isNs (PySem.W.isNs_of_in X hok)) (hi f z)⟩
  ·cases q
 ·cases q
noncomputable def exO(C:jD)(od:Option jD)(t:jD):Obj:={cls:=.ref C,dict:=od,data:=.fields #[.ref t,.none,.none,.none,.bool vV,.none]}
def exo(e C:jD)(od:Option jD)(h:Heap):Prop:=∃t,h.get? e=vZ (exO C od t)
theorem ZBV{e:jD}(x:exo e C od h):ObjOk P w H h e (.ext (exo e C od)):=
 ⟨x,let⟨t,k⟩:=x;⟨_,k⟩,λh1 h2 ⟨t,k⟩ s=>⟨t,s _ k⟩⟩
section
variable{X:Cx}{C W:jD}{x:Str}{mc:jO}{p apos pos:Pos}{a1 a2:jF}{t:TA}
noncomputable def tBI(C:jD)(t:TA):TE:=λσ H Q=>t σ H λvs H1=>∃e v,vs=[.ref e,v]/\H1 e=vZ (.ext (exo e C vJ))/\Q .non H1
theorem ZOb{a:jD}{o:HO}(h:H a=vZ o):upd H a o=H:=by
 funext b;unfold upd;split
 ·rename_i z;rw[z,h]
 ·rfl
theorem ZKz{pl:Sem Bool}(hC:Hu X.K C=vX)(hg:Gl X x)(hm:X.mg x=vZ (.ref W))(hs:PySem.W.specialIn X.K (.ref W) "__getattribute__"=vZ (vZ (.builtin "type.__getattribute__")))(hr:PySem.W.readsIn X.K W mc=vX)
  (hf:PySem.W.findCls X.K (.ref W) mc "__init__"=vZ (.val (.builtin "ValueError.__init__"))) (ha:PA X [a1,a2] t) (hdb:(x==("__debug__":Str))=vV:=by decide)
  (he:xE [a1,a2] X.env=(vV,eval a1 X.env)::xE [a2] X.env:=by rfl) (hpl:(jT pos (xE [a2] X.env)).any (·.1)=vV:=by rfl)
  (ht:eval (.Call (.Attribute (.Name x p) "__init__" apos) [a1,a2] [] pos) X.env=(do
   let ov<-eval (.Name x p) X.env
   standAt apos.atName
   let(f,first)<-holding [ov] (getMethod ov "__init__" pl)
   callWith pos f first (jT pos (xE [a1,a2] X.env)) (backToKw pos (keywordEach [] X.env))):=by rfl):
  PE X (.Call (.Attribute (.Name x p) "__init__" apos) [a1,a2] [] pos) (tBI C t):=by
 intro vQ s σ H Q I h;refine PySem.W.methodCall_KW (pl:=pl) (Nk I hg hm ?_ hdb) ht;refine PySem.W.method_cls I.kIn hs (PySem.W.cls_value I.kIn hr hf (by decide) ?_);refine PyProof.Rows.callWith_builtin1 (thn (ha pos vQ _ σ H _ (I.tok _) h) λus s1 ⟨vs,H1,I1,r,e,v,ev,hx,q⟩=>?_) he hpl;subst ev;obtain⟨u,rfl⟩:∃u,us=[.ref e,u]:=by
  cases r with
  | cons r1 r2=>
   cases r2 with
   |cons r3 r4=>
    cases r4
    obtain rfl:=(show _=Value.ref e from r1)
    exact⟨_,rfl⟩
 obtain⟨⟨tp,hob⟩,_,_⟩:=I1.hok e _ hx;obtain⟨bm,N,nm,qn,bs,sn,sub,ab,col,dd,k0,k1,k2,k3,k5,hcl,T,m,hN,_⟩:=Od I1.kIn hC;obtain⟨hp,g,d,tk,os⟩:=s1;have F:=PySem.F.excBase_ValueError;refine wpAny_call (codeAny_call_builtin F.init.plain F.initEntry (wpAny_check_init_subT F T hcl hob rfl ?_))
 wp_walk
 show EP X vQ σ Q .none {heap:=(hp.push {cls:=.type "tuple",data:=.seq #[u]}).update e (Obj.mapFields (·.setIfInBounds 0 (Value.ref hp.objs.size))),gens:=g,drawn:=d,toks:=tk,os:=os}
 have he1:(hp.push {cls:=.type "tuple",data:=.seq #[u]}).get? e=vZ (exO C vJ tp):=zJ _ hob
 have he2:((hp.push {cls:=.type "tuple",data:=.seq #[u]}).update e (Obj.mapFields (·.setIfInBounds 0 (Value.ref hp.objs.size)))).get? e=vZ (exO C vJ hp.objs.size):=qj _ he1 rfl
 have J:=I1.write (t':=tk) (x:=e) (e:=e) (o:=.ext (exo e C vJ)) (h':=(hp.push {cls:=.type "tuple",data:=.seq #[u]}).update e (Obj.mapFields (·.setIfInBounds 0 (Value.ref hp.objs.size)))) (by rw[hx];trivial) (.inl rfl)
  (λb o n k=>by rw[qQ _ _ (Ne.symm n)];exact zJ _ k) ⟨_,he2⟩ (ZBV ⟨_,he2⟩)
 rw[ZOb hx]at J;exact⟨.non,H1,J,rfl,q⟩
end
theorem ZGs{a b c d:String}(e:Pk [.type a,.type b,.type c,.type d]=vX): [Value.type a,.type b,.type c,.type d]=vmro:=by
 simp only[Pk,zV,beq_iff_eq]at e;obtain⟨⟨⟨rfl,rfl⟩,rfl⟩,rfl⟩:=e
 rfl
theorem ZIS(self:jO):∀{l:List jO},Pk l=vX->refuseLoop self "__setattr__" l=pure ()
 |[.type a,.type b,.type c,.type d],e=>by rw[ZGs e];exact PySem.F.store_ValueError.passes self
 |.ref c::r,e=>by rw[refuseLoop_ref];exact ZIS self (l:=r) e
theorem ZHz:∀{l:List jO},Pk l=vX->l.contains (.type "object")=vX
 |[.type a,.type b,.type c,.type d],e=>by rw[ZGs e];simp
 |.ref c::r,e=>by rw[List.contains_cons,ZHz (l:=r) e,Bool.or_true]
section
open PySem.W
variable{prog:jI}{w:jP}{A:jE}{s:jM}{K:xT}{x C:jD}{R:Result->jM->Prop}
theorem ZJ6{ox:Obj}{od:Option Obj}{name:Str}{tk:Tok}{v:jO}{r:Option jO}(X:K.In s.heap)(I:InstAt s.heap x ox C od)(hp:Wb K C=vX)(ht:takerIn K C name=vZ r)
  (h:∀b,xG (xA prog w) A.in1 (match r with |some a=>Builtin.ObjectAttr.setByDescriptor a (.ref x) v|none=>Builtin.ObjectAttr.storeInOwnDict (.ref x) (.ref C) (.str name tk) name v b)
   (λfin s'=>match fin with | .done f=>R (.ok f) s' | .again c'=>c'.quiet=vX/\codeAny (xA prog w) A c' R s') (λe s'=>R (.error e) s') s):
  codeAny (xA prog w) A (.call (.builtin "object.__setattr__") ⟨[.ref x,.str name tk,v],[]⟩) R s:=by
 obtain⟨cd,hcd,hve⟩:=any_some hp;obtain⟨at0,hat,htr⟩:=Option.bind_eq_some_iff.mp ht;have full:cd.mro≠[]:=λz=>by rw[z]at hve;cases hve
 have top:mroIn K C (.type "object")=vZ vX:=by unfold mroIn;rw[hcd];show(if cd.mro.isEmpty=vX then _ else _)=_;rw[if_neg (by simpa using full),ZHz hve]
 have line:Looks (xA prog w) s.heap (mroOf (.ref C)) cd.mro:=(looks_clsIn X hcd).andThen Looks.now;have obj:Looks (xA prog w) s.heap (isInstance (.ref x) (.type "object")) vX:=I.type.andThen (looks_mroIn X top);have tk3:Looks (xA prog w) s.heap (Builtin.ObjectAttr.storeTaker? at0) r:=by
  rcases at0 with _|av
  ·cases htr;exact Looks.now
  ·obtain⟨bb,h1,h2⟩:=zA.mp htr;subst h2
   exact(looks_takesIn X h1).andThen (by cases bb<;>exact Looks.now)
 refine codeAny_call_builtin F.store_object.slot.plain F.store_object.entry (@check_slot (xA prog w) _ _ _ "object.__setattr__" "object" "__setattr__" (.ref x) [.str name tk,v] [] _ F.store_object.kind F.store_object.split obj (F.store_object.args (.ref x) (.str name tk) v) ?_);rw[osa_eq,refuse_eq];apply xI;apply xI;refine I.type.here ?_;apply xI;refine line.here ?_;rw[ZIS _ hve]
 apply xR;apply xI;refine I.type.here ?_;apply xI;refine(looks_findIn X hat).here ?_;apply xI;exact tk3.here (h _)
end
section
variable{prog:jI}{w:jP}{A:jE}{E:jO->jM->Prop}{s:jM}{K:PySem.W.Frag}{e C t:jD}{name:Str}{v:jO}
theorem ZOd{Q:Unit->jM->Prop}(X:K.In s.heap)(he:s.heap.get? e=vZ (exO C vJ t))
  (hs:PySem.W.findIn K (.ref C) "__setattr__"=vZ (vZ (.builtin "object.__setattr__"))) (hp:Wb K C=vX) (ht:PySem.W.takerIn K C name=vZ vJ) (hh:PySem.W.hasDictIn K C=vX)
  (h:∀h' dx tk,s.heap.objs.size<=dx->h'.get? e=vZ (exO C (vZ dx) t)->h'.Ns1 dx (λy=>if y=name then vZ v else vJ)->(∀b o,b≠e->s.heap.get? b=vZ o->h'.get? b=vZ o)->Q () {s with heap:=h',toks:=tk}):
  xG (xA prog w) A (setAttr (.ref e) name v) Q E s:=by
 have J:PySem.W.InstAt s.heap e (exO C vJ t) C vJ:=⟨he,rfl,rfl,trivial⟩;refine PySem.W.set_plain X J hs (ZJ6 (s:={s with toks:=s.toks+1}) (r:=vJ) X J hp ht λb=>?_);obtain⟨cd,hc,hd'⟩:=PySem.W.any_some hh;refine xI (xR (xI (xI (wpAny_loadPart he (xI (PySem.W.Looks.here (s:={s with toks:=s.toks+1}) (PySem.W.looks_clsIn X hc) ?_))))));rw[hd'];have hx1:(s.heap.push {cls:=.type "dict",data:=.dict #[]}).get? e=vZ (exO C vJ t):=zJ _ he
 have ne:e≠s.heap.objs.size:=zL (zj he);refine xI (wpAny_alloc' ?_);refine xI (wpAny_update' hx1 ?_);unfold dictMade;refine xR ?_;have hgd:((s.heap.push {cls:=.type "dict",data:=.dict #[]}).update e λo=>{cls:=o.cls,dict:=vZ s.heap.objs.size,data:=o.data,slots:=o.slots}).get? s.heap.objs.size=vZ {cls:=.type "dict",data:=.dict #[]}:=
  (Heap.get?_update_ne _ _ _ _ ne.symm).trans (Heap.get?_push_at rfl rfl)
 have hnd:((s.heap.push {cls:=.type "dict",data:=.dict #[]}).update e λo=>{cls:=o.cls,dict:=vZ s.heap.objs.size,data:=o.data,slots:=o.slots}).Ns s.heap.objs.size (λ_=>vJ):=
  ⟨_,#[],_,hgd,rfl,λy hy=>absurd hy (by simp),λ_=>rfl⟩
 show xG _ _ (Builtin.ObjectAttr.storeInDict s.heap.objs.size _ name v) _ _ _;unfold Builtin.ObjectAttr.storeInDict Builtin.ObjectAttr.newKeyGuard;refine xI (xR (xI (wpAny_nsSet1 (Heap.Ns1.of_empty hnd) λh' hn' hs'=>?_)));obtain⟨oD,esD,epD,hoD,hdD,hcD⟩:=hn'.count (Within.cons name v Within.nil);refine xI (wpAny_lookBehind hoD (by rw[hdD];exact pastItsLine_dict (z9 hcD (by rw[qw,List.length_nil,xC];lia))) ?_)
 refine xR (h h' s.heap.objs.size _ (zx _) ?_ hn' λb o n hb=>?_)
 ·exact(hs'.2 e ne).trans (qj _ hx1 rfl)
 ·exact(hs'.2 b (zL (zj hb))).trans ((Heap.get?_update_ne _ _ _ _ n).trans (zJ _ hb))
end
structure XSet (K:PySem.W.Frag) (C:jD) (f:Str):Prop where
 ec:Hu K C=vX
 sa:PySem.W.findIn K (.ref C) "__setattr__"=vZ (vZ (.builtin "object.__setattr__"))
 po:Wb K C=vX
 tk:PySem.W.takerIn K C f=vZ vJ
 hd:PySem.W.hasDictIn K C=vX
section
variable{X:Cx}{C:jD}{f:Str}{o value:jF}{pos pos':Pos}{ta tv:TE}
def sXf(C:jD)(f:Str)(ta tv:TE):TS:=λD σ H=>tv σ H λy H1=>ta σ H1 λx H2=>∃e,x=.ref e/\H2 e=vZ (.ext (exo e C vJ))/\
 ∀dx o,H2 dx=vJ->dx≠e->D.nx σ (upd (upd H2 e (.ext (exo e C (vZ dx)))) dx (.frz o (.xd [(f,y)])))
theorem ZQY(S:XSet X.K C f)(ha:PE X o ta)(hv:PE X value tv)(hs:swapsWith value (vZ (.Attribute o f pos')) pos.line X.env=pure vV):PS X (.Assign [.Attribute o f pos'] value pos) (sXf C f ta tv):=by
 intro vQ s σ H D I h;refine plainObj_wpAny_Assign_Attribute (thn (hv vQ s σ H _ I h) λu s1 ⟨y,H1,I1,ry,q⟩=>thn (ha vQ s1 σ H1 _ I1 q) λov s2 ⟨x,H2,I2,rx,e,ex,hx,q2⟩=>?_) hs;subst ex;obtain rfl:ov=Value.ref e:=rx;obtain⟨⟨t,hob⟩,_,_⟩:=I2.hok e _ hx;refine ZOd I2.kIn hob S.sa S.po S.tk S.hd λh' dx tk hz he' hn kp=>?_
 have fx:H2 dx=vJ:=I2.hok.fresh hz;have ne:dx≠e:=λz=>by rw[z,hx]at fx;cases fx
 obtain⟨od,hod⟩:∃od,h'.get? dx=vZ od:=by obtain⟨o,_,_,k,_⟩:=hn;exact⟨o,k⟩
 have J:=I2.write (t':=tk) (x:=e) (e:=e) (o:=.ext (exo e C (vZ dx))) (h':=h') (by rw[hx];trivial) (.inl rfl) (λb o n k=>kp b o n k) ⟨_,he'⟩ (ZBV ⟨t,he'⟩);have fx':upd H2 e (.ext (exo e C (vZ dx))) dx=vJ:=by unfold upd;rw[if_neg ne];exact fx
 have K2:HOk X.prog X.w (upd (upd H2 e (.ext (exo e C (vZ dx)))) dx (.frz od (.xd [(f,y)]))) h':=λb ob z=>by
  by_cases zb:b=dx
  ·subst zb;have zo:ob=.frz od (.xd [(f,y)]):=by
    have z':upd (upd H2 e (.ext (exo e C (vZ b)))) b (.frz od (.xd [(f,y)])) b=vZ (.frz od (.xd [(f,y)])):=by unfold upd;rw[if_pos rfl]
    rw[z']at z;exact(Option.some.inj z).symm
   subst zo;refine⟨hod,_,hn,λg=>?_⟩;by_cases zg:g=f
   ·subst zg;simp[j2];exact ry
   ·have:(g==f)=vV:=by simpa using zg
    simp[j2,this,zg]
    trivial
  ·have z':upd H2 e (.ext (exo e C (vZ dx))) b=vZ ob:=by unfold upd at z⊢;rw[if_neg zb]at z;exact z
   refine(J.hok b ob z').stay (λ_ _ _ k=>k) (λb' k=>?_) λb' xs k=>?_
   ·have:b'≠dx:=λw=>by rw[w,fx']at k;cases k
    show upd _ dx _ b'=_;unfold upd at k⊢;rw[if_neg this];exact k
   ·have:b'≠dx:=λw=>by rw[w,fx']at k;cases k
    show upd _ dx _ b'=_;unfold upd at k⊢;rw[if_neg this];exact k
 have ud:∀b,b≠e->b≠dx->upd (upd H2 e (.ext (exo e C (vZ dx)))) dx (.frz od (.xd [(f,y)])) b=H2 b:=λb n1 n2=>by unfold upd;rw[if_neg n2,if_neg n1]
 have U:Un X.fs [] H2 (upd (upd H2 e (.ext (exo e C (vZ dx)))) dx (.frz od (.xd [(f,y)]))) s2.heap h':=by
  have nd:∀b o,s2.heap.get? b=vZ o->b≠dx:=λb o k z=>by have:=zj k;rw[z]at this;exact absurd this (Nat.not_lt.mpr hz)
  have n0:∀b,H2 b=vJ->b≠e:=λb k z=>by rw[z,hx]at k;cases k
  refine⟨λb o k n _ _=>kp b o (n0 b n) k,λb o k n _ _=>⟨o.slots,kp b o (n0 b n) k⟩,λb o k n _=>by rw[ud b (n0 b n) (nd b o k)];exact n,λb o k _=>?_,λb xs k=>?_,λb o u k=>?_,λb ps k=>⟨#[],?_⟩⟩
  ·by_cases z:b=e
   ·subst z;exact⟨_,he'⟩
   ·exact⟨o,kp b o z k⟩
  ·rw[ud b (λz=>by rw[z,hx]at k;cases k) (λz=>by rw[z,fx]at k;cases k)];exact k
  ·rw[ud b (λz=>by rw[z,hx]at k;cases k) (λz=>by rw[z,fx]at k;cases k)];exact k
  ·rw[ud b (λz=>by rw[z,hx]at k;cases k) (λz=>by rw[z,fx]at k;cases k)];simpa using k
 exact⟨σ,_,I2.un (t':=tk) U K2,q2 dx od fx ne⟩
end
def intS(i:Int):Prop:=i.natAbs.log2<1920/\(Str.ofString (toString i)).length<=1000
def ZCU(w:V):Prop:=(∃i:Int,w=.int i/\intS i)∨w=.non
section
variable{X:Cx}{j:Nat}{v s1 s2:Str}{k1 k2 p1 p2 pv pf pos}
noncomputable def tFs(j:Nat):TE:=λσ H Q=>∃w:V,σ[j]?=vZ (vZ w)/\ZCU w/\∀x,Q (.str x) H
theorem ZKD(hN:X.N[j]?=vZ v)(hv:Vis X.env.scope v)(l1:s1.length<=1000)(l2:s2.length<=1000)(hd:(v==("__debug__":Str))=vV:=by decide)(hcd:(v==("__classdict__":Str))=vV:=by decide):
  PE X (.JoinedStr [.Constant (.str s1) k1 p1,.FormattedValue (.Name v pv) (-1) vJ pf,.Constant (.str s2) k2 p2] pos) (tFs j):=by
 intro vQ s σ H Q I h;obtain⟨w,hσ,hw,q⟩:=h;have la:∀a b:Str,(a++b).length=a.length+b.length:=λa b=>by show(Str.append a b).length=_;unfold Str.append Str.length;simp
 have sz:∀n,n<=1000000->n<=sizeLine:=λn h=>by rw[xC];lia
 refine JoinedStr_many (joinParts_cons (thn (W2 (X:=X) vQ s σ H (λx H'=>x=.str s1/\H'=H) I ⟨rfl,rfl⟩) λu s1' h1=>?_));obtain⟨x,H1,I1,rx,rfl,rfl⟩:=h1;obtain⟨t0,rfl⟩:=rx;refine⟨sz _ (by rw[la];show 0+_<=_;lia),?_⟩;refine joinParts_cons (FormattedValue_plain (thn (U9 (pos:=pv) hN hv hd hcd vQ s1' σ H1 (λx H'=>x=w/\H'=H1) I1 ?_) λu s2' h1=>?_))
 ·exact⟨w,hσ,rfl,rfl⟩
 obtain⟨x,H2,I2,rx,rfl,rfl⟩:=h1;rcases hw with⟨i,rfl,hi,ls⟩|rfl
 ·obtain⟨t1,rfl⟩:=rx;refine formatField_int_small hi ⟨sz _ (by rw[la,la];show 0+_+_<=_;lia),?_⟩;refine joinParts_consE (joinParts_cons (thn (W2 (X:=X) vQ _ σ H2 (λx H'=>x=.str s2/\H'=H2) (I2.tok _) ⟨rfl,rfl⟩) λu s3' h1=>?_));obtain⟨x,H3,I3,rx,rfl,rfl⟩:=h1;obtain⟨t2,rfl⟩:=rx;refine⟨sz _ (by rw[la,la,la];show 0+_+_+_<=_;lia),?_⟩;exact joinParts_nilE (joinParts_nil ⟨.str _,H3,I3.tok _,⟨_,rfl⟩,q _⟩ (sz _ (by rw[la,la,la];show 0+_+_+_<=_;lia)))
 ·cases(show u=Value.none from rx)
  have ls:(Str.ofString "None").length<=1000:=by decide
  refine wpAny_formatField_none ⟨sz _ (by rw[la,la];show 0+_+_<=_;lia),?_⟩;refine joinParts_consE (joinParts_cons (thn (W2 (X:=X) vQ _ σ H2 (λx H'=>x=.str s2/\H'=H2) (I2.tok _) ⟨rfl,rfl⟩) λu s3' h1=>?_));obtain⟨x,H3,I3,rx,rfl,rfl⟩:=h1;obtain⟨t2,rfl⟩:=rx;refine⟨sz _ (by rw[la,la,la];show 0+_+_+_<=_;lia),?_⟩;exact joinParts_nilE (joinParts_nil ⟨.str _,H3,I3.tok _,⟨_,rfl⟩,q _⟩ (sz _ (by rw[la,la,la];show 0+_+_+_<=_;lia)))
end
def spI(C:jD)(f:Str):Sp:=λvs H Q _=>∃(e:jD)(i:V),vs=[.ref e,i]/\ZCU i/\H e=vZ (.ext (exo e C vJ))/\∀dx o,H dx=vJ->dx≠e->Q .non (upd (upd H e (.ext (exo e C (vZ dx)))) dx (.frz o (.xd [(f,i)])))
structure XBase (K:PySem.W.Frag) (mg:Str->Option jO) (x:Str) (W:jD):Prop where
 m:mg x=vZ (.ref W)
 s:PySem.W.specialIn K (.ref W) "__getattribute__"=vZ (vZ (.builtin "type.__getattribute__"))
 r:PySem.W.readsIn K W (.type "type")=vX
 f:PySem.W.findCls K (.ref W) (.type "type") "__init__"=vZ (.val (.builtin "ValueError.__init__"))
theorem V6{K:PySem.W.Frag}{x xw v f s1 s2:Str}{fa W:jD}{pw pa pc pe p1 p2 p3 p4 p5 p6 p7 p8 pv pf:Pos}{k1 k2}
  (F:Fun K x qual st fa fd) (S:FnScope ["self",v] ["self",v] (Bd st)) (XS:XSet K C f) (XB:XBase K mg xw W)
  (hb:Fq st=[.Expr (.Call (.Attribute (.Name xw pw) "__init__" pa) [.Name "self" p1,.JoinedStr [.Constant (.str s1) k1 p2,.FormattedValue (.Name v pv) (-1) vJ pf,.Constant (.str s2) k2 p3] p4] [] pc) pe,.Assign [.Attribute (.Name "self" p5) f p6] (.Name v p8) p7])
  (l1:s1.length<=1000) (l2:s2.length<=1000) (hgl:(Bd st).names.lookup xw=vZ .globalImplicit) (hdw:(xw==("__debug__":Str))=vV) (hdv:(v==("__debug__":Str))=vV) (hcv:(v==("__classdict__":Str))=vV)
  (hvs:Vis (Bd st) "self") (hvv:Vis (Bd st) v)
  (hev:∀env:Env,∃pl:Sem Bool,eval (.Call (.Attribute (.Name xw pw) "__init__" pa) [.Name "self" p1,.JoinedStr [.Constant (.str s1) k1 p2,.FormattedValue (.Name v pv) (-1) vJ pf,.Constant (.str s2) k2 p3] p4] [] pc) env=(do
   let ov<-eval (.Name xw pw) env
   standAt pa.atName
   let(f,first)<-holding [ov] (getMethod ov "__init__" pl)
   callWith pc f first (jT pc (xE [.Name "self" p1,.JoinedStr [.Constant (.str s1) k1 p2,.FormattedValue (.Name v pv) (-1) vJ pf,.Constant (.str s2) k2 p3] p4] env)) (backToKw pc (keywordEach [] env)))):
  FnOk P w K mg base CX0 (k+1) fa fd ["self",v] (spI C f):=by
 refine F.ok S (λvs H Q E ⟨e,i,z,_⟩=>by rw[z];rfl) (λcdv A outer s H vs Q E hr h=>?_);obtain⟨e,i,rfl,hi,hx,q⟩:=h;rw[hb];generalize hX:(J6 CX0 P w K mg base ["self",v] qual (Bd st) fa cdv A outer s H E).nox=X;have hK:X.K=K:=by rw[<-hX];rfl
 have hm:X.mg=mg:=by rw[<-hX];rfl
 have hN:X.N=(["self",v]:List Str):=by rw[<-hX];rfl
 have hs:X.env.scope=Bd st:=by rw[<-hX];rfl
 have pself:∀p,PE X (.Name "self" p) (Oe 0):=λp=>U9 (by rw[hN];rfl) (by rw[hs];exact hvs) (by decide) (by decide)
 have pv':∀p,PE X (.Name v p) (Oe 1):=λp=>U9 (by rw[hN];rfl) (by rw[hs];exact hvv) hdv hcv
 have hG:Gl X xw:=by unfold Gl;rw[<-hX];exact hgl
 obtain⟨pl,hpl⟩:=hev X.env;have c1:PE X (.Call (.Attribute (.Name xw pw) "__init__" pa) [.Name "self" p1,.JoinedStr [.Constant (.str s1) k1 p2,.FormattedValue (.Name v pv) (-1) vJ pf,.Constant (.str s2) k2 p3] p4] [] pc) (tBI C (ZBE (Oe 0) (ZBE (tFs 1) tNil))):=
  ZKz (mc:=.type "type") (W:=W) (by rw[hK];exact XS.ec) hG (by rw[hm];exact XB.m) (by rw[hK];exact XB.s) (by rw[hK];exact XB.r) (by rw[hK];exact XB.f) (T5 (pself p1) (T5 (ZKD (by rw[hN];rfl) (by rw[hs];exact hvv) l1 l2 hdv hcv) ZDg)) hdw rfl rfl hpl
 have c2:PS X (.Assign [.Attribute (.Name "self" p5) f p6] (.Name v p8) p7) (sXf C f (Oe 0) (Oe 1)):=ZQY (by rw[hK];exact XS) (pself p5) (pv' p8) rfl;refine⟨_,ZJV (ZJN c1 rfl) (ZF1 c2),?_⟩;refine⟨.ref e,rfl,i,rfl,hi,λxx=>⟨e,_,rfl,hx,?_⟩⟩;exact⟨i,rfl,.ref e,rfl,e,rfl,hx,q⟩
section
variable{M:Model}{A:jE}{E:jO->jM->Prop}{env:Env}
variable{nm q:Str}{C N:jD}{bs bm:List jO}{hdct:Bool}{sn:List Str}{sub:List jO}{ab:Bool}{col:Option Bool}{dd:Option jD}{k0 k1 k2 k3 k5:Option jO}{newId:String}
theorem ZMM{x:Sem jO}{Q:Flow->jM->Prop}(hh:A.handled=vJ)
  (h:xG M A x (λv s₁=>∃e od t bm N nm q bs hdct sn sub ab col dd k0 k1 k2 k3 k5 newId,v=.ref e/\s₁.heap.get? C=vZ (excClassObj nm q C N bs bm hdct sn sub ab col dd k0 k1 k2 k3 k5 newId)/\bm.contains (.type "BaseException")=vX/\
   s₁.heap.get? e=vZ {cls:=.ref C,dict:=od,data:=.fields #[.ref t,.none,.none,.none,.bool vV,.none]}/\E (.ref e) s₁) E s):xG M A (raiseStmt env (vZ x) vJ) Q E s:=by
 unfold raiseStmt;refine xI (xN h (λv s₁ h₁=>?_) λ_ _ x=>x);obtain⟨e,od,t,bm,N,nm,q,bs,hdct,sn,sub,ab,col,dd,k0,k1,k2,k3,k5,newId,rfl,hC,hb,he,hE⟩:=h₁;have hcB:(Value.ref C::bm).contains (.type "BaseException")=vX:=by rw[List.contains_cons,hb,Bool.or_true]
 obtain⟨hp,g,d,tk,os⟩:=s₁
 repeat (first|with_reducible refine wpAny_loadPart_at he ?_|with_reducible refine wpAny_loadPart_at hC ?_|(with_reducible refine wpAny_isSubtype_exc hC ?_;rw[hcB])|wp_step)
 exact wpAny_raiseNew_none hh hE
theorem ZHv{x:jF}{pos:Pos}{Q:Flow->jM->Prop}(hh:A.handled=vJ)
  (h:xG M A (eval x env) (λv s₁=>∃e od t bm N nm q bs hdct sn sub ab col dd k0 k1 k2 k3 k5 newId,v=.ref e/\s₁.heap.get? C=vZ (excClassObj nm q C N bs bm hdct sn sub ab col dd k0 k1 k2 k3 k5 newId)/\bm.contains (.type "BaseException")=vX/\
   s₁.heap.get? e=vZ {cls:=.ref C,dict:=od,data:=.fields #[.ref t,.none,.none,.none,.bool vV,.none]}/\E (.ref e) s₁) E s):xG M A (exec (.Raise (vZ x) vJ pos) env) Q E s:=by
 rw[arm_exec_Raise];refine xI (wpAny_standAt (ZMM (C:=C) hh ?_));exact xI (xN h (λv s₃ h₃=>xI (wpAny_standAt (xR h₃))) λ_ _ x=>x)
end
section
variable{X:Cx}{C fI:jD}{f x:Str}{np cpos pos:Pos}{a:jF}{ta:TA}{E:XK}{k:Nat}{fd:jG}{v:Str}
def tRz(C:jD)(f:Str)(E:XK)(ta:TA):TS:=λ_ σ H=>ta σ H λvs H1=>∃i:V,vs=[i]/\ZCU i/\∀dx o,H1 dx=vJ->E (.ref C) (vZ dx) (upd H1 dx (.frz o (.xd [(f,i)])))
theorem ZLB(hcalm:X.calm=vX)(hs:X.stack=X.env::X.outer)(hex:X.ex=[])(hfr:X.env.frame=vZ X.env.locals)(hxe:∀e s,M8 X E e s->X.xe e s)
  (XS:XSet X.K C f) (hi:Ov X.K C fI=vX) (hfn:∃o,X.K.lookup fI=vZ o/\o.cls=.type "function") (F:FnOk X.prog X.w X.K X.mg X.base CX0 k fI fd ["self",v] (spI C f)) (hr:Room (k+1) X.A) (hb:Binds X.K fd ["self",v] [])
  (hg:Gl X x) (hm:X.mg x=vZ (.ref C)) (hk:PySem.W.keepIn X.K (.ref C)=vX) (ha:PA X [a] ta) (hdb:(x==("__debug__":Str))=vV:=by decide)
  (he:xE [a] X.env=(vV,eval a X.env)::xE [] X.env:=by rfl) (hpl:(jT cpos (xE [] X.env)).any (·.1)=vV:=by rfl):
  PS X (.Raise (vZ (.Call (.Name x np) [a] [] cpos)) vJ pos) (tRz C f E ta):=by
 intro vQ s σ H D I h;refine ZHv (C:=C) (I.ok.hd hcalm) ?_;refine xH (Nk I hg hm ?_ hdb);refine PySem.W.callWith_K (h₀:=X.base) I.ok.mod.kin hk (thn (ha cpos vQ s σ H _ I h) λus s1 ⟨vs,H1,I1,r,i,ev,hi',q⟩=>⟨I1.kIn,?_⟩) he hpl;subst ev;obtain⟨bm,N,nm,qn,bs,sn,sub,ab,col,dd,k0,k1,k2,k3,k5,hcl,T,m,hN,hin⟩:=Od I1.kIn XS.ec;obtain⟨oI,hfI,hfc⟩:=hfn;have hfI:=I1.kIn _ _ hfI;have hl1:us.length<=sizeLine:=by rw[<-r.length,xC];show 1<=_;decide
 obtain⟨hp,g,d,tk,os⟩:=s1;have FB:=PySem.F.excBase_ValueError;refine ZMR FB T hcl hN (hin fI hi) hfI hfc (λh' e hm' hz=>?_) hl1;obtain⟨t,ht,_,_⟩:=hm'.there;have ho:exo e C vJ h':=⟨t,ht⟩;have I2:=I1.laid (t':=tk) (a:=e) (o:=.ext (exo e C vJ)) (h':=h') hm'.keeps hz (ZBV ho);have fe:H1 e=vJ:=I1.hok.fresh hz;obtain⟨u,rfl⟩:∃u,us=[u]:=by
  cases r with
  |cons r1 r2=>cases r2;exact⟨_,rfl⟩
 have r2:Vals [V.ref e,i] [Value.ref e,u]:=.cons rfl r;have h2e:upd H1 e (.ext (exo e C vJ)) e=vZ (.ext (exo e C vJ)):=by unfold upd;rw[if_pos rfl]
 have h2n:∀b,b≠e->upd H1 e (.ext (exo e C vJ)) b=H1 b:=λb n=>by unfold upd;rw[if_neg n]
 refine wpAny_call (xX (F.run _ X.stack _ _ ⟨[Value.ref e,u],[]⟩ [Value.ref e,u] [V.ref e,i] (λw H3=>w=.non/\∃dx o,H1 dx=vJ/\dx≠e/\H3=upd (upd (upd H1 e (.ext (exo e C vJ))) e (.ext (exo e C (vZ dx)))) dx (.frz o (.xd [(f,i)]))) E0 (hr.make C [u] [])
  (I2.env0.make C [u] []) (by simpa using hb _ [Value.ref e,u] I2.kIn rfl) r2 ⟨e,i,rfl,hi',h2e,λdx o n1 n2=>⟨rfl,dx,o,by rw[<-h2n dx n2];exact n1,n2,rfl⟩⟩) λr s' hq'=>?_)
 cases r with
 |error e=>exact hq'.elim
 | ok fl=>
  cases fl with
  |next=>exact False.elim hq'
  |brk=>exact False.elim hq'
  |cont=>exact False.elim hq'
  | ret w=>
   obtain⟨_,_,I3,_⟩:=I2.after hq';obtain⟨vw,H3,os',bare',un,hok,rw',rfl,dx,o,nd,ne,rfl⟩:=hq';refine⟨rw',?_⟩;have hd3:∀b,b≠e->upd (upd (upd H1 e (.ext (exo e C vJ))) e (.ext (exo e C (vZ dx)))) dx (.frz o (.xd [(f,i)])) b=upd H1 dx (.frz o (.xd [(f,i)])) b:=λb n=>by
    unfold upd;split
    ·rfl
    ·simp[n]
   have he3:upd (upd (upd H1 e (.ext (exo e C vJ))) e (.ext (exo e C (vZ dx)))) dx (.frz o (.xd [(f,i)])) e=vZ (.ext (exo e C (vZ dx))):=by unfold upd;rw[if_neg (Ne.symm ne),if_pos rfl]
   have feN:upd H1 dx (.frz o (.xd [(f,i)])) e=vJ:=by unfold upd;rw[if_neg (Ne.symm ne)];exact fe
   obtain⟨⟨t',ht'⟩,_,_⟩:=hok e _ he3;obtain⟨bm',N',nm',qn',bs',sn',sub',ab',col',dd',l0,l1,l2,l3,l5,hcl',T',_⟩:=Od I3.kIn XS.ec;have ne':∀b o,hp.get? b=vZ o->b≠e:=λb o k z=>by rw[z,hm'.new]at k;cases k
   have mk:Made X H1 ⟨hp,g,d,tk,os⟩ e (.ref C) (vZ dx) s' (upd H1 dx (.frz o (.xd [(f,i)]))):=by
    refine⟨os',bare',⟨λb o k n hb hx=>un.keep b o (hm'.keeps b o k) (by rw[h2n b (ne' b o k)];exact n) hb hx,λb o k n hb hx=>un.slot b o (hm'.keeps b o k) (by rw[h2n b (ne' b o k)];exact n) hb hx,λb o k n hx=>?_,λb o k hx=>un.there b o (hm'.keeps b o k) hx,λb xs k=>?_,λb o u k=>?_,λb ps k=>?_⟩,λb ob z=>?_,⟨_,_,ht',rfl,rfl,rfl,rfl⟩,feN,hm'.new⟩
    ·rw[<-hd3 b (ne' b o k)];exact un.free b o (hm'.keeps b o k) (by rw[h2n b (ne' b o k)];exact n) hx
    ·have nb:b≠e:=λz=>by rw[z,fe]at k;cases k
     rw[<-hd3 b nb];exact un.tups b xs (by rw[h2n b nb];exact k)
    ·have nb:b≠e:=λz=>by rw[z,fe]at k;cases k
     rw[<-hd3 b nb];exact un.frzs b o u (by rw[h2n b nb];exact k)
    ·have nb:b≠e:=λz=>by rw[z,fe]at k;cases k
     rw[<-hd3 b nb];exact un.tbls b ps (by rw[h2n b nb];exact k)
    ·have nb:b≠e:=λz'=>by rw[z',feN]at z;cases z
     rw[<-hd3 b nb]at z;refine(hok b ob z).stay (λ_ _ _ k=>k) (λb' k=>?_) λb' xs k=>?_
     ·rw[<-hd3 b' (λz'=>by rw[z',he3]at k;cases k)];exact k
     ·rw[<-hd3 b' (λz'=>by rw[z',he3]at k;cases k)];exact k
   exact⟨e,vZ dx,t',bm',N',nm',qn',bs',vX,sn',sub',ab',col',dd',l0,l1,l2,l3,l5,_,rfl,hcl',T'.hasType FB.hasBase,ht',hxe _ _ (ZFt hs hex hfr I1 mk (q dx o nd) ⟨C,rfl⟩)⟩
end
section
variable{X:Cx}{vQ:List (jD×Obj)}{σ:St}{H H':Hp}{s s':jM}{B h'':Heap}{ea:jD}{cls:jO}{od:Option jD}{E:XK}{fl:jO}
theorem ZLs(I:Inv X vQ σ H s)(os:s'.os=s.os)(bare:AllBare s'.gens)(un:Un (frs X.stack) [] H H' s.heap s'.heap)(hok:HOk X.prog X.w H' s'.heap)
  (bb:∀b o,s.heap.get? b=vZ o->H b=vJ->b∉frs X.stack->B.get? b=vZ o) (al:∀b,H' b≠vJ->∃o,B.get? b=vZ o) (eb:B.get? ea=vJ) (st:B.StaysIn s'.heap) (new:s.heap.get? ea=vJ)
  (n:Noted B X.stack ea cls od fl s'.heap h''):∃oe vs,h''.get? ea=vZ oe/\oe.cls=cls/\oe.dict=od/\oe.data=.fields vs/\H' ea=vJ/\Inv X vQ σ (upd H' ea (.frz oe (.own 0))) {s' with heap:=h''}:=by
 obtain⟨oe,vs,T,oT,ts,he,⟨hc,hd⟩,hda,_⟩:=n.tr;have fe:H' ea=vJ:=by
  cases z:H' ea with
  |none=>rfl
  |some u=>
   obtain⟨o,k⟩:=al ea (by rw[z];simp);rw[eb]at k;cases k
 have ud:∀b,b≠ea->upd H' ea (.frz oe (.own 0)) b=H' b:=λb k=>by unfold upd;rw[if_neg k]
 have ns:∀b o,s.heap.get? b=vZ o->b≠ea:=λb o k z=>by rw[z,new]at k;cases k
 have hk:=ZHC hok al st n.st;refine⟨oe,vs,he,hc,hd,hda,fe,I.call' (ch:=[]) os ⟨λb o q hn hb _=>n.st b o (bb b o q hn hb),λb o q hn hb _=>?_,λb o q hn hx=>?_,λb o q hx=>?_,λb xs q=>?_,λb o u q=>?_,λb ps q=>?_⟩ (λb ob z=>?_) bare λb z=>absurd z (by simp)⟩
 ·obtain⟨sl,k⟩:=un.slot b o q hn hb (by simp);obtain⟨_,o2,k2,nf⟩:=I.stack.mem hb;rw[q]at k2;cases k2;obtain⟨sl',k3⟩:=n.up b _ k nf;exact⟨sl',k3⟩
 ·rw[ud b (ns b o q)];exact un.free b o q hn hx
 ·obtain⟨o1,k1⟩:=un.there b o q hx;exact n.th b o1 k1
 ·have:=un.tups b xs q;rw[ud b (λz=>by rw[z,fe]at this;cases this)];exact this
 ·have:=un.frzs b o u q;rw[ud b (λz=>by rw[z,fe]at this;cases this)];exact this
 ·obtain⟨m,this⟩:=un.tbls b ps q;exact⟨m,by rw[ud b (λz=>by rw[z,fe]at this;cases this)];exact this⟩
 ·by_cases zb:b=ea
  ·subst zb;have zo:ob=.frz oe (.own 0):=by unfold upd at z;rw[if_pos rfl]at z;exact(Option.some.inj z).symm
   subst zo;exact⟨he,oe,he⟩
  ·rw[ud b zb]at z;refine(hk b ob z).stay (λ_ _ _ k=>k) (λb' k=>?_) λb' xs k=>?_
   ·rw[ud b' (λz'=>by rw[z',fe]at k;cases k)];exact k
   ·rw[ud b' (λz'=>by rw[z',fe]at k;cases k)];exact k
theorem lands(hs:X.stack=X.env::X.outer)(hfr:X.env.frame=vZ X.env.locals)(I:Inv X vQ σ H s){e:jO}(h:CXx X.prog X.w X.stack H s E e s'){Q:Unit->jM->Prop}{E':jO->jM->Prop}
  (q:∀(ea:jD)(C:jO)(od:Option jD)(H':Hp)(oe:Obj)(vs:Array jO)(h'':Heap),e=.ref ea->h''.get? ea=vZ oe->oe.cls=C->oe.dict=od->oe.data=.fields vs->E C od H'->H' ea=vJ->Inv X vQ σ (upd H' ea (.frz oe (.own 0))) {s' with heap:=h''}->
   (∃B:Heap,Trc h'' B ea C od .none)->(∃C',C=.ref C')->Q () {s' with heap:=h''}):
  xG (xA X.prog X.w) X.A (noteFrame e X.env) (λ_ s2=>xG (xA X.prog X.w) X.A (setFlight e vJ) Q E' s2) E' s':=by
 obtain⟨ea,cls,od,H',B,rfl,os,bare,un,hok,fly,bb,new,hE,hcC⟩:=h;have ff:=fly.fr;rw[hs]at ff;refine ZHl (B:=B) (L:=X.env.locals) (outer:=X.outer) (by rw[I.ok.frames,hs]) ff hfr fly.tr fly.st fly.eb λh1 n1=>?_
 refine ZBB n1.fr n1.tr n1.st λh2 n2=>?_
 have n:=n1.trans n2;rw[<-hs]at n;obtain⟨oe,vs,he,hc,hd,hda,fe,J⟩:=ZLs I os bare un hok bb fly.al fly.eb fly.st new n;exact q ea cls od H' oe vs h2 rfl he hc hd hda hE fe J ⟨B,n.tr⟩ hcC
end
section
variable{M:Model}{A:jE}{E:jO->jM->Prop}{h:Heap}{g:Array GenState}{d:Drawn}{t:Nat}{os:OsState}
theorem ZNm{W e:jD}{oe:Obj}{b:Bool}{nm q:Str}{N:jD}{bs bm:List jO}{hdct:Bool}{sn:List Str}{sub:List jO}{ab:Bool}{col:Option Bool}{dd:Option jD}{k0 k1 k2 k3 k5:Option jO}{newId:String}
  {nm' q':Str} {N':jD} {bs' bm':List jO} {hdct':Bool} {sn':List Str} {sub':List jO} {ab':Bool} {col':Option Bool} {dd':Option jD} {l0 l1 l2 l3 l5:Option jO} {newId':String} {Q:Bool->jM->Prop}
  (hC:h.get? C=vZ (excClassObj nm q C N bs bm hdct sn sub ab col dd k0 k1 k2 k3 k5 newId)) (hW:h.get? W=vZ (excClassObj nm' q' W N' bs' bm' hdct' sn' sub' ab' col' dd' l0 l1 l2 l3 l5 newId')) (he:h.get? e=vZ oe) (hc:oe.cls=.ref C)
  (hb:bm'.contains (.type "BaseException")=vX) (hin:(Value.ref C::bm).contains (.ref W)=b) (hq:Q b ⟨h,g,d,t,os⟩):xG M A (excMatches (.ref e) (.ref W)) Q E ⟨h,g,d,t,os⟩:=by
 have hcB:(Value.ref W::bm').contains (.type "BaseException")=vX:=by rw[List.contains_cons,hb,Bool.or_true]
 have f:=tc_notTuple;unfold excMatches
 repeat (first|(with_reducible refine wpAny_loadPart_at he ?_;rw[hc])|with_reducible refine wpAny_loadPart_at hW ?_|(with_reducible refine wpAny_isSubtype_exc hW ?_;rw[hcB])|(with_reducible refine wpAny_isSubtype_exc hC ?_;rw[hin])|wp_step)
 cases b<;>(wp_walk;exact hq)
theorem ZNK{B:Heap}{e:jD}{Q:Unit->jM->Prop}(ht:Trc s.heap B e cls od .none)(q:∀h',(∀b o,s.heap.get? b=vZ o->h'.get? b=vZ o)->Q () {s with heap:=h'}):xG M A (setFlight (.ref e) vJ) Q E s:=by
 obtain⟨oe,vs,T,oT,ts,he,_,hd,h1,⟨nT,nTe⟩,hT,dT,h3⟩:=ht;unfold setFlight;refine xI (xL he hd h1 ?_)
 rw[if_pos (show(Value.ref T != Value.none)=vX from by simp)]
 refine wpAny_setField hT dT (zO.mp h3).1 (q _ λb o k=>?_);by_cases z:b=T
 ·subst z;rw[hT]at k;cases k;rw[qj _ hT (Obj.isFreed_of_fields (Obj.data_mapFields dT _))];obtain⟨c,dd,dt,sl⟩:=oT;obtain rfl:dt=.fields ts:=dT;unfold Obj.mapFields;dsimp only
  congr 2
  have:ts.setIfInBounds 3 Value.none=ts:=by
   refine Array.ext_getElem? λi=>?_
   rw[Array.getElem?_setIfInBounds];split
   ·rename_i z;subst z;rw[if_pos (zO.mp h3).1,h3]
   ·rfl
  exact congrArg _ this
 ·rw[qQ _ _ (Ne.symm z)];exact k
end
section
variable{X:Cx}{vQ:List (jD×Obj)}{σ:St}{H:Hp}{s:jM}
theorem Yr{M:Model}{A:jE}{E:jO->jM->Prop}{n:Str}{pos:Pos}{Q:Unit->jM->Prop}(I:Inv X vQ σ H s)(hN:X.N.Nodup)(hi:X.N[i]?=vZ n)(hk:X.env.kindOf n=vZ .local)
  (q:∀s',Inv X vQ (σ.set i vJ) H s'->Q () s'):xG M A (do bindName X.env n .none;unbindBehindTheSuite X.env n pos) Q E s:=by
 obtain⟨m,hn,hl⟩:=I.loc;have hp:(X.env.scope.kind == .class||(X.env.scope.kind == .module&&X.env.locals != X.env.globals))=vV:=by rw[I.ok.kind];rfl
 refine wpAny_nameGoes_keeps hk hn hp λh' v hn' hs=>q _ ?_
 have neL:∀b o,X.s₀.heap.get? b=vZ o->b≠X.env.locals:=λb o e=>zL (zW (zj e) I.ok.above)
 refine⟨I.ok,I.os,I.bare,⟨λb o e nn hb hx=>(hs.2 b (neL b o e)).trans (I.base.keep b o e nn hb hx),λb o e nn hb hx=>?_,I.base.free,λb o e hx=>?_,I.base.tups,I.base.frzs,I.base.tbls⟩,⟨_,hn',λj y v' e1 e2 e3=>?_⟩,λy c e=>?_,I.free,I.Iz,λp hp=>?_,?_,by rw[jk];exact I.len⟩
 ·obtain⟨sl,e1⟩:=I.base.slot b o e nn hb hx;exact⟨sl,(hs.2 b (neL b o e)).trans e1⟩
 ·obtain⟨o',e1⟩:=I.base.there b o e hx;exact⟨o',(hs.2 b (neL b o e)).trans e1⟩
 ·have hj:j≠i:=λz=>by
   subst z;rw[qF]at e2;split at e2
   ·split at e2<;>cases e2
   ·rename_i z;exact z rfl
  rw[qk (Ne.symm hj)]at e2;obtain⟨u',r',z⟩:=hl j y v' e1 e2 e3;refine⟨u',r',?_⟩;rcases z with⟨k,e⟩|⟨k,c,e,z⟩
  ·refine .inl ⟨k,?_⟩;have:y≠n:=λe=>hj (ZCx hN e1 (e▸hi))
   simp[this,e]
  ·exact .inr ⟨k,c,e,z.sameBut hs (I.cne y c e)⟩
 ·obtain⟨w',z⟩:=I.cell y c e;exact⟨w',z.sameBut hs (I.cne y c e)⟩
 ·obtain⟨e,nn,ne,nf,d⟩:=I.pin p hp;exact⟨(hs.2 p.1 ne).trans e,nn,ne,nf,d⟩
 ·exact λa o e=>(I.hok a o e).stay (λb u hb k=>(hs.2 b (λz=>by
   rcases hb with rfl|hb
   ·rw[z,I.free]at e;cases e
   ·rw[z,I.free]at hb;cases hb)).trans k) (λ_ k=>k) λ_ _ k=>k
end
noncomputable def Oz(X:Cx)(ea:jD):Cx:={X with A:=X.A.mark (vZ (.ref ea)),calm:=vV,xe:=λ_ _=>False}
section
variable{X:Cx}{vQ:List (jD×Obj)}{σ:St}{H:Hp}{s:jM}{ea:jD}
theorem ZHf(I:Inv X vQ σ H s):Inv (Oz X ea) vQ σ H s:=
 ⟨⟨I.ok.mod,I.ok.kind,I.ok.glob,I.ok.blt,I.ok.above,I.ok.inj,I.ok.has,I.ok.cab,λz=>absurd z (by simp[Oz]),I.ok.frames,I.ok.stk,I.ok.exf,I.ok.bs,I.ok.bsz,I.ok.noex,I.ok.exfs,I.ok.funs,I.ok.frf⟩,I.os,I.bare,I.base,I.loc,I.cell,I.free,I.Iz,I.pin,I.hok,I.len⟩
theorem Vy{calm:X.calm=vX}(hh:X.A.handled=vJ)(I:Inv (Oz X ea) vQ σ H s):Inv X vQ σ H s:=
 ⟨⟨I.ok.mod,I.ok.kind,I.ok.glob,I.ok.blt,I.ok.above,I.ok.inj,I.ok.has,I.ok.cab,λ_=>hh,I.ok.frames,I.ok.stk,I.ok.exf,I.ok.bs,I.ok.bsz,I.ok.noex,I.ok.exfs,I.ok.funs,I.ok.frf⟩,I.os,I.bare,I.base,I.loc,I.cell,I.free,I.Iz,I.pin,I.hok,I.len⟩
end
section
variable{X:Cx}{f W:jD}{fn x n:Str}{fp cp ep np hp pos:Pos}{a:jF}{es:List jF}{ta:TA}{sp:Sp}{k i:Nat}{fd:jG}{ps:List Str}{b₀:jN}{suite:List jN}{th:TS}
def takes(K:PySem.W.Frag)(C W:jD):Bool:=Hu K C&&Hu K W&&match K.lookup C with
 |some ⟨_,_,.cls cd,_⟩=>cd.mro.contains (.ref W)
 |_=>vV
end
theorem ZKF:∀n:Nat,n<1000->intS (n:Int):=by
 have h:∀n:Fin 1000,((n.1:Int).natAbs.log2<1920/\(Str.ofString (toString (n.1:Int))).length<=1000):=by decide +kernel
 exact λn hn=>h ⟨n,hn⟩
def sRz(c f:Str)(t:DA):DS:=λS G=>match t S G with
 |.ok ds G1=>(match ds with
  |[.int i]=>if 0<=i/\i<1000 then .err ⟨c,[(f,.int i)]⟩ G1 else .bad
  |[.non]=>.err ⟨c,[(f,.non)]⟩ G1
  |_=>.bad)
 |.err x G1=>.err x G1
 |.bad=>.bad
section
variable{X:Cx}{E:XK}{C fI:jD}{c f v:Str}{np cpos pos:Pos}{a:jF}{t:DA}{k:Nat}{fd:jG}
theorem ZL3(hn:PySem.W.nsIn X.K x9 c=vZ (vZ (.ref C)))(hcalm:X.calm=vX)(hs:X.stack=X.env::X.outer)(hex:X.ex=[])(hfr:X.env.frame=vZ X.env.locals)(hxe:∀e s,M8 X E e s->X.xe e s)
  (XS:XSet X.K C f) (hi:Ov X.K C fI=vX) (hfn:∃o,X.K.lookup fI=vZ o/\o.cls=.type "function") (F:FnOk X.prog X.w X.K X.mg X.base CX0 k fI fd ["self",v] (spI C f)) (hr:Room (k+1) X.A) (hb:Binds X.K fd ["self",v] [])
  (hg:Gl X c) (hm:X.mg c=vZ (.ref C)) (hk:PySem.W.keepIn X.K (.ref C)=vX) (ha:QA X E [a] t) (hdb:(c==("__debug__":Str))=vV:=by decide) (hst:notStar a=vX:=by rfl):
  QS X E (.Raise (vZ (.Call (.Name c np) [a] [] cpos)) vJ pos) (sRz c f t):=
 (ZLB hcalm hs hex hfr hxe XS hi hfn F hr hb hg hm hk ha hdb (Ji a [] X.env hst) rfl).mono λW σ H h=>by
  obtain⟨w,S,G,hk,rfl,sm,r,h⟩:=h;refine⟨w,S,G,hk,rfl,sm,r,?_⟩;unfold sRz at h;cases ht:t S G with
  |err x G1=>rw[ht]at h;exact h
  |bad=>rw[ht]at h;exact h
  | ok ds G1=>
   rw[ht]at h;dsimp only at h;split at h
   ·rename_i i;split at h
    ·rename_i hi;intro b vs x s1 q;obtain⟨v1,r1,rfl,q1,q2⟩:=q;obtain rfl:v1=.int i:=q1;obtain rfl:r1=[]:=q2;refine⟨.int i,rfl,.inl ⟨i,rfl,?_⟩,λdx o nd=>?_⟩
     ·have:=ZKF i.toNat (by lia);rwa[show((i.toNat:Nat):Int)=i by lia]at this
     ·refine h.2 (b.put dx (.frz o (.xd [(f,.int i)]))) C (vZ dx) (x.trans (Ext.put nd)) (s1.put nd) ?_ (.inr ⟨dx,o,[(f,.int i)],rfl,?_,rfl,?_⟩)
      ·show PySem.W.nsIn b.K _ _=_;rw[x.k,hk];exact hn
      ·show upd b.H dx _ dx=_;unfold upd;rw[if_pos rfl]
      ·exact⟨.int i,[],rfl,rfl,rfl⟩
    ·exact h.elim
   ·intro b vs x s1 q;obtain⟨v1,r1,rfl,q1,q2⟩:=q;obtain rfl:v1=.non:=q1;obtain rfl:r1=[]:=q2;refine⟨.non,rfl,.inr rfl,λdx o nd=>?_⟩;refine h.2 (b.put dx (.frz o (.xd [(f,.non)]))) C (vZ dx) (x.trans (Ext.put nd)) (s1.put nd) ?_ (.inr ⟨dx,o,[(f,.non)],rfl,?_,rfl,?_⟩)
    ·show PySem.W.nsIn b.K _ _=_;rw[x.k,hk];exact hn
    ·show upd b.H dx _ dx=_;unfold upd;rw[if_pos rfl]
    ·exact⟨.non,[],rfl,rfl,rfl⟩
   ·exact h.elim
end
noncomputable def unnm(i:Nat):SR->SR
 |.nx S G=>.nx (S.set i vJ) G
 |.bk S G=>.bk (S.set i vJ) G
 |.ct S G=>.ct (S.set i vJ) G
 |.rt d G=>.rt d G
 |_=>.bad
theorem RepS.unset{a:Wd}{S:DSt}{σ:St}(r:RepS a S σ)(i:Nat):RepS a (S.set i vJ) (σ.set i vJ):=by
 refine⟨by simpa using r.len,λj e he=>?_⟩;rw[qF]at he⊢;by_cases hij:i=j
 ·subst hij;rw[if_pos rfl]at he
  split at he<;>cases he
 ·rw[if_neg hij]at he⊢;exact r.get j e he
section
variable{X:Cx}{E:XK}{f W:jD}{fn x n:Str}{fp cp ep np hp pos:Pos}{a:jF}{es:List jF}{t:DA}{F:List D->DH->R D}{k i:Nat}{fd:jG}{ps:List Str}{b₀:jN}{suite:List jN}{hb:DS}{ws:List Str}
end
theorem ZJe{K:PySem.W.Frag}{x:Str}{b:DS}(F:Fun K x qual st f fd)(S:FnScope N ps (Bd st))
  (hbody:∀(cdv:jO)(A:jE)(outer:List Env)(s:jM)(H:Hp)(E:XK),Room k (A.deeper (envOfC qual (Bd st) s.heap.objs.size f cdv))->QSs (J6 (CXx P w) P w K mg base N qual (Bd st) f cdv A outer s H E) E (Fq st) b):
  FnOk P w K mg base (CXx P w) (k+1) f fd ps (lFx K (Cd ps.length (N.length-ps.length) b)):=by
 have hlen:∀vs H Q E,lFx K (Cd ps.length (N.length-ps.length) b) vs H Q E->vs.length=ps.length:=λvs H Q E h=>by
  obtain⟨a,G,ds,hk,rfl,sm,r,h⟩:=h;unfold Cd at h;split at h
  ·rename_i hl;rw[<-r.length];exact hl
  ·exact h.elim
 obtain⟨oc,od,kV,doc,pm,an,cdv,ct,osl,rfl,lk,hcd⟩:=F.ex;refine ZI7 lk hcd S hlen λA outer s H vs Q E hr h=>⟨lS K E b,hbody cdv A outer s H E hr,?_⟩
 have hl:=hlen vs H Q E h;obtain⟨a,G,ds,hk,rfl,sm,r,h⟩:=h;unfold Cd at h;split at h
 ·have h2:=ZCD sm h;refine⟨a,ds.map vZ++zk (N.length-ps.length) vJ,G,hk,rfl,sm,ZII r _ _ (by rw[hl]),?_⟩
  revert h2
  cases b (ds.map vZ++zk (N.length-ps.length) vJ) G with
  |nx S1 G1=>exact λh2 c σ x s1 _=>h2 c .non x s1 rfl
  |rt d G1=>exact λh2=>h2
  |err e G1=>exact λh2=>h2
  |bk S1 G1=>exact λh2=>h2.elim
  |ct S1 G1=>exact λh2=>h2.elim
  |bad=>exact λh2=>h2
 ·exact h.elim
theorem ZPi{K:PySem.W.Frag}{scope:jL}{cd:jO}{A:jE}{outer:List Env}{E:XK}:
  Passes (CXx P w) (J6 (CXx P w) P w K mg base N qual scope f cd A outer s H E) E:=λvQ σ H1 s1 e s' I h=>ZQQ rfl rfl rfl I h
theorem ownX{K:PySem.W.Frag}{scope:jL}{cd:jO}{A:jE}{outer:List Env}{E:XK}:
  PassesOwn (xA P w) (J6 (CXx P w) P w K mg base N qual scope f cd A outer s H E).A (J6 (CXx P w) P w K mg base N qual scope f cd A outer s H E).env (J6 (CXx P w) P w K mg base N qual scope f cd A outer s H E).xe:=PassesOwn.leaving
noncomputable def nerr(F:List D->DH->R D):List D->DH->R D:=λds G=>match F ds G with
 |.ok d G1=>.ok d G1
 |_=>.bad
section
variable{X:Cx}{E:XK}{x:Str}{p pos:Pos}{e:jF}{es:List jF}{tr:DA}
theorem ZMh{ds:List D}{Q:VK}(h:out E b (nerr F ds G) Q):out E0 b (F ds G) Q:=by
 unfold nerr at h;cases hF:F ds G with
 |ok d G1=>rw[hF]at h;exact h
 |err x G1=>rw[hF]at h;exact h.elim
 |bad=>rw[hF]at h;exact h
theorem ZLZ(FF:FnOk X.prog X.w X.K X.mg X.base CX0 k f fd ps (lF X.K F))(hr:Room k X.A)(hg:Gl X x)(hm:X.mg x=vZ (.ref f))(hk:PySem.W.keepIn X.K (.ref f)=vX)(hb:Binds X.K fd ps [])
  (ha:QA X E (e::es) tr) (hdb:(x==("__debug__":Str))=vV:=by decide) (he:notStar e=vX:=by rfl) (hpl:es.all notStar=vX:=by rfl):QE X E (.Call (.Name x p) (e::es) [] pos) (dFn (nerr F) tr):=
 (ZCJ (E:=E) FF hr hg hm hk hb .nil (λ_ _ _ _ _ _ _ h=>h.elim) ha hdb (Ji e es X.env he) (Ou pos X.env es hpl)).mono λσ H Q h=>by obtain⟨a,S,G,hk,rfl,s,r,h⟩:=U0 h;refine⟨a,S,G,hk,rfl,s,r,h.imp ?_⟩;rintro vs _ ⟨b,G1,ds,hk,rfl,s1,q,h1⟩;exact⟨b,G1,ds,hk,rfl,s1,by rw[zP];exact q,ZMh h1⟩
theorem ZIY(FF:FnOk X.prog X.w X.K X.mg X.base (CXx X.prog X.w) k f fd ps (lFx X.K F))(hr:Room k X.A)(hg:Gl X x)(hm:X.mg x=vZ (.ref f))(hk:PySem.W.keepIn X.K (.ref f)=vX)(hb:Binds X.K fd ps [])
  (hx:Passes (CXx X.prog X.w) X E) (ha:QA X E (e::es) tr) (hdb:(x==("__debug__":Str))=vV:=by decide) (he:notStar e=vX:=by rfl) (hpl:es.all notStar=vX:=by rfl):QE X E (.Call (.Name x p) (e::es) [] pos) (dFn F tr):=
 (ZCJ FF hr hg hm hk hb .nil hx ha hdb (Ji e es X.env he) (Ou pos X.env es hpl)).mono λσ H Q h=>by obtain⟨a,S,G,hk,rfl,s,r,h⟩:=U0 h;refine⟨a,S,G,hk,rfl,s,r,h.imp ?_⟩;rintro vs _ ⟨b,G1,ds,hk,rfl,s1,q,h1⟩;exact⟨b,G1,ds,hk,rfl,s1,by rw[zP];exact q,h1⟩
end
structure RoomH (k:Nat) (A:jE):Prop where
 dp:A.depth+3*k+5<recursionLimit
 un:A.units+16*k+200<cLine
theorem RoomH.of{A:jE}(r:Room k A):RoomH k A:=⟨r.dp,r.un⟩
theorem RoomH.held{A:jE}{v:Option jO}(r:RoomH k A):RoomH k (A.mark v):=⟨r.dp,r.un⟩
section
variable{X:Cx}{E:XK}{x:Str}{p pos:Pos}{e:jF}{es:List jF}{tr:DA}
end
structure XGet (K:PySem.W.Frag) (C:jD):Prop where
 ga:PySem.W.findIn K (.ref C) "__getattribute__"=vZ (vZ (.builtin "BaseException.__getattribute__"))
 gn:PySem.W.findIn K (.ref C) "__getattr__"=vZ vJ
 sb:PySem.W.subIn K (.ref C) (.type "BaseException")=vZ vX
 hd:PySem.W.hasDictIn K C=vX
 cl:PySem.W.findIn K (.ref C) "__class__"=vZ (vZ (.builtin "object.__class__"))
 cg:PySem.W.specialIn K (.builtin "object.__class__") "__get__"=vZ (vZ (.builtin "getset_descriptor.__get__"))
 ct:PySem.W.takesIn K (.builtin "object.__class__")=vZ vX
 mo:PySem.W.mroIn K C (.type "object")=vZ vX
 kc:PySem.W.kitCls K (.ref C) (.ref C)=vZ vX
 ec:Hu K C=vX
section
variable{prog:jI}{w:jP}{A:jE}{E:jO->jM->Prop}{s:jM}{K:PySem.W.Frag}{x C:jD}{ox:Obj}{od:Option Obj}{name:Str}{tk:Tok}
theorem ZNu{M:Model}{nameV:jO}{Q:Unit->jM->Prop}(X:K.In s.heap)(I:PySem.W.InstAt s.heap x ox C od)(hs:PySem.W.subIn K (.ref C) (.type "BaseException")=vZ vX)(hq:Q () s):
  xG M A (checkBuiltinCall "BaseException.__getattribute__" ⟨[.ref x,nameV],[]⟩) Q E s:=by
 have hk:builtinKind "BaseException.__getattribute__"=vZ .slot:=by decide +kernel
 have hsplit:splitId "BaseException.__getattribute__"=vZ ("BaseException","__getattribute__"):=by decide +kernel
 have ha:=F.args_bexc_ga (.ref x) nameV;have LI:PySem.W.Looks M s.heap (isInstance (.ref x) (.type "BaseException")) vX:=(I.type (M:=M)).andThen (PySem.W.looks_subIn X hs);obtain⟨h,g,d,t,os⟩:=s;simp only[checkBuiltinCall,hk,hsplit];refine xI (LI.at ?_)
 repeat (first|wp_step)
 exact hq
theorem ZG8{Q:jO->jM->Prop}(X:K.In s.heap)(I:PySem.W.InstAt s.heap x ox C od)(G:XGet K C)
  (h:∀A',xG (xA prog w) A' (Builtin.«object.__getattribute__» ⟨[.ref x,.str name tk],[]⟩) (λfin s'=>match fin with | .done (.ret v)=>PySem.W.handedIn v=vX/\Q v s'|_=>False) (λ_ _=>False) s):
  xG (xA prog w) A (getAttrBy (.ref x) (.str name tk) fill expr) Q E s:=by
 have L0:=I.type (M:=xA prog w);have L1:=PySem.W.looks_findIn (M:=xA prog w) X G.ga;have _L:=PySem.W.looks_findIn (M:=xA prog w) X G.gn;have f3:=F.excAttr_ValueError.ga.bind (.ref x)
 have hx0:(expr&&onTheHeap (Value.builtin "BaseException.__getattribute__"))=vV:=by cases expr<;>rfl
 obtain⟨hh,g,d,t,os⟩:=s;unfold getAttrBy;refine xM (xI (L0.at (xI (L1.at ?_))));dsimp only;rw[show(onTheHeap (Value.ref C)&&Value.builtin "BaseException.__getattribute__"==Value.builtin "object.__getattribute__")=vV by rw[show(Value.builtin "BaseException.__getattribute__"==Value.builtin "object.__getattribute__")=vV by decide +kernel];rfl];simp only[Bool.false_eq_true,if_false]
 unfold getAttrByItsOwn;show xG _ _ (typeLookup (.ref C) "__getattr__" >>=_) _ _ _;refine xI (_L.at ?_);refine xI (wpAny_attempt (xM ?_));unfold callGetattribute;rw[hx0];simp only[Bool.false_eq_true,if_false];unfold boundAndCalled;rw[f3];refine xI (xR ?_);refine wpAny_call (codeAny_call_builtin F.excAttr_ValueError.ga.plain F.entry_bexc_ga (ZNu X I G.sb (xN (h _) (λfin s' z=>?_) λ_ _ z=>z.elim)))
 rcases fin with(_|_|_|_)|_<;>first|exact z.elim|exact PySem.W.handed_on z.1 z.2
theorem ZQh{v:jO}{Q:jO->jM->Prop}(X:K.In s.heap)(I:PySem.W.InstAt s.heap x ox C od)(G:XGet K C)(hf:PySem.W.findObj K C od name=vZ (.value v))(hv:PySem.W.handedIn v=vX)(h:Q v s):
  xG (xA prog w) A (getAttrBy (.ref x) (.str name tk) fill expr) Q E s:=by
 refine ZG8 X I G λA'=>?_
 have L0:=I.type (M:=xA prog w);have L1:=PySem.W.looks_find (M:=xA prog w) X I hf;obtain⟨hh,g,d,t,os⟩:=s;refine xI (xR (xI (xR (xI (L0.at (xI (L1.at ?_)))))));exact xR ⟨hv,h⟩
theorem ZNv{Q:jO->jM->Prop}(X:K.In s.heap)(I:PySem.W.InstAt s.heap x ox C od)(G:XGet K C)(h:Q (.ref C) s):
  xG (xA prog w) A (getAttrBy (.ref x) (.str "__class__" tk) fill expr) Q E s:=by
 refine ZG8 X I G λA'=>?_
 have hf:PySem.W.findObj K C od "__class__"=vZ (.bind (.builtin "getset_descriptor.__get__") (.builtin "object.__class__")):=by obtain⟨cd,hc,_⟩:=PySem.W.any_some G.hd;unfold PySem.W.findObj;rw[hc,Option.bind_some,G.cl,Option.bind_some];simp[G.cg,G.ct]
 have L0:=I.type (M:=xA prog w);have L1:=PySem.W.looks_find (M:=xA prog w) X I hf;have cg:=λ(A:jE)(R:Result->jM->Prop)(z:R (.ok (.ret (.ref C))) s)=>PySem.W.class_get (prog:=prog) (w:=w) (A:=A) (R:=R) (tp:=.ref C) X I G.mo z
 obtain⟨hh,g,d,t,os⟩:=s;refine xI (xR (xI (xR (xI (L0.at (xI (L1.at ?_)))))));show xG _ _ (holding _ (call (.builtin "getset_descriptor.__get__") [.builtin "object.__class__",.ref x,.ref C]) >>=ret) _ _ _;exact xI (xM (wpAny_call (cg _ _ (xR ⟨rfl,h⟩))))
theorem ZKN(G:XGet K C):PySem.W.KitX K (.ref x) (.ref C) (λh=>PySem.W.InstAt h x ox C od):=by
 refine⟨λ_ _ _ I=>I.type,λ_ _ X _=>(PySem.W.kit_cls X G.kc).2.1,λh tp dd its n sl X htp=>?_,λ{_ _ _ _ _ s}X I k=>?_⟩
 ·cases q:(Value.ref C == .ref tp)with
  |false=>rfl
  |true=>
   have z:C=tp:=Value.ref.inj (beq_iff_eq.mp q);obtain⟨_,_,_,_,_,_,_,_,_,_,_,_,_,_,_,hcl,_⟩:=Od X G.ec;rw[z,htp]at hcl;have:=congrArg Obj.cls (Option.some.inj hcl);have z2:Value.type "tuple"=Value.type "type":=this;exact absurd (Value.type.inj z2) (by decide)
 ·obtain⟨hh,g,d,t,os⟩:=s;unfold getAttr? getAttrBy?;refine xI (wpAny_mkText (xI (wpAny_attempt ?_)));exact ZNv (s:=⟨hh,g,d,t+1,os⟩) X I G (xR k)
end
noncomputable def isx(tb:List (Str×Bool))(x:D)(G:DH):R D:=match x with
 | .ref i=>(match G[i]? with
  |some (.exc c _)=>(match tb.lookup c with
   |some b=>.ok (.bl b) G
   |none=>.bad)
  |_=>.bad)
 |_=>.bad
def gtx(cs:List Str)(f:Str)(x:D)(G:DH):R D:=match x with
 | .ref i=>(match G[i]? with
  |some (.exc c (p::r))=>if c∈cs then(match(p::r).lookup f with
   |some d=>.ok d G
   |none=>.bad)else .bad
  |_=>.bad)
 |_=>.bad
def HeldAt(H:Hp)(x:V)(C:jD)(us:List (Str×V)):Prop:=∃a oe u vs dx o,x=.ref a/\H a=vZ (.frz oe u)/\oe.cls=.ref C/\oe.data=.fields vs/\oe.dict=vZ dx/\H dx=vZ (.frz o (.xd us))
theorem Sim.exc{c:Str}{p:Str×D}{fs:List (Str×D)}{v:V}(s:Sim b G)(r:Rep b (.ref i) v)(h:G[i]?=vZ (.exc c (p::fs))):∃C us,PySem.W.nsIn b.K x9 c=vZ (vZ (.ref C))/\HeldAt b.H v C us/\RepF b (p::fs) us:=by
 obtain⟨_,ev⟩:=r;obtain⟨C,oe,u,vs,n,e,k1,k2,z⟩:=s.obj i _ h;rcases z with⟨z,_⟩|⟨dx,o,us,z1,z2,z3⟩
 ·cases z
 ·exact⟨C,us,n,⟨_,oe,u,vs,dx,o,ev,e,k1,k2,z1,z2⟩,z3⟩
def HeldC(H:Hp)(x:V)(C:jD):Prop:=∃a oe u vs,x=.ref a/\H a=vZ (.frz oe u)/\oe.cls=.ref C/\oe.data=.fields vs/\(oe.dict=vJ∨∃dx o us,oe.dict=vZ dx/\H dx=vZ (.frz o (.xd us)))
theorem Sim.Hu{c:Str}{fs:List (Str×D)}{v:V}(s:Sim b G)(r:Rep b (.ref i) v)(h:G[i]?=vZ (.exc c fs)):∃C,PySem.W.nsIn b.K x9 c=vZ (vZ (.ref C))/\HeldC b.H v C:=by
 obtain⟨_,ev⟩:=r;obtain⟨C,oe,u,vs,n,e,k1,k2,z⟩:=s.obj i _ h;rcases z with⟨_,z⟩|⟨dx,o,us,z1,z2,z3⟩
 ·exact⟨C,n,_,oe,u,vs,ev,e,k1,k2,.inl z⟩
 ·exact⟨C,n,_,oe,u,vs,ev,e,k1,k2,.inr ⟨dx,o,us,z1,z2⟩⟩
section
variable{X:Cx}{E:XK}{vQ:List (jD×Obj)}{σ:St}{H:Hp}{s:jM}
theorem ZKG{x:V}{us:List (Str×V)}(I:Inv X vQ σ H s)(h:HeldAt H x C us):∃(a:jD)(oe od:Obj)(mA:Str->Option jO),x=.ref a/\PySem.W.InstAt s.heap a oe C (vZ od)/\(∀name,PySem.W.lookIn name od=vZ (mA name))/\∀f,RelO (us.lookup f) (mA f):=by
 obtain⟨a,oe,u,vs,dx,o,rfl,ea,k1,k2,k3,ed⟩:=h
 obtain⟨ha,_⟩:=(show ObjOk X.prog X.w H s.heap a (.frz oe u)from I.hok a _ ea)
 obtain⟨hd,mA,hn,hr⟩:=(show ObjOk X.prog X.w H s.heap dx (.frz o (.xd us))from I.hok dx _ ed)
 obtain⟨od,ho,hl⟩:=ZIc hn;refine⟨a,oe,od,mA,rfl,⟨ha,k1,?_,?_⟩,hl,hr⟩
 ·unfold PySem.W.notCls;rw[k2]
 ·rw[k3];exact ho
theorem ZKn{x:V}(I:Inv X vQ σ H s)(h:HeldC H x C):∃(a:jD)(oe:Obj)(od:Option Obj),x=.ref a/\PySem.W.InstAt s.heap a oe C od:=by
 obtain⟨a,oe,u,vs,rfl,ea,k1,k2,z⟩:=h
 obtain⟨ha,_⟩:=(show ObjOk X.prog X.w H s.heap a (.frz oe u)from I.hok a _ ea)
 have nc:PySem.W.notCls oe=vX:=by unfold PySem.W.notCls;rw[k2]
 rcases z with z|⟨dx,o,us,z,ed⟩
 ·exact⟨a,oe,vJ,rfl,ha,k1,nc,by rw[z];trivial⟩
 ·obtain⟨hd,mA,hn,hr⟩:=(show ObjOk X.prog X.w H s.heap dx (.frz o (.xd us))from I.hok dx _ ed)
  obtain⟨od,ho,hl⟩:=ZIc hn;exact⟨a,oe,vZ od,rfl,ha,k1,nc,by rw[z];exact ho⟩
def rIs1(K:PySem.W.Frag)(cv:V)(cu:jO):List V->Hp->VK->Prop:=λvs H Q=>∃x C b,vs=[x,cv]/\HeldC H x C/\XGet K C/\PySem.W.kitOne K (.ref C) cu=vZ b/\Q (.bl b) H
theorem ZKj{cv:V}{cu:jO}(hcu:∀u,RelV cv u->u=cu):CallR X (.builtin "isinstance") (rIs1 X.K cv cu):=by
 intro vQ s σ H xs us Q I rs h;obtain⟨x,C,b,rfl,hx,G,hk,q⟩:=h;obtain⟨u,u',rfl,ru,ru'⟩:∃u u',us=[u,u']/\RelV x u/\RelV cv u':=by
  cases rs with
  |cons p q=>cases q with
   |cons p' q'=>cases q';exact⟨_,_,rfl,p,p'⟩
 cases hcu _ ru';obtain⟨a,oe,od,rfl,J⟩:=ZKn I hx
 cases(show u=Value.ref a from ru)
 exact PySem.W.kia_one (ZKN G) I.kIn J hk (λz=>nomatch z) λtk=>⟨.bl b,H,I.tok _,rfl,q⟩
variable{e ce:jF}{ces:List jF}{t:DE}{tb:List (Str×Bool)}{cv:V}{cu:jO}{cvs:List V}{cus:List jO}{p pos tp:Pos}
theorem ZIg(hg:Gl X "isinstance")(hm:X.mg "isinstance"=vJ)(ha:QE X E e t)(hc:PE X ce (tC cv))(hcu:∀u,RelV cv u->u=cu)
  (htb:∀c b,tb.lookup c=vZ b->∀C,PySem.W.nsIn X.K x9 c=vZ (vZ (.ref C))->XGet X.K C/\PySem.W.kitOne X.K (.ref C) cu=vZ b) (he:notStar e=vX:=by rfl) (hs:notStar ce=vX:=by rfl):
  QE X E (.Call (.Name "isinstance" p) [e,ce] [] pos) (dUn (isx tb) t):=
 (ZGv (ZKj hcu) hg hm Xp (T5 ha (T5 hc ZDg (Ji ce [] X.env hs)) (Ji e [ce] X.env he)) (by decide) (by decide) (Ji e [ce] X.env he) (Ou pos X.env [ce] (by simp[hs]))).mono λσ H Q h=>by
  obtain⟨a,S,G,hk,rfl,s,r,h⟩:=h;refine⟨a,S,G,hk,rfl,s,r,(Hf h).imp ?_⟩;rintro v _ ⟨b,d,G1,rfl,x,s1,q,-,h1⟩;unfold isx at h1;split at h1
  ·rename_i i;split at h1
   ·rename_i c fs hi;split at h1
    ·rename_i bb hb;obtain⟨C,n,hx⟩:=s1.Hu q hi;obtain⟨g1,g2⟩:=htb c bb hb C (by rw[<-hk,<-x.k];exact n);exact⟨v,C,bb,rfl,hx,g1,g2,h1 b _ (Ext.refl b) s1 rfl⟩
    ·exact h1.elim
   ·exact h1.elim
  ·exact h1.elim
variable{f:Str}{cs:List Str}
noncomputable def tXf(K:PySem.W.Frag)(ta:TE)(f:Str):TE:=λσ H Q=>ta σ H λx H1=>∃C us v,HeldAt H1 x C us/\XGet K C/\NoAttr K C f/\us.lookup f=vZ v/\Q v H1
theorem ZNf{ta:TE}(he:PE X e ta)(hb:jS e f X.env (eval e X.env)=eval e X.env):PE X (.Attribute e f pos) (tXf X.K ta f):=by
 intro vQ s σ H Q I h;refine ZNj hb (thn (he vQ s σ H _ I h) λu s1 ⟨x,H1,I1,rx,C,us,v,hx,G,n,l,q⟩=>?_);obtain⟨a,oe,od,mA,rfl,J,hl,hr⟩:=ZKG I1 hx
 cases(show u=Value.ref a from rx)
 obtain⟨u',hu,ru⟩:=RelO.some_of (v:=v) (o:=mA f) (by rw[<-l];exact hr f);obtain⟨hh,g,d,t,os⟩:=s1;unfold getAttr;refine xI (wpAny_mkText ?_);exact ZQh (s:=⟨hh,g,d,t+1,os⟩) I1.kIn J G (PySem.W.findObj_own G.hd n rfl (by rw[hl,hu])) (ZQF ru) ⟨v,H1,I1.tok _,ru,q⟩
theorem ZJ8(ha:QE X E e t)(hcs:∀c∈cs,∀C,PySem.W.nsIn X.K x9 c=vZ (vZ (.ref C))->XGet X.K C/\NoAttr X.K C f)(hb:jS e f X.env (eval e X.env)=eval e X.env:=by rfl):
  QE X E (.Attribute e f pos) (dUn (gtx cs f) t):=
 (ZNf ha hb).mono λσ H Q h=>by
  obtain⟨a,S,G,hk,rfl,s,r,h⟩:=h;refine⟨a,S,G,hk,rfl,s,r,(Hf h).imp ?_⟩;rintro v _ ⟨b,d,G1,rfl,x,s1,q,-,h1⟩;unfold gtx at h1;split at h1
  ·rename_i i;split at h1
   ·rename_i c pf fs hi;split at h1
    ·rename_i hc;split at h1
     ·rename_i d' hd;obtain⟨C,us,n,hx,rf⟩:=s1.exc q hi;obtain⟨g1,g2⟩:=hcs c hc C (by rw[<-hk,<-x.k];exact n);obtain⟨u,eu,ru⟩:=rf.look hd;exact⟨C,us,u,hx,g1,g2,eu,h1 b u (Ext.refl b) s1 ru⟩
     ·exact h1.elim
    ·exact h1.elim
   ·exact h1.elim
  ·exact h1.elim
end
end _D
namespace _D
open PySem PySem.Spec PySem.W _L
open PyProof.Rows hiding St
variable{K:xT}{h:Heap}{mg:Str->Option jO}{G:DH}
theorem Nz{r:Option (Option jO)}{n:String}(h:isB r n=vX):r=vZ (vZ (.builtin n)):=by
 unfold isB at h;split at h
 ·rw[beq_iff_eq.mp h]
 ·cases h
theorem M3{r:Option Bool}{b:Bool}(h:An r b=vX):r=vZ b:=by
 unfold An at h;split at h
 ·rw[beq_iff_eq.mp h]
 ·cases h
theorem Yu{α:Type}{r:Option (Option α)}(h:Qy r=vX):r=vZ vJ:=by
 unfold Qy at h;split at h
 ·rfl
 ·cases h
structure ET (K:xT) (mg:Str->Option jO) (c f:Str):Prop where
 N:nsIn K x9 c=vZ (vZ (.ref (Ab K c)))
 g:mg c=vZ (.ref (Ab K c))
 k:keepIn K (.ref (Ab K c))=vX
 X:XSet K (Ab K c) f
 i:Ov K (Ab K c) (Dt K (Ab K c) "__init__")=vX
 o:∃o,K.lookup (Dt K (Ab K c) "__init__")=vZ o/\o.cls=.type "function"
 G:XGet K (Ab K c)
 no:NoAttr K (Ab K c) f
theorem ZLN{a:jD}(h:ZFD K a=vX):∃o,K.lookup a=vZ o/\o.cls=.type "function":=by
 unfold ZFD at h;split at h
 ·rename_i t _ _ _ e;exact⟨_,e,by rw[beq_iff_eq.mp h]⟩
 ·cases h
theorem Uo{c f:Str}(X:K.In h)(G:h.Ns x9 mg)(s:Nu c f K=vX):ET K mg c f:=by simp only[Nu,zV]at s;obtain⟨⟨⟨⟨⟨⟨h1,h2⟩,⟨⟨⟨h3,h4⟩,h5⟩,h6⟩,h7⟩,h8⟩,h9⟩,⟨⟨⟨⟨⟨⟨g1,g2⟩,g3⟩,g4⟩,g5⟩,g6⟩,g7⟩,g8⟩,h10⟩:=s;exact⟨Lp h1,mg_of X G (Lp h1),h2,⟨h3,ZFf h4,h5,Yu h6,h7⟩,h8,ZLN h9,⟨Nz g1,Yu g2,M3 g3,h7,Nz g4,Nz g5,M3 g6,M3 g7,M3 g8,h3⟩,ZHs h10⟩
theorem ZKC{r:Option CFound}{n:String}(h:ZBT r n=vX):r=vZ (.val (.builtin n)):=by
 unfold ZBT at h;split at h
 ·rw[beq_iff_eq.mp h]
 ·cases h
theorem ZNR{x:Str}(X:K.In h)(G:h.Ns x9 mg)(s:ZBJ x K=vX):XBase K mg x (Ab K x):=by simp only[ZBJ,zV]at s;obtain⟨⟨⟨h1,h2⟩,h3⟩,h4⟩:=s;exact⟨mg_of X G (Lp h1),Nz h2,h3,ZKC h4⟩
theorem Ih{x:Str}(X:K.In h)(G:h.Ns x9 mg)(s:gOk K x=vX):mg x=vZ (.ref (Ab K x)):=mg_of X G (Lp s)
abbrev FnX(P:jI)(w:jP)(K:xT)(mg:Str->Option jO)(base:Heap)(k:Nat)(n:Str)(ps:List Str)(F:List D->DH->R D):Prop:=FnOk P w K mg base (CXx P w) k (Ab K n) (Cg K (Ab K n)) ps (lFx K F)
theorem ZN0{X:Cx}:Passes (CXx X.prog X.w) X E0:=λvQ σ H s e s' I h=>by obtain⟨_,_,_,_,_,_,_,_,_,_,_,_,_,z,_⟩:=h;exact z.elim
section
variable{X:Cx}{E:XK}{c x n f v:Str}{e a:jF}{es:List jF}{t:DE}{tr:DA}{p q pos cpos np:Pos}{b:Bool}{F:List D->DH->R D}{k j:Nat}{ps:List Str}{st:jN}
theorem ZPc(FF:FnX X.prog X.w X.K X.mg X.base k n ps F)(T:FT X.K X.mg n st ps)(hr:Room j X.A)(ha:QA X E0 (e::es) tr)(hj:Nat.ble k j=vX:=by rfl)(hg:Gl X n:=by rfl)(hdb:(n==("__debug__":Str))=vV:=by decide)(he:notStar e=vX:=by rfl)(hpl:es.all notStar=vX:=by rfl):
  QE X E0 (.Call (.Name n p) (e::es) [] pos) (dFn F tr):=ZIY FF (hr.mono (qO hj)) hg T.m T.k T.b ZN0 ha hdb he hpl
theorem Sg(FF:FnO X.prog X.w X.K X.mg X.base k n ps F)(T:FT X.K X.mg n st ps)(hr:Room j X.A)(ha:QA X E (e::es) tr)(hj:Nat.ble k j=vX:=by rfl)(hg:Gl X n:=by rfl)(hdb:(n==("__debug__":Str))=vV:=by decide)(he:notStar e=vX:=by rfl)(hpl:es.all notStar=vX:=by rfl):
  QE X E (.Call (.Name n p) (e::es) [] pos) (dFn (nerr F) tr):=ZLZ FF (hr.mono (qO hj)) hg T.m T.k T.b ha hdb he hpl
theorem Sd(T:ET X.K X.mg c f)(FI:FnOk X.prog X.w X.K X.mg X.base CX0 k (Dt X.K (Ab X.K c) "__init__") (Cg X.K (Dt X.K (Ab X.K c) "__init__")) ["self",v] (spI (Ab X.K c) f))(hb:Binds X.K (Cg X.K (Dt X.K (Ab X.K c) "__init__")) ["self",v] [])(hr:Room j X.A)(ha:QA X E [a] tr)
  (hxe:∀e s,M8 X E e s->X.xe e s:=by exact λ_ _ h=>h) (hj:Nat.ble (k+1) j=vX:=by rfl) (hcalm:X.calm=vX:=by rfl) (hs:X.stack=X.env::X.outer:=by rfl) (hex:X.ex=[]:=by rfl) (hfr:X.env.frame=vZ X.env.locals:=by rfl) (hg:Gl X c:=by rfl) (hdb:(c==("__debug__":Str))=vV:=by decide) (hst:notStar a=vX:=by rfl):
  QS X E (.Raise (vZ (.Call (.Name c np) [a] [] cpos)) vJ pos) (sRz c f tr):=
 ZL3 T.N hcalm hs hex hfr hxe T.X T.i T.o FI (hr.mono (qO hj)) hb hg T.g T.k ha hdb hst
end
noncomputable def SR.nr:SR->SR
 |.err _ _=>.bad
 |r=>r
def sNr(t:DS):DS:=λS G=>(t S G).nr
@[simp]theorem ev_sNr{t:DS}{S:DSt}:sNr t S G=(t S G).nr:=id rfl
@[simp]theorem nr_nx{S:DSt}:(SR.nx S G).nr=.nx S G:=id rfl
@[simp]theorem nr_rt{d:D}:(SR.rt d G).nr=.rt d G:=id rfl
theorem ZMZ{E:XK}{t:DS}{W:Ends}{σ:St}{H:Hp}(h:lS K E (sNr t) W σ H):lS K E0 t W σ H:=by
 obtain⟨a,S,G,hk,rfl,sm,r,h⟩:=h;refine⟨a,S,G,hk,rfl,sm,r,?_⟩;unfold sNr at h
 revert h
 cases t S G with
 |err x G1=>exact λh=>h.elim
 |nx S1 G1=>exact λh=>h
 |bk S1 G1=>exact λh=>h
 |ct S1 G1=>exact λh=>h
 |rt d G1=>exact λh=>h
 |bad=>exact λh=>h
theorem Qj{X:Cx}{E:XK}{s:jN}{t:DS}(h:QS X E0 s t):QS X E s (sNr t):=PS.mono h λ_ _ _ z=>ZMZ z
end _D
namespace _D
open PySem PySem.Spec _L
open PyProof.Rows hiding St
section
variable{X:Cx}{E:XK}{vQ:List (jD×Obj)}{σ:St}{s:jM}
end
end _D
namespace _D
open PySem PySem.W PySem.Spec _L
open PyProof.Rows hiding St
section
variable{X:Cx}{E:XK}{x:Str}{p pos:Pos}{e:jF}{es:List jF}{tr:DA}
end
section
variable{X:Cx}{E:XK}{n:Str}{e:jF}{es:List jF}{tr:DA}{p pos:Pos}{F:List D->DH->R D}{k j:Nat}{ps:List Str}{st:jN}{v:Int}
end
section
variable{X:Cx}{E:XK}{c x n f v:Str}{e a:jF}{es:List jF}{t:DE}{tr:DA}{p q pos cpos np:Pos}{b:Bool}{F:List D->DH->R D}{k j:Nat}{ps:List Str}{st:jN}
end
end _D
namespace _D
open PySem PySem.Spec _L
open PyProof.Rows hiding St
variable{X:Cx}
noncomputable def dTc(F:List D->DH->R D)(t:DA):DE:=λS G=>match t S G with
 |.ok ds G1=>F ds G1
 |_=>.bad
def QTe(X:Cx)(e:jF)(t:DE):Prop:=∀(vQ:List (jD×Obj))(s:jM)(σ:St)(H:Hp)(Q:VK)(E:XK),Inv X vQ σ H s->lE X.K E t σ H Q->
 xG (xA X.prog X.w) X.A (eval e X.env) (EP X vQ σ Q) (λe s'=>∃H1 s1,Inv X vQ σ H1 s1/\CXx X.prog X.w X.stack H1 s1 E e s') s
def QTr(X:Cx)(b:List jN)(t:DS):Prop:=∀(vQ:List (jD×Obj))(s:jM)(σ:St)(H:Hp)(Nx:St->Hp->Prop)(E:XK),Inv X vQ σ H s->lS X.K E t {nx:=Nx,rt:=λ_ _=>False} σ H->
 xG (xA X.prog X.w) X.A (execs b X.env) (λfl s'=>fl=.next/\∃σ' H',Inv X vQ σ' H' s'/\Nx σ' H') (λe s'=>∃H1 s1,Inv X vQ σ H1 s1/\CXx X.prog X.w X.stack H1 s1 E e s') s
section
variable{X:Cx}{f:jD}{fn:Str}{fp cp ep pos:Pos}{a e:jF}{es:List jF}{t:DA}{te:DE}{F:List D->DH->R D}{k:Nat}{fd:jG}{ps:List Str}
theorem ZPu{dvs:List V}{dus:List jO}{spx:Sp}(FF:FnOk X.prog X.w X.K X.mg X.base (CXx X.prog X.w) k f fd ps spx)(hr:Room k X.A)(hdv:Vals dvs dus)(hbd:Binds X.K fd ps dus)(hg:Gl X fn)(hm:X.mg fn=vZ (.ref f))(hk:PySem.W.keepIn X.K (.ref f)=vX)(ha:QA X.nox E0 (a::es) t)
  (hF:∀(w:Wd)(G:DH)(ds:List D)(vs:List V)(Q:VK)(E:XK),w.K=X.K->Sim w G->Reps w ds vs->out E w (F ds G) Q->spx (vs++dvs) w.H Q E)
  (hdb:(fn==("__debug__":Str))=vV) (he:xE (a::es) X.env=(vV,eval a X.env)::xE es X.env) (hpl:(jT cp (xE es X.env)).any (·.1)=vV):
  QTe X (.Call (.Name fn fp) (a::es) [] cp) (dTc F t):=by
 intro vQ s σ H Nx E I h;have h':lA X.K E0 t σ H λvs H1=>spx (vs++dvs) H1 Nx E:=by
  obtain⟨w,S,G,hkw,rfl,sm,r,h⟩:=h;refine⟨w,S,G,hkw,rfl,sm,r,?_⟩;unfold dTc at h;cases ht:t S G with
  |err x G1=>rw[ht]at h;exact h.elim
  |bad=>rw[ht]at h;exact h
  |ok ds G1=>
   rw[ht]at h;exact λb vs y s1 q=>hF b G1 ds vs _ E (y.k.trans hkw) s1 q (out.mono y h)
 refine xH (Nk I hg hm ?_ hdb);refine PySem.W.callWith_K (h₀:=X.base) I.ok.mod.kin hk (xN (ha cp vQ s σ H _ (I.wish _) h') (λus s1 ⟨vs,H1,I1,r,q⟩=>⟨I1.kIn,?_⟩) λ_ _ z=>z.elim) he hpl;have I1':=I1.unwish;have r2:Vals (vs++dvs) (us++dus):=r.append hdv;have hlen:(us++dus).length=ps.length:=by rw[<-r2.length];exact FF.len _ _ _ _ q
 refine wpAny_call (xX (FF.run X.A X.stack s1 H1 ⟨us,[]⟩ (us++dus) (vs++dvs) _ E hr I1'.env0 (hbd s1 us I1'.kIn hlen) r2 q) λr s' hq=>?_);cases r with
 |ok fl=>
  cases fl with
  |next=>exact False.elim hq
  |brk=>exact False.elim hq
  |cont=>exact False.elim hq
  |ret u=>exact I1'.after hq
 |error e=>exact⟨H1,s1,I1',hq⟩
theorem ZMk(he:QTe X e te)(hsw:swapsWith e vJ ep.line X.env=pure vV:=by rfl):QTr X [.Expr e ep] (sEx te):=by
 intro vQ s σ H Nx E I h;obtain⟨w,S,G,hkw,rfl,sm,r,h⟩:=h;have h':lE X.K E te σ w.H λ_ H'=>Nx σ H':=by
  refine⟨w,S,G,hkw,rfl,sm,r,?_⟩;unfold sEx at h;cases ht:te S G with
  |err x G1=>rw[ht]at h;exact h
  |bad=>rw[ht]at h;exact h
  |ok d G1=>rw[ht]at h;exact λb v y s1 q=>h b σ y s1 (r.mono y)
 exact wpAny_execs_cons (wpAny_Expr_any (thn (he vQ s σ w.H _ E I h') λu s1 ⟨v,H1,I1,_,q⟩=>wpAny_execs_nil ⟨rfl,σ,H1,I1,q⟩) I.quiet hsw)
end
noncomputable abbrev DHn:=Xn->DSt->DH->SR
def QH(X:Cx)(hs:List ExceptHandler)(f:DHn):Prop:=∀(vQ:List (jD×Obj))(s:jM)(σ:St)(H':Hp)(W:Ends)(ea C:jD)(oe:Obj)(vs:Array jO)(x:Xn)(w:Wd)(S:DSt)(G:DH)(E:XK),
 s.heap.get? ea=vZ oe->oe.cls=.ref C->oe.data=.fields vs->H' ea=vJ->Inv X vQ σ (upd H' ea (.frz oe (.own 0))) s->(∃B:Heap,Trc s.heap B ea (.ref C) oe.dict .none)->
 w.K=X.K->w.H=H'->Sim w G->RepS w S σ->PySem.W.nsIn w.K x9 x.cls=vZ (vZ (.ref C))->XD w oe.dict x.fs->Df E w (f x S G) W->
 xG (xA X.prog X.w) X.A (handleBy (.ref ea) X.env hs) (SP X vQ W) X.xe s
noncomputable def ZHG:DHn:=λ_ _ _=>.bad
theorem ZQO:QH X [] ZHG:=λvQ s σ H' W ea C oe vs x w S G E _ _ _ _ _ _ _ _ _ _ _ _ h=>h.elim
def Sq(ws ns:List Str)(i:Nat)(hb:DS)(f:DHn):DHn:=λx S G=>if x.cls∈ws then unnm i (hb (S.set i (vZ (.ref G.length))) (G++[.exc x.cls x.fs]))else if x.cls∈ns then f x S G else .bad
theorem ZGI{vQ:List (jD×Obj)}{σ:St}{H:Hp}{s:jM}{ea C W:jD}{oe:Obj}{x:Str}{np hp:Pos}{b:Bool}{R:Result->jM->Prop}(ho:s.heap.get? ea=vZ oe)(hc:oe.cls=.ref C)(J:Inv X vQ σ H s)(hgx:Gl X x)(hmx:X.mg x=vZ (.ref W))(hdx:(x==("__debug__":Str))=vV)
  (ht:Fx X.K C W b=vX) (q:R (.ok (if b then .brk else .next)) s):codeAny (xA X.prog X.w) (X.A.mark (vZ (.ref ea))) (.handlers (.ref ea) [.ExceptHandler (vZ (.Name x np)) vJ [] hp] X.env) R s:=by
 unfold Fx at ht;simp only[zV]at ht;obtain⟨⟨t1,t2⟩,t3⟩:=ht;obtain⟨bm,N,nm,qn,bs,sn,sub,ab,col,dd,k0,k1,k2,k3,k5,hcl,T,_⟩:=Od J.kIn t1;obtain⟨bm',N',nm',qn',bs',sn',sub',ab',col',dd',l0,l1,l2,l3,l5,hcl',T',_⟩:=Od J.kIn t2;have hin:(Value.ref C::bm).contains (.ref W)=b:=by
  split at t3
  ·rename_i c0 d0 cd sl0 ho';have:=J.kIn _ _ ho';rw[hcl]at this;cases this;exact eq_of_beq t3
  ·cases t3
 refine codeAny_handlers_test (Nk (X:=Oz X ea) (ZHf J) hgx hmx ?_ hdx);exact ZNm hcl hcl' ho hc (T'.hasType PySem.F.excBase_ValueError.hasBase) hin q
section
variable{X:Cx}{W:jD}{x n:Str}{np hp pos:Pos}{i:Nat}{b₀:jN}{suite:List jN}{hb:DS}{ws ns:List Str}{hs:List ExceptHandler}{f:DHn}
theorem ZOG(hcalm:X.calm=vX)(hgx:Gl X x)(hmx:X.mg x=vZ (.ref W))(hN:X.N.Nodup)(hi:X.N[i]?=vZ n)(hl:X.env.kindOf n=vZ .local)
  (hws:∀c∈ws,∀C,PySem.W.nsIn X.K x9 c=vZ (vZ (.ref C))->Fx X.K C W vX=vX) (hns:∀c∈ns,∀C,PySem.W.nsIn X.K x9 c=vZ (vZ (.ref C))->Fx X.K C W vV=vX)
  (hh:∀ea,QSs (Oz X ea) E0 (b₀::suite) hb) (hr:QH X hs f) (hdx:(x==("__debug__":Str))=vV:=by decide):
  QH X (.ExceptHandler (vZ (.Name x np)) (vZ n) (b₀::suite) hp::hs) (Sq ws ns i hb f):=by
 intro vQ s σ H' D ea C oe vs xn w S G E ho hc hda fe J tr hkw hH sm r hn hx h;subst hH;have hcalm':=J.ok.hd hcalm;unfold Sq at h;split at h
 ·rename_i hw;refine wpAny_handleBy_cons (ZGI ho hc J hgx hmx hdx (hws _ hw C (by rw[<-hkw];exact hn)) ?_) (by intro q;cases q);obtain⟨B,tr⟩:=tr;refine codeAny_handlers_suite_as (ZNK tr λh3 kp=>?_);have J3:=J.kept (h':=h3) (t':=s.toks) kp;refine ZD1 J3 hN hi (.inl hl) (v:=.ref ea) rfl (λs4 I4=>?_) (.inr hl);have yp:=Ext.push (a:=w) (p:=ea) (ho:=.frz oe (.own 0)) fe;have run:lS X.K E0 hb {nx:=λσ2 H2=>D.nx (σ2.set i vJ) H2,rt:=D.rt,bk:=λσ2 H2=>D.bk (σ2.set i vJ) H2,ct:=λσ2 H2=>D.ct (σ2.set i vJ) H2} (σ.set i (vZ (.ref ea))) (upd w.H ea (.frz oe (.own 0))):=by
   refine⟨w.push ea (.frz oe (.own 0)),S.set i (vZ (.ref G.length)),G++[.exc xn.cls xn.fs],hkw,rfl,?_,?_,?_⟩
   ·exact sm.push fe ⟨C,oe,.own 0,vs,hn,rfl,hc,hda,hx.mono yp⟩
   ·refine(r.mono yp).set i ⟨?_,?_⟩
    ·show G.length<w.n+1;rw[sm.len];exact qY _
    ·show V.ref ea=V.ref (if G.length=w.n then ea else w.m G.length);rw[if_pos sm.len]
   ·revert h
    cases hb (S.set i (vZ (.ref G.length))) (G++[.exc xn.cls xn.fs])with
    |nx S3 G3=>exact λh c σ3 y3 s3 r3=>h c _ (yp.trans y3) s3 (r3.unset i)
    |bk S3 G3=>exact λh c σ3 y3 s3 r3=>h c _ (yp.trans y3) s3 (r3.unset i)
    |ct S3 G3=>exact λh c σ3 y3 s3 r3=>h c _ (yp.trans y3) s3 (r3.unset i)
    |rt d3 G3=>exact λh c v3 y3 s3 r3=>h c v3 (yp.trans y3) s3 r3
    |err x3 G3=>exact λh=>h.elim
    |bad=>exact λh=>h.elim
  refine xN (hh ea vQ s4 _ _ _ (ZHf I4) run) (λfl s5 q5=>?_) λ_ _ z=>z.elim
  cases fl with
  |next=>
   obtain⟨σ2,H2,I5,q5⟩:=q5;exact Yr (Vy (calm:=hcalm) hcalm' I5) hN hi hl λs6 I6=>⟨_,H2,I6,q5⟩
  |brk=>
   obtain⟨σ2,H2,I5,q5⟩:=q5;exact Yr (Vy (calm:=hcalm) hcalm' I5) hN hi hl λs6 I6=>⟨_,H2,I6,q5⟩
  |cont=>
   obtain⟨σ2,H2,I5,q5⟩:=q5;exact Yr (Vy (calm:=hcalm) hcalm' I5) hN hi hl λs6 I6=>⟨_,H2,I6,q5⟩
  |ret u=>
   obtain⟨v,σ2,H2,I5,rv,q5⟩:=q5;exact Yr (Vy (calm:=hcalm) hcalm' I5) hN hi hl λs6 I6=>⟨v,_,H2,I6,rv,q5⟩
 ·split at h
  ·rename_i hw;refine wpAny_handleBy_cons (ZGI ho hc J hgx hmx hdx (hns _ hw C (by rw[<-hkw];exact hn)) ?_) (by intro q;cases q);exact hr vQ s σ w.H D ea C oe vs xn w S G E ho hc hda fe J tr hkw rfl sm r hn hx h
  ·exact h.elim
end
section
variable{X:Cx}{W:jD}{x:Str}{np hp pos:Pos}{b₀:jN}{suite:List jN}{hb:DS}{ws ns:List Str}{hs:List ExceptHandler}{f:DHn}
end
noncomputable def Tn(t:DS)(f:DHn):DS:=λS G=>match t S G with
 |.nx S2 G2=>.nx S2 G2
 |.err x G2=>f x S G2
 |_=>.bad
theorem ZQL{E:XK}{b:List jN}{h0:ExceptHandler}{hs:List ExceptHandler}{t:DS}{f:DHn}{pos:Pos}(hst:X.stack=X.env::X.outer)(hfr:X.env.frame=vZ X.env.locals)(hb:QTr X b t)(hh:QH X (h0::hs) f):QS X E (.Try b (h0::hs) [] [] pos) (Tn t f):=by
 intro vQ s σ H D I h;obtain⟨w,S,G,hkw,rfl,sm,r,h⟩:=h;let E1:XK:=λcls od H'=>cls=.none∨∃C x G2 b2,cls=.ref C/\PySem.W.nsIn b2.K x9 x.cls=vZ (vZ (.ref C))/\b2.K=X.K/\b2.H=H'/\Sim b2 G2/\RepS b2 S σ/\XD b2 od x.fs/\Df E b2 (f x S G2) D
 have run:lS X.K E1 t {nx:=D.nx,rt:=λ_ _=>False} σ w.H:=by
  refine⟨w,S,G,hkw,rfl,sm,r,?_⟩;unfold Tn at h;cases ht:t S G with
  |bad=>rw[ht]at h;exact h
  |bk S2 G2=>rw[ht]at h;exact h.elim
  |ct S2 G2=>rw[ht]at h;exact h.elim
  |rt d G2=>rw[ht]at h;exact h.elim
  |nx S2 G2=>rw[ht]at h;exact h
  |err xn G2=>
   rw[ht]at h;refine⟨λz=>?_,λb2 C od y2 s2 hn hx=>.inr ⟨C,xn,G2,b2,rfl,hn,y2.k.trans hkw,rfl,s2,r.mono y2,hx,Df.mono y2 h⟩⟩;have:=congrFun (congrFun (congrFun z Value.none) vJ) w.H;exact cast this (.inl rfl)
 refine wpAny_Try_except (xN (hb vQ s σ w.H _ E1 I run) (λfl s1 ⟨e,σ1,H1,I1,q⟩=>?_) λe s1 ⟨H1,s2,I1,hq⟩=>?_)
 ·subst e;exact wpAny_execs_nil ⟨σ1,H1,I1,q⟩
 ·refine lands hst hfr I1 hq λea C od H' oe vs' h'' ee ho hc hd hda hE fe J tr hcC=>?_
  subst ee;rcases hE with z|⟨C',xn,G2,b2,z,hn,hkb,hH,s2,r2,hx,h2⟩
  ·obtain⟨C2,z2⟩:=hcC;rw[z]at z2;cases z2
  ·subst z hd hH;exact hh vQ _ σ b2.H D ea C' oe vs' xn b2 S G2 E ho hc hda fe J tr hkb rfl s2 r2 hn hx h2
end _D
namespace _D
open PySem PySem.Spec PySem.W _L
open PyProof.Rows hiding St
variable{K:xT}{mg:Str->Option jO}{tb:List (Str×Bool)}
theorem ZM3{h:Heap}{N:jD}{m:Str->Option jO}{n:Str}(X:K.In h)(G:h.Ns N m)(e:nsIn K N n=vZ vJ):m n=vJ:=by
 obtain⟨o,es,ep,ho,hd,_,hf⟩:=G;unfold nsIn at e;split at e
 ·rename_i c d es' n' sl q;have:=X _ _ q;rw[ho]at this;cases this;cases hd;split at e
  ·cases e
  ·rename_i he;rw[<-hf];unfold nsFind findBy;rw[<-Array.find?_toList,he]
   rfl
 ·cases e
section
variable{X:Cx}{C:jD}{x:Str}{np cpos pos:Pos}{a:jF}{ta:TA}{E:XK}
noncomputable def tRz0(C:jD)(E:XK)(ta:TA):TS:=λ_ σ H=>ta σ H λvs H1=>vs.length<=1000/\E (.ref C) vJ H1
theorem ZMr(hcalm:X.calm=vX)(hs:X.stack=X.env::X.outer)(hex:X.ex=[])(hfr:X.env.frame=vZ X.env.locals)(hxe:∀e s,M8 X E e s->X.xe e s)
  (ec:Hu X.K C=vX) (ni:Y8 X.K C=vX) (hg:Gl X x) (hm:X.mg x=vZ (.ref C)) (hk:keepIn X.K (.ref C)=vX) (ha:PA X [a] ta) (hdb:(x==("__debug__":Str))=vV:=by decide)
  (he:xE [a] X.env=(vV,eval a X.env)::xE [] X.env:=by rfl) (hpl:(jT cpos (xE [] X.env)).any (·.1)=vV:=by rfl):
  PS X (.Raise (vZ (.Call (.Name x np) [a] [] cpos)) vJ pos) (tRz0 C E ta):=by
 intro vQ s σ H D I h;refine ZHv (C:=C) (I.ok.hd hcalm) ?_;refine xH (Nk I hg hm ?_ hdb);refine callWith_K (h₀:=X.base) I.ok.mod.kin hk (thn (ha cpos vQ s σ H _ I h) λus s1 ⟨vs,H1,I1,r,hl,q⟩=>⟨I1.kIn,?_⟩) he hpl;obtain⟨bm,N,nm,qn,bs,sn,sub,ab,col,dd,k0,k1,k2,k3,k5,hcl,T,m,hN,hin⟩:=Od I1.kIn ec;have hni:m "__init__"=vJ:=by
  unfold Y8 at ni;split at ni
  ·rename_i c0 d0 cd sl0 ho';have:=I1.kIn _ _ ho';rw[hcl]at this;cases this;exact ZM3 I1.kIn hN (Yu ni)
  ·cases ni
 have hl1:us.length<=sizeLine:=by rw[<-r.length,xC];lia
 obtain⟨hp,g,d,tk,os⟩:=s1;have FB:=PySem.F.excBase_ValueError;refine wpAny_call_exc_subT (hrest:=hl1) FB T hcl hN hni λh' e hm'=>?_
 obtain⟨t,ht,_,_⟩:=hm'.there;have fe:H1 e=vJ:=by
  cases z:H1 e with
  |none=>rfl
  |some u=>
   obtain⟨o,k⟩:=ZIF (I1.hok e u z);have k':hp.get? e=vZ o:=k;rw[hm'.new]at k';cases k'
 have J:=I1.kept (h':=h') (t':=tk) hm'.keeps;have mk:Made X H1 ⟨hp,g,d,tk,os⟩ e (.ref C) vJ ⟨h',g,d,tk,os⟩ H1:=
  ⟨rfl,J.bare,⟨λb o k _ _ _=>hm'.keeps b o k,λb o k _ _ _=>⟨o.slots,hm'.keeps b o k⟩,λb o k n _=>n,λb o k _=>⟨o,hm'.keeps b o k⟩,λb xs k=>k,λb o u k=>k,λb ps k=>⟨#[],by rw[Array.append_empty];exact k⟩⟩,J.hok,⟨_,_,ht,rfl,rfl,rfl,rfl⟩,fe,hm'.new⟩
 have hcl':=hm'.keeps _ _ hcl;exact⟨e,vJ,t,bm,N,nm,qn,bs,vX,sn,sub,ab,col,dd,k0,k1,k2,k3,k5,_,rfl,hcl',T.hasType FB.hasBase,ht,hxe _ _ (ZFt hs hex hfr I1 mk q ⟨C,rfl⟩)⟩
end
def Oc(c:Str)(t:DA):DS:=λS G=>match t S G with
 |.ok ds G1=>if ds.length=1 then .err ⟨c,[]⟩ G1 else .bad
 |.err x G1=>.err x G1
 |.bad=>.bad
structure ET0 (K:xT) (mg:Str->Option jO) (c:Str):Prop where
 N:nsIn K x9 c=vZ (vZ (.ref (Ab K c)))
 g:mg c=vZ (.ref (Ab K c))
 k:keepIn K (.ref (Ab K c))=vX
 ec:Hu K (Ab K c)=vX
 ni:Y8 K (Ab K c)=vX
 G:XGet K (Ab K c)
theorem ZLk{h:Heap}{c:Str}(X:K.In h)(G:h.Ns x9 mg)(s:et0Ok c K=vX):ET0 K mg c:=by simp only[et0Ok,zV]at s;obtain⟨⟨⟨⟨h1,h2⟩,h3,h7⟩,h8⟩,⟨⟨⟨⟨⟨⟨g1,g2⟩,g3⟩,g4⟩,g5⟩,g6⟩,g7⟩,g8⟩:=s;exact⟨Lp h1,mg_of X G (Lp h1),h2,h3,h8,⟨Nz g1,Yu g2,M3 g3,h7,Nz g4,Nz g5,M3 g6,M3 g7,M3 g8,h3⟩⟩
section
variable{X:Cx}{E:XK}{c x n f v w:Str}{e a:jF}{es:List jF}{t:DE}{tr:DA}{p q pos cpos np fp cp ep hp:Pos}{b:Bool}{F:List D->DH->R D}{k j:Nat}{ps:List Str}{st:jN}
theorem ZP8(T:ET0 X.K X.mg c)(ha:QA X E [a] tr)
  (hxe:∀e s,M8 X E e s->X.xe e s:=by exact λ_ _ h=>h) (hcalm:X.calm=vX:=by rfl) (hs:X.stack=X.env::X.outer:=by rfl) (hex:X.ex=[]:=by rfl) (hfr:X.env.frame=vZ X.env.locals:=by rfl) (hg:Gl X c:=by rfl) (hdb:(c==("__debug__":Str))=vV:=by decide) (hst:notStar a=vX:=by rfl):
  QS X E (.Raise (vZ (.Call (.Name c np) [a] [] cpos)) vJ pos) (Oc c tr):=
 (ZMr (ta:=lA X.K E tr) hcalm hs hex hfr hxe T.ec T.ni hg T.g T.k ha hdb (Ji a [] X.env hst) rfl).mono λW σ H h=>by
  obtain⟨w,S,G,hk,rfl,sm,r,h⟩:=h;refine⟨w,S,G,hk,rfl,sm,r,?_⟩;unfold Oc at h;cases ht:tr S G with
  |err x G1=>rw[ht]at h;exact h
  |bad=>rw[ht]at h;exact h
  |ok ds G1=>
   rw[ht]at h;dsimp only at h;split at h
   ·rename_i hd;intro b vs y s1 q;refine⟨by rw[<-q.length,hd];decide,h.2 b _ vJ y s1 ?_ (.inl ⟨rfl,rfl⟩)⟩;show nsIn b.K _ _=_;rw[y.k,hk];exact T.N
   ·exact h.elim
theorem ZLW(FF:FnX X.prog X.w X.K X.mg X.base k n ps F)(T:FT X.K X.mg n st ps)(hr:Room j X.A)(ha:QA X.nox E0 (a::es) tr)(hj:Nat.ble k j=vX:=by rfl)(hg:Gl X n:=by rfl)
  (hdb:(n==("__debug__":Str))=vV:=by decide) (he:xE (a::es) X.env=(vV,eval a X.env)::xE es X.env:=by rfl) (hpl:(jT cp (xE es X.env)).any (·.1)=vV:=by rfl):
  QTe X (.Call (.Name n fp) (a::es) [] cp) (dTc F tr):=
 ZPu (dvs:=[]) (dus:=[]) FF (hr.mono (qO hj)) .nil T.b hg T.m T.k ha (λw G ds vs Q E hk s r h=>by rw[zP];exact⟨w,G,ds,hk,rfl,s,r,h⟩) hdb he hpl
def Tk(K:xT)(w:Str)(b:Bool)(ws:List Str):Prop:=∀c∈ws,∀C,nsIn K x9 c=vZ (vZ (.ref C))->Fx K C (Ab K w) b=vX
theorem ZGh:Tk K w b []:=λc h=>absurd h (by simp)
theorem Qq{ws:List Str}(N:nsIn K x9 c=vZ (vZ (.ref (Ab K c))))(h:Fx K (Ab K c) (Ab K w) b=vX)(r:Tk K w b ws):Tk K w b (c::ws):=λc' hc C hC=>by
 rcases zq.mp hc with z|z
 ·subst z;rw[N]at hC;cases hC;exact h
 ·exact r c' z C hC
theorem ZLn{i:Nat}{b₀:jN}{suite:List jN}{hb:DS}{ws ns:List Str}{hs:List ExceptHandler}{g:DHn}(mw:X.mg w=vZ (.ref (Ab X.K w)))(tw:Tk X.K w vX ws)(tn:Tk X.K w vV ns)(hr:Room j X.A)(hN:X.N.Nodup)(hh:∀ea,RoomH j (Oz X ea).A->QSs (Oz X ea) E0 (b₀::suite) hb)(hrest:QH X hs g)
  (hcalm:X.calm=vX:=by rfl) (hgw:Gl X w:=by rfl) (hi:X.N[i]?=vZ x:=by rfl) (hl:X.env.kindOf x=vZ .local:=by rfl) (hdx:(w==("__debug__":Str))=vV:=by decide):
  QH X (.ExceptHandler (vZ (.Name w np)) (vZ x) (b₀::suite) hp::hs) (Sq ws ns i hb g):=
 ZOG hcalm hgw mw hN hi hl tw tn (λea=>hh ea (RoomH.held (.of hr))) hrest hdx
theorem ZLv{bd:List jN}{h0:ExceptHandler}{hs:List ExceptHandler}{ts:DS}{g:DHn}(hb:QTr X bd ts)(hh:QH X (h0::hs) g)(hst:X.stack=X.env::X.outer:=by rfl)(hfr:X.env.frame=vZ X.env.locals:=by rfl):QS X E (.Try bd (h0::hs) [] [] pos) (Tn ts g):=
 ZQL hst hfr hb hh
def Tb(K:xT)(P:jD->Bool->Prop)(tb:List (Str×Bool)):Prop:=∀c b,tb.lookup c=vZ b->∀C,nsIn K x9 c=vZ (vZ (.ref C))->P C b
theorem Iu{P:jD->Bool->Prop}:Tb K P []:=λc b h=>by cases h
theorem ZN7{P:jD->Bool->Prop}(hn:nsIn K x9 c=vZ (vZ (.ref (Ab K c))))(h:P (Ab K c) b)(r:Tb K P tb):Tb K P ((c,b)::tb):=by
 intro c' b' hl C hC;by_cases z:c'=c
 ·subst z;rw[hn]at hC;cases hC;simp only[j2,beq_self_eq_true]at hl;cases hl;exact h
 ·have:(c'==c)=vV:=by simpa using z
  simp only[j2,this]at hl;exact r c' b' hl C hC
theorem J7(hm:X.mg "isinstance"=vJ)(mw:X.mg w=vZ (.ref (Ab X.K w)))(k:Tb X.K (λC b=>XGet X.K C/\kitOne X.K (.ref C) (.ref (Ab X.K w))=vZ b) tb)(ha:QE X E e t)(hg:Gl X "isinstance":=by rfl)(gw:Gl X w:=by rfl)(hd:(w==("__debug__":Str))=vV:=by decide)(he:notStar e=vX:=by rfl):
  QE X E (.Call (.Name "isinstance" p) [e,.Name w q] [] pos) (dUn (isx tb) t):=
 ZIg (cv:=.ref (Ab X.K w)) (cu:=.ref (Ab X.K w)) hg hm ha (ZGR gw mw rfl hd) (λu h=>h) k he rfl
theorem ZPw{T:String}(hm:X.mg "isinstance"=vJ)(mw:X.mg w=vJ)(hv:xZ w=vZ (.type T))(k:Tb X.K (λC b=>XGet X.K C/\kitOne X.K (.ref C) (.type T)=vZ b) tb)(ha:QE X E e t)(hg:Gl X "isinstance":=by rfl)(gw:Gl X w:=by rfl)(hn:w≠"__name__":=by decide)(hd:(w==("__debug__":Str))=vV:=by decide)(he:notStar e=vX:=by rfl):
  QE X E (.Call (.Name "isinstance" p) [e,.Name w q] [] pos) (dUn (isx tb) t):=
 ZIg (cv:=.ty T) (cu:=.type T) hg hm ha (ZJh gw mw hv rfl hn hd) (λu h=>h) k he rfl
structure XN (K:xT) (c:Str):Prop where
 N:nsIn K x9 c=vZ (vZ (.ref (Ab K c)))
 G:XGet K (Ab K c)
theorem ET.xn(T:ET K mg c f):XN K c:=⟨T.N,T.G⟩
theorem ET0.xn(T:ET0 K mg c):XN K c:=⟨T.N,T.G⟩
theorem Bh{cu:jO}(T:XN K c)(k:An (kitOne K (.ref (Ab K c)) cu) b=vX)(r:Tb K (λC b=>XGet K C/\kitOne K (.ref C) cu=vZ b) tb):Tb K (λC b=>XGet K C/\kitOne K (.ref C) cu=vZ b) ((c,b)::tb):=ZN7 T.N ⟨T.G,M3 k⟩ r
def Cf(K:xT)(f:Str)(cs:List Str):Prop:=∀c∈cs,∀C,nsIn K x9 c=vZ (vZ (.ref C))->XGet K C/\NoAttr K C f
theorem ZHm:Cf K f []:=λc h=>absurd h (by simp)
theorem K6{cs:List Str}(T:ET K mg c f)(r:Cf K f cs):Cf K f (c::cs):=λc' hc C hC=>by
 rcases zq.mp hc with z|z
 ·subst z;rw[T.N]at hC;cases hC;exact⟨T.G,T.no⟩
 ·exact r c' z C hC
theorem ZFh{cs:List Str}(T:Cf X.K f cs)(ha:QE X E e t)(hb:jS e f X.env (eval e X.env)=eval e X.env:=by rfl):QE X E (.Attribute e f pos) (dUn (gtx cs f) t):=ZJ8 ha T hb
end
section
variable{X:Cx}{n y:Str}{e e2:jF}{es:List jF}{tr:DA}{tu:DE}{p pos kp:Pos}{F:List D->DH->R D}{k j:Nat}{ps:List Str}{st:jN}{v:Int}
end
section
variable{prog:jI}{w:jP}{A:jE}{E:jO->jM->Prop}{s:jM}
theorem ZNa{t b:jD}{ws:List jO}{Q:jO->jM->Prop}(ht:IsTup s.heap t #[])(hb:IsTup s.heap b ws.toArray)(h:Q (.ref b) s):xG (xA prog w) A (xQ .Add (.ref t) (.ref b)) Q E s:=by obtain⟨⟨cls,dd,data,sl⟩,ho,hc,n,hd⟩:=id ht;obtain⟨⟨cls2,dd2,data2,sl2⟩,ho2,hc2,n2,hd2⟩:=id hb;simp only at hc hd hc2 hd2;subst hc hd hc2 hd2;exact concat_meets ⟨_,ho,rfl⟩ ⟨_,ho2,rfl⟩ noFill_tuple_add seq_tuple_add PySem.F.slot_tuple_add PySem.F.entry_tuple_add (PySem.F.args_tuple_add_2 _ _) (tuple_addW0 t b #[] ws.toArray n n2 dd dd2 sl sl2 rfl) ⟨ho,ho2,h⟩
theorem ZLt:fillsNumberSlot (.type "tuple") "mul"=pure vV:=
 PySem.fillsNumberSlot_seq (id:="tuple.__mul__") (r:=vZ (.builtin "tuple.__rmul__")) PySem.F.slot_tuple_mul.lookup (by decide +kernel) PySem.F.slot_tuple_rmul.lookup (by decide +kernel)
theorem ZPM:seqRepeat? (.type "tuple")=pure (vZ (.builtin "tuple.__mul__")):=by
 unfold seqRepeat?;rw[PySem.seqSlot_of (T:="tuple") (name:="__mul__") (id:="tuple.__mul__") PySem.F.slot_tuple_mul.lookup (by decide +kernel),PySem.seqSlot_of (T:="tuple") (name:="__rmul__") (id:="tuple.__rmul__") PySem.F.slot_tuple_rmul.lookup (by decide +kernel)]
 rfl
theorem ZP5(a:Int)(t:Tok)(l:jD)(items:Array jO)(n:Nat)(dd:Option jD)(sl:Array (Option jO)):
  Meets (Builtin.«int.__rmul__» ⟨[.int a t,.ref l],[]⟩) (λ_ R s=>s.heap.get? l=vZ {cls:=.type "tuple",dict:=dd,data:=.seq items n,slots:=sl}/\R (.ok (.ret Value.notImplemented)) s):=
 .of_wp λprog w A R s h=>by obtain⟨hp,g,d,tk,os⟩:=s;obtain⟨hl,h⟩:=h;wp_walk using wpAny_loadPart' hl;exact⟨_,rfl,h⟩
theorem ZOw(l:jD)(items:Array jO)(n:Nat)(dd:Option jD)(sl:Array (Option jO))(t:Tok):
  Meets (Builtin.«tuple.__mul__» ⟨[.ref l,.int 1 t],[]⟩) (λ_ R s=>s.heap.get? l=vZ {cls:=.type "tuple",dict:=dd,data:=.seq items n,slots:=sl}/\R (.ok (.ret (Value.ref l))) s):=
 .of_wp λprog w A R s h=>by obtain⟨hp,g,d,tk,os⟩:=s;obtain⟨hl,h⟩:=h;have f1:=AutoSeq1.idx_int;wp_walk using wpAny_loadPart' hl;exact⟨_,rfl,h⟩
theorem ZO2(l:jD)(x:jO)(n:Nat)(dd:Option jD)(sl:Array (Option jO))(k:Int)(t:Tok)(h2:2<=k)(h3:k<=1000):
  Meets (Builtin.«tuple.__mul__» ⟨[.ref l,.int k t],[]⟩) (λ_ R s=>s.heap.get? l=vZ {cls:=.type "tuple",dict:=dd,data:=.seq #[x] n,slots:=sl}/\R (.ok (.ret (Value.ref s.heap.objs.size))) {s with heap:=s.heap.push {cls:=Value.type "tuple",data:=Data.seq (zk k.toNat x).toArray}}):=
 .of_wp λprog w A R s h=>by
  obtain⟨hp,g,d,tk,os⟩:=s;obtain⟨hl,h⟩:=h;have f1:=AutoSeq1.idx_int;have c1:(decide (k < -(2^63))||decide (k ≥ 2^63))=vV:=by rw[decide_eq_false (by lia),decide_eq_false (by lia)];rfl
  have c2:((#[x]:Array jO).isEmpty||k==1)=vV:=by
   have:(k==1)=vV:=by simp;lia
   rw[this];rfl
  have c3:(decide (k<=0)||(#[x]:Array jO).isEmpty)=vV:=by rw[decide_eq_false (by lia)];rfl
  have c4:¬(((#[x]:Array jO).size:Int)*k>(2^63-1)/8):=by have:(((#[x]:Array jO).size:Nat):Int)=1:=rfl;rw[this];lia
  have c5:Builtin.Tuple.tupleTooMany (((#[x]:Array jO).size:Int)*k)=vV:=by have:(((#[x]:Array jO).size:Nat):Int)=1:=rfl;rw[this];unfold Builtin.Tuple.tupleTooMany;exact decide_eq_false (by rw[xC];lia)
  have e:(zk k.toNat (#[x]:Array jO)).foldl (·++·) #[]=(zk k.toNat x).toArray:=by
   have:=foldl_rep [x] k.toNat [];rw[jA]at this;rw[show(zk k.toNat x)=(zk k.toNat [x]).flatten by
    induction k.toNat with
    |zero=>rfl
    |succ m ih=>rw[qq,qq,List.flatten_cons,<-ih];rfl]
   exact this
  wp_walk using wpAny_loadPart' hl
  rw[if_neg (by rw[c1];decide)]
  wp_walk using wpAny_loadPart' hl
  rw[if_neg (by rw[c2];decide),if_neg (by rw[c3];decide),if_neg c4,if_neg (by rw[c5];decide),e]
  wp_walk
  rw[if_neg (by rw[zK,qN,xC];lia)]
  wp_walk
  exact⟨_,rfl,h⟩
end
section
variable{X:Cx}{E:XK}
theorem ZJs:OpR X (xQ .Add) (λx y H Q=>∃a b ys,x=.ref a/\y=.ref b/\SqT X.K H a []/\SqT X.K H b ys/\Q (.ref b) H):=by intro vQ s σ H x y v u Q I rx ry h;obtain⟨a,b,ys,rfl,rfl,ha,hb,q⟩:=h;cases rx;cases ry;obtain⟨its,r1,p1,_⟩:=I.tuple ha;obtain⟨its2,r2,p2,_⟩:=I.tuple hb;cases r1;exact ZNa p1 p2 ⟨.ref b,H,I,rfl,q⟩
def Ce:D->D->DH->R D
 |.tup [],.tup ys,G=>.ok (.tup ys) G
 |d,e,G=>Ba d e G
theorem Dv:OpR X (xQ .Add) (lR2 X.K E Ce):=λvQ s σ H x y v u Q I rx ry h=>by
 obtain⟨a,G,d,e,hk,hH,sm,rd,re,q⟩:=h;unfold Ce at q;split at q
 ·rename_i ys;subst hH;obtain⟨p,vs,e1,h1,r1⟩:=rd;obtain⟨p',vs',e2,h2,r2⟩:=re;rw[hk]at h1 h2;obtain rfl:vs=[]:=qZ (by rw[<-r1.length];rfl);exact ZJs vQ s σ a.H x y v u Q I rx ry ⟨p,p',vs',e1,e2,h1,h2,q a (.ref p') (Ext.refl a) sm ⟨p',vs',rfl,by rw[hk];exact h2,r2⟩⟩
 ·exact Bm vQ s σ H x y v u Q I rx ry ⟨a,G,d,e,hk,hH,sm,rd,re,q⟩
theorem ZL5:OpR X (xQ .Mult) (λx y H Q=>∃a z k,x=.ref a/\y=.int k/\SqT X.K H a [z]/\1<=k/\k<=1000/\(k=1->Q (.ref a) H)/\∀p,H p=vJ->Q (.ref p) (upd H p (.tup (zk k.toNat z)))):=by
 intro vQ s σ H x y v u Q I rx ry h;obtain⟨a,z,k,rfl,rfl,ha,h1,h2,q1,q2⟩:=h;cases rx;obtain⟨t,rfl⟩:=ry;obtain⟨its,r1,p1,_⟩:=I.tuple ha;obtain⟨u,rfl⟩:∃u,its=[u]:=by
  cases r1 with
  |cons _ b=>cases b;exact⟨_,rfl⟩
 obtain⟨⟨cls,dd,data,sl⟩,ho,hc,n,hd⟩:=id p1;simp only at hc hd;subst hc hd;refine wpAny_binaryOp_repeat_ref (T:="tuple") (U:="int") (by decide) ⟨_,ho,rfl⟩ (λs'=>typeIs_int s' k t) ZLt F.fills_int_mul F.slot_int_rmul ZPM F.slot_int_index.lookup
  (call_meets F.slot_int_rmul (typeIs_int s k t) F.entry_int_rmul (F.args_int_rmul_2 _ _) (ZP5 k t a [u].toArray n dd sl) ⟨ho,rfl,⟨_,ho,rfl⟩,?_⟩)
 by_cases e:k=1
 ·subst e;exact call_meets F.slot_tuple_mul ⟨_,ho,rfl⟩ F.entry_tuple_mul (F.args_tuple_mul_2 _ _) (ZOw a [u].toArray n dd sl t) ⟨ho,.ref a,H,I,rfl,q1 rfl⟩
 ·refine call_meets F.slot_tuple_mul ⟨_,ho,rfl⟩ F.entry_tuple_mul (F.args_tuple_mul_2 _ _) (ZO2 a u n dd sl k t (by lia) h2) ⟨ho,?_⟩;have rr:Vals (zk k.toNat z) (zk k.toNat u):=by
   cases r1 with
   |cons ru _=>
    induction k.toNat with
    |zero=>exact .nil
    |succ m ih=>rw[qq,qq];exact .cons ru ih
  refine⟨.ref s.heap.objs.size,_,I.laid (t':=s.toks) (o:=.tup (zk k.toNat z)) (λb ob q=>zJ _ q) (zx _) ?_,rfl,q2 _ (I.hok.fresh (zx _))⟩;exact⟨by rw[qN,xC];lia,_,rr,IsTup.new _ _⟩
def ZAf:D->D->DH->R D
 |.tup [x],.int k,G=>if 1<=k/\k<=1000 then .ok (.tup (zk k.toNat x)) G else .bad
 |_,_,_=>.bad
theorem ZQK:OpR X (xQ .Mult) (lR2 X.K E ZAf):=Ht ZL5 λa G d e x y Q hk s rd re q=>by
 unfold ZAf at q;split at q
 ·rename_i x k;split at q
  ·rename_i hc;obtain⟨p,vs,e1,h1,r1⟩:=rd;rw[hk]at h1;obtain⟨v,r0,rfl,rv,rn⟩:=r1;obtain rfl:r0=[]:=rn;have rr:∀m:Nat,Reps a (zk m x) (zk m v):=λm=>by
    induction m with
    |zero=>exact Reps.nil
    |succ m ih=>rw[qq,qq];exact Reps.cons rv ih
   refine⟨p,v,k,e1,re,h1,hc.1,hc.2,λz=>?_,λp0 hp=>Vx s (rr k.toNat) q p0 hp⟩;subst z;exact q a (.ref p) (Ext.refl a) s ⟨p,[v],rfl,by rw[hk];exact h1,rr 1⟩
  ·exact q.elim
 ·exact q.elim
end
section
variable{X:Cx}{E:XK}
noncomputable def ddI(ns:List Int):Nat:=(PyProof.Rows.firstMet (λi=>ns.getD i 0) ns.length).length
theorem ZBt:∀{ns:List Int}{us:List jO},Vals (ns.map V.int) us->PyProof.Rows.IntsAre us ns
 |[],_,h=>by cases h;exact .nil
 | n::ns,_,h=>by
  cases h with
  |cons r h=>
   obtain⟨t,rfl⟩:=r;exact .cons n t (ZBt h)
def tLS(K:PySem.W.Frag)(ta:TA):TE:=λσ H Q=>ta σ H λvs H1=>∃(p:jD)(ns:List Int),vs=[.ref p]/\SqL K H1 p (ns.map V.int)/\ns.length<=1000/\Q (.int (ddI ns:Nat)) H1
theorem ZP7{e:jF}{ta:TA}{p p' pos pos':Pos}(hc:X.calm=vX)(hg:Gl X "len")(hm:X.mg "len"=vJ)(hg2:Gl X "set")(hm2:X.mg "set"=vJ)(ha:PA X [e] ta)(hs:xE [e] X.env=[(vV,eval e X.env)]:=by rfl)
  (hs2:xE [.Call (.Name "set" p') [e] [] pos'] X.env=[(vV,eval (.Call (.Name "set" p') [e] [] pos') X.env)]:=by rfl):PE X (.Call (.Name "len" p) [.Call (.Name "set" p') [e] [] pos'] [] pos) (tLS X.K ta):=by
 intro vQ s σ H Q I h;refine Call_ (R9 I hg hm Dy (PyProof.Rows.callWith_builtin1 ?_ hs2 rfl));rw[hs2];refine Calls.spliced_cons (Call_ (R9 I hg2 hm2 PyProof.Rows.boot_set (PyProof.Rows.callWith_type1 (thn (ha pos' vQ s σ H _ I h) λus s1 ⟨vs,H1,I1,r1,q1⟩=>?_) hs rfl)));obtain⟨l,ns,rfl,hl,hn,q⟩:=q1;obtain⟨u,rfl,ru⟩:=r1.one;cases ru;obtain⟨its,hv,pl,hz⟩:=I1.list hl;have hi:=ZBt hv;have e1:its.length=ns.length:=by rw[<-hv.length,zZ]
 refine PySem.call_set_list (ns:=ns) (I.ok.hd hc) pl.isList (by simpa using hi) (by rw[zK,e1];unfold scanBound;lia) λh' tk hS hk=>Calls.spliced_nil ?_
 have e2:(List.toArray its).size=ns.length:=by simp[e1]
 rw[e2]at hS;obtain⟨o,ho,hso⟩:=hS.objOf;obtain⟨hex,es,ep,t,hd,_,_,hne,hf⟩:=hso;have hb:ddI ns<=1000:=z9 (PyProof.Rows.firstMet_length_le _ _) hn;have hq:Q (.int (ddI ns:Nat)) H1:=q;unfold ddI at hb hq;generalize(PyProof.Rows.firstMet (λi=>ns.getD i 0) ns.length).length=dd at*;subst hne;refine call_len_set ho hex hd hf (by lia) ?_;exact⟨.int _,H1,(I1.kept (t':=tk) λb u e=>hk b u (zj e) e).tok _,⟨_,rfl⟩,hq⟩
def dLS(t:DA):DE:=λS G=>(t S G).bind λds G1=>match ds with
 | [d]=>match Ik d G1 with
  |some xs=>match G7 xs with
   |some ns=>if ns.length<=1000 then .ok (.int (ddI ns:Nat)) G1 else .bad
   |none=>.bad
  |none=>.bad
 |_=>.bad
theorem ZQk{e:jF}{ta:DA}{p p' pos pos':Pos}(hc:X.calm=vX)(hg:Gl X "len")(hm:X.mg "len"=vJ)(hg2:Gl X "set")(hm2:X.mg "set"=vJ)(ha:QA X E [e] ta)(hs:xE [e] X.env=[(vV,eval e X.env)]:=by rfl)
  (hs2:xE [.Call (.Name "set" p') [e] [] pos'] X.env=[(vV,eval (.Call (.Name "set" p') [e] [] pos') X.env)]:=by rfl):QE X E (.Call (.Name "len" p) [.Call (.Name "set" p') [e] [] pos'] [] pos) (dLS ta):=
 (ZP7 hc hg hm hg2 hm2 ha hs hs2).mono λσ H Q h=>by
  obtain⟨a,S,G,hk,rfl,s,r,h⟩:=h;refine⟨a,S,G,hk,rfl,s,r,(Qp h).imp ?_⟩;rintro vs _ ⟨b,ds,G1,rfl,x,s1,q,-,h1⟩;split at h1
  ·rename_i d;split at h1
   ·rename_i xs hx;split at h1
    ·rename_i ns hns;split at h1
     ·rename_i hl;obtain⟨v,rfl,rv⟩:=reps1 q;obtain⟨p0,ws,rfl,hq,rw1⟩:=Uj s1 rv hx;rw[Qz hns]at rw1;rw[ZEl rw1]at hq;rw[x.k,hk]at hq;exact⟨p0,ns,rfl,hq,hl,h1 b _ (Ext.refl b) s1 rfl⟩
     ·exact h1.elim
    ·exact h1.elim
   ·exact h1.elim
  ·exact h1.elim
noncomputable def Hx(ns:List Int):List Int:=ns.mergeSort λa b=>decide (a<=b)
theorem ZG9{ns ms:List Int}(h1:ms.Perm ns)(h2:ms.Pairwise (·<=·)):ms=Hx ns:=by
 have h3:(Hx ns).Pairwise (λa b=>decide (a<=b)=vX):=List.pairwise_mergeSort (by intro a b c;simp;lia) (by intro a b;simp;lia) ns
 refine List.Perm.eq_of_pairwise (le:=(·<=·)) (λa b _ _ x y=>Int.le_antisymm x y) h2 (h3.imp (by intro a b;simp)) (h1.trans (List.mergeSort_perm ns _).symm)
theorem ZH7:∀{us:List jO}{ns:List Int},PyProof.Rows.IntsAre us ns->Vals (ns.map V.int) us
 |_,_,.nil=>.nil
 |_,_,.cons n t h=>.cons ⟨t,rfl⟩ (ZH7 h)
theorem ZFk{a:Wd}:∀{ns:List Int},Reps a (ns.map D.int) (ns.map V.int)
 |[]=>rfl
 |n::ns=>⟨_,_,rfl,rfl,ZFk⟩
def Rk(ds:List D)(G:DH):R D:=match ds with
 | [d]=>match Ik d G with
  |some xs=>match G7 xs with
   |some ns=>if ns.length<64 then .ok (.ref G.length) (G++[.lst ((Hx ns).map D.int)])else .bad
   |none=>.bad
  |none=>.bad
 |_=>.bad
theorem ZMy:CallR X (.builtin "sorted") (lRn X.K E Rk):=by
 intro vQ s σ H vs us Q I rs h;obtain⟨a,G,ds,hk,rfl,sm,r,q⟩:=h;unfold Rk at q;split at q
 ·rename_i d;obtain⟨v,rfl,rv⟩:=reps1 r;split at q
  ·rename_i xs hs;split at q
   ·rename_i ns hns;split at q
    ·rename_i hc;obtain⟨p,ws,rfl,h1,r1⟩:=Uj sm rv hs;rw[Qz hns]at r1;rw[ZEl r1,hk]at h1;obtain⟨u,rfl,ru⟩:=vals1 rs;cases ru;obtain⟨its,hv,pl,hz⟩:=I.list h1;have hi:=ZBt hv;have e1:its.length=ns.length:=by rw[<-hv.length,zZ]
     refine PyProof.Rows.sorted_ints pl.isList hi (by lia) λout ns' a1 a2 a3=>?_
     obtain rfl:=ZG9 a2 a3;obtain⟨c,he⟩:=PyProof.Rows.sortedAll_at s.heap its out;have e2:out.toList.length=ns.length:=by rw[a1.length,a2.length_eq]
     exact ZQP I sm q ZFk (ZH7 a1) (by lia) (by simpa using he) (λb o _ e=>PyProof.Rows.sortedAll_old e) λm hm=>hm.keeps λb o e=>PyProof.Rows.sortedAll_old e
    ·exact q.elim
   ·exact q.elim
  ·exact q.elim
 ·exact q.elim
end
section
variable{X:Cx}{E:XK}
end
end _D
namespace _W
open PySem _L _D
theorem ZPy:FnScope ["self","place"] ["self","place"] (Bd ZDF):=⟨rfl,rfl,rfl,by decide +kernel,rfl,by decide +kernel,by decide +kernel⟩
theorem ZMX:FnScope ["self","place"] ["self","place"] (Bd ZDq):=⟨rfl,rfl,rfl,by decide +kernel,rfl,by decide +kernel,by decide +kernel⟩
theorem ZPb:FnScope ["self","place"] ["self","place"] (Bd ZFO):=⟨rfl,rfl,rfl,by decide +kernel,rfl,by decide +kernel,by decide +kernel⟩
theorem ZKr:FnScope ["self","place"] ["self","place"] (Bd ZBw):=⟨rfl,rfl,rfl,by decide +kernel,rfl,by decide +kernel,by decide +kernel⟩
theorem ZMQ:FnScope ["self","place"] ["self","place"] (Bd ZEf):=⟨rfl,rfl,rfl,by decide +kernel,rfl,by decide +kernel,by decide +kernel⟩
noncomputable abbrev ZGE:List Str:=["_law_script","_law_k"]
noncomputable abbrev ZBI:List Str:=ZGE.take 2
theorem ZPA:FnScope ZGE ZBI (Bd ZBM):=⟨rfl,rfl,rfl,by decide +kernel,rfl,by decide +kernel,by decide +kernel⟩
noncomputable abbrev ZBK:List Str:=["_law_text","_law_small"]
noncomputable abbrev ZE5:List Str:=ZBK.take 1
theorem ZI4:FnScope ZBK ZE5 (Bd Vz):=⟨rfl,rfl,rfl,by decide +kernel,rfl,by decide +kernel,by decide +kernel⟩
noncomputable abbrev ZIW:List Str:=["_law_stairs_here","_law_pump","_law_pumped_here","_law_j","_law_height","_law_many","_law_way"]
noncomputable abbrev ZEm:List Str:=ZIW.take 2
theorem O6:FnScope ZIW ZEm (Bd ZBx):=⟨rfl,rfl,rfl,by decide +kernel,rfl,by decide +kernel,by decide +kernel⟩
noncomputable abbrev ZAU:List Str:=["_law_rule_here","_law_year","_law_pump","_law_begins"]
noncomputable abbrev ZEv:List Str:=ZAU.take 3
theorem ZGU:FnScope ZAU ZEv (Bd Ru):=⟨rfl,rfl,rfl,by decide +kernel,rfl,by decide +kernel,by decide +kernel⟩
noncomputable abbrev ZB7:List Str:=["_law_places","_law_k","_law_year","_law_place_here","_law_names_here","_law_pump"]
noncomputable abbrev ZDJ:List Str:=ZB7.take 3
theorem Yl:FnScope ZB7 ZDJ (Bd Wx):=⟨rfl,rfl,rfl,by decide +kernel,rfl,by decide +kernel,by decide +kernel⟩
noncomputable abbrev ZIQ:List Str:=["_law_house_here","_law_year","_law_places","_law_k","_law_due_here"]
noncomputable abbrev ZDm:List Str:=ZIQ.take 1
theorem U7:FnScope ZIQ ZDm (Bd ZAx):=⟨rfl,rfl,rfl,by decide +kernel,rfl,by decide +kernel,by decide +kernel⟩
noncomputable abbrev ZDY:List Str:=["_law_places","_law_xs","_law_some"]
noncomputable abbrev ZB4:List Str:=ZDY.take 2
theorem ZJg:FnScope ZDY ZB4 (Bd W0):=⟨rfl,rfl,rfl,by decide +kernel,rfl,by decide +kernel,by decide +kernel⟩
noncomputable abbrev Xz:List Str:=["_law_xs","_law_letters","_law_names_here","_law_x","_law_word","_law_rest","_law_j","_law_some"]
noncomputable abbrev ZAj:List Str:=Xz.take 1
theorem Kv:FnScope Xz ZAj (Bd Tr):=⟨rfl,rfl,rfl,by decide +kernel,rfl,by decide +kernel,by decide +kernel⟩
noncomputable abbrev ZFv:List Str:=["_law_cell","_law_k","_law_many","_law_number_here","_law_left","_law_found","_law_j"]
noncomputable abbrev ZDb:List Str:=ZFv.take 3
theorem Mu:FnScope ZFv ZDb (Bd ZEB):=⟨rfl,rfl,rfl,by decide +kernel,rfl,by decide +kernel,by decide +kernel⟩
noncomputable abbrev Qg:List Str:=["_law_cell","_law_letters","_law_xs","_law_word","_law_turned_here","_law_other","_law_names_here","_law_k","_law_name","_law_size","_law_at","_law_sign"]
noncomputable abbrev ZAg:List Str:=Qg.take 1
theorem Gf:FnScope Qg ZAg (Bd O9):=⟨rfl,rfl,rfl,by decide +kernel,rfl,by decide +kernel,by decide +kernel⟩
noncomputable abbrev ZGu:List Str:=["_law_x"]
noncomputable abbrev ZE4:List Str:=ZGu.take 1
theorem ZLg:FnScope ZGu ZE4 (Bd ZFF):=⟨rfl,rfl,rfl,by decide +kernel,rfl,by decide +kernel,by decide +kernel⟩
noncomputable abbrev ZGj:List Str:=["_law_x","_law_cell"]
noncomputable abbrev ZA8:List Str:=ZGj.take 2
theorem ZNc:FnScope ZGj ZA8 (Bd ZDO):=⟨rfl,rfl,rfl,by decide +kernel,rfl,by decide +kernel,by decide +kernel⟩
noncomputable abbrev ZAt:List Str:=["_law_rule_here"]
noncomputable abbrev ZEj:List Str:=ZAt.take 1
theorem ZNM:FnScope ZAt ZEj (Bd Zj):=⟨rfl,rfl,rfl,by decide +kernel,rfl,by decide +kernel,by decide +kernel⟩
noncomputable abbrev ZH2:List Str:=["_law_xs","_law_cell","_law_pumps","_law_steps","_law_top","_law_j","_law_height","_law_many","_law_way"]
noncomputable abbrev ZDG:List Str:=ZH2.take 3
theorem M4:FnScope ZH2 ZDG (Bd ZCf):=⟨rfl,rfl,rfl,by decide +kernel,rfl,by decide +kernel,by decide +kernel⟩
noncomputable abbrev ZGt:List Str:=["_law_xs","_law_cell","_law_year","_law_pumps","_law_seasons","_law_begin","_law_j"]
noncomputable abbrev ZAi:List Str:=ZGt.take 4
theorem Tt:FnScope ZGt ZAi (Bd ZDo):=⟨rfl,rfl,rfl,by decide +kernel,rfl,by decide +kernel,by decide +kernel⟩
noncomputable abbrev ZFb:List Str:=["_law_names_here","_law_many","_law_k","_law_year","_law_cell","_law_xs","_law_down","_law_head","_law_pumps","_law_rule_here","_law_pump","_law_to"]
noncomputable abbrev ZEK:List Str:=ZFb.take 5
theorem K3:FnScope ZFb ZEK (Bd ZBh):=⟨rfl,rfl,rfl,by decide +kernel,rfl,by decide +kernel,by decide +kernel⟩
noncomputable abbrev ZCa:List Str:=["_law_script","_law_at","_law_many","_law_year","_law_names_here","_law_places"]
noncomputable abbrev ZC7:List Str:=ZCa.take 2
theorem Ui:FnScope ZCa ZC7 (Bd ZAY):=⟨rfl,rfl,rfl,by decide +kernel,rfl,by decide +kernel,by decide +kernel⟩
noncomputable abbrev ZIs:List Str:=["_law_row","_law_j","_law_thing"]
noncomputable abbrev ZEh:List Str:=ZIs.take 3
theorem ZN5:FnScope ZIs ZEh (Bd ZCh):=⟨rfl,rfl,rfl,by decide +kernel,rfl,by decide +kernel,by decide +kernel⟩
noncomputable abbrev ZI8:List Str:=["_law_found"]
noncomputable abbrev ZC3:List Str:=ZI8.take 1
theorem ZLf:FnScope ZI8 ZC3 (Bd ZEe):=⟨rfl,rfl,rfl,by decide +kernel,rfl,by decide +kernel,by decide +kernel⟩
noncomputable abbrev ZEy:List Str:=["thing"]
noncomputable abbrev ZAk:List Str:=ZEy.take 1
theorem ZQp:FnScope ZEy ZAk (Bd Z6):=⟨rfl,rfl,rfl,by decide +kernel,rfl,by decide +kernel,by decide +kernel⟩
noncomputable abbrev ZFc:List Str:=["pump","others"]
noncomputable abbrev ZCV:List Str:=ZFc.take 2
theorem ZQA:FnScope ZFc ZCV (Bd ZD8):=⟨rfl,rfl,rfl,by decide +kernel,rfl,by decide +kernel,by decide +kernel⟩
noncomputable abbrev ZGS:List Str:=["place","later"]
noncomputable abbrev ZCj:List Str:=ZGS.take 2
theorem ZP0:FnScope ZGS ZCj (Bd ZEa):=⟨rfl,rfl,rfl,by decide +kernel,rfl,by decide +kernel,by decide +kernel⟩
noncomputable abbrev ZG2:List Str:=["rule","year","ahead","first","stairs"]
noncomputable abbrev ZC6:List Str:=ZG2.take 2
theorem Um:FnScope ZG2 ZC6 (Bd ZDs):=⟨rfl,rfl,rfl,by decide +kernel,rfl,by decide +kernel,by decide +kernel⟩
noncomputable abbrev ZGx:List Str:=["stairs","end","height","many","way"]
noncomputable abbrev ZA9:List Str:=ZGx.take 1
theorem Qo:FnScope ZGx ZA9 (Bd ZD2):=⟨rfl,rfl,rfl,by decide +kernel,rfl,by decide +kernel,by decide +kernel⟩
noncomputable abbrev ZD9:List Str:=["stairs","pump","pumped"]
noncomputable abbrev ZD3:List Str:=ZD9.take 2
theorem ZIq:FnScope ZD9 ZD3 (Bd Xh):=⟨rfl,rfl,rfl,by decide +kernel,rfl,by decide +kernel,by decide +kernel⟩
noncomputable abbrev ZJc:List Str:=["rule","pump","year","first","stairs"]
noncomputable abbrev ZB6:List Str:=ZJc.take 3
theorem ZDE:FnScope ZJc ZB6 (Bd ZBr):=⟨rfl,rfl,rfl,by decide +kernel,rfl,by decide +kernel,by decide +kernel⟩
noncomputable abbrev ZFs:List Str:=["place"]
noncomputable abbrev ZFN:List Str:=ZFs.take 1
theorem ZLJ:FnScope ZFs ZFN (Bd ZBf):=⟨rfl,rfl,rfl,by decide +kernel,rfl,by decide +kernel,by decide +kernel⟩
noncomputable abbrev ZAD:List Str:=["house","number","places","place","ahead","later"]
noncomputable abbrev ZES:List Str:=ZAD.take 2
theorem Tq:FnScope ZAD ZES (Bd Uv):=⟨rfl,rfl,rfl,by decide +kernel,rfl,by decide +kernel,by decide +kernel⟩
noncomputable abbrev ZIJ:List Str:=["house","places","number"]
noncomputable abbrev ZA0:List Str:=ZIJ.take 1
theorem ZD5:FnScope ZIJ ZA0 (Bd ZFK):=⟨rfl,rfl,rfl,by decide +kernel,rfl,by decide +kernel,by decide +kernel⟩
noncomputable abbrev ZCP:List Str:=["_law_house_here","_law_rank_here","_law_at","_law_caught","e","_law_found"]
noncomputable abbrev ZAu:List Str:=ZCP.take 3
theorem Mh:FnScope ZCP ZAu (Bd Zh):=⟨rfl,rfl,rfl,by decide +kernel,rfl,by decide +kernel,by decide +kernel⟩
noncomputable abbrev ZHJ:List Str:=["_law_places","_law_at","_law_x","_law_name","_law_some"]
noncomputable abbrev ZE0:List Str:=ZHJ.take 3
theorem Zq:FnScope ZHJ ZE0 (Bd ZCH):=⟨rfl,rfl,rfl,by decide +kernel,rfl,by decide +kernel,by decide +kernel⟩
noncomputable abbrev ZJM:List Str:=["_law_place_here","_law_x","_law_rank_here"]
noncomputable abbrev ZCY:List Str:=ZJM.take 2
theorem ZF7:FnScope ZJM ZCY (Bd ZCB):=⟨rfl,rfl,rfl,by decide +kernel,rfl,by decide +kernel,by decide +kernel⟩
noncomputable abbrev ZCS:List Str:=["_law_rule_here","_law_pump","_law_year","_law_way","_law_x","_law_j","_law_begin","_law_stairs_here","_law_top","_law_last","_law_s","_law_steps","_law_step","_law_most","_law_lifted"]
noncomputable abbrev ZBO:List Str:=ZCS.take 5
theorem Fy:FnScope ZCS ZBO (Bd Ye):=⟨rfl,rfl,rfl,by decide +kernel,rfl,by decide +kernel,by decide +kernel⟩
noncomputable abbrev ZHD:List Str:=["_law_place_here","_law_rank_here","_law_x","_law_year","_law_strange","_law_below","_law_way"]
noncomputable abbrev ZDW:List Str:=ZHD.take 5
theorem ZDy:FnScope ZHD ZDW (Bd ZEp):=⟨rfl,rfl,rfl,by decide +kernel,rfl,by decide +kernel,by decide +kernel⟩
noncomputable abbrev ZGa:List Str:=["_law_places","_law_at","_law_name","_law_old","_law_found","_law_k","_law_place_here"]
noncomputable abbrev ZB0:List Str:=ZGa.take 3
theorem Mq:FnScope ZGa ZB0 (Bd ZDA):=⟨rfl,rfl,rfl,by decide +kernel,rfl,by decide +kernel,by decide +kernel⟩
noncomputable abbrev ZFr:List Str:=["_law_house_here","_law_at","_law_rank_here","_law_x","_law_year","_law_places","_law_name","_law_strange"]
noncomputable abbrev ZB5:List Str:=ZFr.take 4
theorem Tj:FnScope ZFr ZB5 (Bd ZEg):=⟨rfl,rfl,rfl,by decide +kernel,rfl,by decide +kernel,by decide +kernel⟩
noncomputable abbrev ZGY:List Str:=["_law_house_here","_law_xs","_law_carry","_law_held_here","_law_year","_law_places","_law_at","_law_x","_law_rank_here","_law_name"]
noncomputable abbrev ZA6:List Str:=ZGY.take 4
theorem Mf:FnScope ZGY ZA6 (Bd ZCA):=⟨rfl,rfl,rfl,by decide +kernel,rfl,by decide +kernel,by decide +kernel⟩
noncomputable abbrev ZBi:List Str:=["_law_script","_law_house_here","_law_xs","_law_carry","_law_held_here","_law_j","_law_year","_law_places","_law_at","_law_names_here","_law_turned_here","_law_due_here","_law_told"]
noncomputable abbrev ZEY:List Str:=ZBi.take 1
theorem Hn:FnScope ZBi ZEY (Bd Je):=⟨rfl,rfl,rfl,by decide +kernel,rfl,by decide +kernel,by decide +kernel⟩
def ZF8:DS:=(Aj (sIf (Ao (dOp Du (dV 1) (dFn Dl (Ad (dV 0) Ah)))) (sRt (dOp Af (dV 0) (dV 1))) sNx) (sRt (dC (.int 0))))
def Jl:List D->DH->R D:=Cd 2 0 ZF8
def Yq:DE:=(dV 0)
def Ud:DB:=(Ao (Jp G6 G6 (dC (.str "a")) (dV 0) (dC (.str "z"))))
def ZIi:DS:=(Aj (sAs (Ar (Ed (Ej (dV 0)) 1 [] (gV 0) Ud Yq)) (gV 1)) (sRt (Kh (Jp Du Du (dC (.int 0)) (dFn Dl (Ad (dV 0) Ah)) (dC (.int 9))) (Kh (dOp Bj (dFn Dl (Ad (dV 1) Ah)) (dFn Dl (Ad (dV 0) Ah))) (dOp Ff (dV 0) (dC (.str "sea")))))))
def Z8:List D->DH->R D:=Cd 1 1 ZIi
def R6:DS:=(Aj (sAs (dOp Af (dV 0) (dV 3)) (Dn 3 (Bq (gV 4) (Bq (gV 5) (Bq (gV 6) Ds))))) (Aj (sIf (dOr (Ao (dOp Du (dV 4) (dC (.int 0)))) (dOr (Ao (dOp Du (dV 5) (dC (.int 1)))) (Dc (Ao (dOp Bj (dV 6) (dC (.str "pump")))) (Ao (dOp Kw (dV 1) (dC .non)))))) (sRt (dC (.bl vV))) sNx) (Aj (sIf (Dc (Ao (dOp Es (dV 3) (dC (.int 0)))) (Ao (dOp Du (dV 4) (dOp Ba (dOp Af (dOp Af (dV 0) (dOp Fd (dV 3) (dC (.int 1)))) (dC (.int 0))) (dOp Af (dOp Af (dV 0) (dOp Fd (dV 3) (dC (.int 1)))) (dC (.int 1))))))) (sRt (dC (.bl vV))) sNx) (sIf (Ao (dOp Bj (dV 6) (dC (.str "pump")))) (sAs (dOp Ba (dV 2) (dV 5)) (gV 2)) sNx))))
def ZIa:DS:=(Aj (sAs (dC (.int 0)) (gV 2)) (Aj (Gb (Ga rng1 (Ad (dFn Dl (Ad (dV 0) Ah)) Ah)) (gV 3) R6) (sRt (Rp (dOp Kw (dV 1) (dC .non)) (dOp G6 (dV 2) (dOp Af (dV 1) (dC (.int 2))))))))
def Zi:List D->DH->R D:=Cd 2 5 ZIa
def ZAn:DE:=(dV 0)
def Xi:DE:=(dFn Zi (Ad (dV 1) (Ad (dV 2) Ah)))
def ZJB:DS:=(Aj (sAs (Ar (Ed (Ej (dV 0)) 2 [] (Dn 2 (Bq (gV 0) (Bq (gV 1) Ds))) Cu ZAn)) (gV 3)) (Aj (sIf (dOr (Ao (dOp Bj (dFn Dl (Ad (dV 3) Ah)) (dC (.int 0)))) (dOr (Ao (dOp Ff (dOp Af (dV 3) (dC (.int 0))) (dC (.int 0)))) (Ao (dOp Yg (dOp Af (dV 3) (dUn Ho (dC (.int 1)))) (dV 1))))) (sRt (dC (.bl vV))) sNx) (Aj (sIf (dOr (Ao (dOp Ff (dV 3) (Ar (dFn Rk (Ad (dV 3) Ah))))) (Ao (dOp Ff (dLS (Ad (dV 3) Ah)) (dFn Dl (Ad (dV 3) Ah))))) (sRt (dC (.bl vV))) sNx) (sRt (dFn Pn (Ad (Ar (Ed (Ej (dV 0)) 2 [2] (Dn 2 (Bq (gV 0) (Bq (gV 1) Ds))) Cu Xi)) Ah))))))
def Vh:List D->DH->R D:=Cd 3 1 ZJB
def Yj:DE:=(dOp Af (dV 0) (dC (.int 1)))
def ZJF:DS:=(sRt (dC (.int 0)))
def ZEi:DS:=(Aj (sIf (Eh (Ao (dFn Vh (Ad (dOp Af (dV 3) (dC (.int 5))) (Ad (dV 2) (Ad (dV 5) Ah)))))) (sRt (dC (.int 5))) sNx) ZJF)
def Ut:DS:=(Aj (sIf (Dc (Ao (dOp Ka (dV 5) (dC .non))) (dOr (Ao (dOp Du (dOp Af (dV 5) (dC (.int 1))) (dC (.int 1)))) (Ao (dOp Es (dOp Af (dV 5) (dC (.int 1))) (dC (.int 5)))))) (sRt (dC (.int 4))) sNx) ZEi)
def Qh:DS:=(Aj (sIf (Dc (Ao (dOp Ka (dV 5) (dC .non))) (Ao (dOp Lf (dOp Af (dV 5) (dC (.int 0))) (Ar (dOp Ba (Ar (dSl (dV 4) vJ (vZ (dV 1)))) (Ar (dSl (dV 4) (vZ (dOp Ba (dV 1) (dC (.int 1)))) vJ))))))) (sRt (dC (.int 4))) sNx) Ut)
def Pz:DS:=(Aj (sIf (Dc (Ao (dOp Ka (dV 5) (dC .non))) (Ao (dOp Du (dOp Af (dV 5) (dC (.int 2))) (dC (.int 0))))) (sRt (dC (.int 3))) sNx) Qh)
def ZHQ:DS:=(Aj (sAs (dOp Af (dV 3) (dC (.int 6))) (gV 5)) Pz)
def Wn:DS:=(Aj (sIf (Ao (dOp Ff (dOp Af (dV 3) (dC (.int 0))) (dC (.str "basin")))) (sRt (dC (.int 0))) sNx) ZHQ)
def Oj:DS:=(Aj (sIf (dOr (Ao (dOp Du (dOp Af (dV 3) (dC (.int 4))) (dC (.int 0)))) (Dc (Ao (dOp Bj (dOp Af (dV 3) (dC (.int 0))) (dC (.str "town")))) (Ao (dOp Du (dOp Af (dV 3) (dC (.int 5))) (dC (.int 0)))))) (sRt (dC (.int 3))) sNx) Wn)
def Uy:DS:=(Aj (sIf (dOr (Ao (dOp Lf (dOp Af (dV 3) (dC (.int 2))) (Ar (dOp Ba (Ar (dSl (dV 4) (vZ (dOp Ba (dV 1) (dC (.int 1)))) vJ)) (Ar (dFn Bb (Ad (dC (.str "sea")) Ah))))))) (dOr (Ao (dOp Du (dOp Af (dV 3) (dC (.int 3))) (dC (.int 0)))) (Ao (dOp Es (dOp Af (dV 3) (dC (.int 3))) (dC (.int 5)))))) (sRt (dC (.int 2))) sNx) Oj)
def Tw:DS:=(Aj (sIf (dOr (Eh (Ao (dFn Z8 (Ad (dOp Af (dV 3) (dC (.int 1))) Ah)))) (Ao (dOp Ie (dOp Af (dV 3) (dC (.int 1))) (Ar (dSl (dV 4) vJ (vZ (dV 1))))))) (sRt (dC (.int 1))) sNx) Uy)
def ZHb:DS:=(Aj (sAs (Ar (Ed (Ej (dV 0)) 1 [] (gV 0) Cu Yj)) (gV 4)) Tw)
def Rt:DS:=(Aj (sAs (dOp Af (dV 0) (dV 1)) (gV 3)) ZHb)
def Ug:List D->DH->R D:=Cd 3 3 Rt
def Ly:DS:=(Aj (sAs (dFn Ug (Ad (dV 2) (Ad (dV 3) (Ad (dV 1) Ah)))) (gV 4)) (sIf (Ao (dOp Es (dV 4) (dC (.int 0)))) (sRt (dFn Bl (Ad (dV 4) (Ad (dV 3) Ah)))) sNx))
def Ze:DS:=(Aj (sAs (dV 0) (Dn 2 (Bq (gV 1) (Bq (gV 2) Ds)))) (Aj (sIf (dOr (Ao (dOp Du (dV 1) (dC (.int 1)))) (dOr (Ao (dOp Es (dV 1) (dC (.int 24)))) (Ao (dOp Bj (dFn Dl (Ad (dV 2) Ah)) (dC (.int 0)))))) (sRt (dFn Bl (Ad (dC (.int 0)) (Ad (dC (.int 0)) Ah)))) sNx) (Aj (Gb (Ga rng1 (Ad (dFn Dl (Ad (dV 2) Ah)) Ah)) (gV 3) Ly) (sRt (dC .non)))))
def N5:List D->DH->R D:=Cd 1 4 Ze
def R3:DE:=(dV 0)
def Ql:DB:=(Dc (Ao (dOp Bj (dOp Af (dOp Af (dV 1) (dV 0)) (dC (.int 0))) (dC (.str "basin")))) (Ao (dOp Ka (dOp Af (dOp Af (dV 1) (dV 0)) (dC (.int 6))) (dC .non))))
def ZAy:DS:=(Aj (sAs (Ar (Ed (Ga rng1 (Ad (dFn Dl (Ad (dV 0) Ah)) Ah)) 1 [0] (gV 0) Ql R3)) (gV 2)) (Aj (sIf (dOr (Ao (dOp Bj (dOp Bg (dOp Af (dV 1) (dC (.int 0))) (dC (.int 3))) (dC (.int 0)))) (Ao (dOp Bj (dFn Dl (Ad (dV 2) Ah)) (dC (.int 0))))) (sRt (dC .non)) sNx) (sRt (dOp Af (dV 2) (dOp Bg (dOp Af (dV 1) (dC (.int 1))) (dFn Dl (Ad (dV 2) Ah)))))))
def U4:List D->DH->R D:=Cd 2 1 ZAy
def ZAF:DS:=(Aj (sAs (dOp Ba (dV 4) (dOp Af (dV 1) (dOp Bg (dV 5) (dC (.int 26))))) (gV 4)) (sAs (dOp Dz (dV 5) (dC (.int 26))) (gV 5)))
def Y6:DE:=(dOp Ba (dC (.str "z")) (dV 0))
def ZAN:DE:=(dV 0)
def Z4:DB:=(Dc (Ao (dOp Lf (dV 0) (dV 1))) (Ao (dOp Ff (dV 0) (dC (.str "sea")))))
def W7:DS:=(Aj (sAs (dC (.str "")) (gV 4)) (Aj (sAs (dOp Dz (dV 3) (dC (.int 8))) (gV 5)) (Aj (Gb (Ga rng1 (Ad (dOp Ba (dC (.int 1)) (dOp Bg (dV 3) (dC (.int 8)))) Ah)) (gV 6) ZAF) (Aj (sAs (Ar (dOp Ba (Ar (dFn Bb (Ad (dV 4) Ah))) (Ar (Ed (Ej (dV 1)) 1 [] (gV 0) Cu Y6)))) (gV 7)) (sEx (Nf Lg (dV 2) (Ad (dOp Af (Ar (Ed (Ej (dV 7)) 1 [2] (gV 0) Z4 ZAN)) (dC (.int 0))) Ah)))))))
def ZGN:DS:=(Aj (sAs (dC (.str "abcdefghijklmnopqrstuvwxyz")) (gV 1)) (Aj (sAs (Kr (dFn Bb Ah)) (gV 2)) (Aj (Gb (Ej (dV 0)) (gV 3) W7) (sRt (dV 2)))))
def Xu:List D->DH->R D:=Cd 1 7 ZGN
def Zd:DS:=(Aj (sAs (dOp Bg (dOp Ba (dOp Ba (dOp Eb (dV 3) (dV 3)) (dOp Eb (dC (.int 48271)) (dV 6))) (dC (.int 11))) (dC (.int 2147483647))) (gV 3)) (Aj (sEx (Nf Lg (dV 5) (Ad (dOp Af (Ar (dFn Bb (Ad (dV 3) (Ad (dOp Bg (dV 4) (dOp Jb (dC (.int 10)) (dC (.int 42)))) Ah)))) (dFn V5 (Ad (dOp Es (dV 4) (dC (.int 0))) Ah))) Ah))) (sAs (dOp Dz (dV 4) (dOp Jb (dC (.int 10)) (dC (.int 42)))) (gV 4))))
def ZHy:DS:=(Aj (sAs (dOp Bg (dOp Eb (dOp Ba (dOp Bg (dV 0) (dC (.int 999999937))) (dC (.int 2))) (dOp Ba (dOp Eb (dOp Eb (dC (.int 7919)) (dV 1)) (dV 1)) (dC (.int 48271)))) (dC (.int 2147483647))) (gV 3)) (Aj (sAs (dC (.int 0)) (gV 4)) (Aj (sIf (dOr (Ao (dOp Du (dV 0) (dC (.int 0)))) (Ao (dOp Yg (dV 0) (dOp Jb (dC (.int 10)) (dC (.int 18)))))) (sAs (dFn Oq (Ad (dV 0) (Ad (dOp Fd (dC (.int 0)) (dV 0)) Ah))) (gV 4)) sNx) (Aj (sAs (Kr (dFn Bb Ah)) (gV 5)) (Aj (Gb (Ga rng1 (Ad (dV 2) Ah)) (gV 6) Zd) (sRt (dV 5)))))))
def Kp:List D->DH->R D:=Cd 3 4 ZHy
def Yd:DE:=(dOp Af (dV 1) (dOp Bg (dV 0) (dC (.int 26))))
def Y5:DE:=(Ar (dSl (dV 1) vJ (vZ (dOp Ba (dV 0) (dC (.int 1))))))
def Vu:DE:=(Ar (dSl (dV 1) vJ (vZ (dOp Ba (dV 0) (dC (.int 1))))))
def Zr:DE:=(dOp Af (Ar (dFn Bb (Ad (dV 0) (Ad (dC (.str "sa")) Ah)))) (dFn V5 (Ad (dOp Bj (dV 0) (dC (.str "sea"))) Ah)))
def Sy:DS:=(Aj (sAs (dOp Af (dV 1) (dOp Bg (dOp Ba (dOp Af (dV 2) (dC (.int 10))) (dOp Eb (dC (.int 5)) (dV 7))) (dC (.int 26)))) (gV 11)) (Aj (sAs (Ar (dOp Ba (Ar (dOp Ba (Ar (dSl (dV 3) vJ (vZ (dV 10)))) (dV 11))) (Ar (dSl (dV 3) (vZ (dV 10)) (vZ (dV 9)))))) (gV 8)) (Aj (sIf (Ao (dOp Bj (dV 8) (dC (.str "sea")))) (sAs (dC (.str "seat")) (gV 8)) sNx) (sEx (Nf Lg (dV 6) (Ad (dV 8) Ah))))))
def ZHW:DS:=(sRt (dV 6))
def ZFT:DS:=(Aj (Gb (Ga rng1 (Ad (dC (.int 12)) Ah)) (gV 7) Sy) ZHW)
def ZFp:DS:=(Aj (sAs (Kr (dFn Bb Ah)) (gV 6)) ZFT)
def ZGA:DS:=(Aj (sAs (dOp Bg (dOp Af (dV 2) (dC (.int 9))) (dOp Ba (dV 9) (dC (.int 1)))) (gV 10)) ZFp)
def ZHk:DS:=(Aj (sAs (dOp Bg (dOp Dz (dOp Af (dV 2) (dC (.int 8))) (dC (.int 3))) (dC (.int 8))) (gV 9)) ZGA)
def V0:DS:=(Aj (sIf (Ao (dOp Bj (dOp Bg (dOp Af (dV 2) (dC (.int 8))) (dC (.int 3))) (dC (.int 0)))) (Aj (sAs (dOp Bg (dOp Ba (dOp Ba (ZAO Zg (dV 1) (Ad (dOp Af (dV 3) (dC (.int 0))) Ah)) (dC (.int 1))) (dOp Bg (dOp Af (dV 2) (dC (.int 9))) (dC (.int 25)))) (dC (.int 26))) (gV 4)) (Aj (sAs (Ar (dOp Ba (dOp Af (dV 1) (dV 4)) (Ar (dSl (dV 3) (vZ (dC (.int 1))) vJ)))) (gV 5)) (Aj (sAs (Ed (Ga rng1 (Ad (dC (.int 8)) Ah)) 1 [3] (gV 0) Cu Y5) (gV 6)) (Aj (sAs (Kr (dOp Ba (dV 6) (Ar (Ed (Ga rng1 (Ad (dC (.int 4)) Ah)) 1 [5] (gV 0) Cu Vu)))) (gV 6)) (Aj (sAs (Ed (Ej (dV 6)) 1 [] (gV 0) Cu Zr) (gV 6)) (sRt (dOp Ba (Ar (dSl (dV 6) (vZ (dOp Bg (dOp Af (dV 2) (dC (.int 10))) (dC (.int 12)))) vJ)) (Ar (dSl (dV 6) vJ (vZ (dOp Bg (dOp Af (dV 2) (dC (.int 10))) (dC (.int 12))))))))))))) sNx) ZHk)
def Za:DS:=(Aj (sIf (Ao (dOp Bj (dOp Bg (dOp Dz (dOp Af (dV 2) (dC (.int 10))) (dC (.int 26))) (dC (.int 4))) (dC (.int 0)))) (sAs (Ar (dSl (Ar (dOp Ba (dOp Af (Ar (dFn Bb (Ad (dC (.str "sea")) (Ad (dC (.str "none")) Ah)))) (dOp Bg (dOp Dz (dOp Af (dV 2) (dC (.int 10))) (dC (.int 104))) (dC (.int 2)))) (Ar (dSl (dV 3) (vZ (dC (.int 3))) vJ)))) vJ (vZ (dC (.int 8))))) (gV 3)) sNx) V0)
def Vc:DS:=(Aj (sAs (ZAO Qu (dC (.str "")) (Ad (Ar (Ed (Ej (Ar (dSl (dV 2) vJ (vZ (dC (.int 8)))))) 1 [1] (gV 0) Cu Yd)) Ah)) (gV 3)) Za)
def Uh:DS:=(Aj (sIf (Ao (dOp Es (dOp Af (dV 2) (dC (.int 11))) (dC (.int 2147483647)))) (sRt (dFn Xu (Ad (Ar (dSl (dV 2) (vZ (dC (.int 11))) (vZ (dC (.int 23))))) Ah))) sNx) Vc)
def Rj:DS:=(Aj (sAs (Ar (dFn Kp (Ad (dV 0) (Ad (dC (.int 0)) (Ad (dC (.int 24)) Ah))))) (gV 2)) Uh)
def Tf:DS:=(Aj (sAs (dC (.str "abcdefghijklmnopqrstuvwxyz")) (gV 1)) Rj)
def Mi:List D->DH->R D:=Cd 1 11 Tf
def ZB2:DS:=(Aj (sIf (Ao (dOp Es (dV 0) (dC (.int 2147483647)))) (sRt (dOp Eb (dOp Bg (dOp Dz (dV 0) (dC (.int 2))) (dOp Jb (dC (.int 10)) (dC (.int 38)))) (dOp Bg (dV 0) (dC (.int 2))))) sNx) (sRt (dOp Eb (dOp Bg (dV 0) (dC (.int 50))) (dOp Bg (dOp Dz (dV 0) (dC (.int 50))) (dC (.int 2))))))
def S9:List D->DH->R D:=Cd 1 0 ZB2
def ZJZ:DS:=(Aj (sIf (Ao (dOp Bj (dOp Bg (dV 0) (dC (.int 4))) (dC (.int 0)))) (sRt (dC (.int 0))) sNx) (Aj (sIf (Dc (Ao (dOp Bj (dOp Bg (dV 0) (dC (.int 4))) (dC (.int 1)))) (Ao (dOp Es (dV 0) (dC (.int 2147483647))))) (sRt (dOp Bg (dOp Dz (dV 0) (dC (.int 4))) (dOp Jb (dC (.int 10)) (dC (.int 38))))) sNx) (Aj (sIf (Ao (dOp Bj (dOp Bg (dV 0) (dC (.int 4))) (dC (.int 1)))) (sRt (dOp Bg (dOp Eb (dV 1) (dOp Ba (dOp Dz (dV 0) (dC (.int 4))) (dC (.int 2)))) (dOp Jb (dC (.int 10)) (dC (.int 38))))) sNx) (sRt (dOp Bg (dOp Dz (dV 0) (dC (.int 4))) (dC (.int 40)))))))
def Lq:List D->DH->R D:=Cd 2 0 ZJZ
def ZAB:DE:=(dV 1)
def Yz:DB:=(Ao (dOp Bj (dV 2) (dC (.str "pump"))))
def Wv:DE:=(dFn Lh (Ad (Ar (Ed (Ej (dV 1)) 3 [] (Dn 3 (Bq (gV 0) (Bq (gV 1) (Bq (gV 2) Ds)))) Yz ZAB)) Ah))
def ZGT:DS:=(sRt (dFn Q7 (Ad (Ar (Ed (Ej (dV 0)) 2 [] (Dn 2 (Bq (gV 0) (Bq (gV 1) Ds))) Cu Wv)) Ah)))
def Zw:List D->DH->R D:=Cd 1 0 ZGT
def Xw:DS:=(Aj (sAs (dOp Ba (dV 4) (dFn Lq (Ad (dOp Af (dV 0) (dOp Ba (dC (.int 1)) (dOp Eb (dC (.int 2)) (dV 5)))) (Ad (dV 1) Ah)))) (gV 6)) (Aj (sAs (dOp Ba (dC (.int 1)) (dFn Lq (Ad (dOp Af (dV 0) (dOp Ba (dC (.int 2)) (dOp Eb (dC (.int 2)) (dV 5)))) (Ad (dV 1) Ah)))) (gV 7)) (Aj (sAs (dC (.str "river")) (gV 8)) (Aj (sIf (Dc (Ao (dV 2)) (Ao (dOp Bj (dOp Bg (dOp Dz (dOp Af (dV 0) (dOp Ba (dC (.int 2)) (dOp Eb (dC (.int 2)) (dV 5)))) (dC (.int 160))) (dC (.int 2))) (dC (.int 0))))) (sAs (dC (.str "pump")) (gV 8)) sNx) (Aj (sEx (Nf Lg (dV 3) (Ad (dFn Bl (Ad (dV 6) (Ad (dV 7) (Ad (dV 8) Ah)))) Ah))) (sAs (dOp Ba (dV 6) (dV 7)) (gV 4)))))))
def ZH8:DS:=(Aj (sAs (Kr (dFn Bb Ah)) (gV 3)) (Aj (sAs (dC (.int 0)) (gV 4)) (Aj (Gb (Ga rng1 (Ad (dOp Bg (dOp Af (dV 0) (dC (.int 0))) (dC (.int 4))) Ah)) (gV 5) Xw) (sRt (dFn Lw (Ad (dV 3) Ah))))))
def Xq:List D->DH->R D:=Cd 3 6 ZH8
def Qs:DS:=(sIf (dOr (Ao (dOp Bj (dV 6) (dC (.int 0)))) (Dc (Ao (dOp Es (dOp Bg (dOp Af (dV 0) (dV 6)) (dC (.int 3))) (dC (.int 0)))) (Ao (dOp Du (dV 5) (dV 2))))) (Aj (sEx (Nf Lg (dV 4) (Ad (dFn Bl (Ad (dV 5) (Ad (dFn Xq (Ad (Ar (dSl (dV 0) (vZ (dOp Ba (dC (.int 3)) (dOp Eb (dC (.int 7)) (dV 6)))) (vZ (dOp Ba (dC (.int 10)) (dOp Eb (dC (.int 7)) (dV 6)))))) (Ad (dV 1) (Ad (dV 3) Ah)))) Ah))) Ah))) (sAs (dOp Ba (dOp Ba (dV 5) (dC (.int 1))) (dOp Bg (dOp Dz (dOp Af (dV 0) (dV 6)) (dC (.int 3))) (dC (.int 9)))) (gV 5))) sNx)
def ZIh:DS:=(Aj (sAs (Kr (dFn Bb Ah)) (gV 4)) (Aj (sAs (dC (.int 0)) (gV 5)) (Aj (Gb (Ga rng1 (Ad (dC (.int 3)) Ah)) (gV 6) Qs) (sRt (dFn Lw (Ad (dV 4) Ah))))))
def Vt:List D->DH->R D:=Cd 4 3 ZIh
def ZBp:DS:=(sRt (dOp Ba (dOp Ba (dFn Bl (Ad (dC (.str "basin")) Ah)) (dV 7)) (dFn Bl (Ad (dFn Lq (Ad (dOp Af (dV 5) (dC (.int 3))) (Ad (dV 4) Ah))) (Ad (dV 9) (Ad (dV 10) Ah))))))
def ZA4:DS:=(Aj (sIf (Ao (dV 8)) (Aj (sAs (dOp Bg (dOp Ba (dOp Ba (dV 2) (dC (.int 1))) (dOp Bg (dOp Af (dV 5) (dC (.int 6))) (dOp Fd (dV 1) (dC (.int 1))))) (dV 1)) (gV 11)) (sAs (dFn Bl (Ad (dOp Af (dV 0) (dV 11)) (Ad (dOp Ba (dC (.int 1)) (dOp Bg (dOp Af (dV 5) (dC (.int 7))) (dC (.int 5)))) (Ad (dOp Ba (dFn Zw (Ad (dV 9) Ah)) (dFn S9 (Ad (dOp Af (dV 5) (dC (.int 4))) Ah))) Ah)))) (gV 10))) sNx) ZBp)
def ZCr:DS:=(Aj (sAs (dC .non) (gV 10)) ZA4)
def ZC1:DS:=(Aj (sAs (dFn Vt (Ad (Ar (dSl (dV 5) (vZ (dC (.int 8))) (vZ (dC (.int 32))))) (Ad (dV 4) (Ad (dV 3) (Ad (dV 8) Ah))))) (gV 9)) ZCr)
def ZDp:DS:=(Aj (sAs (Kh (dOp Es (dV 1) (dC (.int 1))) (dOp Es (dOp Bg (dOp Af (dV 5) (dC (.int 5))) (dC (.int 3))) (dC (.int 0)))) (gV 8)) ZC1)
def W4:DS:=(Aj (sIf (Ao (dOp Bj (dOp Bg (dOp Af (dV 5) (dC (.int 2))) (dC (.int 5))) (dC (.int 1)))) (sRt (dOp Ba (dOp Ba (dFn Bl (Ad (dC (.str "town")) Ah)) (dV 7)) (dFn Bl (Ad (dFn Lq (Ad (dOp Af (dV 5) (dC (.int 3))) (Ad (dV 4) Ah))) (Ad (dFn Lq (Ad (dOp Af (dV 5) (dC (.int 4))) (Ad (dV 4) Ah))) Ah))))) sNx) ZDp)
def Qe:DS:=(Aj (sIf (Ao (dOp Bj (dOp Bg (dOp Af (dV 5) (dC (.int 2))) (dC (.int 5))) (dC (.int 0)))) (sRt (dOp Ba (dOp Ba (dFn Bl (Ad (dC (.str "mill")) Ah)) (dV 7)) (dFn Bl (Ad (dFn Lq (Ad (dOp Af (dV 5) (dC (.int 3))) (Ad (dV 4) Ah))) Ah)))) sNx) W4)
def ZDx:DS:=(Aj (sAs (dFn Bl (Ad (dOp Af (dV 0) (dV 2)) (Ad (dV 6) (Ad (dOp Bg (dOp Af (dV 5) (dC (.int 1))) (dC (.int 6))) Ah)))) (gV 7)) Qe)
def ZA5:DS:=(Aj (sIf (Ao (dOp Es (dOp Bg (dOp Af (dV 5) (dC (.int 0))) (dOp Fd (dV 1) (dV 2))) (dC (.int 0)))) (sAs (dOp Af (dV 0) (dOp Ba (dV 2) (dOp Bg (dOp Af (dV 5) (dC (.int 0))) (dOp Fd (dV 1) (dV 2))))) (gV 6)) sNx) ZDx)
def ZBu:DS:=(Aj (sAs (dC (.str "sea")) (gV 6)) ZA5)
def ZCR:DS:=(Aj (sAs (Ar (dFn Kp (Ad (dV 4) (Ad (dV 2) (Ad (dC (.int 33)) Ah))))) (gV 5)) ZBu)
def Nb:List D->DH->R D:=Cd 5 7 ZCR
def Wq:DE:=(dFn Nb (Ad (dV 5) (Ad (dV 3) (Ad (dV 0) (Ad (dV 4) (Ad (dFn Jl (Ad (dV 1) (Ad (dOp Ba (dOp Ba (dV 2) (dC (.int 3))) (dV 0)) Ah))) Ah))))))
def ZH5:DS:=(Aj (sAs (dOp Ba (dC (.int 1)) (dOp Bg (dFn Jl (Ad (dV 0) (Ad (dV 1) Ah))) (dC (.int 12)))) (gV 2)) (Aj (sAs (dOp Ba (dC (.int 1)) (dOp Bg (dFn Jl (Ad (dV 0) (Ad (dOp Ba (dV 1) (dC (.int 1))) Ah))) (dC (.int 24)))) (gV 3)) (Aj (sAs (Ar (dFn Mi (Ad (dFn Jl (Ad (dV 0) (Ad (dOp Ba (dV 1) (dC (.int 2))) Ah))) Ah))) (gV 4)) (Aj (sAs (Ar (Ed (Ga rng1 (Ad (dV 2) Ah)) 1 [0,1,2,3,4] (gV 0) Cu Wq)) (gV 5)) (sRt (dFn Bl (Ad (dV 3) (Ad (dFn Lw (Ad (dV 5) Ah)) Ah))))))))
def Ph:List D->DH->R D:=Cd 2 4 ZH5
def ZFn:DS:=(sRt (dOp Ce (Ar (dOp Ce (Ar (dSl (dV 0) vJ (vZ (dV 1)))) (dFn Bl (Ad (dV 2) Ah)))) (Ar (dSl (dV 0) (vZ (dOp Ce (dV 1) (dC (.int 1)))) vJ))))
def Ci:List D->DH->R D:=Cd 3 0 ZFn
def ZIZ:DS:=(sRt (Kh (dFn K8 (Ad (dV 0) (Ad (dC (.ty "int")) Ah))) (ZCs (dFn K8 (Ad (dV 0) (Ad (dC (.ty "bool")) Ah))))))
def Y0:List D->DH->R D:=Cd 1 0 ZIZ
def Zn:DE:=(dOp Ie (dV 0) (dC (.str "abcdefghijklmnopqrstuvwxyz")))
def ZGk:DS:=(Aj (sIf (dOr (Ao (dOp Bj (dV 0) (dC (.str "sea")))) (Eh (Ao (Jp G6 G6 (dC (.int 1)) (dFn Dl (Ad (dV 0) Ah)) (dC (.int 8)))))) (sRt (dC (.bl vV))) sNx) (sRt (dFn Pn (Ad (Ar (Ed (Ej (dV 0)) 1 [] (gV 0) Cu Zn)) Ah))))
def Uc:List D->DH->R D:=Cd 1 0 ZGk
def ZIL:DS:=(Aj (sIf (Ao (dOp Kw (dV 0) (dC .non))) (sRt (dC (.bl vX))) sNx) (sRt (Kh (dOp Ie (dOp Af (dV 0) (dC (.int 0))) (dV 1)) (Jp G6 G6 (dC (.int 1)) (dOp Af (dV 0) (dC (.int 1))) (dC (.int 5))))))
def Ol:List D->DH->R D:=Cd 2 0 ZIL
def ZGW:DS:=(sRt (Kh (Rp (dOp Bj (dOp Af (dV 0) (dC (.int 2))) (dC (.str "sea"))) (dOp Ie (dOp Af (dV 0) (dC (.int 2))) (dV 1))) (Jp G6 G6 (dC (.int 0)) (dOp Af (dV 0) (dC (.int 3))) (dC (.int 5)))))
def U6:List D->DH->R D:=Cd 2 0 ZGW
def X7:DS:=(Aj (sIf (Eh (Ao (Jp Du Du (dV 2) (dV 3) (dV 1)))) (sRt (dC (.bl vV))) sNx) (sAs (dV 3) (gV 2)))
def ZHM:DS:=(Aj (sIf (dOr (Ao (dOp Bj (dFn Dl (Ad (dV 0) Ah)) (dC (.int 0)))) (Ao (dOp Ff (dOp Af (dOp Af (dV 0) (dC (.int 0))) (dC (.int 0))) (dC (.int 0))))) (sRt (dC (.bl vV))) sNx) (Aj (sAs (dUn Ho (dC (.int 1))) (gV 2)) (Aj (Gb (Ej (dV 0)) (Dn 2 (Bq (gV 3) (Bq (gV 4) Ds))) X7) (sRt (dC (.bl vX))))))
def Yo:List D->DH->R D:=Cd 2 3 ZHM
def Ys:DS:=(Aj (sIf (dOr (Ao (dOp Du (dV 2) (dV 1))) (Ao (dOp Du (dV 3) (dC (.int 1))))) (sRt (dC (.bl vV))) sNx) (sAs (dOp Ba (dV 2) (dV 3)) (gV 1)))
def ZJJ:DS:=(Aj (sAs (dC (.int 0)) (gV 1)) (Aj (Gb (Ej (dV 0)) (Dn 3 (Bq (gV 2) (Bq (gV 3) (Bq (gV 4) Ds)))) Ys) (sRt (dC (.bl vX)))))
def Vj:List D->DH->R D:=Cd 1 4 ZJJ
def ZEu:DE:=(dV 1)
def ZCg:DB:=(Ao (dOp Bj (dV 2) (dC (.str "pump"))))
def ZHc:DS:=(Aj (sAs (Ar (Ed (Ej (dV 0)) 3 [] (Dn 3 (Bq (gV 0) (Bq (gV 1) (Bq (gV 2) Ds)))) ZCg ZEu)) (gV 2)) (Aj (sIf (Ao (dOp Kw (dV 1) (dC .non))) (sRt (dOp Bj (dFn Dl (Ad (dV 2) Ah)) (dC (.int 0)))) sNx) (sRt (dOp G6 (dFn Lh (Ad (dV 2) Ah)) (dOp Af (dV 1) (dC (.int 2)))))))
def Wc:List D->DH->R D:=Cd 2 1 ZHc
def Xy:DS:=(sIf (dOr (Eh (Ao (dFn Vj (Ad (dV 4) Ah)))) (Eh (Ao (dFn Wc (Ad (dV 4) (Ad (dV 1) Ah)))))) (sRt (dC (.bl vV))) sNx)
def ZJb:DS:=(Aj (sIf (Eh (Ao (dFn Yo (Ad (dV 0) (Ad (dV 2) Ah))))) (sRt (dC (.bl vV))) sNx) (Aj (Gb (Ej (dV 0)) (Dn 2 (Bq (gV 3) (Bq (gV 4) Ds))) Xy) (sRt (dC (.bl vX)))))
def Og:List D->DH->R D:=Cd 3 2 ZJb
def ZIn:DS:=(Aj (sIf (Ao (dOp Bj (dOp Af (dV 0) (dC (.int 0))) (dC (.str "town")))) (sRt (dFn Bb (Ad (dOp Af (dV 0) (dC (.int 4))) (Ad (dOp Af (dV 0) (dC (.int 5))) Ah)))) sNx) (Aj (sIf (Ao (dOp Bj (dOp Af (dV 0) (dC (.int 0))) (dC (.str "mill")))) (sRt (dFn Bb (Ad (dOp Af (dV 0) (dC (.int 4))) Ah))) sNx) (Aj (sIf (Ao (dOp Kw (dOp Af (dV 0) (dC (.int 6))) (dC .non))) (sRt (dFn Bb (Ad (dOp Af (dV 0) (dC (.int 4))) Ah))) sNx) (sRt (dFn Bb (Ad (dOp Af (dV 0) (dC (.int 4))) (Ad (dOp Af (dOp Af (dV 0) (dC (.int 6))) (dC (.int 2))) Ah)))))))
def V1:List D->DH->R D:=Cd 1 0 ZIn
def Us:DE:=(dOp Af (dV 0) (dC (.int 1)))
def U5:DE:=(dOp Af (dV 0) (dC (.int 1)))
def ZJG:DS:=(Aj (sNr (sAs (dOp Af (dV 0) (dC (.int 1))) (gV 2))) (Aj (sNr (sAs (dOp Af (dV 2) (dV 1)) (gV 3))) (Aj (sNr (sAs (Ar (Ed (Ej (Ar (dSl (dV 2) vJ (vZ (dV 1))))) 1 [] (gV 0) Cu Us)) (gV 4))) (Aj (sNr (sAs (Ar (Ed (Ej (Ar (dSl (dV 2) (vZ (dOp Ba (dV 1) (dC (.int 1)))) vJ))) 1 [] (gV 0) Cu U5)) (gV 5))) (Aj (sIf (dOr (Eh (Ao (dFn (nerr Uc) (Ad (dOp Af (dV 3) (dC (.int 1))) Ah)))) (Ao (dOp Ie (dOp Af (dV 3) (dC (.int 1))) (dV 4)))) (sRz "NoName" "place" (Ad (dV 1) Ah)) sNx) (Aj (sIf (Eh (Ao (dFn (nerr U6) (Ad (dV 3) (Ad (dV 5) Ah))))) (sRz "NoRiver" "place" (Ad (dV 1) Ah)) sNx) (Aj (sIf (Ao (dOp Du (dFn Ny (Ad (Ar (dFn (nerr V1) (Ad (dV 3) Ah))) Ah)) (dC (.int 0)))) (sRz "NoNumber" "place" (Ad (dV 1) Ah)) sNx) (sIf (Ao (dOp Bj (dOp Af (dV 3) (dC (.int 0))) (dC (.str "basin")))) (Aj (sIf (Eh (Ao (dFn (nerr Ol) (Ad (dOp Af (dV 3) (dC (.int 6))) (Ad (dOp Ba (dV 4) (dV 5)) Ah))))) (sRz "NoPump" "place" (Ad (dV 1) Ah)) sNx) (sIf (Eh (Ao (dFn (nerr Og) (Ad (dOp Af (dV 3) (dC (.int 5))) (Ad (dOp Af (dV 3) (dC (.int 6))) (Ad (dOp Af (dV 0) (dC (.int 0))) Ah)))))) (sRz "NoRule" "place" (Ad (dV 1) Ah)) sNx)) sNx))))))))
def Pa:List D->DH->R D:=Cd 2 4 ZJG
def Jx:DS:=(sEx (dFn Pa (Ad (dV 0) (Ad (dV 2) Ah))))
def Vw:DS:=(Aj (sNr (sAs (dOp Af (dV 0) (dC (.int 1))) (gV 1))) (Aj (sIf (dOr (Eh (Ao (Jp G6 G6 (dC (.int 1)) (dOp Af (dV 0) (dC (.int 0))) (dC (.int 24))))) (Eh (Ao (Jp G6 G6 (dC (.int 1)) (dFn Dl (Ad (dV 1) Ah)) (dC (.int 12)))))) (Oc "NoHouse" (Ad (dC (.str "a house has a year of 1 to 24 turns, and 1 to 12 places")) Ah)) sNx) (Aj (Gb (Ga rng1 (Ad (dFn Dl (Ad (dV 1) Ah)) Ah)) (gV 2) Jx) (sNr (sRt (dV 0))))))
def Kl:List D->DH->R D:=Cd 1 2 Vw
def ZHZ:DS:=(sAs (dV 4) (gV 3))
def Uw:DE:=(dOp Bj (dV 0) (dV 1))
def ZET:DS:=(sRt (Rp (dOp Bj (dV 1) (dC (.int 0))) (Kh (dFn Y0 (Ad (dUn (gtx ["NoName","NoNumber","NoPump","NoRiver","NoRule"] "place") (dV 3)) Ah)) (dOp Bj (dUn (gtx ["NoName","NoNumber","NoPump","NoRiver","NoRule"] "place") (dV 3)) (dV 2)))))
def W8:DS:=(Aj (sIf (Ao (dOp Ff (dV 5) (Ar (Ed (Ga rng1 (Ad (dC (.int 13)) Ah)) 1 [1] (gV 0) Cu Uw)))) (sRt (dC (.bl vV))) sNx) ZET)
def Yn:DS:=(Aj (sAs (Ar (dOp Ba (dV 5) (Ar (dFn Bb (Ad (dUn (isx [("NoHouse",vV),("NoName",vV),("NoNumber",vV),("NoPump",vV),("NoRiver",vV),("NoRule",vV)]) (dV 3)) Ah))))) (gV 5)) W8)
def ZAM:DS:=(Aj (sAs (Ar (dOp Ba (dV 5) (Ar (dFn Bb (Ad (dUn (isx [("NoHouse",vV),("NoName",vV),("NoNumber",vV),("NoPump",vV),("NoRiver",vV),("NoRule",vV)]) (dV 3)) (Ad (dUn (isx [("NoHouse",vV),("NoName",vV),("NoNumber",vV),("NoPump",vV),("NoRiver",vV),("NoRule",vV)]) (dV 3)) (Ad (dUn (isx [("NoHouse",vV),("NoName",vV),("NoNumber",vV),("NoPump",vV),("NoRiver",vV),("NoRule",vV)]) (dV 3)) Ah))))))) (gV 5)) Yn)
def Z7:DS:=(Aj (sAs (Ar (dOp Ba (dV 5) (Ar (dFn Bb (Ad (dUn (isx [("NoHouse",vV),("NoName",vV),("NoNumber",vV),("NoPump",vV),("NoRiver",vV),("NoRule",vV)]) (dV 3)) (Ad (dUn (isx [("NoHouse",vV),("NoName",vV),("NoNumber",vV),("NoPump",vV),("NoRiver",vV),("NoRule",vV)]) (dV 3)) (Ad (dUn (isx [("NoHouse",vV),("NoName",vV),("NoNumber",vV),("NoPump",vV),("NoRiver",vV),("NoRule",vV)]) (dV 3)) Ah))))))) (gV 5)) ZAM)
def Xd:DS:=(Aj (sAs (Ar (dOp Ba (dV 5) (Ar (dFn Bb (Ad (dUn (isx [("NoHouse",vV),("NoName",vV),("NoNumber",vX),("NoPump",vV),("NoRiver",vV),("NoRule",vV)]) (dV 3)) (Ad (dUn (isx [("NoHouse",vV),("NoName",vV),("NoNumber",vV),("NoPump",vX),("NoRiver",vV),("NoRule",vV)]) (dV 3)) (Ad (dUn (isx [("NoHouse",vV),("NoName",vV),("NoNumber",vV),("NoPump",vV),("NoRiver",vV),("NoRule",vX)]) (dV 3)) Ah))))))) (gV 5)) Z7)
def Wa:DS:=(Aj (sAs (Ar (dFn Bb (Ad (dUn (isx [("NoHouse",vX),("NoName",vV),("NoNumber",vV),("NoPump",vV),("NoRiver",vV),("NoRule",vV)]) (dV 3)) (Ad (dUn (isx [("NoHouse",vV),("NoName",vX),("NoNumber",vV),("NoPump",vV),("NoRiver",vV),("NoRule",vV)]) (dV 3)) (Ad (dUn (isx [("NoHouse",vV),("NoName",vV),("NoNumber",vV),("NoPump",vV),("NoRiver",vX),("NoRule",vV)]) (dV 3)) Ah))))) (gV 5)) Xd)
def ZFi:DS:=(Aj (sIf (Eh (Ao (dUn (isx [("NoHouse",vX),("NoName",vX),("NoNumber",vX),("NoPump",vX),("NoRiver",vX),("NoRule",vX)]) (dV 3)))) (sRt (dC (.bl vV))) sNx) Wa)
def ZIN:DS:=(Aj (Tn (sEx (dTc Kl (Ad (dV 0) Ah))) (Sq ["NoHouse","NoName","NoNumber","NoPump","NoRiver","NoRule"] [] 4 ZHZ ZHG)) ZFi)
def ZDz:DS:=(Aj (sAs (dC .non) (gV 3)) ZIN)
def Rx:List D->DH->R D:=Cd 3 3 ZDz
def ZEZ:DS:=(Aj (sAs (dOp Af (dOp Af (dV 0) (dV 1)) (dC (.int 1))) (gV 3)) (Aj (sIf (Dc (Ao (dOp Bj (dOp Bg (dV 2) (dC (.int 8))) (dC (.int 7)))) (Ao (dOp Es (dV 1) (dC (.int 0))))) (sRt (dOp Af (dOp Af (dV 0) (dOp Bg (dOp Dz (dV 2) (dC (.int 8))) (dV 1))) (dC (.int 1)))) sNx) (Aj (sAs (Ar (dFn Bb (Ad (dC (.str "")) (Ad (dC (.str "sea")) (Ad (dOp Ba (dV 3) (dC (.str "abcdefgh"))) (Ad (Ar (dOp Ba (Ar (dSl (dV 3) vJ (vZ (dC (.int 6))))) (dC (.str "A")))) (Ad (Ar (dOp Ba (Ar (dSl (dV 3) vJ (vZ (dC (.int 7))))) (dC (.str "3")))) (Ad (Ar (dOp Ba (dC (.str " ")) (Ar (dSl (dV 3) vJ (vZ (dC (.int 5))))))) Ah)))))))) (gV 4)) (Aj (sAs (Ar (dOp Ba (dV 4) (Ar (dFn Bb (Ad (Ar (dOp Ba (Ar (dOp Ba (Ar (dSl (dV 3) vJ (vZ (dC (.int 3))))) (dC (.str "-")))) (Ar (dSl (dV 3) (vZ (dC (.int 3))) (vZ (dC (.int 6))))))) (Ad (dC (.str "Sea")) Ah)))))) (gV 4)) (sRt (dOp Af (dV 4) (dOp Bg (dV 2) (dC (.int 8)))))))))
def Q5:List D->DH->R D:=Cd 3 2 ZEZ
def Yh:DS:=(sRt (dV 2))
def Nj:DS:=(Aj (sIf (Dc (Ao (dOp Bj (dV 2) (dC (.int 4)))) (dOr (Ao (dOp Ff (dOp Af (dV 0) (dC (.int 0))) (dC (.str "basin")))) (Ao (dOp Kw (dOp Af (dV 0) (dC (.int 6))) (dC .non))))) (sRt (dC (.int 3))) sNx) Yh)
def O8:DS:=(Aj (sIf (Dc (Ao (dOp Bj (dV 2) (dC (.int 5)))) (Ao (dOp Ff (dOp Af (dV 0) (dC (.int 0))) (dC (.str "basin"))))) (sRt (dC (.int 2))) sNx) Nj)
def Yc:DS:=(Aj (sAs (dOp Af (Ar (dFn Bb (Ad (dC (.int 1)) (Ad (dC (.int 2)) (Ad (dC (.int 3)) (Ad (dC (.int 4)) (Ad (dC (.int 5)) (Ad (dC (.int 5)) (Ad (dC (.int 5)) Ah))))))))) (dOp Bg (dV 1) (dC (.int 7)))) (gV 2)) O8)
def Rq:List D->DH->R D:=Cd 2 1 Yc
def ZER:DE:=(dV 1)
def ZDP:DB:=(Ao (dOp Bj (dV 2) (dC (.str "pump"))))
def Vv:DS:=(sRt (dOp Ce (Ar (dOp Ce (Ar (dSl (dV 0) vJ (vZ (dV 5)))) (dFn Bl (Ad (dFn Bl (Ad (dV 6) (Ad (dV 11) Ah))) Ah)))) (Ar (dSl (dV 0) (vZ (dOp Ce (dV 5) (dC (.int 1)))) vJ))))
def V3:DS:=(Aj (sIf (Ao (dOp Bj (dV 3) (dC (.int 7)))) (Aj (sAs (dC (.int 0)) (gV 13)) (Aj (sIf (Ao (dOp Ka (dV 1) (dC .non))) (Aj (sAs (dFn Lh (Ad (Ar (Ed (Ej (dV 7)) 3 [] (Dn 3 (Bq (gV 0) (Bq (gV 1) (Bq (gV 2) Ds)))) ZDP ZER)) Ah)) (gV 14)) (sAs (dOp Fd (dFn Oq (Ad (dC (.int 0)) (Ad (dOp Af (dV 1) (dC (.int 2))) Ah))) (dV 14)) (gV 13))) sNx) (sAs (dOp Ce (dV 7) (dFn Bl (Ad (dFn Bl (Ad (dV 8) (Ad (dFn Oq (Ad (dC (.int 1)) (Ad (dOp Ce (dV 13) (dC (.int 1))) Ah))) (Ad (dC (.str "pump")) Ah)))) Ah))) (gV 11)))) sNx) Vv)
def Ur:DS:=(Aj (sIf (Ao (dOp Bj (dV 3) (dC (.int 4)))) (sAs (dOp Ce (dFn Bl (Ad (dFn Bl (Ad (dUn Ho (dC (.int 1))) (Ad (dC (.int 1)) (Ad (dC (.str "river")) Ah)))) Ah)) (dV 7)) (gV 11)) sNx) V3)
def Pg:DS:=(Aj (sIf (Dc (Ao (dOp Bj (dV 3) (dC (.int 6)))) (Dc (Ao (dOp Du (dOp Ce (dV 10) (dC (.int 1))) (dFn Dl (Ad (dV 7) Ah)))) (Ao (dOp Bj (dOp Bg (dOp Dz (dV 4) (dC (.int 30))) (dC (.int 2))) (dC (.int 0)))))) (sAs (Ar (dOp Ce (Ar (dOp Ce (Ar (dSl (dV 7) vJ (vZ (dV 10)))) (dFn Bl (Ad (dOp Af (dV 7) (dOp Ce (dV 10) (dC (.int 1)))) (Ad (dOp Af (dV 7) (dV 10)) Ah))))) (Ar (dSl (dV 7) (vZ (dOp Ce (dV 10) (dC (.int 2)))) vJ)))) (gV 11)) sNx) Ur)
def Qw:DS:=(Aj (sIf (Dc (Ao (dOp Bj (dV 3) (dC (.int 5)))) (Ao (dOp Es (dFn Dl (Ad (dV 7) Ah)) (dV 10)))) (Aj (sAs (dFn Bl (Ad (dOp Af (dOp Af (dV 7) (dV 10)) (dC (.int 0))) (Ad (dOp Fd (dC (.int 0)) (dOp Bg (dOp Dz (dV 4) (dC (.int 30))) (dC (.int 2)))) (Ad (dOp Af (dOp Af (dV 7) (dV 10)) (dC (.int 2))) Ah)))) (gV 12)) (sAs (Ar (dOp Ce (Ar (dOp Ce (Ar (dSl (dV 7) vJ (vZ (dV 10)))) (dFn Bl (Ad (dV 12) Ah)))) (Ar (dSl (dV 7) (vZ (dOp Ce (dV 10) (dC (.int 1)))) vJ)))) (gV 11))) sNx) Pg)
def Rb:DS:=(Aj (sIf (Ao (dOp Bj (dV 3) (dC (.int 5)))) (sAs (Ar (dOp Ce (Ar (dOp Ce (Ar (dSl (dV 7) vJ (vZ (dV 10)))) (dFn Bl (Ad (dFn Bl (Ad (dV 8) (Ad (dOp Fd (dC (.int 0)) (dOp Bg (dOp Dz (dV 4) (dC (.int 30))) (dC (.int 2)))) (Ad (dC (.str "river")) Ah)))) Ah)))) (Ar (dSl (dV 7) (vZ (dV 10)) vJ)))) (gV 11)) sNx) Qw)
def ZGq:DS:=(Aj (sAs (dOp Ce (dV 7) (dFn Bl (Ad (dFn Bl (Ad (dOp Fd (dV 8) (dC (.int 1))) (Ad (dC (.int 1)) (Ad (dC (.str "river")) Ah)))) Ah))) (gV 11)) Rb)
def ZBX:DS:=(Aj (sAs (dOp Bg (dOp Dz (dV 4) (dC (.int 60))) (dFn Oq (Ad (dC (.int 1)) (Ad (dFn Dl (Ad (dV 7) Ah)) Ah)))) (gV 10)) ZGq)
def Ti:DS:=(Aj (sIf (Ao (dOp Bj (dV 3) (dC (.int 3)))) (sRt (dOp Ce (dV 0) (dFn Bl (Ad (dFn Bl (Ad (dV 2) (Ad (dFn Bl Ah) Ah))) Ah)))) sNx) ZBX)
def T7:DS:=(Aj (sIf (Ao (dOp Bj (dV 3) (dC (.int 2)))) (sRt (dOp Ce (Ar (dOp Ce (Ar (dSl (dV 0) vJ (vZ (dOp Ce (dV 5) (dC (.int 1)))))) (dFn Bl (Ad (dFn Bl (Ad (dV 6) (Ad (dV 7) Ah))) Ah)))) (Ar (dSl (dV 0) (vZ (dOp Ce (dV 5) (dC (.int 1)))) vJ)))) sNx) Ti)
def R5:DS:=(Aj (sIf (Dc (Ao (dOp Bj (dV 3) (dC (.int 2)))) (Dc (Ao (dOp Es (dV 9) (dC (.int 1)))) (Ao (dOp Bj (dOp Bg (dOp Dz (dV 4) (dC (.int 30))) (dC (.int 2))) (dC (.int 1)))))) (sRt (dOp Ce (dV 0) (dFn Bl (Ad (dFn Bl (Ad (dOp Ce (dC (.int 1)) (dOp Bg (dOp Dz (dV 4) (dC (.int 60))) (dOp Fd (dV 9) (dC (.int 1))))) (Ad (dV 7) Ah))) Ah)))) sNx) T7)
def ZIz:DS:=(Aj (sAs (dOp Af (dOp Af (dV 0) (dUn Ho (dC (.int 1)))) (dC (.int 0))) (gV 9)) R5)
def ZDB:DS:=(Aj (sIf (Ao (dOp Bj (dV 3) (dC (.int 1)))) (sRt (dOp Ce (dFn Bl (Ad (dFn Bl (Ad (dOp Fd (dC (.int 1)) (dOp Eb (dC (.int 2)) (dOp Bg (dOp Dz (dV 4) (dC (.int 30))) (dC (.int 2))))) (Ad (dOp Af (dOp Af (dV 0) (dC (.int 0))) (dC (.int 1))) Ah))) Ah)) (Ar (dSl (dV 0) (vZ (dC (.int 1))) vJ)))) sNx) ZIz)
def K4:DS:=(Aj (sIf (Ao (dOp Bj (dV 3) (dC (.int 0)))) (sRt (dFn Bl Ah)) sNx) ZDB)
def Wu:DS:=(Aj (sIf (Ao (dOp Es (dFn Dl (Ad (dV 7) Ah)) (dC (.int 0)))) (sAs (dOp Ce (dOp Af (dOp Af (dV 7) (dUn Ho (dC (.int 1)))) (dC (.int 0))) (dOp Af (dOp Af (dV 7) (dUn Ho (dC (.int 1)))) (dC (.int 1)))) (gV 8)) sNx) K4)
def ZFQ:DS:=(Aj (sAs (dC (.int 0)) (gV 8)) Wu)
def ZGn:DS:=(Aj (sAs (dOp Af (dV 0) (dV 5)) (Dn 2 (Bq (gV 6) (Bq (gV 7) Ds)))) ZFQ)
def ZJD:DS:=(Aj (sAs (dOp Bg (dV 4) (dFn Dl (Ad (dV 0) Ah))) (gV 5)) ZGn)
def Rr:DS:=(Aj (sIf (Ao (dOp Bj (dFn Dl (Ad (dV 0) Ah)) (dC (.int 0)))) (sRt (dV 0)) sNx) ZJD)
def Nv:List D->DH->R D:=Cd 5 10 Rr
def Zm:DS:=(sRt (dFn Ci (Ad (dV 0) (Ad (dC (.int 4)) (Ad (dV 5) Ah)))))
def S8:DS:=(Aj (sIf (Dc (Ao (dOp Bj (dOp Af (dV 0) (dC (.int 0))) (dC (.str "town")))) (Ao (dOp Bj (dOp Bg (dV 2) (dC (.int 2))) (dC (.int 1))))) (sRt (dFn Ci (Ad (dV 0) (Ad (dC (.int 5)) (Ad (dV 5) Ah))))) sNx) Zm)
def Oh:DS:=(Aj (sIf (Dc (Ao (dOp Bj (dOp Af (dV 0) (dC (.int 0))) (dC (.str "basin")))) (Dc (Ao (dOp Ka (dOp Af (dV 0) (dC (.int 6))) (dC .non))) (Ao (dOp Bj (dOp Bg (dV 2) (dC (.int 2))) (dC (.int 1)))))) (sRt (dFn Ci (Ad (dV 0) (Ad (dC (.int 6)) (Ad (Ar (dFn Ci (Ad (dOp Af (dV 0) (dC (.int 6))) (Ad (dC (.int 2)) (Ad (dV 5) Ah))))) Ah))))) sNx) S8)
def Wh:DS:=(Aj (sIf (Ao (dOp Bj (dV 1) (dC (.int 5)))) (Aj (sAs (dOp Af (Ar (dFn Bb (Ad (dC (.int 0)) (Ad (dC (.int 1)) (Ad (dC (.int 2)) (Ad (dC (.int 3)) (Ad (dC (.int 4)) (Ad (dC (.int 5)) (Ad (dC (.int 6)) (Ad (dC (.int 7)) (Ad (dC (.int 6)) (Ad (dC (.int 2)) (Ad (dC (.int 7)) (Ad (dC (.int 6)) Ah)))))))))))))) (dOp Bg (dV 2) (dC (.int 12)))) (gV 6)) (sRt (dFn Ci (Ad (dV 0) (Ad (dC (.int 5)) (Ad (Ar (dFn Nv (Ad (dOp Af (dV 0) (dC (.int 5))) (Ad (dOp Af (dV 0) (dC (.int 6))) (Ad (dV 3) (Ad (dV 6) (Ad (dOp Dz (dV 2) (dC (.int 12))) Ah))))))) Ah)))))) sNx) Oh)
def ZDC:DS:=(Aj (sIf (Ao (dOp Bj (dV 1) (dC (.int 4)))) (sRt (dFn Ci (Ad (dV 0) (Ad (dC (.int 6)) (Ad (Ar (dFn Ci (Ad (dOp Af (dV 0) (dC (.int 6))) (Ad (dC (.int 1)) (Ad (dOp Af (Ar (dFn Bb (Ad (dC (.int 0)) (Ad (dC (.int 6)) (Ad (dUn Ho (dC (.int 1))) (Ad (dOp Jb (dC (.int 10)) (dC (.int 30))) Ah)))))) (dOp Fd (dOp Bg (dV 2) (dC (.int 8))) (dC (.int 4)))) Ah))))) Ah))))) sNx) Wh)
def Rg:DS:=(Aj (sIf (Dc (Ao (dOp Bj (dV 1) (dC (.int 4)))) (Ao (dOp Du (dOp Bg (dV 2) (dC (.int 8))) (dC (.int 4))))) (sRt (dFn Ci (Ad (dV 0) (Ad (dC (.int 6)) (Ad (Ar (dFn Ci (Ad (dOp Af (dV 0) (dC (.int 6))) (Ad (dC (.int 0)) (Ad (dOp Af (dV 4) (dOp Bg (dV 2) (dC (.int 8)))) Ah))))) Ah))))) sNx) ZDC)
def ZCp:DS:=(Aj (sIf (Ao (dOp Bj (dV 1) (dC (.int 2)))) (sRt (dFn Ci (Ad (dV 0) (Ad (dC (.int 3)) (Ad (dOp Af (Ar (dFn Bb (Ad (dUn Ho (dC (.int 1))) (Ad (dC (.int 6)) (Ad (dOp Jb (dC (.int 10)) (dC (.int 30))) Ah))))) (dOp Fd (dOp Bg (dV 2) (dC (.int 8))) (dC (.int 5)))) Ah))))) sNx) Rg)
def Ml:DS:=(Aj (sIf (Dc (Ao (dOp Bj (dV 1) (dC (.int 2)))) (Ao (dOp Du (dOp Bg (dV 2) (dC (.int 8))) (dC (.int 5))))) (sRt (dFn Ci (Ad (dV 0) (Ad (dC (.int 2)) (Ad (dOp Af (dV 4) (dOp Bg (dV 2) (dC (.int 8)))) Ah))))) sNx) ZCp)
def Zb:DS:=(Aj (sAs (dOp Af (Ar (dFn Bb (Ad (dUn Ho (dC (.int 1))) (Ad (dOp Fd (dC (.int 0)) (dOp Jb (dC (.int 10)) (dC (.int 30)))) (Ad (dUn Ho (dC (.int 7))) Ah))))) (dOp Bg (dOp Dz (dV 2) (dC (.int 8))) (dC (.int 3)))) (gV 5)) Ml)
def Qc:List D->DH->R D:=Cd 5 2 Zb
def ZCK:DS:=(sEx (Nf Lg (dV 4) (Ad (dV 6) Ah)))
def Wj:DS:=(Aj (sIf (Ao (dOp Bj (dV 5) (dV 1))) (sAs (Ar (dFn Ci (Ad (dV 6) (Ad (dC (.int 1)) (Ad (dV 2) Ah))))) (gV 6)) sNx) ZCK)
def ZAh:DS:=(Aj (sIf (Dc (Ao (dOp Bj (dOp Af (dV 6) (dC (.int 0))) (dC (.str "basin")))) (Dc (Ao (dOp Ka (dOp Af (dV 6) (dC (.int 6))) (dC .non))) (Ao (dOp Bj (dOp Af (dOp Af (dV 6) (dC (.int 6))) (dC (.int 0))) (dV 3))))) (sAs (Ar (dFn Ci (Ad (dV 6) (Ad (dC (.int 6)) (Ad (Ar (dOp Ba (dFn Bl (Ad (dV 2) Ah)) (Ar (dSl (dOp Af (dV 6) (dC (.int 6))) (vZ (dC (.int 1))) vJ)))) Ah))))) (gV 6)) sNx) Wj)
def ZJS:DS:=(Aj (sIf (Ao (dOp Bj (dOp Af (dV 6) (dC (.int 2))) (dV 3))) (sAs (Ar (dFn Ci (Ad (dV 6) (Ad (dC (.int 2)) (Ad (dV 2) Ah))))) (gV 6)) sNx) ZAh)
def Tu:DS:=(Aj (sAs (dOp Af (dV 0) (dV 5)) (gV 6)) ZJS)
def ZGe:DS:=(Aj (sAs (dOp Af (dOp Af (dV 0) (dV 1)) (dC (.int 1))) (gV 3)) (Aj (sAs (Kr (dFn Bb Ah)) (gV 4)) (Aj (Gb (Ga rng1 (Ad (dFn Dl (Ad (dV 0) Ah)) Ah)) (gV 5) Tu) (sRt (dFn Lw (Ad (dV 4) Ah))))))
def V7:List D->DH->R D:=Cd 3 4 ZGe
def Zc:DS:=(sRt (dFn Bl (Ad (dV 4) (Ad (Ar (dFn Ci (Ad (dV 5) (Ad (dV 1) (Ad (Ar (dFn Qc (Ad (dOp Af (dV 5) (dV 1)) (Ad (dV 2) (Ad (dV 3) (Ad (dV 4) (Ad (dV 7) Ah))))))) Ah))))) Ah))))
def Th:DS:=(Aj (sIf (Ao (dOp Bj (dV 2) (dC (.int 4)))) (sAs (dC (.str "sea")) (gIx (dV 7) (dC (.int 3)))) sNx) Zc)
def Wl:DS:=(Aj (sIf (Dc (Ao (dOp Bj (dV 2) (dC (.int 2)))) (Ao (dOp Es (dV 1) (dC (.int 0))))) (sAs (dOp Af (dOp Af (dV 5) (dOp Bg (dOp Dz (dV 3) (dC (.int 8))) (dV 1))) (dC (.int 1))) (gIx (dV 7) (dC (.int 4)))) sNx) Th)
def ZF5:DS:=(Aj (sAs (Kr (dFn Bb (Ad (dV 6) (Ad (dC (.str "no one")) (Ad (dC (.str "")) (Ad (dC (.str "Sea")) (Ad (dV 6) Ah))))))) (gV 7)) Wl)
def ZJX:DS:=(Aj (sAs (dOp Af (dOp Af (dV 5) (dV 1)) (dC (.int 1))) (gV 6)) ZF5)
def ZDQ:DS:=(Aj (sIf (Ao (dOp Bj (dV 2) (dC (.int 1)))) (sRt (dFn Bl (Ad (dV 4) (Ad (dFn V7 (Ad (dV 5) (Ad (dV 1) (Ad (Ar (dFn Q5 (Ad (dV 5) (Ad (dV 1) (Ad (dV 3) Ah))))) Ah)))) Ah)))) sNx) ZJX)
def ZEM:DS:=(Aj (sIf (Ao (dOp Bj (dV 2) (dC (.int 0)))) (sRt (dFn Bl (Ad (dV 4) (Ad (dOp Ba (dV 5) (dOp ZAf (dFn Bl (Ad (dOp Af (dV 5) (dC (.int 0))) Ah)) (dOp Fd (dC (.int 13)) (dFn Dl (Ad (dV 5) Ah))))) Ah)))) sNx) ZDQ)
def ZCq:DS:=(Aj (sIf (Dc (Ao (dOp Bj (dV 2) (dC (.int 0)))) (Ao (dOp Bj (dOp Bg (dV 3) (dC (.int 4))) (dC (.int 2))))) (sRt (dFn Bl (Ad (dV 4) (Ad (dFn Bl Ah) Ah)))) sNx) ZEM)
def Yp:DS:=(Aj (sIf (Dc (Ao (dOp Bj (dV 2) (dC (.int 0)))) (Ao (dOp Du (dOp Bg (dV 3) (dC (.int 4))) (dC (.int 2))))) (sRt (dFn Bl (Ad (dOp Af (Ar (dFn Bb (Ad (dC (.int 0)) (Ad (dOp Ba (dC (.int 25)) (dOp Eb (dOp Bg (dOp Dz (dV 3) (dC (.int 4))) (dC (.int 2))) (dOp Jb (dC (.int 10)) (dC (.int 30))))) Ah)))) (dOp Bg (dV 3) (dC (.int 4)))) (Ad (dV 5) Ah)))) sNx) ZCq)
def Rw:DS:=(Aj (sAs (dV 0) (Dn 2 (Bq (gV 4) (Bq (gV 5) Ds)))) Yp)
def Om:List D->DH->R D:=Cd 4 4 Rw
def ZGH:DS:=(sRt (dFn Om (Ad (dV 0) (Ad (dV 6) (Ad (dV 8) (Ad (dOp Af (dV 1) (dC (.int 2))) Ah))))))
def Ub:DS:=(Aj (sIf (Dc (Ao (dOp Bj (dV 8) (dC (.int 1)))) (Eh (Ao (dV 2)))) (Aj (sAs (Ar (dFn Q5 (Ad (dV 5) (Ad (dV 6) (Ad (dOp Af (dV 1) (dC (.int 2))) Ah))))) (gV 9)) (sRt (dFn Bl (Ad (dV 4) (Ad (Ar (dFn Ci (Ad (dV 5) (Ad (dV 6) (Ad (Ar (dFn Ci (Ad (dOp Af (dV 5) (dV 6)) (Ad (dC (.int 1)) (Ad (dV 9) Ah))))) Ah))))) Ah))))) sNx) ZGH)
def Vn:DS:=(Aj (sAs (Ar (dFn Rq (Ad (dOp Af (dV 5) (dV 6)) (Ad (dV 7) Ah)))) (gV 8)) Ub)
def ZB1:DS:=(Aj (sIf (Ao (dOp Ka (dV 3) (dC .non))) (Aj (sAs (dV 3) (gV 6)) (sAs (dOp Af (Ar (dFn Bb (Ad (dC (.int 3)) (Ad (dC (.int 4)) (Ad (dC (.int 3)) (Ad (dC (.int 4)) (Ad (dC (.int 3)) (Ad (dC (.int 5)) (Ad (dC (.int 2)) (Ad (dC (.int 1)) (Ad (dC (.int 0)) Ah))))))))))) (dOp Bg (dOp Af (dV 1) (dC (.int 1))) (dC (.int 9)))) (gV 7))) sNx) Vn)
def ZBs:DS:=(Aj (sAs (dOp Af (dV 1) (dC (.int 1))) (gV 7)) ZB1)
def ZBy:DS:=(Aj (sAs (dOp Bg (dOp Af (dV 1) (dC (.int 0))) (dFn Dl (Ad (dV 5) Ah))) (gV 6)) ZBs)
def Ue:DS:=(Aj (sAs (dV 0) (Dn 2 (Bq (gV 4) (Bq (gV 5) Ds)))) ZBy)
def Pu:List D->DH->R D:=Cd 4 6 Ue
def Su:DS:=(sAs (Ar (dFn Pu (Ad (dV 1) (Ad (Ar (dSl (dV 2) (vZ (dOp Ba (dC (.int 2)) (dOp Eb (dC (.int 3)) (dV 5)))) (vZ (dOp Ba (dC (.int 5)) (dOp Eb (dC (.int 3)) (dV 5)))))) (Ad (dV 3) (Ad (dV 4) Ah)))))) (gV 1))
def Xj:DE:=(dOp Af (dV 0) (dC (.int 1)))
def ZDU:DS:=(sRt (dFn Rx (Ad (dV 1) (Ad (dOp Af (dV 11) (dC (.int 0))) (Ad (dOp Af (dV 11) (dC (.int 1))) Ah)))))
def Vs:DS:=(Aj (sIf (Ao (dOp Kw (dV 11) (dC .non))) (Aj (sAs (dFn Kl (Ad (dV 1) Ah)) (gV 12)) (sRt (Kh (dFn K8 (Ad (dV 12) (Ad (dC (.ty "tuple")) Ah))) (dOp Bj (dV 12) (dV 1))))) sNx) ZDU)
def T8:DS:=(Aj (sAs (dFn N5 (Ad (dV 1) Ah)) (gV 11)) Vs)
def Xk:DS:=(Aj (sIf (Ao (dOp Bj (dOp Bg (dOp Af (dV 2) (dC (.int 20))) (dC (.int 16))) (dC (.int 1)))) (sAs (dFn Bl (Ad (dOp Af (Ar (dFn Bb (Ad (dC (.int 0)) (Ad (dC (.int 25)) (Ad (dV 6) Ah))))) (dOp Bg (dOp Af (dV 2) (dC (.int 21))) (dC (.int 3)))) (Ad (dOp Af (Ar (dFn Bb (Ad (dV 7) (Ad (dV 7) (Ad (dFn Bl Ah) Ah))))) (dOp Bg (dOp Af (dV 2) (dC (.int 21))) (dC (.int 3)))) Ah))) (gV 1)) sNx) T8)
def Ro:DS:=(Aj (sIf (Ao (dOp Bj (dOp Bg (dOp Af (dV 2) (dC (.int 20))) (dC (.int 4))) (dC (.int 0)))) (Aj (sAs (Ar (dOp Ba (Ar (dFn Bb (Ad (dC (.str "sea")) Ah))) (Ar (Ed (Ej (Ar (dSl (dV 7) (vZ (dOp Ba (dV 8) (dC (.int 1)))) vJ))) 1 [] (gV 0) Cu Xj)))) (gV 9)) (Aj (sAs (Ar (dFn Ci (Ad (dOp Af (dV 7) (dV 8)) (Ad (dC (.int 2)) (Ad (dOp Af (dV 9) (dOp Bg (dOp Af (dV 2) (dC (.int 21))) (dFn Dl (Ad (dV 9) Ah)))) Ah))))) (gV 10)) (sAs (dFn Bl (Ad (dV 6) (Ad (Ar (dFn Ci (Ad (dV 7) (Ad (dV 8) (Ad (dV 10) Ah))))) Ah))) (gV 1)))) sNx) Xk)
def ZFe:DS:=(Aj (sAs (dOp Bg (dOp Af (dV 2) (dC (.int 19))) (dFn Dl (Ad (dV 7) Ah))) (gV 8)) Ro)
def ZAJ:DS:=(Aj (sAs (dV 1) (Dn 2 (Bq (gV 6) (Bq (gV 7) Ds)))) ZFe)
def ZG0:DS:=(Aj (Gb (Ga rng1 (Ad (dOp Bg (dOp Af (dV 2) (dC (.int 1))) (dC (.int 6))) Ah)) (gV 5) Su) ZAJ)
def ZF0:DS:=(Aj (sAs (Ar (dFn U4 (Ad (dOp Af (dV 1) (dC (.int 1))) (Ad (Ar (dSl (dV 2) (vZ (dC (.int 22))) vJ)) Ah)))) (gV 4)) ZG0)
def ZF9:DS:=(Aj (sAs (dOp Bj (dOp Bg (dOp Af (dV 2) (dC (.int 0))) (dC (.int 2))) (dC (.int 0))) (gV 3)) ZF0)
def ZGf:DS:=(Aj (sAs (Ar (dFn Kp (Ad (dFn Jl (Ad (dV 0) (Ad (dC (.int 15)) Ah))) (Ad (dC (.int 1)) (Ad (dC (.int 24)) Ah))))) (gV 2)) ZF9)
def ZC5:DS:=(Aj (sAs (dFn Ph (Ad (dV 0) (Ad (dC (.int 0)) Ah))) (gV 1)) ZGf)
def Qf:List D->DH->R D:=Cd 1 12 ZC5
def Holds:Prop:=∀ns:List Int,ns.length<=63->(∀m∈ns,m.natAbs.log2<1048576)->∃G,Qf [.fl (ns.map D.int)] []=.ok (.bl vX) G
end _W
namespace _W
open PySem _L _D
variable{G:DH}{ds:List D}{x cell big yr:Int}{α:Type}{a m i b c j k t:Nat}{xs:List Int}{l l' w:List Nat}{lo hi:Option Int}{nm:List Str}{z old:Str}{q:Option (Str×Int×Int)}{d:D}{s3 s4:Option D}
noncomputable def cellAt(ns:List Int)(k:Int):Int:=ns.getD k.toNat 0
theorem Td{ns:List Int}{k:Int}(hk:0<=k):Jl [.fl (ns.map D.int),.int k] G=.ok (.int (cellAt ns k)) G:=by
 unfold Jl ZF8 cellAt;rw[Bv];by_cases h:k<ns.length
 ·simp[h];rw[Ec (d:=D.int (ns[k.toNat]'(by lia))) (k:=k.toNat) (by lia) (by rw[zw,zQ (by lia)];rfl)];simp[Bp,zQ (show k.toNat<ns.length by lia)]
 ·simp[h,Bp,qx (show ns.length<=k.toNat by lia)]
noncomputable def tab(n:Nat)(F:Nat->Int):List D:=(zy n).map λi=>D.int (F i)
theorem ZDS{A:DO}{L:DH}(h:bels (G.length+1) ds=vX):freeze (G++[A]) (.ok (.ref (G.length+1)) (G++A:: .lst ds::L))=.ok (.fl ds) (G++[A]):=by have:=Ck (G:=G++[A]) (ds:=ds) (L:=L) (by simpa using h);simpa using this
theorem ZQs{A:DO}{L:DH}(h:bels (G.length+1) ds=vX):tidy (G++[A]) (.ok (.ref (G.length+1)) (G++A:: .lst ds::L))=.ok (.ref (G.length+1)) (G++[A,.lst ds]):=by have:=Jv (G:=G++[A]) (ds:=ds) (L:=L) (by simpa using h);simpa using this
theorem pr:¬(("river":Str)="pump"):=by decide
structure Stp where
 h:Int
 m:Int
 r:Bool
variable{st:List Stp}
def wy(r:Bool):Str:=if r then "river" else "pump"
def Stp.enc(s:Stp):D:=.tup [.int s.h,.int s.m,.str (wy s.r)]
@[simp]theorem ZRT{n:Nat}:bels n (st.map Stp.enc)=vX:=Jd λs _=>by simp[Stp.enc]
@[simp]theorem ZR5{r:Bool}:(wy r="pump")=(r=vV):=by
 cases r
 ·exact propext ⟨λh=>rfl,λ_=>rfl⟩
 ·exact propext ⟨λh=>absurd h pr,λh=>by cases h⟩
noncomputable abbrev Ssn:=Int×List Stp
variable{r:List Ssn}
def Aq(s:Ssn):D:=.tup [.int s.1,.tup (s.2.map Stp.enc)]
@[simp]theorem Kf{n:Nat}{ss:List Ssn}:bels n (ss.map Aq)=vX:=Jd λs _=>by simp[Aq]
inductive Kd where
 |basin (brim:Int) (rule:List Ssn) (pump:Option (Nat×Nat×Int))
 |town (need rank:Int)
 |mill (most:Int)
structure Pl where
 nm:Str
 dn:Option Nat
 dl:Nat
 kd:Kd
noncomputable def noPl:Pl:=⟨"",vJ,0,.mill 0⟩
structure Hs where
 yr:Int
 ps:List Pl
def Hs.pl(h:Hs)(k:Nat):Pl:=h.ps.getD k noPl
noncomputable def Hs.n(h:Hs):Nat:=h.ps.length
def Hs.dnT(h:Hs):Option Nat->Str
 |none=>"sea"
 |some d=>(h.pl d).nm
def Hs.W3(h:Hs):Option (Nat×Nat×Int)->D
 |none=>.non
 |some (to,dl,m)=>.tup [.str (h.pl to).nm,.int dl,.int m]
def Hs.encP(h:Hs)(p:Pl):D:=match p.kd with
 |.basin b r q=>.tup [.str "basin",.str p.nm,.str (h.dnT p.dn),.int p.dl,.int b,.tup (r.map Aq),h.W3 q]
 |.town a b=>.tup [.str "town",.str p.nm,.str (h.dnT p.dn),.int p.dl,.int a,.int b]
 |.mill a=>.tup [.str "mill",.str p.nm,.str (h.dnT p.dn),.int p.dl,.int a]
def Hs.plsD(h:Hs):List D:=h.ps.map h.encP
def Hs.enc(h:Hs):D:=.tup [.int h.yr,.tup h.plsD]
def Good:Int->List Stp->Prop
 |_,[]=>True
 |t,s::r=>t<=s.h/\1<=s.m/\Good (s.h+s.m) r
structure GoodH (h:Hs):Prop where
 yr:0<h.yr
 len:h.n<=12
 inj:∀i j,i<h.n->j<h.n->(h.pl i).nm=(h.pl j).nm->i=j
 sea:∀i,i<h.n->(h.pl i).nm≠"sea"
 dn:∀k d,k<h.n->(h.pl k).dn=vZ d->k<d/\d<h.n
 dl:∀k,k<h.n->(h.pl k).dl<=5
 pump:∀k b r to dl m,k<h.n->(h.pl k).kd=.basin b r (vZ (to,dl,m))->to<h.n/\1<=dl/\dl<=5
 brim:∀k b r q,k<h.n->(h.pl k).kd=.basin b r q->0<=b/\∀s∈r,Good 0 s.2
 town:∀k a b,k<h.n->(h.pl k).kd=.town a b->0<=a/\0<=b
theorem Hs.ZOH{h:Hs}{n:Nat}{q:Option (Nat×Nat×Int)}:bel n (h.W3 q)=vX:=by
 cases q with
 |none=>rfl
 |some x=>obtain⟨a,b,c⟩:=x;simp[Hs.W3]
@[simp]theorem Hs.ZMe{h:Hs}{n:Nat}{p:Pl}:bel n (h.encP p)=vX:=by
 unfold Hs.encP
 cases p.kd<;>simp[Hs.ZOH]
section
variable{h:Hs}{p:Pl}{G:DH}
end
def number(x cell:Int):Int:=if x%4=0 then 0 else if x%4=1/\2147483647<x then x/4%10^38 else if x%4=1 then cell*(x/4+2)%10^38 else x/4%40
theorem Ra(hx:0<=x):Lq [.int x,.int cell] G=.ok (.int (number x cell)) G:=by
 unfold Lq ZJZ number;rw[Bv];by_cases h0:x%4=0
 ·simp[h0,Bp]
 by_cases h1:x%4=1
 ·by_cases h2:2147483647<x
  ·simp[h1,h2,Bp]
  ·simp[h1,h2];rw[Wy (by lia) (by lia)];simp[Bp]
 ·simp[h0,h1,Bp]
theorem Oo:0<=number x cell:=by
 unfold number;split
 ·lia
 split
 ·exact zF _ (by decide)
 split
 ·exact zF _ (by decide)
 ·lia
def strm:Nat->Int->Int->Int->List Int
 |0,_,_,_=>[]
 |n+1,j,num,left=>(if 0<left then left%10^42 else(num*num+48271*j+11)%2147483647)::strm n (j+1) ((num*num+48271*j+11)%2147483647) (left/10^42)
theorem ZFg:∀{n:Nat}{j num left:Int},(strm n j num left).length=n
 |0,_,_,_=>rfl
 |n+1,_,_,_=>by simp[strm,ZFg]
theorem ZGQ:∀{n:Nat}{j num left:Int},∀x∈strm n j num left,0<=x
 |0,_,_,_,x,h=>by cases h
 | n+1,j,num,left,x,h=>by
  simp only[strm,zq]at h;rcases h with rfl|h
  ·split
   ·exact zF _ (by decide)
   ·exact zF _ (by decide)
  ·exact ZGQ x h
theorem ZH0{c k m:D}{G:DH}:∀{n:Nat}{j num left:Int}{acc:List Int}{e:Option D},0<=num->num<2147483647->0<=j->acc.length+n<=1000->∃a b d,Dj (gV 6) Zd (Cr j n) [vZ c,vZ k,vZ m,vZ (.int num),vZ (.int left),vZ (.ref G.length),e] (G++[.lst (acc.map D.int)])=
  .nx [vZ c,vZ k,vZ m,a,b,vZ (.ref G.length),d] (G++[.lst ((acc++strm n j num left).map D.int)])
 |0,j,num,left,acc,e,h1,h2,h3,h4=>⟨vZ (.int num),vZ (.int left),e,by rw[Jo,Im];simp[strm]⟩
 | n+1,j,num,left,acc,e,h1,h2,h3,h4=>by
  obtain⟨a,b,d,ih⟩:=ZH0 (c:=c) (k:=k) (m:=m) (G:=G) (n:=n) (j:=j+1) (num:=(num*num+48271*j+11)%2147483647) (left:=left/10^42) (acc:=acc++[if 0<left then left%10^42 else(num*num+48271*j+11)%2147483647]) (e:=vZ (.int j)) (zF _ (by decide)) (zE _ (by decide)) (by lia) (by simp;lia);refine⟨a,b,d,?_⟩;have hb:Zd [vZ c,vZ k,vZ m,vZ (.int num),vZ (.int left),vZ (.ref G.length),vZ (.int j)] (G++[.lst (acc.map D.int)])=
    .nx [vZ c,vZ k,vZ m,vZ (.int ((num*num+48271*j+11)%2147483647)),vZ (.int (left/10^42)),vZ (.ref G.length),vZ (.int j)] (G++[.lst ((acc++[if 0<left then left%10^42 else(num*num+48271*j+11)%2147483647]).map D.int)]):=by
   have hl:acc.length<1000000:=by lia
   unfold Zd
   by_cases hl0:0<left<;>simp[Mx (i:=num) (j:=num) (by lia) (by lia),J8,Ck,hl0,hl,Ld]
  rw[Iv,Gn];simp only[Di,R.Ib,qD,hb,Ii,ih];simp[strm]
theorem Ls{xs:List α}(h:a<=xs.length):cutD xs vJ (vZ (a:Int))=xs.take a:=by
 have:=(Jq xs.length (a:Int)).1;have e:HT.sIx xs.length xs.length (vZ (a:Int))=a:=by lia
 unfold cutD;rw[e];simp[HT.sIx]
theorem Qd{xs:List α}(h:a<=xs.length):cutD xs (vZ (a:Int)) vJ=xs.drop a:=by
 have:=(Jq xs.length (a:Int)).2;have e:HT.sIx xs.length 0 (vZ (a:Int))=a:=by lia
 unfold cutD;rw[e];simp only[HT.sIx];exact List.take_of_length_le (by simp)
theorem ZAw{te:DE}{S:DSt}{n:Nat}{F:Nat->D}(h:∀k:Nat,k<n->te (S.set 0 (vZ (.int k))) G=.ok (F k) G):Cw (gV 0) Cu te S (Cr 0 n) G=.ok ((zy n).map F) G:=by
 have e:Cr 0 n=(zy n).map λ(i:Nat)=>D.int (i:Int):=by
  refine List.ext_getElem? λi=>?_
  simp[Cr]
 rw[Ri (F:=λd=>match d with | .int i=>vZ (F i.toNat)|_=>vJ) (λq hq=>?_)]
 ·congr 1
  rw[e,qU];show(zy n).filterMap (λ(i:Nat)=>vZ (F ((i:Int).toNat)))=_;rw[List.filterMap_eq_map'];simp
 ·rw[e]at hq;obtain⟨i,hi,rfl⟩:=zC.mp hq;exact⟨S.set 0 (vZ (.int i)),by simp,.inr ⟨rfl,F i,h i (q9.mp hi),by simp⟩⟩
def Ha(cell k:Int)(n:Nat):List Int:=strm n 0 ((cell%999999937+2)*(7919*k*k+48271)%2147483647) (if cell<0∨10^18<=cell then max cell (-cell)else 0)
theorem ZEI{k:Int}{n:Nat}:(Ha cell k n).length=n:=ZFg
theorem ZI0{k:Int}{n:Nat}:∀x∈Ha cell k n,0<=x:=λx h=>ZGQ x h
theorem ZOp{k:Int}{n:Nat}(hk:0<=k/\k<100)(hn:n<=1000)(G:DH):Kp [.int cell,.int k,.int n] G=.ok (.ref G.length) (G++[.lst ((Ha cell k n).map D.int)]):=by
 have hr:inR (n:Int):=Hm (by lia) (by lia);have h3:0<=7919*k*k:=Int.mul_nonneg (by lia) (by lia);have h2:7919*k*k<=791900*100:=Int.le_trans (Int.mul_le_mul_of_nonneg_right (c:=k) (by lia:7919*k<=791900) (by lia)) (Int.mul_le_mul_of_nonneg_left (by lia) (by lia));have hnum:(cell%999999937+2)*(7919*k*k+48271)%2147483647<2147483647:=zE _ (by decide)
 obtain⟨a,b,d,h⟩:=ZH0 (c:=.int cell) (k:=.int k) (m:=.int n) (G:=G) (n:=n) (j:=0) (num:=(cell%999999937+2)*(7919*k*k+48271)%2147483647) (left:=if cell<0∨10^18<=cell then max cell (-cell)else 0) (acc:=[]) (e:=vJ) (zF _ (by decide)) hnum (by lia) (by simp;lia);unfold Ha Kp ZHy;rw[Bv];simp at h;simp[Mx (i:=7919*k) (j:=k) (by lia) (by lia),Wy (i:=cell%999999937+2) (j:=7919*k*k+48271) (by lia) (by lia),ZNZ,ZOk,ZOo,ite_int,Jv,hr,h]
theorem Iw:bels m (xs.map D.int)=vX:=Jd λ_ _=>rfl
theorem ZBP{k:Int}{n:Nat}(hk:0<=k/\k<100)(hn:n<=1000)(G:DH):freeze G (Kp [.int cell,.int k,.int n] G)=.ok (.fl ((Ha cell k n).map D.int)) G:=by rw[ZOp hk hn];exact Ck Iw
noncomputable def gx(xs:List Int)(i:Nat):Int:=xs.getD i 0
theorem El(h:i<xs.length):atI (xs.map D.int) (i:Int)=vZ (.int (gx xs i)):=Ec rfl (by rw[zw,zQ h];simp[gx,zB,h])
theorem V4(hx:∀x∈xs,0<=x)(i:Nat):0<=gx xs i:=by
 unfold gx;rw[zB];by_cases h:i<xs.length
 ·rw[zQ h];exact hx _ (qB h)
 ·rw[qx (by lia)];exact jC _
theorem ZBo(hab:a<=b)(hb:b<=xs.length):cutD (xs.map D.int) (vZ (a:Int)) (vZ (b:Int))=((xs.drop a).take (b-a)).map D.int:=by
 have h1:=(Jq (xs.map D.int).length (a:Int)).2;have h2:=(Jq (xs.map D.int).length (b:Int)).1;have l:(xs.map D.int).length=xs.length:=by simp
 have e1:HT.sIx (xs.map D.int).length 0 (vZ (a:Int))=a:=by lia
 have e2:HT.sIx (xs.map D.int).length (xs.map D.int).length (vZ (b:Int))=b:=by lia
 unfold cutD;rw[e1,e2,jJ,jx]
def stF(xs:List Int)(big:Int)(p:Bool):Nat->Nat->Int->List Stp
 |0,_,_=>[]
 |n+1,j,top=>⟨top+number (gx xs (1+2*j)) big,1+number (gx xs (2+2*j)) big, !(p&&decide (gx xs (2+2*j)/160%2=0))⟩::stF xs big p n (j+1) (top+number (gx xs (1+2*j)) big+(1+number (gx xs (2+2*j)) big))
theorem ZFP{xs:List Int}{big:Int}{p:Bool}{G:DH}(hx:∀x∈xs,0<=x):∀(n j:Nat)(top:Int)(acc:List Stp)(a b d e:Option D),2*(j+n)<xs.length->acc.length+n<=1000->∃a' b' d' e' t',Dj (gV 5) Xw (Cr j n) [vZ (.fl (xs.map D.int)),vZ (.int big),vZ (.bl p),vZ (.ref G.length),vZ (.int top),a,b,d,e] (G++[.lst (acc.map Stp.enc)])=
  .nx [vZ (.fl (xs.map D.int)),vZ (.int big),vZ (.bl p),vZ (.ref G.length),t',a',b',d',e'] (G++[.lst ((acc++stF xs big p n j top).map Stp.enc)])
 |0,j,top,acc,a,b,d,e,h1,h2=>⟨a,b,d,e,vZ (.int top),by rw[Jo,Im];simp[stF]⟩
 | n+1,j,top,acc,a,b,d,e,h1,h2=>by
  have x0:=V4 hx (1+2*j);have x1:=V4 hx (2+2*j);have a0:atI (xs.map D.int) (1+2*(j:Int))=vZ (.int (gx xs (1+2*j))):=by have:=El (xs:=xs) (i:=1+2*j) (by lia);rwa[show((1+2*j:Nat):Int)=1+2*(j:Int) by lia]at this
  have a1:atI (xs.map D.int) (2+2*(j:Int))=vZ (.int (gx xs (2+2*j))):=by have:=El (xs:=xs) (i:=2+2*j) (by lia);rwa[show((2+2*j:Nat):Int)=2+2*(j:Int) by lia]at this
  unfold stF;generalize gx xs (1+2*j)=u0 at*;generalize gx xs (2+2*j)=u1 at*;obtain⟨a',b',d',e',t',ih⟩:=ZFP (big:=big) (p:=p) (G:=G) hx n (j+1) (top+number u0 big+(1+number u1 big)) (acc++[⟨top+number u0 big,1+number u1 big, !(p&&decide (u1/160%2=0))⟩]) (vZ (.int j)) (vZ (.int (top+number u0 big))) (vZ (.int (1+number u1 big))) (vZ (.str (wy (!(p&&decide (u1/160%2=0)))))) (by lia) (by simp;lia)
  refine⟨a',b',d',e',t',?_⟩;have hb:Xw [vZ (.fl (xs.map D.int)),vZ (.int big),vZ (.bl p),vZ (.ref G.length),vZ (.int top),vZ (.int j),b,d,e] (G++[.lst (acc.map Stp.enc)])=
    .nx [vZ (.fl (xs.map D.int)),vZ (.int big),vZ (.bl p),vZ (.ref G.length),vZ (.int (top+number u0 big+(1+number u1 big))),vZ (.int j),vZ (.int (top+number u0 big)),vZ (.int (1+number u1 big)),vZ (.str (wy (!(p&&decide (u1/160%2=0)))))] (G++[.lst ((acc++[(⟨top+number u0 big,1+number u1 big, !(p&&decide (u1/160%2=0))⟩:Stp)]).map Stp.enc)]):=by
   have hl:acc.length<1000000:=by lia
   have m2:∀G,Eb (.int 2) (.int (j:Int)) G=.ok (.int (2*(j:Int))) G:=λG=>Mx (by lia) (by lia)
   unfold Xw;cases p with
   |false=>simp[m2,a0,a1,Ra x0,Ra x1,J8,hl,Ld,Stp.enc,wy]
   |true=>by_cases hz:u1/160%2=0<;>simp[m2,a0,a1,Ra x0,Ra x1,J8,hl,Ld,Stp.enc,wy,hz]
  rw[Iv,Gn];simp only[Di,R.Ib,qD,hb,Ii];have e1:((j:Int)+1)=((j+1:Nat):Int):=by lia
  rw[e1,ih];simp
theorem ZLi{p:Bool}(hx:∀x∈xs,0<=x)(hl:xs.length=7)(G:DH):Xq [.fl (xs.map D.int),.int big,.bl p] G=.ok (.tup ((stF xs big p (gx xs 0%4).toNat 0 0).map Stp.enc)) G:=by have a0:atI (xs.map D.int) 0=vZ (.int (gx xs 0)):=El (i:=0) (by lia);obtain⟨n,hn⟩:∃n:Nat,gx xs 0%4=n:=⟨(gx xs 0%4).toNat,by lia⟩;obtain⟨a,b,d,e,t,h⟩:=ZFP (big:=big) (p:=p) (G:=G) hx n 0 0 [] vJ vJ vJ vJ (by lia) (by simp;lia);rw[hn];unfold Xq ZH8;rw[Bv];have hr:inR (n:Int):=Hm (by lia) (by lia);simp at h;simp[a0,hn,Jv,hr,h,J8,R8]
def ruF(xs:List Int)(big yr:Int)(p:Bool):Nat->Nat->Int->List Ssn
 |0,_,_=>[]
 |m+1,j,b=>if j=0∨(0<gx xs j%3/\b<yr)then(b,stF ((xs.drop (3+7*j)).take 7) big p (gx ((xs.drop (3+7*j)).take 7) 0%4).toNat 0 0)::ruF xs big yr p m (j+1) (b+1+gx xs j/3%9)else ruF xs big yr p m (j+1) b
theorem ZEG{xs:List Int}{big yr:Int}{p:Bool}{G:DH}(hx:∀x∈xs,0<=x)(hl:xs.length=24):∀(m j:Nat)(b:Int)(acc:List Ssn)(x:Option D),j+m=3->acc.length+m<=1000->∃b' x',Dj (gV 6) Qs (Cr j m) [vZ (.fl (xs.map D.int)),vZ (.int big),vZ (.int yr),vZ (.bl p),vZ (.ref G.length),vZ (.int b),x] (G++[.lst (acc.map Aq)])=
  .nx [vZ (.fl (xs.map D.int)),vZ (.int big),vZ (.int yr),vZ (.bl p),vZ (.ref G.length),b',x'] (G++[.lst ((acc++ruF xs big yr p m j b).map Aq)])
 |0,j,b,acc,x,e,h2=>⟨vZ (.int b),x,by rw[Jo,Im];simp[ruF]⟩
 | m + 1,j,b,acc,x,e,h2=>by
  have e1:((j:Int)+1)=((j+1:Nat):Int):=by lia
  have a0:atI (xs.map D.int) (j:Int)=vZ (.int (gx xs j)):=El (by lia);have m7:∀G,Eb (.int 7) (.int (j:Int)) G=.ok (.int (7*(j:Int))) G:=λG=>Mx (by lia) (by lia)
  have cu:cutD (xs.map D.int) (vZ (3+7*(j:Int))) (vZ (10+7*(j:Int)))=((xs.drop (3+7*j)).take 7).map D.int:=by have:=ZBo (xs:=xs) (a:=3+7*j) (b:=10+7*j) (by lia) (by lia);rwa[show((3+7*j:Nat):Int)=3+7*(j:Int) by lia,show((10+7*j:Nat):Int)=10+7*(j:Int) by lia,show 10+7*j-(3+7*j)=7 by lia]at this
  have cs:=λG=>ZLi (xs:=(xs.drop (3+7*j)).take 7) (big:=big) (p:=p) (λx h=>hx x (qE (zT h))) (by simp;lia) G
  have hal:acc.length<1000000:=by lia
  unfold ruF;generalize((xs.drop (3+7*j)).take 7)=zs at*;generalize stF zs big p (gx zs 0%4).toNat 0 0=st at*;have fz:∀A:DO,freeze (G++[A]) (.ok (.ref (G.length+1)) (G++[A,.lst (zs.map D.int)]))=.ok (.fl (zs.map D.int)) (G++[A]):=λA=>ZDS Iw
  by_cases hc:j=0∨(0<gx xs j%3/\b<yr)
  ·rw [if_pos hc];obtain⟨b',x',ih⟩:=ZEG (big:=big) (yr:=yr) (p:=p) (G:=G) hx hl m (j+1) (b+1+gx xs j/3%9) (acc++[(b,st)]) (vZ (.int j)) (by lia) (by simp;lia);refine⟨b',x',?_⟩;have hb:Qs [vZ (.fl (xs.map D.int)),vZ (.int big),vZ (.int yr),vZ (.bl p),vZ (.ref G.length),vZ (.int b),vZ (.int j)] (G++[.lst (acc.map Aq)])=
     .nx [vZ (.fl (xs.map D.int)),vZ (.int big),vZ (.int yr),vZ (.bl p),vZ (.ref G.length),vZ (.int (b+1+gx xs j/3%9)),vZ (.int j)] (G++[.lst ((acc++[(b,st)]).map Aq)]):=by
    unfold Qs;rcases hc with h0|⟨h3,h4⟩
    ·have h0':(j:Int)=0:=by lia
     subst h0;simp at cu m7 a0;simp[m7,a0,cu,fz,cs,J8,hal,Ld,Aq]
    ·by_cases h0:j=0
     ·subst h0;simp at cu m7 a0;simp[m7,a0,cu,fz,cs,J8,hal,Ld,Aq]
     ·have h0':¬(j:Int)=0:=by lia
      simp[h0,h0',h3,h4,m7,a0,cu,fz,cs,J8,hal,Ld,Aq]
   rw[Iv,Gn];simp only[Di,R.Ib,qD,hb,Ii];rw[e1,ih];simp
  ·rw[if_neg hc];obtain⟨b',x',ih⟩:=ZEG (big:=big) (yr:=yr) (p:=p) (G:=G) hx hl m (j+1) b acc (vZ (.int j)) (by lia) (by lia);refine⟨b',x',?_⟩;have hb:Qs [vZ (.fl (xs.map D.int)),vZ (.int big),vZ (.int yr),vZ (.bl p),vZ (.ref G.length),vZ (.int b),vZ (.int j)] (G++[.lst (acc.map Aq)])=
     .nx [vZ (.fl (xs.map D.int)),vZ (.int big),vZ (.int yr),vZ (.bl p),vZ (.ref G.length),vZ (.int b),vZ (.int j)] (G++[.lst (acc.map Aq)]):=by
    have h0:¬j=0:=λz=>hc (.inl z)
    have h0':¬(j:Int)=0:=by lia
    unfold Qs;by_cases h3:0<gx xs j%3
    ·have h4:¬b<yr:=λz=>hc (.inr ⟨h3,z⟩)
     simp[h0,h0',a0,h3,h4]
    ·simp[h0,h0',a0,h3]
   rw[Iv,Gn];simp only[Di,R.Ib,qD,hb,Ii];rw[e1,ih]
theorem ZJ2{p:Bool}(hx:∀x∈xs,0<=x)(hl:xs.length=24)(G:DH):Vt [.fl (xs.map D.int),.int big,.int yr,.bl p] G=.ok (.tup ((ruF xs big yr p 3 0 0).map Aq)) G:=by obtain⟨b',x',h⟩:=ZEG (big:=big) (yr:=yr) (p:=p) (G:=G) hx hl 3 0 0 [] vJ (by lia) (by simp);have hr:inR 3:=Hm (by lia) (by lia);unfold Vt ZIh;rw[Bv];simp at h;simp[Jv,hr,h,J8,R8]
theorem ZPo{p:Bool}:∃s r,ruF xs big yr p 3 0 0=s::r:=by unfold ruF;rw[if_pos (.inl rfl)];exact⟨_,_,rfl⟩
noncomputable def pmps(st:List Stp):List Int:=(st.filter λs=> !s.r).map Stp.m
theorem ZNC{b:D}(hst:st.length<=1000)(G:DH):Wv [vZ b,vZ (.tup (st.map Stp.enc))] G=.ok (.int (pmps st).sum) G:=by
 have hc:Cw (Dn 3 (Bq (gV 0) (Bq (gV 1) (Bq (gV 2) Ds)))) Yz ZAB [vJ,vJ,vJ] (st.map Stp.enc) G=.ok ((pmps st).map D.int) G:=by
  clear hst
  induction st with
  |nil=>rfl
  | cons s st ih=>
   have e0:Stp.enc s=.tup [.int s.h,.int s.m,.str (wy s.r)]:=rfl;have h1:Yz [vZ (.int s.h),vZ (.int s.m),vZ (.str (wy s.r))] G=.ok (!s.r) G:=by
    unfold Yz
    cases s.r<;>simp
   have h2:ZAB [vZ (.int s.h),vZ (.int s.m),vZ (.str (wy s.r))] G=.ok (.int s.m) G:=by unfold ZAB;simp
   rw[zz,Jc,e0];cases hs:s.r
   ·rw[hs]at h1 h2;simp[h1,h2,ih,pmps,hs]
   ·rw[hs]at h1;simp[h1,ih,pmps,hs]
 have fz:freeze G (.ok (.ref G.length) (G++[.lst ((pmps st).map D.int)]))=.ok (.fl ((pmps st).map D.int)) G:=Ck Iw;have hcs:∀S:DSt,Bx 3 [] S=[vJ,vJ,vJ]:=λS=>rfl
 unfold Wv;have hl:(pmps st).length<=1000000:=by
  have:(pmps st).length<=st.length:=by unfold pmps;rw[zZ];exact jX _ _
  lia
 simp[hcs,hc,hl,fz]
theorem ZFj{p:Bool}:∀(n j:Nat)(top:Int),(stF xs big p n j top).length=n
 |0,j,top=>rfl
 |n+1,j,top=>by simp[stF,ZFj n]
theorem ZAS{xs:List Int}{big yr:Int}{p:Bool}:∀(m j:Nat)(b:Int),(ruF xs big yr p m j b).length<=m/\∀s∈ruF xs big yr p m j b,s.2.length<=100
 |0,j,b=>⟨zx _,λs h=>by cases h⟩
 | m+1,j,b=>by
  unfold ruF;split
  ·have ih:=ZAS (xs:=xs) (big:=big) (yr:=yr) (p:=p) m (j+1) (b+1+gx xs j/3%9);refine⟨by simp[ih.1],λs h=>?_⟩;rcases zq.mp h with rfl|h
   ·show(stF _ _ _ _ _ _).length<=100;rw[ZFj];lia
   ·exact ih.2 s h
  ·have ih:=ZAS (xs:=xs) (big:=big) (yr:=yr) (p:=p) m (j+1) b;exact⟨by lia,ih.2⟩
theorem ZDl{te:DE}{E X Y F:α->D}(hE:∀a,E a=.tup [X a,Y a]):∀{l:List α},(∀a∈l,te [vZ (X a),vZ (Y a)] G=.ok (F a) G)->Cw (Dn 2 (Bq (gV 0) (Bq (gV 1) Ds))) Cu te [vJ,vJ] (l.map E) G=.ok (l.map F) G
 |[],_=>rfl
 |a::l,h=>by
  have ih:=ZDl hE (l:=l) λb hb=>h b (zY _ hb)
  rw[zz,Jc,hE];simp[h a (by simp),ih]
theorem ZF2:∀(l:List Int)(a:Int),a<=l.foldl max a/\∀x∈l,x<=l.foldl max a
 |[],a=>⟨jC _,λx h=>nomatch h⟩
 | y::l,a=>by
  obtain⟨h1,h2⟩:=ZF2 l (max a y);refine⟨?_,λx hx=>?_⟩
  ·rw[qP];lia
  ·rw[qP];rcases zq.mp hx with rfl|hx
   ·lia
   ·exact h2 x hx
theorem ZKb(hr:r.length<=1000)(h:∀s∈r,s.2.length<=1000)(hne:∃s r',r=s::r'):∃v:Int,(∀s∈r,(pmps s.2).sum<=v)/\∀G,Zw [.tup (r.map Aq)] G=.ok (.int v) G:=by
 obtain⟨s,r',rfl⟩:=hne;refine⟨(r'.map λs=>(pmps s.2).sum).foldl max (pmps s.2).sum,λz hz=>?_,λG=>?_⟩
 ·obtain⟨h1,h2⟩:=ZF2 (r'.map λs=>(pmps s.2).sum) (pmps s.2).sum;rcases zq.mp hz with rfl|hz
  ·exact h1
  ·exact h2 _ (zC.mpr ⟨z,hz,rfl⟩)
 have hc:Cw (Dn 2 (Bq (gV 0) (Bq (gV 1) Ds))) Cu Wv [vJ,vJ] ((s::r').map Aq) G=.ok (((s::r').map λs=>(pmps s.2).sum).map D.int) G:=by rw[q8];exact ZDl (X:=λs:Ssn=>.int s.1) (Y:=λs:Ssn=>.tup (s.2.map Stp.enc)) (F:=D.int ∘ λs:Ssn=>(pmps s.2).sum) (λ_=>rfl) λa ha=>ZNC (h a ha) G
 have hl:((s::r').map λs=>(pmps s.2).sum).length<=1000000:=by rw[zZ];lia
 have hm:Q7 [.fl (((s::r').map λs=>(pmps s.2).sum).map D.int)] G=.ok (.int ((r'.map λs=>(pmps s.2).sum).foldl max (pmps s.2).sum)) G:=ZOK (by rw[zz];rfl);have fz:freeze G (.ok (.ref G.length) (G++[.lst (((s::r').map λs=>(pmps s.2).sum).map D.int)]))=.ok (.fl (((s::r').map λs=>(pmps s.2).sum).map D.int)) G:=Ck Iw;have hcs:∀S:DSt,Bx 2 [] S=[vJ,vJ]:=λS=>rfl
 generalize((s::r').map λs=>(pmps s.2).sum)=zs at*;generalize(s::r').map Aq=rs at*;unfold Zw ZGT;rw[Bv];simp[hcs,hc,hl,fz,hm,Bp]
theorem ZQI(hx:0<=x):∃v:Int,0<=v/\∀G,S9 [.int x] G=.ok (.int v) G:=by
 by_cases h:2147483647<x
 ·have m:=λG=>Wy (i:=x/2%100000000000000000000000000000000000000) (j:=x%2) (G:=G) (by lia) (by lia)
  exact⟨x/2%100000000000000000000000000000000000000*(x%2),Int.mul_nonneg (by lia) (by lia),λG=>by unfold S9 ZB2;rw[Bv];simp[h,m,Bp]⟩
 ·have m:=λG=>Wy (i:=x%50) (j:=x/50%2) (G:=G) (by lia) (by lia)
  exact⟨x%50*(x/50%2),Int.mul_nonneg (by lia) (by lia),λG=>by unfold S9 ZB2;rw[Bv];simp[h,m,Bp]⟩
noncomputable def Aw(l:List Nat):Str:=⟨l.toArray⟩
theorem ZMs:Aw l++Aw l'=Aw (l++l'):=by show Str.append _ _=_;unfold Str.append Aw;simp
noncomputable def Mt:List Nat:=("abcdefghijklmnopqrstuvwxyz":Str).cps.toList
theorem ZNP:∀i,i<26->Mt[i]?=vZ (97+i):=by decide +kernel
theorem ZKB:("abcdefghijklmnopqrstuvwxyz":Str).length<=1000000:=by decide +kernel
theorem Z5{i:Int}(h0:0<=i)(h1:i<26)(G:DH):Af (.str ("abcdefghijklmnopqrstuvwxyz":Str)) (.int i) G=.ok (.str (Aw [97+i.toNat])) G:=by
 rw[My,if_pos ZKB]
 show(match atI Mt i with |some c=>R.ok (sgn c) G|none=>.bad)=_
 rw[Ec (k:=i.toNat) (by lia) (ZNP _ (by lia))]
 rfl
theorem add_str(h:l.length+l'.length<=1000000)(G:DH):Ba (.str (Aw l)) (.str (Aw l')) G=.ok (.str (Aw (l++l'))) G:=by
 have e:Ba (.str (Aw l)) (.str (Aw l')) G=if(Aw l).length+(Aw l').length<=1000000 then .ok (.str (Aw l++Aw l')) G else .bad:=rfl
 rw[e,if_pos (by show l.toArray.size+l'.toArray.size<=1000000;simpa using h),ZMs]
theorem Io(h:l.length<=1000000)(G:DH):Ln (.str (Aw l)) lo hi G=.ok (.str (Aw (cutD l lo hi))) G:=by
 rw[Ks,if_pos (by show l.toArray.size<=1000000;simpa using h)]
 rfl
theorem ZRD(h:(c::l).length<=1000000)(G:DH):Af (.str (Aw (c::l))) (.int 0) G=.ok (.str (Aw [c])) G:=by
 rw[My,if_pos (by show(c::l).toArray.size<=1000000;simpa using h)]
 show(match atI (c::l) 0 with |some c=>R.ok (sgn c) G|none=>.bad)=_
 have h0:atI (c::l) (0:Int)=vZ c:=Ec (k:=0) rfl rfl;rw[h0]
 rfl
theorem K1{x:Str}(G:DH):freeze G (.ok (.str x) G)=.ok (.str x) G:=Fw rfl
theorem Ft{l:List Str}:bels m (l.map D.str)=vX:=Jd λ_ _=>rfl
theorem pigeon[DecidableEq α]:∀(zs l:List α),zs.Nodup->l.length<zs.length->∃z,z∈zs/\z∉l
 |[],l,_,h=>by simp at h
 | z::zs,l,hn,h=>by
  by_cases hz:z∈l
  ·have hn':=jZ.mp hn;have hl:(l.erase z).length=l.length-1:=List.length_erase_of_mem hz;have hp:0<l.length:=List.length_pos_of_mem hz;obtain⟨y,hy,hny⟩:=pigeon zs (l.erase z) hn'.2 (by simp only[qw]at h;lia);have hne:y≠z:=λe=>hn'.1 (e▸hy)
   exact⟨y,zY _ hy,λhm=>hny ((List.mem_erase_of_ne hne).mpr hm)⟩
  ·exact⟨z,by simp,hz⟩
def zsL:List Str:=Mt.map λc=>Aw [122,c]
theorem ZPm:zsL.Nodup:=by decide +kernel
theorem Q8:zsL.length=26:=by decide +kernel
theorem ZMB:∀z∈zsL,z≠"sea":=by decide +kernel
theorem Xc:∀l:List Str,Lb (l.map D.str)=vZ (l.map V.str)
 |[]=>rfl
 |a::l=>by
  rw[zz,Lb,Xc l]
  rfl
theorem Xf(x:Str):∀l:List Str,inV (.str x) (l.map V.str)=decide (x∈l)
 |[]=>by simp[inV]
 | a::l=>by
  show(eqV (.str a) (.str x)||inV (.str x) (l.map V.str))=_;rw[Xf x l];show((a==x)||decide (x∈l))=_;by_cases e:a=x
  ·subst e;simp
  ·have e2:¬x=a:=λz=>e z.symm
   simp[e,e2]
theorem ZNe{x:Str}{l:List Str}(h:G[i]?=vZ (.lst (l.map D.str))):Lf (.str x) (.ref i) G=.ok (.bl (!decide (x∈l))) G:=by
 have hs:Ei (.ref i) G=vZ (l.map D.str):=by simp[h]
 have key:inD (.str x) (.ref i) G=vZ (decide (x∈l)):=by
  show(match Ei (.ref i) G,Nr (.str x)with |some xs,vZ v=>(Lb xs).map λvs=>inV v vs|_,_=>vJ)=_
  rw[hs];show(Lb (l.map D.str)).map (λvs=>inV (.str x) vs)=_;rw[Xc];show vZ (inV _ _)=_;rw[Xf]
 unfold Lf;rw[key]
def wdF:Nat->Int->List Nat->List Nat
 |0,_,w=>w
 |m+1,rest,w=>wdF m (rest/26) (w++[97+(rest%26).toNat])
theorem ZEc:∀(m:Nat)(rest:Int)(w:List Nat),(wdF m rest w).length=w.length+m
 |0,_,_=>rfl
 |m+1,rest,w=>by unfold wdF;rw[ZEc m];simp;lia
theorem ZIK{s0 s2 s3 s7:Option D}{G:DH}:∀(m:Nat)(j rest:Int)(w:List Nat)(x:Option D),w.length+m<=1000->∃r y,Dj (gV 6) ZAF (Cr j m) [s0,vZ (.str ("abcdefghijklmnopqrstuvwxyz":Str)),s2,s3,vZ (.str (Aw w)),vZ (.int rest),x,s7] G=.nx [s0,vZ (.str ("abcdefghijklmnopqrstuvwxyz":Str)),s2,s3,vZ (.str (Aw (wdF m rest w))),r,y,s7] G
 |0,j,rest,w,x,h=>⟨vZ (.int rest),x,by rw[Jo,Im];rfl⟩
 | m+1,j,rest,w,x,h=>by
  obtain⟨r,y,ih⟩:=ZIK (s0:=s0) (s2:=s2) (s3:=s3) (s7:=s7) (G:=G) m (j+1) (rest/26) (w++[97+(rest%26).toNat]) (vZ (.int j)) (by simp;lia);refine⟨r,y,?_⟩;have hb:ZAF [s0,vZ (.str ("abcdefghijklmnopqrstuvwxyz":Str)),s2,s3,vZ (.str (Aw w)),vZ (.int rest),vZ (.int j),s7] G=.nx [s0,vZ (.str ("abcdefghijklmnopqrstuvwxyz":Str)),s2,s3,vZ (.str (Aw (w++[97+(rest%26).toNat]))),vZ (.int (rest/26)),vZ (.int j),s7] G:=by
   have hi:=λG=>Z5 (i:=rest%26) (by lia) (by lia) G
   have ha:=λG=>add_str (l:=w) (l':=[97+(rest%26).toNat]) (by simp;lia) G
   generalize Aw [97+(rest%26).toNat]=z at hi ha;generalize("abcdefghijklmnopqrstuvwxyz":Str)=AB at hi;unfold ZAF;simp[-My,-Ma,hi,ha]
  rw[Iv,Gn];simp only[Di,R.Ib,qD,hb,Ii];exact ih
theorem ZOR(G:DH):Cw (gV 0) Cu Y6 [vJ] (Mt.map sgn) G=.ok (zsL.map D.str) G:=by
 unfold zsL;rw[q8];generalize Mt=l
 induction l with
 |nil=>rfl
 | cons c l ih=>
  have he:Y6 [vZ (sgn c)] G=.ok (.str (Aw [122,c])) G:=by
   have ha:=add_str (l:=[122]) (l':=[c]) (by simp) G;have e1:Aw [122]=("z":Str):=by decide +kernel
   rw[e1]at ha;have e2:sgn c=.str (Aw [c]):=rfl;unfold Y6;rw[e2];simp[-Ma,ha]
  rw[zz,Jc];simp[he,ih]
theorem ZHh{names:List Str}(hG:G[i]?=vZ (.lst (names.map D.str))):∀l:List Str,Cw (gV 0) Z4 ZAN [vJ,vZ (.ref i)] (l.map D.str) G=.ok ((l.filter λx=>decide (x∉names)&&decide (x≠"sea")).map D.str) G
 |[]=>rfl
 | a::l=>by
  have ih:=ZHh hG l;have h1:=ZNe (x:=a) hG;have ht:Z4 [vZ (.str a),vZ (.ref i)] G=.ok (decide (a∉names)&&decide (a≠"sea")) G:=by
   unfold Z4;by_cases h:a∈names
   ·simp[h1,h]
   ·by_cases h2:a="sea"
    ·have h3:(a="sea")=True:=by simp[h2]
     simp[h1,h,h3]
    ·simp[h1,h,h2]
  have he:ZAN [vZ (.str a),vZ (.ref i)] G=.ok (.str a) G:=by unfold ZAN;simp
  rw[zz,Jc];simp only[Di,R.ZAb,qD,ht,he,ih];rw[qC]
  cases(decide (a∉names)&&decide (a≠"sea"))<;>simp
def LL(l:List Nat):Prop:=1<=l.length/\l.length<=8/\∀c∈l,97<=c/\c<123
def Wd(z:Str):Prop:=∃l:List Nat,z=Aw l/\LL l
theorem ZIk:∀(m:Nat)(rest:Int)(w:List Nat),(∀c∈w,97<=c/\c<123)->∀c∈wdF m rest w,97<=c/\c<123
 |0,_,_,h=>h
 | m+1,rest,w,h=>by
  unfold wdF;exact ZIk m _ _ λc hc=>by
   rcases zM.mp hc with hc|hc
   ·exact h c hc
   ·rw[qV.mp hc];lia
theorem ZKs:∀c∈Mt,97<=c/\c<123:=by decide +kernel
theorem ZO7:∀z∈zsL,Wd z:=λz hz=>by
 obtain⟨c,hc,rfl⟩:=zC.mp hz;refine⟨[122,c],rfl,by simp,by simp,λx hx=>?_⟩;rcases zq.mp hx with rfl|hx
 ·lia
 ·rw[qV.mp hx];exact ZKs c hc
theorem ZLo{names:List Str}(hx:0<=x)(hl:names.length<26):∃nm:Str,(nm∉names/\nm≠"sea"/\Wd nm)/\∀(G:DH)(s0 x4 x5 x6 x7:Option D),∃y4 y5 y6 y7,
  W7 [s0,vZ (.str ("abcdefghijklmnopqrstuvwxyz":Str)),vZ (.ref G.length),vZ (.int x),x4,x5,x6,x7] (G++[.lst (names.map D.str)])=
   .nx [s0,vZ (.str ("abcdefghijklmnopqrstuvwxyz":Str)),vZ (.ref G.length),vZ (.int x),y4,y5,y6,y7] (G++[.lst ((names++[nm]).map D.str)]):=by
 obtain⟨m,hm⟩:∃m:Nat,1+x%8=m:=⟨(1+x%8).toNat,by lia⟩;have hm8:m<=8:=by lia
 obtain⟨w,ew⟩:∃w:Str,Aw (wdF m (x/8) [])=w:=⟨_,rfl⟩;obtain⟨z,hz,hzn⟩:=pigeon zsL names ZPm (by rw[Q8];exact hl);have hne:∃a r,((w::zsL).filter λx=>decide (x∉names)&&decide (x≠"sea"))=a::r:=by
  have:z∈((w::zsL).filter λx=>decide (x∉names)&&decide (x≠"sea")):=jv.mpr ⟨zY _ hz,by simp[hzn,ZMB z hz]⟩;cases e:((w::zsL).filter λx=>decide (x∉names)&&decide (x≠"sea"))with
  |nil=>rw[e]at this;cases this
  |cons a r=>exact⟨a,r,rfl⟩
 obtain⟨a,r,har⟩:=hne;have ha:a∉names/\a≠"sea"/\Wd a:=by
  have h1:a∈((w::zsL).filter λx=>decide (x∉names)&&decide (x≠"sea")):=by rw[har];exact z8
  have h2:a∉names/\a≠"sea":=by simpa using(jv.mp h1).2
  refine⟨h2.1,h2.2,?_⟩;rcases zq.mp (jv.mp h1).1 with h3|h3
  ·rw[h3,<-ew]
   refine⟨_,rfl,?_,?_,ZIk m _ [] (λc hc=>nomatch hc)⟩
   ·rw[ZEc];simp;lia
   ·rw[ZEc];simp;lia
  ·exact ZO7 a h3
 refine⟨a,ha,λG s0 x4 x5 x6 x7=>?_⟩;obtain⟨r5,y6,hw⟩:=ZIK (s0:=s0) (s2:=vZ (.ref G.length)) (s3:=vZ (.int x)) (s7:=x7) (G:=G++[.lst (names.map D.str)]) m 0 (x/8) [] x6 (by simp;lia);refine⟨vZ (.str w),r5,y6,vZ (.fl ((w::zsL).map D.str)),?_⟩;have hz0:=λG=>ZOR G
 have hk:=ZHh (names:=names) (i:=G.length) (G:=G++[.lst (names.map D.str)]) (by rw[J8];rfl) (w::zsL);rw[har]at hk;have hlow:J9 (.str ("abcdefghijklmnopqrstuvwxyz":Str)) (G++[DO.lst (names.map D.str)])=.ok (.pure (Mt.map sgn)) (G++[DO.lst (names.map D.str)]):=rfl;have hzl:(zsL.map D.str).length<=1000000:=by rw[zZ,Q8];decide
 have hzl4:1+(zsL.map D.str).length<=1000000:=by rw[zZ,Q8];decide
 have hzl2:zsL.length<=999999:=by rw[Q8];decide
 have hzl3:zsL.length<=1000000:=by rw[Q8];decide
 have e0:Aw []=("":Str):=by decide +kernel
 have fz1:∀ls:List Str,freeze (G++[.lst (names.map D.str)]) (.ok (.ref (G.length+1)) (G++[.lst (names.map D.str),.lst (ls.map D.str)]))=.ok (.fl (ls.map D.str)) (G++[.lst (names.map D.str)]):=λls=>ZDS Ft
 have fza:=fz1 [w];have fzb:=fz1 zsL;have fzc:=fz1 (w::zsL);have fzd:=fz1 (a::r);have hrl:r.length<=1000000/\r.length<=999999:=by
  have h1:(a::r).length<=(w::zsL).length:=by rw[<-har];exact jX _ _
  simp only[qw,Q8]at h1;lia
 have hnl:names.length<1000000:=by lia
 have hr:inR (m:Int):=Hm (by lia) (by lia);rw[e0,ew]at hw;have hcs1:∀S:DSt,Bx 1 [] S=[vJ]:=λS=>rfl
 have hcs2:∀(a b c d e f g h:Option D),Bx 1 [2] [a,b,c,d,e,f,g,h]=[vJ,c]:=λ_ _ _ _ _ _ _ _=>rfl
 simp only[zz,qA]at fza fzc fzd hk⊢;generalize zsL.map D.str=Z at*;generalize("abcdefghijklmnopqrstuvwxyz":Str)=AB at*;generalize Mt.map sgn=LS at*;unfold W7;simp[-ZOr,hm,hr,hw,hlow,hcs1,hz0,fza,hzl,fzb,fzc,hcs2,hk,hrl,fzd,J8,Ld,hnl,hzl4]
theorem ZLe{l:List Str}{a:Str}(h:l.Nodup)(ha:a∉l):(l++[a]).Nodup:=by rw[List.nodup_append];refine⟨h,by simp,λx hx y hy e=>?_⟩;rw[qV.mp hy]at e;exact ha (e▸hx)
theorem ZGr:∀(xs:List Int)(acc:List Str),(∀x∈xs,0<=x)->acc.length+xs.length<26->∃nm:List Str,nm.length=xs.length/\(acc.Nodup->(acc++nm).Nodup)/\(∀z∈nm,z≠"sea"/\Wd z)/\∀(G:DH)(s0 x3 x4 x5 x6 x7:Option D),∃y3 y4 y5 y6 y7,
  Dj (gV 3) W7 (xs.map D.int) [s0,vZ (.str ("abcdefghijklmnopqrstuvwxyz":Str)),vZ (.ref G.length),x3,x4,x5,x6,x7] (G++[.lst (acc.map D.str)])=
   .nx [s0,vZ (.str ("abcdefghijklmnopqrstuvwxyz":Str)),vZ (.ref G.length),y3,y4,y5,y6,y7] (G++[.lst ((acc++nm).map D.str)])
 |[],acc,_,_=>⟨[],rfl,(λh=>by rw[zP];exact h),(λz hz=>nomatch hz),λG s0 x3 x4 x5 x6 x7=>⟨x3,x4,x5,x6,x7,by rw[qA,Im,zP]⟩⟩
 | x::xs,acc,hx,hl=>by
  simp only[qw]at hl;obtain⟨a,ha0,ha⟩:=ZLo (names:=acc) (x:=x) (hx x (by simp)) (by lia);obtain⟨nm,hn,hd,hs,ih⟩:=ZGr xs (acc++[a]) (λy hy=>hx y (zY _ hy)) (by simp;lia);refine⟨a::nm,by simp[hn],λh=>?_,λz hz=>?_,λG s0 x3 x4 x5 x6 x7=>?_⟩
  ·have h1:=hd (ZLe h ha0.1);rwa[qR]at h1
  ·rcases zq.mp hz with rfl|hz
   ·exact ha0.2
   ·exact hs z hz
  obtain⟨z4,z5,z6,z7,hb⟩:=ha G s0 x4 x5 x6 x7;obtain⟨y3,y4,y5,y6,y7,hL⟩:=ih G s0 (vZ (.int x)) z4 z5 z6 z7;refine⟨y3,y4,y5,y6,y7,?_⟩;rw[zz,Gn];simp only[Di,R.Ib,qD,hb,Ii];rw[hL,qR]
  rfl
theorem ZKy(hx:∀x∈xs,0<=x)(hl:xs.length<26):∃nm:List Str,nm.length=xs.length/\nm.Nodup/\(∀z∈nm,z≠"sea"/\Wd z)/\∀G,Xu [.fl (xs.map D.int)] G=.ok (.ref G.length) (G++[.lst (nm.map D.str)]):=by obtain⟨nm,hn,hd,hs,h⟩:=ZGr xs [] hx (by simpa using hl);refine⟨nm,hn,hd List.nodup_nil,hs,λG=>?_⟩;obtain⟨y3,y4,y5,y6,y7,hL⟩:=h G (vZ (.fl (xs.map D.int))) vJ vJ vJ vJ vJ;simp only[qA,jA]at hL;have td:=Jv (G:=G) (ds:=nm.map D.str) (L:=[]) Ft;unfold Xu ZGN;rw[Bv];generalize("abcdefghijklmnopqrstuvwxyz":Str)=AB at*;simp[Bb,Jv,hL,td]
def nmS(l:List Nat):Str:=if Aw l="sea" then "seat" else Aw l
def nmF(xs:List Int)(w:List Nat)(sz a:Nat)(k:Nat):List Nat:=cutD w vJ (vZ (a:Int))++[97+((gx xs 10+5*(k:Int))%26).toNat]++cutD w (vZ (a:Int)) (vZ (sz:Int))
theorem ZGD(hxl:xs.length=24)(hw:w.length<=1000){sz a:Nat}{s0 s4 s5:Option D}{G:DH}:∀(m k:Nat)(acc:List Str)(x7 x8 x11:Option D),k+m<=12->acc.length+m<=1000->∃y7 y8 y11,
  Dj (gV 7) Sy (Cr k m) [s0,vZ (.str ("abcdefghijklmnopqrstuvwxyz":Str)),vZ (.fl (xs.map D.int)),vZ (.str (Aw w)),s4,s5,vZ (.ref G.length),x7,x8,vZ (.int sz),vZ (.int a),x11] (G++[.lst (acc.map D.str)])=
   .nx [s0,vZ (.str ("abcdefghijklmnopqrstuvwxyz":Str)),vZ (.fl (xs.map D.int)),vZ (.str (Aw w)),s4,s5,vZ (.ref G.length),y7,y8,vZ (.int sz),vZ (.int a),y11] (G++[.lst ((acc++(qX k m).map λk=>nmS (nmF xs w sz a k)).map D.str)])
 |0,k,acc,x7,x8,x11,e,h=>⟨x7,x8,x11,by rw[Jo,Im];simp⟩
 | m+1,k,acc,x7,x8,x11,e,h=>by
  obtain⟨y7,y8,y11,ih⟩:=ZGD hxl hw (sz:=sz) (a:=a) (s0:=s0) (s4:=s4) (s5:=s5) (G:=G) m (k+1) (acc++[nmS (nmF xs w sz a k)]) (vZ (.int k)) (vZ (.str (nmS (nmF xs w sz a k)))) (vZ (.str (Aw [97+((gx xs 10+5*(k:Int))%26).toNat]))) (by lia) (by simp;lia);refine⟨y7,y8,y11,?_⟩;have a10:atI (xs.map D.int) 10=vZ (.int (gx xs 10)):=El (i:=10) (by lia);have m5:∀G,Eb (.int 5) (.int (k:Int)) G=.ok (.int (5*(k:Int))) G:=λG=>Mx (by lia) (by lia)
  have hi:=λG=>Z5 (i:=(gx xs 10+5*(k:Int))%26) (by lia) (by lia) G
  have l1:=Lx w vJ (vZ (a:Int));have l2:=Lx w (vZ (a:Int)) (vZ (sz:Int));have h1:=λG=>Io (l:=w) (lo:=vJ) (hi:=vZ (a:Int)) (by lia) G
  have h2:=λG=>Io (l:=w) (lo:=vZ (a:Int)) (hi:=vZ (sz:Int)) (by lia) G
  have h3:=λG=>add_str (l:=cutD w vJ (vZ (a:Int))) (l':=[97+((gx xs 10+5*(k:Int))%26).toNat]) (by simp;lia) G
  have h4:=λG=>add_str (l:=cutD w vJ (vZ (a:Int))++[97+((gx xs 10+5*(k:Int))%26).toNat]) (l':=cutD w (vZ (a:Int)) (vZ (sz:Int))) (by simp;lia) G
  have hb:Sy [s0,vZ (.str ("abcdefghijklmnopqrstuvwxyz":Str)),vZ (.fl (xs.map D.int)),vZ (.str (Aw w)),s4,s5,vZ (.ref G.length),vZ (.int k),x8,vZ (.int sz),vZ (.int a),x11] (G++[.lst (acc.map D.str)])=
    .nx [s0,vZ (.str ("abcdefghijklmnopqrstuvwxyz":Str)),vZ (.fl (xs.map D.int)),vZ (.str (Aw w)),s4,s5,vZ (.ref G.length),vZ (.int k),vZ (.str (nmS (nmF xs w sz a k))),vZ (.int sz),vZ (.int a),vZ (.str (Aw [97+((gx xs 10+5*(k:Int))%26).toNat]))] (G++[.lst ((acc++[nmS (nmF xs w sz a k)]).map D.str)]):=by
   have hal:acc.length<1000000:=by lia
   unfold nmF nmS;generalize Aw (cutD w vJ (vZ (a:Int))++[97+((gx xs 10+5*(k:Int))%26).toNat]++cutD w (vZ (a:Int)) (vZ (sz:Int)))=nm at*;generalize Aw (cutD w vJ (vZ (a:Int))++[97+((gx xs 10+5*(k:Int))%26).toNat])=nm1 at*;generalize Aw (cutD w vJ (vZ (a:Int)))=nm2 at*;generalize Aw [97+((gx xs 10+5*(k:Int))%26).toNat]=nm3 at*;generalize Aw (cutD w (vZ (a:Int)) (vZ (sz:Int)))=nm4 at*
   generalize Aw w=W at*;generalize("abcdefghijklmnopqrstuvwxyz":Str)=AB at*;unfold Sy;by_cases hs:nm="sea"
   ·have hs':(nm="sea")=True:=by simp[hs]
    simp[-My,-Ma,-Ks,a10,m5,hi,h1,h2,h3,h4,K1,J8,Ld,hal,hs']
   ·simp[-My,-Ma,-Ks,a10,m5,hi,h1,h2,h3,h4,K1,J8,Ld,hal,hs]
  rw[Iv,Gn];simp only[Di,R.Ib,qD,hb,Ii];have e1:((k:Int)+1)=((k+1:Nat):Int):=by lia
  rw[e1,ih,List.range'_succ,zz,qR]
  rfl
noncomputable def wd0(xs:List Int):List Nat:=(xs.take 8).map λx=>97+(x%26).toNat
theorem ZN8(l:List Int)(G:DH):Cw (gV 0) Cu Yd [vJ,vZ (.str ("abcdefghijklmnopqrstuvwxyz":Str))] (l.map D.int) G=.ok ((l.map λx=>97+(x%26).toNat).map sgn) G:=by
 induction l with
 |nil=>rfl
 |cons x l ih=>
  have hi:=Z5 (i:=x%26) (by lia) (by lia) G;have he:Yd [vZ (.int x),vZ (.str ("abcdefghijklmnopqrstuvwxyz":Str))] G=.ok (sgn (97+(x%26).toNat)) G:=by have e2:sgn (97+(x%26).toNat)=.str (Aw [97+(x%26).toNat]):=rfl;rw[e2];generalize("abcdefghijklmnopqrstuvwxyz":Str)=AB at*;unfold Yd;simp[-My,hi]
  rw[zz,Jc];simp[-My,he,ih]
theorem ZKx{cs:List Nat}(h:cs.length<=1000)(G:DH):Qu (.str ("":Str)) [.fl (cs.map sgn)] G=.ok (.str (Aw cs)) G:=by
 have h1:=ZJk (sep:=("":Str)) (ys:=cs.map λc=>(⟨#[c]⟩:Str)) (G:=G) (by
  have e:("":Str).length=0:=by decide +kernel
  rw[e]
  have:∀l:List Nat,((l.map λc=>(⟨#[c]⟩:Str)).map (·.length)).sum=l.length:=λl=>by
   induction l with
   |nil=>rfl
   |cons a l ih=>
    simp only[zz,List.sum_cons,ih,qw];show 1+l.length=_;lia
  rw[this];lia)
 rw[ZO5,q8]at h1;exact h1
theorem addR{p:Nat}{xs ys:List D}(h:G[p]?=vZ (.lst xs))(hl:xs.length+ys.length<=1000000):Ba (.ref p) (.fl ys) G=.ok (.ref G.length) (G++[.lst (xs++ys)]):=by simp[Ba,Ik,h,hl]
theorem slR{p:Nat}{xs:List D}(h:G[p]?=vZ (.lst xs)):Ln (.ref p) lo hi G=.ok (.ref G.length) (G++[.lst (cutD xs lo hi)]):=by simp[Ln,Ik,h]
def sea2(x:Str):Str:=if x="sea" then "sa" else x
structure NmOk (nm:List Str):Prop where
 nd:nm.Nodup
 sea:∀z∈nm,z≠"sea"
 wd:∀z∈nm,Wd z
theorem Jj(h:Aw l=Aw l'):l=l':=by have h1:l.toArray=l'.toArray:=congrArg Str.cps h;simpa using h1
theorem R7:("sea":Str)=Aw [115,101,97]:=by decide +kernel
theorem ZB3:("sa":Str)=Aw [115,97]:=by decide +kernel
theorem ZA3:("seat":Str)=Aw [115,101,97,116]:=by decide +kernel
theorem ZNy(h:sea2 (Aw l)=sea2 (Aw l'))(hp:∀a b,l=[115,a,b]->l'≠[115,97]∨a=97)(hp':∀a b,l'=[115,a,b]->l≠[115,97]∨a=97):l=l':=by
 unfold sea2 at h;split at h
 ·rename_i h1;rw[R7]at h1;have e:=Jj h1;split at h
  ·rename_i h2;rw[R7]at h2;rw[e,Jj h2]
  ·rw[ZB3]at h;have e2:=Jj h;rcases hp _ _ e with z|z
   ·exact absurd e2.symm z
   ·cases z
 ·split at h
  ·rename_i h2;rw[R7]at h2;have e:=Jj h2;rw[ZB3]at h;have e2:=Jj h;rcases hp' _ _ e with z|z
   ·exact absurd e2 z
   ·cases z
  ·exact Jj h
theorem ZKI(x:Str):sea2 x≠"sea":=by
 unfold sea2;split
 ·decide +kernel
 ·assumption
theorem ZOi(h:NmOk nm)(r:Nat):NmOk (nm.drop r++nm.take r):=by
 have p:List.Perm (nm.drop r++nm.take r) nm:=by have:=List.perm_append_comm (l₁:=nm.drop r) (l₂:=nm.take r);rwa[j3]at this
 exact⟨p.nodup_iff.mpr h.nd,λz hz=>h.sea z (p.mem_iff.mp hz),λz hz=>h.wd z (p.mem_iff.mp hz)⟩
theorem ZIf{l:List α}(h:∀i j(hi:i<l.length)(hj:j<l.length),l[i]=l[j]->i=j):l.Nodup:=by rw[List.nodup_iff_pairwise_ne,List.pairwise_iff_getElem];intro i j hi hj hij e;have:=h i j hi hj e;lia
theorem ZKa{l:List α}(h:l.Nodup)(hi:i<l.length)(hj:j<l.length)(e:l[i]=l[j]):i=j:=by
 rw[List.nodup_iff_pairwise_ne,List.pairwise_iff_getElem]at h;rcases Nat.lt_trichotomy i j with z|z|z
 ·exact absurd e (h i j hi hj z)
 ·exact z
 ·exact absurd e.symm (h j i hj hi z)
theorem ZFH{x:Nat}{r:List Nat}:∀{m:Nat},(x::w).take m=a::r->x=a
 |0,h=>by cases h
 |m+1,h=>by rw[List.take_succ_cons]at h;exact(List.cons.inj h).1
theorem ZHq(h:LL l):Wd (sea2 (Aw l)):=by
 unfold sea2;split
 ·exact⟨[115,97],ZB3,by simp,by simp,by decide⟩
 ·exact⟨l,rfl,h⟩
theorem ZJw(h:LL l):Wd (nmS l):=by
 unfold nmS;split
 ·exact⟨[115,101,97,116],ZA3,by simp,by simp,by decide⟩
 ·exact⟨l,rfl,h⟩
theorem ZGJ(hc:97<=c/\c<123)(hw:∀x∈w,97<=x/\x<123)(hk:k<8):LL ((c::w).take (k+1)):=by
 refine⟨?_,?_,λx hx=>?_⟩
 ·rw[qW,qw];lia
 ·rw[qW];lia
 ·rcases zq.mp (zT hx)with rfl|hx
  ·exact hc
  ·exact hw x hx
theorem ZQm{d:Nat}(hw:w.length=7)(hcd:c≠d)(hc':97<=c/\c<123)(hd':97<=d/\d<123)(hww:∀x∈w,97<=x/\x<123):NmOk ((((zy 8).map λk=>Aw ((c::w).take (k+1)))++(zy 4).map λk=>Aw ((d::w).take (k+1))).map sea2):=by
 refine⟨ZIf λi j hi hj e=>?_,λz hz=>?_,λz hz=>?_⟩
 ·clear hc' hd' hww;simp only[zZ,zU,List.length_range]at hi hj;have g:∀i(h:i<((((zy 8).map λk=>Aw ((c::w).take (k+1)))++(zy 4).map λk=>Aw ((d::w).take (k+1))).map sea2).length),
    ((((zy 8).map λk=>Aw ((c::w).take (k+1)))++(zy 4).map λk=>Aw ((d::w).take (k+1))).map sea2)[i]=sea2 (Aw (if i<8 then c::w.take i else d::w.take (i-8))):=λi h=>by
   rw[List.getElem_map];by_cases h8:i<8
   ·rw[List.getElem_append_left (by simpa using h8),if_pos h8];simp
   ·rw[List.getElem_append_right (by simp;lia),if_neg h8];simp
  rw[g,g]at e;have key:=ZNy e ?_ ?_
  ·split at key<;>split at key
   ·have:=congrArg List.length (List.cons.inj key).2;simp at this;lia
   ·exact absurd (List.cons.inj key).1 hcd
   ·exact absurd (List.cons.inj key).1.symm hcd
   ·have:=congrArg List.length (List.cons.inj key).2;simp at this;lia
  all_goals
   intro a b h1;cases w with
   |nil=>cases hw
   | cons x w=>
    refine Classical.or_iff_not_imp_right.mpr λha h2=>?_
    have key:∀p q:Nat,(if p<8 then c::(x::w).take p else d::(x::w).take (p-8))=[115,a,b]->(if q<8 then c::(x::w).take q else d::(x::w).take (q-8))=[115,97]->False:=λp q z1 z2=>by
     have t1:∀m r,(x::w).take m=a::r->x=a:=λm r z=>ZFH z
     split at z1<;>split at z2<;>exact ha ((ZFH (List.cons.inj z1).2).symm.trans (ZFH (List.cons.inj z2).2))
    exact key _ _ h1 h2
 ·obtain⟨x,_,rfl⟩:=zC.mp hz;exact ZKI x
 ·obtain⟨x,hx,rfl⟩:=zC.mp hz;rcases zM.mp hx with hx|hx
  ·obtain⟨k,hk,rfl⟩:=zC.mp hx;have:=q9.mp hk;exact ZHq (ZGJ hc' hww this)
  ·obtain⟨k,hk,rfl⟩:=zC.mp hx;have:=q9.mp hk;exact ZHq (ZGJ hd' hww (by lia))
theorem ZKi(hl:l.length=l'.length)(h:nmS l=nmS l'):l=l':=by
 unfold nmS at h;split at h
 ·rename_i h1;rw[R7]at h1;have e:=Jj h1;split at h
  ·rename_i h2;rw[R7]at h2;rw[e,Jj h2]
  ·rw[ZA3]at h;rw[e,<-Jj h]at hl;cases hl
 ·split at h
  ·rename_i h2;rw[R7]at h2;rw[ZA3]at h;rw[Jj h2,Jj h]at hl;cases hl
  ·exact Jj h
theorem ZNt(l:List Nat):nmS l≠"sea":=by
 unfold nmS;split
 ·decide +kernel
 ·assumption
theorem ZPD{X Y:List Nat}{g:Int}(hl:X.length+Y.length<=7)(hX:∀x∈X,97<=x/\x<123)(hY:∀x∈Y,97<=x/\x<123):NmOk ((qX 0 12).map λk:Nat=>nmS (X++[97+((g+5*(k:Int))%26).toNat]++Y)):=by
 refine⟨ZIf λi j hi hj e=>?_,λz hz=>?_,λz hz=>?_⟩
 ·clear hl hX hY;simp only[zZ,List.length_range']at hi hj;simp only[List.getElem_map,List.getElem_range',Nat.zero_add,Nat.one_mul]at e;have e1:=ZKi (by simp) e;have e2:=List.append_cancel_right e1;have e3:=List.append_cancel_left e2;have e4:97+((g+5*(i:Int))%26).toNat=97+((g+5*(j:Int))%26).toNat:=(List.cons.inj e3).1;omega +splitNatSub
 ·obtain⟨x,_,rfl⟩:=zC.mp hz;exact ZNt _
 ·obtain⟨x,_,rfl⟩:=zC.mp hz;refine ZJw ⟨by simp;lia,by simp;lia,λy hy=>?_⟩;rcases zM.mp hy with hy|hy
  ·rcases zM.mp hy with hy|hy
   ·exact hX y hy
   ·rw[qV.mp hy];lia
  ·exact hY y hy
theorem ZQU:∀i,i<26->Txt.find ("abcdefghijklmnopqrstuvwxyz":Str) (Aw [97+i])=(i:Int):=by decide +kernel
theorem ZPt{p:Nat}{l:List Str}(h:G[p]?=vZ (.lst (l.map D.str))):Ip p (gV 0) Cu Zr [vJ] l.length 0 G=.ok ((l.map sea2).map D.str) G:=by
 have h1:=ZKf (g:=gV 0) (c:=Cu) (te:=Zr) (S:=[vJ]) (F:=λd=>match d with
  |.str x=>vZ (.str (sea2 x))
  | _=>vJ) h (λx hx=>by
   obtain⟨y,_,rfl⟩:=zC.mp hx;refine⟨[vZ (.str y)],rfl,.inr ⟨rfl,.str (sea2 y),?_,rfl⟩⟩;have fz:freeze G (.ok (.ref G.length) (G++[.lst [.str y,.str "sa"]]))=.ok (.fl [.str y,.str "sa"]) G:=Ck rfl;unfold Zr sea2;by_cases hs:y="sea"
   ·have hs':(y="sea")=True:=by simp[hs]
    simp[fz,hs']
   ·simp[fz,hs])
 rw[zZ]at h1;rw[h1,qU,q8]
 congr 1
 show List.filterMap (λx=>vZ ((D.str∘sea2) x)) l=_;rw[List.filterMap_eq_map']
theorem ZLS(hw:w.length<=1000)(n:Nat)(G:DH):Cw (gV 0) Cu Y5 [vJ,vZ (.str (Aw w))] (Cr 0 n) G=.ok (((zy n).map λk:Nat=>Aw (cutD w vJ (vZ ((k:Int)+1)))).map D.str) G:=by
 rw[q8];exact ZAw (te:=Y5) (S:=[vJ,vZ (.str (Aw w))]) λk _=>by have h:=Io (l:=w) (lo:=vJ) (hi:=vZ ((k:Int)+1)) (by lia) G;unfold Y5;simp[-Ks,h,K1]
theorem ZKY(hw:w.length<=1000)(n:Nat)(G:DH):Cw (gV 0) Cu Vu [vJ,vZ (.str (Aw w))] (Cr 0 n) G=.ok (((zy n).map λk:Nat=>Aw (cutD w vJ (vZ ((k:Int)+1)))).map D.str) G:=by
 rw[q8];exact ZAw (te:=Vu) (S:=[vJ,vZ (.str (Aw w))]) λk _=>by have h:=Io (l:=w) (lo:=vJ) (hi:=vZ ((k:Int)+1)) (by lia) G;unfold Vu;simp[-Ks,h,K1]
theorem Vg{xs:List α}{x:α}(h:x∈cutD xs lo hi):x∈xs:=by unfold cutD at h;exact qE (zT h)
theorem ZOc{xs:List α}(hab:a<=b)(hb:b<=xs.length):cutD xs (vZ (a:Int)) (vZ (b:Int))=(xs.drop a).take (b-a):=by
 have h1:=(Jq xs.length (a:Int)).2;have h2:=(Jq xs.length (b:Int)).1;have e1:HT.sIx xs.length 0 (vZ (a:Int))=a:=by lia
 have e2:HT.sIx xs.length xs.length (vZ (b:Int))=b:=by lia
 unfold cutD;rw[e1,e2]
theorem ZNs(hxl:xs.length=24)(hx:∀x∈xs,0<=x)(hw8:w.length=7)(hc:97<=c/\c<123)(hww:∀x∈w,97<=x/\x<123):∃nm:List Str,nm.length=12/\NmOk nm/\∀(G:DH)(s0:Option D),∃k L,
  V0 [s0,vZ (.str ("abcdefghijklmnopqrstuvwxyz":Str)),vZ (.fl (xs.map D.int)),vZ (.str (Aw (c::w))),vJ,vJ,vJ,vJ,vJ,vJ,vJ,vJ] G=.rt (.ref (G.length+k)) (G++L)/\L[k]?=vZ (.lst (nm.map D.str)):=by
 have hw:(c::w).length<=100:=by simp[hw8]
 have a8:atI (xs.map D.int) 8=vZ (.int (gx xs 8)):=El (i:=8) (by lia);have a9:atI (xs.map D.int) 9=vZ (.int (gx xs 9)):=El (i:=9) (by lia);have a10:atI (xs.map D.int) 10=vZ (.int (gx xs 10)):=El (i:=10) (by lia);by_cases h8:gx xs 8%3=0
 ·obtain⟨t,et⟩:∃t:Int,(Txt.find ("abcdefghijklmnopqrstuvwxyz":Str) (Aw [c])+1+gx xs 9%25)%26=t:=⟨_,rfl⟩;have ht:0<=t/\t<26:=by lia
  let o:List Nat:=[97+t.toNat]++cutD (c::w) (vZ 1) vJ;obtain⟨r,hr⟩:∃r:Nat,gx xs 10%12=r:=⟨(gx xs 10%12).toNat,by lia⟩;have hr12:r<12:=by lia
  obtain⟨A,hA⟩:∃A:List Str,((zy 8).map λk:Nat=>Aw (cutD (c::w) vJ (vZ ((k:Int)+1))))=A:=⟨_,rfl⟩;obtain⟨B,hB⟩:∃B:List Str,((zy 4).map λk:Nat=>Aw (cutD o vJ (vZ ((k:Int)+1))))=B:=⟨_,rfl⟩;have lA:A.length=8:=by rw[<-hA];simp
  have lB:B.length=4:=by rw[<-hB];simp
  have eA:A=(zy 8).map λk=>Aw ((c::w).take (k+1)):=by
   rw[<-hA];refine jj λk hk=>?_
   have hk':=q9.mp hk;have e:(k:Int)+1=((k+1:Nat):Int):=by lia
   rw[e,Ls (by simp[hw8];lia)]
  have eo:o=(97+t.toNat)::w:=by
   show[97+t.toNat]++cutD (c::w) (vZ 1) vJ=_;have e:cutD (c::w) (vZ ((1:Nat):Int)) vJ=(c::w).drop 1:=Qd (by simp);have e':cutD (c::w) (vZ 1) vJ=w:=e;rw[e']
   rfl
  have eB:B=(zy 4).map λk=>Aw (((97+t.toNat)::w).take (k+1)):=by
   rw[<-hB,eo];refine jj λk hk=>?_
   have hk':=q9.mp hk;have e:(k:Int)+1=((k+1:Nat):Int):=by lia
   rw[e,Ls (by simp[hw8];lia)]
  have hcd:c≠97+t.toNat:=by have hf:=ZQU (c-97) (by lia);rw[show 97+(c-97)=c by lia]at hf;rw[hf]at et;lia
  have hok:NmOk (((A++B).map sea2).drop r++((A++B).map sea2).take r):=ZOi (by rw[eA,eB];exact ZQm hw8 hcd hc (by lia) hww) r;refine⟨((A++B).map sea2).drop r++((A++B).map sea2).take r,by simp[lA,lB];lia,hok,λG s0=>?_⟩;clear hok eA eB eo;have l1:=Lx (c::w) (vZ 1) vJ;have c1:=λG=>ZLS (w:=c::w) (by lia) 8 G
  have c2:=λG=>ZKY (w:=o) (by simp[o];lia) 4 G
  rw[hA]at c1;rw[hB]at c2;have hi:=λG=>Z5 (i:=t) ht.1 ht.2 G
  have h0:=λG=>ZRD (c:=c) (l:=w) (by lia) G
  have h1:=λG=>Io (l:=c::w) (lo:=vZ 1) (hi:=vJ) (by lia) G
  have h2:=λG=>add_str (l:=[97+t.toNat]) (l':=cutD (c::w) (vZ 1) vJ) (by simp;lia) G
  have e2:Aw ([97+t.toNat]++cutD (c::w) (vZ 1) vJ)=Aw o:=rfl;rw[e2]at h2
  clear_value o
  have r8:inR 8:=Hm (by lia) (by lia);have r4:inR 4:=Hm (by lia) (by lia);have lA':(A.map D.str).length<=1000000:=by simp[lA]
  have lB':(B.map D.str).length<=1000000:=by simp[lB]
  have hAB:A.map D.str++B.map D.str=(A++B).map D.str:=by simp
  have lAB:(A.map D.str).length+(B.map D.str).length<=1000000:=by simp[lA,lB]
  have ad:=addR (p:=G.length) (xs:=A.map D.str) (ys:=B.map D.str) (G:=G++[.lst (A.map D.str)]) (by rw[J8];rfl) lAB;rw[hAB]at ad;have fzB:freeze (G++[.lst (A.map D.str)]) (.ok (.ref (G.length+1)) (G++[.lst (A.map D.str),.lst (B.map D.str)]))=.ok (.fl (B.map D.str)) (G++[.lst (A.map D.str)]):=ZDS Ft;have td1:tidy (G++[.lst (A.map D.str)]) (.ok (.ref (G.length+1)) (G++[.lst (A.map D.str),.lst ((A++B).map D.str)]))=.ok (.ref (G.length+1)) (G++[.lst (A.map D.str),.lst ((A++B).map D.str)]):=ZQs Ft
  have g2:(G++[DO.lst (A.map D.str),DO.lst ((A++B).map D.str)])[G.length+1]?=vZ (.lst ((A++B).map D.str)):=by simp
  have sc:=ZPt g2;have lC:((A++B).map D.str).length=(A++B).length:=by simp
  have lS:((A++B).map sea2).length=12:=by simp[lA,lB]
  have lAB2:(A++B).length=12:=by simp[lA,lB]
  generalize(A++B).map sea2=C at sc lS⊢;generalize A++B=Q at*;have lC':(C.map D.str).length<=1000000:=by simp[lS]
  have ct:cutD (C.map D.str) vJ (vZ (r:Int))=(C.take r).map D.str:=by rw[Ls (by simp;lia),jJ]
  have cd:cutD (C.map D.str) (vZ (r:Int)) vJ=(C.drop r).map D.str:=by rw[Qd (by simp;lia),jx]
  have sl1:=λlo hi=>slR (p:=G.length+2) (xs:=C.map D.str) (lo:=lo) (hi:=hi) (G:=G++[.lst (A.map D.str),.lst (Q.map D.str),.lst (C.map D.str)]) (by simp)
  have fz3:∀ls:List Str,freeze (G++[.lst (A.map D.str),.lst (Q.map D.str),.lst (C.map D.str)]) (.ok (.ref (G.length+3)) (G++[.lst (A.map D.str),.lst (Q.map D.str),.lst (C.map D.str),.lst (ls.map D.str)]))=.ok (.fl (ls.map D.str)) (G++[.lst (A.map D.str),.lst (Q.map D.str),.lst (C.map D.str)]):=λls=>by have:=Ck (G:=G++[.lst (A.map D.str),.lst (Q.map D.str),.lst (C.map D.str)]) (ds:=ls.map D.str) (L:=[]) Ft;simpa using this
  have lcc:((C.drop r).map D.str).length+((C.take r).map D.str).length<=1000000:=by simp[lS];lia
  have fzd:=fz3 (C.drop r);have fzt:=fz3 (C.take r);refine⟨3,[.lst (A.map D.str),.lst (Q.map D.str),.lst (C.map D.str),.lst ((C.drop r++C.take r).map D.str)],?_,rfl⟩;rw[zR];generalize(C.drop r).map D.str=X1 at*;generalize(C.take r).map D.str=X2 at*;generalize C.map D.str=X3 at*;have it2:J9 (.ref (G.length+1)) (G++[DO.lst (A.map D.str),DO.lst (Q.map D.str)])=.ok (.mt (G.length+1)) (G++[DO.lst (A.map D.str),DO.lst (Q.map D.str)]):=by simp[J9]
  rw[lAB2]at sc;have lQ:(Q.map D.str).length=12:=by rw[zZ,lAB2]
  generalize Q.map D.str=X4 at*;generalize A.map D.str=X5 at*;generalize B.map D.str=X6 at*;have cs1:∀a b c d e f' g h i j k' l:Option D,Bx 1 [3] [a,b,c,d,e,f',g,h,i,j,k',l]=[vJ,d]:=λ_ _ _ _ _ _ _ _ _ _ _ _=>rfl
  have cs2:∀a b c d e f' g h i j k' l:Option D,Bx 1 [5] [a,b,c,d,e,f',g,h,i,j,k',l]=[vJ,f']:=λ_ _ _ _ _ _ _ _ _ _ _ _=>rfl
  have cs3:∀S:DSt,Bx 1 [] S=[vJ]:=λ_=>rfl
  generalize Aw o=O at*;generalize Aw (cutD (c::w) (vZ 1) vJ)=O1 at*;generalize Aw [97+t.toNat]=O2 at*;generalize Aw (c::w)=O3 at*;generalize Aw [c]=O4 at*;generalize("abcdefghijklmnopqrstuvwxyz":Str)=AL at*;unfold V0;simp[-My,-Ma,-Ks,a8,a9,a10,h8,h0,et,hi,h1,K1,h2,r8,cs1,c1,lA',r4,cs2,c2,lB',fzB,ad,td1,it2,g2,lQ,cs3,sc,lC',hr,sl1,ct,cd,fzd,fzt,lcc]
 ·obtain⟨sz,hsz⟩:∃sz:Nat,gx xs 8/3%8=sz:=⟨(gx xs 8/3%8).toNat,by lia⟩;obtain⟨a,ha⟩:∃a:Nat,gx xs 9%((sz:Int)+1)=a:=⟨(gx xs 9%((sz:Int)+1)).toNat,by have:=zF (gx xs 9) (show((sz:Int)+1)≠0 by lia);lia⟩
  have hasz:a<=sz:=by have:=zE (gx xs 9) (show(0:Int)<(sz:Int)+1 by lia);lia
  refine⟨(qX 0 12).map λk=>nmS (nmF xs (c::w) sz a k),by simp,ZPD (by have h1:(cutD (c::w) vJ (vZ (a:Int)))=(c::w).take a:=Ls (by simp[hw8];lia);have h2:=ZOc (xs:=c::w) (a:=a) (b:=sz) (by lia) (by simp[hw8];lia);rw[h1,h2];simp;lia) (λx hx=>by have:=Vg hx;rcases zq.mp this with rfl|h;exact hc;exact hww x h) (λx hx=>by have:=Vg hx;rcases zq.mp this with rfl|h;exact hc;exact hww x h),λG s0=>?_⟩
  obtain⟨y7,y8,y11,hL⟩:=ZGD hxl (w:=c::w) (by lia) (sz:=sz) (a:=a) (s0:=s0) (s4:=vJ) (s5:=vJ) (G:=G) 12 0 [] vJ vJ vJ (by lia) (by simp);have hL':Dj (gV 7) Sy (Cr 0 12) [s0,vZ (.str ("abcdefghijklmnopqrstuvwxyz":Str)),vZ (.fl (xs.map D.int)),vZ (.str (Aw (c::w))),vJ,vJ,vZ (.ref G.length),vJ,vJ,vZ (.int sz),vZ (.int a),vJ] (G++[.lst []])=_:=hL;rw[jA]at hL'
  refine⟨0,[.lst (((qX 0 12).map λk=>nmS (nmF xs (c::w) sz a k)).map D.str)],?_,rfl⟩;generalize((qX 0 12).map λk=>nmS (nmF xs (c::w) sz a k)).map D.str=Z at*;generalize Aw (c::w)=W at*;generalize("abcdefghijklmnopqrstuvwxyz":Str)=AL at*;have r12:inR 12:=Hm (by lia) (by lia);have hp:(0:Int)<(sz:Int)+1:=by lia
  unfold V0 ZHk ZGA ZFp ZFT ZHW;simp[a8,a9,h8,hsz,hp,ha,Bb,Jv,r12,hL']
theorem ZKT:∃nm:List Str,nm.length=12/\NmOk nm/\∀G,Mi [.int cell] G=.ok (.ref G.length) (G++[.lst (nm.map D.str)]):=by
 have hst:∀G,freeze G (Kp [.int cell,.int 0,.int 24] G)=.ok (.fl ((Ha cell 0 24).map D.int)) G:=λG=>ZBP (cell:=cell) (k:=0) (n:=24) (by lia) (by lia) G
 have hxl:(Ha cell 0 24).length=24:=ZEI;have hx:∀x∈Ha cell 0 24,0<=x:=ZI0;generalize Ha cell 0 24=xs at*;have a10:atI (xs.map D.int) 10=vZ (.int (gx xs 10)):=El (i:=10) (by lia);have a11:atI (xs.map D.int) 11=vZ (.int (gx xs 11)):=El (i:=11) (by lia);by_cases h11:2147483647<gx xs 11
 ·obtain⟨nm,hn,hnd,hns,hf⟩:=ZKy (xs:=(xs.drop 11).take (23-11)) (λx h=>hx x (qE (zT h))) (by simp;lia);refine⟨nm,by rw[hn];simp;lia,⟨hnd,λz h=>(hns z h).1,λz h=>(hns z h).2⟩,λG=>?_⟩;have cu:=ZBo (xs:=xs) (a:=11) (b:=23) (by lia) (by lia);have cu':cutD (xs.map D.int) (vZ 11) (vZ 23)=((xs.drop 11).take (23-11)).map D.int:=cu;generalize(xs.drop 11).take (23-11)=ys at*
  have fz:freeze G (.ok (.ref G.length) (G++[.lst (ys.map D.int)]))=.ok (.fl (ys.map D.int)) G:=Ck Iw;have td:=Jv (G:=G) (ds:=nm.map D.str) (L:=[]) Ft;generalize nm.map D.str=N at*;unfold Mi Tf Rj Uh;rw[Bv];simp[hst,a11,h11,cu',fz,hf,td]
 ·have cu':cutD (xs.map D.int) vJ (vZ 8)=(xs.take 8).map D.int:=by rw[jJ];exact Ls (a:=8) (by simp;lia)
  have lw:(wd0 xs).length=8:=by simp[wd0];lia
  have wd_let:∀x∈wd0 xs,97<=x/\x<123:=λx hx=>by obtain⟨y,_,rfl⟩:=zC.mp hx;lia
  have wc:=λG=>ZN8 (xs.take 8) G
  have jw:=λG=>ZKx (cs:=wd0 xs) (by lia) G
  have fz:∀G:DH,freeze G (.ok (.ref G.length) (G++[.lst ((wd0 xs).map sgn)]))=.ok (.fl ((wd0 xs).map sgn)) G:=λG=>Ck (Jd λ_ _=>rfl)
  have fzi:∀G:DH,freeze G (.ok (.ref G.length) (G++[.lst ((xs.take 8).map D.int)]))=.ok (.fl ((xs.take 8).map D.int)) G:=λG=>Ck Iw
  have ew:(xs.take 8).map (λx=>97+(x%26).toNat)=wd0 xs:=rfl;rw[ew]at wc;have cs1:∀a b c d e f' g h i j k' l:Option D,Bx 1 [1] [a,b,c,d,e,f',g,h,i,j,k',l]=[vJ,b]:=λ_ _ _ _ _ _ _ _ _ _ _ _=>rfl
  have lw2:(wd0 xs).length<=1000000:=by lia
  generalize(xs.take 8).map D.int=X8 at*;have fin:∃(c:Nat)(w:List Nat),w.length=7/\(97<=c/\c<123)/\(∀x∈w,97<=x/\x<123)/\∀G,Mi [.int cell] G=tidy G (V0 [vZ (.int cell),vZ (.str ("abcdefghijklmnopqrstuvwxyz":Str)),vZ (.fl (xs.map D.int)),vZ (.str (Aw (c::w))),vJ,vJ,vJ,vJ,vJ,vJ,vJ,vJ] G).ret:=by
   by_cases h10:gx xs 10/26%4=0
   ·have l5:(cutD (wd0 xs) (vZ 3) vJ).length=5:=by have:=Qd (xs:=wd0 xs) (a:=3) (by lia);have e3:cutD (wd0 xs) (vZ 3) vJ=(wd0 xs).drop 3:=this;rw[e3,qK,lw]
    have s3:=λG=>Io (l:=wd0 xs) (lo:=vZ 3) (hi:=vJ) (by lia) G
    have fz2:∀G:DH,freeze G (.ok (.ref G.length) (G++[.lst [.str "sea",.str "none"]]))=.ok (.fl [.str "sea",.str "none"]) G:=λG=>Ck rfl
    have key:∀(c:Nat)(l0:List Nat),l0.length=2∨l0.length=3->∀G,Ba (.str (Aw (c::l0))) (.str (Aw (cutD (wd0 xs) (vZ 3) vJ))) G=.ok (.str (Aw (c::(l0++cutD (wd0 xs) (vZ 3) vJ)))) G/\Ln (.str (Aw (c::(l0++cutD (wd0 xs) (vZ 3) vJ)))) vJ (vZ 8) G=.ok (.str (Aw (c::(l0++cutD (wd0 xs) (vZ 3) vJ).take 7))) G:=λc l0 h0 G=>by
     refine⟨add_str (l:=c::l0) (l':=cutD (wd0 xs) (vZ 3) vJ) (by simp[l5];lia) G,?_⟩;rw[Io (by simp[l5];lia)];have:=Ls (xs:=c::(l0++cutD (wd0 xs) (vZ 3) vJ)) (a:=8) (by simp[l5];lia);have e8:cutD (c::(l0++cutD (wd0 xs) (vZ 3) vJ)) vJ (vZ 8)=(c::(l0++cutD (wd0 xs) (vZ 3) vJ)).take 8:=this;rw[e8,List.take_succ_cons]
    rcases(by lia:gx xs 10/104%2=0∨gx xs 10/104%2=1)with z|z
    ·have es:("sea":Str)=Aw (115::[101,97]):=by decide +kernel
     have k1:=λG=>(key 115 [101,97] (by simp) G).1
     have k2:=λG=>(key 115 [101,97] (by simp) G).2
     refine⟨115,([101,97]++cutD (wd0 xs) (vZ 3) vJ).take 7,by simp[l5],by lia,(λx hx=>by rcases zM.mp (zT hx)with h|h;(simp at h;lia);exact wd_let x (Vg h)),λG=>?_⟩;rw[<-es]at k1;generalize Aw (115::([101,97]++cutD (wd0 xs) (vZ 3) vJ))=Q1 at*;generalize Aw (115::([101,97]++cutD (wd0 xs) (vZ 3) vJ).take 7)=Q2 at*;generalize Aw (cutD (wd0 xs) (vZ 3) vJ)=Q3 at*
     generalize Aw (wd0 xs)=Q4 at*;unfold Mi Tf Rj Uh Vc Za;rw[Bv];generalize("abcdefghijklmnopqrstuvwxyz":Str)=AL at*;simp[-Ma,-Ks,hst,a11,h11,cu',fzi,cs1,wc,lw2,fz,jw,a10,h10,z,fz2,s3,K1,k1,k2]
    ·have es:("none":Str)=Aw (110::[111,110,101]):=by decide +kernel
     have k1:=λG=>(key 110 [111,110,101] (by simp) G).1
     have k2:=λG=>(key 110 [111,110,101] (by simp) G).2
     refine⟨110,([111,110,101]++cutD (wd0 xs) (vZ 3) vJ).take 7,by simp[l5],by lia,(λx hx=>by rcases zM.mp (zT hx)with h|h;(simp at h;lia);exact wd_let x (Vg h)),λG=>?_⟩;rw[<-es]at k1;generalize Aw (110::([111,110,101]++cutD (wd0 xs) (vZ 3) vJ))=Q1 at*;generalize Aw (110::([111,110,101]++cutD (wd0 xs) (vZ 3) vJ).take 7)=Q2 at*;generalize Aw (cutD (wd0 xs) (vZ 3) vJ)=Q3 at*
     generalize Aw (wd0 xs)=Q4 at*;unfold Mi Tf Rj Uh Vc Za;rw[Bv];generalize("abcdefghijklmnopqrstuvwxyz":Str)=AL at*;simp[-Ma,-Ks,hst,a11,h11,cu',fzi,cs1,wc,lw2,fz,jw,a10,h10,z,fz2,s3,K1,k1,k2]
   ·cases hcw:wd0 xs with
    |nil=>rw[hcw]at lw;cases lw
    | cons c w=>
     have hc97:97<=c/\c<123:=by
      have hm:c∈wd0 xs:=by rw[hcw];exact z8
      obtain⟨y,_,rfl⟩:=zC.mp hm;lia
     refine⟨c,w,by rw[hcw]at lw;simpa using lw,hc97,(λx hx=>wd_let x (by rw[hcw];exact zY _ hx)),λG=>?_⟩;rw[<-hcw];generalize Aw (wd0 xs)=Q4 at*;unfold Mi Tf Rj Uh Vc Za;rw[Bv];generalize("abcdefghijklmnopqrstuvwxyz":Str)=AL at*;simp[hst,a11,h11,cu',fzi,cs1,wc,lw2,fz,jw,a10,h10]
  obtain⟨c,w,hw,hc,hww,hf⟩:=fin;obtain⟨nm,hn,hok,ht⟩:=ZNs hxl hx hw hc hww;refine⟨nm,hn,hok,λG=>?_⟩;obtain⟨k,L,h1,h2⟩:=ht G (vZ (.int cell));rw[hf,h1];exact ZGC L h2 Ft
noncomputable def Ij(nm:List Str)(k:Nat):Str:=nm.getD k ""
theorem Rv(h:k<nm.length):nm[k]=Ij nm k:=by simp[Ij,zB,zQ h]
def S7(nm:List Str):Option Nat->Str
 |none=>"sea"
 |some d=>(Ij nm d)
def Ua(nm:List Str):Option (Nat×Nat×Int)->D
 |none=>.non
 |some (to,dl,m)=>.tup [.str ((Ij nm to)),.int dl,.int m]
def Ku(nm:List Str)(p:Pl):D:=match p.kd with
 |.basin b r q=>.tup [.str "basin",.str p.nm,.str (S7 nm p.dn),.int p.dl,.int b,.tup (r.map Aq),Ua nm q]
 |.town a b=>.tup [.str "town",.str p.nm,.str (S7 nm p.dn),.int p.dl,.int a,.int b]
 |.mill a=>.tup [.str "mill",.str p.nm,.str (S7 nm p.dn),.int p.dl,.int a]
structure PlG (n k:Nat) (p:Pl):Prop where
 dn:∀d,p.dn=vZ d->k<d/\d<n
 dl:p.dl<=5
 pump:∀b r to dl m,p.kd=.basin b r (vZ (to,dl,m))->to<n/\1<=dl/\dl<=5
 brim:∀b r q,p.kd=.basin b r q->0<=b/\∀s∈r,Good 0 s.2
 town:∀a b,p.kd=.town a b->0<=a/\0<=b
 nop:∀b r,p.kd=.basin b r vJ->∀s∈r,∀t∈s.2,t.r=vX
def Asc(yr:Int):Int->List Ssn->Prop
 |_,[]=>True
 |a,s::r=>a<s.1/\s.1<yr/\Asc yr s.1 r
structure PlW (yr:Int) (k:Nat) (p:Pl):Prop where
 mill:∀a,p.kd=.mill a->0<=a
 asc:∀b r q,p.kd=.basin b r q->Asc yr (-1) r/\(∃st r',r=(0,st)::r')/\(∀s∈r,s.2.length<=100)
 pq:∀b r to dl m,p.kd=.basin b r (vZ (to,dl,m))->to≠k/\0<=m/\∀s∈r,(pmps s.2).sum<=m
theorem ZFV:∀{st:List Stp}{t:Int},Good t st->0<=(pmps st).sum
 |[],_,_=>jC _
 |s::st,t,h=>by
  have ih:=ZFV h.2.2;unfold pmps at ih⊢;rw[qC];split
  ·rw[zz,List.sum_cons];have:=h.2.1;lia
  ·exact ih
theorem Z0{p:Bool}:∀(m j:Nat)(b a:Int),a<b->(j=0->b<yr)->Asc yr a (ruF xs big yr p m j b)
 |0,_,_,_,_,_=>trivial
 | m+1,j,b,a,h,hj=>by
  unfold ruF;split
  ·rename_i hc;refine⟨h,?_,Z0 m (j+1) _ _ ?_ (λz=>by lia)⟩
   ·rcases hc with z|z
    ·exact hj z
    ·exact z.2
   ·show b<b+1+gx xs j/3%9;lia
  ·exact Z0 m (j+1) b a h λz=>by lia
theorem ZHd{p:Bool}:∃st r',ruF xs big yr p 3 0 0=(0,st)::r':=by unfold ruF;rw[if_pos (.inl rfl)];exact⟨_,_,rfl⟩
theorem ZL0{n:Nat}{g:Int}(hn:1<n)(hk:k<n)(e:((k:Int)+1+g%((n:Int)-1))%(n:Int)=t):t≠k:=λz=>by
 subst z;have h1:=zF g (show(n:Int)-1≠0 by lia);have h2:=zE g (show(0:Int)<(n:Int)-1 by lia);generalize g%((n:Int)-1)=q at*;by_cases hq:(t:Int)+1+q<n
 ·rw[Int.emod_eq_of_lt (by lia) hq]at e;lia
 ·have e2:((t:Int)+1+q)%n=(t:Int)+1+q-n:=by rw[<-Int.sub_emod_right,Int.emod_eq_of_lt (by lia) (by lia)]
  lia
theorem ZFU{xs:List Int}{big:Int}{p:Bool}:∀(n j:Nat)(top:Int),Good top (stF xs big p n j top)/\(p=vV->∀t∈stF xs big p n j top,t.r=vX)
 |0,_,_=>⟨trivial,λ_ t h=>nomatch h⟩
 | n+1,j,top=>by
  have ih:=ZFU (xs:=xs) (big:=big) (p:=p) n (j+1) (top+number (gx xs (1+2*j)) big+(1+number (gx xs (2+2*j)) big));have h1:=Oo (x:=gx xs (1+2*j)) (cell:=big);have h2:=Oo (x:=gx xs (2+2*j)) (cell:=big);refine⟨⟨?_,?_,ih.1⟩,λhp t ht=>?_⟩
  ·show top<=top+number (gx xs (1+2*j)) big;lia
  ·show 1<=1+number (gx xs (2+2*j)) big;lia
  ·rcases zq.mp ht with rfl|ht
   ·rw[hp];rfl
   ·exact ih.2 hp t ht
theorem Ww{p:Bool}:∀(m j:Nat)(b:Int),∀s∈ruF xs big yr p m j b,Good 0 s.2/\(p=vV->∀t∈s.2,t.r=vX)
 |0,_,_,s,h=>nomatch h
 | m+1,j,b,s,h=>by
  unfold ruF at h;split at h
  ·rcases zq.mp h with rfl|h
   ·exact ZFU _ _ _
   ·exact Ww m _ _ s h
  ·exact Ww m _ _ s h
theorem ZBg(h:i<nm.length):atI (nm.map D.str) (i:Int)=vZ (.str nm[i]):=Ec rfl (by rw[zw,zQ h];rfl)
theorem add3{t nm dn:Str}{dl:Int}(h:ds.length<=100)(G:DH):Ba (.tup [.str t]) (.tup [.str nm,.str dn,.int dl]) G=.ok (.tup [.str t,.str nm,.str dn,.int dl]) G/\Ba (.tup [.str t,.str nm,.str dn,.int dl]) (.tup ds) G=.ok (.tup (.str t:: .str nm:: .str dn:: .int dl::ds)) G:=by
 refine⟨rfl,?_⟩;rw[R1,if_pos ⟨by simp,by simp;lia⟩]
 rfl
theorem ZL8(hnm:nm.length=12){n:Nat}(hn:n<=12)(hk:k<n)(hyr:0<yr):∃p:Pl,p.nm=(Ij nm k)/\(PlG n k p/\PlW yr k p)/\∀G,Nb [.fl (nm.map D.str),.int n,.int k,.int yr,.int cell] G=.ok (Ku nm p) G:=by
 have hst:∀G,freeze G (Kp [.int cell,.int (k:Int),.int 33] G)=.ok (.fl ((Ha cell k 33).map D.int)) G:=λG=>ZBP (cell:=cell) (k:=k) (n:=33) (by lia) (by lia) G
 have hxl:(Ha cell k 33).length=33:=ZEI;have hx:∀x∈Ha cell k 33,0<=x:=ZI0;generalize Ha cell k 33=xs at*;have a0:atI (xs.map D.int) 0=vZ (.int (gx xs 0)):=El (i:=0) (by lia);have a1:atI (xs.map D.int) 1=vZ (.int (gx xs 1)):=El (i:=1) (by lia);have a2:atI (xs.map D.int) 2=vZ (.int (gx xs 2)):=El (i:=2) (by lia);have a3:atI (xs.map D.int) 3=vZ (.int (gx xs 3)):=El (i:=3) (by lia);have a4:atI (xs.map D.int) 4=vZ (.int (gx xs 4)):=El (i:=4) (by lia)
 have a5:atI (xs.map D.int) 5=vZ (.int (gx xs 5)):=El (i:=5) (by lia);have a6:atI (xs.map D.int) 6=vZ (.int (gx xs 6)):=El (i:=6) (by lia);have a7:atI (xs.map D.int) 7=vZ (.int (gx xs 7)):=El (i:=7) (by lia);have n3:=λG=>Ra (cell:=cell) (G:=G) (V4 hx 3)
 have n4:=λG=>Ra (cell:=cell) (G:=G) (V4 hx 4)
 have hp:(0:Int)<(n:Int)-(k:Int):=by lia
 have hnk:atI (nm.map D.str) (k:Int)=vZ (.str (nm[k]'(by lia))):=ZBg (by lia);obtain⟨s,es⟩:∃s:Nat,gx xs 0%((n:Int)-(k:Int))=s:=⟨(gx xs 0%((n:Int)-(k:Int))).toNat,by have:=zF (gx xs 0) (show(n:Int)-(k:Int)≠0 by lia);lia⟩
 have hs:k+s<n:=by have:=zE (gx xs 0) hp;lia
 have hns:atI (nm.map D.str) ((k:Int)+(s:Int))=vZ (.str (nm[k+s]'(by lia))):=by have:=ZBg (nm:=nm) (i:=k+s) (by lia);rwa[show((k+s:Nat):Int)=(k:Int)+(s:Int) by lia]at this
 obtain⟨dn,o,eo,ho,hd⟩:∃(dn:Str)(o:Option Nat),S7 nm o=dn/\(∀d,o=vZ d->k<d/\d<n)/\∀G,Nb [.fl (nm.map D.str),.int n,.int k,.int yr,.int cell] G=tidy G (Qe [vZ (.fl (nm.map D.str)),vZ (.int n),vZ (.int k),vZ (.int yr),vZ (.int cell),vZ (.fl (xs.map D.int)),vZ (.str dn),vZ (.tup [.str (nm[k]'(by lia)),.str dn,.int (gx xs 1%6)]),vJ,vJ,vJ,vJ] G).ret:=by
  by_cases h0:0<s
  ·refine⟨nm[k+s]'(by lia),vZ (k+s),(Rv (by lia)).symm,λd hd=>by cases hd;lia,λG=>?_⟩;have h0':(0:Int)<(s:Int):=by lia
   unfold Nb ZCR ZBu ZA5 ZDx;rw[Bv];simp[hk,hst,a0,hp,es,h0,h0',hns,hnk,a1]
  ·refine⟨"sea",vJ,rfl,λd hd=>(nomatch hd),λG=>?_⟩
   have h0':¬(0:Int)<(s:Int):=by lia
   unfold Nb ZCR ZBu ZA5 ZDx;rw[Bv];simp[hk,hst,a0,hp,es,h0,h0',hnk,a1]
 have emk:nm[k]'(by lia)=(Ij nm k):=Rv (by lia);rw[emk]at hnk;obtain⟨dl,edl⟩:∃dl:Nat,gx xs 1%6=dl:=⟨(gx xs 1%6).toNat,by lia⟩;have hdl:dl<=5:=by lia
 have hd:=hd;rw[emk]at hd;clear emk;generalize hmk:(Ij nm k)=mk at*;by_cases h2:gx xs 2%5=0
 ·refine⟨⟨mk,o,dl,.mill (number (gx xs 3) cell)⟩,rfl,⟨⟨ho,hdl,(λ_ _ _ _ _ z=>nomatch z),(λ_ _ _ z=>nomatch z),(λ_ _ z=>nomatch z),(λ_ _ z=>nomatch z)⟩,⟨(λa z=>by cases z;exact Oo),(λ_ _ _ z=>nomatch z),(λ_ _ _ _ _ z=>nomatch z)⟩⟩,λG=>?_⟩
  have ad:=add3 (t:="mill") (nm:=mk) (dn:=dn) (dl:=gx xs 1%6) (ds:=[.int (number (gx xs 3) cell)]) (by simp);rw[hd];unfold Qe;simp[-R1,a2,h2,a3,n3,ad,Ku,eo,<-edl,Bp]
 ·by_cases h3:gx xs 2%5=1
  ·refine⟨⟨mk,o,dl,.town (number (gx xs 3) cell) (number (gx xs 4) cell)⟩,rfl,⟨⟨ho,hdl,(λ_ _ _ _ _ z=>nomatch z),(λ_ _ _ z=>nomatch z),(λa b z=>by cases z;exact⟨Oo,Oo⟩),(λ_ _ z=>nomatch z)⟩,⟨(λ_ z=>nomatch z),(λ_ _ _ z=>nomatch z),(λ_ _ _ _ _ z=>nomatch z)⟩⟩,λG=>?_⟩
   have ad:=add3 (t:="town") (nm:=mk) (dn:=dn) (dl:=gx xs 1%6) (ds:=[.int (number (gx xs 3) cell),.int (number (gx xs 4) cell)]) (by simp);rw[hd];unfold Qe W4;simp[-R1,a2,h2,h3,a3,a4,n3,n4,ad,Ku,eo,<-edl,Bp]
  ·have cu':cutD (xs.map D.int) (vZ 8) (vZ 32)=((xs.drop 8).take (32-8)).map D.int:=ZBo (xs:=xs) (a:=8) (b:=32) (by lia) (by lia);have hr:=λ(p:Bool)(G:DH)=>ZJ2 (xs:=(xs.drop 8).take (32-8)) (big:=cell) (yr:=yr) (p:=p) (λx h=>hx x (qE (zT h))) (by simp;lia) G
   generalize(xs.drop 8).take (32-8)=ys at*;have fz:∀G:DH,freeze G (.ok (.ref G.length) (G++[.lst (ys.map D.int)]))=.ok (.fl (ys.map D.int)) G:=λG=>Ck Iw
   by_cases hpm:1<n/\0<gx xs 5%3
   ·have hn1:(1:Int)<(n:Int):=by lia
    have hrt:=hr vX;have ln:=ZAS (xs:=ys) (big:=cell) (yr:=yr) (p:=vX) 3 0 0;obtain⟨v,hvb,hv⟩:=ZKb (r:=ruF ys cell yr vX 3 0 0) (by lia) (λs hs=>z9 (ln.2 s hs) (by decide)) ZPo;obtain⟨v2,hvn,hv2⟩:=ZQI (V4 hx 4);obtain⟨t,et⟩:∃t:Nat,((k:Int)+1+gx xs 6%((n:Int)-1))%(n:Int)=t:=⟨(((k:Int)+1+gx xs 6%((n:Int)-1))%(n:Int)).toNat,by have:=zF ((k:Int)+1+gx xs 6%((n:Int)-1)) (show(n:Int)≠0 by lia);lia⟩
    have ht:t<n:=by have:=zE ((k:Int)+1+gx xs 6%((n:Int)-1)) (show(0:Int)<(n:Int) by lia);lia
    have hnt:atI (nm.map D.str) (t:Int)=vZ (.str (nm[t]'(by lia))):=ZBg (by lia);have hp1:(0:Int)<(n:Int)-1:=by lia
    have hp2:(0:Int)<(n:Int):=by lia
    have hp3:0<n:=by lia
    have emt:nm[t]'(by lia)=(Ij nm t):=Rv (by lia);rw[emt]at hnt;obtain⟨pd,epd⟩:∃pd:Nat,1+gx xs 7%5=pd:=⟨(1+gx xs 7%5).toNat,by lia⟩;have hrg:=Ww (xs:=ys) (big:=cell) (yr:=yr) (p:=vX) 3 0 0;have has:=Z0 (xs:=ys) (big:=cell) (yr:=yr) (p:=vX) 3 0 0 (-1) (by lia) (λ_=>hyr);have hze:=ZHd (xs:=ys) (big:=cell) (yr:=yr) (p:=vX);have hto:=ZL0 hpm.1 hk et;generalize ruF ys cell yr vX 3 0 0=r at*
    refine⟨⟨mk,o,dl,.basin (number (gx xs 3) cell) r (vZ (t,pd,v+v2))⟩,rfl,⟨⟨ho,hdl,(λb r' to d m z=>by cases z;lia),(λb r' q z=>by cases z;exact⟨Oo,λs hs=>(hrg s hs).1⟩),(λ_ _ z=>nomatch z),(λ_ _ z=>nomatch z)⟩,⟨(λ_ z=>nomatch z),(λb r' q z=>by cases z;exact⟨has,hze,ln.2⟩),(λb r' to d m z=>by cases z;obtain⟨st,r2,e0⟩:=hze;have h0:=hvb (0,st) (by rw[e0];exact z8);have h1:=ZFV (hrg (0,st) (by rw[e0];exact z8)).1;exact⟨hto,by lia,λs hs=>by have:=hvb s hs;lia⟩)⟩⟩,λG=>?_⟩
    have ad:=add3 (t:="basin") (nm:=mk) (dn:=dn) (dl:=gx xs 1%6) (ds:=[.int (number (gx xs 3) cell),.tup (r.map Aq),.tup [.str ((Ij nm t)),.int (1+gx xs 7%5),.int (v+v2)]]) (by simp);rw[hd];unfold Qe W4 ZDp ZC1 ZCr ZA4 ZBp;simp[-R1,a2,h2,h3,hn1,hpm,a5,cu',fz,hrt,a6,hp1,hp2,hp3,et,hnt,a7,hv,a4,hv2,a3,n3,ad,Ku,Ua,eo,<-edl,<-epd,Bp]
   ·have hrt:=hr vV;have hrg:=Ww (xs:=ys) (big:=cell) (yr:=yr) (p:=vV) 3 0 0;have has:=Z0 (xs:=ys) (big:=cell) (yr:=yr) (p:=vV) 3 0 0 (-1) (by lia) (λ_=>hyr);have hze:=ZHd (xs:=ys) (big:=cell) (yr:=yr) (p:=vV);have ln:=ZAS (xs:=ys) (big:=cell) (yr:=yr) (p:=vV) 3 0 0;generalize ruF ys cell yr vV 3 0 0=r at*
    refine⟨⟨mk,o,dl,.basin (number (gx xs 3) cell) r vJ⟩,rfl,⟨⟨ho,hdl,(λb r' to d m z=>nomatch z),(λb r' q z=>by cases z;exact⟨Oo,λs hs=>(hrg s hs).1⟩),(λ_ _ z=>nomatch z),(λb r' z=>by cases z;exact λs hs=>(hrg s hs).2 rfl)⟩,⟨(λ_ z=>nomatch z),(λb r' q z=>by cases z;exact⟨has,hze,ln.2⟩),(λb r' to d m z=>nomatch z)⟩⟩,λG=>?_⟩
    have ad:=add3 (t:="basin") (nm:=mk) (dn:=dn) (dl:=gx xs 1%6) (ds:=[.int (number (gx xs 3) cell),.tup (r.map Aq),.non]) (by simp);rw[hd];unfold Qe W4 ZDp ZC1 ZCr ZA4 ZBp;by_cases hn1:1<n
    ·have hn1':(1:Int)<(n:Int):=by lia
     have h5:¬0<gx xs 5%3:=λz=>hpm ⟨hn1,z⟩
     simp[-R1,a2,h2,h3,hn1,hn1',h5,a5,cu',fz,hrt,a3,n3,ad,Ku,Ua,eo,<-edl,Bp]
    ·have hn1':¬(1:Int)<(n:Int):=by lia
     simp[-R1,a2,h2,h3,hn1,hn1',cu',fz,hrt,a3,n3,ad,Ku,Ua,eo,<-edl,Bp]
theorem ZNO{ns:List Int}{at_:Nat}(hat:at_<=1000)(G:DH):∃h:Hs,GoodH h/\1<=h.n/\(∀k,k<h.n->PlG h.n k (h.pl k)/\PlW h.yr k (h.pl k))/\h.yr<=24/\(∃nm:List Str,nm.length=12/\NmOk nm/\(∀k,k<h.n->(h.pl k).nm=Ij nm k)/\∀G,Mi [.int (cellAt ns ((at_:Int)+2))] G=.ok (.ref G.length) (G++[.lst (nm.map D.str)]))/\Ph [.fl (ns.map D.int),.int at_] G=.ok h.enc G:=by
 have ca:=λ(k:Nat)(G:DH)=>Td (ns:=ns) (k:=(k:Int)) (G:=G) (by lia)
 have c0:=ca at_;have c1:∀G,Jl [.fl (ns.map D.int),.int ((at_:Int)+1)] G=.ok (.int (cellAt ns ((at_:Int)+1))) G:=λG=>Td (by lia)
 have c2:∀G,Jl [.fl (ns.map D.int),.int ((at_:Int)+2)] G=.ok (.int (cellAt ns ((at_:Int)+2))) G:=λG=>Td (by lia)
 have c3:∀(k:Nat)G,Jl [.fl (ns.map D.int),.int ((at_:Int)+3+k)] G=.ok (.int (cellAt ns ((at_:Int)+3+k))) G:=λk G=>Td (by lia)
 obtain⟨n,en⟩:∃n:Nat,1+cellAt ns (at_:Int)%12=n:=⟨(1+cellAt ns (at_:Int)%12).toNat,by lia⟩;have hn:n<=12/\1<=n:=by lia
 obtain⟨nm,hnm,nok,hc⟩:=ZKT (cell:=cellAt ns ((at_:Int)+2));obtain⟨y,ey⟩:∃y:Int,1+cellAt ns ((at_:Int)+1)%24=y:=⟨_,rfl⟩;have ex:∀k:Nat,∃p:Pl,k<n->(p.nm=(Ij nm k)/\(PlG n k p/\PlW y k p)/\∀G,Nb [.fl (nm.map D.str),.int n,.int k,.int y,.int (cellAt ns ((at_:Int)+3+k))] G=.ok (Ku nm p) G):=λk=>by
  by_cases hk:k<n
  ·obtain⟨p,hp⟩:=ZL8 hnm hn.1 hk (yr:=y) (cell:=cellAt ns ((at_:Int)+3+k)) (by lia);exact⟨p,λ_=>hp⟩
  ·exact⟨noPl,λz=>absurd z hk⟩
 let P:Nat->Pl:=λk=>(ex k).choose
 have hP:∀k,k<n->((P k).nm=(Ij nm k)/\(PlG n k (P k)/\PlW y k (P k))/\∀G,Nb [.fl (nm.map D.str),.int n,.int k,.int y,.int (cellAt ns ((at_:Int)+3+k))] G=.ok (Ku nm (P k)) G):=λk hk=>(ex k).choose_spec hk
 clear_value P
 have hpl:∀k,k<n->(Hs.pl ⟨y,(zy n).map P⟩ k)=P k:=λk hk=>by unfold Hs.pl;simp[zB,hk]
 have hnn:Hs.n ⟨y,(zy n).map P⟩=n:=by simp[Hs.n]
 have nmk:∀k(hk:k<n),(Ij nm k)=nm[k]'(by lia):=λk hk=>(Rv (by lia)).symm
 have edn:∀(k:Nat)(o:Option Nat),(∀d,o=vZ d->k<d/\d<n)->Hs.dnT ⟨y,(zy n).map P⟩ o=S7 nm o:=λk o ho=>by
  cases o with
  |none=>rfl
  |some d=>
   have:=(ho d rfl).2;show(Hs.pl _ d).nm=(Ij nm d);rw[hpl d this,(hP d this).1]
 have eenc:∀k,k<n->Hs.encP ⟨y,(zy n).map P⟩ (P k)=Ku nm (P k):=λk hk=>by
  have g:=(hP k hk).2.1.1;have e1:=edn k (P k).dn g.dn;unfold Hs.encP Ku;cases ek:(P k).kd with
  | basin b r q=>
   have e2:Hs.W3 ⟨y,(zy n).map P⟩ q=Ua nm q:=by
    cases q with
    |none=>rfl
    |some z=>
     obtain⟨to,dl,m⟩:=z;have ht:=(g.pump b r to dl m ek).1;show D.tup [.str (Hs.pl _ to).nm,.int dl,.int m]=_;rw[hpl to ht,(hP to ht).1]
     rfl
   simp only[e1,e2]
  |town a b=>simp only[e1]
  |mill a=>simp only[e1]
 refine⟨⟨y,(zy n).map P⟩,⟨?_,?_,?_,?_,?_,?_,?_,?_,?_⟩,?_,?_,?_,⟨nm,hnm,nok,?_,hc⟩,?_⟩
 ·show 0<y;lia
 ·rw[hnn];lia
 ·intro i j hi hj e;rw[hnn]at hi hj;rw[hpl i hi,hpl j hj,(hP i hi).1,(hP j hj).1,nmk i hi,nmk j hj]at e;exact ZKa nok.nd _ _ e
 ·intro i hi;rw[hnn]at hi;rw[hpl i hi,(hP i hi).1,nmk i hi];exact nok.sea _ (qB _)
 ·intro k d hk e;rw[hnn]at hk⊢;rw[hpl k hk]at e;exact(hP k hk).2.1.1.dn d e
 ·intro k hk;rw[hnn]at hk;rw[hpl k hk];exact(hP k hk).2.1.1.dl
 ·intro k b r to dl m hk e;rw[hnn]at hk⊢;rw[hpl k hk]at e;exact(hP k hk).2.1.1.pump b r to dl m e
 ·intro k b r q hk e;rw[hnn]at hk;rw[hpl k hk]at e;exact(hP k hk).2.1.1.brim b r q e
 ·intro k a b hk e;rw[hnn]at hk;rw[hpl k hk]at e;exact(hP k hk).2.1.1.town a b e
 ·rw[hnn];lia
 ·intro k hk;rw[hnn]at hk⊢;rw[hpl k hk];exact(hP k hk).2.1
 ·show y<=24;lia
 ·intro k hk;rw[hnn]at hk;rw[hpl k hk];exact(hP k hk).1
 ·have fzn:∀G:DH,freeze G (.ok (.ref G.length) (G++[.lst (nm.map D.str)]))=.ok (.fl (nm.map D.str)) G:=λG=>Ck Ft
  have cp:Cw (gV 0) Cu Wq [vJ,vZ (.fl (ns.map D.int)),vZ (.int at_),vZ (.int n),vZ (.int y),vZ (.fl (nm.map D.str))] (Cr 0 n) G=.ok (((zy n).map P).map (Hs.encP ⟨y,(zy n).map P⟩)) G:=by
   rw[q8];exact ZAw (te:=Wq) (S:=[vJ,vZ (.fl (ns.map D.int)),vZ (.int at_),vZ (.int n),vZ (.int y),vZ (.fl (nm.map D.str))]) λk hk=>by unfold Wq;simp[c3,(hP k hk).2.2,eenc k hk]
  have lp:((zy n).map P).length<=1000000:=by simp;lia
  clear nmk eenc edn hpl hnn hP;generalize(zy n).map P=ps at*;generalize hen:ps.map (Hs.encP ⟨y,ps⟩)=es at*;have les:es.length<=1000000:=by rw[<-hen];simpa using lp
  have bes:∀m,bels m es=vX:=λm=>by rw[<-hen];exact Jd λ_ _=>Hs.ZMe
  have fzp:freeze G (.ok (.ref G.length) (G++[.lst (es)]))=.ok (.fl (es)) G:=Ck (bes _);have cs:∀a b c d e f':Option D,Bx 1 [0,1,2,3,4] [a,b,c,d,e,f']=[vJ,a,b,c,d,e]:=λ_ _ _ _ _ _=>rfl
  have hr:inR (n:Int):=Hm (by lia) (by lia);have bp:bels G.length (es)=vX:=bes _;show Ph _ G=.ok (.tup [.int y,.tup (ps.map (Hs.encP ⟨y,ps⟩))]) G;rw[hen];unfold Ph ZH5;rw[Bv];simp[c0,en,c1,ey,c2,hc,fzn,hr,cs,cp,les,fzp,bp,Bp]
noncomputable def ZJC:List Nat:=("abcdefghijklmnopqrstuvwxyz":Str).cps.toList
theorem ZND(c:Nat):c∈ZJC↔97<=c/\c<=122:=by
 have e:ZJC=qX 97 26:=by decide +kernel
 rw[e,List.mem_range'_1];lia
noncomputable def small(c:Nat):Bool:=decide (97<=c/\c<=122)
theorem ZOL:Ie (sgn c) (.str "abcdefghijklmnopqrstuvwxyz") G=.ok (.bl (small c)) G:=by
 have h:=contains1 ("abcdefghijklmnopqrstuvwxyz":Str) c;unfold Ie inD sgn;simp only;rw[h];simp only[small]
 congr 3
 exact propext (ZND c)
noncomputable def Oa:List Nat:=[115,101,97]
theorem ZGl:("sea":Str).cps.toList=Oa:=by decide +kernel
def isN(cs:List Nat):Bool:=decide (¬cs=Oa)&&decide (1<=cs.length/\cs.length<=8)&&cs.all small
theorem ZLc(hz:z.length<=1000):Uc [.str z] G=.ok (.bl (isN z.cps.toList)) G:=by
 have hl:(z.length:Int)=z.cps.toList.length:=by simp[Str.length]
 have hz':z.length<=1000000:=by lia
 have hc:Cw (gV 0) Cu Zn [vJ] (signs z) G=.ok ((z.cps.toList.map small).map D.bl) G:=by
  have:=Ri (g:=gV 0) (c:=Cu) (te:=Zn) (S:=[vJ]) (G:=G) (F:=λd=>match d with | .str x=>vZ (.bl (small (x.cps.getD 0 0)))|_=>vJ) (xs:=signs z) (λx hx=>by obtain⟨c,_,rfl⟩:=zC.mp hx;refine⟨[vZ (sgn c)],rfl,.inr ⟨rfl,.bl (small c),?_,rfl⟩⟩;unfold Zn;simp[ZOL])
  rw[this]
  congr 1
  unfold signs
  induction z.cps.toList with
  |nil=>rfl
  |cons c r ih=>simp only[zz,zH,sgn,ih];rfl
 have hlen:((z.cps.toList.map small).map D.bl).length<=1000000:=by simp;simpa[Str.length]using hz'
 have hb:bels G.length ((z.cps.toList.map small).map D.bl)=vX:=ZHx;have ha:= @ZHw G (z.cps.toList.map small);unfold Uc ZGk;rw[Bv];have hs:decide (z=("sea":Str))=decide (z.cps.toList=Oa):=by rw[<-ZGl];exact decide_eq_decide.mpr ZGG
 generalize hA:((z.cps.toList.map small).map D.bl)=bs at*;by_cases h1:z.cps.toList=Oa
 ·simp[hs,h1,Bp,isN]
 ·by_cases h2:1<=z.length/\z.length<=8
  ·have h3:(1:Int)<=z.length/\(z.length:Int)<=8:=by lia
   have h4:1<=z.cps.toList.length/\z.cps.toList.length<=8:=by lia
   simp[hs,h1,hz',h3.1,h3.2,h2.1,h2.2,Bx,hc,hlen,Ck,hb,ha,Bp];simp only[isN,h1,h4,not_false_eq_true,decide_true,and_self,Bool.true_and,List.all_map];simp
  ·have h4:¬(1<=z.cps.toList.length/\z.cps.toList.length<=8):=by lia
   have hn:isN z.cps.toList=vV:=by simp only[isN,h4,decide_false,Bool.and_false,Bool.false_and]
   rw[hn];by_cases h5:1<=z.length
   ·have h6:¬z.length<=8:=λh=>h2 ⟨h5,h⟩
    have h7:¬(z.length:Int)<=8:=by lia
    have h8:(1:Int)<=z.length:=by lia
    simp[hs,h1,hz',h5,h6,h7,h8,Bp]
   ·have h8:¬(1:Int)<=z.length:=by lia
    simp[hs,h1,hz',h5,h8,Bp]
theorem Wi{x:Str}{l:List Str}:Ie (.str x) (.fl (l.map D.str)) G=.ok (.bl (decide (x∈l))) G:=by
 unfold Ie inD;dsimp only
 rw[show Ei (.fl (l.map D.str)) G=vZ (l.map D.str)from rfl,show Nr (.str x)=vZ (.str x)from rfl]
 dsimp only;rw[Xc,j9,Xf]
theorem ZNw{x:Str}{l:List Str}(h:G[i]?=vZ (.lst (l.map D.str))):Ie (.str x) (.ref i) G=.ok (.bl (decide (x∈l))) G:=by
 unfold Ie inD;dsimp only
 rw[show Ei (.ref i) G=vZ (l.map D.str) by simp[Ei,h],show Nr (.str x)=vZ (.str x)from rfl]
 dsimp only;rw[Xc,j9,Xf]
theorem ZNp:Cw (Dn 3 (Bq (gV 0) (Bq (gV 1) (Bq (gV 2) Ds)))) ZCg ZEu [vJ,vJ,vJ] (st.map Stp.enc) G=.ok ((pmps st).map D.int) G:=by
 rw[Ri (F:=λd=>match d with | .tup [_,m,.str w]=>if w="pump" then vZ m else vJ|_=>vJ) λy hy=>?_]
 ·congr 1
  unfold pmps
  induction st with
  |nil=>rfl
  |cons s st ih=>
   rw[zz,zH,ih,qC];have es:Stp.enc s=.tup [.int s.h,.int s.m,.str (wy s.r)]:=rfl;rw[es];cases hr:s.r with
   |true=>simp[wy,pr]
   |false=>simp[wy]
 ·obtain⟨s,_,rfl⟩:=zC.mp hy;have es:Stp.enc s=.tup [.int s.h,.int s.m,.str (wy s.r)]:=rfl;rw[es];refine⟨[vZ (.int s.h),vZ (.int s.m),vZ (.str (wy s.r))],by simp,?_⟩;unfold ZCg ZEu;cases hr:s.r with
  |true=>exact .inl ⟨by simp[wy,pr],by simp[wy,pr]⟩
  |false=>exact .inr ⟨by simp[wy],.int s.m,by simp,by simp[wy]⟩
theorem ZGP:(pmps st).length<=st.length:=by unfold pmps;rw[zZ];exact jX _ _
inductive RK where
 |basin (b:Int) (r:List Ssn) (q:Option (Str×Int×Int))
 |town (a b:Int)
 |mill (a:Int)
structure RP where
 nm:Str
 dn:Str
 dl:Int
 kd:RK
variable{p:RP}{ps:List RP}
noncomputable def pmD:Option (Str×Int×Int)->D
 |none=>.non
 |some (t,d,m)=>.tup [.str t,.int d,.int m]
noncomputable def RK.txt:RK->Str
 |.basin ..=>"basin"
 |.town ..=>"town"
 |.mill ..=>"mill"
def RK.rest:RK->List D
 |.basin b r q=>[.int b,.tup (r.map Aq),pmD q]
 |.town a b=>[.int a,.int b]
 |.mill a=>[.int a]
def RP.row(p:RP):List D:=.str p.kd.txt:: .str p.nm:: .str p.dn:: .int p.dl::p.kd.rest
def RP.enc(p:RP):D:=.tup p.row
structure RH where
 yr:Int
 ps:List RP
variable{h:RH}
noncomputable def RH.enc(h:RH):D:=.tup [.int h.yr,.tup (h.ps.map RP.enc)]
@[simp]theorem ZRb{n:Nat}:bel n (pmD q)=vX:=by
 cases q with
 |none=>rfl
 |some x=>obtain⟨a,b,c⟩:=x;rfl
@[simp]theorem ZLU{n:Nat}:bels n p.row=vX:=by
 unfold RP.row RK.rest
 cases p.kd<;>simp
@[simp]theorem Jz{n:Nat}:bel n p.enc=vX:=by simp[RP.enc]
@[simp]theorem Kz{n:Nat}{l:List RP}:bels n (l.map RP.enc)=vX:=Jd λ_ _=>Jz
@[simp]theorem Wz{n:Nat}:bel n h.enc=vX:=by simp[RH.enc]
section
variable{p:RP}{h:RH}{G:DH}
@[simp]theorem renc0:Af p.enc (.int 0) G=.ok (.str p.kd.txt) G:=by simp[RP.enc,RP.row]
@[simp]theorem renc1:Af p.enc (.int 1) G=.ok (.str p.nm) G:=by simp[RP.enc,RP.row]
@[simp]theorem renc2:Af p.enc (.int 2) G=.ok (.str p.dn) G:=by simp[RP.enc,RP.row]
@[simp]theorem renc3:Af p.enc (.int 3) G=.ok (.int p.dl) G:=by simp[RP.enc,RP.row]
theorem Wm:Af h.enc (.int 0) G=.ok (.int h.yr) G:=by simp[RH.enc]
theorem Uk:Af h.enc (.int 1) G=.ok (.tup (h.ps.map RP.enc)) G:=by simp[RH.enc]
end
noncomputable def Dh:RK->Int×List Int
 |.town a b=>(a,[b])
 |.mill a=>(a,[])
 |.basin b _ vJ=>(b,[])
 |.basin b _ (vZ (_,_,m))=>(b,[m])
def Oi(k:RK):Bool:= !decide ((Dh k).2.foldl min (Dh k).1<0)
noncomputable def M9(l:List Str)(p:RP):Bool:=(decide (p.dn="sea")||decide (p.dn∈l))&&(decide (0<=p.dl)&&decide (p.dl<=5))
noncomputable def Ky(l:List Str):Option (Str×Int×Int)->Bool
 |none=>vX
 |some (t,d,_)=>decide (t∈l)&&(decide (1<=d)&&decide (d<=5))
def Lr(yr:Int):Int->List Ssn->Bool
 |_,[]=>vX
 |a,s::r=>(decide (a<s.1)&&decide (s.1<yr))&&Lr yr s.1 r
def Km(yr:Int):List Ssn->Bool
 |[]=>vV
 |s::r=>decide (s.1=0)&&Lr yr (-1) (s::r)
noncomputable def Dm:Int->List Stp->Bool
 |_,[]=>vX
 |a,s::r=>(decide (a<=s.h)&&decide (1<=s.m))&&Dm (s.h+s.m) r
def Ep(st:List Stp):Option (Str×Int×Int)->Bool
 |none=>decide (pmps st=[])
 |some (_,_,m)=>decide ((pmps st).sum<=m)
def Ig(yr:Int)(r:List Ssn)(q:Option (Str×Int×Int)):Bool:=Km yr r&&r.all λs=>Dm 0 s.2&&Ep s.2 q
def M6(A:List Str)(p:RP):Bool:=isN p.nm.cps.toList && !decide (p.nm∈A)
def rnk(yr:Int)(A B:List Str)(p:RP):Nat:=if M6 A p=vV then 1 else if M9 B p=vV then 2 else if Oi p.kd=vV then 3 else match p.kd with
 |.basin _ r q=>if Ky (A++B) q=vV then 4 else if Ig yr r q=vV then 5 else 0
 |_=>0
noncomputable def cls5:Nat->Str
 |1=>"NoName"
 |2=>"NoRiver"
 |3=>"NoNumber"
 |4=>"NoPump"
 |_=>"NoRule"
structure Sh (p:RP):Prop where
 nm:p.nm.length<=1000
 ru:∀b r q,p.kd=.basin b r q->∀s∈r,s.2.length<=1000
theorem ZOf{l:List Str}(G:DH):U6 [p.enc,.fl (l.map D.str)] G=.ok (.bl (M9 l p)) G:=by
 have hi:=Wi (x:=p.dn) (l:=l) (G:=G);generalize l.map D.str=L at*;unfold U6 ZGW M9;rw[Bv];by_cases h1:p.dn="sea"
 ·by_cases h2:0<=p.dl<;>simp[h1,h2,Bp]
 ·by_cases h3:p.dn∈l
  ·rw[decide_eq_true h3]at hi
   by_cases h2:0<=p.dl<;>simp[h1,hi,h3,h2,Bp]
  ·rw[decide_eq_false h3]at hi;simp[h1,hi,h3,Bp]
theorem ZPV(G:DH):V1 [p.enc] G=.ok (.ref G.length) (G++[.lst (((Dh p.kd).1::(Dh p.kd).2).map D.int)]):=by
 have tn:∀ds:List Int,tidy G (.ok (.ref G.length) (G++[.lst (ds.map D.int)]))=.ok (.ref G.length) (G++[.lst (ds.map D.int)]):=λds=>Jv Iw
 have n1:¬(("mill":Str)="town"):=by decide
 have n2:¬(("basin":Str)="town"):=by decide
 have n3:¬(("basin":Str)="mill"):=by decide
 unfold V1 ZIn;rw[Bv];cases e:p.kd with
 |town a b=>
  have e4:∀G,Af p.enc (.int 4) G=.ok (.int a) G:=λG=>by simp[RP.enc,RP.row,e,RK.rest]
  have e5:∀G,Af p.enc (.int 5) G=.ok (.int b) G:=λG=>by simp[RP.enc,RP.row,e,RK.rest]
  have:=tn [a,b];simp at this;simp[e,RK.txt,e4,e5,Bb,Dh,this]
 |mill a=>
  have e4:∀G,Af p.enc (.int 4) G=.ok (.int a) G:=λG=>by simp[RP.enc,RP.row,e,RK.rest]
  have:=tn [a];simp at this;simp[e,RK.txt,n1,e4,Bb,Dh,this]
 | basin b r q=>
  have e4:∀G,Af p.enc (.int 4) G=.ok (.int b) G:=λG=>by simp[RP.enc,RP.row,e,RK.rest]
  have e6:∀G,Af p.enc (.int 6) G=.ok (pmD q) G:=λG=>by simp[RP.enc,RP.row,e,RK.rest]
  cases q with
  |none=>
   have:=tn [b];simp at this;simp[e,RK.txt,n2,n3,e4,e6,pmD,Cq,Bb,Dh,this]
  |some z=>
   obtain⟨t,d,m⟩:=z;have:=tn [b,m];simp at this;simp[e,RK.txt,n2,n3,e4,e6,pmD,Cq,Bb,Dh,this]
theorem ZOI{l:List Str}(hG:G[i]?=vZ (.lst (l.map D.str))):Ol [pmD q,.ref i] G=.ok (.bl (Ky l q)) G:=by
 unfold Ol ZIL;rw[Bv];cases q with
 |none=>simp[pmD,Cq,Ky,Bp]
 | some z=>
  obtain⟨t,d,m⟩:=z;have hi:=ZNw (x:=t) hG;by_cases h1:t∈l
  ·rw[decide_eq_true h1]at hi
   by_cases h2:1<=d<;>simp[pmD,Cq,Ky,hi,h1,h2,Bp]
  ·rw[decide_eq_false h1]at hi;simp[pmD,Cq,Ky,hi,h1,Bp]
theorem ZHr{yr:Int}{s0:Option D}{G:DH}:∀(r:List Ssn)(a:Int)(x y:Option D),∃a' x' y',Dj (Dn 2 (Bq (gV 3) (Bq (gV 4) Ds))) X7 (r.map Aq) [s0,vZ (.int yr),vZ (.int a),x,y] G=if Lr yr a r=vX then .nx [s0,vZ (.int yr),a',x',y'] G else .rt (.bl vV) G
 |[],a,x,y=>⟨vZ (.int a),x,y,by rw[qA,Im];rfl⟩
 | s::r,a,x,y=>by
  obtain⟨a',x',y',ih⟩:=ZHr (yr:=yr) (s0:=s0) (G:=G) r s.1 (vZ (.int s.1)) (vZ (.tup (s.2.map Stp.enc)));refine⟨a',x',y',?_⟩;have hb:X7 [s0,vZ (.int yr),vZ (.int a),vZ (.int s.1),vZ (.tup (s.2.map Stp.enc))] G=if a<s.1/\s.1<yr then .nx [s0,vZ (.int yr),vZ (.int s.1),vZ (.int s.1),vZ (.tup (s.2.map Stp.enc))] G else .rt (.bl vV) G:=by
   unfold X7;by_cases h1:a<s.1
   ·by_cases h2:s.1<yr<;>simp[h1,h2]
   ·simp[h1]
  have es:Aq s=.tup [.int s.1,.tup (s.2.map Stp.enc)]:=rfl;rw[zz,Gn,es];generalize s.2.map Stp.enc=Z at*;unfold Lr;by_cases h1:a<s.1/\s.1<yr
  ·rw[if_pos h1]at hb;simp[hb,ih,h1]
  ·rw[if_neg h1]at hb;have:(decide (a<s.1)&&decide (s.1<yr))=vV:=by rw[<-jK,zV,decide_eq_true_iff,decide_eq_true_iff];exact h1
   simp[hb,this]
theorem ZMA(G:DH):Yo [.tup (r.map Aq),.int yr] G=.ok (.bl (Km yr r)) G:=by
 obtain⟨a',x',y',hL⟩:=ZHr (yr:=yr) (s0:=vZ (.tup (r.map Aq))) (G:=G) r (-1) vJ vJ;unfold Yo ZHM;rw[Bv];cases r with
 |nil=>simp[Km,Bp]
 | cons s r=>
  have hl':¬((((s::r).map Aq).length:Int)=0):=by simp;lia
  have h0:atI ((s::r).map Aq) 0=vZ (Aq s):=Ec (k:=0) rfl rfl;have h1:∀G,Af (Aq s) (.int 0) G=.ok (.int s.1) G:=λG=>by unfold Aq;simp
  have hne:¬(s::r).map Aq=[]:=by simp
  unfold Km;generalize Aq s=Z at*;generalize(s::r).map Aq=R at*;by_cases z:s.1=0
  ·cases e:Lr yr (-1) (s::r)with
   |true=>rw[e]at hL;simp[hne,hl',h0,h1,z,hL,Bp,e]
   |false=>rw[e]at hL;simp[hne,hl',h0,h1,z,hL,Bp,e]
  ·simp[hne,hl',h0,h1,z,Bp]
theorem ZJa{s0:Option D}{G:DH}:∀(st:List Stp)(a:Int)(x y z:Option D),∃a' x' y' z',Dj (Dn 3 (Bq (gV 2) (Bq (gV 3) (Bq (gV 4) Ds)))) Ys (st.map Stp.enc) [s0,vZ (.int a),x,y,z] G=if Dm a st=vX then .nx [s0,a',x',y',z'] G else .rt (.bl vV) G
 |[],a,x,y,z=>⟨vZ (.int a),x,y,z,by rw[qA,Im];rfl⟩
 | s::st,a,x,y,z=>by
  obtain⟨a',x',y',z',ih⟩:=ZJa (s0:=s0) (G:=G) st (s.h+s.m) (vZ (.int s.h)) (vZ (.int s.m)) (vZ (.str (wy s.r)));refine⟨a',x',y',z',?_⟩;have hb:Ys [s0,vZ (.int a),vZ (.int s.h),vZ (.int s.m),vZ (.str (wy s.r))] G=if a<=s.h/\1<=s.m then .nx [s0,vZ (.int (s.h+s.m)),vZ (.int s.h),vZ (.int s.m),vZ (.str (wy s.r))] G else .rt (.bl vV) G:=by
   unfold Ys;by_cases h1:a<=s.h
   ·have h1':¬s.h<a:=by lia
    by_cases h2:1<=s.m
    ·have h2':¬s.m<1:=by lia
     simp[h1,h1',h2,h2']
    ·have h2':s.m<1:=by lia
     simp[h1,h1',h2,h2']
   ·have h1':s.h<a:=by lia
    simp[h1,h1']
  have es:Stp.enc s=.tup [.int s.h,.int s.m,.str (wy s.r)]:=rfl;rw[zz,Gn,es];generalize wy s.r=Z at*;unfold Dm;by_cases h1:a<=s.h/\1<=s.m
  ·rw[if_pos h1]at hb;simp[hb,ih,h1]
  ·rw[if_neg h1]at hb;have:(decide (a<=s.h)&&decide (1<=s.m))=vV:=by rw[<-jK,zV,decide_eq_true_iff,decide_eq_true_iff];exact h1
   simp[hb,this]
theorem ZLY(G:DH):Vj [.tup (st.map Stp.enc)] G=.ok (.bl (Dm 0 st)) G:=by
 obtain⟨a',x',y',z',hL⟩:=ZJa (s0:=vZ (.tup (st.map Stp.enc))) (G:=G) st 0 vJ vJ vJ;generalize st.map Stp.enc=Z at*;unfold Vj ZJJ;rw[Bv];cases e:Dm 0 st with
 |true=>rw[e]at hL;simp[hL,Bp]
 |false=>rw[e]at hL;simp[hL,Bp]
theorem ZQl(hl:st.length<=1000)(G:DH):Wc [.tup (st.map Stp.enc),pmD q] G=.ok (.bl (Ep st q)) G:=by
 have hc:=ZNp (st:=st) (G:=G);have hcs:∀S:DSt,Bx 3 [] S=[vJ,vJ,vJ]:=λ_=>rfl
 have fz:freeze G (.ok (.ref G.length) (G++[.lst ((pmps st).map D.int)]))=.ok (.fl ((pmps st).map D.int)) G:=Ck Iw;have hle:((pmps st).map D.int).length<=1000000:=by have:=ZGP (st:=st);rw[zZ];lia
 have hsm:Lh [.fl ((pmps st).map D.int)] G=.ok (.int (pmps st).sum) G:=ZJQ;have hz:(pmps st).map D.int=[]↔pmps st=[]:=List.map_eq_nil_iff;unfold Ep;generalize(pmps st).map D.int=P at*;generalize st.map Stp.enc=Z at*;unfold Wc ZHc;rw[Bv];cases q with
 |none=>simp[hcs,hc,Bb,hle,fz,pmD,Cq,hz,Bp]
 |some w=>
  obtain⟨t,d,m⟩:=w;simp[hcs,hc,Bb,hle,fz,pmD,Cq,hsm,Bp]
theorem ZIw{s0 s2:Option D}{q:Option (Str×Int×Int)}{G:DH}:∀(r:List Ssn)(x y:Option D),(∀s∈r,s.2.length<=1000)->∃x' y',Dj (Dn 2 (Bq (gV 3) (Bq (gV 4) Ds))) Xy (r.map Aq) [s0,vZ (pmD q),s2,x,y] G=if(r.all λs=>Dm 0 s.2&&Ep s.2 q)=vX then .nx [s0,vZ (pmD q),s2,x',y'] G else .rt (.bl vV) G
 |[],x,y,_=>⟨x,y,by rw[qA,Im];rfl⟩
 | s::r,x,y,h=>by
  obtain⟨x',y',ih⟩:=ZIw (s0:=s0) (s2:=s2) (q:=q) (G:=G) r (vZ (.int s.1)) (vZ (.tup (s.2.map Stp.enc))) λz hz=>h z (zY _ hz)
  refine⟨x',y',?_⟩;have h1:=ZLY (st:=s.2) G;have h2:=ZQl (st:=s.2) (q:=q) (h s z8) G;have hb:Xy [s0,vZ (pmD q),s2,vZ (.int s.1),vZ (.tup (s.2.map Stp.enc))] G=if(Dm 0 s.2&&Ep s.2 q)=vX then .nx [s0,vZ (pmD q),s2,vZ (.int s.1),vZ (.tup (s.2.map Stp.enc))] G else .rt (.bl vV) G:=by
   generalize s.2.map Stp.enc=Z at*;unfold Xy
   cases e1:Dm 0 s.2<;>cases e2:Ep s.2 q<;>simp[h1,h2,e1,e2]
  have es:Aq s=.tup [.int s.1,.tup (s.2.map Stp.enc)]:=rfl;rw[zz,Gn,es,qH];generalize s.2.map Stp.enc=Z at*;generalize(r.all λs=>Dm 0 s.2&&Ep s.2 q)=br at*;cases e:(Dm 0 s.2&&Ep s.2 q)with
  |true=>rw[e]at hb;simp[hb,ih]
  |false=>rw[e]at hb;simp[hb]
theorem ZQx(h:∀s∈r,s.2.length<=1000)(G:DH):Og [.tup (r.map Aq),pmD q,.int yr] G=.ok (.bl (Ig yr r q)) G:=by
 obtain⟨x',y',hL⟩:=ZIw (s0:=vZ (.tup (r.map Aq))) (s2:=vZ (.int yr)) (q:=q) (G:=G) r vJ vJ h;have hs:=ZMA (yr:=yr) (r:=r) G;unfold Ig;generalize(r.all λs=>Dm 0 s.2&&Ep s.2 q)=br at*;generalize r.map Aq=R at*;unfold Og ZJb;rw[Bv];cases e:Km yr r with
 |false=>rw[e]at hs;simp[hs,Bp]
 |true=>
  rw[e]at hs;cases br with
  |true=>simp[hs,hL,Bp]
  |false=>simp[hs,hL,Bp]
theorem ZH4{G:DH}:∀l:List RP,Cw (gV 0) Cu Us [vJ] (l.map RP.enc) G=.ok ((l.map RP.nm).map D.str) G
 |[]=>by rw[qA,Q0];rfl
 |p::l=>by
  have he:Us [vZ p.enc] G=.ok (.str p.nm) G:=by unfold Us;simp
  have ih:=ZH4 (G:=G) l;rw[zz,Jc];simp[he,ih]
theorem ZGi{G:DH}:∀l:List RP,Cw (gV 0) Cu U5 [vJ] (l.map RP.enc) G=.ok ((l.map RP.nm).map D.str) G
 |[]=>by rw[qA,Q0];rfl
 |p::l=>by
  have he:U5 [vZ p.enc] G=.ok (.str p.nm) G:=by unfold U5;simp
  have ih:=ZGi (G:=G) l;rw[zz,Jc];simp[he,ih]
def Rh:DS:=(sIf (Ao (dOp Bj (dOp Af (dV 3) (dC (.int 0))) (dC (.str "basin")))) (Aj (sIf (Eh (Ao (dFn (nerr Ol) (Ad (dOp Af (dV 3) (dC (.int 6))) (Ad (dOp Ba (dV 4) (dV 5)) Ah))))) (sRz "NoPump" "place" (Ad (dV 1) Ah)) sNx) (sIf (Eh (Ao (dFn (nerr Og) (Ad (dOp Af (dV 3) (dC (.int 5))) (Ad (dOp Af (dV 3) (dC (.int 6))) (Ad (dOp Af (dV 0) (dC (.int 0))) Ah)))))) (sRz "NoRule" "place" (Ad (dV 1) Ah)) sNx)) sNx)
def Up:DS:=(Aj (sIf (Ao (dOp Du (dFn Ny (Ad (Ar (dFn (nerr V1) (Ad (dV 3) Ah))) Ah)) (dC (.int 0)))) (sRz "NoNumber" "place" (Ad (dV 1) Ah)) sNx) Rh)
def Tv:DS:=(Aj (sIf (Eh (Ao (dFn (nerr U6) (Ad (dV 3) (Ad (dV 5) Ah))))) (sRz "NoRiver" "place" (Ad (dV 1) Ah)) sNx) Up)
def Ul:DS:=(Aj (sIf (dOr (Eh (Ao (dFn (nerr Uc) (Ad (dOp Af (dV 3) (dC (.int 1))) Ah)))) (Ao (dOp Ie (dOp Af (dV 3) (dC (.int 1))) (dV 4)))) (sRz "NoName" "place" (Ad (dV 1) Ah)) sNx) Tv)
theorem ZMu:ZJG=(Aj (sNr (sAs (dOp Af (dV 0) (dC (.int 1))) (gV 2))) (Aj (sNr (sAs (dOp Af (dV 2) (dV 1)) (gV 3))) (Aj (sNr (sAs (Ar (Ed (Ej (Ar (dSl (dV 2) vJ (vZ (dV 1))))) 1 [] (gV 0) Cu Us)) (gV 4))) (Aj (sNr (sAs (Ar (Ed (Ej (Ar (dSl (dV 2) (vZ (dOp Ba (dV 1) (dC (.int 1)))) vJ))) 1 [] (gV 0) Cu U5)) (gV 5))) Ul)))):=rfl
noncomputable def RH.A(h:RH)(k:Nat):List Str:=(h.ps.take k).map RP.nm
noncomputable def RH.B(h:RH)(k:Nat):List Str:=(h.ps.drop (k+1)).map RP.nm
def RH.rk(h:RH)(k:Nat)(p:RP):Nat:=rnk h.yr (h.A k) (h.B k) p
theorem ZC2(hp:h.ps[k]?=vZ p)(hn:h.ps.length<=100)(sh:Sh p)(G:DH):
  (h.rk k p=0->Pa [h.enc,.int k] G=.ok .non G)/\(h.rk k p≠0->∃L,Pa [h.enc,.int k] G=.err ⟨cls5 (h.rk k p),[("place",.int k)]⟩ (G++L)):=by
 have hk:k<h.ps.length:=(zX.mp hp).1;have ap:atI (h.ps.map RP.enc) (k:Int)=vZ p.enc:=Ec rfl (by rw[zw,hp];rfl);have c1:cutD (h.ps.map RP.enc) vJ (vZ (k:Int))=(h.ps.take k).map RP.enc:=by rw[Ls (by rw[zZ];lia),jJ]
 have c2:cutD (h.ps.map RP.enc) (vZ ((k:Int)+1)) vJ=(h.ps.drop (k+1)).map RP.enc:=by rw[show(k:Int)+1=((k+1:Nat):Int) by lia,Qd (by rw[zZ];lia),jx]
 have f1:freeze G (.ok (.tup ((h.ps.take k).map RP.enc)) G)=.ok (.tup ((h.ps.take k).map RP.enc)) G:=Fw (by rw[Mg];exact Kz);have f2:freeze G (.ok (.tup ((h.ps.drop (k+1)).map RP.enc)) G)=.ok (.tup ((h.ps.drop (k+1)).map RP.enc)) G:=Fw (by rw[Mg];exact Kz);have m1:=ZH4 (G:=G) (h.ps.take k);have m2:=ZGi (G:=G) (h.ps.drop (k+1));have lA:(h.A k).length<=100:=by unfold RH.A;rw[zZ,qW];lia
 have lB:(h.B k).length<=100:=by unfold RH.B;rw[zZ,qK];lia
 have eA:(h.ps.take k).map RP.nm=h.A k:=rfl;have eB:(h.ps.drop (k+1)).map RP.nm=h.B k:=rfl;rw[eA]at m1;rw[eB]at m2;have h0:∀G,Af h.enc (.int 0) G=.ok (.int h.yr) G:=λG=>Wm
 have h1:∀G,Af h.enc (.int 1) G=.ok (.tup (h.ps.map RP.enc)) G:=λG=>Uk
 unfold RH.rk;generalize(h.ps.take k).map RP.enc=EA at*;generalize(h.ps.drop (k+1)).map RP.enc=EB at*;generalize h.ps.map RP.enc=PS at*;generalize h.A k=A at*;generalize h.B k=B at*;generalize h.yr=yr at*;generalize h.enc=H at*;have cN:=ZLc (z:=p.nm) (G:=G) sh.nm;have nA:=Wi (x:=p.nm) (l:=A) (G:=G);have cR:=ZOf (p:=p) (l:=B) G;have cM:=ZPV (p:=p) G;have fA:freeze G (.ok (.ref G.length) (G++[.lst (A.map D.str)]))=.ok (.fl (A.map D.str)) G:=Ck Ft
 have fB:freeze G (.ok (.ref G.length) (G++[.lst (B.map D.str)]))=.ok (.fl (B.map D.str)) G:=Ck Ft;have fM:freeze G (.ok (.ref G.length) (G++[.lst (((Dh p.kd).1::(Dh p.kd).2).map D.int)]))=.ok (.fl (((Dh p.kd).1::(Dh p.kd).2).map D.int)) G:=Ck Iw;have mn:Ny [.fl (((Dh p.kd).1::(Dh p.kd).2).map D.int)] G=.ok (.int ((Dh p.kd).2.foldl min (Dh p.kd).1)) G:=ZKJ rfl;have eN:Oi p.kd= !decide ((Dh p.kd).2.foldl min (Dh p.kd).1<0):=rfl
 generalize((Dh p.kd).1::(Dh p.kd).2).map D.int=MM at*;generalize(Dh p.kd).2.foldl min (Dh p.kd).1=mm at*;have lA':(A.map D.str).length<=1000000:=by rw[zZ];lia
 have lB':(B.map D.str).length<=1000000:=by rw[zZ];lia
 have lAB:(A.map D.str).length+(B.map D.str).length<=1000000:=by rw[zZ,zZ];lia
 have hcs:∀S:DSt,Bx 1 [] S=[vJ]:=λ_=>rfl
 have k0:(0:Int)<=(k:Int)/\(k:Int)<1000:=by lia
 have ad:Ba (.fl (A.map D.str)) (.fl (B.map D.str)) G=.ok (.ref G.length) (G++[.lst ((A++B).map D.str)]):=by rw[Gd,if_pos lAB,zR]
 have hG:(G++[DO.lst ((A++B).map D.str)])[G.length]?=vZ (.lst ((A++B).map D.str)):=by simp
 have tp:tidy G (.ok .non (G++[.lst ((A++B).map D.str)]))=.ok .non G:=R8 rfl;have s1:Pa [H,.int k] G=tidy G (Ul [vZ H,vZ (.int k),vZ (.tup PS),vZ p.enc,vZ (.fl (A.map D.str)),vZ (.fl (B.map D.str))] G).ret:=by generalize A.map D.str=DA' at*;generalize B.map D.str=DB' at*;unfold Pa;rw[ZMu,Bv];simp[h1,ap,Dp,c1,f1,hcs,m1,Bb,lA',fA,c2,f2,m2,lB',fB]
 rw[s1];clear s1 m1 m2 c1 c2 f1 f2 fA fB;unfold rnk;by_cases k1:M6 A p=vV
 ·refine⟨λz=>(by rw[if_pos k1]at z;cases z),λ_=>⟨[],?_⟩⟩;rw[if_pos k1,zP];generalize A.map D.str=DA' at*;generalize B.map D.str=DB' at*;unfold M6 at k1;unfold Ul;cases e1:isN p.nm.cps.toList with
  |false=>
   rw[e1]at cN;simp[nerr,cN,sRz,k0,cls5]
  |true=>
   rw[e1]at k1 cN;have e2:decide (p.nm∈A)=vX:=by simpa using k1
   rw[e2]at nA;simp[nerr,cN,nA,sRz,k0,cls5]
 ·rw [if_neg k1];have q1:isN p.nm.cps.toList=vX:=by unfold M6 at k1;simp at k1;exact k1.1
  have q2:decide (p.nm∈A)=vV:=by unfold M6 at k1;simp at k1;exact decide_eq_false k1.2
  rw[q1]at cN;rw[q2]at nA;have s2:Ul [vZ H,vZ (.int k),vZ (.tup PS),vZ p.enc,vZ (.fl (A.map D.str)),vZ (.fl (B.map D.str))] G=Tv [vZ H,vZ (.int k),vZ (.tup PS),vZ p.enc,vZ (.fl (A.map D.str)),vZ (.fl (B.map D.str))] G:=by generalize A.map D.str=DA' at*;generalize B.map D.str=DB' at*;unfold Ul;simp[nerr,cN,nA]
  rw[s2];clear s2;by_cases k2:M9 B p=vV
  ·refine⟨λz=>(by rw[if_pos k2]at z;cases z),λ_=>⟨[],?_⟩⟩;rw[if_pos k2,zP];rw[k2]at cR;generalize A.map D.str=DA' at*;generalize B.map D.str=DB' at*;unfold Tv;simp[nerr,cR,sRz,k0,cls5]
  ·rw [if_neg k2];have q3:M9 B p=vX:=by simpa using k2
   rw[q3]at cR;have s3:Tv [vZ H,vZ (.int k),vZ (.tup PS),vZ p.enc,vZ (.fl (A.map D.str)),vZ (.fl (B.map D.str))] G=Up [vZ H,vZ (.int k),vZ (.tup PS),vZ p.enc,vZ (.fl (A.map D.str)),vZ (.fl (B.map D.str))] G:=by generalize A.map D.str=DA' at*;generalize B.map D.str=DB' at*;unfold Tv;simp[nerr,cR]
   rw[s3];clear s3;by_cases k3:Oi p.kd=vV
   ·refine⟨λz=>(by rw[if_pos k3]at z;cases z),λ_=>⟨[],?_⟩⟩;rw[if_pos k3,zP];have q4:mm<0:=by rw[k3]at eN;simpa using eN
    generalize A.map D.str=DA' at*;generalize B.map D.str=DB' at*;unfold Up;simp[nerr,cM,fM,mn,q4,sRz,k0,cls5]
   ·rw [if_neg k3];have q4:¬mm<0:=by
     have:Oi p.kd=vX:=by simpa using k3
     rw[this]at eN;simpa using eN
    have s4:Up [vZ H,vZ (.int k),vZ (.tup PS),vZ p.enc,vZ (.fl (A.map D.str)),vZ (.fl (B.map D.str))] G=Rh [vZ H,vZ (.int k),vZ (.tup PS),vZ p.enc,vZ (.fl (A.map D.str)),vZ (.fl (B.map D.str))] G:=by generalize A.map D.str=DA' at*;generalize B.map D.str=DB' at*;unfold Up;simp[nerr,cM,fM,mn,q4]
    rw[s4];clear s4;cases e:p.kd with
    |town a b=>
     have nb:¬(("town":Str)="basin"):=by decide
     refine⟨λ_=>?_,λz=>absurd rfl z⟩;generalize A.map D.str=DA' at*;generalize B.map D.str=DB' at*;unfold Rh;simp[e,RK.txt,nb,Bp]
    |mill a=>
     have nb:¬(("mill":Str)="basin"):=by decide
     refine⟨λ_=>?_,λz=>absurd rfl z⟩;generalize A.map D.str=DA' at*;generalize B.map D.str=DB' at*;unfold Rh;simp[e,RK.txt,nb,Bp]
    | basin b r q=>
     have e5:∀G,Af p.enc (.int 5) G=.ok (.tup (r.map Aq)) G:=λG=>by simp[RP.enc,RP.row,e,RK.rest]
     have e6:∀G,Af p.enc (.int 6) G=.ok (pmD q) G:=λG=>by simp[RP.enc,RP.row,e,RK.rest]
     have cP:=ZOI (q:=q) hG;have cU:=ZQx (yr:=yr) (r:=r) (q:=q) (sh.ru b r q e) (G++[DO.lst ((A++B).map D.str)]);have t0:tidy G (Rh [vZ H,vZ (.int k),vZ (.tup PS),vZ p.enc,vZ (.fl (A.map D.str)),vZ (.fl (B.map D.str))] G).ret=tidy G ((Aj (sIf (Eh (Ao (dFn (nerr Ol) (Ad (dOp Af (dV 3) (dC (.int 6))) (Ad (dOp Ba (dV 4) (dV 5)) Ah))))) (sRz "NoPump" "place" (Ad (dV 1) Ah)) sNx) (sIf (Eh (Ao (dFn (nerr Og) (Ad (dOp Af (dV 3) (dC (.int 5))) (Ad (dOp Af (dV 3) (dC (.int 6))) (Ad (dOp Af (dV 0) (dC (.int 0))) Ah)))))) (sRz "NoRule" "place" (Ad (dV 1) Ah)) sNx)) [vZ H,vZ (.int k),vZ (.tup PS),vZ p.enc,vZ (.fl (A.map D.str)),vZ (.fl (B.map D.str))] G).ret:=by
      generalize A.map D.str=DA' at*;generalize B.map D.str=DB' at*;generalize hT:(Aj (sIf (Eh (Ao (dFn (nerr Ol) (Ad (dOp Af (dV 3) (dC (.int 6))) (Ad (dOp Ba (dV 4) (dV 5)) Ah))))) (sRz "NoPump" "place" (Ad (dV 1) Ah)) sNx) (sIf (Eh (Ao (dFn (nerr Og) (Ad (dOp Af (dV 3) (dC (.int 5))) (Ad (dOp Af (dV 3) (dC (.int 6))) (Ad (dOp Af (dV 0) (dC (.int 0))) Ah)))))) (sRz "NoRule" "place" (Ad (dV 1) Ah)) sNx))=T
      unfold Rh;rw[hT];simp[e,RK.txt]
     rw[t0];generalize hG2:G++[DO.lst ((A++B).map D.str)]=G2 at*;generalize A.map D.str=DA' at*;generalize B.map D.str=DB' at*;generalize r.map Aq=RR at*;simp only;by_cases k4:Ky (A++B) q=vV
     ·rw[k4]at cP;refine⟨λz=>(by rw[if_pos k4]at z;cases z),λ_=>⟨[DO.lst ((A++B).map D.str)],?_⟩⟩;rw[if_pos k4,hG2];simp[-Gd,e6,ad,nerr,cP,sRz,k0,cls5]
     ·have k4':Ky (A++B) q=vX:=by simpa using k4
      rw[k4']at cP;rw[if_neg k4];by_cases k5:Ig yr r q=vV
      ·rw[k5]at cU;refine⟨λz=>(by rw[if_pos k5]at z;cases z),λ_=>⟨[DO.lst ((A++B).map D.str)],?_⟩⟩;rw[if_pos k5,hG2];simp[-Gd,e5,e6,ad,nerr,cP,h0,cU,sRz,k0,cls5]
      ·have k5':Ig yr r q=vX:=by simpa using k5
       rw[k5']at cU;rw[if_neg k5];refine⟨λ_=>?_,λz=>absurd rfl z⟩;simp[-Gd,e5,e6,ad,nerr,cP,h0,cU,tp]
@[simp]theorem ZRf{i j:Int}:Ce (.int i) (.int j) G=.ok (.int (i+j)) G:=id rfl
theorem Js{xs ys:List D}(h:xs.length+ys.length<=1000000):Ce (.tup xs) (.tup ys) G=.ok (.tup (xs++ys)) G:=by
 cases xs with
 |nil=>rfl
 |cons x xs=>
  show Ba (.tup (x::xs)) (.tup ys) G=_;unfold Ba;simp only;rw[if_pos ⟨by simp,h⟩]
theorem J1{xs:List D}(h:bels G.length xs=vX):freeze G (.ok (.tup xs) G)=.ok (.tup xs) G:=Fw (by rw[Mg];exact h)
theorem ZG4{n:Nat}{xs:List D}(h:bels n xs=vX):bels n (xs.take k)=vX:=by rw[<-j3 k xs,Mz,zV]at h;exact h.1
theorem ZGM{n:Nat}{xs:List D}(h:bels n xs=vX):bels n (xs.drop k)=vX:=by rw[<-j3 k xs,Mz,zV]at h;exact h.2
theorem Ow{xs:List D}(hj:j<xs.length)(hl:xs.length<=1000)(hb:bels G.length xs=vX)(hd:bel G.length d=vX):Ci [.tup xs,.int j,d] G=.ok (.tup (xs.set j d)) G:=by
 have c1:cutD xs vJ (vZ (j:Int))=xs.take j:=Ls (by lia);have c2:cutD xs (vZ ((j:Int)+1)) vJ=xs.drop (j+1):=by rw[show(j:Int)+1=((j+1:Nat):Int) by lia];exact Qd (by lia)
 have f1:=J1 (G:=G) (ZG4 (k:=j) hb);have f2:=J1 (G:=G) (ZGM (k:=j+1) hb);have b3:bels G.length (xs.take j++[d])=vX:=by rw[Mz,ZG4 hb];simp[hd]
 have f3:=J1 (G:=G) b3;have a1:Ce (.tup (xs.take j)) (.tup [d]) G=.ok (.tup (xs.take j++[d])) G:=Js (by simp;lia);have a2:Ce (.tup (xs.take j++[d])) (.tup (xs.drop (j+1))) G=.ok (.tup (xs.take j++[d]++xs.drop (j+1))) G:=Js (by simp;lia);have es:xs.set j d=xs.take j++[d]++xs.drop (j+1):=by rw[List.set_eq_take_append_cons_drop,if_pos hj];simp
 have be:bel G.length (.tup (xs.take j++[d]++xs.drop (j+1)))=vX:=by rw[Mg,Mz,b3,ZGM hb];rfl
 rw[es];generalize xs.take j++[d]++xs.drop (j+1)=R at*;generalize xs.take j++[d]=T at*;generalize xs.take j=T0 at*;generalize xs.drop (j+1)=T1 at*;unfold Ci ZFn;rw[Bv];simp[Dp,c1,f1,Bl,a1,f3,c2,f2,a2,Bp be]
theorem Py:p.row.length<=7/\5<=p.row.length:=by
 unfold RP.row RK.rest
 cases p.kd<;>simp
theorem Hy{q:RP}(hj:j<p.row.length)(hd:∀n,bel n d=vX)(e:p.row.set j d=q.row)(G:DH):Ci [p.enc,.int j,d] G=.ok q.enc G:=by have:=Py (p:=p);rw[RP.enc,RP.enc,<-e];exact Ow hj (by lia) ZLU (hd _)
theorem ZKh:∃r:Nat,1<=r/\r<=5/\(r=5->∃b rr q,p.kd=.basin b rr q)/\(r=4->∃b rr z,p.kd=.basin b rr (vZ z))/\∀G,Rq [p.enc,.int x] G=.ok (.int r) G:=by
 have hm:∃m:Nat,m<7/\(m:Int)=x%7:=⟨(x%7).toNat,by lia,by lia⟩;obtain⟨m,m7,em⟩:=hm;have fz:∀G:DH,freeze G (.ok (.ref G.length) (G++[.lst [.int 1,.int 2,.int 3,.int 4,.int 5,.int 5,.int 5]]))=.ok (.fl [.int 1,.int 2,.int 3,.int 4,.int 5,.int 5,.int 5]) G:=λG=>Ck rfl
 obtain⟨v,v1,v5,ev⟩:∃v:Nat,1<=v/\v<=5/\atI ([.int 1,.int 2,.int 3,.int 4,.int 5,.int 5,.int 5]:List D) (m:Int)=vZ (.int v):=by
  rcases(by lia:m=0∨m=1∨m=2∨m=3∨m=4∨m=5∨m=6)with rfl|rfl|rfl|rfl|rfl|rfl|rfl
  ·exact⟨1,by lia,by lia,rfl⟩
  ·exact⟨2,by lia,by lia,rfl⟩
  ·exact⟨3,by lia,by lia,rfl⟩
  ·exact⟨4,by lia,by lia,rfl⟩
  ·exact⟨5,by lia,by lia,rfl⟩
  ·exact⟨5,by lia,by lia,rfl⟩
  ·exact⟨5,by lia,by lia,rfl⟩
 have n1:¬(("town":Str)="basin"):=by decide
 have n2:¬(("mill":Str)="basin"):=by decide
 have st:∀G,Yc [vZ p.enc,vZ (.int x),vJ] G=O8 [vZ p.enc,vZ (.int x),vZ (.int v)] G:=λG=>by generalize p.enc=P at*;unfold Yc;simp[Bb,fz,<-em,ev]
 have key:∀(r:Nat)(G:DH),O8 [vZ p.enc,vZ (.int x),vZ (.int v)] G=.rt (.int r) G->Rq [p.enc,.int x] G=.ok (.int r) G:=λr G h=>by have tb:tidy G (.ok (.int r) G)=.ok (.int r) G:=Bp rfl;unfold Rq;rw[Bv];show tidy G (Yc [vZ p.enc,vZ (.int x),vJ] G).ret=_;rw[st,h];exact tb
 have e0:∀G,Af p.enc (.int 0) G=.ok (.str p.kd.txt) G:=λG=>renc0
 by_cases h5:v=5
 ·subst h5;by_cases hb:p.kd.txt="basin"
  ·refine⟨5,by lia,by lia,λ_=>?_,λz=>by lia,λG=>key 5 G ?_⟩
   ·cases e:p.kd with
    |town a b=>rw[e]at hb;exact absurd hb n1
    |mill a=>rw[e]at hb;exact absurd hb n2
    |basin b rr q=>exact⟨_,_,_,rfl⟩
   ·generalize p.enc=P at*;unfold O8 Nj Yh;simp[e0,hb]
  ·refine⟨2,by lia,by lia,λz=>by lia,λz=>by lia,λG=>key 2 G ?_⟩;generalize p.enc=P at*;unfold O8;simp[e0,hb]
 ·have h5':¬(v:Int)=5:=by lia
  have s2:∀G,O8 [vZ p.enc,vZ (.int x),vZ (.int v)] G=Nj [vZ p.enc,vZ (.int x),vZ (.int v)] G:=λG=>by generalize p.enc=P at*;unfold O8;simp[h5']
  by_cases h4:v=4
  ·subst h4;have hn:∀_:¬∃b rr z,p.kd=.basin b rr (vZ z),∀G,Nj [vZ p.enc,vZ (.int x),vZ (.int (4:Nat))] G=.rt (.int (3:Nat)) G:=λhz G=>by
    by_cases hb:p.kd.txt="basin"
    ·have e6:∀G,Af p.enc (.int 6) G=.ok .non G:=λG=>by
      cases e:p.kd with
      |town a b=>rw[e]at hb;exact absurd hb n1
      |mill a=>rw[e]at hb;exact absurd hb n2
      |basin b rr q=>
       cases q with
       |none=>simp[RP.enc,RP.row,e,RK.rest,pmD]
       |some z=>exact absurd ⟨b,rr,z,e⟩ hz
     generalize p.enc=P at*;unfold Nj;simp[e0,hb,e6,Cq]
    ·generalize p.enc=P at*;unfold Nj;simp[e0,hb]
   by_cases hz:∃b rr z,p.kd=.basin b rr (vZ z)
   ·refine⟨4,by lia,by lia,λz=>by lia,λ_=>hz,λG=>key 4 G ?_⟩;obtain⟨b,rr,⟨t,d,m'⟩,e⟩:=hz;have e6:∀G,Af p.enc (.int 6) G=.ok (.tup [.str t,.int d,.int m']) G:=λG=>by simp[RP.enc,RP.row,e,RK.rest,pmD]
    have hb:p.kd.txt="basin":=by rw[e];rfl
    rw[s2];generalize p.enc=P at*;unfold Nj Yh;simp[e0,hb,e6,Cq]
   ·exact⟨3,by lia,by lia,λz=>by lia,λz=>by lia,λG=>key 3 G (by rw[s2];exact hn hz G)⟩
  ·have h4':¬(v:Int)=4:=by lia
   refine⟨v,v1,v5,λz=>absurd z h5,λz=>absurd z h4,λG=>key v G ?_⟩;rw[s2];generalize p.enc=P at*;unfold Nj Yh;simp[h4']
theorem Nh:(Aw l).length=l.length:=by simp[Aw,Str.length]
theorem Ko(hp:ps[k]?=vZ p):atI (ps.map RP.enc) (k:Int)=vZ p.enc:=Ec rfl (by rw[zw,hp];rfl)
theorem ZIM(hp:ps[k]?=vZ p)(hn:ps.length<=100)(el:p.nm=Aw l){N:Nat}(hN:N<=300)(h8:l.length<=N):
  ∃z:Str,(z.length<=2*N+8∨z∈(ps.take k).map RP.nm)/\∀G,Q5 [.tup (ps.map RP.enc),.int k,.int x] G=.ok (.str z) G:=by
 have hk:k<ps.length:=(zX.mp hp).1;have ap:=Ko hp;by_cases h7:x%8=7/\0<k
 ·obtain⟨j,hj,ej⟩:∃j:Nat,j<k/\(j:Int)=x/8%(k:Int):=by have a:=zF (x/8) (show(k:Int)≠0 by lia);have b:=zE (x/8) (show(0:Int)<k by lia);exact⟨(x/8%(k:Int)).toNat,by lia,by lia⟩
  obtain⟨q,hq⟩:∃q,ps[j]?=vZ q:=⟨ps[j]'(by lia),zQ (by lia)⟩;have aq:=Ko hq;have mem:q.nm∈(ps.take k).map RP.nm:=zC.mpr ⟨q,jV (i:=j) (by rw[qS hj];exact hq),rfl⟩;refine⟨q.nm,.inr mem,λG=>?_⟩;have kz:(0:Int)<(k:Int):=by lia
  generalize ps.map RP.enc=PS at*;unfold Q5 ZEZ;rw[Bv];simp[ap,h7.1,h7.2,kz,<-ej,aq,Bp]
 ·obtain⟨m,m8,em⟩:∃m:Nat,m<8/\(m:Int)=x%8:=⟨(x%8).toNat,by lia,by lia⟩;obtain⟨S6,e6⟩:∃S:List Str,S=[("":Str),"sea",Aw (l++[97,98,99,100,101,102,103,104]),Aw (cutD l vJ (vZ 6)++[65]),Aw (cutD l vJ (vZ 7)++[51]),Aw ([32]++cutD l vJ (vZ 5))]:=⟨_,rfl⟩;obtain⟨S2,e2⟩:∃S:List Str,S=[Aw (cutD l vJ (vZ 3)++[45]++cutD l (vZ 3) (vZ 6)),"Sea"]:=⟨_,rfl⟩;have c6:=Lx l vJ (vZ 6)
  have c7:=Lx l vJ (vZ 7);have c5:=Lx l vJ (vZ 5);have c3:=Lx l vJ (vZ 3);have c36:=Lx l (vZ 3) (vZ 6);have good:∀z∈S6++S2,z.length<=2*N+8:=λz hz=>by
   rw[e6,e2]at hz;simp only[zM,zq,j4,or_false]at hz;have q1:("":Str).length<=8:=by decide +kernel
   have q2:("sea":Str).length<=8:=by decide +kernel
   have q3:("Sea":Str).length<=8:=by decide +kernel
   rcases hz with(rfl|rfl|rfl|rfl|rfl|rfl)|rfl|rfl
   ·lia
   ·lia
   ·rw[Nh];simp;lia
   ·rw[Nh];simp;lia
   ·rw[Nh];simp;lia
   ·rw[Nh];simp;lia
   ·rw[Nh];simp;lia
   ·lia
  have ln:(S6++S2).length=8:=by rw[e6,e2];rfl
  obtain⟨z,hz⟩:∃z,(S6++S2)[m]?=vZ z:=⟨(S6++S2)[m]'(by lia),zQ (by lia)⟩;have az:atI (S6.map D.str++S2.map D.str) (m:Int)=vZ (.str z):=Ec rfl (by rw[<-zR,zw,hz];rfl);have g2:=good z (jV hz);refine⟨z,.inl g2,λG=>?_⟩;have w2:("abcdefgh":Str)=Aw [97,98,99,100,101,102,103,104]:=by decide +kernel
  have wA:("A":Str)=Aw [65]:=by decide +kernel
  have w3:("3":Str)=Aw [51]:=by decide +kernel
  have wb:(" ":Str)=Aw [32]:=by decide +kernel
  have wm:("-":Str)=Aw [45]:=by decide +kernel
  have s6:=Io (l:=l) (lo:=vJ) (hi:=vZ 6) (by lia) G;have s7:=Io (l:=l) (lo:=vJ) (hi:=vZ 7) (by lia) G;have s5:=Io (l:=l) (lo:=vJ) (hi:=vZ 5) (by lia) G;have s3:=Io (l:=l) (lo:=vJ) (hi:=vZ 3) (by lia) G;have s36:=Io (l:=l) (lo:=vZ 3) (hi:=vZ 6) (by lia) G;have a2:=add_str (l:=l) (l':=[97,98,99,100,101,102,103,104]) (by simp;lia) G;have a6:=add_str (l:=cutD l vJ (vZ 6)) (l':=[65]) (by simp;lia) G
  have a7:=add_str (l:=cutD l vJ (vZ 7)) (l':=[51]) (by simp;lia) G;have a5:=add_str (l:=[32]) (l':=cutD l vJ (vZ 5)) (by simp;lia) G;have a3:=add_str (l:=cutD l vJ (vZ 3)) (l':=[45]) (by simp;lia) G;have a36:=add_str (l:=cutD l vJ (vZ 3)++[45]) (l':=cutD l (vZ 3) (vZ 6)) (by simp;lia) G;have f6:freeze G (.ok (.ref G.length) (G++[.lst (S6.map D.str)]))=.ok (.fl (S6.map D.str)) G:=Ck Ft
  have f2:freeze G (.ok (.ref G.length) (G++[.lst (S2.map D.str)]))=.ok (.fl (S2.map D.str)) G:=Ck Ft;have f8:freeze G (.ok (.ref G.length) (G++[.lst (S6.map D.str++S2.map D.str)]))=.ok (.fl (S6.map D.str++S2.map D.str)) G:=Ck (by rw[Mz,Ft,Ft];rfl);have l6:(S6.map D.str).length+(S2.map D.str).length<=1000000:=by rw[zZ,zZ];simp at ln;lia
  have ad:Ba (.fl (S6.map D.str)) (.fl (S2.map D.str)) G=.ok (.ref G.length) (G++[.lst (S6.map D.str++S2.map D.str)]):=by rw[Gd,if_pos l6]
  have E6:S6.map D.str=[.str "",.str "sea",.str (Aw (l++[97,98,99,100,101,102,103,104])),.str (Aw (cutD l vJ (vZ 6)++[65])),.str (Aw (cutD l vJ (vZ 7)++[51])),.str (Aw ([32]++cutD l vJ (vZ 5)))]:=by rw[e6];rfl
  have E2:S2.map D.str=[.str (Aw (cutD l vJ (vZ 3)++[45]++cutD l (vZ 3) (vZ 6))),.str "Sea"]:=by rw[e2];rfl
  generalize S6.map D.str=T6 at*;generalize S2.map D.str=T2 at*;generalize Aw (l++[97,98,99,100,101,102,103,104])=z2 at*;generalize Aw (cutD l vJ (vZ 6)++[65])=z6 at*;generalize Aw (cutD l vJ (vZ 7)++[51])=z7 at*;generalize Aw ([32]++cutD l vJ (vZ 5))=z5 at*;generalize Aw (cutD l vJ (vZ 3)++[45]++cutD l (vZ 3) (vZ 6))=z36 at*;generalize Aw (cutD l vJ (vZ 3)++[45])=z3 at*
  generalize Aw (cutD l vJ (vZ 6))=y6 at*;generalize Aw (cutD l vJ (vZ 7))=y7 at*;generalize Aw (cutD l vJ (vZ 5))=y5 at*;generalize Aw (cutD l vJ (vZ 3))=y3 at*;generalize Aw (cutD l (vZ 3) (vZ 6))=y36 at*;generalize Aw [97,98,99,100,101,102,103,104]=v2 at*;generalize Aw [65]=vA at*;generalize Aw [51]=v3 at*;generalize Aw [32]=vb at*;generalize Aw [45]=vm at*;generalize Aw l=L0 at*
  generalize ps.map RP.enc=PS at*;have l6a:T6.length<=1000000:=by lia
  have l2a:T2.length<=1000000:=by lia
  have n7:¬((x%8=7)/\(0:Int)<(k:Int)):=λq=>h7 ⟨q.1,by lia⟩
  unfold Q5 ZEZ;rw[Bv];by_cases q7:x%8=7
  ·have k0:¬(0:Int)<(k:Int):=λq=>n7 ⟨q7,q⟩
   have k00:¬0<k:=by lia
   rw[em,q7]at az;simp[-Ma,-Ks,-Gd,ap,el,q7,k0,k00,w2,a2,Dp,s6,K1,wA,a6,s7,w3,a7,wb,s5,a5,<-E6,l6a,f6,s3,wm,a3,s36,a36,<-E2,l2a,f2,ad,f8,az,Bp]
  ·rw[em]at az;simp[-Ma,-Ks,-Gd,ap,el,q7,w2,a2,Dp,s6,K1,wA,a6,s7,w3,a7,wb,s5,a5,<-E6,l6a,f6,s3,wm,a3,s36,a36,<-E2,l2a,f2,ad,f8,az,Bp]
def rnP(old z:Str):RK->RK
 |.basin c r (vZ (t,d,m))=>.basin c r (vZ (if t=old then z else t,d,m))
 |k=>k
def rn(old z:Str)(b:Bool)(q:RP):RP:=⟨if b=vX then z else q.nm,if q.dn=old then z else q.dn,q.dl,rnP old z q.kd⟩
section
variable{s0 s1:Option D}{z old:Str}{G:DH}{acc:List D}{k:Nat}
theorem rn4{q:RP}{sk:Option D}(ha:acc.length<=1000):ZCK [s0,s1,vZ (.str z),vZ (.str old),vZ (.ref G.length),sk,vZ q.enc] (G++[.lst acc])=.nx [s0,s1,vZ (.str z),vZ (.str old),vZ (.ref G.length),sk,vZ q.enc] (G++[.lst (acc++[q.enc])]):=by
 have g0:(G++[DO.lst acc])[G.length]?=vZ (.lst acc):=by simp
 have st:(G++[DO.lst acc]).set G.length (.lst (acc++[q.enc]))=G++[.lst (acc++[q.enc])]:=by simp
 have hl:acc.length<1000000:=by lia
 generalize q.enc=Q at*;unfold ZCK;simp[g0,hl,st]
theorem rn3{q:RP}(ha:acc.length<=1000):Wj [s0,vZ (.int k),vZ (.str z),vZ (.str old),vZ (.ref G.length),vZ (.int i),vZ q.enc] (G++[.lst acc])=.nx [s0,vZ (.int k),vZ (.str z),vZ (.str old),vZ (.ref G.length),vZ (.int i),vZ (RP.enc {q with nm:=if i=k then z else q.nm})] (G++[.lst (acc++[RP.enc {q with nm:=if i=k then z else q.nm}])]):=by
 unfold Wj;by_cases e:i=k
 ·subst e;have cp:=Hy (p:=q) (q:={q with nm:=z}) (j:=1) (d:=.str z) (by have:=Py (p:=q);lia) (λ_=>rfl) rfl (G++[.lst acc]);have fz:∀G:DH,freeze G (.ok (RP.enc {q with nm:=z}) G)=.ok (RP.enc {q with nm:=z}) G:=λG=>Fw Jz
  have r4:=rn4 (s0:=s0) (s1:=vZ (.int i)) (z:=z) (old:=old) (G:=G) (q:={q with nm:=z}) (sk:=vZ (.int i)) ha;have cp':Ci [q.enc,.int 1,.str z] (G++[.lst acc])=.ok (RP.enc {q with nm:=z}) (G++[.lst acc]):=cp;rw[if_pos rfl];generalize RP.enc {q with nm:=z}=Z at*;generalize q.enc=Q at*;simp[cp',fz,r4]
 ·have e':¬(i:Int)=(k:Int):=by lia
  have r4:=rn4 (s0:=s0) (s1:=vZ (.int k)) (z:=z) (old:=old) (G:=G) (q:=q) (sk:=vZ (.int i)) ha;have eq:({q with nm:=if i=k then z else q.nm}:RP)=q:=by rw[if_neg e]
  rw[eq];generalize q.enc=Q at*;simp[e,e',r4]
theorem rn2{q:RP}(ha:acc.length<=1000):ZAh [s0,vZ (.int k),vZ (.str z),vZ (.str old),vZ (.ref G.length),vZ (.int i),vZ q.enc] (G++[.lst acc])=Wj [s0,vZ (.int k),vZ (.str z),vZ (.str old),vZ (.ref G.length),vZ (.int i),vZ (RP.enc {q with kd:=rnP old z q.kd})] (G++[.lst acc]):=by
 have nt:¬(("town":Str)="basin"):=by decide
 have nm:¬(("mill":Str)="basin"):=by decide
 unfold ZAh;cases e:q.kd with
 | town a b=>
  have eq:({q with kd:=rnP old z (.town a b)}:RP)=q:=by
   obtain⟨x1,x2,x3,x4⟩:=q;dsimp only at e;subst e
   rfl
  rw[eq];simp[e,RK.txt,nt]
 | mill a=>
  have eq:({q with kd:=rnP old z (.mill a)}:RP)=q:=by
   obtain⟨x1,x2,x3,x4⟩:=q;dsimp only at e;subst e
   rfl
  rw[eq];simp[e,RK.txt,nm]
 | basin b r pq=>
  have e6:∀G,Af q.enc (.int 6) G=.ok (pmD pq) G:=λG=>by simp[RP.enc,RP.row,e,RK.rest]
  cases pq with
  | none=>
   have eq:({q with kd:=rnP old z (.basin b r vJ)}:RP)=q:=by
    obtain⟨x1,x2,x3,x4⟩:=q;dsimp only at e;subst e
    rfl
   rw[eq];simp[e,RK.txt,e6,pmD,Cq]
  | some w=>
   obtain⟨t,d,m⟩:=w;by_cases et:t=old
   ·have eq:({q with kd:=rnP old z (.basin b r (vZ (t,d,m)))}:RP)={q with kd:=.basin b r (vZ (z,d,m))}:=by show({q with kd:=.basin b r (vZ (if t=old then z else t,d,m))}:RP)=_;rw[if_pos et]
    rw[eq];have cp:=Hy (p:=q) (q:={q with kd:=.basin b r (vZ (z,d,m))}) (j:=6) (d:=.tup [.str z,.int d,.int m]) (by unfold RP.row RK.rest;rw[e];simp) (λ_=>rfl) (by unfold RP.row RK.rest;rw[e];rfl) (G++[.lst acc]);have cp':Ci [q.enc,.int 6,.tup [.str z,.int d,.int m]] (G++[.lst acc])=.ok (RP.enc {q with kd:=.basin b r (vZ (z,d,m))}) (G++[.lst acc]):=cp;have fz:∀G:DH,freeze G (.ok (RP.enc {q with kd:=.basin b r (vZ (z,d,m))}) G)=.ok (RP.enc {q with kd:=.basin b r (vZ (z,d,m))}) G:=λG=>Fw Jz
    have c1:∀t:Str,cutD [D.str t,.int d,.int m] (vZ 1) vJ=[.int d,.int m]:=λ_=>rfl
    have f1:∀G:DH,freeze G (.ok (.tup [.int d,.int m]) G)=.ok (.tup [.int d,.int m]) G:=λG=>Fw rfl
    have f2:∀G:DH,freeze G (.ok (.tup [.str z,.int d,.int m]) G)=.ok (.tup [.str z,.int d,.int m]) G:=λG=>Fw rfl
    generalize RP.enc {q with kd:=.basin b r (vZ (z,d,m))}=Z at*;simp[e,RK.txt,e6,pmD,Cq,et,Bl,Dp,c1,f1,f2,cp',fz]
   ·have eq:({q with kd:=rnP old z (.basin b r (vZ (t,d,m)))}:RP)=q:=by obtain⟨x1,x2,x3,x4⟩:=q;dsimp only at e;subst e;show(⟨x1,x2,x3,.basin b r (vZ (if t=old then z else t,d,m))⟩:RP)=_;rw[if_neg et]
    rw[eq];simp[e,RK.txt,e6,pmD,Cq,et]
theorem rn1{q:RP}{PS:List D}{x6:Option D}(hq:atI PS (i:Int)=vZ q.enc)(ha:acc.length<=1000):Tu [vZ (.tup PS),vZ (.int k),vZ (.str z),vZ (.str old),vZ (.ref G.length),vZ (.int i),x6] (G++[.lst acc])=.nx [vZ (.tup PS),vZ (.int k),vZ (.str z),vZ (.str old),vZ (.ref G.length),vZ (.int i),vZ (RP.enc (rn old z (decide (i=k)) q))] (G++[.lst (acc++[RP.enc (rn old z (decide (i=k)) q)])]):=by
 have er:rn old z (decide (i=k)) q={({({q with dn:=if q.dn=old then z else q.dn}:RP)with kd:=rnP old z q.kd}:RP)with nm:=if i=k then z else q.nm}:=by
  unfold rn
  by_cases e:i=k<;>simp[e]
 rw[er];have r2:=rn2 (s0:=vZ (.tup PS)) (z:=z) (old:=old) (G:=G) (acc:=acc) (k:=k) (q:={q with dn:=if q.dn=old then z else q.dn}) (i:=i) ha;have r3:=rn3 (s0:=vZ (.tup PS)) (z:=z) (old:=old) (G:=G) (acc:=acc) (k:=k) (q:={({q with dn:=if q.dn=old then z else q.dn}:RP)with kd:=rnP old z q.kd}) (i:=i) ha;rw[<-r3,<-r2];unfold Tu ZJS;by_cases e:q.dn=old
 ·have cp:=Hy (p:=q) (q:={q with dn:=z}) (j:=2) (d:=.str z) (by have:=Py (p:=q);lia) (λ_=>rfl) rfl (G++[.lst acc]);have cp':Ci [q.enc,.int 2,.str z] (G++[.lst acc])=.ok (RP.enc {q with dn:=z}) (G++[.lst acc]):=cp;have fz:∀G:DH,freeze G (.ok (RP.enc {q with dn:=z}) G)=.ok (RP.enc {q with dn:=z}) G:=λG=>Fw Jz
  have eq:({q with dn:=if q.dn=old then z else q.dn}:RP)={q with dn:=z}:=by rw[if_pos e]
  rw[eq];generalize RP.enc {q with dn:=z}=Z at*;simp[hq,e,cp',fz]
 ·have eq:({q with dn:=if q.dn=old then z else q.dn}:RP)=q:=by rw[if_neg e]
  rw[eq];simp[hq,e]
theorem ZHg{ps:List RP}:∀(m i:Nat)(acc:List D)(x5 x6:Option D),i+m=ps.length->acc.length+m<=1000->∃y5 y6,
  Dj (gV 5) Tu (Cr i m) [vZ (.tup (ps.map RP.enc)),vZ (.int k),vZ (.str z),vZ (.str old),vZ (.ref G.length),x5,x6] (G++[.lst acc])=
   .nx [vZ (.tup (ps.map RP.enc)),vZ (.int k),vZ (.str z),vZ (.str old),vZ (.ref G.length),y5,y6] (G++[.lst (acc++(qX i m).map λj=>RP.enc (rn old z (decide (j=k)) (ps.getD j ⟨"","",0,.mill 0⟩)))])
 |0,i,acc,x5,x6,_,_=>⟨x5,x6,by rw[Jo,Im];simp⟩
 |m+1,i,acc,x5,x6,e,hl=>by
  have hi:i<ps.length:=by lia
  have hq:ps[i]?=vZ (ps.getD i ⟨"","",0,.mill 0⟩):=by rw[zB,zQ hi];rfl
  obtain⟨y5,y6,ih⟩:=ZHg (ps:=ps) m (i+1) (acc++[RP.enc (rn old z (decide (i=k)) (ps.getD i ⟨"","",0,.mill 0⟩))]) (vZ (.int i)) (vZ (RP.enc (rn old z (decide (i=k)) (ps.getD i ⟨"","",0,.mill 0⟩)))) (by lia) (by simp;lia);refine⟨y5,y6,?_⟩;have hb:=rn1 (z:=z) (old:=old) (G:=G) (acc:=acc) (k:=k) (x6:=x6) (Ko hq) (by lia);have e1:((i:Int)+1)=((i+1:Nat):Int):=by lia
  rw[Iv,Gn];simp only[Di,R.Ib,qD,hb,Ii];rw[e1,ih,List.range'_succ,zz,qR]
  rfl
end
def rnL(old z:Str)(k:Nat)(ps:List RP):List RP:=(qX 0 ps.length).map λj=>rn old z (decide (j=k)) (ps.getD j ⟨"","",0,.mill 0⟩)
theorem ZPv(h:ps[i]?=vZ p):(rnL old z k ps)[i]?=vZ (rn old z (decide (i=k)) p):=by have hi:=(zX.mp h).1;unfold rnL;rw[zw,List.getElem?_range' hi];simp[zB,h]
theorem ZEF:(rnL old z k ps).length=ps.length:=by simp[rnL]
theorem ZMd(hp:ps[k]?=vZ p)(hn:ps.length<=100)(G:DH):V7 [.tup (ps.map RP.enc),.int k,.str z] G=.ok (.tup ((rnL p.nm z k ps).map RP.enc)) G:=by
 have ap:=Ko hp;obtain⟨y5,y6,hL⟩:=ZHg (k:=k) (z:=z) (old:=p.nm) (G:=G) (ps:=ps) ps.length 0 [] vJ vJ (by lia) (by simp;lia);rw[jA]at hL;have hL':Dj (gV 5) Tu (Cr 0 ps.length) [vZ (.tup (ps.map RP.enc)),vZ (.int k),vZ (.str z),vZ (.str p.nm),vZ (.ref G.length),vJ,vJ] (G++[.lst []])=.nx [vZ (.tup (ps.map RP.enc)),vZ (.int k),vZ (.str z),vZ (.str p.nm),vZ (.ref G.length),y5,y6] (G++[.lst ((rnL p.nm z k ps).map RP.enc)]):=by
  rw[show(rnL p.nm z k ps).map RP.enc=(qX 0 ps.length).map λj=>RP.enc (rn p.nm z (decide (j=k)) (ps.getD j ⟨"","",0,.mill 0⟩)) by unfold rnL;rw[q8];rfl];exact hL
 have tn:tidy G (.ok (.ref G.length) (G++[.lst []]))=.ok (.ref G.length) (G++[.lst []]):=Jv rfl;have hr:inR (ps.length:Int):=Hm (by lia) (by lia);have ln:(((ps.map RP.enc).length:Nat):Int)=ps.length:=by rw[zZ]
 have lr:((rnL p.nm z k ps).map RP.enc).length<=1000000:=by rw[zZ,ZEF];lia
 have g0:(G++[DO.lst ((rnL p.nm z k ps).map RP.enc)])[G.length]?=vZ (.lst ((rnL p.nm z k ps).map RP.enc)):=by simp
 have td:tidy G (.ok (.tup ((rnL p.nm z k ps).map RP.enc)) (G++[DO.lst ((rnL p.nm z k ps).map RP.enc)]))=.ok (.tup ((rnL p.nm z k ps).map RP.enc)) G:=R8 (by rw[Mg];exact Kz);generalize(rnL p.nm z k ps).map RP.enc=R at*;generalize ps.map RP.enc=PS at*;unfold V7 ZGe;rw[Bv];simp[ap,Bb,tn,ln,hr,hL',g0,td,lr]
theorem ZA1{xs:List D}{x:D}:atI (xs++[x]) (-1)=vZ x:=by
 rw[ZOC (by decide) (by simp;lia)];have e3:((-1:Int)+((xs++[x]).length:Int)).toNat=xs.length:=by simp;lia
 simp only[e3];simp
theorem ZKZ(h:Km yr r=vV):Ig yr r q=vV:=by unfold Ig;rw[h];rfl
theorem Mr{n:Nat}{r:List Stp}:bels n (r.map Stp.enc)=vX:=Jd λ_ _=>rfl
noncomputable def Cy(st:List Stp):Int:=match st.getLast? with
 |some s=>s.h+s.m
 |none=>0
section
variable{yr:Int}{r:List Ssn}{q:Option (Str×Int×Int)}{x:Int}{w:Int}{j:Nat}{sj:Ssn}
theorem ZOQ(hr:r.length<=100)(hj:r[j]?=vZ sj)(ej:(j:Int)=x%(r.length:Int))(G:DH):
  Rr [vZ (.tup (r.map Aq)),vZ (pmD q),vZ (.int yr),vZ (.int w),vZ (.int x),vJ,vJ,vJ,vJ,vJ,vJ,vJ,vJ,vJ,vJ] G=
   K4 [vZ (.tup (r.map Aq)),vZ (pmD q),vZ (.int yr),vZ (.int w),vZ (.int x),vZ (.int j),vZ (.int sj.1),vZ (.tup (sj.2.map Stp.enc)),vZ (.int (Cy sj.2)),vJ,vJ,vJ,vJ,vJ,vJ] G:=by
 have hl:0<r.length:=by have:=(zX.mp hj).1;lia
 have ln:(((r.map Aq).length:Nat):Int)=(r.length:Int):=by rw[zZ]
 have nz:¬((r.length:Int)=0):=by lia
 have nz':¬r.map Aq=[]:=by cases r with |nil=>simp at hl|cons a b=>simp
 have lz:(0:Int)<(r.length:Int):=by lia
 have rne:r≠[]:=λz=>by rw[z]at hl;simp at hl
 have lz':0<r.length:=hl;have aj:atI (r.map Aq) (j:Int)=vZ (Aq sj):=Ec rfl (by rw[zw,hj];rfl);have es:Aq sj=.tup [.int sj.1,.tup (sj.2.map Stp.enc)]:=rfl;rw[es]at aj;have key:Wu [vZ (.tup (r.map Aq)),vZ (pmD q),vZ (.int yr),vZ (.int w),vZ (.int x),vZ (.int j),vZ (.int sj.1),vZ (.tup (sj.2.map Stp.enc)),vZ (.int 0),vJ,vJ,vJ,vJ,vJ,vJ] G=K4 [vZ (.tup (r.map Aq)),vZ (pmD q),vZ (.int yr),vZ (.int w),vZ (.int x),vZ (.int j),vZ (.int sj.1),vZ (.tup (sj.2.map Stp.enc)),vZ (.int (Cy sj.2)),vJ,vJ,vJ,vJ,vJ,vJ] G:=by
  rcases j5 sj.2 with e|⟨l,s,e⟩
  ·rw[e];have t0:Cy []=0:=rfl;rw[t0];unfold Wu;simp
  ·rw[j6]at e;rw[e];have t0:Cy (l++[s])=s.h+s.m:=by unfold Cy;simp
   have al:atI ((l++[s]).map Stp.enc) (-1)=vZ (Stp.enc s):=by rw[zR];exact ZA1
   have ll:(0:Int)<((((l++[s]).map Stp.enc).length:Nat):Int):=by rw[zZ,zU,j1];lia
   have lne:((l++[s]).map Stp.enc)≠[]:=by simp
   have es2:Stp.enc s=.tup [.int s.h,.int s.m,.str (wy s.r)]:=rfl;rw[t0];rw[es2]at al;generalize(l++[s]).map Stp.enc=Z at*;generalize r.map Aq=R at*;have ll':0<Z.length:=by lia
   unfold Wu;simp[ll,ll',al,Ho]
 rw[<-key];generalize sj.2.map Stp.enc=Z at*;generalize r.map Aq=R at*;unfold Rr ZJD ZGn ZFQ;simp[ln,nz,nz',rne,lz,lz',<-ej,aj]
end
section
variable{yr:Int}{r:List Ssn}{q:Option (Str×Int×Int)}{x:Int}{j:Nat}{sj:Ssn}{G:DH}
theorem T9{f:α->D}{l:List α}(h:j<=l.length):cutD (l.map f) vJ (vZ (j:Int))=(l.take j).map f:=by rw[Ls (by rw[zZ];exact h),jJ]
theorem Li{f:α->D}{l:List α}(h:j<=l.length):cutD (l.map f) (vZ (j:Int)) vJ=(l.drop j).map f:=by rw[Qd (by rw[zZ];exact h),jx]
theorem three{A B C:List D}(h:A.length+B.length+C.length<=1000)(ha:bels G.length A=vX)(hb:bels G.length B=vX)(hc:bels G.length C=vX):
  freeze G (.ok (.tup A) G)=.ok (.tup A) G/\Ce (.tup A) (.tup B) G=.ok (.tup (A++B)) G/\freeze G (.ok (.tup (A++B)) G)=.ok (.tup (A++B)) G/\freeze G (.ok (.tup C) G)=.ok (.tup C) G/\Ce (.tup (A++B)) (.tup C) G=.ok (.tup (A++B++C)) G/\freeze G (.ok (.tup (A++B++C)) G)=.ok (.tup (A++B++C)) G:=
 ⟨J1 ha,Js (by lia),J1 (by rw[Mz,ha,hb];rfl),J1 hc,Js (by rw[zU];lia),J1 (by rw[Mz,Mz,ha,hb,hc];rfl)⟩
theorem ZQq(hr:r.length<=100)(hj:j<r.length){bg:Int}{s1 s2 s7 s8 s9 s10 s12 s13 s14:Option D}:
  Vv [vZ (.tup (r.map Aq)),s1,s2,s3,s4,vZ (.int j),vZ (.int bg),s7,s8,s9,s10,vZ (.tup (st.map Stp.enc)),s12,s13,s14] G=.rt (.tup ((r.take j++[(bg,st)]++r.drop (j+1)).map Aq)) G:=by
 have c1:=T9 (f:=Aq) (l:=r) (j:=j) (by lia);have c2:=Li (f:=Aq) (l:=r) (j:=j+1) (by lia);have e1:((j:Int)+1)=((j+1:Nat):Int):=by lia
 obtain⟨f1,a1,f3,f2,a2,_⟩:=three (G:=G) (A:=(r.take j).map Aq) (B:=[Aq (bg,st)]) (C:=(r.drop (j+1)).map Aq) (by simp;lia) Kf (Kf (ss:=[(bg,st)])) Kf;have em:(r.take j++[(bg,st)]++r.drop (j+1)).map Aq=(r.take j).map Aq++[Aq (bg,st)]++(r.drop (j+1)).map Aq:=by simp
 rw[em];rw[<-e1]at c2;have es:Aq (bg,st)=.tup [.int bg,.tup (st.map Stp.enc)]:=rfl;rw[es]at a1 f3 a2⊢;generalize(r.take j).map Aq=A at*;generalize(r.drop (j+1)).map Aq=C at*;generalize r.map Aq=R at*;generalize st.map Stp.enc=Z at*;generalize A++[D.tup [.int bg,.tup Z]]++C=ABC at*;generalize A++[D.tup [.int bg,.tup Z]]=AB at*;unfold Vv;simp[Dp,c1,f1,Bl,a1,f3,c2,f2,a2]
end
section
variable{s0 s1 s2 s3 s4 s5 s6 s7 s8 s9 s10 s11 s12 s13 s14:Option D}{d:D}{G:DH}
theorem Gu:dV 0 [vZ d,s1,s2,s3,s4,s5,s6,s7,s8,s9,s10,s11,s12,s13,s14] G=.ok d G:=id rfl
theorem Hi:dV 1 [s0,vZ d,s2,s3,s4,s5,s6,s7,s8,s9,s10,s11,s12,s13,s14] G=.ok d G:=id rfl
theorem Gw:dV 2 [s0,s1,vZ d,s3,s4,s5,s6,s7,s8,s9,s10,s11,s12,s13,s14] G=.ok d G:=id rfl
theorem Gx:dV 3 [s0,s1,s2,vZ d,s4,s5,s6,s7,s8,s9,s10,s11,s12,s13,s14] G=.ok d G:=id rfl
theorem Hg:dV 4 [s0,s1,s2,s3,vZ d,s5,s6,s7,s8,s9,s10,s11,s12,s13,s14] G=.ok d G:=id rfl
theorem Gk:dV 5 [s0,s1,s2,s3,s4,vZ d,s6,s7,s8,s9,s10,s11,s12,s13,s14] G=.ok d G:=id rfl
theorem Hj:dV 6 [s0,s1,s2,s3,s4,s5,vZ d,s7,s8,s9,s10,s11,s12,s13,s14] G=.ok d G:=id rfl
theorem Gs:dV 7 [s0,s1,s2,s3,s4,s5,s6,vZ d,s8,s9,s10,s11,s12,s13,s14] G=.ok d G:=id rfl
theorem Hb:dV 8 [s0,s1,s2,s3,s4,s5,s6,s7,vZ d,s9,s10,s11,s12,s13,s14] G=.ok d G:=id rfl
theorem Gi:dV 9 [s0,s1,s2,s3,s4,s5,s6,s7,s8,vZ d,s10,s11,s12,s13,s14] G=.ok d G:=id rfl
theorem Gr:dV 12 [s0,s1,s2,s3,s4,s5,s6,s7,s8,s9,s10,s11,vZ d,s13,s14] G=.ok d G:=id rfl
theorem Gh:dV 10 [s0,s1,s2,s3,s4,s5,s6,s7,s8,s9,vZ d,s11,s12,s13,s14] G=.ok d G:=id rfl
theorem Hh:dV 11 [s0,s1,s2,s3,s4,s5,s6,s7,s8,s9,s10,vZ d,s12,s13,s14] G=.ok d G:=id rfl
theorem Gg:dV 13 [s0,s1,s2,s3,s4,s5,s6,s7,s8,s9,s10,s11,s12,vZ d,s14] G=.ok d G:=id rfl
theorem Gq:dV 14 [s0,s1,s2,s3,s4,s5,s6,s7,s8,s9,s10,s11,s12,s13,vZ d] G=.ok d G:=id rfl
theorem Gz:gV 9 d [s0,s1,s2,s3,s4,s5,s6,s7,s8,s9,s10,s11,s12,s13,s14] G=.ok [s0,s1,s2,s3,s4,s5,s6,s7,s8,vZ d,s10,s11,s12,s13,s14] G:=id rfl
theorem Hd:gV 10 d [s0,s1,s2,s3,s4,s5,s6,s7,s8,s9,s10,s11,s12,s13,s14] G=.ok [s0,s1,s2,s3,s4,s5,s6,s7,s8,s9,vZ d,s11,s12,s13,s14] G:=id rfl
theorem H9:gV 11 d [s0,s1,s2,s3,s4,s5,s6,s7,s8,s9,s10,s11,s12,s13,s14] G=.ok [s0,s1,s2,s3,s4,s5,s6,s7,s8,s9,s10,vZ d,s12,s13,s14] G:=id rfl
theorem Hl:gV 12 d [s0,s1,s2,s3,s4,s5,s6,s7,s8,s9,s10,s11,s12,s13,s14] G=.ok [s0,s1,s2,s3,s4,s5,s6,s7,s8,s9,s10,s11,vZ d,s13,s14] G:=id rfl
theorem Gj:gV 13 d [s0,s1,s2,s3,s4,s5,s6,s7,s8,s9,s10,s11,s12,s13,s14] G=.ok [s0,s1,s2,s3,s4,s5,s6,s7,s8,s9,s10,s11,s12,vZ d,s14] G:=id rfl
theorem H8:gV 14 d [s0,s1,s2,s3,s4,s5,s6,s7,s8,s9,s10,s11,s12,s13,s14] G=.ok [s0,s1,s2,s3,s4,s5,s6,s7,s8,s9,s10,s11,s12,s13,vZ d] G:=id rfl
end
section
variable{s0 s1 s2 s4 s5 s6 s7 s8 s9 s10 s11 s12 s13 s14:Option D}{w:Int}{G:DH}
theorem ZId(h:w≠2):R5 [s0,s1,s2,vZ (.int w),s4,s5,s6,s7,s8,s9,s10,s11,s12,s13,s14] G=T7 [s0,s1,s2,vZ (.int w),s4,s5,s6,s7,s8,s9,s10,s11,s12,s13,s14] G:=by unfold R5;simp[h]
theorem ZH1(h:w≠2):T7 [s0,s1,s2,vZ (.int w),s4,s5,s6,s7,s8,s9,s10,s11,s12,s13,s14] G=Ti [s0,s1,s2,vZ (.int w),s4,s5,s6,s7,s8,s9,s10,s11,s12,s13,s14] G:=by unfold T7;simp[h]
theorem ZPY(h:w≠3):Ti [s0,s1,s2,vZ (.int w),s4,s5,s6,s7,s8,s9,s10,s11,s12,s13,s14] G=ZBX [s0,s1,s2,vZ (.int w),s4,s5,s6,s7,s8,s9,s10,s11,s12,s13,s14] G:=by unfold Ti;simp[h]
theorem Xl(h:w≠5):Rb [s0,s1,s2,vZ (.int w),s4,s5,s6,s7,s8,s9,s10,s11,s12,s13,s14] G=Qw [s0,s1,s2,vZ (.int w),s4,s5,s6,s7,s8,s9,s10,s11,s12,s13,s14] G:=by unfold Rb;simp[h]
theorem Y7(h:w≠5):Qw [s0,s1,s2,vZ (.int w),s4,s5,s6,s7,s8,s9,s10,s11,s12,s13,s14] G=Pg [s0,s1,s2,vZ (.int w),s4,s5,s6,s7,s8,s9,s10,s11,s12,s13,s14] G:=by unfold Qw;simp[h]
theorem W9(h:w≠6):Pg [s0,s1,s2,vZ (.int w),s4,s5,s6,s7,s8,s9,s10,s11,s12,s13,s14] G=Ur [s0,s1,s2,vZ (.int w),s4,s5,s6,s7,s8,s9,s10,s11,s12,s13,s14] G:=by unfold Pg;simp[h]
theorem Pj(h:w≠4):Ur [s0,s1,s2,vZ (.int w),s4,s5,s6,s7,s8,s9,s10,s11,s12,s13,s14] G=V3 [s0,s1,s2,vZ (.int w),s4,s5,s6,s7,s8,s9,s10,s11,s12,s13,s14] G:=by unfold Ur;simp[h]
theorem Q6(h:w≠7):V3 [s0,s1,s2,vZ (.int w),s4,s5,s6,s7,s8,s9,s10,s11,s12,s13,s14] G=Vv [s0,s1,s2,vZ (.int w),s4,s5,s6,s7,s8,s9,s10,s11,s12,s13,s14] G:=by unfold V3;simp[h]
end
noncomputable def moF(u:Int):Option (Str×Int×Int)->Int
 |none=>0
 |some (_,_,m)=>max 0 m-u
theorem ZJu:Cw (Dn 3 (Bq (gV 0) (Bq (gV 1) (Bq (gV 2) Ds)))) ZDP ZER [vJ,vJ,vJ] (st.map Stp.enc) G=.ok ((pmps st).map D.int) G:=by
 rw[Ri (F:=λd=>match d with | .tup [_,m,.str w]=>if w="pump" then vZ m else vJ|_=>vJ) λy hy=>?_]
 ·congr 1
  unfold pmps
  induction st with
  |nil=>rfl
  |cons s st ih=>
   rw[zz,zH,ih,qC];have es:Stp.enc s=.tup [.int s.h,.int s.m,.str (wy s.r)]:=rfl;rw[es];cases hr:s.r with
   |true=>simp[wy,pr]
   |false=>simp[wy]
 ·obtain⟨s,_,rfl⟩:=zC.mp hy;have es:Stp.enc s=.tup [.int s.h,.int s.m,.str (wy s.r)]:=rfl;rw[es];refine⟨[vZ (.int s.h),vZ (.int s.m),vZ (.str (wy s.r))],by simp,?_⟩;unfold ZDP ZER;cases hr:s.r with
  |true=>exact .inl ⟨by simp[wy,pr],by simp[wy,pr]⟩
  |false=>exact .inr ⟨by simp[wy],.int s.m,by simp,by simp[wy]⟩
section
variable{yr:Int}{r:List Ssn}{q:Option (Str×Int×Int)}{x:Int}{j:Nat}{sj:Ssn}
theorem ZNz{M:Nat}(hM:M<=500)(hr:r.length<=100)(hs:∀s∈r,s.2.length<=M){w:Nat}(hw:w<=7):
  ∃r':List Ssn,(∀s∈r',s.2.length<=M+1)/\r'.length<=r.length+1/\∀G,Nv [.tup (r.map Aq),pmD q,.int yr,.int w,.int x] G=.ok (.tup (r'.map Aq)) G:=by
 rcases Nat.eq_zero_or_pos r.length with h0|hl
 ·have e0:r=[]:=qZ h0;subst e0
  refine⟨[],(λs h=>nomatch h),by simp,λG=>?_⟩
  unfold Nv Rr;rw[Bv];simp[Bp]
 obtain⟨s0,r0,er⟩:∃s0 r0,r=s0::r0:=by
  cases r with
  |nil=>simp at hl
  |cons a b=>exact⟨a,b,rfl⟩
 obtain⟨j,hjl,ej⟩:∃j:Nat,j<r.length/\(j:Int)=x%(r.length:Int):=by have a:=zF x (show(r.length:Int)≠0 by lia);have b:=zE x (show(0:Int)<r.length by lia);exact⟨(x%(r.length:Int)).toNat,by lia,by lia⟩
 obtain⟨sj,hj⟩:∃s,r[j]?=vZ s:=⟨_,zQ hjl⟩;have mj:sj∈r:=jV hj;have lj:=hs sj mj;have pre:=λG=>ZOQ (yr:=yr) (q:=q) (x:=x) (w:=(w:Int)) hr hj ej G
 have end_:∀(r':List Ssn),(∀G,K4 [vZ (.tup (r.map Aq)),vZ (pmD q),vZ (.int yr),vZ (.int w),vZ (.int x),vZ (.int j),vZ (.int sj.1),vZ (.tup (sj.2.map Stp.enc)),vZ (.int (Cy sj.2)),vJ,vJ,vJ,vJ,vJ,vJ] G=.rt (.tup (r'.map Aq)) G)->
   ∀G,Nv [.tup (r.map Aq),pmD q,.int yr,.int w,.int x] G=.ok (.tup (r'.map Aq)) G:=λr' h G=>by
  have p:=pre G;rw[h G]at p;have tb:tidy G (.ok (.tup (r'.map Aq)) G)=.ok (.tup (r'.map Aq)) G:=Bp (by rw[Mg];exact Kf);clear pre;generalize r.map Aq=R at*;generalize r'.map Aq=R' at*;unfold Nv;rw[Bv];show tidy G (Rr [vZ (.tup R),vZ (pmD q),vZ (.int yr),vZ (.int w),vZ (.int x),vJ,vJ,vJ,vJ,vJ,vJ,vJ,vJ,vJ,vJ] G).ret=_;rw[p];simp[tb]
 obtain⟨l,rL,rl⟩:∃l s,r=l++[s]:=by
  rcases j5 r with e|⟨l,s,e⟩
  ·rw[e]at hl;simp at hl
  ·rw[j6]at e;exact⟨l,s,e⟩
 have aL:atI (r.map Aq) (-1)=vZ (Aq rL):=by rw[rl,zR];exact ZA1
 have iL:∀G,Af (Aq rL) (.int 0) G=.ok (.int rL.1) G:=λG=>by unfold Aq;simp
 have h18:=λ(st:List Stp)(G:DH)(s1 s2 s3 s4 s7 s8 s9 s10 s12 s13 s14:Option D)=>ZQq (G:=G) hr hjl (bg:=sj.1) (st:=st) (s1:=s1) (s2:=s2) (s3:=s3) (s4:=s4) (s7:=s7) (s8:=s8) (s9:=s9) (s10:=s10) (s12:=s12) (s13:=s13) (s14:=s14)
 have lens:∀st:List Stp,st.length<=M+1->(∀s∈r.take j++[(sj.1,st)]++r.drop (j+1),s.2.length<=M+1)/\(r.take j++[(sj.1,st)]++r.drop (j+1)).length<=r.length+1:=λst h=>by
  refine⟨λs hm=>?_,by simp;lia⟩;simp only[zM,qV]at hm;rcases hm with(hm|hm)|hm
  ·have:=hs s (zT hm);lia
  ·rw[hm];exact h
  ·have:=hs s (qE hm);lia
 have mid:∀st:List Stp,st.length<=M+1->(∀G,K4 [vZ (.tup (r.map Aq)),vZ (pmD q),vZ (.int yr),vZ (.int w),vZ (.int x),vZ (.int j),vZ (.int sj.1),vZ (.tup (sj.2.map Stp.enc)),vZ (.int (Cy sj.2)),vJ,vJ,vJ,vJ,vJ,vJ] G=.rt (.tup ((r.take j++[(sj.1,st)]++r.drop (j+1)).map Aq)) G)->
   ∃r':List Ssn,(∀s∈r',s.2.length<=M+1)/\r'.length<=r.length+1/\∀G,Nv [.tup (r.map Aq),pmD q,.int yr,.int w,.int x] G=.ok (.tup (r'.map Aq)) G:=λst h1 h3=>⟨_,(lens st h1).1,(lens st h1).2,end_ _ h3⟩
 have mB:∀(v:Int)(G:DH),0<=v->v<2->Eb (.int 2) (.int v) G=.ok (.int (2*v)) G:=λv G h1 h2=>Mx (by lia) (by lia)
 have ng:∀G:DH,Ho (.int 1) G=.ok (.int (-1)) G:=λG=>rfl
 have ln:(((sj.2.map Stp.enc).length:Nat):Int)=(sj.2.length:Int):=by rw[zZ]
 obtain⟨s,hs1,es⟩:∃s:Nat,s<max 1 sj.2.length/\(s:Int)=x/60%max 1 (sj.2.length:Int):=by have a:=zF (x/60) (show max 1 (sj.2.length:Int)≠0 by lia);have b:=zE (x/60) (show(0:Int)<max 1 (sj.2.length:Int) by lia);exact⟨(x/60%max 1 (sj.2.length:Int)).toNat,by lia,by lia⟩
 have m0:(0:Int)<max 1 (sj.2.length:Int):=by lia
 obtain⟨bt,hb1,eb⟩:∃b:Int,(0<=b/\b<2)/\b=x/30%2:=⟨_,by lia,rfl⟩;have s8:∀(w':Int)(G:DH),w'≠0->w'≠1->K4 [vZ (.tup (r.map Aq)),vZ (pmD q),vZ (.int yr),vZ (.int w'),vZ (.int x),vZ (.int j),vZ (.int sj.1),vZ (.tup (sj.2.map Stp.enc)),vZ (.int (Cy sj.2)),vJ,vJ,vJ,vJ,vJ,vJ] G=R5 [vZ (.tup (r.map Aq)),vZ (pmD q),vZ (.int yr),vZ (.int w'),vZ (.int x),vZ (.int j),vZ (.int sj.1),vZ (.tup (sj.2.map Stp.enc)),vZ (.int (Cy sj.2)),vZ (.int rL.1),vJ,vJ,vJ,vJ,vJ] G:=λw' G n0 n1=>by
  generalize sj.2.map Stp.enc=Z at*;generalize r.map Aq=R at*;generalize Cy sj.2=tp at*;unfold K4 ZDB ZIz;simp[-Gm,-Di,Gu,Hi,Gw,Gx,Hg,Gk,Hj,Gs,Hb,Gi,Gh,Hh,Gr,Gg,Gq,Gz,Hd,H9,Hl,Gj,H8,n0,n1,ng,aL,iL]
 have fin:∀(w':Nat)(G:DH),4<=w'->w'<=7->K4 [vZ (.tup (r.map Aq)),vZ (pmD q),vZ (.int yr),vZ (.int w'),vZ (.int x),vZ (.int j),vZ (.int sj.1),vZ (.tup (sj.2.map Stp.enc)),vZ (.int (Cy sj.2)),vJ,vJ,vJ,vJ,vJ,vJ] G=
   Rb [vZ (.tup (r.map Aq)),vZ (pmD q),vZ (.int yr),vZ (.int w'),vZ (.int x),vZ (.int j),vZ (.int sj.1),vZ (.tup (sj.2.map Stp.enc)),vZ (.int (Cy sj.2)),vZ (.int rL.1),vZ (.int s),vZ (.tup ((sj.2++[(⟨Cy sj.2-1,1,vX⟩:Stp)]).map Stp.enc)),vJ,vJ,vJ] G:=λw' G h1 h2=>by
  have n0:¬(w':Int)=0:=by lia
  have n1:¬(w':Int)=1:=by lia
  have n2:¬(w':Int)=2:=by lia
  have n3:¬(w':Int)=3:=by lia
  have n0':¬w'=0:=by lia
  have n1':¬w'=1:=by lia
  have n2':¬w'=2:=by lia
  have n3':¬w'=3:=by lia
  rw[s8 w' G n0 n1,ZId n2,ZH1 n2,ZPY n3];have ad:Ce (.tup (sj.2.map Stp.enc)) (.tup [.tup [.int (Cy sj.2-1),.int 1,.str "river"]]) G=.ok (.tup ((sj.2++[(⟨Cy sj.2-1,1,vX⟩:Stp)]).map Stp.enc)) G:=by
   rw[Js (by simp;lia),zR]
   rfl
  clear pre end_ h18 lens mid s8;generalize(sj.2++[(⟨Cy sj.2-1,1,vX⟩:Stp)]).map Stp.enc=Z2 at*;generalize sj.2.map Stp.enc=Z at*;generalize r.map Aq=R at*;generalize Cy sj.2=tp at*;unfold ZBX ZGq;simp[-Gm,-Di,Gu,Hi,Gw,Gx,Hg,Gk,Hj,Gs,Hb,Gi,Gh,Hh,Gr,Gg,Gq,Gz,Hd,H9,Hl,Gj,H8,ln,m0,<-es,Bl,ad]
 rcases(by lia:w=0∨w=1∨w=2∨w=3∨w=4∨w=5∨w=6∨w=7)with e|e|e|e|e|e|e|e
 ·subst e
  refine⟨[],(λs h=>nomatch h),by simp,end_ [] λG=>?_⟩
  clear pre end_ h18 lens mid fin s8;generalize r.map Aq=R at*;unfold K4;simp[-Gm,-Di,Gu,Hi,Gw,Gx,Hg,Gk,Hj,Gs,Hb,Gi,Gh,Hh,Gr,Gg,Gq,Gz,Hd,H9,Hl,Gj,H8,Bl]
 ·subst e;have c1:cutD (r.map Aq) (vZ 1) vJ=r0.map Aq:=by have:=Li (f:=Aq) (l:=r) (j:=1) (by lia);rw[er]at this⊢;exact this
  have a0:atI (r.map Aq) 0=vZ (Aq s0):=by rw[er];exact Ec (k:=0) rfl rfl
  have i1:∀G,Af (Aq s0) (.int 1) G=.ok (.tup (s0.2.map Stp.enc)) G:=λG=>by unfold Aq;simp
  refine⟨(1-2*bt,s0.2)::r0,λs h=>?_,by rw[er];simp,end_ _ λG=>?_⟩
  ·rcases zq.mp h with rfl|h
   ·have:=hs s0 (by rw[er];simp);show s0.2.length<=M+1;lia
   ·have:=hs s (by rw[er];simp[h]);lia
  ·have em:((1-2*bt,s0.2)::r0).map Aq=[.tup [.int (1-2*bt),.tup (s0.2.map Stp.enc)]]++r0.map Aq:=rfl;have ad:Ce (.tup [.tup [.int (1-2*bt),.tup (s0.2.map Stp.enc)]]) (.tup (r0.map Aq)) G=.ok (.tup ([.tup [.int (1-2*bt),.tup (s0.2.map Stp.enc)]]++r0.map Aq)) G:=Js (by rw[er]at hr;simp at hr⊢;lia);have fz:=J1 (G:=G) (xs:=r0.map Aq) Kf;rw[em];clear pre end_ h18 lens mid fin s8;generalize([.tup [.int (1-2*bt),.tup (s0.2.map Stp.enc)]]++r0.map Aq:List D)=Z3 at*
   generalize s0.2.map Stp.enc=Z at*;generalize r0.map Aq=R0 at*;generalize r.map Aq=R at*;generalize Aq s0=E0 at*;unfold K4 ZDB;simp[-Gm,-Di,Gu,Hi,Gw,Gx,Hg,Gk,Hj,Gs,Hb,Gi,Gh,Hh,Gr,Gg,Gq,Gz,Hd,H9,Hl,Gj,H8,<-eb,mB _ _ hb1.1 hb1.2,a0,i1,Bl,Dp,c1,fz,ad]
 ·subst e;by_cases hc:1<rL.1/\x/30%2=1
  ·obtain⟨v,hv,ev⟩:∃v:Int,v<rL.1/\v=1+x/60%(rL.1-1):=by have b:=zE (x/60) (show(0:Int)<rL.1-1 by lia);exact⟨_,by lia,rfl⟩
   have rz:(0:Int)<rL.1-1:=by lia
   refine⟨r++[(v,sj.2)],λs h=>?_,by simp,end_ _ λG=>?_⟩
   ·rcases zM.mp h with h|h
    ·have:=hs s h;lia
    ·rw[qV.mp h];show sj.2.length<=M+1;lia
   ·have ad:Ce (.tup (r.map Aq)) (.tup [.tup [.int v,.tup (sj.2.map Stp.enc)]]) G=.ok (.tup ((r++[(v,sj.2)]).map Aq)) G:=by
     rw[Js (by simp;lia),zR]
     rfl
    rw[show((2:Nat):Int)=2 from rfl,s8 2 G (by decide) (by decide)]
    clear pre end_ h18 lens mid fin s8;generalize(r++[(v,sj.2)]).map Aq=Z3 at*;generalize sj.2.map Stp.enc=Z at*;generalize r.map Aq=R at*;unfold R5;simp[-Gm,-Di,Gu,Hi,Gw,Gx,Hg,Gk,Hj,Gs,Hb,Gi,Gh,Hh,Gr,Gg,Gq,Gz,Hd,H9,Hl,Gj,H8,ng,aL,iL,hc.1,hc.2,rz,<-ev,Bl,ad]
  ·refine⟨r.take (j+1)++[sj]++r.drop (j+1),λs h=>?_,by simp;lia,end_ _ λG=>?_⟩
   ·simp only[zM,qV]at h;rcases h with(h|h)|h
    ·have:=hs s (zT h);lia
    ·rw[h];lia
    ·have:=hs s (qE h);lia
   ·have c1:=T9 (f:=Aq) (l:=r) (j:=j+1) (by lia);have c2:=Li (f:=Aq) (l:=r) (j:=j+1) (by lia);have e1:((j:Int)+1)=((j+1:Nat):Int):=by lia
    rw[<-e1]at c1 c2;obtain⟨f1,a1,f3,f2,a2,_⟩:=three (G:=G) (A:=(r.take (j+1)).map Aq) (B:=[Aq sj]) (C:=(r.drop (j+1)).map Aq) (by simp;lia) Kf (Kf (ss:=[sj])) Kf;have em:(r.take (j+1)++[sj]++r.drop (j+1)).map Aq=(r.take (j+1)).map Aq++[Aq sj]++(r.drop (j+1)).map Aq:=by simp
    rw[em];have es2:Aq sj=.tup [.int sj.1,.tup (sj.2.map Stp.enc)]:=rfl;rw[es2]at a1 f3 a2⊢
    rw[show((2:Nat):Int)=2 from rfl,s8 2 G (by decide) (by decide)]
    clear pre end_ h18 lens mid fin s8;generalize sj.2.map Stp.enc=Z at*;generalize(r.take (j+1)).map Aq=A at*;generalize(r.drop (j+1)).map Aq=C at*;generalize r.map Aq=R at*;generalize A++[D.tup [.int sj.1,.tup Z]]++C=ABC at*;generalize A++[D.tup [.int sj.1,.tup Z]]=AB at*;have hc1:¬(1<rL.1/\x/30%2=1):=hc;unfold R5 T7;by_cases h1:1<rL.1
    ·have h2:¬x/30%2=1:=λz=>hc ⟨h1,z⟩
     simp[-Gm,-Di,Gu,Hi,Gw,Gx,Hg,Gk,Hj,Gs,Hb,Gi,Gh,Hh,Gr,Gg,Gq,Gz,Hd,H9,Hl,Gj,H8,ng,aL,iL,h1,h2,Dp,c1,f1,Bl,a1,f3,c2,f2,a2]
    ·simp[-Gm,-Di,Gu,Hi,Gw,Gx,Hg,Gk,Hj,Gs,Hb,Gi,Gh,Hh,Gr,Gg,Gq,Gz,Hd,H9,Hl,Gj,H8,ng,aL,iL,h1,Dp,c1,f1,Bl,a1,f3,c2,f2,a2]
 ·subst e;refine⟨r++[(yr,[])],λs h=>?_,by simp,end_ _ λG=>?_⟩
  ·rcases zM.mp h with h|h
   ·have:=hs s h;lia
   ·rw[qV.mp h];simp
  ·have ad:Ce (.tup (r.map Aq)) (.tup [.tup [.int yr,.tup []]]) G=.ok (.tup ((r++[(yr,[])]).map Aq)) G:=by
    rw[Js (by simp;lia),zR]
    rfl
   rw[show((3:Nat):Int)=3 from rfl,s8 3 G (by decide) (by decide),ZId (by decide),ZH1 (by decide)]
   clear pre end_ h18 lens mid fin s8;generalize(r++[(yr,[])]).map Aq=Z3 at*;generalize sj.2.map Stp.enc=Z at*;generalize r.map Aq=R at*;unfold Ti;simp[-Gm,-Di,Gu,Hi,Gw,Gx,Hg,Gk,Hj,Gs,Hb,Gi,Gh,Hh,Gr,Gg,Gq,Gz,Hd,H9,Hl,Gj,H8,ng,aL,iL,Bl,ad]
 ·subst e;refine mid (⟨-1,1,vX⟩::sj.2) (by simp;lia) λG=>?_
  have f:=fin 4 G (by lia) (by lia);have ad:Ce (.tup [.tup [.int (-1),.int 1,.str "river"]]) (.tup (sj.2.map Stp.enc)) G=.ok (.tup ((⟨-1,1,vX⟩::sj.2:List Stp).map Stp.enc)) G:=by
   rw[Js (by simp;lia)]
   rfl
  have h:=h18 (⟨-1,1,vX⟩::sj.2) G
  rw[show((4:Nat):Int)=4 from rfl]at f⊢
  rw[f];clear pre end_ h18 lens mid fin s8;generalize(r.take j++[(sj.1,(⟨-1,1,vX⟩::sj.2:List Stp))]++r.drop (j+1)).map Aq=RR at*;generalize(⟨-1,1,vX⟩::sj.2:List Stp).map Stp.enc=Z2 at*;generalize(sj.2++[(⟨Cy sj.2-1,1,vX⟩:Stp)]).map Stp.enc=Z1 at*;generalize sj.2.map Stp.enc=Z at*;generalize r.map Aq=R at*;rw[Xl (by decide),Y7 (by decide),W9 (by decide)];unfold Ur;simp[-Gm,-Di,Gu,Hi,Gw,Gx,Hg,Gk,Hj,Gs,Hb,Gi,Gh,Hh,Gr,Gg,Gq,Gz,Hd,H9,Hl,Gj,H8,ng,Bl,ad,Q6,h]
 ·subst e;have f:=λG=>fin 5 G (by lia) (by lia)
  rcases Nat.lt_or_ge s sj.2.length with hsl|hsl
  ·obtain⟨t,ht⟩:∃t,sj.2[s]?=vZ t:=⟨_,zQ hsl⟩;have at_:atI (sj.2.map Stp.enc) (s:Int)=vZ (Stp.enc t):=Ec rfl (by rw[zw,ht];rfl);refine mid (sj.2.take s++[(⟨t.h,0-bt,t.r⟩:Stp)]++sj.2.drop (s+1)) (by simp;lia) λG=>?_
   ·have f:=f G;have c1:=T9 (f:=Stp.enc) (l:=sj.2) (j:=s) (by lia);have c2:=Li (f:=Stp.enc) (l:=sj.2) (j:=s+1) (by lia);have c3:=Li (f:=Stp.enc) (l:=sj.2) (j:=s) (by lia);have e1:((s:Int)+1)=((s+1:Nat):Int):=by lia
    rw[<-e1]at c2;obtain⟨f1,a1,f3,f2,a2,f4⟩:=three (G:=G) (A:=(sj.2.take s).map Stp.enc) (B:=[Stp.enc ⟨t.h,0-bt,t.r⟩]) (C:=(sj.2.drop (s+1)).map Stp.enc) (by simp;lia) Mr (Mr (r:=[⟨t.h,0-bt,t.r⟩])) Mr;obtain⟨_,b1,g3,g2,b2,g4⟩:=three (G:=G) (A:=(sj.2.take s).map Stp.enc) (B:=[.tup [.int (Cy sj.2),.int (0-bt),.str "river"]]) (C:=(sj.2.drop s).map Stp.enc) (by simp;lia) Mr rfl Mr;have em:(sj.2.take s++[(⟨t.h,0-bt,t.r⟩:Stp)]++sj.2.drop (s+1)).map Stp.enc=(sj.2.take s).map Stp.enc++[Stp.enc ⟨t.h,0-bt,t.r⟩]++(sj.2.drop (s+1)).map Stp.enc:=by simp
    have h:=h18 (sj.2.take s++[(⟨t.h,0-bt,t.r⟩:Stp)]++sj.2.drop (s+1)) G;rw[em]at h;have et:Stp.enc t=.tup [.int t.h,.int t.m,.str (wy t.r)]:=rfl;have en:Stp.enc ⟨t.h,0-bt,t.r⟩=.tup [.int t.h,.int (0-bt),.str (wy t.r)]:=rfl;rw[et]at at_;rw[en]at a1 f3 a2 f4 h;have hlt:(s:Int)<(sj.2.length:Int):=by lia
    rw[show((5:Nat):Int)=5 from rfl]at f⊢
    rw[f];clear pre end_ h18 lens mid fin s8;generalize(r.take j++[(sj.1,sj.2.take s++[(⟨t.h,0-bt,t.r⟩:Stp)]++sj.2.drop (s+1))]++r.drop (j+1)).map Aq=RR at*;generalize(sj.2++[(⟨Cy sj.2-1,1,vX⟩:Stp)]).map Stp.enc=Z1 at*;generalize(sj.2.take s).map Stp.enc=A at*;generalize(sj.2.drop (s+1)).map Stp.enc=C at*;generalize(sj.2.drop s).map Stp.enc=C' at*;generalize sj.2.map Stp.enc=Z at*
    generalize r.map Aq=R at*;generalize A++[D.tup [.int t.h,.int (0-bt),.str (wy t.r)]]++C=ABC at*;generalize A++[D.tup [.int t.h,.int (0-bt),.str (wy t.r)]]=AB at*;generalize A++[D.tup [.int (Cy sj.2),.int (0-bt),.str "river"]]++C'=ABC' at*;generalize A++[D.tup [.int (Cy sj.2),.int (0-bt),.str "river"]]=AB' at*;generalize Cy sj.2=tp at*;generalize wy t.r=wr at*;have zb:(0:Int)-bt= -bt:=by lia
    rw[zb]at a1 b1;unfold Rb Qw;simp[-Gm,-Di,Gu,Hi,Gw,Gx,Hg,Gk,Hj,Gs,Hb,Gi,Gh,Hh,Gr,Gg,Gq,Gz,Hd,H9,Hl,Gj,H8,Dp,c1,f1,Bl,<-eb,b1,g3,c3,g2,b2,g4,ln,hlt,hsl,at_,a1,f3,c2,f2,a2,f4,W9,Pj,Q6,h]
  ·have s0':s=0:=by lia
   have l0:sj.2=[]:=qZ (by lia);refine mid [(⟨0,0-bt,vX⟩:Stp)] (by simp) λG=>?_
   ·have f:=f G;have h:=h18 [(⟨0,0-bt,vX⟩:Stp)] G;have t0:Cy sj.2=0:=by rw[l0];rfl
    have eZ:sj.2.map Stp.enc=[]:=by rw[l0];rfl
    have zb:(0:Int)-bt= -bt:=by lia
    have eh:([(⟨0,0-bt,vX⟩:Stp)]).map Stp.enc=[.tup [.int 0,.int (-bt),.str "river"]]:=by rw[zb];rfl
    rw[eh]at h;have a1:∀G,Ce (.tup []) (.tup [.tup [.int 0,.int (-bt),.str "river"]]) G=.ok (.tup [.tup [.int 0,.int (-bt),.str "river"]]) G:=λG=>rfl
    have a2:∀G,Ce (.tup [.tup [.int 0,.int (-bt),.str "river"]]) (.tup []) G=.ok (.tup [.tup [.int 0,.int (-bt),.str "river"]]) G:=λG=>Js (by simp)
    have f0:∀G:DH,freeze G (.ok (.tup []) G)=.ok (.tup []) G:=λG=>J1 rfl
    have f1:∀G:DH,freeze G (.ok (.tup [.tup [.int 0,.int (-bt),.str "river"]]) G)=.ok (.tup [.tup [.int 0,.int (-bt),.str "river"]]) G:=λG=>J1 rfl
    have cn1:cutD ([]:List D) vJ (vZ 0)=[]:=rfl;have cn2:cutD ([]:List D) (vZ 0) vJ=[]:=rfl
    rw[show((5:Nat):Int)=5 from rfl]at f⊢
    rw[f,t0,eZ,s0'];clear pre end_ h18 lens mid fin s8;generalize(r.take j++[(sj.1,[(⟨0,0-bt,vX⟩:Stp)])]++r.drop (j+1)).map Aq=RR at*;generalize(sj.2++[(⟨0-1,1,vX⟩:Stp)]).map Stp.enc=Z1 at*;generalize r.map Aq=R at*;unfold Rb Qw;simp[-Gm,-Di,Gu,Hi,Gw,Gx,Hg,Gk,Hj,Gs,Hb,Gi,Gh,Hh,Gr,Gg,Gq,Gz,Hd,H9,Hl,Gj,H8,Dp,cn1,cn2,f0,Bl,<-eb,a1,f1,a2,W9,Pj,Q6,h]
 ·subst e;have f:=λG=>fin 6 G (by lia) (by lia)
  by_cases hc:s+1<sj.2.length/\x/30%2=0
  ·obtain⟨hc1,hc2⟩:=hc;obtain⟨t,ht⟩:∃t,sj.2[s]?=vZ t:=⟨_,zQ (by lia)⟩;obtain⟨t2,ht2⟩:∃t,sj.2[s+1]?=vZ t:=⟨_,zQ (by lia)⟩;have at1:atI (sj.2.map Stp.enc) (s:Int)=vZ (Stp.enc t):=Ec rfl (by rw[zw,ht];rfl);have at2:atI (sj.2.map Stp.enc) ((s:Int)+1)=vZ (Stp.enc t2):=Ec (k:=s+1) (by lia) (by rw[zw,ht2];rfl)
   refine mid (sj.2.take s++[t2,t]++sj.2.drop (s+2)) (by simp;lia) λG=>?_
   ·have f:=f G;have c1:=T9 (f:=Stp.enc) (l:=sj.2) (j:=s) (by lia);have c2:=Li (f:=Stp.enc) (l:=sj.2) (j:=s+2) (by lia);have e1:((s:Int)+2)=((s+2:Nat):Int):=by lia
    rw[<-e1]at c2;obtain⟨f1,a1,f3,f2,a2,f4⟩:=three (G:=G) (A:=(sj.2.take s).map Stp.enc) (B:=[Stp.enc t2,Stp.enc t]) (C:=(sj.2.drop (s+2)).map Stp.enc) (by simp;lia) Mr (Mr (r:=[t2,t])) Mr;have em:(sj.2.take s++[t2,t]++sj.2.drop (s+2)).map Stp.enc=(sj.2.take s).map Stp.enc++[Stp.enc t2,Stp.enc t]++(sj.2.drop (s+2)).map Stp.enc:=by simp
    have h:=h18 (sj.2.take s++[t2,t]++sj.2.drop (s+2)) G;rw[em]at h;have hlt:(s:Int)+1<(sj.2.length:Int):=by lia
    rw[show((6:Nat):Int)=6 from rfl]at f⊢
    rw[f];clear pre end_ h18 lens mid fin s8;generalize(r.take j++[(sj.1,sj.2.take s++[t2,t]++sj.2.drop (s+2))]++r.drop (j+1)).map Aq=RR at*;generalize(sj.2++[(⟨Cy sj.2-1,1,vX⟩:Stp)]).map Stp.enc=Z1 at*;generalize(sj.2.take s).map Stp.enc=A at*;generalize(sj.2.drop (s+2)).map Stp.enc=C at*;generalize sj.2.map Stp.enc=Z at*;generalize r.map Aq=R at*;generalize Stp.enc t=E1 at*
    generalize Stp.enc t2=E2 at*;generalize A++[E2,E1]++C=ABC at*;generalize A++[E2,E1]=AB at*;rw[Xl (by decide),Y7 (by decide)];unfold Pg;simp[-Gm,-Di,Gu,Hi,Gw,Gx,Hg,Gk,Hj,Gs,Hb,Gi,Gh,Hh,Gr,Gg,Gq,Gz,Hd,H9,Hl,Gj,H8,ln,hlt,hc2,Dp,c1,f1,at2,at1,Bl,a1,f3,c2,f2,a2,f4,Pj,Q6,h]
  ·refine mid (sj.2++[(⟨Cy sj.2-1,1,vX⟩:Stp)]) (by simp;lia) λG=>?_
   ·have f:=f G;have h:=h18 (sj.2++[(⟨Cy sj.2-1,1,vX⟩:Stp)]) G
    rw[show((6:Nat):Int)=6 from rfl]at f⊢
    rw[f];clear pre end_ h18 lens mid fin s8;generalize(r.take j++[(sj.1,sj.2++[(⟨Cy sj.2-1,1,vX⟩:Stp)])]++r.drop (j+1)).map Aq=RR at*;generalize(sj.2++[(⟨Cy sj.2-1,1,vX⟩:Stp)]).map Stp.enc=Z1 at*;generalize sj.2.map Stp.enc=Z at*;generalize r.map Aq=R at*;rw[Xl (by decide),Y7 (by decide)];unfold Pg;by_cases h1:s+1<sj.2.length
    ·have h2:¬x/30%2=0:=λz=>hc ⟨h1,z⟩
     have h1':(s:Int)+1<(sj.2.length:Int):=by lia
     simp[-Gm,-Di,Gu,Hi,Gw,Gx,Hg,Gk,Hj,Gs,Hb,Gi,Gh,Hh,Gr,Gg,Gq,Gz,Hd,H9,Hl,Gj,H8,ln,h1',h2,Pj,Q6,h]
    ·have h1':¬(s:Int)+1<(sj.2.length:Int):=by lia
     simp[-Gm,-Di,Gu,Hi,Gw,Gx,Hg,Gk,Hj,Gs,Hb,Gi,Gh,Hh,Gr,Gg,Gq,Gz,Hd,H9,Hl,Gj,H8,ln,h1',Pj,Q6,h]
 ·subst e;obtain⟨mo,emo⟩:∃mo:Int,mo=moF (pmps sj.2).sum q:=⟨_,rfl⟩;refine mid (sj.2++[(⟨Cy sj.2,max 1 (mo+1),vV⟩:Stp)]) (by simp;lia) λG=>?_
  ·have f:=fin 7 G (by lia) (by lia);have h:=h18 (sj.2++[(⟨Cy sj.2,max 1 (mo+1),vV⟩:Stp)]) G;clear fin mid end_ lens pre h18 s8;have ad:Ce (.tup (sj.2.map Stp.enc)) (.tup [.tup [.int (Cy sj.2),.int (max 1 (mo+1)),.str "pump"]]) G=.ok (.tup ((sj.2++[(⟨Cy sj.2,max 1 (mo+1),vV⟩:Stp)]).map Stp.enc)) G:=by
    rw[Js (by simp;lia),zR]
    rfl
   have hcp:=ZJu (st:=sj.2) (G:=G);have hcs:∀S:DSt,Bx 3 [] S=[vJ,vJ,vJ]:=λ_=>rfl
   have fz:freeze G (.ok (.ref G.length) (G++[.lst ((pmps sj.2).map D.int)]))=.ok (.fl ((pmps sj.2).map D.int)) G:=Ck Iw;have hle:((pmps sj.2).map D.int).length<=1000000:=by have:=ZGP (st:=sj.2);rw[zZ];lia
   have hsm:Lh [.fl ((pmps sj.2).map D.int)] G=.ok (.int (pmps sj.2).sum) G:=ZJQ
   rw[show((7:Nat):Int)=7 from rfl]at f⊢
   rw[f];generalize(pmps sj.2).map D.int=PP at*;generalize(pmps sj.2).sum=PSm at*;generalize(r.take j++[(sj.1,sj.2++[(⟨Cy sj.2,max 1 (mo+1),vV⟩:Stp)])]++r.drop (j+1)).map Aq=RR at*;generalize(sj.2++[(⟨Cy sj.2,max 1 (mo+1),vV⟩:Stp)]).map Stp.enc=Z2 at*;generalize(sj.2++[(⟨Cy sj.2-1,1,vX⟩:Stp)]).map Stp.enc=Z1 at*;generalize sj.2.map Stp.enc=Z at*;generalize r.map Aq=R at*
   generalize Cy sj.2=tp at*;rw[Xl (by decide),Y7 (by decide),W9 (by decide),Pj (by decide)];unfold V3;cases q with
   |none=>
    have emo:mo=0:=emo;subst emo;simp at ad;simp[-Gm,-Di,Gu,Hi,Gw,Gx,Hg,Gk,Hj,Gs,Hb,Gi,Gh,Hh,Gr,Gg,Gq,Gz,Hd,H9,Hl,Gj,H8,pmD,Cq,Bl,ad,h]
   |some z=>
    obtain⟨t,d,m⟩:=z;have emo:mo=max 0 m-PSm:=emo;simp[-Gm,-Di,Gu,Hi,Gw,Gx,Hg,Gk,Hj,Gs,Hb,Gi,Gh,Hh,Gr,Gg,Gq,Gz,Hd,H9,Hl,Gj,H8,pmD,Cq,hcs,hcp,Bb,hle,fz,hsm,Bl,<-emo,ad,h]
end
theorem pick{xs:List D}(e:(m:Int)=x)(h:xs[m]?=vZ d):atI xs x=vZ d:=by rw[<-e];exact Ec rfl h
structure Gp (R M:Nat) (p p':RP):Prop where
 nm:p'.nm=p.nm
 ru:∀b r q,p'.kd=.basin b r q->r.length<=R+1/\∀s∈r,s.2.length<=M+1
theorem ZPZ{S:List Str}(hS:S.length=5)(hG:G[i]?=vZ (.lst (S.map D.str)))(k2:2<=k)(k5:k<=5)
  (h5:k=5->∃b r q,p.kd=.basin b r q) (h4:k=4->∃b r z,p.kd=.basin b r (vZ z)) {R M:Nat} (hR:R<=100) (hM:M<=500) (sh:∀b r q,p.kd=.basin b r q->r.length<=R/\∀s∈r,s.2.length<=M):
  ∃p',Gp R M p p'/\Qc [p.enc,.int k,.int x,.int yr,.ref i] G=.ok p'.enc G:=by
 have sh1:∀b r q,p.kd=.basin b r q->r.length<=R+1/\∀s∈r,s.2.length<=M+1:=λb r q e=>⟨Nat.le_succ_of_le (sh b r q e).1,λs hs=>Nat.le_succ_of_le ((sh b r q e).2 s hs)⟩
 obtain⟨bl,hb,eb⟩:∃v:Int,v<0/\atI ([.int (-1),.int (0-1000000000000000000000000000000),.int (-7)]:List D) (x/8%3)=vZ (.int v):=by
  obtain⟨m,hm,em⟩:∃m:Nat,m<3/\(m:Int)=x/8%3:=⟨(x/8%3).toNat,by lia,by lia⟩;rcases(by lia:m=0∨m=1∨m=2)with rfl|rfl|rfl
  ·exact⟨-1,by lia,pick em rfl⟩
  ·exact⟨0-1000000000000000000000000000000,by lia,pick em rfl⟩
  ·exact⟨-7,by lia,pick em rfl⟩
 have f0:freeze G (.ok (.ref G.length) (G++[.lst [.int (-1),.int (0-1000000000000000000000000000000),.int (-7)]]))=.ok (.fl [.int (-1),.int (0-1000000000000000000000000000000),.int (-7)]) G:=Ck rfl;have ng:∀(i:Int)(G:DH),Ho (.int i) G=.ok (.int (-i)) G:=λ_ _=>rfl
 have start:Zb [vZ p.enc,vZ (.int k),vZ (.int x),vZ (.int yr),vZ (.ref i),vJ,vJ] G=Ml [vZ p.enc,vZ (.int k),vZ (.int x),vZ (.int yr),vZ (.ref i),vZ (.int bl),vJ] G:=by generalize p.enc=E at*;unfold Zb;simp at f0 eb;simp[ng,Bb,f0,eb]
 have close:∀p':RP,Ml [vZ p.enc,vZ (.int k),vZ (.int x),vZ (.int yr),vZ (.ref i),vZ (.int bl),vJ] G=.rt p'.enc G->Qc [p.enc,.int k,.int x,.int yr,.ref i] G=.ok p'.enc G:=λp' h=>by have tb:tidy G (.ok p'.enc G)=.ok p'.enc G:=Bp Jz;unfold Qc;rw[Bv];show tidy G (Zb [vZ p.enc,vZ (.int k),vZ (.int x),vZ (.int yr),vZ (.ref i),vJ,vJ] G).ret=_;rw[start,h];generalize p'.enc=E at*;simp[tb]
 have sk2:∀k':Int,k'≠2->Ml [vZ p.enc,vZ (.int k'),vZ (.int x),vZ (.int yr),vZ (.ref i),vZ (.int bl),vJ] G=Rg [vZ p.enc,vZ (.int k'),vZ (.int x),vZ (.int yr),vZ (.ref i),vZ (.int bl),vJ] G:=λk' n2=>by generalize p.enc=E at*;unfold Ml ZCp;simp[n2]
 have sk3:∀k':Int,k'≠4->Rg [vZ p.enc,vZ (.int k'),vZ (.int x),vZ (.int yr),vZ (.ref i),vZ (.int bl),vJ] G=Wh [vZ p.enc,vZ (.int k'),vZ (.int x),vZ (.int yr),vZ (.ref i),vZ (.int bl),vJ] G:=λk' n4=>by generalize p.enc=E at*;unfold Rg ZDC;simp[n4]
 obtain⟨m,hm,em⟩:∃m:Nat,m<8/\(m:Int)=x%8:=⟨(x%8).toNat,by lia,by lia⟩;have rl:=Py (p:=p);have fr:∀d:D,bel G.length d=vX->freeze G (.ok d G)=.ok d G:=λd h=>Fw h
 rcases(by lia:k=2∨k=3∨k=4∨k=5)with e|e|e|e
 ·subst e;by_cases h:m<5
  ·obtain⟨z,hz⟩:∃z,S[m]?=vZ z:=⟨_,zQ (by lia)⟩;refine⟨{p with dn:=z},⟨rfl,sh1⟩,close _ ?_⟩;have h':x%8<5:=by lia
   have az:atI (S.map D.str) (x%8)=vZ (.str z):=pick em (by rw[zw,hz];rfl);have cp:=Hy (p:=p) (q:={p with dn:=z}) (j:=2) (d:=.str z) (by lia) (λ_=>rfl) rfl G;have cp':Ci [p.enc,.int 2,.str z] G=.ok (RP.enc {p with dn:=z}) G:=cp;generalize RP.enc {p with dn:=z}=E' at*;generalize p.enc=E at*;unfold Ml;simp[h',hG,az,cp']
  ·obtain⟨v,hv,ev⟩:∃v:Int,(v<0∨5<v)/\atI ([.int (-1),.int 6,.int 1000000000000000000000000000000]:List D) (x%8-5)=vZ (.int v):=by
    rcases(by lia:m=5∨m=6∨m=7)with rfl|rfl|rfl
    ·exact⟨-1,by lia,pick (m:=0) (by lia) rfl⟩
    ·exact⟨6,by lia,pick (m:=1) (by lia) rfl⟩
    ·exact⟨1000000000000000000000000000000,by lia,pick (m:=2) (by lia) rfl⟩
   refine⟨{p with dl:=v},⟨rfl,sh1⟩,close _ ?_⟩;have h':¬x%8<5:=by lia
   have f1:freeze G (.ok (.ref G.length) (G++[.lst [.int (-1),.int 6,.int 1000000000000000000000000000000]]))=.ok (.fl [.int (-1),.int 6,.int 1000000000000000000000000000000]) G:=Ck rfl;have cp:=Hy (p:=p) (q:={p with dl:=v}) (j:=3) (d:=.int v) (by lia) (λ_=>rfl) rfl G;have cp':Ci [p.enc,.int 3,.int v] G=.ok (RP.enc {p with dl:=v}) G:=cp;generalize RP.enc {p with dl:=v}=E' at*;generalize p.enc=E at*
   unfold Ml ZCp;simp[h',ng,Bb,f1,ev,cp']
 ·subst e;have t1:¬(("basin":Str)="town"):=by decide
  have t2:¬(("mill":Str)="basin"):=by decide
  have t3:¬(("mill":Str)="town"):=by decide
  have t4:¬(("town":Str)="basin"):=by decide
  have stop:∀p':RP,Oh [vZ p.enc,vZ (.int 3),vZ (.int x),vZ (.int yr),vZ (.ref i),vZ (.int bl),vJ] G=.rt p'.enc G->Ml [vZ p.enc,vZ (.int 3),vZ (.int x),vZ (.int yr),vZ (.ref i),vZ (.int bl),vJ] G=.rt p'.enc G:=λp' h=>by rw[<-h,sk2 3 (by decide),sk3 3 (by decide)];clear sk2 sk3;generalize p.enc=E at*;unfold Wh;simp
  cases e:p.kd with
  |town a b=>
   by_cases h:x%2=1
   ·refine⟨{p with kd:=.town a bl},⟨rfl,λ_ _ _ z=>by cases z⟩,close _ (stop _ ?_)⟩;have cp:=Hy (p:=p) (q:={p with kd:=.town a bl}) (j:=5) (d:=.int bl) (by unfold RP.row RK.rest;rw[e];simp) (λ_=>rfl) (by unfold RP.row RK.rest;rw[e];rfl) G;have cp':Ci [p.enc,.int 5,.int bl] G=.ok (RP.enc {p with kd:=.town a bl}) G:=cp;generalize RP.enc {p with kd:=.town a bl}=E' at*;unfold Oh S8;simp[e,RK.txt,t4,h,cp']
   ·refine⟨{p with kd:=.town bl b},⟨rfl,λ_ _ _ z=>by cases z⟩,close _ (stop _ ?_)⟩;have cp:=Hy (p:=p) (q:={p with kd:=.town bl b}) (j:=4) (d:=.int bl) (by lia) (λ_=>rfl) (by unfold RP.row RK.rest;rw[e];rfl) G;have cp':Ci [p.enc,.int 4,.int bl] G=.ok (RP.enc {p with kd:=.town bl b}) G:=cp;generalize RP.enc {p with kd:=.town bl b}=E' at*;unfold Oh S8 Zm;simp[e,RK.txt,t4,h,cp']
  |mill a=>
   refine⟨{p with kd:=.mill bl},⟨rfl,λ_ _ _ z=>by cases z⟩,close _ (stop _ ?_)⟩;have cp:=Hy (p:=p) (q:={p with kd:=.mill bl}) (j:=4) (d:=.int bl) (by lia) (λ_=>rfl) (by unfold RP.row RK.rest;rw[e];rfl) G;have cp':Ci [p.enc,.int 4,.int bl] G=.ok (RP.enc {p with kd:=.mill bl}) G:=cp;generalize RP.enc {p with kd:=.mill bl}=E' at*;unfold Oh S8 Zm;simp[e,RK.txt,t2,t3,cp']
  | basin b r q=>
   have e6:∀G,Af p.enc (.int 6) G=.ok (pmD q) G:=λG=>by simp[RP.enc,RP.row,e,RK.rest]
   have wh:∀(_:q=vJ∨¬x%2=1),∃p',Gp R M p p'/\Qc [p.enc,.int (3:Nat),.int x,.int yr,.ref i] G=.ok p'.enc G:=λhq=>by
    refine⟨{p with kd:=.basin bl r q},⟨rfl,λ_ _ _ z=>by cases z;exact sh1 b r q e⟩,close _ (stop _ ?_)⟩;have cp:=Hy (p:=p) (q:={p with kd:=.basin bl r q}) (j:=4) (d:=.int bl) (by lia) (λ_=>rfl) (by unfold RP.row RK.rest;rw[e];rfl) G;have cp':Ci [p.enc,.int 4,.int bl] G=.ok (RP.enc {p with kd:=.basin bl r q}) G:=cp;generalize RP.enc {p with kd:=.basin bl r q}=E' at*;unfold Oh S8 Zm;rcases hq with hq|hq
    ·subst hq;simp[e,RK.txt,t1,e6,pmD,Cq,cp']
    ·rcases q with _|⟨t,d,m⟩
     ·simp[e,RK.txt,t1,e6,pmD,Cq,cp']
     ·simp[e,RK.txt,t1,e6,pmD,Cq,hq,cp']
   cases q with
   |none=>exact wh (.inl rfl)
   | some z=>
    obtain⟨t,d,mm⟩:=z;by_cases h:x%2=1
    ·refine⟨{p with kd:=.basin b r (vZ (t,d,bl))},⟨rfl,λ_ _ _ z=>by cases z;exact sh1 b r _ e⟩,close _ (stop _ ?_)⟩;have cq:Ci [.tup [.str t,.int d,.int mm],.int 2,.int bl] G=.ok (.tup [.str t,.int d,.int bl]) G:=Ow (xs:=[.str t,.int d,.int mm]) (j:=2) (by simp) (by simp) rfl rfl;have cp:=Hy (p:=p) (q:={p with kd:=.basin b r (vZ (t,d,bl))}) (j:=6) (d:=.tup [.str t,.int d,.int bl]) (by unfold RP.row RK.rest;rw[e];simp) (λ_=>rfl) (by unfold RP.row RK.rest;rw[e];rfl) G
     have cp':Ci [p.enc,.int 6,.tup [.str t,.int d,.int bl]] G=.ok (RP.enc {p with kd:=.basin b r (vZ (t,d,bl))}) G:=cp;have f1:=fr (.tup [.str t,.int d,.int bl]) rfl;generalize RP.enc {p with kd:=.basin b r (vZ (t,d,bl))}=E' at*;unfold Oh;simp[e,RK.txt,e6,pmD,Cq,h,cq,f1,cp']
    ·exact wh (.inr h)
 ·subst e;obtain⟨b,r,⟨t,d,mm⟩,e⟩:=h4 rfl;have e6:∀G,Af p.enc (.int 6) G=.ok (.tup [.str t,.int d,.int mm]) G:=λG=>by simp[RP.enc,RP.row,e,RK.rest,pmD]
  by_cases h:m<4
  ·obtain⟨z,hz⟩:∃z,S[m]?=vZ z:=⟨_,zQ (by lia)⟩;refine⟨{p with kd:=.basin b r (vZ (z,d,mm))},⟨rfl,λ_ _ _ y=>by cases y;exact sh1 b r _ e⟩,close _ ?_⟩;have h':x%8<4:=by lia
   have az:atI (S.map D.str) (x%8)=vZ (.str z):=pick em (by rw[zw,hz];rfl);have cq:Ci [.tup [.str t,.int d,.int mm],.int 0,.str z] G=.ok (.tup [.str z,.int d,.int mm]) G:=Ow (xs:=[.str t,.int d,.int mm]) (j:=0) (by simp) (by simp) rfl rfl;have cp:=Hy (p:=p) (q:={p with kd:=.basin b r (vZ (z,d,mm))}) (j:=6) (d:=.tup [.str z,.int d,.int mm]) (by unfold RP.row RK.rest;rw[e];simp) (λ_=>rfl) (by unfold RP.row RK.rest;rw[e];rfl) G
   have cp':Ci [p.enc,.int 6,.tup [.str z,.int d,.int mm]] G=.ok (RP.enc {p with kd:=.basin b r (vZ (z,d,mm))}) G:=cp;have f1:=fr (.tup [.str z,.int d,.int mm]) rfl;rw[sk2 _ (by decide)];clear sk2 sk3 close start;generalize RP.enc {p with kd:=.basin b r (vZ (z,d,mm))}=E' at*;generalize p.enc=E at*;unfold Rg;simp[h',e6,hG,az,cq,f1,cp']
  ·obtain⟨v,hv,ev⟩:∃v:Int,(v<1∨5<v)/\atI ([.int 0,.int 6,.int (-1),.int 1000000000000000000000000000000]:List D) (x%8-4)=vZ (.int v):=by
    rcases(by lia:m=4∨m=5∨m=6∨m=7)with rfl|rfl|rfl|rfl
    ·exact⟨0,by lia,pick (m:=0) (by lia) rfl⟩
    ·exact⟨6,by lia,pick (m:=1) (by lia) rfl⟩
    ·exact⟨-1,by lia,pick (m:=2) (by lia) rfl⟩
    ·exact⟨1000000000000000000000000000000,by lia,pick (m:=3) (by lia) rfl⟩
   refine⟨{p with kd:=.basin b r (vZ (t,v,mm))},⟨rfl,λ_ _ _ y=>by cases y;exact sh1 b r _ e⟩,close _ ?_⟩;have h':¬x%8<4:=by lia
   have fl:freeze G (.ok (.ref G.length) (G++[.lst [.int 0,.int 6,.int (-1),.int 1000000000000000000000000000000]]))=.ok (.fl [.int 0,.int 6,.int (-1),.int 1000000000000000000000000000000]) G:=Ck rfl;have cq:Ci [.tup [.str t,.int d,.int mm],.int 1,.int v] G=.ok (.tup [.str t,.int v,.int mm]) G:=Ow (xs:=[.str t,.int d,.int mm]) (j:=1) (by simp) (by simp) rfl rfl;have cp:=Hy (p:=p) (q:={p with kd:=.basin b r (vZ (t,v,mm))}) (j:=6) (d:=.tup [.str t,.int v,.int mm]) (by unfold RP.row RK.rest;rw[e];simp) (λ_=>rfl) (by unfold RP.row RK.rest;rw[e];rfl) G
   have cp':Ci [p.enc,.int 6,.tup [.str t,.int v,.int mm]] G=.ok (RP.enc {p with kd:=.basin b r (vZ (t,v,mm))}) G:=cp;have f1:=fr (.tup [.str t,.int v,.int mm]) rfl;rw[sk2 _ (by decide)];clear sk2 sk3 close start;generalize RP.enc {p with kd:=.basin b r (vZ (t,v,mm))}=E' at*;generalize p.enc=E at*;unfold Rg ZDC;simp[h',e6,ng,Bb,fl,ev,cq,f1,cp']
 ·subst e;obtain⟨b,r,q,e⟩:=h5 rfl;obtain⟨l1,l2⟩:=sh b r q e;have e6:∀G,Af p.enc (.int 6) G=.ok (pmD q) G:=λG=>by simp[RP.enc,RP.row,e,RK.rest]
  have e5:∀G,Af p.enc (.int 5) G=.ok (.tup (r.map Aq)) G:=λG=>by simp[RP.enc,RP.row,e,RK.rest]
  obtain⟨w,w7,ew⟩:∃w:Nat,w<=7/\atI ([.int 0,.int 1,.int 2,.int 3,.int 4,.int 5,.int 6,.int 7,.int 6,.int 2,.int 7,.int 6]:List D) (x%12)=vZ (.int w):=by
   obtain⟨m,hm,em⟩:∃m:Nat,m<12/\(m:Int)=x%12:=⟨(x%12).toNat,by lia,by lia⟩;have key:∀m:Fin 12,∃w:Fin 8,([.int 0,.int 1,.int 2,.int 3,.int 4,.int 5,.int 6,.int 7,.int 6,.int 2,.int 7,.int 6]:List D)[m.1]?=vZ (.int (w.1:Int)):=λm=>by
    rcases m with⟨m,hm⟩
    rcases(by lia:m=0∨m=1∨m=2∨m=3∨m=4∨m=5∨m=6∨m=7∨m=8∨m=9∨m=10∨m=11)with rfl|rfl|rfl|rfl|rfl|rfl|rfl|rfl|rfl|rfl|rfl|rfl
    ·exact⟨0,rfl⟩
    ·exact⟨1,rfl⟩
    ·exact⟨2,rfl⟩
    ·exact⟨3,rfl⟩
    ·exact⟨4,rfl⟩
    ·exact⟨5,rfl⟩
    ·exact⟨6,rfl⟩
    ·exact⟨7,rfl⟩
    ·exact⟨6,rfl⟩
    ·exact⟨2,rfl⟩
    ·exact⟨7,rfl⟩
    ·exact⟨6,rfl⟩
   obtain⟨w,hw⟩:=key ⟨m,hm⟩;exact⟨w.1,by lia,pick em hw⟩
  obtain⟨r',o2,o3,cr⟩:=ZNz (yr:=yr) (q:=q) (x:=x/12) hM (by lia) l2 w7;refine⟨{p with kd:=.basin b r' q},⟨rfl,λ_ _ _ y=>by cases y;exact⟨by lia,o2⟩⟩,close _ ?_⟩;have fl:freeze G (.ok (.ref G.length) (G++[.lst [.int 0,.int 1,.int 2,.int 3,.int 4,.int 5,.int 6,.int 7,.int 6,.int 2,.int 7,.int 6]]))=.ok (.fl [.int 0,.int 1,.int 2,.int 3,.int 4,.int 5,.int 6,.int 7,.int 6,.int 2,.int 7,.int 6]) G:=Ck rfl
  have cr':=cr G;have f1:=fr (.tup (r'.map Aq)) (by rw[Mg];exact Kf);have cp:=Hy (p:=p) (q:={p with kd:=.basin b r' q}) (j:=5) (d:=.tup (r'.map Aq)) (by unfold RP.row RK.rest;rw[e];simp) (λ_=>by rw[Mg];exact Kf) (by unfold RP.row RK.rest;rw[e];rfl) G;have cp':Ci [p.enc,.int 5,.tup (r'.map Aq)] G=.ok (RP.enc {p with kd:=.basin b r' q}) G:=cp;rw[sk2 _ (by decide),sk3 _ (by decide)];clear sk2 sk3 close start
  generalize RP.enc {p with kd:=.basin b r' q}=E' at*;generalize p.enc=E at*;generalize r.map Aq=R at*;generalize r'.map Aq=R' at*;unfold Wh;simp[Bb,fl,ew,e5,e6,cr',f1,cp']
noncomputable def nb:Nat->Nat
 |0=>8
 |t+1=>2*nb t+8
theorem nb4(h:t<=4):nb t<=300:=by rcases(by lia:t=0∨t=1∨t=2∨t=3∨t=4)with rfl|rfl|rfl|rfl|rfl<;>decide
theorem nb5(h:t<=5):nb t<=1000:=by rcases(by lia:t=0∨t=1∨t=2∨t=3∨t=4∨t=5)with rfl|rfl|rfl|rfl|rfl|rfl<;>decide
structure Ps4 (t:Nat) (p:RP):Prop where
 nm:p.nm.length<=nb t
 ru:∀b r q,p.kd=.basin b r q->r.length<=24+t/\∀s∈r,s.2.length<=100+t
def Hs4(t:Nat)(h:RH):Prop:=∀(i:Nat)(p:RP),h.ps[i]?=vZ p->Ps4 t p
theorem Ps4.up(h:Ps4 t p):Ps4 (t+1) p:=⟨by have:=h.nm;show _<=2*nb t+8;lia,λb r q e=>⟨by have:=(h.ru b r q e).1;lia,λs hs=>by have:=(h.ru b r q e).2 s hs;lia⟩⟩
structure Sp4 (t:Nat) (h h':RH):Prop where
 yr:h'.yr=h.yr
 n:h'.ps.length=h.ps.length
 ps:Hs4 t h'
theorem ZQg{p':RP}(sh:Hs4 t h)(hp:h.ps[k]?=vZ p)(g:Gp (24+t) (100+t) p p'){q:RP}(hi:(h.ps.set k p')[i]?=vZ q):Ps4 (t+1) q:=by
 have hk:=(zX.mp hp).1;by_cases e:k=i
 ·subst e;rw[qI hk]at hi;cases hi;exact⟨by rw[g.nm];have:=(sh k p hp).nm;show _<=2*nb t+8;lia,λb r q e=>⟨by have:=(g.ru b r q e).1;lia,λs hs=>by have:=(g.ru b r q e).2 s hs;lia⟩⟩
 ·rw[qk e]at hi;exact(sh i q hi).up
theorem ZHN(sh:Hs4 t h)(hz:z.length<=2*nb t+8∨z∈(h.ps.take k).map RP.nm):z.length<=nb (t+1):=by
 rcases hz with hz|hz
 ·exact hz
 ·obtain⟨q,hq,rfl⟩:=zC.mp hz;obtain⟨j,hj,e⟩:=jq (zT hq);exact(sh j q (by rw[<-e];exact zQ hj)).up.nm
theorem ZOl{k:RK}{b:Int}(h:rnP old z k=.basin b r q):∃q0,k=.basin b r q0:=by
 cases k with
 |town a b=>cases h
 |mill a=>cases h
 |basin b0 r0 q0=>
  cases q0 with
  |none=>cases h;exact⟨_,rfl⟩
  |some y=>obtain⟨a1,a2,a3⟩:=y;cases h;exact⟨_,rfl⟩
theorem ZQj(sh:Hs4 t h)(hp:h.ps[k]?=vZ p)(hz:z.length<=2*nb t+8∨z∈(h.ps.take k).map RP.nm){p':RP}(hi:(rnL p.nm z k h.ps)[i]?=vZ p'):Ps4 (t+1) p':=by
 have hl:=(zX.mp hi).1;rw[ZEF]at hl;have hq:=zQ hl;rw[ZPv hq]at hi;cases hi;have u:=(sh i _ hq).up;refine⟨?_,λb r q e=>?_⟩
 ·show(if decide (i=k)=vX then z else(h.ps[i]).nm).length<=nb (t+1);split
  ·exact ZHN sh hz
  ·exact u.nm
 ·obtain⟨q0,e0⟩:=ZOl e;exact u.ru b r q0 e0
theorem ZHL(z:Str):∃l:List Nat,z=Aw l:=⟨z.cps.toList,by cases z;simp[Aw]⟩
theorem ZQy(hp:h.ps[k]?=vZ p)(hn:h.ps.length<=12){r:Nat}(r0:r≠0)(hr:r<=5)
  (h5:r=5->∃b rr q,p.kd=.basin b rr q) (h4:r=4->∃b rr z,p.kd=.basin b rr (vZ z)) {t:Nat} (ht:t<=4) (sh:Hs4 t h) (G:DH):
  ∃h',Sp4 (t+1) h h'/\Om [h.enc,.int k,.int r,.int x] G=.ok h'.enc G:=by
 obtain⟨l,el⟩:=ZHL p.nm;have l8:l.length<=nb t:=by have:=(sh k p hp).nm;rw[el,Nh]at this;exact this
 have hk:k<h.ps.length:=(zX.mp hp).1;have ap:=Ko hp;have eH:h.enc=.tup [.int h.yr,.tup (h.ps.map RP.enc)]:=rfl;have close:∀(h':RH)(L:DH),Rw [vZ h.enc,vZ (.int k),vZ (.int r),vZ (.int x),vJ,vJ,vJ,vJ] G=.rt h'.enc (G++L)->Om [h.enc,.int k,.int r,.int x] G=.ok h'.enc G:=λh' L e=>by
  have tb:tidy G (.ok h'.enc (G++L))=.ok h'.enc G:=R8 Wz;have:Om [h.enc,.int k,.int r,.int x] G=.ok h'.enc G:=by unfold Om;rw[Bv];show tidy G (Rw [vZ h.enc,vZ (.int k),vZ (.int r),vZ (.int x),vJ,vJ,vJ,vJ] G).ret=_;rw[e];generalize h'.enc=E at*;simp[tb]
  exact this
 have go:Rw [vZ h.enc,vZ (.int k),vZ (.int r),vZ (.int x),vJ,vJ,vJ,vJ] G=Yp [vZ h.enc,vZ (.int k),vZ (.int r),vZ (.int x),vZ (.int h.yr),vZ (.tup (h.ps.map RP.enc)),vJ,vJ] G:=by rw[eH];generalize h.ps.map RP.enc=PS at*;unfold Rw;simp
 by_cases r1:r=1
 ·subst r1;obtain⟨z,hz,cz⟩:=ZIM hp (by lia) el (nb4 ht) l8 (x:=x);refine⟨⟨h.yr,rnL p.nm z k h.ps⟩,⟨rfl,ZEF,λi p' hi=>ZQj sh hp (hz.imp id λq=>q) hi⟩,close _ [] ?_⟩;rw[go];have cr:=ZMd hp (by lia) (z:=z) G;have cz':=cz G;have e2:RH.enc ⟨h.yr,rnL p.nm z k h.ps⟩=.tup [.int h.yr,.tup ((rnL p.nm z k h.ps).map RP.enc)]:=rfl;rw[e2];generalize(rnL p.nm z k h.ps).map RP.enc=Z at*;generalize h.ps.map RP.enc=PS at*
  generalize h.enc=H at*;unfold Yp ZCq ZEM ZDQ;simp[cz',K1,cr,Bl]
 ·have q0:¬(r:Int)=0:=by lia
  have q1:¬(r:Int)=1:=by lia
  obtain⟨aN,cA⟩:∃z:Str,∀(s3:Str)(G1:DH),G1=G++[.lst [.str p.nm,.str "no one",.str "",.str "Sea",.str p.nm]]->
    Wl [vZ h.enc,vZ (.int k),vZ (.int r),vZ (.int x),vZ (.int h.yr),vZ (.tup (h.ps.map RP.enc)),vZ (.str p.nm),vZ (.ref G.length)] G1=Th [vZ h.enc,vZ (.int k),vZ (.int r),vZ (.int x),vZ (.int h.yr),vZ (.tup (h.ps.map RP.enc)),vZ (.str p.nm),vZ (.ref G.length)] (G++[.lst [.str p.nm,.str "no one",.str "",.str "Sea",.str z]]):=by
   by_cases hc:r=2/\0<k
   ·obtain⟨j,hj,ej⟩:∃j:Nat,j<k/\(j:Int)=x/8%(k:Int):=by have a:=zF (x/8) (show(k:Int)≠0 by lia);have b:=zE (x/8) (show(0:Int)<k by lia);exact⟨(x/8%(k:Int)).toNat,by lia,by lia⟩
    obtain⟨q,hq⟩:∃q,h.ps[j]?=vZ q:=⟨_,zQ (by lia)⟩;have aq:=Ko hq;have kz:(0:Int)<(k:Int):=by lia
    refine⟨q.nm,λ_ G1 e1=>?_⟩;subst e1;have g0:(G++[DO.lst [.str p.nm,.str "no one",.str "",.str "Sea",.str p.nm]])[G.length]?=vZ (.lst [.str p.nm,.str "no one",.str "",.str "Sea",.str p.nm]):=by simp
    have st:(G++[DO.lst [.str p.nm,.str "no one",.str "",.str "Sea",.str p.nm]]).set G.length (.lst [.str p.nm,.str "no one",.str "",.str "Sea",.str q.nm])=G++[.lst [.str p.nm,.str "no one",.str "",.str "Sea",.str q.nm]]:=by simp
    generalize G++[DO.lst [.str p.nm,.str "no one",.str "",.str "Sea",.str p.nm]]=G1 at*;generalize h.ps.map RP.enc=PS at*;generalize h.enc=H at*;have r2:r=2:=hc.1;subst r2;unfold Wl;simp[kz,hc.2,<-ej,aq,g0,st,ixN]
   ·refine⟨p.nm,λ_ G1 e1=>?_⟩;subst e1;generalize G++[DO.lst [.str p.nm,.str "no one",.str "",.str "Sea",.str p.nm]]=G1 at*;generalize h.ps.map RP.enc=PS at*;generalize h.enc=H at*;unfold Wl;by_cases r2:r=2
    ·have k0:¬0<k:=λz=>hc ⟨r2,z⟩
     have k0':¬(0:Int)<(k:Int):=by lia
     subst r2;simp[k0,k0']
    ·have r2':¬(r:Int)=2:=by lia
     simp[r2,r2']
  obtain⟨s3,e3⟩:∃s3:Str,s3=if r=4 then "sea" else "Sea":=⟨_,rfl⟩
  have st8:Th [vZ h.enc,vZ (.int k),vZ (.int r),vZ (.int x),vZ (.int h.yr),vZ (.tup (h.ps.map RP.enc)),vZ (.str p.nm),vZ (.ref G.length)] (G++[.lst [.str p.nm,.str "no one",.str "",.str "Sea",.str aN]])=Zc [vZ h.enc,vZ (.int k),vZ (.int r),vZ (.int x),vZ (.int h.yr),vZ (.tup (h.ps.map RP.enc)),vZ (.str p.nm),vZ (.ref G.length)] (G++[.lst [.str p.nm,.str "no one",.str "",.str s3,.str aN]]):=by
   have g0:(G++[DO.lst [.str p.nm,.str "no one",.str "",.str "Sea",.str aN]])[G.length]?=vZ (.lst [.str p.nm,.str "no one",.str "",.str "Sea",.str aN]):=by simp
   have st:(G++[DO.lst [.str p.nm,.str "no one",.str "",.str "Sea",.str aN]]).set G.length (.lst [.str p.nm,.str "no one",.str "",.str "sea",.str aN])=G++[.lst [.str p.nm,.str "no one",.str "",.str "sea",.str aN]]:=by simp
   generalize h.ps.map RP.enc=PS at*;generalize h.enc=H at*;by_cases r4:r=4
   ·rw[if_pos r4]at e3;subst e3;generalize G++[DO.lst [.str p.nm,.str "no one",.str "",.str "Sea",.str aN]]=G1 at*;generalize G++[DO.lst [.str p.nm,.str "no one",.str "",.str "sea",.str aN]]=G2 at*;subst r4;unfold Th;simp[g0,st,ixN]
   ·rw[if_neg r4]at e3;subst e3;have r4':¬(r:Int)=4:=by lia
    generalize G++[DO.lst [.str p.nm,.str "no one",.str "",.str "Sea",.str aN]]=G1 at*;unfold Th;simp[r4,r4']
  have gS:(G++[DO.lst [.str p.nm,.str "no one",.str "",.str s3,.str aN]])[G.length]?=vZ (.lst (([p.nm,"no one","",s3,aN]:List Str).map D.str)):=by simp
  obtain⟨p',sp,cp⟩:=ZPZ (p:=p) (yr:=h.yr) (x:=x) (S:=[p.nm,"no one","",s3,aN]) rfl gS (k:=r) (by lia) hr h5 h4 (R:=24+t) (M:=100+t) (by lia) (by lia) (sh k p hp).ru;refine⟨⟨h.yr,h.ps.set k p'⟩,⟨rfl,by simp,λi q hi=>ZQg sh hp sp hi⟩,close _ [.lst [.str p.nm,.str "no one",.str "",.str s3,.str aN]] ?_⟩
  ·rw[go];have tn:tidy G (.ok (.ref G.length) (G++[.lst [.str p.nm,.str "no one",.str "",.str "Sea",.str p.nm]]))=.ok (.ref G.length) (G++[.lst [.str p.nm,.str "no one",.str "",.str "Sea",.str p.nm]]):=Jv rfl;have c7:=cA s3 _ rfl;have e2:RH.enc ⟨h.yr,h.ps.set k p'⟩=.tup [.int h.yr,.tup ((h.ps.map RP.enc).set k p'.enc)]:=by unfold RH.enc;rw[jy]
   have f1:freeze (G++[DO.lst [.str p.nm,.str "no one",.str "",.str s3,.str aN]]) (.ok p'.enc (G++[DO.lst [.str p.nm,.str "no one",.str "",.str s3,.str aN]]))=.ok p'.enc (G++[DO.lst [.str p.nm,.str "no one",.str "",.str s3,.str aN]]):=Fw Jz;have cq:Ci [.tup (h.ps.map RP.enc),.int k,p'.enc] (G++[DO.lst [.str p.nm,.str "no one",.str "",.str s3,.str aN]])=.ok (.tup ((h.ps.map RP.enc).set k p'.enc)) (G++[DO.lst [.str p.nm,.str "no one",.str "",.str s3,.str aN]]):=Ow (by rw[zZ];exact hk) (by rw[zZ];lia) Kz Jz
   have bs:bels (G++[DO.lst [.str p.nm,.str "no one",.str "",.str s3,.str aN]]).length ((h.ps.map RP.enc).set k p'.enc)=vX:=by rw[<-jy];exact Kz
   have f2:=J1 (G:=G++[DO.lst [.str p.nm,.str "no one",.str "",.str s3,.str aN]]) bs;have b9:Zc [vZ h.enc,vZ (.int k),vZ (.int r),vZ (.int x),vZ (.int h.yr),vZ (.tup (h.ps.map RP.enc)),vZ (.str p.nm),vZ (.ref G.length)] (G++[.lst [.str p.nm,.str "no one",.str "",.str s3,.str aN]])=.rt (.tup [.int h.yr,.tup ((h.ps.map RP.enc).set k p'.enc)]) (G++[.lst [.str p.nm,.str "no one",.str "",.str s3,.str aN]]):=by
    generalize G++[DO.lst [.str p.nm,.str "no one",.str "",.str s3,.str aN]]=G2 at*;generalize(h.ps.map RP.enc).set k p'.enc=Z at*;generalize h.ps.map RP.enc=PS at*;generalize h.enc=H at*;generalize p'.enc=E' at*;generalize p.enc=E at*;unfold Zc;simp[ap,cp,f1,cq,f2,Bl]
   rw[e2,<-b9,<-st8,<-c7];have r0':¬r=0:=r0;have r1':¬r=1:=r1;generalize h.ps.map RP.enc=PS at*;generalize h.enc=H at*;unfold Yp ZCq ZEM ZDQ ZJX ZF5;simp[q0,q1,r0',r1',ap,Bb,tn]
theorem lt1: [a] < [b]↔a<b:=by rw[List.cons_lt_cons_iff];simp
def smF:D->Option D
 |.str x=>if small (x.cps.getD 0 0)=vX then vZ (.str x)else vJ
 |_=>vJ
theorem ZEw:smF (sgn c)=if small c=vX then vZ (sgn c)else vJ:=rfl
theorem ZJL:Ud [vZ (sgn c)] G=.ok (small c) G:=by
 have ea:("a":Str).cps.toList=[97]:=by decide +kernel
 have ez:("z":Str).cps.toList=[122]:=by decide +kernel
 have l1:(!decide ([c] < [97]))=decide (97<=c):=by
  rw[show decide ([c] < [97])=decide (c<97)from decide_eq_decide.mpr lt1]
  by_cases h:97<=c
  ·rw[decide_eq_true h,decide_eq_false (by lia)];rfl
  ·rw[decide_eq_false h,decide_eq_true (by lia)];rfl
 have l2:(!decide ([122] < [c]))=decide (c<=122):=by
  rw[show decide ([122] < [c])=decide (122<c)from decide_eq_decide.mpr lt1]
  by_cases h:c<=122
  ·rw[decide_eq_true h,decide_eq_false (by lia)];rfl
  ·rw[decide_eq_false h,decide_eq_true (by lia)];rfl
 have o1:∀G,G6 (.str "a") (sgn c) G=.ok (.bl (decide (97<=c))) G:=λG=>by rw[<-l1,<-ea];rfl
 have o2:∀G,G6 (sgn c) (.str "z") G=.ok (.bl (decide (c<=122))) G:=λG=>by rw[<-l2,<-ez];rfl
 unfold Ud small;by_cases h:97<=c
 ·by_cases h2:c<=122<;>simp[o1,o2,h,h2]
 ·simp[o1,h]
theorem ZKc(hz:z.length<=1000)(G:DH):Z8 [.str z] G=.ok (.bl (isN z.cps.toList)) G:=by
 have hl:z.length=z.cps.toList.length:=by simp[Str.length]
 have hc:Cw (gV 0) Ud Yq [vJ] (signs z) G=.ok ((z.cps.toList.filter small).map sgn) G:=by
  have:=Ri (g:=gV 0) (c:=Ud) (te:=Yq) (S:=[vJ]) (G:=G) (F:=smF) (xs:=signs z) (λx hx=>by
   obtain⟨c,_,rfl⟩:=zC.mp hx;refine⟨[vZ (sgn c)],rfl,?_⟩;cases hs:small c with
   |false=>exact .inl ⟨by rw[ZJL,hs],by rw[ZEw,hs];rfl⟩
   |true=>exact .inr ⟨by rw[ZJL,hs],sgn c,by unfold Yq;simp,by rw[ZEw,hs];rfl⟩)
  rw[this]
  congr 1
  unfold signs
  induction z.cps.toList with
  |nil=>rfl
  |cons c r ih=>
   rw[zz,zH,ih,qC,ZEw]
   cases small c<;>simp
 have hlen:((z.cps.toList.filter small).map sgn).length<=1000:=by rw[zZ];exact z9 (jX _ _) (by lia)
 have hlen':((z.cps.toList.filter small).map sgn).length<=1000000:=by lia
 have fz:freeze G (.ok (.ref G.length) (G++[.lst ((z.cps.toList.filter small).map sgn)]))=.ok (.fl ((z.cps.toList.filter small).map sgn)) G:=Ck (Jd λ_ _=>rfl);have hall:decide (((z.cps.toList.filter small).map sgn).length=z.length)=z.cps.toList.all small:=by
  rw[zZ,hl];by_cases e:z.cps.toList.all small=vX
  ·rw[e];exact decide_eq_true (by rw[List.filter_eq_self.mpr (qJ.mp e)])
  ·rw[jK]at e;rw[e];refine decide_eq_false λq=>?_
   have:=List.filter_eq_self.mp ((List.filter_sublist (p:=small) (l:=z.cps.toList)).eq_of_length q);rw[qJ.mpr this]at e;cases e
 have hs:decide (z=("sea":Str))=decide (z.cps.toList=Oa):=by rw[<-ZGl];exact decide_eq_decide.mpr ZGG
 have hcs:∀S:DSt,Bx 1 [] S=[vJ]:=λ_=>rfl
 have hz':z.length<=1000000:=by lia
 have hall':decide ((((z.cps.toList.filter small).map sgn).length:Int)=(z.length:Int))=z.cps.toList.all small:=by rw[<-hall];exact decide_eq_decide.mpr (by lia)
 generalize(z.cps.toList.filter small).map sgn=W at*;unfold isN;rw[<-hl];unfold Z8 ZIi;rw[Bv];by_cases h1:0<z.length
 ·by_cases h2:z.length<9
  ·have h1':(0:Int)<(z.length:Int):=by lia
   have h2':(z.length:Int)<9:=by lia
   have h3:decide (1<=z.length/\z.length<=8)=vX:=decide_eq_true (by lia);cases ha:z.cps.toList.all small with
   | true=>
    rw[ha]at hall hall';rw[h3];have e1:W.length=z.length:=of_decide_eq_true hall;by_cases h5:z.cps.toList=Oa
    ·have e5:z="sea":=of_decide_eq_true (by rw[hs];exact decide_eq_true h5)
     rw[decide_eq_false (show¬¬z.cps.toList=Oa from λq=>q h5)]
     have e5':(z="sea")=True:=eq_true e5;simp[hcs,hc,Bb,hlen',hz',fz,Bp,h1,h2,h1',h2',e1,e5']
    ·have e5:¬z="sea":=λq=>by rw[decide_eq_true q]at hs;exact h5 (of_decide_eq_true hs.symm)
     rw[decide_eq_true h5];simp[hcs,hc,Bb,hlen',hz',fz,Bp,h1,h2,h1',h2',e1,e5]
   |false=>
    rw[ha]at hall hall';have e1:¬W.length=z.length:=of_decide_eq_false hall;have e1':¬(W.length:Int)=(z.length:Int):=of_decide_eq_false hall';simp[hcs,hc,Bb,hlen',hz',fz,Bp,h1,h2,h1',h2',e1,e1']
  ·have h2':¬(z.length:Int)<9:=by lia
   have h1':(0:Int)<(z.length:Int):=by lia
   rw[decide_eq_false (show¬(1<=z.length/\z.length<=8) by lia)];simp[hcs,hc,Bb,hlen',hz',fz,Bp,h1,h1',h2,h2']
 ·have h1':¬(0:Int)<(z.length:Int):=by lia
  rw[decide_eq_false (show¬(1<=z.length/\z.length<=8) by lia)];simp[hcs,hc,Bb,hlen',hz',fz,Bp,h1,h1']
noncomputable def okW(q:Option (Str×Int×Int))(st:List Stp):Bool:=q.isSome||st.all λs=>s.r
def Nq:DS:=(Aj (sIf (Dc (Ao (dOp Es (dV 3) (dC (.int 0)))) (Ao (dOp Du (dV 4) (dOp Ba (dOp Af (dOp Af (dV 0) (dOp Fd (dV 3) (dC (.int 1)))) (dC (.int 0))) (dOp Af (dOp Af (dV 0) (dOp Fd (dV 3) (dC (.int 1)))) (dC (.int 1))))))) (sRt (dC (.bl vV))) sNx) (sIf (Ao (dOp Bj (dV 6) (dC (.str "pump")))) (sAs (dOp Ba (dV 2) (dV 5)) (gV 2)) sNx))
def Ju:DS:=(Aj (sIf (dOr (Ao (dOp Du (dV 4) (dC (.int 0)))) (dOr (Ao (dOp Du (dV 5) (dC (.int 1)))) (Dc (Ao (dOp Bj (dV 6) (dC (.str "pump")))) (Ao (dOp Kw (dV 1) (dC .non)))))) (sRt (dC (.bl vV))) sNx) Nq)
theorem ZNl:R6=(Aj (sAs (dOp Af (dV 0) (dV 3)) (Dn 3 (Bq (gV 4) (Bq (gV 5) (Bq (gV 6) Ds))))) Ju):=rfl
theorem ZIC{q:Option (Str×Int×Int)}{G:DH}(hl:st.length<=1000):∀(r:List Stp)(j:Nat)(a acc:Int)(x3 x4 x5 x6:Option D),st.drop j=r->0<=a->(j=0->a=0)->(∀i p,j=i+1->st[i]?=vZ p->a=p.h+p.m)->∃y3 y4 y5 y6,
  Dj (gV 3) R6 (Cr j r.length) [vZ (.tup (st.map Stp.enc)),vZ (pmD q),vZ (.int acc),x3,x4,x5,x6] G=
   if(Dm a r&&okW q r)=vX then .nx [vZ (.tup (st.map Stp.enc)),vZ (pmD q),vZ (.int (acc+(pmps r).sum)),y3,y4,y5,y6] G else .rt (.bl vV) G
 | [],j,a,acc,x3,x4,x5,x6,_,_,_,_=>⟨x3,x4,x5,x6,by
   rw[List.length_nil,Jo,Im];have:okW q []=vX:=by simp[okW]
   simp[Dm,this,pmps]⟩
 | s::r,j,a,acc,x3,x4,x5,x6,hd,ha,h0,hp=>by
  have hj:st[j]?=vZ s:=by have:=congrArg (λl=>l[0]?) hd;simpa using this
  have hdr:st.drop (j+1)=r:=by have:=congrArg List.tail hd;simpa using this
  have hjl:=(zX.mp hj).1;have aj:atI (st.map Stp.enc) (j:Int)=vZ (.tup [.int s.h,.int s.m,.str (wy s.r)]):=Ec rfl (by rw[zw,hj];rfl);have aw:(wy s.r="pump")=(s.r=vV):=by cases s.r<;>simp[wy,pr]
  have key:∃b:Bool,(b=vX↔(a<=s.h/\1<=s.m/\(s.r=vX∨q.isSome=vX)))/\R6 [vZ (.tup (st.map Stp.enc)),vZ (pmD q),vZ (.int acc),vZ (.int j),x4,x5,x6] G=if b=vX then .nx [vZ (.tup (st.map Stp.enc)),vZ (pmD q),vZ (.int (acc+if s.r=vX then 0 else s.m)),vZ (.int j),vZ (.int s.h),vZ (.int s.m),vZ (.str (wy s.r))] G else .rt (.bl vV) G:=by
   have hpv:∀i p,j=i+1->st[i]?=vZ p->atI (st.map Stp.enc) ((j:Int)-1)=vZ (.tup [.int p.h,.int p.m,.str (wy p.r)]):=λi p e hi=>Ec (k:=i) (by lia) (by rw[zw,hi];rfl)
   have hq:(pmD q=.non)=(q.isSome=vV):=by rcases q with _|⟨t,d,m⟩<;>simp[pmD]
   have isq:Cq (pmD q)= !q.isSome:=by rcases q with _|⟨t,d,m⟩<;>rfl
   generalize st.map Stp.enc=Z at*;generalize wy s.r=W at*;generalize pmD q=PQ at*;have pre:R6 [vZ (.tup Z),vZ PQ,vZ (.int acc),vZ (.int j),x4,x5,x6] G=Ju [vZ (.tup Z),vZ PQ,vZ (.int acc),vZ (.int j),vZ (.int s.h),vZ (.int s.m),vZ (.str W)] G:=by rw[ZNl];simp[aj]
   rw[pre];clear pre;by_cases c1:s.h<0
   ·exact⟨vV,by simp;lia,by unfold Ju;simp[c1]⟩
   by_cases c2:s.m<1
   ·exact⟨vV,by simp;lia,by unfold Ju;simp[c1,c2]⟩
   cases hr:s.r with
   | false=>
    have wp:W="pump":=by rw[aw];exact hr
    cases hqs:q.isSome with
    |false=>exact⟨vV,by simp,by unfold Ju;simp[c1,c2,wp,isq,hqs]⟩
    | true=>
     cases j with
     |zero=>
      have a0:=h0 rfl;exact⟨vX,by simp;lia,by unfold Ju Nq;simp[c1,c2,wp,isq,hqs]⟩
     |succ i=>
      obtain⟨p,hi⟩:∃p,st[i]?=vZ p:=⟨_,zQ (by lia)⟩;have e1:=hp i p rfl hi;have e2:=hpv i p rfl hi;have jz:(0:Int)<((i+1:Nat):Int):=by lia
      have jz':0<i+1:=by lia
      by_cases c3:s.h<p.h+p.m
      ·refine⟨vV,by simp;lia,?_⟩;generalize i+1=j at*;unfold Ju Nq;simp[c1,c2,wp,isq,hqs,jz,jz',e2,c3]
      ·refine⟨vX,by simp;lia,?_⟩;generalize i+1=j at*;unfold Ju Nq;simp[c1,c2,wp,isq,hqs,jz,jz',e2,c3]
   | true=>
    have wp:¬W="pump":=by rw[aw,hr];simp
    cases j with
    |zero=>
     have a0:=h0 rfl;exact⟨vX,by simp;lia,by unfold Ju Nq;simp[c1,c2,wp]⟩
    |succ i=>
     obtain⟨p,hi⟩:∃p,st[i]?=vZ p:=⟨_,zQ (by lia)⟩;have e1:=hp i p rfl hi;have e2:=hpv i p rfl hi;have jz:(0:Int)<((i+1:Nat):Int):=by lia
     have jz':0<i+1:=by lia
     by_cases c3:s.h<p.h+p.m
     ·refine⟨vV,by simp;lia,?_⟩;generalize i+1=j at*;unfold Ju Nq;simp[c1,c2,wp,jz,jz',e2,c3]
     ·refine⟨vX,by simp;lia,?_⟩;generalize i+1=j at*;unfold Ju Nq;simp[c1,c2,wp,jz,jz',e2,c3]
  obtain⟨b,hb,hL⟩:=key;have e1:((j:Int)+1)=((j+1:Nat):Int):=by lia
  have okc:okW q (s::r)=((s.r||q.isSome)&&okW q r):=by
   unfold okW
   cases q.isSome<;>simp
  rw[qw,Iv,Gn];cases b with
  |false=>
   refine⟨x3,x4,x5,x6,?_⟩;have nb:(Dm a (s::r)&&okW q (s::r))=vV:=by rw[<-jK];intro z;rw[okc]at z;simp[Dm]at z;have:=hb.mpr ⟨z.1.1.1,z.1.1.2,z.2.1⟩;cases this
   rw[nb];simp[hL]
  | true=>
   obtain⟨b1,b2,b3⟩:=hb.mp rfl;obtain⟨y3,y4,y5,y6,ih⟩:=ZIC (q:=q) (G:=G) hl r (j+1) (s.h+s.m) (acc+if s.r=vX then 0 else s.m) (vZ (.int j)) (vZ (.int s.h)) (vZ (.int s.m)) (vZ (.str (wy s.r))) hdr (by lia) (λz=>by lia) (λi p e hi=>by
    have:i=j:=by lia
    subst this;rw[hj]at hi;cases hi
    rfl)
   refine⟨y3,y4,y5,y6,?_⟩;have bb:(Dm a (s::r)&&okW q (s::r))=(Dm (s.h+s.m) r&&okW q r):=by
    rw[okc];have:(s.r||q.isSome)=vX:=by simpa using b3
    rw[this];simp[Dm,b1,b2]
   have ps:acc+(pmps (s::r)).sum=(acc+if s.r=vX then 0 else s.m)+(pmps r).sum:=by
    unfold pmps;rw[qC]
    cases s.r<;>simp <;> lia
   rw[bb,ps];rw[e1];generalize st.map Stp.enc=Z at*;generalize pmD q=PQ at*;simp only[Di,R.Ib,qD,hL,if_true,Ii,ih]
theorem ZLL(hl:st.length<=1000)(G:DH):Zi [.tup (st.map Stp.enc),pmD q] G=.ok (.bl (Dm 0 st&&Ep st q)) G:=by
 obtain⟨y3,y4,y5,y6,hL⟩:=ZIC (q:=q) (G:=G) hl st 0 0 0 vJ vJ vJ vJ rfl (by lia) (λ_=>rfl) (λi p e _=>by lia);have hL':Dj (gV 3) R6 (Cr 0 st.length) [vZ (.tup (st.map Stp.enc)),vZ (pmD q),vZ (.int 0),vJ,vJ,vJ,vJ] G=_:=hL;have hr:inR (st.length:Int):=Hm (by lia) (by lia);have ln:(((st.map Stp.enc).length:Nat):Int)=(st.length:Int):=by rw[zZ]
 have ep:q=vJ->okW q st=decide (pmps st=[]):=λe=>by
  subst e;unfold okW pmps
  rw[show(Option.isSome (vJ:Option (Str×Int×Int)))=vV from rfl,Bool.false_or]
  induction st with
  |nil=>rfl
  | cons s r ih=>
   clear hL hL' hr ln;have ih':(r.all λs=>s.r)=decide (List.map Stp.m (List.filter (λs=> !s.r) r)=[]):=by
    clear ih hl
    induction r with
    |nil=>rfl
    |cons s r ih=>
     rw[qH,qC,ih]
     cases s.r<;>simp
   rw[qH,qC,ih']
   cases s.r<;>simp
 generalize st.map Stp.enc=Z at*;unfold Zi ZIa;rw[Bv];cases gd:Dm 0 st with
 |false=>
  rw[gd]at hL';simp[ln,hr,hL',Bp]
 | true=>
  rw[gd]at hL';rcases q with _|⟨t,d,m⟩
  ·have e:=ep rfl;unfold Ep;simp only;rw[<-e];cases ow:okW vJ st with
   |false=>rw[ow]at hL';simp[pmD]at hL';simp[ln,hr,pmD,hL',Bp]
   |true=>rw[ow]at hL';simp[pmD]at hL';simp[ln,hr,pmD,hL',Cq,Bp]
  ·have ow:okW (vZ (t,d,m)) st=vX:=by simp[okW]
   rw[ow]at hL';simp[pmD]at hL';simp[ln,hr,pmD,hL',Cq,Ep,Bp]
theorem range_getD(ns:List Int):(zy ns.length).map (λi=>ns.getD i 0)=ns:=by
 apply List.ext_getElem
 ·simp
 ·intro i h1 h2;simp[zB,h2]
theorem ZP3(ns:List Int):ddI ns=(ns.foldl PyProof.Rows.step_dedup []).length:=by unfold ddI PyProof.Rows.firstMet;rw[range_getD]
theorem ZIR:∀(ns σ:List Int),(ns.foldl PyProof.Rows.step_dedup σ).length<=σ.length+ns.length/\((ns.foldl PyProof.Rows.step_dedup σ).length=σ.length+ns.length↔ns.Nodup/\∀x∈ns,x∉σ)
 |[],σ=>by simp
 | v::ns,σ=>by
  obtain⟨i1,i2⟩:=ZIR ns (PyProof.Rows.step_dedup σ v);rw[qP];by_cases h:v∈σ
  ·have e:PyProof.Rows.step_dedup σ v=σ:=by unfold PyProof.Rows.step_dedup;rw[if_pos (by simpa using h)]
   rw[e]at i1⊢;refine⟨by simp;lia,⟨λz=>by simp at z;lia,λz=>absurd h (z.2 v z8)⟩⟩
  ·have e:PyProof.Rows.step_dedup σ v=σ++[v]:=by unfold PyProof.Rows.step_dedup;rw[if_neg (by simpa using h)]
   rw[e]at i1 i2⊢;rw[zU,j1]at i1 i2;refine⟨by simp;lia,?_⟩;rw[show σ.length+(v::ns).length=σ.length+1+ns.length by simp;lia,i2,jZ];constructor
   ·rintro⟨z1,z2⟩;refine⟨⟨λq=>by have:=z2 v q;simp at this,z1⟩,λx hx=>?_⟩;rcases zq.mp hx with rfl|hx
    ·exact h
    ·have:=z2 x hx;simp at this;exact this.1
   ·rintro⟨⟨z1,z2⟩,z3⟩;refine⟨z2,λx hx=>?_⟩;have h1:=z3 x (zY _ hx);have h2:x≠v:=λq=>z1 (q▸hx)
    simp[h1,h2]
theorem ZMf(ns:List Int):ddI ns=ns.length↔ns.Nodup:=by have:=(ZIR ns []).2;rw[ZP3];simpa using this
theorem ZNg(ns:List Int):ns=Hx ns↔ns.Pairwise (·<=·):=by
 constructor
 ·intro h;have h3:(Hx ns).Pairwise (λa b=>decide (a<=b)=vX):=List.pairwise_mergeSort (by intro a b c;simp;lia) (by intro a b;simp;lia) ns;rw[h];exact h3.imp (by intro a b;simp)
 ·intro h;exact ZG9 (List.Perm.refl _) h
theorem ZQB(ns:List Int):ns.Pairwise (· < ·)↔ns.Pairwise (·<=·)/\ns.Nodup:=by
 unfold List.Nodup;rw[<-List.pairwise_and_iff];constructor
 ·exact λh=>h.imp λh=>⟨by lia,by lia⟩
 ·exact λh=>h.imp λh=>by lia
theorem ZHF{yr:Int}:∀(r:List Ssn)(a:Int),Lr yr a r=vX↔(a::r.map Prod.fst).Pairwise (· < ·)/\∀s∈r,s.1<yr
 |[],a=>by simp[Lr]
 | s::r,a=>by
  have ih:=ZHF (yr:=yr) r s.1;unfold Lr;rw[zV,zV,decide_eq_true_iff,decide_eq_true_iff,ih];constructor
  ·rintro⟨⟨h1,h2⟩,h3,h4⟩;refine⟨?_,λx hx=>?_⟩
   ·rw[zz,jQ];refine⟨λx hx=>?_,h3⟩;rcases zq.mp hx with rfl|hx
    ·exact h1
    ·exact Int.lt_trans h1 ((jQ.mp h3).1 x hx)
   ·rcases zq.mp hx with rfl|hx
    ·exact h2
    ·exact h4 x hx
  ·rintro⟨h1,h2⟩;rw[zz,jQ]at h1;exact⟨⟨h1.1 _ z8,h2 s z8⟩,h1.2,λx hx=>h2 x (zY _ hx)⟩
theorem ZKt{l:List Ssn}{s:Ssn}(h0:(r.map Prod.fst).head?=vZ 0)(e:r=l++[s]):Km yr r=vX↔s.1<yr/\r.map Prod.fst=Hx (r.map Prod.fst)/\ddI (r.map Prod.fst)=(r.map Prod.fst).length:=by
 rw[ZNg,ZMf,<-ZQB];have hA:=ZHF (yr:=yr) r (-1);have ok:Km yr r=vX↔Lr yr (-1) r=vX:=by
  cases r with
  |nil=>simp at h0
  |cons s0 r0=>
   have:s0.1=0:=by simpa using h0
   show(decide (s0.1=0)&&_)=vX↔_;rw[decide_eq_true this,Bool.true_and]
 rw[ok,hA,jQ]
 have pos:(r.map Prod.fst).Pairwise (· < ·)->∀x∈r.map Prod.fst,-1<x:=λhp x hx=>by
  cases r with
  |nil=>cases hx
  |cons s0 r0=>
   have z:s0.1=0:=by simpa using h0
   rw[zz,jQ]at hp;rcases zq.mp hx with rfl|hx
   ·lia
   ·have:=hp.1 x hx;lia
 constructor
 ·rintro⟨⟨_,h2⟩,h3⟩;exact⟨h3 s (by rw[e];simp),h2⟩
 ·rintro⟨h1,h2⟩;refine⟨⟨pos h2,h2⟩,λx hx=>?_⟩;rw[e]at h2 hx;rw[zR,List.pairwise_append]at h2;rcases zM.mp hx with hx|hx
  ·have:=h2.2.2 x.1 (zC.mpr ⟨x,hx,rfl⟩) s.1 (by simp);lia
  ·rw[qV.mp hx];exact h1
theorem ZJY{q:Option (Str×Int×Int)}{G:DH}:∀(r:List Ssn),(∀s∈r,s.2.length<=1000)->Cw (Dn 2 (Bq (gV 0) (Bq (gV 1) Ds))) Cu Xi [vJ,vJ,vZ (pmD q)] (r.map Aq) G=.ok ((r.map λs=>Dm 0 s.2&&Ep s.2 q).map D.bl) G
 |[],_=>rfl
 |s::r,h=>by
  have ih:=ZJY (q:=q) (G:=G) r λx hx=>h x (zY _ hx)
  have c:=ZLL (st:=s.2) (q:=q) (h s z8) G;have he:Xi [vZ (.int s.1),vZ (.tup (s.2.map Stp.enc)),vZ (pmD q)] G=.ok (.bl (Dm 0 s.2&&Ep s.2 q)) G:=by unfold Xi;simp[c]
  rw[zz,Jc,show Aq s=.tup [.int s.1,.tup (s.2.map Stp.enc)]from rfl]
  simp[he,ih]
theorem ZQb(hr:r.length<64)(hs:∀s∈r,s.2.length<=1000)(G:DH):Vh [.tup (r.map Aq),.int yr,pmD q] G=.ok (.bl (Ig yr r q)) G:=by
 have hb:Cw (Dn 2 (Bq (gV 0) (Bq (gV 1) Ds))) Cu ZAn [vJ,vJ] (r.map Aq) G=.ok (r.map λs=>D.int s.1) G:=ZDl (X:=λs:Ssn=>.int s.1) (Y:=λs:Ssn=>.tup (s.2.map Stp.enc)) (λs=>rfl) λs _=>by unfold ZAn;simp
 have eb:(r.map λs=>D.int s.1)=(r.map Prod.fst).map D.int:=by rw[q8];rfl
 rw[eb]at hb;have hc:=ZJY (q:=q) (G:=G) r hs;have hcs1:∀a b c d:Option D,Bx 2 [] [a,b,c,d]=[vJ,vJ]:=λ_ _ _ _=>rfl
 have hcs2:∀a b c d:Option D,Bx 2 [2] [a,b,c,d]=[vJ,vJ,c]:=λ_ _ _ _=>rfl
 have nl:(r.map Prod.fst).length=r.length:=by simp
 have ll:((r.map Prod.fst).map D.int).length=r.length:=by simp
 have ll':((r.map Prod.fst).map D.int).length<=1000000:=by lia
 have lr:r.length<=1000000:=by lia
 have fz:freeze G (.ok (.ref G.length) (G++[.lst ((r.map Prod.fst).map D.int)]))=.ok (.fl ((r.map Prod.fst).map D.int)) G:=Ck Iw;have so:Rk [.fl ((r.map Prod.fst).map D.int)] G=.ok (.ref G.length) (G++[.lst ((Hx (r.map Prod.fst)).map D.int)]):=by
  have h1:(r.map Prod.fst).length<64:=by lia
  clear hb eb ll ll' fz nl;generalize r.map Prod.fst=nn at*;unfold Rk;simp[Ik,h1]
 have fs:freeze G (.ok (.ref G.length) (G++[.lst ((Hx (r.map Prod.fst)).map D.int)]))=.ok (.fl ((Hx (r.map Prod.fst)).map D.int)) G:=Ck Iw;have ne:Ff (.fl ((r.map Prod.fst).map D.int)) (.fl ((Hx (r.map Prod.fst)).map D.int)) G=.ok (.bl (!decide (r.map Prod.fst=Hx (r.map Prod.fst)))) G:=by
  rw[ZM1 (ZJi (n:=29) λd hd=>by obtain⟨i,_,rfl⟩:=zC.mp hd;rfl) (ZJi (n:=29) λd hd=>by obtain⟨i,_,rfl⟩:=zC.mp hd;rfl)]
  congr 3
  refine decide_eq_decide.mpr ⟨λz=>?_,λz=>by rw[<-z]⟩;have z:(r.map Prod.fst).map D.int=(Hx (r.map Prod.fst)).map D.int:=D.fl.inj z;exact(List.map_inj_right (λa b e=>D.int.inj e)).mp z
 have ls:∀a b c:Option D,dLS (Ad (dV 3) Ah) [a,b,c,vZ (.fl ((r.map Prod.fst).map D.int))] G=.ok (.int (ddI (r.map Prod.fst):Nat)) G:=λa b c=>by
  have h1:(r.map Prod.fst).length<=1000:=by lia
  clear hb eb ll ll' fz nl so fs ne;generalize r.map Prod.fst=nn at*;unfold dLS;simp[Ik,h1]
 have al:= @ZHw G (r.map λs=>Dm 0 s.2&&Ep s.2 q);have fb:freeze G (.ok (.ref G.length) (G++[.lst ((r.map λs=>Dm 0 s.2&&Ep s.2 q).map D.bl)]))=.ok (.fl ((r.map λs=>Dm 0 s.2&&Ep s.2 q).map D.bl)) G:=Ck ZHx;have lb:((r.map λs=>Dm 0 s.2&&Ep s.2 q).map D.bl).length<=1000000:=by simp;lia
 have ea:(r.map λs=>Dm 0 s.2&&Ep s.2 q).all id=r.all λs=>Dm 0 s.2&&Ep s.2 q:=by rw[List.all_map];rfl
 rw[ea]at al;unfold Vh ZJB;rw[Bv];rcases j5 r with e|⟨l,s,e⟩
 ·subst e;simp at hb fz;simp[hcs1,hb,Bb,fz,Bp,Ig,Km]
 ·rw [j6]at e;obtain⟨s0,r0,er⟩:∃s0 r0,r=s0::r0:=by
   cases r with
   |nil=>simp at e
   |cons a b=>exact⟨a,b,rfl⟩
  have a0:atI ((r.map Prod.fst).map D.int) 0=vZ (.int s0.1):=by rw[er];exact Ec (k:=0) rfl rfl
  have aL:atI ((r.map Prod.fst).map D.int) (-1)=vZ (.int s.1):=by rw[e,zR,zR];exact ZA1
  have nz:¬r.length=0:=by rw[er];simp
  have nz':¬(r.length:Int)=0:=by lia
  have ng:∀G:DH,Ho (.int 1) G=.ok (.int (-1)) G:=λG=>rfl
  by_cases z0:s0.1=0
  ·have key:=ZKt (yr:=yr) (r:=r) (l:=l) (s:=s) (by rw[er];simp[z0]) e;have ok:∀b:Bool,(b=vX↔s.1<yr/\r.map Prod.fst=Hx (r.map Prod.fst)/\ddI (r.map Prod.fst)=(r.map Prod.fst).length)->Km yr r=b:=λb hb=>by rw[Bool.eq_iff_iff,key,hb]
   unfold Ig;generalize(r.all λs=>Dm 0 s.2&&Ep s.2 q)=AL at*;generalize(r.map λs=>Dm 0 s.2&&Ep s.2 q).map D.bl=BL at*;rw[nl]at ok;clear key hr hs;generalize ddI (r.map Prod.fst)=dd at*;generalize(Hx (r.map Prod.fst)).map D.int=SN at*;generalize Hx (r.map Prod.fst)=sn at*;generalize(r.map Prod.fst).map D.int=NN at*;generalize r.map Prod.fst=nn at*;have nN:¬NN=[]:=λz=>by rw[z]at ll;simp at ll;lia
   generalize r.map Aq=RR at*;by_cases z1:s.1<yr
   ·have z1':¬yr<=s.1:=by lia
    by_cases z2:nn=sn
    ·rw[decide_eq_true z2]at ne;by_cases z3:dd=r.length
     ·have z3':(dd:Int)=(r.length:Int):=by lia
      rw[ok vX (by simp[z1,z2,z3])];simp[hcs1,hb,Bb,lr,fz,ll,nz,nz',nN,a0,z0,ng,aL,z1',so,fs,ne,ls,z3,z3',hcs2,hc,lb,fb,al,Bp]
     ·have z3':¬(dd:Int)=(r.length:Int):=by lia
      rw[ok vV (by simp[z3])];simp[hcs1,hb,Bb,lr,fz,ll,nz,nz',nN,a0,z0,ng,aL,z1',so,fs,ne,ls,z3,z3',Bp]
    ·rw[decide_eq_false z2]at ne;rw[ok vV (by simp[z2])];simp[hcs1,hb,Bb,lr,fz,ll,nz,nz',nN,a0,z0,ng,aL,z1',so,fs,ne,Bp]
   ·have z1':yr<=s.1:=by lia
    rw[ok vV (by simp[z1])];simp[hcs1,hb,Bb,lr,fz,ll,nz,nz',nN,a0,z0,ng,aL,z1',Bp]
  ·have:Ig yr r q=vV:=ZKZ (by rw[er];show(decide (s0.1=0)&&_)=vV;rw[decide_eq_false z0];rfl);rw[this];generalize(r.map Prod.fst).map D.int=NN at*;have nN:¬NN=[]:=λz=>by rw[z]at ll;simp at ll;lia
   generalize r.map Aq=RR at*;simp[hcs1,hb,Bb,lr,fz,ll,nz,nz',nN,a0,z0,Bp]
theorem A_eq:h.A k=(h.ps.map RP.nm).take k:=by unfold RH.A;rw[jJ]
theorem B_eq:h.B k=(h.ps.map RP.nm).drop (k+1):=by unfold RH.B;rw[jx]
structure Bad (h':RH) (k:Nat) (r:Nat):Prop where
 yr:1<=h'.yr/\h'.yr<=24
 n:1<=h'.ps.length/\h'.ps.length<=12
 ah:∀(i:Nat)(q:RP),i<k->h'.ps[i]?=vZ q->h'.rk i q=0/\Sh q
 at_:∃p',h'.ps[k]?=vZ p'/\h'.rk k p'=r/\Sh p'
theorem ZGg{s1:Option D}{G:DH}(hn:h.ps.length<=100):∀(m k:Nat)(x:Option D),k+m<=h.ps.length->(∀(i:Nat)(q:RP),k<=i->i<k+m->h.ps[i]?=vZ q->h.rk i q=0/\Sh q)->∃x',Dj (gV 2) Jx (Cr k m) [vZ h.enc,s1,x] G=.nx [vZ h.enc,s1,x'] G
 |0,k,x,_,_=>⟨x,by rw[Jo,Im]⟩
 |m+1,k,x,e,hc=>by
  obtain⟨x',ih⟩:=ZGg (s1:=s1) (G:=G) hn m (k+1) (vZ (.int k)) (by lia) λi q h1 h2=>hc i q (by lia) (by lia)
  refine⟨x',?_⟩;obtain⟨q,hq⟩:∃q,h.ps[k]?=vZ q:=⟨_,zQ (by lia)⟩;obtain⟨r0,sh⟩:=hc k q (by lia) (by lia) hq;have ck:=(ZC2 hq hn sh G).1 r0;have hb:Jx [vZ h.enc,s1,vZ (.int k)] G=.nx [vZ h.enc,s1,vZ (.int k)] G:=by unfold Jx;simp[ck]
  rw[Iv,Gn];simp only[Di,R.Ib,qD,hb,Ii];have e1:((k:Int)+1)=((k+1:Nat):Int):=by lia
  rw[e1,ih]
theorem ZGF{r:Nat}(b:Bad h k r)(hr:r≠0){s1:Option D}{G:DH}:∀(m j:Nat)(x:Option D),j<=k->k<j+m->j+m<=h.ps.length->∃L,Dj (gV 2) Jx (Cr j m) [vZ h.enc,s1,x] G=.err ⟨cls5 r,[("place",.int k)]⟩ (G++L)
 |0,j,x,h1,h2,_=>by lia
 | m+1,j,x,h1,h2,h3=>by
  have hn:=b.n.2;rw[Iv,Gn];by_cases e:j=k
  ·subst e;obtain⟨p',hp',rk,sh⟩:=b.at_;obtain⟨L,ck⟩:=(ZC2 hp' (by lia) sh G).2 (by rw[rk];exact hr);rw[rk]at ck;refine⟨L,?_⟩;have hb:Jx [vZ h.enc,s1,vZ (.int j)] G=.err ⟨cls5 r,[("place",.int j)]⟩ (G++L):=by unfold Jx;simp[ck]
   simp only[Di,R.Ib,qD,hb,ZQS]
  ·obtain⟨q,hq⟩:∃q,h.ps[j]?=vZ q:=⟨_,zQ (by lia)⟩;obtain⟨r0,sh⟩:=b.ah j q (by lia) hq;have ck:=(ZC2 hq (by lia) sh G).1 r0;obtain⟨L,ih⟩:=ZGF b hr (s1:=s1) (G:=G) m (j+1) (vZ (.int j)) (by lia) (by lia) (by lia);refine⟨L,?_⟩;have hb:Jx [vZ h.enc,s1,vZ (.int j)] G=.nx [vZ h.enc,s1,vZ (.int j)] G:=by unfold Jx;simp[ck]
   simp only[Di,R.Ib,qD,hb,Ii];have e1:((j:Int)+1)=((j+1:Nat):Int):=by lia
   rw[e1,ih]
theorem ZQR(y1:1<=h.yr)(y2:h.yr<=24)(n1:1<=h.ps.length)(n2:h.ps.length<=12)(g:∀(i:Nat)(q:RP),h.ps[i]?=vZ q->h.rk i q=0/\Sh q)(G:DH):Kl [h.enc] G=.ok h.enc G:=by
 obtain⟨x',hL⟩:=ZGg (h:=h) (s1:=vZ (.tup (h.ps.map RP.enc))) (G:=G) (by lia) h.ps.length 0 vJ (by lia) λi q _ _ hq=>g i q hq
 have hL':Dj (gV 2) Jx (Cr 0 h.ps.length) [vZ h.enc,vZ (.tup (h.ps.map RP.enc)),vJ] G=_:=hL;have m1:(1:Int)<=(h.ps.length:Int):=by lia
 have m2:(h.ps.length:Int)<=12:=by lia
 have hr:inR (h.ps.length:Int):=Hm (by lia) (by lia);have ln:(((h.ps.map RP.enc).length:Nat):Int)=(h.ps.length:Int):=by rw[zZ]
 have h0:∀G,Af h.enc (.int 0) G=.ok (.int h.yr) G:=λG=>Wm
 have h1:∀G,Af h.enc (.int 1) G=.ok (.tup (h.ps.map RP.enc)) G:=λG=>Uk
 have tb:tidy G (.ok h.enc G)=.ok h.enc G:=Bp Wz;generalize h.ps.map RP.enc=PS at*;generalize h.enc=H at*;unfold Kl Vw;rw[Bv];simp[h0,h1,y1,y2,ln,m1,m2,n1,n2,hr,hL',tb]
theorem ZMO{r:Nat}(b:Bad h k r)(hr:r≠0)(G:DH):∃L,Kl [h.enc] G=.err ⟨cls5 r,[("place",.int k)]⟩ (G++L):=by
 have n1:=b.n.1;have n2:=b.n.2;obtain⟨p',hp',_⟩:=b.at_;have hk:=(zX.mp hp').1;obtain⟨L,hL⟩:=ZGF b hr (s1:=vZ (.tup (h.ps.map RP.enc))) (G:=G) h.ps.length 0 vJ (by lia) (by lia) (by lia);have hL':Dj (gV 2) Jx (Cr 0 h.ps.length) [vZ h.enc,vZ (.tup (h.ps.map RP.enc)),vJ] G=_:=hL;have y1:=b.yr.1;have y2:=b.yr.2;have m1:(1:Int)<=(h.ps.length:Int):=by lia
 have m2:(h.ps.length:Int)<=12:=by lia
 have hr':inR (h.ps.length:Int):=Hm (by lia) (by lia);have ln:(((h.ps.map RP.enc).length:Nat):Int)=(h.ps.length:Int):=by rw[zZ]
 have h0:∀G,Af h.enc (.int 0) G=.ok (.int h.yr) G:=λG=>Wm
 have h1:∀G,Af h.enc (.int 1) G=.ok (.tup (h.ps.map RP.enc)) G:=λG=>Uk
 refine⟨L,?_⟩;generalize h.ps.map RP.enc=PS at*;generalize h.enc=H at*;unfold Kl Vw;rw[Bv];simp[h0,h1,y1,y2,ln,m1,m2,n1,n2,hr',hL']
theorem ZNQ(hb:(h.yr<1∨24<h.yr)∨h.ps.length=0∨h.ps.length=13)(G:DH):Kl [h.enc] G=.err ⟨"NoHouse",[]⟩ G:=by
 have ln:(((h.ps.map RP.enc).length:Nat):Int)=(h.ps.length:Int):=by rw[zZ]
 have h0:∀G,Af h.enc (.int 0) G=.ok (.int h.yr) G:=λG=>Wm
 have h1:∀G,Af h.enc (.int 1) G=.ok (.tup (h.ps.map RP.enc)) G:=λG=>Uk
 generalize h.ps.map RP.enc=PS at*;generalize h.enc=H at*;unfold Kl Vw;rw[Bv];by_cases a1:1<=h.yr
 ·by_cases a2:h.yr<=24
  ·rcases(by lia:h.ps.length=0∨h.ps.length=13)with n|n
   ·rw[n]at ln;simp at ln;simp[h0,h1,a1,a2,ln,Oc]
   ·rw[n]at ln;have ln':PS.length=13:=by lia
    simp[h0,h1,a1,a2,ln',Oc]
  ·simp[h0,h1,a1,a2,Oc]
 ·simp[h0,h1,a1,Oc]
theorem ZGb{x:Str}{l:List Str}:Lf (.str x) (.fl (l.map D.str)) G=.ok (.bl (!decide (x∈l))) G:=by
 have h:=Wi (x:=x) (l:=l) (G:=G);unfold Ie at h;unfold Lf;cases e:inD (.str x) (.fl (l.map D.str)) G with
 |none=>rw[e]at h;cases h
 |some b=>
  rw[e]at h;have h':R.ok (D.bl b) G=R.ok (D.bl (decide (x∈l))) G:=h;simp only[R.ok.injEq,D.bl.injEq,and_true]at h';rw[h']
theorem ZJH{G:DH}:∀l:List RP,Cw (gV 0) Cu Yj [vJ] (l.map RP.enc) G=.ok ((l.map RP.nm).map D.str) G
 |[]=>by rw[qA,Q0];rfl
 |p::l=>by
  have he:Yj [vZ p.enc] G=.ok (.str p.nm) G:=by unfold Yj;simp
  have ih:=ZJH (G:=G) l;rw[zz,Jc];simp[he,ih]
theorem ZNb(hp:h.ps[k]?=vZ p)(hn:h.ps.length<=100)(sh:Sh p)(hru:∀b r q,p.kd=.basin b r q->r.length<64)(G:DH):Ug [.tup (h.ps.map RP.enc),.int k,.int h.yr] G=.ok (.int (h.rk k p:Nat)) G:=by
 have hk:k<h.ps.length:=(zX.mp hp).1;have ap:atI (h.ps.map RP.enc) (k:Int)=vZ p.enc:=Ko hp;have mc:=ZJH (G:=G) h.ps;have hcs:∀S:DSt,Bx 1 [] S=[vJ]:=λ_=>rfl
 have c1:cutD ((h.ps.map RP.nm).map D.str) vJ (vZ (k:Int))=(h.A k).map D.str:=by rw[A_eq];exact T9 (by simp;lia)
 have c2:cutD ((h.ps.map RP.nm).map D.str) (vZ ((k:Int)+1)) vJ=(h.B k).map D.str:=by rw[B_eq,show(k:Int)+1=((k+1:Nat):Int) by lia];exact Li (by simp;lia)
 have fzs:∀l:List Str,freeze G (.ok (.ref G.length) (G++[.lst (l.map D.str)]))=.ok (.fl (l.map D.str)) G:=λl=>Ck Ft
 have lA:(h.A k).length<=100:=by unfold RH.A;rw[zZ,qW];lia
 have lB:(h.B k).length<=100:=by unfold RH.B;rw[zZ,qK];lia
 have f0:=fzs (h.ps.map RP.nm);have fA:=fzs (h.A k);have fB:=fzs (h.B k);have fS:=fzs [("sea":Str)];have fBS:=fzs (h.B k++[("sea":Str)]);have fAB:=fzs (h.A k++h.B k);have aBS:Ba (.fl ((h.B k).map D.str)) (.fl (([("sea":Str)].map D.str))) G=.ok (.ref G.length) (G++[.lst ((h.B k++[("sea":Str)]).map D.str)]):=by rw[Gd,if_pos (by simp;lia),zR]
 have aAB:Ba (.fl ((h.A k).map D.str)) (.fl ((h.B k).map D.str)) G=.ok (.ref G.length) (G++[.lst ((h.A k++h.B k).map D.str)]):=by rw[Gd,if_pos (by simp;lia),zR]
 have l0:((h.ps.map RP.nm).map D.str).length<=1000000:=by simp;lia
 have iA:=Wi (x:=p.nm) (l:=h.A k) (G:=G);have iB:=ZGb (x:=p.dn) (l:=h.B k++[("sea":Str)]) (G:=G);have cN:=ZKc (z:=p.nm) sh.nm G;have end_:∀d:D,bel G.length d=vX->∀s:SR,s=.rt d G->Rt [vZ (.tup (h.ps.map RP.enc)),vZ (.int k),vZ (.int h.yr),vJ,vJ,vJ] G=s->Ug [.tup (h.ps.map RP.enc),.int k,.int h.yr] G=.ok d G:=λd hd s e1 e2=>by subst e1;have tb:tidy G (.ok d G)=.ok d G:=Bp hd;unfold Ug;rw[Bv];show tidy G (Rt [vZ (.tup (h.ps.map RP.enc)),vZ (.int k),vZ (.int h.yr),vJ,vJ,vJ] G).ret=_;rw[e2];simp[tb]
 refine end_ _ rfl _ rfl ?_;unfold RH.rk;have s2:Rt [vZ (.tup (h.ps.map RP.enc)),vZ (.int k),vZ (.int h.yr),vJ,vJ,vJ] G=Tw [vZ (.tup (h.ps.map RP.enc)),vZ (.int k),vZ (.int h.yr),vZ p.enc,vZ (.fl ((h.ps.map RP.nm).map D.str)),vJ] G:=by generalize(h.ps.map RP.nm).map D.str=NS at*;generalize h.ps.map RP.enc=PS at*;generalize p.enc=P at*;unfold Rt ZHb;simp[ap,hcs,mc,Bb,l0,f0]
 rw[s2];have e1:∀G,Af p.enc (.int 1) G=.ok (.str p.nm) G:=λG=>renc1
 have e2:∀G,Af p.enc (.int 2) G=.ok (.str p.dn) G:=λG=>renc2
 have e3:∀G,Af p.enc (.int 3) G=.ok (.int p.dl) G:=λG=>renc3
 have eS:(([("sea":Str)].map D.str):List D)=[.str "sea"]:=rfl;rw[eS]at fS aBS;by_cases q1:M6 (h.A k) p=vV
 ·have er:rnk h.yr (h.A k) (h.B k) p=1:=by unfold rnk;rw[if_pos q1]
  rw[er];unfold M6 at q1;generalize(h.ps.map RP.nm).map D.str=NS at*;generalize h.ps.map RP.enc=PS at*;generalize p.enc=P at*;generalize(h.A k).map D.str=AS at*;unfold Tw;cases n:isN p.nm.cps.toList with
  |false=>rw[n]at cN;simp[e1,cN]
  |true=>
   rw[n]at cN q1;have m:p.nm∈h.A k:=by simpa using q1
   rw[decide_eq_true m]at iA;simp[e1,cN,Dp,c1,fA,iA]
 have q1':M6 (h.A k) p=vX:=by simpa using q1
 have s3:Tw [vZ (.tup (h.ps.map RP.enc)),vZ (.int k),vZ (.int h.yr),vZ p.enc,vZ (.fl ((h.ps.map RP.nm).map D.str)),vJ] G=Uy [vZ (.tup (h.ps.map RP.enc)),vZ (.int k),vZ (.int h.yr),vZ p.enc,vZ (.fl ((h.ps.map RP.nm).map D.str)),vJ] G:=by unfold M6 at q1';simp only[zV,Bool.not_eq_true']at q1';rw[q1'.1]at cN;rw[q1'.2]at iA;generalize(h.ps.map RP.nm).map D.str=NS at*;generalize h.ps.map RP.enc=PS at*;generalize p.enc=P at*;generalize(h.A k).map D.str=AS at*;unfold Tw;simp[e1,cN,Dp,c1,fA,iA]
 rw[s3];have mB:decide (p.dn∈h.B k++[("sea":Str)])=(decide (p.dn="sea")||decide (p.dn∈h.B k)):=by by_cases z1:p.dn="sea"<;>by_cases z2:p.dn∈h.B k<;>simp[z1,z2]
 rw[mB]at iB;by_cases q2:M9 (h.B k) p=vV
 ·have er:rnk h.yr (h.A k) (h.B k) p=2:=by unfold rnk;rw[if_neg q1,if_pos q2]
  rw[er];unfold M9 at q2;generalize(decide (p.dn="sea")||decide (p.dn∈h.B k))=DB at*;generalize(h.ps.map RP.nm).map D.str=NS at*;generalize h.ps.map RP.enc=PS at*;generalize p.enc=P at*;generalize(h.B k++[("sea":Str)]).map D.str=BS' at*;generalize(h.B k).map D.str=BS at*;unfold Uy;cases DB with
  |false=>simp[-Gd,e2,Dp,c2,fB,Bb,fS,aBS,fBS,iB]
  | true=>
   by_cases z1:p.dl<0
   ·simp[-Gd,e2,Dp,c2,fB,Bb,fS,aBS,fBS,iB,e3,z1]
   ·have z2:5<p.dl:=by simp at q2;have:=q2 (by lia);lia
    simp[-Gd,e2,Dp,c2,fB,Bb,fS,aBS,fBS,iB,e3,z1,z2]
 have q2':M9 (h.B k) p=vX:=by simpa using q2
 have s4:Uy [vZ (.tup (h.ps.map RP.enc)),vZ (.int k),vZ (.int h.yr),vZ p.enc,vZ (.fl ((h.ps.map RP.nm).map D.str)),vJ] G=Oj [vZ (.tup (h.ps.map RP.enc)),vZ (.int k),vZ (.int h.yr),vZ p.enc,vZ (.fl ((h.ps.map RP.nm).map D.str)),vJ] G:=by
  unfold M9 at q2';rw[zV,zV,decide_eq_true_iff,decide_eq_true_iff]at q2';rw[q2'.1]at iB;have z1:¬p.dl<0:=by lia
  have z2:¬5<p.dl:=by lia
  generalize(h.ps.map RP.nm).map D.str=NS at*;generalize h.ps.map RP.enc=PS at*;generalize p.enc=P at*;generalize(h.B k++[("sea":Str)]).map D.str=BS' at*;generalize(h.B k).map D.str=BS at*;unfold Uy;simp[-Gd,e2,Dp,c2,fB,Bb,fS,aBS,fBS,iB,e3,z1,z2]
 rw[s4];have t1:¬(("basin":Str)="town"):=by decide
 have t2:¬(("mill":Str)="basin"):=by decide
 have t3:¬(("mill":Str)="town"):=by decide
 have t4:¬(("town":Str)="basin"):=by decide
 cases ek:p.kd with
 | town a b=>
  have e0:∀G,Af p.enc (.int 0) G=.ok (.str "town") G:=λG=>by rw[renc0,ek];rfl
  have e4:∀G,Af p.enc (.int 4) G=.ok (.int a) G:=λG=>by simp[RP.enc,RP.row,ek,RK.rest]
  have e5:∀G,Af p.enc (.int 5) G=.ok (.int b) G:=λG=>by simp[RP.enc,RP.row,ek,RK.rest]
  have er:rnk h.yr (h.A k) (h.B k) p=if min a b<0 then 3 else 0:=by
   unfold rnk;rw[if_neg q1,if_neg q2,ek]
   by_cases z:min a b<0<;>simp[Oi,Dh,z]
  rw[er];generalize(h.ps.map RP.nm).map D.str=NS at*;generalize h.ps.map RP.enc=PS at*;generalize p.enc=P at*;unfold Oj Wn;by_cases z1:a<0
  ·rw[if_pos (by lia)];simp[e4,z1]
  ·by_cases z2:b<0
   ·rw[if_pos (by lia)];simp[e4,z1,e0,e5,z2]
   ·rw[if_neg (by lia)];simp[e4,z1,e0,e5,z2,t4]
 | mill a=>
  have e0:∀G,Af p.enc (.int 0) G=.ok (.str "mill") G:=λG=>by rw[renc0,ek];rfl
  have e4:∀G,Af p.enc (.int 4) G=.ok (.int a) G:=λG=>by simp[RP.enc,RP.row,ek,RK.rest]
  have er:rnk h.yr (h.A k) (h.B k) p=if a<0 then 3 else 0:=by
   unfold rnk;rw[if_neg q1,if_neg q2,ek]
   by_cases z:a<0<;>simp[Oi,Dh,z]
  rw[er];generalize(h.ps.map RP.nm).map D.str=NS at*;generalize h.ps.map RP.enc=PS at*;generalize p.enc=P at*;unfold Oj Wn;by_cases z1:a<0
  ·rw[if_pos z1];simp[e4,z1]
  ·rw[if_neg z1];simp[e4,z1,e0,t2,t3]
 | basin b r q=>
  have e0:∀G,Af p.enc (.int 0) G=.ok (.str "basin") G:=λG=>by rw[renc0,ek];rfl
  have e4:∀G,Af p.enc (.int 4) G=.ok (.int b) G:=λG=>by simp[RP.enc,RP.row,ek,RK.rest]
  have e5:∀G,Af p.enc (.int 5) G=.ok (.tup (r.map Aq)) G:=λG=>by simp[RP.enc,RP.row,ek,RK.rest]
  have e6:∀G,Af p.enc (.int 6) G=.ok (pmD q) G:=λG=>by simp[RP.enc,RP.row,ek,RK.rest]
  have cR:=ZQb (yr:=h.yr) (r:=r) (q:=q) (hru b r q ek) (sh.ru b r q ek) G;have er:rnk h.yr (h.A k) (h.B k) p=if(Dh (.basin b r q)).2.foldl min (Dh (.basin b r q)).1<0 then 3 else if Ky (h.A k++h.B k) q=vV then 4 else if Ig h.yr r q=vV then 5 else 0:=by
   unfold rnk;rw[if_neg q1,if_neg q2,ek]
   by_cases z:(Dh (.basin b r q)).2.foldl min (Dh (.basin b r q)).1<0<;>simp[Oi,z]
  rw[er];by_cases z1:b<0
  ·have:(Dh (.basin b r q)).2.foldl min (Dh (.basin b r q)).1<0:=by
    rcases q with _|⟨t,d,m⟩
    ·exact z1
    ·show min b m<0;lia
   rw[if_pos this];generalize(h.ps.map RP.nm).map D.str=NS at*;generalize h.ps.map RP.enc=PS at*;generalize p.enc=P at*;unfold Oj;simp[e4,z1]
  have s7:Oj [vZ (.tup (h.ps.map RP.enc)),vZ (.int k),vZ (.int h.yr),vZ p.enc,vZ (.fl ((h.ps.map RP.nm).map D.str)),vJ] G=Pz [vZ (.tup (h.ps.map RP.enc)),vZ (.int k),vZ (.int h.yr),vZ p.enc,vZ (.fl ((h.ps.map RP.nm).map D.str)),vZ (pmD q)] G:=by generalize(h.ps.map RP.nm).map D.str=NS at*;generalize h.ps.map RP.enc=PS at*;generalize p.enc=P at*;generalize pmD q=PQ at*;unfold Oj Wn ZHQ;simp[e4,z1,e0,t1,e6]
  rw[s7];have s11:ZEi [vZ (.tup (h.ps.map RP.enc)),vZ (.int k),vZ (.int h.yr),vZ p.enc,vZ (.fl ((h.ps.map RP.nm).map D.str)),vZ (pmD q)] G=.rt (.int ((if Ig h.yr r q=vV then 5 else 0:Nat):Nat)) G:=by
   generalize(h.ps.map RP.nm).map D.str=NS at*;generalize h.ps.map RP.enc=PS at*;generalize p.enc=P at*;generalize pmD q=PQ at*;generalize r.map Aq=RR at*;unfold ZEi ZJF
   cases ok:Ig h.yr r q<;>rw[ok]at cR<;>simp[e5,cR]
  rcases q with _|⟨t,d,m⟩
  ·have nn:¬(Dh (.basin b r vJ)).2.foldl min (Dh (.basin b r vJ)).1<0:=z1;rw[if_neg nn,if_neg (by simp[Ky]),<-s11];generalize(h.ps.map RP.nm).map D.str=NS at*;generalize h.ps.map RP.enc=PS at*;generalize p.enc=P at*;unfold Pz Qh Ut;simp[pmD,Cq]
  ·have iP:=ZGb (x:=t) (l:=h.A k++h.B k) (G:=G);have ep:Ky (h.A k++h.B k) (vZ (t,d,m))=(decide (t∈h.A k++h.B k)&&(decide (1<=d)&&decide (d<=5))):=rfl;have en:(Dh (.basin b r (vZ (t,d,m)))).2.foldl min (Dh (.basin b r (vZ (t,d,m)))).1=min b m:=rfl;have pE:pmD (vZ (t,d,m))=.tup [.str t,.int d,.int m]:=rfl;rw[ep,en];rw[pE]at s11⊢;clear cR s7 e6 er;generalize(h.ps.map RP.nm).map D.str=NS at*
   generalize h.ps.map RP.enc=PS at*;generalize p.enc=P at*;generalize decide (t∈h.A k++h.B k)=DT at*;generalize(h.A k++h.B k).map D.str=ABS at*;generalize(h.A k).map D.str=AS at*;generalize(h.B k).map D.str=BS at*;by_cases z2:m<0
   ·rw[if_pos (by lia)];unfold Pz;simp[Cq,z2]
   rw[if_neg (by lia)];have s8:Pz [vZ (.tup PS),vZ (.int k),vZ (.int h.yr),vZ P,vZ (.fl NS),vZ (.tup [.str t,.int d,.int m])] G=Qh [vZ (.tup PS),vZ (.int k),vZ (.int h.yr),vZ P,vZ (.fl NS),vZ (.tup [.str t,.int d,.int m])] G:=by unfold Pz;simp[Cq,z2]
   rw[s8];cases DT with
   |false=>
    unfold Qh;simp[-Gd,Cq,Dp,c1,fA,c2,fB,aAB,fAB,iP]
   | true=>
    have s9:Qh [vZ (.tup PS),vZ (.int k),vZ (.int h.yr),vZ P,vZ (.fl NS),vZ (.tup [.str t,.int d,.int m])] G=Ut [vZ (.tup PS),vZ (.int k),vZ (.int h.yr),vZ P,vZ (.fl NS),vZ (.tup [.str t,.int d,.int m])] G:=by unfold Qh;simp[-Gd,Cq,Dp,c1,fA,c2,fB,aAB,fAB,iP]
    rw[s9];by_cases z3:1<=d/\d<=5
    ·rw[if_neg (by simp[z3.1,z3.2]),<-s11];have z4:¬d<1:=by lia
     have z5:¬5<d:=by lia
     unfold Ut;simp[Cq,z4,z5]
    ·rw[if_pos (by rw[Bool.true_and,<-jK,zV,decide_eq_true_iff,decide_eq_true_iff];exact z3)]
     unfold Ut;by_cases z4:d<1
     ·simp[Cq,z4]
     ·have z5:5<d:=by lia
      simp[Cq,z4,z5]
theorem ZPP(sh:Hs4 t h)(hp:h.ps[k]?=vZ p)(hz:z.length<=2*nb t+8∨z∈(h.ps.take k).map RP.nm){q:RP}(hi:(h.ps.set k {p with nm:=z})[i]?=vZ q):Ps4 (t+1) q:=by
 have hk:=(zX.mp hp).1;by_cases e:k=i
 ·subst e;rw[qI hk]at hi;cases hi;exact⟨ZHN sh hz,(sh k p hp).up.ru⟩
 ·rw[qk e]at hi;exact(sh i q hi).up
theorem ZJt(ht:t<=4)(sh:Hs4 t h)(n1:1<=h.ps.length)(n2:h.ps.length<=12){x0 x1 x2:Int}{b:Bool}{H:D}(hH:H=.non∨∃k:Nat,k<h.ps.length/\H=.int k)(G:DH):
  ∃h',Sp4 (t+1) h h'/\freeze G (Pu [h.enc,.fl [.int x0,.int x1,.int x2],.bl b,H] G)=.ok h'.enc G:=by
 have eH:h.enc=.tup [.int h.yr,.tup (h.ps.map RP.enc)]:=rfl;have ln:(((h.ps.map RP.enc).length:Nat):Int)=(h.ps.length:Int):=by rw[zZ]
 have nz:(0:Int)<(h.ps.length:Int):=by lia
 have nz':0<h.ps.length:=by lia
 have i0:atI ([.int x0,.int x1,.int x2]:List D) 0=vZ (.int x0):=rfl;have i1:atI ([.int x0,.int x1,.int x2]:List D) 1=vZ (.int x1):=rfl;have i2:atI ([.int x0,.int x1,.int x2]:List D) 2=vZ (.int x2):=rfl;obtain⟨k,x,hk,s4⟩:∃(k:Nat)(x:Int),k<h.ps.length/\Ue [vZ h.enc,vZ (.fl [.int x0,.int x1,.int x2]),vZ (.bl b),vZ H,vJ,vJ,vJ,vJ,vJ,vJ] G=Vn [vZ h.enc,vZ (.fl [.int x0,.int x1,.int x2]),vZ (.bl b),vZ H,vZ (.int h.yr),vZ (.tup (h.ps.map RP.enc)),vZ (.int k),vZ (.int x),vJ,vJ] G:=by
  obtain⟨k,hk,ek⟩:∃k:Nat,k<h.ps.length/\(k:Int)=x0%(h.ps.length:Int):=by have a:=zF x0 (show(h.ps.length:Int)≠0 by lia);have b:=zE x0 nz;exact⟨(x0%(h.ps.length:Int)).toNat,by lia,by lia⟩
  rcases hH with rfl|⟨k2,hk2,rfl⟩
  ·refine⟨k,x1,hk,?_⟩;rw[eH];generalize h.ps.map RP.enc=PS at*;unfold Ue ZBy ZBs ZB1;simp[i0,i1,ln,nz,nz',<-ek,Cq]
  ·obtain⟨v,ev⟩:∃v:Int,atI ([.int 3,.int 4,.int 3,.int 4,.int 3,.int 5,.int 2,.int 1,.int 0]:List D) (x1%9)=vZ (.int v):=by
    obtain⟨m,hm,em⟩:∃m:Nat,m<9/\(m:Int)=x1%9:=⟨(x1%9).toNat,by lia,by lia⟩;rcases(by lia:m=0∨m=1∨m=2∨m=3∨m=4∨m=5∨m=6∨m=7∨m=8)with rfl|rfl|rfl|rfl|rfl|rfl|rfl|rfl|rfl
    all_goals exact⟨_,pick em rfl⟩
   refine⟨k2,v,hk2,?_⟩;have fl:freeze G (.ok (.ref G.length) (G++[.lst [.int 3,.int 4,.int 3,.int 4,.int 3,.int 5,.int 2,.int 1,.int 0]]))=.ok (.fl [.int 3,.int 4,.int 3,.int 4,.int 3,.int 5,.int 2,.int 1,.int 0]) G:=Ck rfl;rw[eH];generalize h.ps.map RP.enc=PS at*;unfold Ue ZBy ZBs ZB1;simp[i0,i1,ln,nz,nz',Cq,Bb,fl,ev]
 obtain⟨p,hp⟩:∃p,h.ps[k]?=vZ p:=⟨_,zQ hk⟩;have ap:=Ko hp;obtain⟨r,q1,q5,r5,r4,cr⟩:=ZKh (p:=p) (x:=x);have fr:freeze G (.ok (.int r) G)=.ok (.int r) G:=Fw rfl;have cr':=cr G;have s5:Vn [vZ h.enc,vZ (.fl [.int x0,.int x1,.int x2]),vZ (.bl b),vZ H,vZ (.int h.yr),vZ (.tup (h.ps.map RP.enc)),vZ (.int k),vZ (.int x),vJ,vJ] G=Ub [vZ h.enc,vZ (.fl [.int x0,.int x1,.int x2]),vZ (.bl b),vZ H,vZ (.int h.yr),vZ (.tup (h.ps.map RP.enc)),vZ (.int k),vZ (.int x),vZ (.int r),vJ] G:=by
  generalize h.ps.map RP.enc=PS at*;generalize h.enc=HE at*;generalize p.enc=P at*;unfold Vn;simp[ap,cr',fr]
 have close:∀h':RH,Ub [vZ h.enc,vZ (.fl [.int x0,.int x1,.int x2]),vZ (.bl b),vZ H,vZ (.int h.yr),vZ (.tup (h.ps.map RP.enc)),vZ (.int k),vZ (.int x),vZ (.int r),vJ] G=.rt h'.enc G->freeze G (Pu [h.enc,.fl [.int x0,.int x1,.int x2],.bl b,H] G)=.ok h'.enc G:=λh' e=>by
  have tb:tidy G (.ok h'.enc G)=.ok h'.enc G:=Bp Wz;have fz:freeze G (.ok h'.enc G)=.ok h'.enc G:=Fw Wz;have:Pu [h.enc,.fl [.int x0,.int x1,.int x2],.bl b,H] G=.ok h'.enc G:=by unfold Pu;rw[Bv];show tidy G (Ue [vZ h.enc,vZ (.fl [.int x0,.int x1,.int x2]),vZ (.bl b),vZ H,vJ,vJ,vJ,vJ,vJ,vJ] G).ret=_;rw[s4,s5,e];generalize h'.enc=E at*;simp[tb]
  rw[this,fz]
 by_cases c1:r=1/\b=vV
 ·obtain⟨c1,c2⟩:=c1;subst c1;subst c2;obtain⟨l,el⟩:=ZHL p.nm;have l8:l.length<=nb t:=by have:=(sh k p hp).nm;rw[el,Nh]at this;exact this
  obtain⟨z,hz,cz⟩:=ZIM hp (by lia) el (nb4 ht) l8 (x:=x2);refine⟨⟨h.yr,h.ps.set k {p with nm:=z}⟩,⟨rfl,by simp,λi q hi=>ZPP sh hp hz hi⟩,close _ ?_⟩;have rl:=Py (p:=p);have cp:=Hy (p:=p) (q:={p with nm:=z}) (j:=1) (d:=.str z) (by lia) (λ_=>rfl) rfl G;have cp':Ci [p.enc,.int 1,.str z] G=.ok (RP.enc {p with nm:=z}) G:=cp;have f1:freeze G (.ok (RP.enc {p with nm:=z}) G)=.ok (RP.enc {p with nm:=z}) G:=Fw Jz
  have cq:Ci [.tup (h.ps.map RP.enc),.int k,RP.enc {p with nm:=z}] G=.ok (.tup ((h.ps.map RP.enc).set k (RP.enc {p with nm:=z}))) G:=Ow (by rw[zZ];exact hk) (by rw[zZ];lia) Kz Jz;have bs:bels G.length ((h.ps.map RP.enc).set k (RP.enc {p with nm:=z}))=vX:=by rw[<-jy];exact Kz
  have f2:=J1 (G:=G) bs;have cz':=cz G;have e2:RH.enc ⟨h.yr,h.ps.set k {p with nm:=z}⟩=.tup [.int h.yr,.tup ((h.ps.map RP.enc).set k (RP.enc {p with nm:=z}))]:=by unfold RH.enc;rw[jy]
  rw[e2];generalize(h.ps.map RP.enc).set k (RP.enc {p with nm:=z})=Z at*;generalize RP.enc {p with nm:=z}=P' at*;generalize h.ps.map RP.enc=PS at*;generalize h.enc=HE at*;generalize p.enc=P at*;unfold Ub;simp[i2,cz',K1,ap,cp',f1,cq,f2,Bl]
 ·obtain⟨h',sp,cs⟩:=ZQy hp n2 (x:=x2) (r:=r) (by lia) q5 r5 r4 ht sh G;refine⟨h',sp,close _ ?_⟩;generalize h'.enc=E' at*;generalize h.ps.map RP.enc=PS at*;generalize h.enc=HE at*;unfold Ub ZGH;by_cases r1:r=1
  ·have hb:b=vX:=by
    cases b with
    |true=>rfl
    |false=>exact absurd ⟨r1,rfl⟩ c1
   subst hb;subst r1;have cs':Om [HE,.int k,.int 1,.int x2] G=.ok E' G:=cs;simp[i2,cs']
  ·have r1':¬(r:Int)=1:=by lia
   simp[r1,r1',i2,cs]
theorem ZMv{A B:List Str}:rnk yr A B p<=5:=by
 unfold rnk;split
 ·lia
 ·split
  ·lia
  ·split
   ·lia
   ·split
    ·split
     ·lia
     ·split <;> lia
    ·lia
structure Sh4 (p:RP):Prop where
 sh:Sh p
 ru:∀b r q,p.kd=.basin b r q->r.length<64
theorem ZIr(y:1<=h.yr/\h.yr<=24)(n:1<=h.ps.length/\h.ps.length<=12)(sh:∀(i:Nat)(q:RP),h.ps[i]?=vZ q->Sh4 q){s0:Option D}{G:DH}:∀(m j:Nat)(x3 x4:Option D),j+m=h.ps.length->(∀(i:Nat)(q:RP),i<j->h.ps[i]?=vZ q->h.rk i q=0)->
  ((∀(i:Nat)(q:RP),h.ps[i]?=vZ q->h.rk i q=0)/\∃S,Dj (gV 3) Ly (Cr j m) [s0,vZ (.int h.yr),vZ (.tup (h.ps.map RP.enc)),x3,x4] G=.nx S G)∨
  (∃k r:Nat,Bad h k r/\r≠0/\r<=5/\Dj (gV 3) Ly (Cr j m) [s0,vZ (.int h.yr),vZ (.tup (h.ps.map RP.enc)),x3,x4] G=.rt (.tup [.int r,.int k]) G)
 |0,j,x3,x4,e,hz=>.inl ⟨λi q hq=>hz i q (by have:=(zX.mp hq).1;lia) hq,_,by rw[Jo,Im]⟩
 | m+1,j,x3,x4,e,hz=>by
  obtain⟨q,hq⟩:∃q,h.ps[j]?=vZ q:=⟨_,zQ (by lia)⟩;have c:=ZNb hq (by lia) (sh j q hq).sh (sh j q hq).ru G;have e1:((j:Int)+1)=((j+1:Nat):Int):=by lia
  rw[Iv,Gn,e1];by_cases z:h.rk j q=0
  ·have hb:Ly [s0,vZ (.int h.yr),vZ (.tup (h.ps.map RP.enc)),vZ (.int j),x4] G=.nx [s0,vZ (.int h.yr),vZ (.tup (h.ps.map RP.enc)),vZ (.int j),vZ (.int 0)] G:=by rw[z]at c;generalize h.ps.map RP.enc=PS at*;unfold Ly;simp at c;simp[c]
   rcases ZIr y n sh (s0:=s0) (G:=G) m (j+1) (vZ (.int j)) (vZ (.int 0)) (by lia) (λi q' hi hq'=>by
    by_cases ei:i=j
    ·subst ei;rw[hq]at hq';cases hq';exact z
    ·exact hz i q' (by lia) hq')with⟨a,S,ih⟩|⟨k,r,a1,a2,a3,ih⟩
   ·refine .inl ⟨a,S,?_⟩;generalize h.ps.map RP.enc=PS at*;simp only[Di,R.Ib,qD,hb,Ii,ih]
   ·refine .inr ⟨k,r,a1,a2,a3,?_⟩;generalize h.ps.map RP.enc=PS at*;simp only[Di,R.Ib,qD,hb,Ii,ih]
  ·refine .inr ⟨j,h.rk j q,⟨y,n,λi q' hi hq'=>⟨hz i q' hi hq',(sh i q' hq').sh⟩,q,hq,rfl,(sh j q hq).sh⟩,z,ZMv,?_⟩;have z':(0:Int)<((h.rk j q:Nat):Int):=by lia
   have z2:0<h.rk j q:=by lia
   generalize h.rk j q=R0 at*;generalize h.ps.map RP.enc=PS at*;have hb:Ly [s0,vZ (.int h.yr),vZ (.tup PS),vZ (.int j),x4] G=.rt (.tup [.int R0,.int j]) G:=by unfold Ly;simp[c,z',z2,Bl]
   simp[hb]
theorem ZLH(hb:(h.yr<1∨24<h.yr)∨h.ps.length=0)(G:DH):N5 [h.enc] G=.ok (.tup [.int 0,.int 0]) G:=by
 have ln:(((h.ps.map RP.enc).length:Nat):Int)=(h.ps.length:Int):=by rw[zZ]
 rw[show h.enc=.tup [.int h.yr,.tup (h.ps.map RP.enc)]from rfl]
 have tb:tidy G (.ok (.tup [.int 0,.int 0]) G)=.ok (.tup [.int 0,.int 0]) G:=Bp rfl;generalize h.ps.map RP.enc=PS at*;unfold N5 Ze;rw[Bv];by_cases a1:h.yr<1
 ·simp[a1,Bl,tb]
 ·by_cases a2:24<h.yr
  ·simp[a1,a2,Bl,tb]
  ·have n:h.ps.length=0:=by lia
   rw[n]at ln;simp at ln;simp[a1,a2,ln,Bl,tb]
theorem ZOW(y:1<=h.yr/\h.yr<=24)(n:1<=h.ps.length/\h.ps.length<=12)(sh:∀(i:Nat)(q:RP),h.ps[i]?=vZ q->Sh4 q)(G:DH):
  ((∀(i:Nat)(q:RP),h.ps[i]?=vZ q->h.rk i q=0)/\N5 [h.enc] G=.ok .non G)∨(∃k r:Nat,Bad h k r/\r≠0/\r<=5/\N5 [h.enc] G=.ok (.tup [.int r,.int k]) G):=by
 have ln:(((h.ps.map RP.enc).length:Nat):Int)=(h.ps.length:Int):=by rw[zZ]
 have hr:inR (h.ps.length:Int):=Hm (by lia) (by lia);have a1:¬h.yr<1:=by lia
 have a2:¬24<h.yr:=by lia
 have a3:¬(h.ps.length:Int)=0:=by lia
 have a3':¬h.ps.length=0:=by lia
 have a4:¬h.ps.map RP.enc=[]:=λz=>by rw[z]at ln;simp at ln;lia
 have L:=ZIr y n sh (s0:=vZ h.enc) (G:=G) h.ps.length 0 vJ vJ (by lia) λi q hi _=>by lia
 rw[show h.enc=.tup [.int h.yr,.tup (h.ps.map RP.enc)]from rfl]at*
 have tb:∀r k:Nat,tidy G (.ok (.tup [.int r,.int k]) G)=.ok (.tup [.int r,.int k]) G:=λr k=>Bp rfl
 rcases L with⟨b1,S,b2⟩|⟨k,r,b1,b3,b4,b2⟩
 ·refine .inl ⟨b1,?_⟩;generalize h.ps.map RP.enc=PS at*;have b2':Dj (gV 3) Ly (Cr 0 h.ps.length) [vZ (.tup [.int h.yr,.tup PS]),vZ (.int h.yr),vZ (.tup PS),vJ,vJ] G=.nx S G:=b2;unfold N5 Ze;rw[Bv];simp[a1,a2,ln,a3,a3',a4,hr,b2',Bp]
 ·refine .inr ⟨k,r,b1,b3,b4,?_⟩;generalize h.ps.map RP.enc=PS at*;have b2':Dj (gV 3) Ly (Cr 0 h.ps.length) [vZ (.tup [.int h.yr,.tup PS]),vZ (.int h.yr),vZ (.tup PS),vJ,vJ] G=_:=b2;unfold N5 Ze;rw[Bv];simp[a1,a2,ln,a3,a3',a4,hr,b2',tb]
theorem Mp{tb:List (Str×Bool)}{c:Str}{fs:List (Str×D)}{b:Bool}(h:G[i]?=vZ (.exc c fs))(hb:tb.lookup c=vZ b):isx tb (.ref i) G=.ok (.bl b) G:=by unfold isx;simp only[h,hb]
theorem ZIv{r:Nat}{G:DH}:∀(m i:Nat),Cw (gV 0) Cu Uw [vJ,vZ (.int r)] (Cr i m) G=.ok ((qX i m).map λj=>.bl (decide (j=r))) G
 |0,i=>by rw[Jo,Q0];rfl
 | m+1,i=>by
  have ih:=ZIv (r:=r) (G:=G) m (i+1);have he:Uw [vZ (.int i),vZ (.int r)] G=.ok (.bl (decide (i=r))) G:=by
   unfold Uw;by_cases e:i=r
   ·simp[e]
   ·have:¬(i:Int)=(r:Int):=by lia
    simp[e,this]
  have e1:((i:Int)+1)=((i+1:Nat):Int):=by lia
  rw[Iv,Jc];simp only[Di,R.ZAb,qD,ZMp,if_true,he];rw[e1,ih]
  rfl
theorem ZKd{i:Int}(G:DH):Y0 [.int i] G=.ok (.bl vX) G:=by unfold Y0 ZIZ;rw[Bv];simp[tyD,Bp]
theorem ZHS{n:Nat}:∀xs:List Bool,eqZ (eqD (n+1) G) (xs.map D.bl) (xs.map D.bl)=vZ vX
 |[]=>rfl
 |x::xs=>by
  have e:eqD (n+1) G (.bl x) (.bl x)=vZ vX:=by cases x<;>rfl
  simp[eqZ,e,ZHS xs]
theorem ZMw{n:Nat}(xs:List Bool):eqD (n+2) G (.fl (xs.map D.bl)) (.fl (xs.map D.bl))=vZ vX:=by show(if(xs.map D.bl).length=(xs.map D.bl).length then eqZ (eqD (n+1) G) (xs.map D.bl) (xs.map D.bl)else vZ vV)=vZ vX;rw[if_pos rfl,ZHS]
def cls6:Nat->Str
 |0=>"NoHouse"
 |r=>cls5 r
noncomputable def fs6(k:Nat):Nat->List (Str×D)
 |0=>[]
 |_=>[("place",.int k)]
theorem ZFo{H:D}{r:Nat}(hr:r<=5)(he:∃L,Kl [H] G=.err ⟨cls6 r,fs6 k r⟩ (G++L)):Rx [H,.int r,.int k] G=.ok (.bl vX) G:=by
 obtain⟨L,he⟩:=he;have g0:(G++L++[DO.exc (cls6 r) (fs6 k r)])[(G++L).length]?=vZ (.exc (cls6 r) (fs6 k r)):=by simp
 have td:tidy G (.ok (.bl vX) (G++L++[DO.exc (cls6 r) (fs6 k r)]))=.ok (.bl vX) G:=by rw[qR];exact R8 rfl
 have cmp:=ZIv (r:=r) (G:=G++L++[DO.exc (cls6 r) (fs6 k r)]) 13 0;have hr13:inR (13:Int):=Hm (by lia) (by lia);have hcs:∀a b c d e f:Option D,Bx 1 [1] [a,b,c,d,e,f]=[vJ,b]:=λ_ _ _ _ _ _=>rfl
 have nes:∀(xs:List Bool)(G:DH),Ff (.fl (xs.map D.bl)) (.fl (xs.map D.bl)) G=.ok (.bl vV) G:=λxs G=>by
  unfold Ff
  rw[show eqD 30 G (.fl (xs.map D.bl)) (.fl (xs.map D.bl))=vZ vX from ZMw xs]
  rfl
 have hf:∀(Γ:DH)(ds:List D),bels Γ.length ds=vX->freeze Γ (.ok (.ref Γ.length) (Γ++[.lst ds]))=.ok (.fl ds) Γ:=λΓ ds h=>Ck h
 have cm:cls6 r∈(["NoHouse","NoName","NoNumber","NoPump","NoRiver","NoRule"]:List Str):=by rcases(by lia:r=0∨r=1∨r=2∨r=3∨r=4∨r=5)with rfl|rfl|rfl|rfl|rfl|rfl<;>simp[cls6,cls5]
 generalize hΓ0:G++L=Γ0 at*;generalize hΓ:Γ0++[DO.exc (cls6 r) (fs6 k r)]=Γ at*;have tA:=Mp (tb:=[("NoHouse",vX),("NoName",vX),("NoNumber",vX),("NoPump",vX),("NoRiver",vX),("NoRule",vX)]) (b:=vX) g0 (by rcases(by lia:r=0∨r=1∨r=2∨r=3∨r=4∨r=5)with rfl|rfl|rfl|rfl|rfl|rfl<;>rfl)
 have tN:=Mp (tb:=[("NoHouse",vV),("NoName",vV),("NoNumber",vV),("NoPump",vV),("NoRiver",vV),("NoRule",vV)]) (b:=vV) g0 (by rcases(by lia:r=0∨r=1∨r=2∨r=3∨r=4∨r=5)with rfl|rfl|rfl|rfl|rfl|rfl<;>rfl)
 have t0:=Mp (tb:=[("NoHouse",vX),("NoName",vV),("NoNumber",vV),("NoPump",vV),("NoRiver",vV),("NoRule",vV)]) (b:=decide (0=r)) g0 (by rcases(by lia:r=0∨r=1∨r=2∨r=3∨r=4∨r=5)with rfl|rfl|rfl|rfl|rfl|rfl<;>rfl)
 have t1:=Mp (tb:=[("NoHouse",vV),("NoName",vX),("NoNumber",vV),("NoPump",vV),("NoRiver",vV),("NoRule",vV)]) (b:=decide (1=r)) g0 (by rcases(by lia:r=0∨r=1∨r=2∨r=3∨r=4∨r=5)with rfl|rfl|rfl|rfl|rfl|rfl<;>rfl)
 have t2:=Mp (tb:=[("NoHouse",vV),("NoName",vV),("NoNumber",vV),("NoPump",vV),("NoRiver",vX),("NoRule",vV)]) (b:=decide (2=r)) g0 (by rcases(by lia:r=0∨r=1∨r=2∨r=3∨r=4∨r=5)with rfl|rfl|rfl|rfl|rfl|rfl<;>rfl)
 have t3:=Mp (tb:=[("NoHouse",vV),("NoName",vV),("NoNumber",vX),("NoPump",vV),("NoRiver",vV),("NoRule",vV)]) (b:=decide (3=r)) g0 (by rcases(by lia:r=0∨r=1∨r=2∨r=3∨r=4∨r=5)with rfl|rfl|rfl|rfl|rfl|rfl<;>rfl)
 have t4:=Mp (tb:=[("NoHouse",vV),("NoName",vV),("NoNumber",vV),("NoPump",vX),("NoRiver",vV),("NoRule",vV)]) (b:=decide (4=r)) g0 (by rcases(by lia:r=0∨r=1∨r=2∨r=3∨r=4∨r=5)with rfl|rfl|rfl|rfl|rfl|rfl<;>rfl)
 have t5:=Mp (tb:=[("NoHouse",vV),("NoName",vV),("NoNumber",vV),("NoPump",vV),("NoRiver",vV),("NoRule",vX)]) (b:=decide (5=r)) g0 (by rcases(by lia:r=0∨r=1∨r=2∨r=3∨r=4∨r=5)with rfl|rfl|rfl|rfl|rfl|rfl<;>rfl)
 have start:ZDz [vZ H,vZ (.int r),vZ (.int k),vJ,vJ,vJ] G=Wa [vZ H,vZ (.int r),vZ (.int k),vZ (.ref Γ0.length),vJ,vJ] Γ:=by unfold ZDz ZIN ZFi ZHZ;simp[Tn,dTc,he,Sq,cm,hΓ,unnm,tA]
 unfold Rx;rw[Bv]
 rw[show([H,.int r,.int k].map vZ++zk 3 vJ)=[vZ H,vZ (.int (r:Int)),vZ (.int (k:Int)),vJ,vJ,vJ]from rfl,start]
 have s3:Wa [vZ H,vZ (.int r),vZ (.int k),vZ (.ref Γ0.length),vJ,vJ] Γ=Xd [vZ H,vZ (.int r),vZ (.int k),vZ (.ref Γ0.length),vJ,vZ (.fl ([decide (0=r),decide (1=r),decide (2=r)].map D.bl))] Γ:=by unfold Wa;simp[t0,t1,t2,Bb,hf,bels]
 have s4:Xd [vZ H,vZ (.int r),vZ (.int k),vZ (.ref Γ0.length),vJ,vZ (.fl ([decide (0=r),decide (1=r),decide (2=r)].map D.bl))] Γ=Z7 [vZ H,vZ (.int r),vZ (.int k),vZ (.ref Γ0.length),vJ,vZ (.fl ([decide (0=r),decide (1=r),decide (2=r),decide (3=r),decide (4=r),decide (5=r)].map D.bl))] Γ:=by unfold Xd;simp[t3,t4,t5,tN,Bb,hf,bels]
 have s5:Z7 [vZ H,vZ (.int r),vZ (.int k),vZ (.ref Γ0.length),vJ,vZ (.fl ([decide (0=r),decide (1=r),decide (2=r),decide (3=r),decide (4=r),decide (5=r)].map D.bl))] Γ=ZAM [vZ H,vZ (.int r),vZ (.int k),vZ (.ref Γ0.length),vJ,vZ (.fl ([decide (0=r),decide (1=r),decide (2=r),decide (3=r),decide (4=r),decide (5=r),vV,vV,vV].map D.bl))] Γ:=by unfold Z7;simp[t3,t4,t5,tN,Bb,hf,bels]
 have s6:ZAM [vZ H,vZ (.int r),vZ (.int k),vZ (.ref Γ0.length),vJ,vZ (.fl ([decide (0=r),decide (1=r),decide (2=r),decide (3=r),decide (4=r),decide (5=r),vV,vV,vV].map D.bl))] Γ=Yn [vZ H,vZ (.int r),vZ (.int k),vZ (.ref Γ0.length),vJ,vZ (.fl ([decide (0=r),decide (1=r),decide (2=r),decide (3=r),decide (4=r),decide (5=r),vV,vV,vV,vV,vV,vV].map D.bl))] Γ:=by unfold ZAM;simp[t3,t4,t5,tN,Bb,hf,bels]
 have s7:Yn [vZ H,vZ (.int r),vZ (.int k),vZ (.ref Γ0.length),vJ,vZ (.fl ([decide (0=r),decide (1=r),decide (2=r),decide (3=r),decide (4=r),decide (5=r),vV,vV,vV,vV,vV,vV].map D.bl))] Γ=W8 [vZ H,vZ (.int r),vZ (.int k),vZ (.ref Γ0.length),vJ,vZ (.fl ([decide (0=r),decide (1=r),decide (2=r),decide (3=r),decide (4=r),decide (5=r),vV,vV,vV,vV,vV,vV,vV].map D.bl))] Γ:=by unfold Yn;simp[t3,t4,t5,tN,Bb,hf,bels]
 have cl:(qX 0 13).map (λj=>D.bl (decide (j=r)))=[decide (0=r),decide (1=r),decide (2=r),decide (3=r),decide (4=r),decide (5=r),vV,vV,vV,vV,vV,vV,vV].map D.bl:=by
  have n6:∀j,6<=j->decide (j=r)=vV:=λj hj=>decide_eq_false (by lia)
  simp[List.range'_succ,n6]
 rw[cl]at cmp;have bb:bels Γ.length ([decide (0=r),decide (1=r),decide (2=r),decide (3=r),decide (4=r),decide (5=r),vV,vV,vV,vV,vV,vV,vV].map D.bl)=vX:=rfl;rw[s3,s4,s5,s6,s7];have ne0:=nes [decide (0=r),decide (1=r),decide (2=r),decide (3=r),decide (4=r),decide (5=r),vV,vV,vV,vV,vV,vV,vV] Γ;have hf0:=hf Γ _ bb;have bl:([decide (0=r),decide (1=r),decide (2=r),decide (3=r),decide (4=r),decide (5=r),vV,vV,vV,vV,vV,vV,vV].map D.bl).length<=1000000:=by simp
 generalize[decide (0=r),decide (1=r),decide (2=r),decide (3=r),decide (4=r),decide (5=r),vV,vV,vV,vV,vV,vV,vV].map D.bl=BL at*;have s8:W8 [vZ H,vZ (.int r),vZ (.int k),vZ (.ref Γ0.length),vJ,vZ (.fl BL)] Γ=ZET [vZ H,vZ (.int r),vZ (.int k),vZ (.ref Γ0.length),vJ,vZ (.fl BL)] Γ:=by unfold W8;have cmp':Cw (gV 0) Cu Uw [vJ,vZ (.int r)] (Cr 0 13) Γ=.ok BL Γ:=cmp;simp[hr13,hcs,cmp',hf0,ne0,Bb,bl]
 rw[s8];unfold ZET;cases r with
 |zero=>simp[td]
 | succ r=>
  have gp:gtx ["NoName","NoNumber","NoPump","NoRiver","NoRule"] "place" (.ref Γ0.length) Γ=.ok (.int k) Γ:=by
   unfold gtx
   rcases(by lia:r=0∨r=1∨r=2∨r=3∨r=4)with rfl|rfl|rfl|rfl|rfl<;>simp[g0,cls6,cls5,fs6]
  have nz:¬((r:Int)+1=0):=by lia
  simp[gp,ZKd,td,nz]
theorem ZOh:okD 20 (.tup (st.map Stp.enc))=vX:=Px (n:=19) λd hd=>by
 obtain⟨s,_,rfl⟩:=zC.mp hd
 rfl
theorem ZPf:okD 25 (.tup (r.map Aq))=vX:=Px (n:=24) λd hd=>by
 obtain⟨s,_,rfl⟩:=zC.mp hd;refine Px (n:=23) λd hd=>?_
 simp only[zq,j4,or_false]at hd;rcases hd with rfl|rfl
 ·rfl
 ·exact ZAR ZOh (by decide)
theorem ZPB{xs:List α}(h:a<=b)(hb:b<=xs.length):cutD xs (vZ (a:Int)) (vZ (b:Int))=(xs.drop a).take (b-a):=by
 have h1:=(Jq xs.length (a:Int)).2;have h2:=(Jq xs.length (b:Int)).1;have e1:HT.sIx xs.length 0 (vZ (a:Int))=a:=by lia
 have e2:HT.sIx xs.length xs.length (vZ (b:Int))=b:=by lia
 unfold cutD;rw[e1,e2]
theorem ZMI{l:List Int}(h:l.length=3):∃x y z,l=[x,y,z]:=by
 match l,h with
 |[x,y,z],_=>exact⟨x,y,z,rfl⟩
theorem ZKS{l:List Int}(h:l.length=2):∃x y,l=[x,y]:=by
 match l,h with
 |[x,y],_=>exact⟨x,y,rfl⟩
theorem cut3(hl:xs.length=24)(hj:j<=4):∃x y z:Int,cutD (xs.map D.int) (vZ (2+3*(j:Int))) (vZ (5+3*(j:Int)))=[.int x,.int y,.int z]:=by
 obtain⟨x,y,z,e⟩:=ZMI (l:=(xs.drop (2+3*j)).take 3) (by rw[qW,qK];lia);refine⟨x,y,z,?_⟩;rw[show(2+3*(j:Int))=((2+3*j:Nat):Int) by lia,show(5+3*(j:Int))=((5+3*j:Nat):Int) by lia,ZPB (by lia) (by rw[zZ];lia),show 5+3*j-(2+3*j)=3 by lia,<-jx,<-jJ,e]
 rfl
theorem ZFw{ps:List RP}{G:DH}:∀(m i:Nat),i+m=ps.length->∃bs:List Nat,bs.length<=m/\(∀j∈bs,j<ps.length)/\Cw (gV 0) Ql R3 [vJ,vZ (.tup (ps.map RP.enc))] (Cr i m) G=.ok (bs.map λ(j:Nat)=>.int (j:Int)) G
 |0,i,_=>⟨[],by simp,(λj hj=>nomatch hj),by rw[Jo,Q0];rfl⟩
 | m+1,i,e=>by
  obtain⟨bs,l1,l2,ih⟩:=ZFw (ps:=ps) (G:=G) m (i+1) (by lia);obtain⟨p,hp⟩:∃p,ps[i]?=vZ p:=⟨_,zQ (by lia)⟩;have ap:=Ko hp;have t2:¬(("mill":Str)="basin"):=by decide
  have t4:¬(("town":Str)="basin"):=by decide
  obtain⟨b,ht⟩:∃b:Bool,Ql [vZ (.int i),vZ (.tup (ps.map RP.enc))] G=.ok b G:=by
   unfold Ql;cases ek:p.kd with
   |town a b=>exact⟨vV,by simp[ap,ek,RK.txt,t4]⟩
   |mill a=>exact⟨vV,by simp[ap,ek,RK.txt,t2]⟩
   |basin b r q=>
    have e6:∀G,Af p.enc (.int 6) G=.ok (pmD q) G:=λG=>by simp[RP.enc,RP.row,ek,RK.rest]
    exact⟨!Cq (pmD q),by simp[ap,ek,RK.txt,e6]⟩
  have he:R3 [vZ (.int i),vZ (.tup (ps.map RP.enc))] G=.ok (.int i) G:=by unfold R3;simp
  have e1:((i:Int)+1)=((i+1:Nat):Int):=by lia
  have ih':Cw (gV 0) Ql R3 [vJ,vZ (.tup (ps.map RP.enc))] (Cr ((i:Int)+1) m) G=.ok (bs.map λ(j:Nat)=>.int (j:Int)) G:=by rw[e1];exact ih
  rw[Iv,Jc];cases b with
  | true=>
   refine⟨i::bs,by simp;lia,λj hj=>?_,?_⟩
   ·rcases zq.mp hj with rfl|hj
    ·lia
    ·exact l2 j hj
   ·simp[ht,he,ih']
  |false=>
   refine⟨bs,by lia,l2,?_⟩;simp[ht,ih']
theorem ZPn(hn:ps.length<=12){y:Int}(G:DH):∃H:D,(H=.non∨∃k:Nat,k<ps.length/\H=.int k)/\freeze G (U4 [.tup (ps.map RP.enc),.fl [.int x,.int y]] G)=.ok H G:=by
 obtain⟨bs,l1,l2,hc⟩:=ZFw (ps:=ps) (G:=G) ps.length 0 (by lia);have hc':Cw (gV 0) Ql R3 [vJ,vZ (.tup (ps.map RP.enc))] (Cr 0 ps.length) G=.ok (bs.map λ(j:Nat)=>.int (j:Int)) G:=hc;have hr:inR (ps.length:Int):=Hm (by lia) (by lia);have hcs:∀a b c:Option D,Bx 1 [0] [a,b,c]=[vJ,a]:=λ_ _ _=>rfl
 have fz:freeze G (.ok (.ref G.length) (G++[.lst (bs.map λ(j:Nat)=>D.int (j:Int))]))=.ok (.fl (bs.map λ(j:Nat)=>.int (j:Int))) G:=Ck (Jd λ_ _=>rfl);have lb:(bs.map λ(j:Nat)=>D.int (j:Int)).length=bs.length:=by simp
 have lr:bs.length<=1000000:=by lia
 have ln:(((ps.map RP.enc).length:Nat):Int)=(ps.length:Int):=by rw[zZ]
 have ab:∀j:Nat,j<bs.length->∃i:Nat,i<ps.length/\atI (bs.map λ(j:Nat)=>D.int (j:Int)) (j:Int)=vZ (.int i):=λj hj=>⟨bs[j],l2 _ (qB hj),Ec rfl (by rw[zw,zQ hj];rfl)⟩
 have i0:atI ([.int x,.int y]:List D) 0=vZ (.int x):=rfl;have i1:atI ([.int x,.int y]:List D) 1=vZ (.int y):=rfl;have tn:tidy G (.ok .non G)=.ok .non G:=Bp rfl;have fn:freeze G (.ok .non G)=.ok .non G:=Fw rfl;have ti:∀i:Nat,tidy G (.ok (.int i) G)=.ok (.int i) G:=λi=>Bp rfl
 have fi:∀i:Nat,freeze G (.ok (.int i) G)=.ok (.int i) G:=λi=>Fw rfl
 generalize(bs.map λ(j:Nat)=>D.int (j:Int))=BS at*;generalize ps.map RP.enc=PS at*;by_cases z:x%3=0∨bs.length=0
 ·refine⟨.non,.inl rfl,?_⟩;unfold U4 ZAy;rw[Bv];by_cases z1:x%3=0
  ·simp[ln,hr,hcs,hc',Bb,lb,lr,fz,i0,z1,tn,fn]
  ·have z2:bs.length=0:=by lia
   have z3:BS=[]:=qZ (by lia);subst z3;simp[ln,hr,hcs,hc',Bb,fz,i0,z1,tn,fn]
 ·have z1:¬x%3=0:=λq=>z (.inl q)
  have z2:0<bs.length:=by lia
  have z2':(0:Int)<(bs.length:Int):=by lia
  have z3:¬bs.length=0:=by lia
  have z3':¬(bs.length:Int)=0:=by lia
  have z5:¬BS=[]:=λq=>by rw[q]at lb;simp at lb;lia
  obtain⟨j,hj,ej⟩:∃j:Nat,j<bs.length/\(j:Int)=y%(bs.length:Int):=by have a:=zF y (show(bs.length:Int)≠0 by lia);have b:=zE y z2';exact⟨(y%(bs.length:Int)).toNat,by lia,by lia⟩
  obtain⟨i,hi,ei⟩:=ab j hj;refine⟨.int i,.inr ⟨i,hi,rfl⟩,?_⟩;unfold U4 ZAy;rw[Bv];simp[ln,hr,hcs,hc',Bb,lb,lr,fz,i0,i1,z1,z2,z2',z3,z3',z5,<-ej,ei,ti,fi]
theorem ZGw(hl:xs.length=24){b:Bool}{H:D}{s0 s6 s7 s8 s9 s10 s11 s12:Option D}{G:DH}:∀(m j:Nat)(h:RH)(x5:Option D),j+m<=5->Hs4 j h->1<=h.ps.length->h.ps.length<=12->(H=.non∨∃k:Nat,k<h.ps.length/\H=.int k)->∃h' y5,Hs4 (j+m) h'/\h'.yr=h.yr/\h'.ps.length=h.ps.length/\
  Dj (gV 5) Su (Cr j m) [s0,vZ h.enc,vZ (.fl (xs.map D.int)),vZ (.bl b),vZ H,x5,s6,s7,s8,s9,s10,s11,s12] G=.nx [s0,vZ h'.enc,vZ (.fl (xs.map D.int)),vZ (.bl b),vZ H,y5,s6,s7,s8,s9,s10,s11,s12] G
 |0,j,h,x5,_,sh,_,_,_=>⟨h,x5,sh,rfl,rfl,by rw[Jo,Im]⟩
 |m+1,j,h,x5,e,sh,n1,n2,hH=>by
  obtain⟨x,y,z,cu⟩:=cut3 hl (j:=j) (by lia);obtain⟨h1,sp,ct⟩:=ZJt (t:=j) (by lia) sh n1 n2 (x0:=x) (x1:=y) (x2:=z) (b:=b) hH G;obtain⟨h',y5,a1,a2,a3,ih⟩:=ZGw hl (b:=b) (H:=H) (s0:=s0) (s6:=s6) (s7:=s7) (s8:=s8) (s9:=s9) (s10:=s10) (s11:=s11) (s12:=s12) (G:=G) m (j+1) h1 (vZ (.int j)) (by lia) sp.ps (by rw[sp.n];exact n1) (by rw[sp.n];exact n2) (by rw[sp.n];exact hH);refine⟨h',y5,by rw[show j+(m+1)=j+1+m by lia];exact a1,a2.trans sp.yr,a3.trans sp.n,?_⟩
  have mb:Eb (.int 3) (.int j) G=.ok (.int (3*j)) G:=Mx (by lia) (by lia);have fz:freeze G (.ok (.ref G.length) (G++[.lst [.int x,.int y,.int z]]))=.ok (.fl [.int x,.int y,.int z]) G:=Ck rfl;have e1:((j:Int)+1)=((j+1:Nat):Int):=by lia
  have hb:Su [s0,vZ h.enc,vZ (.fl (xs.map D.int)),vZ (.bl b),vZ H,vZ (.int j),s6,s7,s8,s9,s10,s11,s12] G=.nx [s0,vZ h1.enc,vZ (.fl (xs.map D.int)),vZ (.bl b),vZ H,vZ (.int j),s6,s7,s8,s9,s10,s11,s12] G:=by generalize xs.map D.int=XS at*;generalize h.enc=HE at*;generalize h1.enc=HE1 at*;unfold Su;simp[mb,Dp,cu,fz,ct]
  rw[Iv,Gn,e1];generalize xs.map D.int=XS at*;simp only[Di,R.Ib,qD,hb,Ii,ih]
theorem ZQ4:okD 28 p.enc=vX:=by
 unfold RP.enc RP.row;cases p.kd with
 | basin b r q=>
  refine Px (n:=27) λd hd=>?_
  simp only[RK.rest,zq,j4,or_false]at hd;rcases hd with rfl|rfl|rfl|rfl|rfl|rfl|rfl
  ·rfl
  ·rfl
  ·rfl
  ·rfl
  ·rfl
  ·exact ZAR ZPf (by decide)
  ·cases q with
   |none=>rfl
   |some z=>obtain⟨a,b,c⟩:=z;rfl
 |town a b=>rfl
 |mill a=>rfl
theorem ZKE:okD 30 h.enc=vX:=Px (n:=29) λd hd=>by
 simp only[zq,j4,or_false]at hd;rcases hd with rfl|rfl
 ·rfl
 ·refine Px (n:=28) λd hd=>?_
  obtain⟨p,_,rfl⟩:=zC.mp hd;exact ZQ4
theorem end04(hh:((h.yr<1∨24<h.yr)∨h.ps.length=0)∨((1<=h.yr/\h.yr<=24)/\(1<=h.ps.length/\h.ps.length<=12)/\∀(i:Nat)(q:RP),h.ps[i]?=vZ q->Sh4 q)){s0 s2 s5 s6 s7 s8 s9 s10 s11 s12:Option D}(G:DH):
  T8 [s0,vZ h.enc,s2,s3,s4,s5,s6,s7,s8,s9,s10,s11,s12] G=.rt (.bl vX) G:=by
 rcases hh with hb|⟨y,n,sh⟩
 ·have c:=ZLH hb G;have rf:=ZFo (H:=h.enc) (r:=0) (k:=0) (by lia) (G:=G) ⟨[],by rw[zP];exact ZNQ (by lia) G⟩;generalize h.enc=HE at*;have rf':Rx [HE,.int 0,.int 0] G=.ok (.bl vX) G:=rf;unfold T8 Vs ZDU;simp[c,Cq,rf']
 ·rcases ZOW y n sh G with⟨z,c⟩|⟨k,r,b,h0,h5,c⟩
  ·have ck:=ZQR y.1 y.2 n.1 n.2 (λi q hq=>⟨z i q hq,(sh i q hq).sh⟩) G;have e2:=ZL7 (G:=G) (ZKE (h:=h));have ty:K8 [h.enc,.ty "tuple"] G=.ok (.bl vX) G:=rfl;generalize h.enc=HE at*;unfold T8 Vs;simp[c,Cq,ck,ty,e2]
  ·have rf:=ZFo (H:=h.enc) (r:=r) (k:=k) h5 (G:=G) (by
    obtain⟨L,e⟩:=ZMO b h0 G;refine⟨L,?_⟩;cases r with
    |zero=>exact absurd rfl h0
    |succ r=>exact e)
   generalize h.enc=HE at*;unfold T8 Vs ZDU;simp[c,Cq,rf]
theorem ZJ0{h:Hs}(hi:i<h.n):h.pl i=h.ps[i]'hi:=by
 unfold Hs.pl;rw[zB,zQ hi]
 rfl
def Kd.raw(h:Hs):Kd->RK
 |.basin b r vJ=>.basin b r vJ
 |.basin b r (vZ (t,d,m))=>.basin b r (vZ ((h.pl t).nm,(d:Int),m))
 |.town a b=>.town a b
 |.mill a=>.mill a
def Pl.raw(h:Hs)(p:Pl):RP:=⟨p.nm,h.dnT p.dn,p.dl,p.kd.raw h⟩
noncomputable def Hs.raw(h:Hs):RH:=⟨h.yr,h.ps.map (Pl.raw h)⟩
theorem ZLT{h:Hs}{p:Pl}:(Pl.raw h p).enc=h.encP p:=by
 unfold RP.enc RP.row Pl.raw Hs.encP;cases p.kd with
 |town a b=>rfl
 |mill a=>rfl
 |basin b r q=>
  cases q with
  |none=>rfl
  |some z=>obtain⟨t,d,m⟩:=z;rfl
theorem ZK2{h:Hs}:h.raw.enc=h.enc:=by
 unfold RH.enc Hs.enc Hs.raw Hs.plsD;simp only[q8]
 rw[show h.ps.map (RP.enc∘Pl.raw h)=h.ps.map h.encP from jj λp _=>ZLT]
theorem ZJR:∀{r:List Ssn}{a:Int},Asc yr a r->a+r.length<=max a (yr-1)
 |[],a,_=>by simp;lia
 |s::r,a,h=>by have ih:=ZJR h.2.2;have h1:=h.1;have h2:=h.2.1;simp only[qw];lia
theorem ZPH{h:Hs}(hp:h.raw.ps[k]?=vZ p):k<h.n/\p=Pl.raw h (h.pl k):=by unfold Hs.raw at hp;rw[zw]at hp;obtain⟨q,hq,rfl⟩:=zA.mp hp;have hk:k<h.n:=(zX.mp hq).1;refine⟨hk,?_⟩;exact congrArg (Pl.raw h) ((zX.mp hq).2.symm.trans (ZJ0 hk).symm)
theorem mod3{a b c:D}(e:ds=[a,b,c]):(x%3=0/\atI ds (x%3)=vZ a)∨(x%3=1/\atI ds (x%3)=vZ b)∨(x%3=2/\atI ds (x%3)=vZ c):=by
 subst e;rcases(by lia:x%3=0∨x%3=1∨x%3=2)with h|h|h
 ·exact .inl ⟨h,by rw[h];rfl⟩
 ·exact .inr (.inl ⟨h,by rw[h];rfl⟩)
 ·exact .inr (.inr ⟨h,by rw[h];rfl⟩)
theorem Ps4.sh4(h:Ps4 5 p):Sh4 p:=⟨⟨z9 h.nm (nb5 (by lia)),λb r q e s hs=>by have:=(h.ru b r q e).2 s hs;lia⟩,λb r q e=>by have:=(h.ru b r q e).1;lia⟩
theorem Hs4.to5(ht:t<=5)(sh:Hs4 t h):Hs4 5 h:=λi p hp=>by
 have key:∀m,t+m<=5->Ps4 (t+m) p:=λm=>by
  induction m with
  |zero=>exact λ_=>sh i p hp
  |succ m ih=>exact λhm=>(ih (by lia)).up
 have:=key (5-t) (by lia);rwa[show t+(5-t)=5 by lia]at this
theorem ZHP{G:DH}:∀l:List RP,Cw (gV 0) Cu Xj [vJ] (l.map RP.enc) G=.ok ((l.map RP.nm).map D.str) G
 |[]=>by rw[qA,Q0];rfl
 |p::l=>by
  have he:Xj [vZ p.enc] G=.ok (.str p.nm) G:=by unfold Xj;simp
  have ih:=ZHP (G:=G) l;rw[zz,Jc];simp[he,ih]
theorem mid04(y:1<=h.yr/\h.yr<=24)(n1:1<=h.ps.length)(n2:h.ps.length<=12)(sh:Hs4 5 h)(hl:xs.length=24){s0 s5:Option D}(G:DH):
  ZAJ [s0,vZ h.enc,vZ (.fl (xs.map D.int)),s3,s4,s5,vJ,vJ,vJ,vJ,vJ,vJ,vJ] G=.rt (.bl vX) G:=by
 have a19:atI (xs.map D.int) 19=vZ (.int (gx xs 19)):=El (i:=19) (by lia);have a20:atI (xs.map D.int) 20=vZ (.int (gx xs 20)):=El (i:=20) (by lia);have a21:atI (xs.map D.int) 21=vZ (.int (gx xs 21)):=El (i:=21) (by lia);have eH:h.enc=.tup [.int h.yr,.tup (h.ps.map RP.enc)]:=rfl;have ln:(((h.ps.map RP.enc).length:Nat):Int)=(h.ps.length:Int):=by rw[zZ]
 have nz:(0:Int)<(h.ps.length:Int):=by lia
 have nz':0<h.ps.length:=by lia
 obtain⟨k,hk,ek⟩:∃k:Nat,k<h.ps.length/\(k:Int)=gx xs 19%(h.ps.length:Int):=by have a:=zF (gx xs 19) (show(h.ps.length:Int)≠0 by lia);have b:=zE (gx xs 19) nz;exact⟨(gx xs 19%(h.ps.length:Int)).toNat,by lia,by lia⟩
 obtain⟨p,hp⟩:∃p,h.ps[k]?=vZ p:=⟨_,zQ hk⟩;have ap:=Ko hp;have s7:ZAJ [s0,vZ h.enc,vZ (.fl (xs.map D.int)),s3,s4,s5,vJ,vJ,vJ,vJ,vJ,vJ,vJ] G=Ro [s0,vZ h.enc,vZ (.fl (xs.map D.int)),s3,s4,s5,vZ (.int h.yr),vZ (.tup (h.ps.map RP.enc)),vZ (.int k),vJ,vJ,vJ,vJ] G:=by rw[eH];generalize h.ps.map RP.enc=PS at*;generalize xs.map D.int=XS at*;unfold ZAJ ZFe;simp[a19,ln,nz,nz',<-ek]
 rw[s7];by_cases z:gx xs 20%4=0
 ·have z16:¬gx xs 20%16=1:=by lia
  have c2:cutD (h.ps.map RP.enc) (vZ ((k:Int)+1)) vJ=(h.ps.drop (k+1)).map RP.enc:=by rw[show(k:Int)+1=((k+1:Nat):Int) by lia];exact Li (by lia)
  have f2:freeze G (.ok (.tup ((h.ps.drop (k+1)).map RP.enc)) G)=.ok (.tup ((h.ps.drop (k+1)).map RP.enc)) G:=Fw (by rw[Mg];exact Kz);have mc:=ZHP (G:=G) (h.ps.drop (k+1));have hcs:∀S:DSt,Bx 1 [] S=[vJ]:=λ_=>rfl
  obtain⟨B,eB⟩:∃B,B=(h.ps.drop (k+1)).map RP.nm:=⟨_,rfl⟩;rw[<-eB]at mc;have lB:B.length<=12:=by rw[eB,zZ,qK];lia
  have fB:freeze G (.ok (.ref G.length) (G++[.lst (B.map D.str)]))=.ok (.fl (B.map D.str)) G:=Ck Ft;have fS:freeze G (.ok (.ref G.length) (G++[.lst [.str "sea"]]))=.ok (.fl [.str "sea"]) G:=Ck rfl;have ad:Ba (.fl [.str "sea"]) (.fl (B.map D.str)) G=.ok (.ref G.length) (G++[.lst ((("sea":Str)::B).map D.str)]):=by
   rw[Gd,if_pos (by simp;lia)]
   rfl
  have fA:freeze G (.ok (.ref G.length) (G++[.lst ((("sea":Str)::B).map D.str)]))=.ok (.fl ((("sea":Str)::B).map D.str)) G:=Ck Ft;have lS:((((("sea":Str)::B).map D.str).length:Nat):Int)=((("sea":Str)::B).length:Int):=by rw[zZ]
  obtain⟨m,hm,em⟩:∃m:Nat,m<(("sea":Str)::B).length/\(m:Int)=gx xs 21%((("sea":Str)::B).length:Int):=by
   have pz:(0:Int)<((("sea":Str)::B).length:Int):=by simp
   have a:=zF (gx xs 21) (show((("sea":Str)::B).length:Int)≠0 by lia);have b:=zE (gx xs 21) pz;exact⟨(gx xs 21%((("sea":Str)::B).length:Int)).toNat,by lia,by lia⟩
  have pz:(0:Int)<((("sea":Str)::B).length:Int):=by simp
  have pz':0<(("sea":Str)::B).length:=by simp
  obtain⟨v,hv⟩:∃v,(("sea":Str)::B)[m]?=vZ v:=⟨_,zQ hm⟩;have av:atI ((("sea":Str)::B).map D.str) (m:Int)=vZ (.str v):=Ec rfl (by rw[zw,hv];rfl);have rl:=Py (p:=p);have cp:=Hy (p:=p) (q:={p with dn:=v}) (j:=2) (d:=.str v) (by lia) (λ_=>rfl) rfl G;have cp':Ci [p.enc,.int 2,.str v] G=.ok (RP.enc {p with dn:=v}) G:=cp;have f1:freeze G (.ok (RP.enc {p with dn:=v}) G)=.ok (RP.enc {p with dn:=v}) G:=Fw Jz
  have cq:Ci [.tup (h.ps.map RP.enc),.int k,RP.enc {p with dn:=v}] G=.ok (.tup ((h.ps.map RP.enc).set k (RP.enc {p with dn:=v}))) G:=Ow (by rw[zZ];exact hk) (by rw[zZ];lia) Kz Jz;have bs:bels G.length ((h.ps.map RP.enc).set k (RP.enc {p with dn:=v}))=vX:=by rw[<-jy];exact Kz
  have f3:=J1 (G:=G) bs;have e2:RH.enc ⟨h.yr,h.ps.set k {p with dn:=v}⟩=.tup [.int h.yr,.tup ((h.ps.map RP.enc).set k (RP.enc {p with dn:=v}))]:=by unfold RH.enc;rw[jy]
  have en:=λ(s9 s10:Option D)=>end04 (h:=⟨h.yr,h.ps.set k {p with dn:=v}⟩) (.inr ⟨y,⟨by simpa using n1,by simpa using n2⟩,λi q hq=>by
   by_cases e:k=i
   ·subst e;rw[qI hk]at hq;cases hq;have:=(sh k p hp).sh4;exact⟨⟨this.sh.nm,this.sh.ru⟩,this.ru⟩
   ·rw[qk e]at hq;exact(sh i q hq).sh4⟩) (s0:=s0) (s2:=vZ (.fl (xs.map D.int))) (s3:=s3) (s4:=s4) (s5:=s5) (s6:=vZ (.int h.yr)) (s7:=vZ (.tup (h.ps.map RP.enc))) (s8:=vZ (.int k)) (s9:=s9) (s10:=s10) (s11:=vJ) (s12:=vJ) G
  rw[e2]at en;generalize(h.ps.map RP.enc).set k (RP.enc {p with dn:=v})=Z at*;generalize RP.enc {p with dn:=v}=P' at*;generalize(h.ps.drop (k+1)).map RP.enc=DR at*;generalize h.ps.map RP.enc=PS at*;generalize xs.map D.int=XS at*;generalize h.enc=HE at*;generalize p.enc=P at*;have lb:(B.map D.str).length<=1000000:=by rw[zZ];lia
  generalize(("sea":Str)::B).length=nS at*;generalize(("sea":Str)::B).map D.str=SB at*;generalize B.map D.str=BS at*;have pz2:¬SB=[]:=λq=>by rw[q]at lS;simp at lS;lia
  have lS':SB.length=nS:=by lia
  unfold Ro Xk;simp[-Gd,a20,z,z16,Bb,fS,Dp,c2,f2,hcs,mc,lb,fB,ad,fA,ap,a21,lS,lS',pz,pz',pz2,<-em,av,cp',f1,cq,f3,Bl,en]
 ·by_cases z16:gx xs 20%16=1
  ·have fY:freeze G (.ok (.ref G.length) (G++[.lst [.int 0,.int 25,.int h.yr]]))=.ok (.fl [.int 0,.int 25,.int h.yr]) G:=Ck rfl;have fP:freeze G (.ok (.ref G.length) (G++[.lst [.tup (h.ps.map RP.enc),.tup (h.ps.map RP.enc),.tup []]]))=.ok (.fl [.tup (h.ps.map RP.enc),.tup (h.ps.map RP.enc),.tup []]) G:=Ck (by simp[bels]);obtain⟨h',b1,b2,b3⟩:∃h':RH,((h'.yr<1∨24<h'.yr)∨h'.ps.length=0)/\atI ([.int 0,.int 25,.int h.yr]:List D) (gx xs 21%3)=vZ (.int h'.yr)/\atI ([.tup (h.ps.map RP.enc),.tup (h.ps.map RP.enc),.tup []]:List D) (gx xs 21%3)=vZ (.tup (h'.ps.map RP.enc)):=by
    rcases mod3 (ds:=([.int 0,.int 25,.int h.yr]:List D)) (x:=gx xs 21) rfl with⟨w,w1⟩|⟨w,w1⟩|⟨w,w1⟩
    ·exact⟨⟨0,h.ps⟩,.inl (.inl (by show(0:Int)<1;lia)),w1,by rw[w];rfl⟩
    ·exact⟨⟨25,h.ps⟩,.inl (.inr (by show(24:Int)<25;lia)),w1,by rw[w];rfl⟩
    ·exact⟨⟨h.yr,[]⟩,.inr rfl,w1,by rw[w];rfl⟩
   have en:=end04 (h:=h') (.inl b1) (s0:=s0) (s2:=vZ (.fl (xs.map D.int))) (s3:=s3) (s4:=s4) (s5:=s5) (s6:=vZ (.int h.yr)) (s7:=vZ (.tup (h.ps.map RP.enc))) (s8:=vZ (.int k)) (s9:=vJ) (s10:=vJ) (s11:=vJ) (s12:=vJ) G
   rw[show h'.enc=.tup [.int h'.yr,.tup (h'.ps.map RP.enc)]from rfl]at en
   generalize h'.ps.map RP.enc=PS' at*;generalize h.ps.map RP.enc=PS at*;generalize xs.map D.int=XS at*;generalize h.enc=HE at*;unfold Ro Xk;simp[a20,z,z16,Bb,fY,a21,b2,Bl,fP,b3,en]
  ·have en:=end04 (h:=h) (.inr ⟨y,⟨n1,n2⟩,λi q hq=>(sh i q hq).sh4⟩) (s0:=s0) (s2:=vZ (.fl (xs.map D.int))) (s3:=s3) (s4:=s4) (s5:=s5) (s6:=vZ (.int h.yr)) (s7:=vZ (.tup (h.ps.map RP.enc))) (s8:=vZ (.int k)) (s9:=vJ) (s10:=vJ) (s11:=vJ) (s12:=vJ) G;generalize h.ps.map RP.enc=PS at*;generalize xs.map D.int=XS at*;generalize h.enc=HE at*;unfold Ro Xk;simp[a20,z,z16,en]
theorem holds:Holds:=by
 intro ns hl hm;obtain⟨h,g,h1,pw,hy,⟨nm,nl,no,nk,_⟩,hh⟩:=ZNO (ns:=ns) (at_:=0) (by lia) [];have hn:=g.len;have hy0:=g.yr;have wd:∀k,k<h.n->Wd (h.pl k).nm:=λk hk=>by rw[nk k hk,<-Rv (by lia)];exact no.wd _ (qB _)
 have er:=ZK2 (h:=h);have en:h.raw.ps.length=h.n:=by simp[Hs.raw,Hs.n]
 have sh0:Hs4 0 h.raw:=λi p hp=>by
  obtain⟨hk,rfl⟩:=ZPH hp;refine⟨?_,λb r q e=>?_⟩
  ·obtain⟨l,e,l1,l8,_⟩:=wd i hk;show(h.pl i).nm.length<=8;rw[e,Nh];exact l8
  ·have e':(h.pl i).kd.raw h=.basin b r q:=e;have core:∀b0 r0 q0,(h.pl i).kd=.basin b0 r0 q0->r0.length<=24+0/\∀s∈r0,s.2.length<=100+0:=λb0 r0 q0 ek=>by obtain⟨w1,w2,w3⟩:=(pw i hk).2.asc b0 r0 q0 ek;have:=ZJR w1;exact⟨by lia,w3⟩
   cases ek:(h.pl i).kd with
   |town a b=>rw[ek]at e';cases e'
   |mill a=>rw[ek]at e';cases e'
   |basin b0 r0 q0=>
    have c:=core b0 r0 q0 ek;rw[ek]at e';cases q0 with
    |none=>cases e';exact c
    |some z=>obtain⟨t,d,m⟩:=z;cases e';exact c
 have hh':Ph [.fl (ns.map D.int),.int 0] []=.ok h.enc []:=hh;rw[<-er]at hh';have yr:h.raw.yr=h.yr:=rfl;generalize h.raw=R at*;have c15:∀G,Jl [.fl (ns.map D.int),.int 15] G=.ok (.int (cellAt ns 15)) G:=λG=>Td (by lia)
 have hst:freeze [] (Kp [.int (cellAt ns 15),.int 1,.int 24] [])=.ok (.fl ((Ha (cellAt ns 15) 1 24).map D.int)) []:=ZBP (cell:=cellAt ns 15) (k:=1) (n:=24) (by lia) (by lia) [];have xl:(Ha (cellAt ns 15) 1 24).length=24:=ZEI;generalize Ha (cellAt ns 15) 1 24=xs at*;generalize cellAt ns 15=cc at*;generalize ns.map D.int=N at*;have a0:atI (xs.map D.int) 0=vZ (.int (gx xs 0)):=El (i:=0) (by lia)
 have a1:atI (xs.map D.int) 1=vZ (.int (gx xs 1)):=El (i:=1) (by lia);obtain⟨x,y,e2⟩:=ZKS (l:=xs.drop 22) (by rw[qK];lia);have c22:cutD (xs.map D.int) (vZ 22) vJ=[.int x,.int y]:=by have:=Li (f:=D.int) (l:=xs) (j:=22) (by lia);rw[e2]at this;exact this
 have f22:freeze [] (.ok (.ref 0) [.lst [.int x,.int y]])=.ok (.fl [.int x,.int y]) []:=Ck (G:=[]) rfl;obtain⟨H,hH,ch⟩:=ZPn (ps:=R.ps) (by lia) (x:=x) (y:=y) [];obtain⟨m,hm5,em⟩:∃m:Nat,m<=5/\(m:Int)=gx xs 1%6:=⟨(gx xs 1%6).toNat,by lia,by lia⟩;have hr:inR (m:Int):=Hm (by lia) (by lia);have rH1:∀G,Af R.enc (.int 1) G=.ok (.tup (R.ps.map RP.enc)) G:=λG=>Uk
 obtain⟨h',y5,t1,t2,t3,tl⟩:=ZGw xl (b:=decide (gx xs 0%2=0)) (H:=H) (s0:=vZ (.fl N)) (s6:=vJ) (s7:=vJ) (s8:=vJ) (s9:=vJ) (s10:=vJ) (s11:=vJ) (s12:=vJ) (G:=[]) m 0 R vJ (by lia) sh0 (by lia) (by lia) hH;have tl':Dj (gV 5) Su (Cr 0 m) [vZ (.fl N),vZ R.enc,vZ (.fl (xs.map D.int)),vZ (.bl (decide (gx xs 0%2=0))),vZ H,vJ,vJ,vJ,vJ,vJ,vJ,vJ,vJ] []=_:=tl
 have md:=mid04 (h:=h') (by rw[t2,yr];lia) (by lia) (by lia) (Hs4.to5 (t:=0+m) (by lia) t1) xl (s0:=vZ (.fl N)) (s3:=vZ (.bl (decide (gx xs 0%2=0)))) (s4:=vZ H) (s5:=y5) [];refine⟨[],?_⟩;generalize R.ps.map RP.enc=PS at*;generalize R.enc=RE at*;generalize h'.enc=HE at*;generalize xs.map D.int=XS at*;unfold Qf;rw[Bv];show tidy [] (ZC5 [vZ (.fl N),vJ,vJ,vJ,vJ,vJ,vJ,vJ,vJ,vJ,vJ,vJ,vJ] []).ret=_
 unfold ZC5 ZGf ZF9 ZF0 ZG0;simp[hh',c15,hst,a0,rH1,Dp,c22,f22,ch,a1,<-em,hr,tl',md,Bp]
end _W
namespace _W
open PySem _L _D
seal QE QT QA QS QSs QG QGs QI QTs QW QO
structure Txt (K:PySem.W.Frag) (mg:Str->Option jO):Prop where
 Mv:FT K mg "_law_cell_at" ZBM ZBI
 ZAE:FT K mg "_law_is_name" Vz ZE5
 ZAZ:FT K mg "_law_stairs_good" ZBx ZEm
 Xm:FT K mg "_law_rule_good" Ru ZEv
 W5:FT K mg "_law_due" Wx ZDJ
 Zk:FT K mg "_law_first" ZAx ZDm
 Vp:FT K mg "_law_held" W0 ZB4
 ZAQ:FT K mg "_law_free_names" Tr ZAj
 P0:FT K mg "_law_stream" ZEB ZDb
 Yt:FT K mg "_law_names" O9 ZAg
 Wg:FT K mg "_law_more" ZFF ZE4
 Lj:FT K mg "_law_number" ZDO ZA8
 Y4:FT K mg "_law_pumped" Zj ZEj
 Yb:FT K mg "_law_stairs" ZCf ZDG
 Yi:FT K mg "_law_rule" ZDo ZAi
 Zv:FT K mg "_law_place" ZBh ZEK
 Zz:FT K mg "_law_house" ZAY ZC7
 Eo:FT K mg "_law_put" ZCh ZEh
 Vl:FT K mg "_law_whole" ZEe ZC3
 Yw:FT K mg "is_name" Z6 ZAk
 V9:FT K mg "is_pump_good" ZD8 ZCV
 W6:FT K mg "is_river_good" ZEa ZCj
 Vo:FT K mg "are_seasons_good" ZDs ZC6
 Ym:FT K mg "are_steps_good" ZD2 ZA9
 Va:FT K mg "can_pump" Xh ZD3
 Vi:FT K mg "is_rule_good" ZBr ZB6
 Wf:FT K mg "numbers_in" ZBf ZFN
 Qa:FT K mg "check_place" Uv ZES
 U3:FT K mg "checked" ZFK ZA0
 Wk:FT K mg "_law_refused" Zh ZAu
 Tp:FT K mg "_law_no_name" ZCH ZE0
 Yk:FT K mg "_law_rank" ZCB ZCY
 Vb:FT K mg "_law_rule_spoilt" Ye ZBO
 Zo:FT K mg "_law_place_spoilt" ZEp ZDW
 Wo:FT K mg "_law_renamed" ZDA ZB0
 ZAW:FT K mg "_law_spoilt" ZEg ZB5
 We:FT K mg "_law_turned" ZCA ZA6
 V2:FT K mg "law" Je ZEY
 ZKH:mg "ValueError"=vJ
 ZGd:mg "all"=vJ
 ZKM:mg "bool"=vJ
 ZD4:mg "int"=vJ
 Ge:mg "isinstance"=vJ
 Dw:mg "len"=vJ
 Sv:mg "max"=vJ
 ZQt:mg "min"=vJ
 Hr:mg "range"=vJ
 ZLy:mg "set"=vJ
 ZQG:mg "sorted"=vJ
 ZDT:mg "sum"=vJ
 Ux:mg "tuple"=vJ
 Zt:mg "BRIM"=vZ (.int 4 (Ek K "BRIM"))
 ZCo:mg "DELAY"=vZ (.int 3 (Ek K "DELAY"))
 Y9:mg "DOWN"=vZ (.int 2 (Ek K "DOWN"))
 Uq:mg "KIND"=vZ (.int 0 (Ek K "KIND"))
 ZFG:mg "LETTERS"=vZ (.str "abcdefghijklmnopqrstuvwxyz" (Ek K "LETTERS"))
 ZB8:mg "MOST"=vZ (.int 4 (Ek K "MOST"))
 Q9:mg "NAME"=vZ (.int 1 (Ek K "NAME"))
 ZEU:mg "NEED"=vZ (.int 4 (Ek K "NEED"))
 Vm:mg "PLACES"=vZ (.int 1 (Ek K "PLACES"))
 Qx:mg "PUMP"=vZ (.int 6 (Ek K "PUMP"))
 ZBH:mg "PUMP_DELAY"=vZ (.int 1 (Ek K "PUMP_DELAY"))
 Zu:mg "PUMP_MOST"=vZ (.int 2 (Ek K "PUMP_MOST"))
 ZDt:mg "PUMP_TO"=vZ (.int 0 (Ek K "PUMP_TO"))
 ZBF:mg "RANK"=vZ (.int 5 (Ek K "RANK"))
 ZCc:mg "RULE"=vZ (.int 5 (Ek K "RULE"))
 Z9:mg "SEA"=vZ (.str "sea" (Ek K "SEA"))
 Xb:mg "YEAR"=vZ (.int 0 (Ek K "YEAR"))
 Xr:MT K "NoName" "__init__" "NoName.__init__" ZDF ["self","place"]
 Vd:MT K "NoNumber" "__init__" "NoNumber.__init__" ZDq ["self","place"]
 V8:MT K "NoPump" "__init__" "NoPump.__init__" ZFO ["self","place"]
 Xx:MT K "NoRiver" "__init__" "NoRiver.__init__" ZBw ["self","place"]
 ZAK:MT K "NoRule" "__init__" "NoRule.__init__" ZEf ["self","place"]
 Er:ET K mg "NoName" "place"
 Ew:ET K mg "NoNumber" "place"
 Ex:ET K mg "NoPump" "place"
 Ey:ET K mg "NoRiver" "place"
 Eu:ET K mg "NoRule" "place"
 Fv:ET0 K mg "NoHouse"
 Ot:XBase K mg "WaterError" (Ab K "WaterError")
 ZDr:mg "NoAsk"=vZ (.ref (Ab K "NoAsk"))
 ZDL:mg "NoBounds"=vZ (.ref (Ab K "NoBounds"))
 ZFI:mg "NoHouse"=vZ (.ref (Ab K "NoHouse"))
 ZCG:mg "NoLevel"=vZ (.ref (Ab K "NoLevel"))
 ZBS:mg "NoName"=vZ (.ref (Ab K "NoName"))
 ZBc:mg "NoNumber"=vZ (.ref (Ab K "NoNumber"))
 ZDX:mg "NoPump"=vZ (.ref (Ab K "NoPump"))
 ZDn:mg "NoRiver"=vZ (.ref (Ab K "NoRiver"))
 ZCz:mg "NoRow"=vZ (.ref (Ab K "NoRow"))
 ZCb:mg "NoRule"=vZ (.ref (Ab K "NoRule"))
 ZEs:mg "NoText"=vZ (.ref (Ab K "NoText"))
 ZCX:mg "NoWay"=vZ (.ref (Ab K "NoWay"))
 ZCm:mg "TooLong"=vZ (.ref (Ab K "TooLong"))
 ZEn:mg "WaterError"=vZ (.ref (Ab K "WaterError"))
 ZEr:Fx K (Ab K "NoHouse") (Ab K "WaterError") vX=vX
 ZEq:Fx K (Ab K "NoName") (Ab K "WaterError") vX=vX
 ZBQ:Fx K (Ab K "NoNumber") (Ab K "WaterError") vX=vX
 ZBl:Fx K (Ab K "NoPump") (Ab K "WaterError") vX=vX
 ZAp:Fx K (Ab K "NoRiver") (Ab K "WaterError") vX=vX
 ZCW:Fx K (Ab K "NoRule") (Ab K "WaterError") vX=vX
 ZFB:An (PySem.W.kitOne K (.ref (Ab K "NoHouse")) (.ref (Ab K "NoAsk"))) vV=vX
 ZAe:An (PySem.W.kitOne K (.ref (Ab K "NoName")) (.ref (Ab K "NoAsk"))) vV=vX
 ZEz:An (PySem.W.kitOne K (.ref (Ab K "NoNumber")) (.ref (Ab K "NoAsk"))) vV=vX
 ZBG:An (PySem.W.kitOne K (.ref (Ab K "NoPump")) (.ref (Ab K "NoAsk"))) vV=vX
 ZBb:An (PySem.W.kitOne K (.ref (Ab K "NoRiver")) (.ref (Ab K "NoAsk"))) vV=vX
 ZCu:An (PySem.W.kitOne K (.ref (Ab K "NoRule")) (.ref (Ab K "NoAsk"))) vV=vX
 ZDZ:An (PySem.W.kitOne K (.ref (Ab K "NoHouse")) (.ref (Ab K "NoBounds"))) vV=vX
 ZBN:An (PySem.W.kitOne K (.ref (Ab K "NoName")) (.ref (Ab K "NoBounds"))) vV=vX
 ZCQ:An (PySem.W.kitOne K (.ref (Ab K "NoNumber")) (.ref (Ab K "NoBounds"))) vV=vX
 ZBa:An (PySem.W.kitOne K (.ref (Ab K "NoPump")) (.ref (Ab K "NoBounds"))) vV=vX
 ZD6:An (PySem.W.kitOne K (.ref (Ab K "NoRiver")) (.ref (Ab K "NoBounds"))) vV=vX
 ZEo:An (PySem.W.kitOne K (.ref (Ab K "NoRule")) (.ref (Ab K "NoBounds"))) vV=vX
 ZD7:An (PySem.W.kitOne K (.ref (Ab K "NoHouse")) (.ref (Ab K "NoHouse"))) vX=vX
 ZDI:An (PySem.W.kitOne K (.ref (Ab K "NoName")) (.ref (Ab K "NoHouse"))) vV=vX
 ZBj:An (PySem.W.kitOne K (.ref (Ab K "NoNumber")) (.ref (Ab K "NoHouse"))) vV=vX
 ZCI:An (PySem.W.kitOne K (.ref (Ab K "NoPump")) (.ref (Ab K "NoHouse"))) vV=vX
 ZCt:An (PySem.W.kitOne K (.ref (Ab K "NoRiver")) (.ref (Ab K "NoHouse"))) vV=vX
 ZDk:An (PySem.W.kitOne K (.ref (Ab K "NoRule")) (.ref (Ab K "NoHouse"))) vV=vX
 ZBk:An (PySem.W.kitOne K (.ref (Ab K "NoHouse")) (.ref (Ab K "NoLevel"))) vV=vX
 ZAv:An (PySem.W.kitOne K (.ref (Ab K "NoName")) (.ref (Ab K "NoLevel"))) vV=vX
 ZCE:An (PySem.W.kitOne K (.ref (Ab K "NoNumber")) (.ref (Ab K "NoLevel"))) vV=vX
 ZEW:An (PySem.W.kitOne K (.ref (Ab K "NoPump")) (.ref (Ab K "NoLevel"))) vV=vX
 ZDv:An (PySem.W.kitOne K (.ref (Ab K "NoRiver")) (.ref (Ab K "NoLevel"))) vV=vX
 ZAd:An (PySem.W.kitOne K (.ref (Ab K "NoRule")) (.ref (Ab K "NoLevel"))) vV=vX
 ZDf:An (PySem.W.kitOne K (.ref (Ab K "NoHouse")) (.ref (Ab K "NoName"))) vV=vX
 ZDV:An (PySem.W.kitOne K (.ref (Ab K "NoName")) (.ref (Ab K "NoName"))) vX=vX
 ZC0:An (PySem.W.kitOne K (.ref (Ab K "NoNumber")) (.ref (Ab K "NoName"))) vV=vX
 ZA2:An (PySem.W.kitOne K (.ref (Ab K "NoPump")) (.ref (Ab K "NoName"))) vV=vX
 ZAs:An (PySem.W.kitOne K (.ref (Ab K "NoRiver")) (.ref (Ab K "NoName"))) vV=vX
 ZCy:An (PySem.W.kitOne K (.ref (Ab K "NoRule")) (.ref (Ab K "NoName"))) vV=vX
 ZBU:An (PySem.W.kitOne K (.ref (Ab K "NoHouse")) (.ref (Ab K "NoNumber"))) vV=vX
 ZDj:An (PySem.W.kitOne K (.ref (Ab K "NoName")) (.ref (Ab K "NoNumber"))) vV=vX
 ZFJ:An (PySem.W.kitOne K (.ref (Ab K "NoNumber")) (.ref (Ab K "NoNumber"))) vX=vX
 ZFE:An (PySem.W.kitOne K (.ref (Ab K "NoPump")) (.ref (Ab K "NoNumber"))) vV=vX
 ZEL:An (PySem.W.kitOne K (.ref (Ab K "NoRiver")) (.ref (Ab K "NoNumber"))) vV=vX
 ZBA:An (PySem.W.kitOne K (.ref (Ab K "NoRule")) (.ref (Ab K "NoNumber"))) vV=vX
 ZE8:An (PySem.W.kitOne K (.ref (Ab K "NoHouse")) (.ref (Ab K "NoPump"))) vV=vX
 ZBd:An (PySem.W.kitOne K (.ref (Ab K "NoName")) (.ref (Ab K "NoPump"))) vV=vX
 ZBW:An (PySem.W.kitOne K (.ref (Ab K "NoNumber")) (.ref (Ab K "NoPump"))) vV=vX
 ZCL:An (PySem.W.kitOne K (.ref (Ab K "NoPump")) (.ref (Ab K "NoPump"))) vX=vX
 ZAo:An (PySem.W.kitOne K (.ref (Ab K "NoRiver")) (.ref (Ab K "NoPump"))) vV=vX
 ZCe:An (PySem.W.kitOne K (.ref (Ab K "NoRule")) (.ref (Ab K "NoPump"))) vV=vX
 ZCd:An (PySem.W.kitOne K (.ref (Ab K "NoHouse")) (.ref (Ab K "NoRiver"))) vV=vX
 ZBR:An (PySem.W.kitOne K (.ref (Ab K "NoName")) (.ref (Ab K "NoRiver"))) vV=vX
 ZBq:An (PySem.W.kitOne K (.ref (Ab K "NoNumber")) (.ref (Ab K "NoRiver"))) vV=vX
 ZC4:An (PySem.W.kitOne K (.ref (Ab K "NoPump")) (.ref (Ab K "NoRiver"))) vV=vX
 ZCN:An (PySem.W.kitOne K (.ref (Ab K "NoRiver")) (.ref (Ab K "NoRiver"))) vX=vX
 ZDd:An (PySem.W.kitOne K (.ref (Ab K "NoRule")) (.ref (Ab K "NoRiver"))) vV=vX
 ZDe:An (PySem.W.kitOne K (.ref (Ab K "NoHouse")) (.ref (Ab K "NoRow"))) vV=vX
 ZCC:An (PySem.W.kitOne K (.ref (Ab K "NoName")) (.ref (Ab K "NoRow"))) vV=vX
 ZC9:An (PySem.W.kitOne K (.ref (Ab K "NoNumber")) (.ref (Ab K "NoRow"))) vV=vX
 ZEQ:An (PySem.W.kitOne K (.ref (Ab K "NoPump")) (.ref (Ab K "NoRow"))) vV=vX
 ZC8:An (PySem.W.kitOne K (.ref (Ab K "NoRiver")) (.ref (Ab K "NoRow"))) vV=vX
 ZEd:An (PySem.W.kitOne K (.ref (Ab K "NoRule")) (.ref (Ab K "NoRow"))) vV=vX
 ZEt:An (PySem.W.kitOne K (.ref (Ab K "NoHouse")) (.ref (Ab K "NoRule"))) vV=vX
 ZDi:An (PySem.W.kitOne K (.ref (Ab K "NoName")) (.ref (Ab K "NoRule"))) vV=vX
 ZCM:An (PySem.W.kitOne K (.ref (Ab K "NoNumber")) (.ref (Ab K "NoRule"))) vV=vX
 ZEV:An (PySem.W.kitOne K (.ref (Ab K "NoPump")) (.ref (Ab K "NoRule"))) vV=vX
 ZDN:An (PySem.W.kitOne K (.ref (Ab K "NoRiver")) (.ref (Ab K "NoRule"))) vV=vX
 ZEH:An (PySem.W.kitOne K (.ref (Ab K "NoRule")) (.ref (Ab K "NoRule"))) vX=vX
 ZE6:An (PySem.W.kitOne K (.ref (Ab K "NoHouse")) (.ref (Ab K "NoText"))) vV=vX
 ZDH:An (PySem.W.kitOne K (.ref (Ab K "NoName")) (.ref (Ab K "NoText"))) vV=vX
 ZBL:An (PySem.W.kitOne K (.ref (Ab K "NoNumber")) (.ref (Ab K "NoText"))) vV=vX
 ZB9:An (PySem.W.kitOne K (.ref (Ab K "NoPump")) (.ref (Ab K "NoText"))) vV=vX
 ZCn:An (PySem.W.kitOne K (.ref (Ab K "NoRiver")) (.ref (Ab K "NoText"))) vV=vX
 ZCT:An (PySem.W.kitOne K (.ref (Ab K "NoRule")) (.ref (Ab K "NoText"))) vV=vX
 ZBm:An (PySem.W.kitOne K (.ref (Ab K "NoHouse")) (.ref (Ab K "NoWay"))) vV=vX
 ZCw:An (PySem.W.kitOne K (.ref (Ab K "NoName")) (.ref (Ab K "NoWay"))) vV=vX
 ZDM:An (PySem.W.kitOne K (.ref (Ab K "NoNumber")) (.ref (Ab K "NoWay"))) vV=vX
 ZFM:An (PySem.W.kitOne K (.ref (Ab K "NoPump")) (.ref (Ab K "NoWay"))) vV=vX
 ZCk:An (PySem.W.kitOne K (.ref (Ab K "NoRiver")) (.ref (Ab K "NoWay"))) vV=vX
 ZCi:An (PySem.W.kitOne K (.ref (Ab K "NoRule")) (.ref (Ab K "NoWay"))) vV=vX
 ZDc:An (PySem.W.kitOne K (.ref (Ab K "NoHouse")) (.ref (Ab K "TooLong"))) vV=vX
 ZBn:An (PySem.W.kitOne K (.ref (Ab K "NoName")) (.ref (Ab K "TooLong"))) vV=vX
 ZCl:An (PySem.W.kitOne K (.ref (Ab K "NoNumber")) (.ref (Ab K "TooLong"))) vV=vX
 ZEJ:An (PySem.W.kitOne K (.ref (Ab K "NoPump")) (.ref (Ab K "TooLong"))) vV=vX
 ZD0:An (PySem.W.kitOne K (.ref (Ab K "NoRiver")) (.ref (Ab K "TooLong"))) vV=vX
 ZDD:An (PySem.W.kitOne K (.ref (Ab K "NoRule")) (.ref (Ab K "TooLong"))) vV=vX
 ZDu:An (PySem.W.kitOne K (.ref (Ab K "NoHouse")) (.type "ValueError")) vX=vX
 ZDK:An (PySem.W.kitOne K (.ref (Ab K "NoName")) (.type "ValueError")) vX=vX
 ZBY:An (PySem.W.kitOne K (.ref (Ab K "NoNumber")) (.type "ValueError")) vX=vX
 ZAl:An (PySem.W.kitOne K (.ref (Ab K "NoPump")) (.type "ValueError")) vX=vX
 ZBD:An (PySem.W.kitOne K (.ref (Ab K "NoRiver")) (.type "ValueError")) vX=vX
 ZE9:An (PySem.W.kitOne K (.ref (Ab K "NoRule")) (.type "ValueError")) vX=vX
section
variable{P:jI}{w:jP}{K:PySem.W.Frag}{mg:Str->Option jO}{base:Heap}
theorem ZKX(T:Txt K mg):FnOk P w K mg base CX0 1 (Dt K (Ab K "NoName") "__init__") (Cg K (Dt K (Ab K "NoName") "__init__")) ["self","place"] (spI (Ab K "NoName") "place"):=
 V6 (k:=0) T.Xr.F ZPy T.Er.X T.Ot rfl (by decide +kernel) (by decide +kernel) rfl rfl rfl rfl (.inl rfl) (.inl rfl) (λ_=>⟨_,rfl⟩)
theorem ZMP(T:Txt K mg):FnOk P w K mg base CX0 1 (Dt K (Ab K "NoNumber") "__init__") (Cg K (Dt K (Ab K "NoNumber") "__init__")) ["self","place"] (spI (Ab K "NoNumber") "place"):=
 V6 (k:=0) T.Vd.F ZMX T.Ew.X T.Ot rfl (by decide +kernel) (by decide +kernel) rfl rfl rfl rfl (.inl rfl) (.inl rfl) (λ_=>⟨_,rfl⟩)
theorem ZQ3(T:Txt K mg):FnOk P w K mg base CX0 1 (Dt K (Ab K "NoPump") "__init__") (Cg K (Dt K (Ab K "NoPump") "__init__")) ["self","place"] (spI (Ab K "NoPump") "place"):=
 V6 (k:=0) T.V8.F ZPb T.Ex.X T.Ot rfl (by decide +kernel) (by decide +kernel) rfl rfl rfl rfl (.inl rfl) (.inl rfl) (λ_=>⟨_,rfl⟩)
theorem ZNW(T:Txt K mg):FnOk P w K mg base CX0 1 (Dt K (Ab K "NoRiver") "__init__") (Cg K (Dt K (Ab K "NoRiver") "__init__")) ["self","place"] (spI (Ab K "NoRiver") "place"):=
 V6 (k:=0) T.Xx.F ZKr T.Ey.X T.Ot rfl (by decide +kernel) (by decide +kernel) rfl rfl rfl rfl (.inl rfl) (.inl rfl) (λ_=>⟨_,rfl⟩)
theorem ZQ8(T:Txt K mg):FnOk P w K mg base CX0 1 (Dt K (Ab K "NoRule") "__init__") (Cg K (Dt K (Ab K "NoRule") "__init__")) ["self","place"] (spI (Ab K "NoRule") "place"):=
 V6 (k:=0) T.ZAK.F ZMQ T.Eu.X T.Ot rfl (by decide +kernel) (by decide +kernel) rfl rfl rfl rfl (.inl rfl) (.inl rfl) (λ_=>⟨_,rfl⟩)
theorem Tz(T:Txt K mg):FnO P w K mg base 1 "_law_cell_at" ZBI Jl:=by
 refine Cz T.Mv.F ZPA λcdv A outer s H E hr=>?_
 exact(Ak (Bf (Ax Em (Aa 1) (Cm Ea rfl T.Dw Dy (Ae (Aa 0) Ai)) (nomark _)) (Av (Bc (Am Al (Aa 0) (Aa 1)))) Be) (Av (Bc Ac)))
theorem ZQi(T:Txt K mg):FnO P w K mg base 1 "_law_is_name" ZE5 Z8:=by
 refine Cz T.ZAE.F ZI4 λcdv A outer s H E hr=>?_
 exact(Ak (N7 (Kc 1 rfl ZI4.nd (Ez (dn:=(Bd Vz).names) (N0:=ZBK) (N:=["_law_sign"]) (nt:=1) (caps:=[])) (Fb (Aa 0)) (λC s₀ H₀ ex=>(Br 0 (show(["_law_sign"]:List Str).Nodup by decide +kernel))) (Dr (by decide)) (λC s₀ H₀ ex=>(Qt (Sw Ir Ir Bt (Aa 0) Bt))) (λC s₀ H₀ ex=>(Aa 0)))) (Av (Bc (Ni (ZE3 Em Em Ac (Cm Ea rfl T.Dw Dy (Ae (Aa 0) Ai)) Ac) (Ni (Fi (Bo hr.units) (Cm Ea rfl T.Dw Dy (Ae (Aa 1) Ai)) (Cm Ea rfl T.Dw Dy (Ae (Aa 0) Ai)) (nomark _)) (Ke (Fi (K9 hr.units) (Aa 0) Bt (nomark _))))))))
theorem ZJx(T:Txt K mg):FnO P w K mg base 1 "_law_stairs_good" ZEm Zi:=by
 refine Cz T.ZAZ.F O6 λcdv A outer s H E hr=>?_
 exact(Ak (Az 2 O6.nd Ac) (Ak (Il PassesOwn.never rfl (I8 rfl T.Hr (Ae (Cm Ea rfl T.Dw Dy (Ae (Aa 0) Ai)) Ai)) (Br 3 O6.nd) (Ak (N8 (Am Al (Aa 0) (Aa 3)) (Hq rfl (De (Br 4 O6.nd) (De (Br 5 O6.nd) (De (Br 6 O6.nd) Hw))))) (Ak (Bf (Cj (En (Ax Em (Aa 4) Ac (nomark _)) (En (Ax Em (Aa 5) Ac (nomark _)) (Fp (Cj (Dq (Ax (Bo hr.units) (Aa 6) Bt (nomark _)) (Ef (Ax Np (Aa 1) Fg (nomark _))))))))) (Av (Bc Hk)) Be) (Ak (Bf (Cj (Dq (Ax Fj (Aa 3) Ac (nomark _)) (Ef (Ax Em (Aa 4) (Ag Bm (Am Al (Am Al (Aa 0) (Ag Gv (Aa 3) Ac)) Ac) (Am Al (Am Al (Aa 0) (Ag Gv (Aa 3) Ac)) Ac)) (nomark _))))) (Av (Bc Hk)) Be) (Av (Bf (Ax (Bo hr.units) (Aa 6) Bt (nomark _)) (Av (Az 2 O6.nd (Ag Bm (Aa 2) (Aa 5)))) Be)))))) (Av (Bc (ZCZ (Fi Np (Aa 1) Fg (nomark _)) (Ke (Fi Ir (Aa 2) (Am Al (Aa 1) Ac) (nomark _))))))))
theorem ZJr(T:Txt K mg):FnO P w K mg base 2 "_law_rule_good" ZEv Vh:=by
 refine Cz T.Xm.F ZGU λcdv A outer s H E hr=>?_
 exact(Ak (N7 (Kc 3 rfl ZGU.nd (Ez (dn:=(Bd Ru).names) (N0:=ZAU) (N:=["_law_begin","_law_stairs_here"]) (nt:=2) (caps:=[])) (Fb (Aa 0)) (λC s₀ H₀ ex=>(Hq rfl (De (Br 0 (show(["_law_begin","_law_stairs_here"]:List Str).Nodup by decide +kernel)) (De (Br 1 (show(["_law_begin","_law_stairs_here"]:List Str).Nodup by decide +kernel)) Hw)))) (R4 (Hz (Dr (by decide)) (Hz (Dr (by decide)) Rf))) (λC s₀ H₀ ex=>Hv) (λC s₀ H₀ ex=>(Aa 0)))) (Ak (Bf (Cj (En (Ax (Bo hr.units) (Cm Ea rfl T.Dw Dy (Ae (Aa 3) Ai)) Ac (nomark _)) (En (Ax (K9 hr.units) (Am Al (Aa 3) Ac) Ac (nomark _)) (Fp (Ax o_ge (Am Al (Aa 3) (K5 Kq Ac)) (Aa 1) (nomark _)))))) (Av (Bc Hk)) Be) (Ak (Bf (Cj (En (Ax (K9 hr.units) (Aa 3) (Ay (Cm ZMy rfl T.ZQG ZQf (Ae (Aa 3) Ai))) (nomark _)) (Fp (Ax (K9 hr.units) (ZQk rfl rfl T.Dw rfl T.ZLy (Ae (Aa 3) Ai)) (Cm Ea rfl T.Dw Dy (Ae (Aa 3) Ai)) (nomark _))))) (Av (Bc Hk)) Be) (Av (Bc (Cm (ZHi rfl) rfl T.ZGd ZIu (Ae (Ay (Jy rfl (Ez (dn:=(Bd Ru).names) (N0:=ZAU) (N:=["_law_begin","_law_stairs_here","_law_pump"]) (nt:=2) (caps:=[2])) (Fb (Aa 0)) (λC s₀ H₀ ex=>(Hq rfl (De (Br 0 (show(["_law_begin","_law_stairs_here","_law_pump"]:List Str).Nodup by decide +kernel)) (De (Br 1 (show(["_law_begin","_law_stairs_here","_law_pump"]:List Str).Nodup by decide +kernel)) Hw)))) (R4 (Hz (Dr (by decide)) (Hz (Dr (by decide)) Rf))) (λC s₀ H₀ ex=>Hv) (λC s₀ H₀ ex=>(Bs (ZJx T) T.ZAZ hr (Ae (Aa 1) (Ae (Aa 2) Ai)))))) Ai)))))))
theorem ZJ1(T:Txt K mg):FnO P w K mg base 3 "_law_due" ZDJ Ug:=by
 refine Cz T.W5.F Yl λcdv A outer s H E hr=>?_
 exact(Ak (Az 3 Yl.nd (Am Al (Aa 0) (Aa 1))) (Ak (N7 (Kc 4 rfl Yl.nd (Ez (dn:=(Bd Wx).names) (N0:=ZB7) (N:=["_law_other"]) (nt:=1) (caps:=[])) (Fb (Aa 0)) (λC s₀ H₀ ex=>(Br 0 (show(["_law_other"]:List Str).Nodup by decide +kernel))) (Dr (by decide)) (λC s₀ H₀ ex=>Hv) (λC s₀ H₀ ex=>(Am Al (Aa 0) Ac)))) (Ak (Bf (Cj (En (I9 (Jh (Bs (ZQi T) T.ZAE hr (Ae (Am Al (Aa 3) Ac) Ai)))) (Fp (Ax Sx (Am Al (Aa 3) Ac) (Ay (Cp (Aa 4) Dg (By (Aa 1)))) (by with_unfolding_all rfl))))) (Av (Bc Ac)) Be) (Ak (Bf (Cj (En (Ax ZEk (Am Al (Aa 3) Ac) (Ay (Ag Bm (Ay (Cp (Aa 4) (By (Ag Bm (Aa 1) Ac)) Dg)) (Ay (Dk (Ae Bt Ai))))) (by with_unfolding_all rfl)) (En (Ax Em (Am Al (Aa 3) Ac) Ac (nomark _)) (Fp (Ax Fj (Am Al (Aa 3) Ac) Ac (nomark _)))))) (Av (Bc Ac)) Be) (Ak (Bf (Cj (En (Ax Em (Am Al (Aa 3) Ac) Ac (nomark _)) (Fp (Cj (Dq (Ax (Bo hr.units) (Am Al (Aa 3) Ac) Bt (nomark _)) (Ef (Ax Em (Am Al (Aa 3) Ac) Ac (nomark _)))))))) (Av (Bc Ac)) Be) (Ak (Bf (Ax (K9 hr.units) (Am Al (Aa 3) Ac) Bt (nomark _)) (Av (Bc Ac)) Be) (Ak (Az 5 Yl.nd (Am Al (Aa 3) Ac)) (Ak (Bf (Cj (Dq (Ax Mw (Aa 5) Fg (nomark _)) (Ef (Ax Em (Am Al (Aa 5) Ac) Ac (nomark _))))) (Av (Bc Ac)) Be) (Ak (Bf (Cj (Dq (Ax Mw (Aa 5) Fg (nomark _)) (Ef (Ax ZEk (Am Al (Aa 5) Ac) (Ay (Ag Bm (Ay (Cp (Aa 4) Dg (By (Aa 1)))) (Ay (Cp (Aa 4) (By (Ag Bm (Aa 1) Ac)) Dg)))) (by with_unfolding_all rfl))))) (Av (Bc Ac)) Be) (Ak (Bf (Cj (Dq (Ax Mw (Aa 5) Fg (nomark _)) (Ef (Cj (En (Ax Em (Am Al (Aa 5) Ac) Ac (nomark _)) (Fp (Ax Fj (Am Al (Aa 5) Ac) Ac (nomark _)))))))) (Av (Bc Ac)) Be) (Ak (Bf (I9 (Jh (Bs (ZJr T) T.Xm hr (Ae (Am Al (Aa 3) Ac) (Ae (Aa 2) (Ae (Aa 5) Ai)))))) (Av (Bc Ac)) Be) (Av (Bc Ac)))))))))))))
theorem ZM8(T:Txt K mg):FnO P w K mg base 4 "_law_first" ZDm N5:=by
 refine Cz T.Zk.F U7 λcdv A outer s H E hr=>?_
 exact(Ak (N8 (Aa 0) (Hq rfl (De (Br 1 U7.nd) (De (Br 2 U7.nd) Hw)))) (Ak (Bf (Cj (En (Ax Em (Aa 1) Ac (nomark _)) (En (Ax Fj (Aa 1) Ac (nomark _)) (Fp (Ax (Bo hr.units) (Cm Ea rfl T.Dw Dy (Ae (Aa 2) Ai)) Ac (nomark _)))))) (Av (Bc (Bw (Ae Ac (Ae Ac Ai))))) Be) (Ak (Il PassesOwn.never rfl (I8 rfl T.Hr (Ae (Cm Ea rfl T.Dw Dy (Ae (Aa 2) Ai)) Ai)) (Br 3 U7.nd) (Ak (Az 4 U7.nd (Bs (ZJ1 T) T.W5 hr (Ae (Aa 2) (Ae (Aa 3) (Ae (Aa 1) Ai))))) (Av (Bf (Ax Fj (Aa 4) Ac (nomark _)) (Av (Bc (Bw (Ae (Aa 4) (Ae (Aa 3) Ai))))) Be)))) (Av (Bc Fg)))))
theorem ZQo(T:Txt K mg):FnO P w K mg base 1 "_law_held" ZB4 U4:=by
 refine Cz T.Vp.F ZJg λcdv A outer s H E hr=>?_
 exact(Ak (N7 (Kc 2 rfl ZJg.nd (Ez (dn:=(Bd W0).names) (N0:=ZDY) (N:=["_law_k","_law_places"]) (nt:=1) (caps:=[0])) (I8 rfl T.Hr (Ae (Cm Ea rfl T.Dw Dy (Ae (Aa 0) Ai)) Ai)) (λC s₀ H₀ ex=>(Br 0 (show(["_law_k","_law_places"]:List Str).Nodup by decide +kernel))) (Dr (by decide)) (λC s₀ H₀ ex=>(Qt (Cj (Dq (Ax (Bo hr.units) (Am Al (Am Al (Aa 1) (Aa 0)) Ac) Bt (nomark _)) (Ef (Ax Mw (Am Al (Am Al (Aa 1) (Aa 0)) Ac) Fg (nomark _))))))) (λC s₀ H₀ ex=>(Aa 0)))) (Ak (Bf (Cj (En (Ax (Bo hr.units) (Ag Bk (Am Al (Aa 1) Ac) Ac) Ac (nomark _)) (Fp (Ax (Bo hr.units) (Cm Ea rfl T.Dw Dy (Ae (Aa 2) Ai)) Ac (nomark _))))) (Av (Bc Fg)) Be) (Av (Bc (Am Al (Aa 2) (Ag Bk (Am Al (Aa 1) Ac) (Cm Ea rfl T.Dw Dy (Ae (Aa 2) Ai))))))))
theorem ZQV(T:Txt K mg):FnO P w K mg base 1 "_law_free_names" ZAj Xu:=by
 refine Cz T.ZAQ.F Kv λcdv A outer s H E hr=>?_
 exact(Ak (Az 1 Kv.nd Bt) (Ak (Az 2 Kv.nd (N6 (Dk Ai))) (Ak (Il PassesOwn.never rfl (Fb (Aa 0)) (Br 3 Kv.nd) (Ak (Az 4 Kv.nd Bt) (Ak (Az 5 Kv.nd (Ag Eg (Aa 3) Ac)) (Ak (Il PassesOwn.never rfl (I8 rfl T.Hr (Ae (Ag Bm Ac (Ag Bk (Aa 3) Ac)) Ai)) (Br 6 Kv.nd) (Ak (Az 4 Kv.nd (Ag Bm (Aa 4) (Am Al (Aa 1) (Ag Bk (Aa 5) Ac)))) (Av (Az 5 Kv.nd (Ag Eg (Aa 5) Ac))))) (Ak (Az 7 Kv.nd (Ay (Ag Bm (Ay (Dk (Ae (Aa 4) Ai))) (Ay (Jy rfl (Ez (dn:=(Bd Tr).names) (N0:=Xz) (N:=["_law_letter"]) (nt:=1) (caps:=[])) (Fb (Aa 1)) (λC s₀ H₀ ex=>(Br 0 (show(["_law_letter"]:List Str).Nodup by decide +kernel))) (Dr (by decide)) (λC s₀ H₀ ex=>Hv) (λC s₀ H₀ ex=>(Ag Bm Bt (Aa 0)))))))) (Av (Nm (Pr PySem.F.slot_list_append PySem.F.type_list_append Rc (Aa 2) (Ae (Am Al (Ay (Jy rfl (Ez (dn:=(Bd Tr).names) (N0:=Xz) (N:=["_law_one","_law_names_here"]) (nt:=1) (caps:=[2])) (Fb (Aa 7)) (λC s₀ H₀ ex=>(Br 0 (show(["_law_one","_law_names_here"]:List Str).Nodup by decide +kernel))) (Dr (by decide)) (λC s₀ H₀ ex=>(Qt (Cj (Dq (Ax ZEk (Aa 0) (Aa 1) (by with_unfolding_all rfl)) (Ef (Ax (K9 hr.units) (Aa 0) Bt (nomark _))))))) (λC s₀ H₀ ex=>(Aa 0)))) Ac) Ai))))))))) (Av (Bc (Aa 2))))))
theorem ZBC(T:Txt K mg):FnO P w K mg base 1 "_law_stream" ZDb Kp:=by
 refine Cz T.P0.F Mu λcdv A outer s H E hr=>?_
 exact(Ak (Az 3 Mu.nd (Ag Bk (Ag Fl (Ag Bm (Ag Bk (Aa 0) Ac) Ac) (Ag Bm (Ag Fl (Ag Fl Ac (Aa 1)) (Aa 1)) Ac)) Ac)) (Ak (Az 4 Mu.nd Ac) (Ak (Bf (Cj (En (Ax Em (Aa 0) Ac (nomark _)) (Fp (Ax o_ge (Aa 0) (Ag La Ac Ac) (nomark _))))) (Av (Az 4 Mu.nd (Cm (Yy rfl) rfl T.Sv Rz (Ae (Aa 0) (Ae (Ag Gv Ac (Aa 0)) Ai))))) Be) (Ak (Az 5 Mu.nd (N6 (Dk Ai))) (Ak (Il PassesOwn.never rfl (I8 rfl T.Hr (Ae (Aa 2) Ai)) (Br 6 Mu.nd) (Ak (Az 3 Mu.nd (Ag Bk (Ag Bm (Ag Bm (Ag Fl (Aa 3) (Aa 3)) (Ag Fl Ac (Aa 6))) Ac) Ac)) (Ak (Nm (Pr PySem.F.slot_list_append PySem.F.type_list_append Rc (Aa 5) (Ae (Am Al (Ay (Dk (Ae (Aa 3) (Ae (Ag Bk (Aa 4) (Ag La Ac Ac)) Ai)))) (Qi ZFa rfl T.ZD4 ZEx (Ae (Fi Fj (Aa 4) Ac (nomark _)) Ai))) Ai))) (Av (Az 4 Mu.nd (Ag Eg (Aa 4) (Ag La Ac Ac))))))) (Av (Bc (Aa 5))))))))
theorem ZK0(T:Txt K mg):FnO P w K mg base 2 "_law_names" ZAg Mi:=by
 refine Cz T.Yt.F Gf λcdv A outer s H E hr=>?_
 exact(Ak (Az 1 Gf.nd Bt) (Ak (Az 2 Gf.nd (Ay (Bs (ZBC T) T.P0 hr (Ae (Aa 0) (Ae Ac (Ae Ac Ai)))))) (Ak (Bf (Ax Fj (Am Al (Aa 2) Ac) Ac (nomark _)) (Av (Bc (Bs (ZQV T) T.ZAQ hr (Ae (Ay (Cp (Aa 2) (By Ac) (By Ac))) Ai)))) Be) (Ak (Az 3 Gf.nd (ZHa PySem.F.slot_str_join PySem.F.type_str_join ZPg Bt (Ae (Ay (Jy rfl (Ez (dn:=(Bd O9).names) (N0:=Qg) (N:=["_law_x","_law_letters"]) (nt:=1) (caps:=[1])) (Fb (Ay (Cp (Aa 2) Dg (By Ac)))) (λC s₀ H₀ ex=>(Br 0 (show(["_law_x","_law_letters"]:List Str).Nodup by decide +kernel))) (Dr (by decide)) (λC s₀ H₀ ex=>Hv) (λC s₀ H₀ ex=>(Am Al (Aa 1) (Ag Bk (Aa 0) Ac))))) Ai))) (Ak (Bf (Ax (Bo hr.units) (Ag Bk (Ag Eg (Am Al (Aa 2) Ac) Ac) Ac) Ac (nomark _)) (Av (Az 3 Gf.nd (Ay (Cp (Ay (Ag Bm (Am Al (Ay (Dk (Ae Bt (Ae Bt Ai)))) (Ag Bk (Ag Eg (Am Al (Aa 2) Ac) Ac) Ac)) (Ay (Cp (Aa 3) (By Ac) Dg)))) Dg (By Ac))))) Be) (Ak (Bf (Ax (Bo hr.units) (Ag Bk (Am Al (Aa 2) Ac) Ac) Ac (nomark _)) (Ak (Az 4 Gf.nd (Ag Bk (Ag Bm (Ag Bm (ZHa PySem.F.slot_str_find PySem.F.type_str_find m_find (Aa 1) (Ae (Am Al (Aa 3) Ac) Ai)) Ac) (Ag Bk (Am Al (Aa 2) Ac) Ac)) Ac)) (Ak (Az 5 Gf.nd (Ay (Ag Bm (Am Al (Aa 1) (Aa 4)) (Ay (Cp (Aa 3) (By Ac) Dg))))) (Ak (Kc 6 rfl Gf.nd (Ez (dn:=(Bd O9).names) (N0:=Qg) (N:=["_law_k","_law_word"]) (nt:=1) (caps:=[3])) (I8 rfl T.Hr (Ae Ac Ai)) (λC s₀ H₀ ex=>(Br 0 (show(["_law_k","_law_word"]:List Str).Nodup by decide +kernel))) (Dr (by decide)) (λC s₀ H₀ ex=>Hv) (λC s₀ H₀ ex=>(Ay (Cp (Aa 1) Dg (By (Ag Bm (Aa 0) Ac)))))) (Ak (Az 6 Gf.nd (N6 (Ag Bm (Aa 6) (Ay (Jy rfl (Ez (dn:=(Bd O9).names) (N0:=Qg) (N:=["_law_k","_law_other"]) (nt:=1) (caps:=[5])) (I8 rfl T.Hr (Ae Ac Ai)) (λC s₀ H₀ ex=>(Br 0 (show(["_law_k","_law_other"]:List Str).Nodup by decide +kernel))) (Dr (by decide)) (λC s₀ H₀ ex=>Hv) (λC s₀ H₀ ex=>(Ay (Cp (Aa 1) Dg (By (Ag Bm (Aa 0) Ac)))))))))) (Ak (Kc 6 rfl Gf.nd (Ez (dn:=(Bd O9).names) (N0:=Qg) (N:=["_law_name"]) (nt:=1) (caps:=[])) (Fb (Aa 6)) (λC s₀ H₀ ex=>(Br 0 (show(["_law_name"]:List Str).Nodup by decide +kernel))) (Dr (by decide)) (λC s₀ H₀ ex=>Hv) (λC s₀ H₀ ex=>(Am Al (Ay (Dk (Ae (Aa 0) (Ae Bt Ai)))) (Qi ZFa rfl T.ZD4 ZEx (Ae (Fi (Bo hr.units) (Aa 0) Bt (nomark _)) Ai))))) (Av (Bc (Ag Bm (Ay (Cp (Aa 6) (By (Ag Bk (Am Al (Aa 2) Ac) Ac)) Dg)) (Ay (Cp (Aa 6) Dg (By (Ag Bk (Am Al (Aa 2) Ac) Ac)))))))))))) Be) (Ak (Az 9 Gf.nd (Ag Bk (Ag Eg (Am Al (Aa 2) Ac) Ac) Ac)) (Ak (Az 10 Gf.nd (Ag Bk (Am Al (Aa 2) Ac) (Ag Bm (Aa 9) Ac))) (Ak (Az 6 Gf.nd (N6 (Dk Ai))) (Ak (Il PassesOwn.never rfl (I8 rfl T.Hr (Ae Ac Ai)) (Br 7 Gf.nd) (Ak (Az 11 Gf.nd (Am Al (Aa 1) (Ag Bk (Ag Bm (Am Al (Aa 2) Ac) (Ag Fl Ac (Aa 7))) Ac))) (Ak (Az 8 Gf.nd (Ay (Ag Bm (Ay (Ag Bm (Ay (Cp (Aa 3) Dg (By (Aa 10)))) (Aa 11))) (Ay (Cp (Aa 3) (By (Aa 10)) (By (Aa 9))))))) (Ak (Bf (Ax (Bo hr.units) (Aa 8) Bt (nomark _)) (Av (Az 8 Gf.nd Bt)) Be) (Av (Nm (Pr PySem.F.slot_list_append PySem.F.type_list_append Rc (Aa 6) (Ae (Aa 8) Ai)))))))) (Av (Bc (Aa 6)))))))))))))
theorem ZNS(T:Txt K mg):FnO P w K mg base 1 "_law_more" ZE4 S9:=by
 refine Cz T.Wg.F ZLg λcdv A outer s H E hr=>?_
 exact(Ak (Bf (Ax Fj (Aa 0) Ac (nomark _)) (Av (Bc (Ag Fl (Ag Bk (Ag Eg (Aa 0) Ac) (Ag La Ac Ac)) (Ag Bk (Aa 0) Ac)))) Be) (Av (Bc (Ag Fl (Ag Bk (Aa 0) Ac) (Ag Bk (Ag Eg (Aa 0) Ac) Ac)))))
theorem Qv(T:Txt K mg):FnO P w K mg base 1 "_law_number" ZA8 Lq:=by
 refine Cz T.Lj.F ZNc λcdv A outer s H E hr=>?_
 exact(Ak (Bf (Ax (Bo hr.units) (Ag Bk (Aa 0) Ac) Ac (nomark _)) (Av (Bc Ac)) Be) (Ak (Bf (Cj (Dq (Ax (Bo hr.units) (Ag Bk (Aa 0) Ac) Ac (nomark _)) (Ef (Ax Fj (Aa 0) Ac (nomark _))))) (Av (Bc (Ag Bk (Ag Eg (Aa 0) Ac) (Ag La Ac Ac)))) Be) (Ak (Bf (Ax (Bo hr.units) (Ag Bk (Aa 0) Ac) Ac (nomark _)) (Av (Bc (Ag Bk (Ag Fl (Aa 1) (Ag Bm (Ag Eg (Aa 0) Ac) Ac)) (Ag La Ac Ac)))) Be) (Av (Bc (Ag Bk (Ag Eg (Aa 0) Ac) Ac))))))
theorem ZNr(T:Txt K mg):FnO P w K mg base 1 "_law_pumped" ZEj Zw:=by
 refine Cz T.Y4.F ZNM λcdv A outer s H E hr=>?_
 exact(Av (Bc (Cm (ZPa rfl) rfl T.Sv Rz (Ae (Ay (Jy rfl (Ez (dn:=(Bd Zj).names) (N0:=ZAt) (N:=["_law_begin","_law_stairs_here"]) (nt:=2) (caps:=[])) (Fb (Aa 0)) (λC s₀ H₀ ex=>(Hq rfl (De (Br 0 (show(["_law_begin","_law_stairs_here"]:List Str).Nodup by decide +kernel)) (De (Br 1 (show(["_law_begin","_law_stairs_here"]:List Str).Nodup by decide +kernel)) Hw)))) (R4 (Hz (Dr (by decide)) (Hz (Dr (by decide)) Rf))) (λC s₀ H₀ ex=>Hv) (λC s₀ H₀ ex=>(Cm (ZCv rfl) rfl T.ZDT ZAm (Ae (Ay (Jy rfl (ZOm (N:=["_law_height","_law_many","_law_way"]) (nt:=3)) (Fb (Aa 1)) (λC s₀ H₀ ex=>(Hq rfl (De (Br 0 (show(["_law_height","_law_many","_law_way"]:List Str).Nodup by decide +kernel)) (De (Br 1 (show(["_law_height","_law_many","_law_way"]:List Str).Nodup by decide +kernel)) (De (Br 2 (show(["_law_height","_law_many","_law_way"]:List Str).Nodup by decide +kernel)) Hw))))) (R4 (Hz (Dr (by decide)) (Hz (Dr (by decide)) (Hz (Dr (by decide)) Rf)))) (λC s₀ H₀ ex=>(Qt (Ax (Bo hr.units) (Aa 2) Bt (nomark _)))) (λC s₀ H₀ ex=>(Aa 1)))) Ai))))) Ai))))
theorem ZKP(T:Txt K mg):FnO P w K mg base 2 "_law_stairs" ZDG Xq:=by
 refine Cz T.Yb.F M4 λcdv A outer s H E hr=>?_
 exact(Ak (Az 3 M4.nd (N6 (Dk Ai))) (Ak (Az 4 M4.nd Ac) (Ak (Il PassesOwn.never rfl (I8 rfl T.Hr (Ae (Ag Bk (Am Al (Aa 0) Ac) Ac) Ai)) (Br 5 M4.nd) (Ak (Az 6 M4.nd (Ag Bm (Aa 4) (Bs (Qv T) T.Lj hr (Ae (Am Al (Aa 0) (Ag Bm Ac (Ag Fl Ac (Aa 5)))) (Ae (Aa 1) Ai))))) (Ak (Az 7 M4.nd (Ag Bm Ac (Bs (Qv T) T.Lj hr (Ae (Am Al (Aa 0) (Ag Bm Ac (Ag Fl Ac (Aa 5)))) (Ae (Aa 1) Ai))))) (Ak (Az 8 M4.nd Bt) (Ak (Bf (Cj (Dq (Jh (Aa 2)) (Ef (Ax (Bo hr.units) (Ag Bk (Ag Eg (Am Al (Aa 0) (Ag Bm Ac (Ag Fl Ac (Aa 5)))) Ac) Ac) Ac (nomark _))))) (Av (Az 8 M4.nd Bt)) Be) (Ak (Nm (Pr PySem.F.slot_list_append PySem.F.type_list_append Rc (Aa 3) (Ae (Bw (Ae (Aa 6) (Ae (Aa 7) (Ae (Aa 8) Ai)))) Ai))) (Av (Az 4 M4.nd (Ag Bm (Aa 6) (Aa 7)))))))))) (Av (Bc (Qi Xg rfl T.Ux U8 (Ae (Aa 3) Ai)))))))
theorem ZM6(T:Txt K mg):FnO P w K mg base 3 "_law_rule" ZAi Vt:=by
 refine Cz T.Yi.F Tt λcdv A outer s H E hr=>?_
 exact(Ak (Az 4 Tt.nd (N6 (Dk Ai))) (Ak (Az 5 Tt.nd Ac) (Ak (Il PassesOwn.never rfl (I8 rfl T.Hr (Ae Ac Ai)) (Br 6 Tt.nd) (Av (Bf (Cj (En (Ax (Bo hr.units) (Aa 6) Ac (nomark _)) (Fp (Cj (Dq (Ax Fj (Ag Bk (Am Al (Aa 0) (Aa 6)) Ac) Ac (nomark _)) (Ef (Ax Em (Aa 5) (Aa 2) (nomark _)))))))) (Ak (Nm (Pr PySem.F.slot_list_append PySem.F.type_list_append Rc (Aa 4) (Ae (Bw (Ae (Aa 5) (Ae (Bs (ZKP T) T.Yb hr (Ae (Ay (Cp (Aa 0) (By (Ag Bm Ac (Ag Fl Ac (Aa 6)))) (By (Ag Bm Ac (Ag Fl Ac (Aa 6)))))) (Ae (Aa 1) (Ae (Aa 3) Ai)))) Ai))) Ai))) (Av (Az 5 Tt.nd (Ag Bm (Ag Bm (Aa 5) Ac) (Ag Bk (Ag Eg (Am Al (Aa 0) (Aa 6)) Ac) Ac))))) Be))) (Av (Bc (Qi Xg rfl T.Ux U8 (Ae (Aa 4) Ai)))))))
theorem ZMb(T:Txt K mg):FnO P w K mg base 4 "_law_place" ZEK Nb:=by
 refine Cz T.Zv.F K3 λcdv A outer s H E hr=>?_
 exact(Ak (Az 5 K3.nd (Ay (Bs (ZBC T) T.P0 hr (Ae (Aa 4) (Ae (Aa 2) (Ae Ac Ai)))))) (Ak (Az 6 K3.nd Bt) (Ak (Bf (Ax Fj (Ag Bk (Am Al (Aa 5) Ac) (Ag Gv (Aa 1) (Aa 2))) Ac (nomark _)) (Av (Az 6 K3.nd (Am Al (Aa 0) (Ag Bm (Aa 2) (Ag Bk (Am Al (Aa 5) Ac) (Ag Gv (Aa 1) (Aa 2))))))) Be) (Ak (Az 7 K3.nd (Bw (Ae (Am Al (Aa 0) (Aa 2)) (Ae (Aa 6) (Ae (Ag Bk (Am Al (Aa 5) Ac) Ac) Ai))))) (Ak (Bf (Ax (Bo hr.units) (Ag Bk (Am Al (Aa 5) Ac) Ac) Ac (nomark _)) (Av (Bc (Ag Bm (Ag Bm (Bw (Ae Bt Ai)) (Aa 7)) (Bw (Ae (Bs (Qv T) T.Lj hr (Ae (Am Al (Aa 5) Ac) (Ae (Aa 4) Ai))) Ai))))) Be) (Ak (Bf (Ax (Bo hr.units) (Ag Bk (Am Al (Aa 5) Ac) Ac) Ac (nomark _)) (Av (Bc (Ag Bm (Ag Bm (Bw (Ae Bt Ai)) (Aa 7)) (Bw (Ae (Bs (Qv T) T.Lj hr (Ae (Am Al (Aa 5) Ac) (Ae (Aa 4) Ai))) (Ae (Bs (Qv T) T.Lj hr (Ae (Am Al (Aa 5) Ac) (Ae (Aa 4) Ai))) Ai)))))) Be) (Ak (Az 8 K3.nd (Ni (Fi Fj (Aa 1) Ac (nomark _)) (Ke (Fi Fj (Ag Bk (Am Al (Aa 5) Ac) Ac) Ac (nomark _))))) (Ak (Az 9 K3.nd (Bs (ZM6 T) T.Yi hr (Ae (Ay (Cp (Aa 5) (By Ac) (By Ac))) (Ae (Aa 4) (Ae (Aa 3) (Ae (Aa 8) Ai)))))) (Ak (Az 10 K3.nd Fg) (Ak (Bf (Jh (Aa 8)) (Ak (Az 11 K3.nd (Ag Bk (Ag Bm (Ag Bm (Aa 2) Ac) (Ag Bk (Am Al (Aa 5) Ac) (Ag Gv (Aa 1) Ac))) (Aa 1))) (Av (Az 10 K3.nd (Bw (Ae (Am Al (Aa 0) (Aa 11)) (Ae (Ag Bm Ac (Ag Bk (Am Al (Aa 5) Ac) Ac)) (Ae (Ag Bm (Bs (ZNr T) T.Y4 hr (Ae (Aa 9) Ai)) (Bs (ZNS T) T.Wg hr (Ae (Am Al (Aa 5) Ac) Ai))) Ai))))))) Be) (Av (Bc (Ag Bm (Ag Bm (Bw (Ae Bt Ai)) (Aa 7)) (Bw (Ae (Bs (Qv T) T.Lj hr (Ae (Am Al (Aa 5) Ac) (Ae (Aa 4) Ai))) (Ae (Aa 9) (Ae (Aa 10) Ai)))))))))))))))))
theorem ZNY(T:Txt K mg):FnO P w K mg base 5 "_law_house" ZC7 Ph:=by
 refine Cz T.Zz.F Ui λcdv A outer s H E hr=>?_
 exact(Ak (Az 2 Ui.nd (Ag Bm Ac (Ag Bk (Bs (Tz T) T.Mv hr (Ae (Aa 0) (Ae (Aa 1) Ai))) Ac))) (Ak (Az 3 Ui.nd (Ag Bm Ac (Ag Bk (Bs (Tz T) T.Mv hr (Ae (Aa 0) (Ae (Ag Bm (Aa 1) Ac) Ai))) Ac))) (Ak (Az 4 Ui.nd (Ay (Bs (ZK0 T) T.Yt hr (Ae (Bs (Tz T) T.Mv hr (Ae (Aa 0) (Ae (Ag Bm (Aa 1) Ac) Ai))) Ai)))) (Ak (N7 (Kc 5 rfl Ui.nd (Ez (dn:=(Bd ZAY).names) (N0:=ZCa) (N:=["_law_k","_law_script","_law_at","_law_many","_law_year","_law_names_here"]) (nt:=1) (caps:=[0,1,2,3,4])) (I8 rfl T.Hr (Ae (Aa 2) Ai)) (λC s₀ H₀ ex=>(Br 0 (show(["_law_k","_law_script","_law_at","_law_many","_law_year","_law_names_here"]:List Str).Nodup by decide +kernel))) (Dr (by decide)) (λC s₀ H₀ ex=>Hv) (λC s₀ H₀ ex=>(Bs (ZMb T) T.Zv hr (Ae (Aa 5) (Ae (Aa 3) (Ae (Aa 0) (Ae (Aa 4) (Ae (Bs (Tz T) T.Mv hr (Ae (Aa 1) (Ae (Ag Bm (Ag Bm (Aa 2) Ac) (Aa 0)) Ai))) Ai))))))))) (Av (Bc (Bw (Ae (Aa 3) (Ae (Qi Xg rfl T.Ux U8 (Ae (Aa 5) Ai)) Ai)))))))))
theorem Fe(T:Txt K mg):FnO P w K mg base 1 "_law_put" ZEh Ci:=by
 refine Cz T.Eo.F ZN5 λcdv A outer s H E hr=>?_
 exact(Av (Bc (Ag Dv (Ay (Ag Dv (Ay (Cp (Aa 0) Dg (By (Aa 1)))) (Bw (Ae (Aa 2) Ai)))) (Ay (Cp (Aa 0) (By (Ag Dv (Aa 1) Ac)) Dg)))))
theorem ZLE(T:Txt K mg):FnO P w K mg base 1 "_law_whole" ZC3 Y0:=by
 refine Cz T.Vl.F ZLf λcdv A outer s H E hr=>?_
 exact(Av (Bc (Ni (Cm ZDh rfl T.Ge Xp (Ae (Aa 0) (Ae (ZFA rfl T.ZD4 ZEx) Ai))) (Ke (ZKm (Cm ZDh rfl T.Ge Xp (Ae (Aa 0) (Ae (ZFA rfl T.ZKM ZOs) Ai))))))))
theorem ZOZ(T:Txt K mg):FnO P w K mg base 1 "is_name" ZAk Uc:=by
 refine Cz T.Yw.F ZQp λcdv A outer s H E hr=>?_
 exact(Ak (Bf (Cj (En (Ax (Bo hr.units) (Aa 0) (Do (v:=(.str "sea")) rfl T.Z9 ⟨_,rfl⟩ (λ_ _=>rfl)) (nomark _)) (Fp (I9 (Sw Ir Ir Ac (Cm Ea rfl T.Dw Dy (Ae (Aa 0) Ai)) Ac))))) (Av (Bc Hk)) Be) (Av (Bc (Cm (ZHi rfl) rfl T.ZGd ZIu (Ae (Ay (Jy rfl (Ez (dn:=(Bd Z6).names) (N0:=ZEy) (N:=["sign"]) (nt:=1) (caps:=[])) (Fb (Aa 0)) (λC s₀ H₀ ex=>(Br 0 (show(["sign"]:List Str).Nodup by decide +kernel))) (Dr (by decide)) (λC s₀ H₀ ex=>Hv) (λC s₀ H₀ ex=>(Fi Sx (Aa 0) (Do (v:=(.str "abcdefghijklmnopqrstuvwxyz")) rfl T.ZFG ⟨_,rfl⟩ (λ_ _=>rfl)) (by with_unfolding_all rfl))))) Ai)))))
theorem ZPK(T:Txt K mg):FnO P w K mg base 1 "is_pump_good" ZCV Ol:=by
 refine Cz T.V9.F ZQA λcdv A outer s H E hr=>?_
 exact(Ak (Bf (Ax Np (Aa 0) Fg (nomark _)) (Av (Bc Hk)) Be) (Av (Bc (Ni (Fi Sx (Am Al (Aa 0) (Do (v:=(.int 0)) rfl T.ZDt ⟨_,rfl⟩ (λ_ _=>rfl))) (Aa 1) (by with_unfolding_all rfl)) (Ke (ZE3 Ir Ir Ac (Am Al (Aa 0) (Do (v:=(.int 1)) rfl T.ZBH ⟨_,rfl⟩ (λ_ _=>rfl))) Ac))))))
theorem ZMi(T:Txt K mg):FnO P w K mg base 1 "is_river_good" ZCj U6:=by
 refine Cz T.W6.F ZP0 λcdv A outer s H E hr=>?_
 exact(Av (Bc (Ni (ZCZ (Fi (Bo hr.units) (Am Al (Aa 0) (Do (v:=(.int 2)) rfl T.Y9 ⟨_,rfl⟩ (λ_ _=>rfl))) (Do (v:=(.str "sea")) rfl T.Z9 ⟨_,rfl⟩ (λ_ _=>rfl)) (nomark _)) (Ke (Fi Sx (Am Al (Aa 0) (Do (v:=(.int 2)) rfl T.Y9 ⟨_,rfl⟩ (λ_ _=>rfl))) (Aa 1) (by with_unfolding_all rfl)))) (Ke (ZE3 Ir Ir Ac (Am Al (Aa 0) (Do (v:=(.int 3)) rfl T.ZCo ⟨_,rfl⟩ (λ_ _=>rfl))) Ac)))))
theorem ZK3(T:Txt K mg):FnO P w K mg base 1 "are_seasons_good" ZC6 Yo:=by
 refine Cz T.Vo.F Um λcdv A outer s H E hr=>?_
 exact(Ak (Bf (Cj (En (Ax (Bo hr.units) (Cm Ea rfl T.Dw Dy (Ae (Aa 0) Ai)) Ac (nomark _)) (Fp (Ax (K9 hr.units) (Am Al (Am Al (Aa 0) Ac) Ac) Ac (nomark _))))) (Av (Bc Hk)) Be) (Ak (Az 2 Um.nd (K5 Kq Ac)) (Ak (Il PassesOwn.never rfl (Fb (Aa 0)) (Hq rfl (De (Br 3 Um.nd) (De (Br 4 Um.nd) Hw))) (Ak (Bf (I9 (Sw Em Em (Aa 2) (Aa 3) (Aa 1))) (Av (Bc Hk)) Be) (Av (Az 2 Um.nd (Aa 3))))) (Av (Bc Hk)))))
theorem ZO0(T:Txt K mg):FnO P w K mg base 1 "are_steps_good" ZA9 Vj:=by
 refine Cz T.Ym.F Qo λcdv A outer s H E hr=>?_
 exact(Ak (Az 1 Qo.nd Ac) (Ak (Il PassesOwn.never rfl (Fb (Aa 0)) (Hq rfl (De (Br 2 Qo.nd) (De (Br 3 Qo.nd) (De (Br 4 Qo.nd) Hw)))) (Ak (Bf (Cj (En (Ax Em (Aa 2) (Aa 1) (nomark _)) (Fp (Ax Em (Aa 3) Ac (nomark _))))) (Av (Bc Hk)) Be) (Av (Az 1 Qo.nd (Ag Bm (Aa 2) (Aa 3)))))) (Av (Bc Hk))))
theorem ZQ9(T:Txt K mg):FnO P w K mg base 1 "can_pump" ZD3 Wc:=by
 refine Cz T.Va.F ZIq λcdv A outer s H E hr=>?_
 exact(Ak (N7 (Kc 2 rfl ZIq.nd (Ez (dn:=(Bd Xh).names) (N0:=ZD9) (N:=["height","many","way"]) (nt:=3) (caps:=[])) (Fb (Aa 0)) (λC s₀ H₀ ex=>(Hq rfl (De (Br 0 (show(["height","many","way"]:List Str).Nodup by decide +kernel)) (De (Br 1 (show(["height","many","way"]:List Str).Nodup by decide +kernel)) (De (Br 2 (show(["height","many","way"]:List Str).Nodup by decide +kernel)) Hw))))) (R4 (Hz (Dr (by decide)) (Hz (Dr (by decide)) (Hz (Dr (by decide)) Rf)))) (λC s₀ H₀ ex=>(Qt (Ax (Bo hr.units) (Aa 2) Bt (nomark _)))) (λC s₀ H₀ ex=>(Aa 1)))) (Ak (Bf (Ax Np (Aa 1) Fg (nomark _)) (Av (Bc (Fi (Bo hr.units) (Cm Ea rfl T.Dw Dy (Ae (Aa 2) Ai)) Ac (nomark _)))) Be) (Av (Bc (Fi Ir (Cm (ZCv rfl) rfl T.ZDT ZAm (Ae (Aa 2) Ai)) (Am Al (Aa 1) (Do (v:=(.int 2)) rfl T.Zu ⟨_,rfl⟩ (λ_ _=>rfl))) (nomark _))))))
theorem ZO4(T:Txt K mg):FnO P w K mg base 2 "is_rule_good" ZB6 Og:=by
 refine Cz T.Vi.F ZDE λcdv A outer s H E hr=>?_
 exact(Ak (Bf (I9 (Jh (Bs (ZK3 T) T.Vo hr (Ae (Aa 0) (Ae (Aa 2) Ai))))) (Av (Bc Hk)) Be) (Ak (Il PassesOwn.never rfl (Fb (Aa 0)) (Hq rfl (De (Br 3 ZDE.nd) (De (Br 4 ZDE.nd) Hw))) (Av (Bf (Cj (En (I9 (Jh (Bs (ZO0 T) T.Ym hr (Ae (Aa 4) Ai)))) (Fp (I9 (Jh (Bs (ZQ9 T) T.Va hr (Ae (Aa 4) (Ae (Aa 1) Ai)))))))) (Av (Bc Hk)) Be))) (Av (Bc Hk))))
theorem ZQz(T:Txt K mg):FnO P w K mg base 1 "numbers_in" ZFN V1:=by
 refine Cz T.Wf.F ZLJ λcdv A outer s H E hr=>?_
 exact(Ak (Bf (Ax (Bo hr.units) (Am Al (Aa 0) (Do (v:=(.int 0)) rfl T.Uq ⟨_,rfl⟩ (λ_ _=>rfl))) Bt (nomark _)) (Av (Bc (Dk (Ae (Am Al (Aa 0) (Do (v:=(.int 4)) rfl T.ZEU ⟨_,rfl⟩ (λ_ _=>rfl))) (Ae (Am Al (Aa 0) (Do (v:=(.int 5)) rfl T.ZBF ⟨_,rfl⟩ (λ_ _=>rfl))) Ai))))) Be) (Ak (Bf (Ax (Bo hr.units) (Am Al (Aa 0) (Do (v:=(.int 0)) rfl T.Uq ⟨_,rfl⟩ (λ_ _=>rfl))) Bt (nomark _)) (Av (Bc (Dk (Ae (Am Al (Aa 0) (Do (v:=(.int 4)) rfl T.ZB8 ⟨_,rfl⟩ (λ_ _=>rfl))) Ai)))) Be) (Ak (Bf (Ax Np (Am Al (Aa 0) (Do (v:=(.int 6)) rfl T.Qx ⟨_,rfl⟩ (λ_ _=>rfl))) Fg (nomark _)) (Av (Bc (Dk (Ae (Am Al (Aa 0) (Do (v:=(.int 4)) rfl T.Zt ⟨_,rfl⟩ (λ_ _=>rfl))) Ai)))) Be) (Av (Bc (Dk (Ae (Am Al (Aa 0) (Do (v:=(.int 4)) rfl T.Zt ⟨_,rfl⟩ (λ_ _=>rfl))) (Ae (Am Al (Am Al (Aa 0) (Do (v:=(.int 6)) rfl T.Qx ⟨_,rfl⟩ (λ_ _=>rfl))) (Do (v:=(.int 2)) rfl T.Zu ⟨_,rfl⟩ (λ_ _=>rfl))) Ai))))))))
theorem ZN4(T:Txt K mg):FnX P w K mg base 3 "check_place" ZES Pa:=by
 refine ZJe T.Qa.F Tq λcdv A outer s H E hr=>?_
 exact(Ak (Qj (Az 2 Tq.nd (Am Al (Aa 0) (Do (v:=(.int 1)) rfl T.Vm ⟨_,rfl⟩ (λ_ _=>rfl))))) (Ak (Qj (Az 3 Tq.nd (Am Al (Aa 2) (Aa 1)))) (Ak (Qj (N7 (Kc 4 rfl Tq.nd (Ez (dn:=(Bd Uv).names) (N0:=ZAD) (N:=["other"]) (nt:=1) (caps:=[])) (Fb (Ay (Cp (Aa 2) Dg (By (Aa 1))))) (λC s₀ H₀ ex=>(Br 0 (show(["other"]:List Str).Nodup by decide +kernel))) (Dr (by decide)) (λC s₀ H₀ ex=>Hv) (λC s₀ H₀ ex=>(Am Al (Aa 0) (Do (v:=(.int 1)) rfl T.Q9 ⟨_,rfl⟩ (λ_ _=>rfl))))))) (Ak (Qj (N7 (Kc 5 rfl Tq.nd (Ez (dn:=(Bd Uv).names) (N0:=ZAD) (N:=["other"]) (nt:=1) (caps:=[])) (Fb (Ay (Cp (Aa 2) (By (Ag Bm (Aa 1) Ac)) Dg))) (λC s₀ H₀ ex=>(Br 0 (show(["other"]:List Str).Nodup by decide +kernel))) (Dr (by decide)) (λC s₀ H₀ ex=>Hv) (λC s₀ H₀ ex=>(Am Al (Aa 0) (Do (v:=(.int 1)) rfl T.Q9 ⟨_,rfl⟩ (λ_ _=>rfl))))))) (Ak (Bf (Cj (En (I9 (Jh (Sg (ZOZ T) T.Yw hr (Ae (Am Al (Aa 3) (Do (v:=(.int 1)) rfl T.Q9 ⟨_,rfl⟩ (λ_ _=>rfl))) Ai)))) (Fp (Ax Sx (Am Al (Aa 3) (Do (v:=(.int 1)) rfl T.Q9 ⟨_,rfl⟩ (λ_ _=>rfl))) (Aa 4) (by with_unfolding_all rfl))))) (Av (Sd T.Er (ZKX T) T.Xr.b hr (Ae (Aa 1) Ai))) Be) (Ak (Bf (I9 (Jh (Sg (ZMi T) T.W6 hr (Ae (Aa 3) (Ae (Aa 5) Ai))))) (Av (Sd T.Ey (ZNW T) T.Xx.b hr (Ae (Aa 1) Ai))) Be) (Ak (Bf (Ax Em (Cm (ZL4 rfl) rfl T.ZQt ZNq (Ae (Ay (Sg (ZQz T) T.Wf hr (Ae (Aa 3) Ai))) Ai)) Ac (nomark _)) (Av (Sd T.Ew (ZMP T) T.Vd.b hr (Ae (Aa 1) Ai))) Be) (Av (Bf (Ax (Bo hr.units) (Am Al (Aa 3) (Do (v:=(.int 0)) rfl T.Uq ⟨_,rfl⟩ (λ_ _=>rfl))) Bt (nomark _)) (Ak (Bf (I9 (Jh (Sg (ZPK T) T.V9 hr (Ae (Am Al (Aa 3) (Do (v:=(.int 6)) rfl T.Qx ⟨_,rfl⟩ (λ_ _=>rfl))) (Ae (Ag Bm (Aa 4) (Aa 5)) Ai))))) (Av (Sd T.Ex (ZQ3 T) T.V8.b hr (Ae (Aa 1) Ai))) Be) (Av (Bf (I9 (Jh (Sg (ZO4 T) T.Vi hr (Ae (Am Al (Aa 3) (Do (v:=(.int 5)) rfl T.ZCc ⟨_,rfl⟩ (λ_ _=>rfl))) (Ae (Am Al (Aa 3) (Do (v:=(.int 6)) rfl T.Qx ⟨_,rfl⟩ (λ_ _=>rfl))) (Ae (Am Al (Aa 0) (Do (v:=(.int 0)) rfl T.Xb ⟨_,rfl⟩ (λ_ _=>rfl))) Ai)))))) (Av (Sd T.Eu (ZQ8 T) T.ZAK.b hr (Ae (Aa 1) Ai))) Be))) Be)))))))))
theorem ZG6(T:Txt K mg):FnX P w K mg base 4 "checked" ZA0 Kl:=by
 refine ZJe T.U3.F ZD5 λcdv A outer s H E hr=>?_
 exact(Ak (Qj (Az 1 ZD5.nd (Am Al (Aa 0) (Do (v:=(.int 1)) rfl T.Vm ⟨_,rfl⟩ (λ_ _=>rfl))))) (Ak (Bf (Cj (En (I9 (Sw Ir Ir Ac (Am Al (Aa 0) (Do (v:=(.int 0)) rfl T.Xb ⟨_,rfl⟩ (λ_ _=>rfl))) Ac)) (Fp (I9 (Sw Ir Ir Ac (Cm Ea rfl T.Dw Dy (Ae (Aa 1) Ai)) Ac))))) (Av (ZP8 T.Fv (Ae Bt Ai))) Be) (Ak (Il ownX rfl (I8 rfl T.Hr (Ae (Cm Ea rfl T.Dw Dy (Ae (Aa 1) Ai)) Ai)) (Br 2 ZD5.nd) (Av (Nm (ZIY (ZN4 T) (hr.mono (by decide)) rfl T.Qa.m T.Qa.k T.Qa.b ZPi (Ae (Aa 0) (Ae (Aa 2) Ai)))))) (Av (Qj (Bc (Aa 0)))))))
theorem ZOD(T:Txt K mg):FnO P w K mg base 5 "_law_refused" ZAu Rx:=by
 refine Cz T.Wk.F Mh λcdv A outer s H E hr=>?_
 exact(Ak (Az 3 Mh.nd Fg) (Ak (ZLv (ZMk (ZLW (ZG6 T) T.U3 hr (Ae (Aa 0) Ai))) (ZLn T.ZEn (Qq T.Fv.N T.ZEr (Qq T.Er.N T.ZEq (Qq T.Ew.N T.ZBQ (Qq T.Ex.N T.ZBl (Qq T.Ey.N T.ZAp (Qq T.Eu.N T.ZCW ZGh)))))) ZGh hr Mh.nd (λea hr=>(Av (Az 3 Mh.nd (Aa 4)))) ZQO)) (Ak (Bf (I9 (Jh (ZPw T.Ge T.ZKH (by decide +kernel) (Bh T.Fv.xn T.ZDu (Bh T.Er.xn T.ZDK (Bh T.Ew.xn T.ZBY (Bh T.Ex.xn T.ZAl (Bh T.Ey.xn T.ZBD (Bh T.Eu.xn T.ZE9 Iu)))))) (Aa 3)))) (Av (Bc Hk)) Be) (Ak (Az 5 Mh.nd (Ay (Dk (Ae (J7 T.Ge T.ZFI (Bh T.Fv.xn T.ZD7 (Bh T.Er.xn T.ZDI (Bh T.Ew.xn T.ZBj (Bh T.Ex.xn T.ZCI (Bh T.Ey.xn T.ZCt (Bh T.Eu.xn T.ZDk Iu)))))) (Aa 3)) (Ae (J7 T.Ge T.ZBS (Bh T.Fv.xn T.ZDf (Bh T.Er.xn T.ZDV (Bh T.Ew.xn T.ZC0 (Bh T.Ex.xn T.ZA2 (Bh T.Ey.xn T.ZAs (Bh T.Eu.xn T.ZCy Iu)))))) (Aa 3)) (Ae (J7 T.Ge T.ZDn (Bh T.Fv.xn T.ZCd (Bh T.Er.xn T.ZBR (Bh T.Ew.xn T.ZBq (Bh T.Ex.xn T.ZC4 (Bh T.Ey.xn T.ZCN (Bh T.Eu.xn T.ZDd Iu)))))) (Aa 3)) Ai)))))) (Ak (Az 5 Mh.nd (Ay (Ag Bm (Aa 5) (Ay (Dk (Ae (J7 T.Ge T.ZBc (Bh T.Fv.xn T.ZBU (Bh T.Er.xn T.ZDj (Bh T.Ew.xn T.ZFJ (Bh T.Ex.xn T.ZFE (Bh T.Ey.xn T.ZEL (Bh T.Eu.xn T.ZBA Iu)))))) (Aa 3)) (Ae (J7 T.Ge T.ZDX (Bh T.Fv.xn T.ZE8 (Bh T.Er.xn T.ZBd (Bh T.Ew.xn T.ZBW (Bh T.Ex.xn T.ZCL (Bh T.Ey.xn T.ZAo (Bh T.Eu.xn T.ZCe Iu)))))) (Aa 3)) (Ae (J7 T.Ge T.ZCb (Bh T.Fv.xn T.ZEt (Bh T.Er.xn T.ZDi (Bh T.Ew.xn T.ZCM (Bh T.Ex.xn T.ZEV (Bh T.Ey.xn T.ZDN (Bh T.Eu.xn T.ZEH Iu)))))) (Aa 3)) Ai)))))))) (Ak (Az 5 Mh.nd (Ay (Ag Bm (Aa 5) (Ay (Dk (Ae (J7 T.Ge T.ZDr (Bh T.Fv.xn T.ZFB (Bh T.Er.xn T.ZAe (Bh T.Ew.xn T.ZEz (Bh T.Ex.xn T.ZBG (Bh T.Ey.xn T.ZBb (Bh T.Eu.xn T.ZCu Iu)))))) (Aa 3)) (Ae (J7 T.Ge T.ZDL (Bh T.Fv.xn T.ZDZ (Bh T.Er.xn T.ZBN (Bh T.Ew.xn T.ZCQ (Bh T.Ex.xn T.ZBa (Bh T.Ey.xn T.ZD6 (Bh T.Eu.xn T.ZEo Iu)))))) (Aa 3)) (Ae (J7 T.Ge T.ZCG (Bh T.Fv.xn T.ZBk (Bh T.Er.xn T.ZAv (Bh T.Ew.xn T.ZCE (Bh T.Ex.xn T.ZEW (Bh T.Ey.xn T.ZDv (Bh T.Eu.xn T.ZAd Iu)))))) (Aa 3)) Ai)))))))) (Ak (Az 5 Mh.nd (Ay (Ag Bm (Aa 5) (Ay (Dk (Ae (J7 T.Ge T.ZCz (Bh T.Fv.xn T.ZDe (Bh T.Er.xn T.ZCC (Bh T.Ew.xn T.ZC9 (Bh T.Ex.xn T.ZEQ (Bh T.Ey.xn T.ZC8 (Bh T.Eu.xn T.ZEd Iu)))))) (Aa 3)) (Ae (J7 T.Ge T.ZEs (Bh T.Fv.xn T.ZE6 (Bh T.Er.xn T.ZDH (Bh T.Ew.xn T.ZBL (Bh T.Ex.xn T.ZB9 (Bh T.Ey.xn T.ZCn (Bh T.Eu.xn T.ZCT Iu)))))) (Aa 3)) (Ae (J7 T.Ge T.ZCX (Bh T.Fv.xn T.ZBm (Bh T.Er.xn T.ZCw (Bh T.Ew.xn T.ZDM (Bh T.Ex.xn T.ZFM (Bh T.Ey.xn T.ZCk (Bh T.Eu.xn T.ZCi Iu)))))) (Aa 3)) Ai)))))))) (Ak (Az 5 Mh.nd (Ay (Ag Bm (Aa 5) (Ay (Dk (Ae (J7 T.Ge T.ZCm (Bh T.Fv.xn T.ZDc (Bh T.Er.xn T.ZBn (Bh T.Ew.xn T.ZCl (Bh T.Ex.xn T.ZEJ (Bh T.Ey.xn T.ZD0 (Bh T.Eu.xn T.ZDD Iu)))))) (Aa 3)) Ai)))))) (Ak (Bf (Ax (K9 hr.units) (Aa 5) (Ay (Jy rfl (Ez (dn:=(Bd Zh).names) (N0:=ZCP) (N:=["_law_k","_law_rank_here"]) (nt:=1) (caps:=[1])) (I8 rfl T.Hr (Ae Ac Ai)) (λC s₀ H₀ ex=>(Br 0 (show(["_law_k","_law_rank_here"]:List Str).Nodup by decide +kernel))) (Dr (by decide)) (λC s₀ H₀ ex=>Hv) (λC s₀ H₀ ex=>(Fi (Bo hr.units) (Aa 0) (Aa 1) (nomark _))))) (nomark _)) (Av (Bc Hk)) Be) (Av (Bc (ZCZ (Fi (Bo hr.units) (Aa 1) Ac (nomark _)) (Ke (Ni (Bs (ZLE T) T.Vl hr (Ae (ZFh (K6 T.Er (K6 T.Ew (K6 T.Ex (K6 T.Ey (K6 T.Eu ZHm))))) (Aa 3)) Ai)) (Ke (Fi (Bo hr.units) (ZFh (K6 T.Er (K6 T.Ew (K6 T.Ex (K6 T.Ey (K6 T.Eu ZHm))))) (Aa 3)) (Aa 2) (nomark _)))))))))))))))))
theorem ZFu(T:Txt K mg):FnO P w K mg base 1 "_law_no_name" ZE0 Q5:=by
 refine Cz T.Tp.F Zq λcdv A outer s H E hr=>?_
 exact(Ak (Az 3 Zq.nd (Am Al (Am Al (Aa 0) (Aa 1)) Ac)) (Ak (Bf (Cj (Dq (Ax (Bo hr.units) (Ag Bk (Aa 2) Ac) Ac (nomark _)) (Ef (Ax Fj (Aa 1) Ac (nomark _))))) (Av (Bc (Am Al (Am Al (Aa 0) (Ag Bk (Ag Eg (Aa 2) Ac) (Aa 1))) Ac))) Be) (Ak (Az 4 Zq.nd (Ay (Dk (Ae Bt (Ae Bt (Ae (Ag Bm (Aa 3) Bt) (Ae (Ay (Ag Bm (Ay (Cp (Aa 3) Dg (By Ac))) Bt)) (Ae (Ay (Ag Bm (Ay (Cp (Aa 3) Dg (By Ac))) Bt)) (Ae (Ay (Ag Bm Bt (Ay (Cp (Aa 3) Dg (By Ac))))) Ai))))))))) (Ak (Az 4 Zq.nd (Ay (Ag Bm (Aa 4) (Ay (Dk (Ae (Ay (Ag Bm (Ay (Ag Bm (Ay (Cp (Aa 3) Dg (By Ac))) Bt)) (Ay (Cp (Aa 3) (By Ac) (By Ac))))) (Ae Bt Ai))))))) (Av (Bc (Am Al (Aa 4) (Ag Bk (Aa 2) Ac))))))))
theorem ZQr(T:Txt K mg):FnO P w K mg base 1 "_law_rank" ZCY Rq:=by
 refine Cz T.Yk.F ZF7 λcdv A outer s H E hr=>?_
 exact(Ak (Az 2 ZF7.nd (Am Al (Ay (Dk (Ae Ac (Ae Ac (Ae Ac (Ae Ac (Ae Ac (Ae Ac (Ae Ac Ai))))))))) (Ag Bk (Aa 1) Ac))) (Ak (Bf (Cj (Dq (Ax (Bo hr.units) (Aa 2) Ac (nomark _)) (Ef (Ax (K9 hr.units) (Am Al (Aa 0) Ac) Bt (nomark _))))) (Av (Bc Ac)) Be) (Ak (Bf (Cj (Dq (Ax (Bo hr.units) (Aa 2) Ac (nomark _)) (Ef (Cj (En (Ax (K9 hr.units) (Am Al (Aa 0) Ac) Bt (nomark _)) (Fp (Ax Np (Am Al (Aa 0) Ac) Fg (nomark _)))))))) (Av (Bc Ac)) Be) (Av (Bc (Aa 2))))))
theorem ZPh(T:Txt K mg):FnO P w K mg base 1 "_law_rule_spoilt" ZBO Nv:=by
 refine Cz T.Vb.F Fy λcdv A outer s H E hr=>?_
 exact(Ak (Bf (Ax (Bo hr.units) (Cm Ea rfl T.Dw Dy (Ae (Aa 0) Ai)) Ac (nomark _)) (Av (Bc (Aa 0))) Be) (Ak (Az 5 Fy.nd (Ag Bk (Aa 4) (Cm Ea rfl T.Dw Dy (Ae (Aa 0) Ai)))) (Ak (N8 (Am Al (Aa 0) (Aa 5)) (Hq rfl (De (Br 6 Fy.nd) (De (Br 7 Fy.nd) Hw)))) (Ak (Az 8 Fy.nd Ac) (Ak (Bf (Ax Fj (Cm Ea rfl T.Dw Dy (Ae (Aa 7) Ai)) Ac (nomark _)) (Av (Az 8 Fy.nd (Ag Dv (Am Al (Am Al (Aa 7) (K5 Kq Ac)) Ac) (Am Al (Am Al (Aa 7) (K5 Kq Ac)) Ac)))) Be) (Ak (Bf (Ax (Bo hr.units) (Aa 3) Ac (nomark _)) (Av (Bc (Bw Ai))) Be) (Ak (Bf (Ax (Bo hr.units) (Aa 3) Ac (nomark _)) (Av (Bc (Ag Dv (Bw (Ae (Bw (Ae (Ag Gv Ac (Ag Fl Ac (Ag Bk (Ag Eg (Aa 4) Ac) Ac))) (Ae (Am Al (Am Al (Aa 0) Ac) Ac) Ai))) Ai)) (Ay (Cp (Aa 0) (By Ac) Dg))))) Be) (Ak (Az 9 Fy.nd (Am Al (Am Al (Aa 0) (K5 Kq Ac)) Ac)) (Ak (Bf (Cj (Dq (Ax (Bo hr.units) (Aa 3) Ac (nomark _)) (Dq (Ax Fj (Aa 9) Ac (nomark _)) (Ef (Ax (Bo hr.units) (Ag Bk (Ag Eg (Aa 4) Ac) Ac) Ac (nomark _)))))) (Av (Bc (Ag Dv (Aa 0) (Bw (Ae (Bw (Ae (Ag Dv Ac (Ag Bk (Ag Eg (Aa 4) Ac) (Ag Gv (Aa 9) Ac))) (Ae (Aa 7) Ai))) Ai))))) Be) (Ak (Bf (Ax (Bo hr.units) (Aa 3) Ac (nomark _)) (Av (Bc (Ag Dv (Ay (Ag Dv (Ay (Cp (Aa 0) Dg (By (Ag Dv (Aa 5) Ac)))) (Bw (Ae (Bw (Ae (Aa 6) (Ae (Aa 7) Ai))) Ai)))) (Ay (Cp (Aa 0) (By (Ag Dv (Aa 5) Ac)) Dg))))) Be) (Ak (Bf (Ax (Bo hr.units) (Aa 3) Ac (nomark _)) (Av (Bc (Ag Dv (Aa 0) (Bw (Ae (Bw (Ae (Aa 2) (Ae (Bw Ai) Ai))) Ai))))) Be) (Ak (Az 10 Fy.nd (Ag Bk (Ag Eg (Aa 4) Ac) (Cm (Yy rfl) rfl T.Sv Rz (Ae Ac (Ae (Cm Ea rfl T.Dw Dy (Ae (Aa 7) Ai)) Ai))))) (Ak (Az 11 Fy.nd (Ag Dv (Aa 7) (Bw (Ae (Bw (Ae (Ag Gv (Aa 8) Ac) (Ae Ac (Ae Bt Ai)))) Ai)))) (Ak (Bf (Ax (Bo hr.units) (Aa 3) Ac (nomark _)) (Av (Az 11 Fy.nd (Ay (Ag Dv (Ay (Ag Dv (Ay (Cp (Aa 7) Dg (By (Aa 10)))) (Bw (Ae (Bw (Ae (Aa 8) (Ae (Ag Gv Ac (Ag Bk (Ag Eg (Aa 4) Ac) Ac)) (Ae Bt Ai)))) Ai)))) (Ay (Cp (Aa 7) (By (Aa 10)) Dg)))))) Be) (Ak (Bf (Cj (Dq (Ax (Bo hr.units) (Aa 3) Ac (nomark _)) (Ef (Ax Fj (Cm Ea rfl T.Dw Dy (Ae (Aa 7) Ai)) (Aa 10) (nomark _))))) (Ak (Az 12 Fy.nd (Bw (Ae (Am Al (Am Al (Aa 7) (Aa 10)) Ac) (Ae (Ag Gv Ac (Ag Bk (Ag Eg (Aa 4) Ac) Ac)) (Ae (Am Al (Am Al (Aa 7) (Aa 10)) Ac) Ai))))) (Av (Az 11 Fy.nd (Ay (Ag Dv (Ay (Ag Dv (Ay (Cp (Aa 7) Dg (By (Aa 10)))) (Bw (Ae (Aa 12) Ai)))) (Ay (Cp (Aa 7) (By (Ag Dv (Aa 10) Ac)) Dg))))))) Be) (Ak (Bf (Cj (Dq (Ax (Bo hr.units) (Aa 3) Ac (nomark _)) (Dq (Ax Em (Ag Dv (Aa 10) Ac) (Cm Ea rfl T.Dw Dy (Ae (Aa 7) Ai)) (nomark _)) (Ef (Ax (Bo hr.units) (Ag Bk (Ag Eg (Aa 4) Ac) Ac) Ac (nomark _)))))) (Av (Az 11 Fy.nd (Ay (Ag Dv (Ay (Ag Dv (Ay (Cp (Aa 7) Dg (By (Aa 10)))) (Bw (Ae (Am Al (Aa 7) (Ag Dv (Aa 10) Ac)) (Ae (Am Al (Aa 7) (Aa 10)) Ai))))) (Ay (Cp (Aa 7) (By (Ag Dv (Aa 10) Ac)) Dg)))))) Be) (Ak (Bf (Ax (Bo hr.units) (Aa 3) Ac (nomark _)) (Av (Az 11 Fy.nd (Ag Dv (Bw (Ae (Bw (Ae (K5 Kq Ac) (Ae Ac (Ae Bt Ai)))) Ai)) (Aa 7)))) Be) (Ak (Bf (Ax (Bo hr.units) (Aa 3) Ac (nomark _)) (Ak (Az 13 Fy.nd Ac) (Ak (Bf (Ax Mw (Aa 1) Fg (nomark _)) (Ak (Az 14 Fy.nd (Cm (ZCv rfl) rfl T.ZDT ZAm (Ae (Ay (Jy rfl (Ez (dn:=(Bd Ye).names) (N0:=ZCS) (N:=["_law_height","_law_many","_law_road"]) (nt:=3) (caps:=[])) (Fb (Aa 7)) (λC s₀ H₀ ex=>(Hq rfl (De (Br 0 (show(["_law_height","_law_many","_law_road"]:List Str).Nodup by decide +kernel)) (De (Br 1 (show(["_law_height","_law_many","_law_road"]:List Str).Nodup by decide +kernel)) (De (Br 2 (show(["_law_height","_law_many","_law_road"]:List Str).Nodup by decide +kernel)) Hw))))) (R4 (Hz (Dr (by decide)) (Hz (Dr (by decide)) (Hz (Dr (by decide)) Rf)))) (λC s₀ H₀ ex=>(Qt (Ax (Bo hr.units) (Aa 2) Bt (nomark _)))) (λC s₀ H₀ ex=>(Aa 1)))) Ai))) (Av (Az 13 Fy.nd (Ag Gv (Cm (Yy rfl) rfl T.Sv Rz (Ae Ac (Ae (Am Al (Aa 1) Ac) Ai))) (Aa 14))))) Be) (Av (Az 11 Fy.nd (Ag Dv (Aa 7) (Bw (Ae (Bw (Ae (Aa 8) (Ae (Cm (Yy rfl) rfl T.Sv Rz (Ae Ac (Ae (Ag Dv (Aa 13) Ac) Ai))) (Ae Bt Ai)))) Ai))))))) Be) (Av (Bc (Ag Dv (Ay (Ag Dv (Ay (Cp (Aa 0) Dg (By (Aa 5)))) (Bw (Ae (Bw (Ae (Aa 6) (Ae (Aa 11) Ai))) Ai)))) (Ay (Cp (Aa 0) (By (Ag Dv (Aa 5) Ac)) Dg)))))))))))))))))))))))
theorem ZJz(T:Txt K mg):FnO P w K mg base 2 "_law_place_spoilt" ZDW Qc:=by
 refine Cz T.Zo.F ZDy λcdv A outer s H E hr=>?_
 exact(Ak (Az 5 ZDy.nd (Am Al (Ay (Dk (Ae (K5 Kq Ac) (Ae (Ag Gv Ac (Ag La Ac Ac)) (Ae (K5 Kq Ac) Ai))))) (Ag Bk (Ag Eg (Aa 2) Ac) Ac))) (Ak (Bf (Cj (Dq (Ax (Bo hr.units) (Aa 1) Ac (nomark _)) (Ef (Ax Em (Ag Bk (Aa 2) Ac) Ac (nomark _))))) (Av (Bc (Bs (Fe T) T.Eo hr (Ae (Aa 0) (Ae Ac (Ae (Am Al (Aa 4) (Ag Bk (Aa 2) Ac)) Ai)))))) Be) (Ak (Bf (Ax (Bo hr.units) (Aa 1) Ac (nomark _)) (Av (Bc (Bs (Fe T) T.Eo hr (Ae (Aa 0) (Ae Ac (Ae (Am Al (Ay (Dk (Ae (K5 Kq Ac) (Ae Ac (Ae (Ag La Ac Ac) Ai))))) (Ag Gv (Ag Bk (Aa 2) Ac) Ac)) Ai)))))) Be) (Ak (Bf (Cj (Dq (Ax (Bo hr.units) (Aa 1) Ac (nomark _)) (Ef (Ax Em (Ag Bk (Aa 2) Ac) Ac (nomark _))))) (Av (Bc (Bs (Fe T) T.Eo hr (Ae (Aa 0) (Ae Ac (Ae (Ay (Bs (Fe T) T.Eo hr (Ae (Am Al (Aa 0) Ac) (Ae Ac (Ae (Am Al (Aa 4) (Ag Bk (Aa 2) Ac)) Ai))))) Ai)))))) Be) (Ak (Bf (Ax (Bo hr.units) (Aa 1) Ac (nomark _)) (Av (Bc (Bs (Fe T) T.Eo hr (Ae (Aa 0) (Ae Ac (Ae (Ay (Bs (Fe T) T.Eo hr (Ae (Am Al (Aa 0) Ac) (Ae Ac (Ae (Am Al (Ay (Dk (Ae Ac (Ae Ac (Ae (K5 Kq Ac) (Ae (Ag La Ac Ac) Ai)))))) (Ag Gv (Ag Bk (Aa 2) Ac) Ac)) Ai))))) Ai)))))) Be) (Ak (Bf (Ax (Bo hr.units) (Aa 1) Ac (nomark _)) (Ak (Az 6 ZDy.nd (Am Al (Ay (Dk (Ae Ac (Ae Ac (Ae Ac (Ae Ac (Ae Ac (Ae Ac (Ae Ac (Ae Ac (Ae Ac (Ae Ac (Ae Ac (Ae Ac Ai)))))))))))))) (Ag Bk (Aa 2) Ac))) (Av (Bc (Bs (Fe T) T.Eo hr (Ae (Aa 0) (Ae Ac (Ae (Ay (Bs (ZPh T) T.Vb hr (Ae (Am Al (Aa 0) Ac) (Ae (Am Al (Aa 0) Ac) (Ae (Aa 3) (Ae (Aa 6) (Ae (Ag Eg (Aa 2) Ac) Ai))))))) Ai))))))) Be) (Ak (Bf (Cj (Dq (Ax (Bo hr.units) (Am Al (Aa 0) Ac) Bt (nomark _)) (Dq (Ax Mw (Am Al (Aa 0) Ac) Fg (nomark _)) (Ef (Ax (Bo hr.units) (Ag Bk (Aa 2) Ac) Ac (nomark _)))))) (Av (Bc (Bs (Fe T) T.Eo hr (Ae (Aa 0) (Ae Ac (Ae (Ay (Bs (Fe T) T.Eo hr (Ae (Am Al (Aa 0) Ac) (Ae Ac (Ae (Aa 5) Ai))))) Ai)))))) Be) (Ak (Bf (Cj (Dq (Ax (Bo hr.units) (Am Al (Aa 0) Ac) Bt (nomark _)) (Ef (Ax (Bo hr.units) (Ag Bk (Aa 2) Ac) Ac (nomark _))))) (Av (Bc (Bs (Fe T) T.Eo hr (Ae (Aa 0) (Ae Ac (Ae (Aa 5) Ai)))))) Be) (Av (Bc (Bs (Fe T) T.Eo hr (Ae (Aa 0) (Ae Ac (Ae (Aa 5) Ai))))))))))))))
theorem ZM5(T:Txt K mg):FnO P w K mg base 2 "_law_renamed" ZB0 V7:=by
 refine Cz T.Wo.F Mq λcdv A outer s H E hr=>?_
 exact(Ak (Az 3 Mq.nd (Am Al (Am Al (Aa 0) (Aa 1)) Ac)) (Ak (Az 4 Mq.nd (N6 (Dk Ai))) (Ak (Il PassesOwn.never rfl (I8 rfl T.Hr (Ae (Cm Ea rfl T.Dw Dy (Ae (Aa 0) Ai)) Ai)) (Br 5 Mq.nd) (Ak (Az 6 Mq.nd (Am Al (Aa 0) (Aa 5))) (Ak (Bf (Ax (Bo hr.units) (Am Al (Aa 6) Ac) (Aa 3) (nomark _)) (Av (Az 6 Mq.nd (Ay (Bs (Fe T) T.Eo hr (Ae (Aa 6) (Ae Ac (Ae (Aa 2) Ai))))))) Be) (Ak (Bf (Cj (Dq (Ax (Bo hr.units) (Am Al (Aa 6) Ac) Bt (nomark _)) (Dq (Ax Mw (Am Al (Aa 6) Ac) Fg (nomark _)) (Ef (Ax (Bo hr.units) (Am Al (Am Al (Aa 6) Ac) Ac) (Aa 3) (nomark _)))))) (Av (Az 6 Mq.nd (Ay (Bs (Fe T) T.Eo hr (Ae (Aa 6) (Ae Ac (Ae (Ay (Ag Bm (Bw (Ae (Aa 2) Ai)) (Ay (Cp (Am Al (Aa 6) Ac) (By Ac) Dg)))) Ai))))))) Be) (Ak (Bf (Ax (Bo hr.units) (Aa 5) (Aa 1) (nomark _)) (Av (Az 6 Mq.nd (Ay (Bs (Fe T) T.Eo hr (Ae (Aa 6) (Ae Ac (Ae (Aa 2) Ai))))))) Be) (Av (Nm (Pr PySem.F.slot_list_append PySem.F.type_list_append Rc (Aa 4) (Ae (Aa 6) Ai))))))))) (Av (Bc (Qi Xg rfl T.Ux U8 (Ae (Aa 4) Ai)))))))
theorem ZNN(T:Txt K mg):FnO P w K mg base 3 "_law_spoilt" ZB5 Om:=by
 refine Cz T.ZAW.F Tj λcdv A outer s H E hr=>?_
 exact(Ak (N8 (Aa 0) (Hq rfl (De (Br 4 Tj.nd) (De (Br 5 Tj.nd) Hw)))) (Ak (Bf (Cj (Dq (Ax (Bo hr.units) (Aa 2) Ac (nomark _)) (Ef (Ax Em (Ag Bk (Aa 3) Ac) Ac (nomark _))))) (Av (Bc (Bw (Ae (Am Al (Ay (Dk (Ae Ac (Ae (Ag Bm Ac (Ag Fl (Ag Bk (Ag Eg (Aa 3) Ac) Ac) (Ag La Ac Ac))) Ai)))) (Ag Bk (Aa 3) Ac)) (Ae (Aa 5) Ai))))) Be) (Ak (Bf (Cj (Dq (Ax (Bo hr.units) (Aa 2) Ac (nomark _)) (Ef (Ax (Bo hr.units) (Ag Bk (Aa 3) Ac) Ac (nomark _))))) (Av (Bc (Bw (Ae (Aa 4) (Ae (Bw Ai) Ai))))) Be) (Ak (Bf (Ax (Bo hr.units) (Aa 2) Ac (nomark _)) (Av (Bc (Bw (Ae (Aa 4) (Ae (Ag Bm (Aa 5) (Ag ZQK (Bw (Ae (Am Al (Aa 5) Ac) Ai)) (Ag Gv Ac (Cm Ea rfl T.Dw Dy (Ae (Aa 5) Ai))))) Ai))))) Be) (Ak (Bf (Ax (Bo hr.units) (Aa 2) Ac (nomark _)) (Av (Bc (Bw (Ae (Aa 4) (Ae (Bs (ZM5 T) T.Wo hr (Ae (Aa 5) (Ae (Aa 1) (Ae (Ay (Bs (ZFu T) T.Tp hr (Ae (Aa 5) (Ae (Aa 1) (Ae (Aa 3) Ai))))) Ai)))) Ai))))) Be) (Ak (Az 6 Tj.nd (Am Al (Am Al (Aa 5) (Aa 1)) Ac)) (Ak (Az 7 Tj.nd (N6 (Dk (Ae (Aa 6) (Ae Bt (Ae Bt (Ae Bt (Ae (Aa 6) Ai)))))))) (Ak (Bf (Cj (Dq (Ax (Bo hr.units) (Aa 2) Ac (nomark _)) (Ef (Ax Fj (Aa 1) Ac (nomark _))))) (Av (N8 (Am Al (Am Al (Aa 5) (Ag Bk (Ag Eg (Aa 3) Ac) (Aa 1))) Ac) (ZJK (Aa 7) Ac))) Be) (Ak (Bf (Ax (Bo hr.units) (Aa 2) Ac (nomark _)) (Av (N8 Bt (ZJK (Aa 7) Ac))) Be) (Av (Bc (Bw (Ae (Aa 4) (Ae (Ay (Bs (Fe T) T.Eo hr (Ae (Aa 5) (Ae (Aa 1) (Ae (Ay (Bs (ZJz T) T.Zo hr (Ae (Am Al (Aa 5) (Aa 1)) (Ae (Aa 2) (Ae (Aa 3) (Ae (Aa 4) (Ae (Aa 7) Ai))))))) Ai))))) Ai))))))))))))))
theorem ZMl(T:Txt K mg):FnO P w K mg base 4 "_law_turned" ZA6 Pu:=by
 refine Cz T.We.F Mf λcdv A outer s H E hr=>?_
 exact(Ak (N8 (Aa 0) (Hq rfl (De (Br 4 Mf.nd) (De (Br 5 Mf.nd) Hw)))) (Ak (Az 6 Mf.nd (Ag Bk (Am Al (Aa 1) Ac) (Cm Ea rfl T.Dw Dy (Ae (Aa 5) Ai)))) (Ak (Az 7 Mf.nd (Am Al (Aa 1) Ac)) (Ak (Bf (Ax Mw (Aa 3) Fg (nomark _)) (Ak (Az 6 Mf.nd (Aa 3)) (Av (Az 7 Mf.nd (Am Al (Ay (Dk (Ae Ac (Ae Ac (Ae Ac (Ae Ac (Ae Ac (Ae Ac (Ae Ac (Ae Ac (Ae Ac Ai))))))))))) (Ag Bk (Am Al (Aa 1) Ac) Ac))))) Be) (Ak (Az 8 Mf.nd (Ay (Bs (ZQr T) T.Yk hr (Ae (Am Al (Aa 5) (Aa 6)) (Ae (Aa 7) Ai))))) (Ak (Bf (Cj (Dq (Ax (Bo hr.units) (Aa 8) Ac (nomark _)) (Ef (I9 (Jh (Aa 2)))))) (Ak (Az 9 Mf.nd (Ay (Bs (ZFu T) T.Tp hr (Ae (Aa 5) (Ae (Aa 6) (Ae (Am Al (Aa 1) Ac) Ai)))))) (Av (Bc (Bw (Ae (Aa 4) (Ae (Ay (Bs (Fe T) T.Eo hr (Ae (Aa 5) (Ae (Aa 6) (Ae (Ay (Bs (Fe T) T.Eo hr (Ae (Am Al (Aa 5) (Aa 6)) (Ae Ac (Ae (Aa 9) Ai))))) Ai))))) Ai)))))) Be) (Av (Bc (Bs (ZNN T) T.ZAW hr (Ae (Aa 0) (Ae (Aa 6) (Ae (Aa 8) (Ae (Am Al (Aa 1) Ac) Ai)))))))))))))
theorem ZQD(T:Txt K mg):FnO P w K mg base 6 "law" ZEY Qf:=by
 refine Cz T.V2.F Hn λcdv A outer s H E hr=>?_
 exact(Ak (Az 1 Hn.nd (Bs (ZNY T) T.Zz hr (Ae (Aa 0) (Ae Ac Ai)))) (Ak (Az 2 Hn.nd (Ay (Bs (ZBC T) T.P0 hr (Ae (Bs (Tz T) T.Mv hr (Ae (Aa 0) (Ae Ac Ai))) (Ae Ac (Ae Ac Ai)))))) (Ak (Az 3 Hn.nd (Fi (Bo hr.units) (Ag Bk (Am Al (Aa 2) Ac) Ac) Ac (nomark _))) (Ak (Az 4 Hn.nd (Ay (Bs (ZQo T) T.Vp hr (Ae (Am Al (Aa 1) Ac) (Ae (Ay (Cp (Aa 2) (By Ac) Dg)) Ai))))) (Ak (Il PassesOwn.never rfl (I8 rfl T.Hr (Ae (Ag Bk (Am Al (Aa 2) Ac) Ac) Ai)) (Br 5 Hn.nd) (Av (Az 1 Hn.nd (Ay (Bs (ZMl T) T.We hr (Ae (Aa 1) (Ae (Ay (Cp (Aa 2) (By (Ag Bm Ac (Ag Fl Ac (Aa 5)))) (By (Ag Bm Ac (Ag Fl Ac (Aa 5)))))) (Ae (Aa 3) (Ae (Aa 4) Ai))))))))) (Ak (N8 (Aa 1) (Hq rfl (De (Br 6 Hn.nd) (De (Br 7 Hn.nd) Hw)))) (Ak (Az 8 Hn.nd (Ag Bk (Am Al (Aa 2) Ac) (Cm Ea rfl T.Dw Dy (Ae (Aa 7) Ai)))) (Ak (Bf (Ax (Bo hr.units) (Ag Bk (Am Al (Aa 2) Ac) Ac) Ac (nomark _)) (Ak (Az 9 Hn.nd (Ay (Ag Bm (Ay (Dk (Ae Bt Ai))) (Ay (Jy rfl (Ez (dn:=(Bd Je).names) (N0:=ZBi) (N:=["_law_place_here"]) (nt:=1) (caps:=[])) (Fb (Ay (Cp (Aa 7) (By (Ag Bm (Aa 8) Ac)) Dg))) (λC s₀ H₀ ex=>(Br 0 (show(["_law_place_here"]:List Str).Nodup by decide +kernel))) (Dr (by decide)) (λC s₀ H₀ ex=>Hv) (λC s₀ H₀ ex=>(Am Al (Aa 0) Ac))))))) (Ak (Az 10 Hn.nd (Ay (Bs (Fe T) T.Eo hr (Ae (Am Al (Aa 7) (Aa 8)) (Ae Ac (Ae (Am Al (Aa 9) (Ag Bk (Am Al (Aa 2) Ac) (Cm Ea rfl T.Dw Dy (Ae (Aa 9) Ai)))) Ai)))))) (Av (Az 1 Hn.nd (Bw (Ae (Aa 6) (Ae (Ay (Bs (Fe T) T.Eo hr (Ae (Aa 7) (Ae (Aa 8) (Ae (Aa 10) Ai))))) Ai))))))) Be) (Ak (Bf (Ax (Bo hr.units) (Ag Bk (Am Al (Aa 2) Ac) Ac) Ac (nomark _)) (Av (Az 1 Hn.nd (Bw (Ae (Am Al (Ay (Dk (Ae Ac (Ae Ac (Ae (Aa 6) Ai))))) (Ag Bk (Am Al (Aa 2) Ac) Ac)) (Ae (Am Al (Ay (Dk (Ae (Aa 7) (Ae (Aa 7) (Ae (Bw Ai) Ai))))) (Ag Bk (Am Al (Aa 2) Ac) Ac)) Ai))))) Be) (Ak (Az 11 Hn.nd (Bs (ZM8 T) T.Zk hr (Ae (Aa 1) Ai))) (Ak (Bf (Ax Np (Aa 11) Fg (nomark _)) (Ak (Az 12 Hn.nd (ZPc (ZG6 T) T.U3 hr (Ae (Aa 1) Ai))) (Av (Bc (Ni (Cm ZDh rfl T.Ge Xp (Ae (Aa 12) (Ae (ZFA rfl T.Ux U8) Ai))) (Ke (Fi (Bo hr.units) (Aa 12) (Aa 1) (nomark _))))))) Be) (Av (Bc (Bs (ZOD T) T.Wk hr (Ae (Aa 1) (Ae (Am Al (Aa 11) Ac) (Ae (Am Al (Aa 11) Ac) Ai)))))))))))))))))
end
theorem all_mk{l:PySem.W.OpenLaw}{w:jP}{K:PySem.W.Frag}{h:Heap}{mg:Str->Option jO}{fa:jD}(X:K.In h)(G:h.Ns x9 mg)(hfa:mg "law"=vZ (.ref fa))(S:AllSaid K asks):
  ∃fd:jG,(∀(s:jM)(v:jO),BindsTo s fd ⟨[v],[]⟩ [("_law_script",v)])/\∀base:Heap,K.In base->base.Ns x9 mg->FnOk l.prog w K mg base CX0 6 fa fd ["_law_script"] (lF K Qf):=by
 obtain⟨Mv,ZAE,ZAZ,Xm,W5,Zk,Vp,ZAQ,P0,Yt,Wg,Lj,Y4,Yb,Yi,Zv,Zz,Eo,Vl,Yw,V9,W6,Vo,Ym,Va,Vi,Wf,Qa,U3,Wk,Tp,Yk,Vb,Zo,Wo,ZAW,We,V2,ZRE,ZRF,ZRG,ZRH,ZRI,ZRJ,ZRK,ZRL,ZRM,ZRN,ZRO,ZRP,ZRQ,Zt,ZCo,Y9,Uq,ZFG,ZB8,Q9,ZEU,Vm,Qx,ZBH,Zu,ZDt,ZBF,ZCc,Z9,Xb,Xr,Vd,V8,Xx,ZAK,Er,Ew,Ex,Ey,Eu,Fv,Ot,ZDr,ZDL,ZFI,ZCG,ZBS,ZBc,ZDX,ZDn,ZCz,ZCb,ZEs,ZCX,ZCm,ZEn,ZEr,ZEq,ZBQ,ZBl,ZAp,ZCW,ZFB,ZAe,ZEz,ZBG,ZBb,ZCu,ZDZ,ZBN,ZCQ,ZBa,ZD6,ZEo,ZD7,ZDI,ZBj,ZCI,ZCt,ZDk,ZBk,ZAv,ZCE,ZEW,ZDv,ZAd,ZDf,ZDV,ZC0,ZA2,ZAs,ZCy,ZBU,ZDj,ZFJ,ZFE,ZEL,ZBA,ZE8,ZBd,ZBW,ZCL,ZAo,ZCe,ZCd,ZBR,ZBq,ZC4,ZCN,ZDd,ZDe,ZCC,ZC9,ZEQ,ZC8,ZEd,ZEt,ZDi,ZCM,ZEV,ZDN,ZEH,ZE6,ZDH,ZBL,ZB9,ZCn,ZCT,ZBm,ZCw,ZDM,ZFM,ZCk,ZCi,ZDc,ZBn,ZCl,ZEJ,ZD0,ZDD,ZDu,ZDK,ZBY,ZAl,ZBD,ZE9,_⟩:=S
 have T:Txt K mg:=⟨Cv X G Mv (λ_ _ _ _ _ _ us hl=>match us,hl with |[_,_],_=>rfl),
  Cv X G ZAE (λ_ _ _ _ _ _ us hl=>match us,hl with |[_],_=>rfl),
  Cv X G ZAZ (λ_ _ _ _ _ _ us hl=>match us,hl with |[_,_],_=>rfl),
  Cv X G Xm (λ_ _ _ _ _ _ us hl=>match us,hl with |[_,_,_],_=>rfl),
  Cv X G W5 (λ_ _ _ _ _ _ us hl=>match us,hl with |[_,_,_],_=>rfl),
  Cv X G Zk (λ_ _ _ _ _ _ us hl=>match us,hl with |[_],_=>rfl),
  Cv X G Vp (λ_ _ _ _ _ _ us hl=>match us,hl with |[_,_],_=>rfl),
  Cv X G ZAQ (λ_ _ _ _ _ _ us hl=>match us,hl with |[_],_=>rfl),
  Cv X G P0 (λ_ _ _ _ _ _ us hl=>match us,hl with |[_,_,_],_=>rfl),
  Cv X G Yt (λ_ _ _ _ _ _ us hl=>match us,hl with |[_],_=>rfl),
  Cv X G Wg (λ_ _ _ _ _ _ us hl=>match us,hl with |[_],_=>rfl),
  Cv X G Lj (λ_ _ _ _ _ _ us hl=>match us,hl with |[_,_],_=>rfl),
  Cv X G Y4 (λ_ _ _ _ _ _ us hl=>match us,hl with |[_],_=>rfl),
  Cv X G Yb (λ_ _ _ _ _ _ us hl=>match us,hl with |[_,_,_],_=>rfl),
  Cv X G Yi (λ_ _ _ _ _ _ us hl=>match us,hl with |[_,_,_,_],_=>rfl),
  Cv X G Zv (λ_ _ _ _ _ _ us hl=>match us,hl with |[_,_,_,_,_],_=>rfl),
  Cv X G Zz (λ_ _ _ _ _ _ us hl=>match us,hl with |[_,_],_=>rfl),
  Cv X G Eo (λ_ _ _ _ _ _ us hl=>match us,hl with |[_,_,_],_=>rfl),
  Cv X G Vl (λ_ _ _ _ _ _ us hl=>match us,hl with |[_],_=>rfl),
  Cv X G Yw (λ_ _ _ _ _ _ us hl=>match us,hl with |[_],_=>rfl),
  Cv X G V9 (λ_ _ _ _ _ _ us hl=>match us,hl with |[_,_],_=>rfl),
  Cv X G W6 (λ_ _ _ _ _ _ us hl=>match us,hl with |[_,_],_=>rfl),
  Cv X G Vo (λ_ _ _ _ _ _ us hl=>match us,hl with |[_,_],_=>rfl),
  Cv X G Ym (λ_ _ _ _ _ _ us hl=>match us,hl with |[_],_=>rfl),
  Cv X G Va (λ_ _ _ _ _ _ us hl=>match us,hl with |[_,_],_=>rfl),
  Cv X G Vi (λ_ _ _ _ _ _ us hl=>match us,hl with |[_,_,_],_=>rfl),
  Cv X G Wf (λ_ _ _ _ _ _ us hl=>match us,hl with |[_],_=>rfl),
  Cv X G Qa (λ_ _ _ _ _ _ us hl=>match us,hl with |[_,_],_=>rfl),
  Cv X G U3 (λ_ _ _ _ _ _ us hl=>match us,hl with |[_],_=>rfl),
  Cv X G Wk (λ_ _ _ _ _ _ us hl=>match us,hl with |[_,_,_],_=>rfl),
  Cv X G Tp (λ_ _ _ _ _ _ us hl=>match us,hl with |[_,_,_],_=>rfl),
  Cv X G Yk (λ_ _ _ _ _ _ us hl=>match us,hl with |[_,_],_=>rfl),
  Cv X G Vb (λ_ _ _ _ _ _ us hl=>match us,hl with |[_,_,_,_,_],_=>rfl),
  Cv X G Zo (λ_ _ _ _ _ _ us hl=>match us,hl with |[_,_,_,_,_],_=>rfl),
  Cv X G Wo (λ_ _ _ _ _ _ us hl=>match us,hl with |[_,_,_],_=>rfl),
  Cv X G ZAW (λ_ _ _ _ _ _ us hl=>match us,hl with |[_,_,_,_],_=>rfl),
  Cv X G We (λ_ _ _ _ _ _ us hl=>match us,hl with |[_,_,_,_],_=>rfl),
  Cv X G V2 (λ_ _ _ _ _ _ us hl=>match us,hl with |[_],_=>rfl),
  PySem.W.mg_none_of X G ZRE,
  PySem.W.mg_none_of X G ZRF,
  PySem.W.mg_none_of X G ZRG,
  PySem.W.mg_none_of X G ZRH,
  PySem.W.mg_none_of X G ZRI,
  PySem.W.mg_none_of X G ZRJ,
  PySem.W.mg_none_of X G ZRK,
  PySem.W.mg_none_of X G ZRL,
  PySem.W.mg_none_of X G ZRM,
  PySem.W.mg_none_of X G ZRN,
  PySem.W.mg_none_of X G ZRO,
  PySem.W.mg_none_of X G ZRP,
  PySem.W.mg_none_of X G ZRQ,
  PySem.W.mg_of X G Zt,
  PySem.W.mg_of X G ZCo,
  PySem.W.mg_of X G Y9,
  PySem.W.mg_of X G Uq,
  PySem.W.mg_of X G ZFG,
  PySem.W.mg_of X G ZB8,
  PySem.W.mg_of X G Q9,
  PySem.W.mg_of X G ZEU,
  PySem.W.mg_of X G Vm,
  PySem.W.mg_of X G Qx,
  PySem.W.mg_of X G ZBH,
  PySem.W.mg_of X G Zu,
  PySem.W.mg_of X G ZDt,
  PySem.W.mg_of X G ZBF,
  PySem.W.mg_of X G ZCc,
  PySem.W.mg_of X G Z9,
  PySem.W.mg_of X G Xb,
  Rn Xr (λ_ _ _ _ _ _ us hl=>match us,hl with |[_,_],_=>rfl),
  Rn Vd (λ_ _ _ _ _ _ us hl=>match us,hl with |[_,_],_=>rfl),
  Rn V8 (λ_ _ _ _ _ _ us hl=>match us,hl with |[_,_],_=>rfl),
  Rn Xx (λ_ _ _ _ _ _ us hl=>match us,hl with |[_,_],_=>rfl),
  Rn ZAK (λ_ _ _ _ _ _ us hl=>match us,hl with |[_,_],_=>rfl),
  Uo X G Er,
  Uo X G Ew,
  Uo X G Ex,
  Uo X G Ey,
  Uo X G Eu,
  ZLk X G Fv,
  ZNR X G Ot,
  Ih X G ZDr,
  Ih X G ZDL,
  Ih X G ZFI,
  Ih X G ZCG,
  Ih X G ZBS,
  Ih X G ZBc,
  Ih X G ZDX,
  Ih X G ZDn,
  Ih X G ZCz,
  Ih X G ZCb,
  Ih X G ZEs,
  Ih X G ZCX,
  Ih X G ZCm,
  Ih X G ZEn,
  ZEr,
  ZEq,
  ZBQ,
  ZBl,
  ZAp,
  ZCW,
  ZFB,
  ZAe,
  ZEz,
  ZBG,
  ZBb,
  ZCu,
  ZDZ,
  ZBN,
  ZCQ,
  ZBa,
  ZD6,
  ZEo,
  ZD7,
  ZDI,
  ZBj,
  ZCI,
  ZCt,
  ZDk,
  ZBk,
  ZAv,
  ZCE,
  ZEW,
  ZDv,
  ZAd,
  ZDf,
  ZDV,
  ZC0,
  ZA2,
  ZAs,
  ZCy,
  ZBU,
  ZDj,
  ZFJ,
  ZFE,
  ZEL,
  ZBA,
  ZE8,
  ZBd,
  ZBW,
  ZCL,
  ZAo,
  ZCe,
  ZCd,
  ZBR,
  ZBq,
  ZC4,
  ZCN,
  ZDd,
  ZDe,
  ZCC,
  ZC9,
  ZEQ,
  ZC8,
  ZEd,
  ZEt,
  ZDi,
  ZCM,
  ZEV,
  ZDN,
  ZEH,
  ZE6,
  ZDH,
  ZBL,
  ZB9,
  ZCn,
  ZCT,
  ZBm,
  ZCw,
  ZDM,
  ZFM,
  ZCk,
  ZCi,
  ZDc,
  ZBn,
  ZCl,
  ZEJ,
  ZD0,
  ZDD,
  ZDu,
  ZDK,
  ZBY,
  ZAl,
  ZBD,
  ZE9⟩
 have eL:mg "law"=vZ (.ref (Ab K "law")):=PySem.W.mg_of X G V2.1;obtain rfl:fa=Ab K "law":=by rw[hfa]at eL;cases eL;rfl
 exact⟨_,λs v=>ZJv (T4 V2.2),λbase _ _=>ZQD T⟩
theorem walk{l:PySem.W.OpenLaw}{q:jI}{loose:List Str}{XP:(Str->Option jO)->Heap->Prop}{YP:jP->Heap->Prop}{d:DefRec}{K:jP->PySem.W.Frag}(hn:l.most=vZ 63)(hdf:d.params.defaults=[])(HH:Holds)
  (hY:∀(w:jP)(h:Heap),YP w h->(K w).In h)
  (F:∀(w:jP)(mg:Str->Option jO)(fa:jD)(h:Heap),(K w).In h->h.Ns x9 mg->mg d.name=vZ (.ref fa)->
   ∃fd:jG,(∀(s:jM)(u:jO),BindsTo s fd ⟨[u],[]⟩ [("_law_script",u)])/\∀base:Heap,(K w).In base->base.Ns x9 mg->FnOk l.prog w (K w) mg base CX0 6 fa fd ["_law_script"] (lF (K w) Qf)):
  PySem.W.WalkO q loose XP YP l.row.toRowW d [] (λf vs=>PySem.call f vs):=
 ZOM (n:=63) (k:=6) (x:="_law_script") (CX:=λ_=>CX0) (sp:=λw=>lF (K w) Qf) hn (by decide) hdf ⟨rfl,by decide,by decide⟩ hY F
  (λw H a ns hl hbt hO hS=>by
   obtain⟨G,hG⟩:=HH ns hl hbt;refine⟨⟨K w,0,λ_=>0,H⟩,[],[.fl (ns.map D.int)],rfl,rfl,⟨rfl,λi j h=>absurd h (Nat.not_lt_zero _),λi o h=>by simp at h,λi h=>absurd h (Nat.not_lt_zero _)⟩,Reps.cons ⟨a,ns.map V.int,rfl,?_,Reps.ints ns⟩ Reps.nil,?_⟩
   ·rcases hS with(hS|hS)|hS
    ·rcases hO a with z|⟨o,xs,z⟩
     ·rw[z]at hS;cases hS
     ·rw[z]at hS;cases hS
    ·exact .inl hS
    ·exact .inr hS
   ·rw[hG];exact λb v _ _ r=>r) λ_ _ _ _ _ z=>z
end _W
set_option maxRecDepth 100000
namespace _W
open PySem PySem.W _L _D
theorem ZID:∀w,(openEnds xF pw w 100000).map (λs=>(openSeen vw [] (xW pw.main.body) (XtOf rw_ vw) vX s,ZCO asks s.heap))=vZ (openGood vw [],ZAq asks):=ZOj (by kernel_rfl) (λs=>rfl) ZLC
theorem well:rw_.wellSaid=vX:=ZOF (by kernel_rfl)
theorem hdef:defOf vw rw_.row.name=vZ (dOf Je,[]):=by kernel_rfl
theorem hp:rw_.row.prog.theDef rw_.row.name=vZ ((dOf Je).params,(dOf Je).body,(dOf Je).scope):=by kernel_rfl
theorem hk:kwWritten? (dOf Je).params.kwonlyargs (dOf Je).params.kw_defaults=vZ []:=by kernel_rfl
theorem hok:(chainsOk vw&&opensWell rw_.row.prog&&(frees rw_.row.toRowW&&rw_.row.within.isEmpty))=vX:=by kernel_rfl
theorem hdf:(dOf Je).params.defaults=[]:=by kernel_rfl
theorem hbare:rw_.row.prog.bare:=⟨rfl,rfl,rfl,rfl,rfl,by decide +kernel⟩
theorem hw:rw_.row.toRowW.promised:=by w_witness2
theorem walked:WalkO vw [] (XL vw []) (Stays rw_.prog 100000) rw_.row.toRowW (dOf Je) [] λf vs=>PySem.call f vs:=
 walk (l:=rw_) (K:=λw=>Te (Mj pw 100000 w)) rfl hdf holds (λw h Y=>Y.in) λw mg fa h KX G hmg=>all_mk KX G (show mg "law"=_ from hmg) (ZHR (ZM2 ZID w))
end _W
open PySem PySem.W PyProof.Rows _D
theorem PySem.Challenge.cw_sluiceway_k04_whole_the_first_refusal_holds : PySem.Challenge.rw_sluiceway_k04_whole_the_first_refusal.Holds := by
 refine holds_top (l:=_W.rw_) (q:=_W.vw) (loose:=[]) (N:=100000) (see:=ZCO _W.asks) (val:=ZAq _W.asks) (d:=dOf _W.Je) ?_ ?_ ?_ ?_ ?_ ?_ ?_ ?_ ?_ ?_
 ·exact _W.well
 ·exact _W.ZID
 ·exact _W.hdef
 ·exact _W.hp
 ·exact _W.hk
 ·rfl
 ·exact _W.hok
 ·exact _W.hbare
 ·exact _W.hw
 ·exact _W.walked
